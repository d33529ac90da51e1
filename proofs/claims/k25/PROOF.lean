import PyProof.Rows.All
import Wide.All
import OpenK.AllK
import Wide.FinOn
import PyProof.ReprReads
import PyProof.ReprRoads
import PyProof.StrOps2
import HandS.ForMost
import HandS.Walk
import HandS.Style
import HandS.TupAny
import HandS.EndBits
import HandS.IsInst
import HandS.Gcd
import HandS.Wide
import HandS.Zip
import HandS.ForExc
import HandS.ExcInit
import KE.KExcIs
import HandS.ExcIs
import HandS.ExcField
import HandS.Deep
import HandS.FStrTup
import KE.GoesEnum
import HandS.Iter
import HandS.Dict
import HandS.SetKeys
import PyProof.DictMoreH
import KE.KDictWalk
import HandS.SetFor
import HandS.Strs
import HandS.Conv
import HandS.TupMul
import HandS.DictComp
import HandS.RevRange
import PyProof.WalksMore
import HandS.RaiseMore
import HandS.Flow
import HandS.EndTab
import PyProof.ReprLen
import HandS.TupSets
import HandS.TupLe
import HandS.SortOrd
import PyProof.SetRoads
import HandS.List
import PyProof.Rows.SortStr
import HandS.OwnEq
import HandS.TryOnly
import HandS.Codes
import HandS.Defaults
import KE.GoesNew
import KE.KeyNested
import KE.SortData
import KE.KDictKeyed
import PyProof.DictRoadsH
import HandS.NoneIn
import PySem.Challenge.RW_centsatonce_k25_whole_one_whole_is_alway
set_option Elab.async false
set_option linter.all false
set_option maxRecDepth 100000
set_option maxHeartbeats 8000000
set_option exponentiation.threshold 10000
namespace CK
end CK
namespace FR
end FR
namespace HD
end HD
namespace K2
end K2
namespace L2
end L2
namespace M2
end M2
namespace M24
end M24
namespace M9
end M9
namespace PyProof.Rows
end PyProof.Rows
namespace TU
end TU
namespace VG
end VG
namespace VG
open PySem PySem.Spec PyProof.Rows L2
/-- the tuple at a and the list at b as they stand at each turn, the items in new pairs -/
def ItzM (K : PySem.W.Frag) (a b : Addr) : It :=
  ⟨fun i H => ∃ (xs ys : List V) (x y : V), SqT K H a xs ∧ SqL K H b ys ∧ xs[i]? = some x ∧ ys[i]? = some y,
    fun i H v H' => ∃ T x y, v = .ref T ∧ H T = none ∧ H' = upd H T (.tup [x, y]) ∧ (∀ xs, SqT K H a xs → xs[i]? = some x) ∧ ∀ ys, SqL K H b ys → ys[i]? = some y,
    fun i H => ∃ xs ys : List V, SqT K H a xs ∧ SqL K H b ys ∧ xs.length = ys.length ∧ xs.length = i⟩
theorem turn_zipM {P : Program} {w : World} {K : PySem.W.Frag} {elts : List Expr} {kk : Nat} {tpos : Pos} {a b z TI TO i1 i2 : Addr} (S : ZipSep2 z TI TO i1 i2 [i1, a] [i2, b]) (n1 : a ≠ i1) (n2 : b ≠ i2) :
    Turn P w K (.Tuple elts kk tpos) (ItzM K a b) [z, TI, TO, i1, i2] z (fun i h => IsZip h z TI TO .none ∧ IsTupOf2 h TI (.ref i1) (.ref i2) ∧ (∃ x y, IsTupOf2 h TO x y) ∧ h.IsTupleIter i1 a i ∧ h.IsListIter i2 b i) where
  mem := by simp
  obj := fun i h st c hc => by
    obtain ⟨hz, hTI, ⟨x, y, hTO⟩, ⟨o1, e1, _, d1⟩, ⟨o2, e2, _, d2⟩⟩ := st
    have e' : c = z ∨ c = TI ∨ c = TO ∨ c = i1 ∨ c = i2 := by simpa using hc
    rcases e' with q | q | q | q | q
    · rw [q]; exact ⟨_, hz, fun v q => nomatch q⟩
    · rw [q]; exact ⟨_, hTI, fun v q => nomatch q⟩
    · rw [q]; exact ⟨_, hTO, fun v q => nomatch q⟩
    · rw [q]; exact ⟨o1, e1, fun v q => by rw [d1] at q; cases q⟩
    · rw [q]; exact ⟨o2, e2, fun v q => by rw [d2] at q; cases q⟩
  keep := fun i h h' st k => by
    obtain ⟨hz, hTI, ⟨x, y, hTO⟩, h1, h2⟩ := st
    exact ⟨k z (by simp) _ hz, k TI (by simp) _ hTI, ⟨x, y, k TO (by simp) _ hTO⟩, h1.at fun o q => k i1 (by simp) o q, h2.at fun o q => k i2 (by simp) o q⟩
  item := by
    intro X hP hw hK hc i pins s σ H E I hf st hg
    subst hP hw hK
    obtain ⟨hz, hTI, hTO, h1, h2⟩ := st
    obtain ⟨xs, ys, x, y, hqx, hqy, hx, hy⟩ := hg
    obtain ⟨its, rv, p, _⟩ := I.tuple hqx
    obtain ⟨its2, rv2, p2, _⟩ := I.list hqy
    obtain ⟨u, hu, ru⟩ := rv.get hx
    obtain ⟨u2, hu2, ru2⟩ := rv2.get hy
    have hd := I.ok.hd hc
    have l1 := (List.getElem?_eq_some_iff.mp hu).1
    have l2 := (List.getElem?_eq_some_iff.mp hu2).1
    have W := GoesN.zip2 (elts := elts) (x1 := kk) (pos := tpos) S (Draws.tuple (prog := X.prog) (w := X.w) (A := X.A.in1) (show X.A.in1.handled = none from hd) i1 a n1 its.toArray) (Draws.list (show X.A.in1.handled = none from hd) i2 b n2 its2.toArray)
    have lv : ∀ c ∈ [z, TI, TO, i1, i2], c < s.heap.objs.size := fun c hcm => by
      have e' : c = z ∨ c = TI ∨ c = TO ∨ c = i1 ∨ c = i2 := by simpa using hcm
      obtain ⟨_, _, hTO'⟩ := hTO
      rcases e' with q | q | q | q | q
      · rw [q]; exact Heap.lt_size hz
      · rw [q]; exact Heap.lt_size hTI
      · rw [q]; exact Heap.lt_size hTO'
      · rw [q]; obtain ⟨_, e1, _⟩ := h1; exact Heap.lt_size e1
      · rw [q]; obtain ⟨_, e2, _⟩ := h2; exact Heap.lt_size e2
    refine wpAny_mono (W.goes i s (fun v s2 => ∃ x H', Inv X pins σ H' s2 ∧ RelV x v ∧ (ItzM X.K a b).yld i H x H' ∧ (IsZip s2.heap z TI TO .none ∧ IsTupOf2 s2.heap TI (.ref i1) (.ref i2) ∧ (∃ x y, IsTupOf2 s2.heap TO x y) ∧ s2.heap.IsTupleIter i1 a (i + 1) ∧ s2.heap.IsListIter i2 b (i + 1)) ∧ ∀ c ∈ [z, TI, TO, i1, i2], H' c = none) E (by simp; omega) ⟨hz, hTI, hTO, ⟨h1, p⟩, ⟨h2, p2.isList⟩⟩ fun v h' tk hY st' hk htk => ?_) (fun r s1 q => q) fun _ _ q => q
    obtain ⟨T, v1, v2, rfl, hn, e1, e2, hT⟩ := hY
    have e1' : v1 = u := by
      have a1 : its[i]? = some v1 := by simpa using e1
      rw [hu] at a1
      exact (Option.some.inj a1).symm
    have e2' : v2 = u2 := by
      have a1 : its2[i]? = some v2 := by simpa using e2
      rw [hu2] at a1
      exact (Option.some.inj a1).symm
    subst e1' e2'
    have new : ObjOk X.prog X.w (upd H T (.tup [x, y])) h' T (.tup [x, y]) := ⟨by show 2 ≤ sizeLine; decide, [v1, v2], .cons ru (.cons ru2 .nil), hT⟩
    have I1 : Inv X pins σ (upd H T (.tup [x, y])) { s with heap := h', toks := tk } :=
      I.turnedNew (ch := [z, TI, TO, i1, i2]) (fun c o hb q => hk c o (fun z => hb (by simp only [List.mem_cons, List.not_mem_nil, or_false] at z ⊢; rcases z with z | z | z | z <;> simp [z])) q) hf hn new
    obtain ⟨g1, g2, g3, g4, g5⟩ := st'
    refine ⟨.ref T, _, I1, rfl, ⟨T, x, y, rfl, I.hok.fresh hn, rfl, fun l hl => by rw [I.tuple_inj hl hqx]; exact hx, fun l hl => by rw [I.list_inj hl hqy]; exact hy⟩, ⟨g1, g2, g3, g4.1, g5.1⟩, fun c hcm => ?_⟩
    have hlt := lv c hcm
    rw [upd_ne (by have : c < T := Nat.lt_of_lt_of_le hlt hn; exact Nat.ne_of_lt this)]
    exact (hf c hcm).1
  done := by
    intro X hP hw hK hc i pins s σ H E I hf st hg
    subst hP hw hK
    obtain ⟨hz, hTI, hTO, h1, h2⟩ := st
    obtain ⟨xs, ys, hqx, hqy, hl, rfl⟩ := hg
    obtain ⟨its, rv, p, _⟩ := I.tuple hqx
    obtain ⟨its2, rv2, p2, _⟩ := I.list hqy
    have hd := I.ok.hd hc
    have l1 := rv.length
    have l2 := rv2.length
    have W := GoesN.zip2 (elts := elts) (x1 := kk) (pos := tpos) S (Draws.tuple (prog := X.prog) (w := X.w) (A := X.A.in1) (show X.A.in1.handled = none from hd) i1 a n1 its.toArray) (Draws.list (show X.A.in1.handled = none from hd) i2 b n2 its2.toArray)
    have em : min its.toArray.size its2.toArray.size = xs.length := by
      simp
      omega
    refine W.stops s (fun s1 => Inv X pins σ H s1) E (by rw [em]; exact ⟨hz, hTI, hTO, ⟨h1, p⟩, ⟨h2, p2.isList⟩⟩) fun h' tk hk htk => ?_
    exact I.turnedL (t' := tk) (ch := [z, TI, TO, i1, i2]) (fun c o hb q => hk c o (fun z => hb (by simp only [List.mem_cons, List.not_mem_nil, or_false] at z ⊢; rcases z with z | z | z | z <;> simp [z])) q) hf
  self := fun A i s Q E st h => wpAny_pyIter_zip st.1 h
def iZipM (K : PySem.W.Frag) (ta : TA) : TI := fun σ H R => ta σ H fun vs H1 => ∃ a b xs ys, vs = [.ref a, .ref b] ∧ SqT K H1 a xs ∧ SqL K H1 b ys ∧ R (ItzM K a b) H1
theorem pi_zipM {X : Cx} {e e2 : Expr} {ta : TA} {p pos tpos : Pos} {elts : List Expr} {kk : Nat} (hg : Gl X "zip") (hm : X.mg "zip" = none) (ha : PA X [e, e2] ta)
    (hs : starEach [e, e2] X.env = (false, eval e X.env) :: starEach [e2] X.env := by rfl) (hpl : (backTo pos (starEach [e2] X.env)).any (·.1) = false := by rfl) :
    PI X (.Tuple elts kk tpos) (.Call (.Name "zip" p) [e, e2] [] pos) (iZipM X.K ta) := by
  refine ⟨fun pins s σ H R I h => ?_⟩
  refine Call_ (ld_blt I hg hm PyProof.Rows.boot_zip (PyProof.Rows.callWith_type1 (thn (ha.run pos pins s σ H _ I h) fun us s1 ⟨vs, H1, I1, r1, q1⟩ => ?_) hs hpl))
  obtain ⟨a, b, xs, ys, ex, hqx, hqy, q⟩ := q1
  subst ex
  cases r1 with
  | cons r rr =>
    cases rr with
    | cons r' rr =>
      cases rr
      cases r
      cases r'
      obtain ⟨its, rv, p1, _⟩ := I1.tuple hqx
      obtain ⟨its2, rv2, p2, _⟩ := I1.list hqy
      have la : a < s1.heap.objs.size := by obtain ⟨_, e, _⟩ := id p1; exact Heap.lt_size e
      have lb : b < s1.heap.objs.size := p2.lt
      refine zip_begins2 (begins_tuple a its.toArray) (begins_list b its2.toArray) p1 p2.isList fun h' hz hTI hTO h1 h2 hsz hk => wpAny_pyIter_zip hz ?_
      have I2 : Inv X pins σ H1 { s1 with heap := h' } := I1.kept (t' := s1.toks) hk
      refine ⟨s1.heap.objs.size + 4, [s1.heap.objs.size + 4, s1.heap.objs.size + 2, s1.heap.objs.size + 3, s1.heap.objs.size, s1.heap.objs.size + 1], _, _, H1, rfl, I2, turn_zipM (zip_sep2 (fp1 := [a]) (fp2 := [b]) (fun c hc => by rw [List.mem_singleton.mp hc]; exact la) (fun c hc => by rw [List.mem_singleton.mp hc]; exact lb)) (Nat.ne_of_lt la) (Nat.ne_of_lt (Nat.lt_succ_of_lt lb)), ⟨hz, hTI, ⟨_, _, hTO⟩, ⟨_, h1, rfl, rfl⟩, ⟨_, h2, rfl, rfl⟩⟩, fun c hcm => ?_, q⟩
      have e' : c = s1.heap.objs.size + 4 ∨ c = s1.heap.objs.size + 2 ∨ c = s1.heap.objs.size + 3 ∨ c = s1.heap.objs.size ∨ c = s1.heap.objs.size + 1 := by simpa using hcm
      have hle : s1.heap.objs.size ≤ c := by
        rcases e' with z | z | z | z | z
        · rw [z]; exact Nat.le_add_right _ _
        · rw [z]; exact Nat.le_add_right _ _
        · rw [z]; exact Nat.le_add_right _ _
        · rw [z]; exact Nat.le_refl _
        · rw [z]; exact Nat.le_add_right _ _
      exact I1.fpOk hle (I1.hok.fresh hle)
theorem walk_zipM {K : PySem.W.Frag} {a b : Addr} {xs ys : List V} (hl : xs.length = ys.length) : Walk (ItzM K a b) xs.length (fun H => SqT K H a xs ∧ SqL K H b ys) (YPair (fun i => xs[i]?) (fun i => ys[i]?)) := by
  constructor
  · intro i H hi hG
    have h1 : i < xs.length := hi
    have h2 : i < ys.length := by omega
    exact ⟨xs, ys, xs[i], ys[i], hG.1, hG.2, List.getElem?_eq_getElem h1, List.getElem?_eq_getElem h2⟩
  · intro H hG
    exact ⟨xs, ys, hG.1, hG.2, hl, rfl⟩
  · intro i H v H' hi hG hy
    obtain ⟨T, x, y, e1, e2, e3, e4, e5⟩ := hy
    exact ⟨T, x, y, e1, e2, e3, e4 xs hG.1, e5 ys hG.2⟩
end VG
namespace VG
open PySem PySem.Spec PyProof.Rows L2
theorem meets_enum1 {v : Value} {o : Obj} {H : Heap → Prop} (B : Begins v o H) :
    Meets (Builtin.«enumerate.__new__» ⟨[.type "enumerate", v], []⟩) (fun _ R s => H s.heap ∧
      R (.ok (.ret (.ref (s.heap.push o).objs.size))) { s with heap := (s.heap.push o).push { cls := .type "enumerate", data := .fields #[.none, .bool false, .ref s.heap.objs.size, rawInt 0, .none, .none] } }) :=
  .of_wp fun prog w A R s h => by
    obtain ⟨hp, g, d, tk, os⟩ := s
    obtain ⟨h1, h⟩ := h
    have hsub := sub_enumerate
    have it1 : ∀ {A' : Around} {E : Value → Shared → Prop} {Q : Value → Shared → Prop}, Q (.ref hp.objs.size) ⟨hp.push o, g, d, tk, os⟩ → wpAny (model prog w) A' (pyIter v) Q E ⟨hp, g, d, tk, os⟩ :=
      fun q => B.iter prog w _ _ ⟨hp, g, d, tk, os⟩ _ h1 q
    wp_walk using it1
    refine wpAny_stack_any fun st => wpAny_pure ?_
    split
    · rename_i c _ _ _ _ _
      cases (c == Value.type "enumerate")
      · wp_walk using it1
        exact ⟨_, rfl, h⟩
      · wp_walk using it1
        exact ⟨_, rfl, h⟩
    · wp_walk using it1
      exact ⟨_, rfl, h⟩
section
variable {prog : Program} {w : World} {A : Around} {E : Value → Shared → Prop} {s : Shared}
theorem enum1 {v : Value} {o : Obj} {H : Heap → Prop} {Q : Value → Shared → Prop} (B : Begins v o H) (h1 : H s.heap)
    (h : ∀ h', IsEnum h' (s.heap.objs.size + 1) s.heap.objs.size 0 .none → h'.get? s.heap.objs.size = some o → (∀ b o, s.heap.get? b = some o → h'.get? b = some o) → Q (.ref (s.heap.objs.size + 1)) { s with heap := h' }) :
    wpAny (model prog w) A (call (.type "enumerate") [v]) Q E s := by
  refine callType_new F.called_enumerate (by decide) (F.typeCall_enumerate_1 _) (F.newCall_enumerate_1 _) (fun obj => F.args_object_init_2 obj _) F.entry_enumerate_new (meets_enum1 B) ⟨h1, ?_⟩
  have hz : (s.heap.push o).objs.size = s.heap.objs.size + 1 := Heap.size_push ..
  show _ ∧ _
  rw [hz]
  have he : IsEnum ((s.heap.push o).push { cls := .type "enumerate", data := .fields #[.none, .bool false, .ref s.heap.objs.size, rawInt 0, .none, .none] }) (s.heap.objs.size + 1) s.heap.objs.size 0 .none := by
    have q := Heap.get?_push_size (s.heap.push o) (o := { cls := .type "enumerate", data := .fields #[.none, .bool false, .ref s.heap.objs.size, rawInt 0, .none, .none] }) rfl
    rw [hz] at q
    exact q
  exact ⟨⟨_, he, rfl⟩, h _ he (Heap.get?_push_of_some _ (Heap.get?_push_size _ B.free)) fun b o x => Heap.get?_push_of_some _ (Heap.get?_push_of_some _ x)⟩
end
/-- the tuple at a, each item in a new pair behind its index -/
def IteT (K : PySem.W.Frag) (a : Addr) : It :=
  ⟨fun i H => ∃ (xs : List V) (x : V), SqT K H a xs ∧ xs[i]? = some x, fun i H v H' => ∃ T x, v = .ref T ∧ H T = none ∧ H' = upd H T (.tup [.int (i : Nat), x]) ∧ ∀ xs, SqT K H a xs → xs[i]? = some x, fun i H => ∃ xs : List V, SqT K H a xs ∧ xs.length ≤ i⟩
theorem turn_enumT {P : Program} {w : World} {K : PySem.W.Frag} {elts : List Expr} {kk : Nat} {tpos : Pos} (a e it : Addr) :
    Turn P w K (.Tuple elts kk tpos) (IteT K a) [e, it] e (fun i h => (∃ old, IsEnum h e it ((i : Nat) : Int) old) ∧ h.IsTupleIter it a i ∧ e ≠ it ∧ a ≠ it ∧ e ≠ a) where
  mem := by simp
  obj := fun i h st b hb => by
    obtain ⟨⟨old, he⟩, ⟨o, ho, hc, hd⟩, _⟩ := st
    have e' : b = e ∨ b = it := by simpa using hb
    rcases e' with z | z
    · subst z
      exact ⟨_, he, fun v q => nomatch q⟩
    · subst z
      exact ⟨o, ho, fun v q => by rw [hd] at q; cases q⟩
  keep := fun i h h' st k => let ⟨⟨old, he⟩, hi, r⟩ := st; ⟨⟨old, k e (by simp) _ he⟩, hi.at fun o q => k it (by simp) o q, r⟩
  item := by
    intro X hP hw hK hc i pins s σ H E I hf st hg
    subst hP hw hK
    obtain ⟨⟨old, he⟩, hit, hne, hai, hea⟩ := st
    obtain ⟨xs, x, hq, hx⟩ := hg
    obtain ⟨its, rv, p, hz⟩ := I.tuple hq
    obtain ⟨u, hu, ru⟩ := rv.get hx
    have hel : e < s.heap.objs.size := Heap.lt_size he
    have hil : it < s.heap.objs.size := by obtain ⟨_, q, _⟩ := hit; exact Heap.lt_size q
    have hd := I.ok.hd hc
    have hlt : i < its.toArray.size := by
      have := (List.getElem?_eq_some_iff.mp hu).1
      simpa using this
    have st0 : s.heap.IsTupleIter it a i ∧ s.heap.IsTuple a its.toArray := ⟨hit, p⟩
    have nin : e ∉ [it, a] := fun z => by
      rcases List.mem_cons.mp z with z | z
      · exact hne z
      · exact hea (List.mem_singleton.mp z)
    refine wpAny_pyNext_enum_itemD (fp := [it, a]) (n := its.toArray.size) (P := fun i v => its.toArray[i]? = some v) (St := fun i h => h.IsTupleIter it a i ∧ h.IsTuple a its.toArray) (Draws.tuple (A := X.A.in1) (show X.A.in1.handled = none from hd) it a hai its.toArray) he st0 hlt hne nin fun u' h' tk hP' ho st' hT hsz hk => ?_
    have eu : u' = u := by
      have h1 : its.toArray[i]? = some u' := hP'
      have h2 : its.toArray[i]? = some u := by simpa using hu
      rw [h1] at h2
      exact Option.some.inj h2
    subst eu
    refine ⟨_, rfl, wpAny_letOwnedTupleGo_enum (s := { s with heap := h', toks := tk + 1 }) ho fun h'' he' sb => ?_⟩
    have hT2 : h''.get? s.heap.objs.size = some { cls := .type "tuple", data := .seq #[.int i tk, u'] } := (sb.2 _ (Nat.ne_of_gt hel)).trans hT
    have new : ObjOk X.prog X.w (upd H s.heap.objs.size (.tup [.int (i : Nat), x])) h'' s.heap.objs.size (.tup [.int (i : Nat), x]) :=
      ⟨by show 2 ≤ sizeLine; decide, [.int i tk, u'], .cons ⟨_, rfl⟩ (.cons ru .nil), ⟨_, hT2, rfl, _, rfl⟩⟩
    have I1 : Inv X pins σ (upd H s.heap.objs.size (.tup [.int (i : Nat), x])) { s with heap := h'', toks := tk + 1 } :=
      I.turnedNew (ch := [e, it]) (fun b ob hb q => (sb.2 b (fun z => hb (by simp [z]))).trans (hk b ob (fun z => hb (by simp [z])) (fun z => hb (by simp [z])) q)) hf (Nat.le_refl _) new
    refine ⟨.ref s.heap.objs.size, _, I1, rfl, ⟨_, x, rfl, I.hok.fresh (Nat.le_refl _), rfl, fun ys hy => by rw [I.tuple_inj hy hq]; exact hx⟩, ⟨⟨u', ?_⟩, st'.1.at fun o q => (sb.2 it (Ne.symm hne)).trans q, hne, hai, hea⟩, fun b hb => ?_⟩
    · have e1 : ((i + 1 : Nat) : Int) = (i : Int) + 1 := by omega
      rw [e1]
      exact he'
    · have hb' : b < s.heap.objs.size := by
        have e' : b = e ∨ b = it := by simpa using hb
        rcases e' with z | z
        · rw [z]; exact hel
        · rw [z]; exact hil
      rw [upd_ne (Nat.ne_of_lt hb')]
      exact (hf b hb).1
  done := by
    intro X hP hw hK hc i pins s σ H E I hf st hg
    subst hP hw hK
    obtain ⟨⟨old, he⟩, hit, hne, hai, hea⟩ := st
    obtain ⟨xs, hq, hx⟩ := hg
    obtain ⟨its, rv, p, hz⟩ := I.tuple hq
    obtain ⟨f0, f1, f2, f3, f4, f5⟩ := hf it (by simp)
    have hl := rv.length
    have hT : s.TypeIs (.ref e) "enumerate" := ⟨_, he, rfl⟩
    unfold pyNext
    refine wpAny_bind (wpAny_attempt (wpAny_callSpecial?_slot (name := Str.ofString "__next__") hT F.slot_enumerate_next (wpAny_call_entry F.slot_enumerate_next hT F.entry_enumerate_next ?_ (F.args_enumerate_next_1 _))))
    show wpAny _ _ (field (.ref e) 2 >>= _) _ _ _
    refine wpAny_bind (wpAny_field he rfl (x := .ref it) rfl ?_)
    refine wpAny_bind (wpAny_nextOf_tuple_end (I.ok.hd hc) hit p (by simp; omega) fun h' x' he' hx' => ?_)
    obtain ⟨o, ho, hc'⟩ := hx'
    refine wpAny_bind (wpAny_isInstance (T := "StopIteration") (b := true) ⟨o, ho, hc'⟩ isSubtype_stop ?_)
    exact wpAny_pure ⟨rfl, I.turned (t' := s.toks) (fun b o hb q => he' b o hb q) f0 f1 f3 f4 f5⟩
  self := fun A i s Q E st h => let ⟨⟨_, he⟩, _⟩ := st; wpAny_pyIter_enum he h
def iEnumT (K : PySem.W.Frag) (ta : TA) : TI := fun σ H R => ta σ H fun vs H1 => ∃ a xs, vs = [.ref a] ∧ SqT K H1 a xs ∧ R (IteT K a) H1
theorem pi_enumT {X : Cx} {e : Expr} {ta : TA} {p pos tpos : Pos} {elts : List Expr} {kk : Nat} (hg : Gl X "enumerate") (hm : X.mg "enumerate" = none) (ha : PA X [e] ta) (hs : starEach [e] X.env = [(false, eval e X.env)] := by rfl) :
    PI X (.Tuple elts kk tpos) (.Call (.Name "enumerate" p) [e] [] pos) (iEnumT X.K ta) := by
  refine ⟨fun pins s σ H R I h => ?_⟩
  refine Call_ (ld_blt I hg hm boot_enumerate (PyProof.Rows.callWith_type1 (thn (ha.run pos pins s σ H _ I h) fun us s1 ⟨vs, H1, I1, r1, q1⟩ => ?_) hs rfl))
  obtain ⟨a, xs, rfl, hq, q⟩ := q1
  cases r1 with
  | cons r rr =>
    cases rr
    cases r
    obtain ⟨its, rv, p', hz⟩ := I1.tuple hq
    have hal : a < s1.heap.objs.size := by obtain ⟨_, q, _⟩ := id p'; exact Heap.lt_size q
    refine enum1 (begins_tuple a its.toArray) p' fun h' he ho hk => wpAny_pyIter_enum he ?_
    have I2 : Inv X pins σ H1 { s1 with heap := h' } := I1.kept (t' := s1.toks) hk
    refine ⟨s1.heap.objs.size + 1, [s1.heap.objs.size + 1, s1.heap.objs.size], _, _, H1, rfl, I2, turn_enumT a (s1.heap.objs.size + 1) s1.heap.objs.size, ⟨⟨.none, he⟩, ⟨_, ho, rfl, rfl⟩, Nat.succ_ne_self _, Nat.ne_of_lt hal, Nat.ne_of_gt (Nat.lt_succ_of_lt hal)⟩, fun b hb => ?_, q⟩
    have hle : s1.heap.objs.size ≤ b := by
      have e' : b = s1.heap.objs.size + 1 ∨ b = s1.heap.objs.size := by simpa using hb
      rcases e' with z | z
      · rw [z]; exact Nat.le_add_right _ _
      · rw [z]; exact Nat.le_refl _
    exact I1.fpOk hle (I1.hok.fresh hle)
theorem walk_enumT {K : PySem.W.Frag} {a : Addr} {xs : List V} : Walk (IteT K a) xs.length (fun H => SqT K H a xs) (fun i H v H' => ∃ T x, v = .ref T ∧ H T = none ∧ H' = L2.upd H T (.tup [.int (i : Nat), x]) ∧ xs[i]? = some x) := by
  constructor
  · intro i H hi hG
    exact ⟨xs, xs[i], hG, List.getElem?_eq_getElem hi⟩
  · intro H hG
    exact ⟨xs, hG, Nat.le_refl _⟩
  · intro i H v H' hi hG hy
    obtain ⟨T, x, e1, e2, e3, e4⟩ := hy
    exact ⟨T, x, e1, e2, e3, e4 xs hG⟩
end VG
namespace VG
open PySem PySem.Spec PyProof.Rows L2
section
variable {X : Cx}
/-- // by a divisor of either sign -/
def CDivS (_ j : Int) : Prop := j ≠ 0 ∧ j.natAbs.log2 < 9000
theorem op_fdivS : OpR X (binaryOp .FloorDiv) (rI CDivS fun i j => .int (i.fdiv j)) := opI fun i j _ _ _ _ _ hc q => floordiv_int hc.1 q (.inl (PyProof.noPylong_of_log2 hc.2))
theorem wide_divS {i j : Int} {b : Nat} (h : j ≠ 0) (hb : j.natAbs < 2 ^ b) (h0 : 0 < b) (h9 : b ≤ 9000) : CDivS i j := ⟨h, Nat.lt_of_lt_of_le (PySem.Flt.log2_lt_of h0 hb) h9⟩
/-- over a name that holds a list or a tuple -/
def iAnyV (K : PySem.W.Frag) (i : Nat) : TI := fun σ H R => ∃ a, σ[i]? = some (some (V.ref a)) ∧ (((∃ xs, SqL K H a xs) ∧ R (Itl K a) H) ∨ ((∃ xs, SqT K H a xs) ∧ R (Itt K a) H))
theorem pi_any {i : Nat} {x : Str} {pos p2 : Pos} {y : Str} (h : PE X (.Name x pos) (tVar i)) : PI X (.Name y p2) (.Name x pos) (iAnyV X.K i) := by
  constructor
  intro pins s σ H R I hh
  obtain ⟨a, ea, q⟩ := hh
  rcases q with ⟨w, r⟩ | ⟨w, r⟩
  · exact (pi_list h).run pins s σ H R I ⟨_, ea, a, rfl, w, r⟩
  · exact (pi_tup h).run pins s σ H R I ⟨_, ea, a, rfl, w, r⟩
end
theorem walk_zipT {K : PySem.W.Frag} {a b : Addr} {xs ys : List V} {n : Nat} (hn : n = min xs.length ys.length) : Walk (RZ.ItzT K a b) n (fun H => SqT K H a xs ∧ SqT K H b ys) (YPair (fun i => xs[i]?) (fun i => ys[i]?)) := by
  constructor
  · intro i H hi hG
    have h1 : i < xs.length := by omega
    have h2 : i < ys.length := by omega
    exact ⟨xs, ys, xs[i], ys[i], hG.1, hG.2, List.getElem?_eq_getElem h1, List.getElem?_eq_getElem h2⟩
  · intro H hG
    exact ⟨xs, ys, hG.1, hG.2, by omega⟩
  · intro i H v H' hi hG hy
    obtain ⟨T, x, y, e1, e2, e3, e4, e5⟩ := hy
    exact ⟨T, x, y, e1, e2, e3, e4 xs hG.1, e5 ys hG.2⟩
/-- a def that may let errors out, where it lets none -/
theorem fn_calm {P : Program} {w : World} {K : PySem.W.Frag} {mg : Str → Option Value} {base : Heap} {k : Nat} {f : Addr} {fd : FuncData} {ps : List Str} {sp : Sp} (F : FnOk P w K mg base (L2.CX P w) k f fd ps sp) :
    FnOk P w K mg base CX0 k f fd ps (fun vs H Q _ => sp vs H Q E0) := by
  constructor
  · intro vs H Q E h
    exact F.len vs H Q E0 h
  · intro A outer s H args us vs Q E hr e0 hb hv hs
    apply codeAny_mono (F.run A outer s H args us vs Q E0 hr e0 hb hv hs)
    intro r s' hh
    match r, hh with
    | .ok (.ret u), hh => exact hh
    | .ok .next, hh => exact hh
    | .ok .brk, hh => exact hh
    | .ok .cont, hh => exact hh
    | .error e, hh =>
      obtain ⟨_, _, _, _, _, _, _, _, _, _, _, _, h⟩ := hh
      exact h.elim
/-- what the written part says of an own error's class with an __init__ -/
structure ErrC (K : PySem.W.Frag) (mg : Str → Option Value) (x : Str) (C fI : Addr) : Prop where
  gC : mg x = some (.ref C)
  o : OexC K C
  iC : PySem.W.findIn K (.ref C) "__init__" = some (some (.ref fI))
  tI : PySem.W.typeIn K (.ref fI) = some (.type "function")
end VG
namespace HD
open PySem PySem.Spec PyProof.Rows L2 VG
def Hd (p q : Addr) (H : Hp) : Prop := ∃ (cs : List Int) (st : Int), H p = some (.lst [.ref q, .int st]) ∧ H q = some (.lst (cs.map V.int)) ∧ cs.length ≤ 63 ∧ 0 ≤ st ∧ st < 2147483647
def Keep (p q : Addr) (H H' : Hp) : Prop := ∀ b o, b ≠ p → b ≠ q → H b = some o → H' b = some o
theorem Keep.refl (p q : Addr) (H : Hp) : Keep p q H H := fun _ _ _ _ h => h
theorem Keep.trans {p q : Addr} {H H1 H2 : Hp} (a : Keep p q H H1) (b : Keep p q H1 H2) : Keep p q H H2 := fun x o n1 n2 h => b x o n1 n2 (a x o n1 n2 h)
theorem Keep.new {p q n : Addr} {o : HO} {H : Hp} (h : H n = none) : Keep p q H (upd H n o) := fun b x _ _ e => by
  rw [upd_ne (ne_of_none e h)]
  exact e
theorem Keep.at1 {p q : Addr} {o : HO} {H : Hp} : Keep p q H (upd H p o) := fun b x h _ e => by
  rw [upd_ne h]
  exact e
theorem Keep.at2 {p q : Addr} {o : HO} {H : Hp} : Keep p q H (upd H q o) := fun b x _ h e => by
  rw [upd_ne h]
  exact e
theorem Hd.ne {p q : Addr} {H : Hp} (h : Hd p q H) : p ≠ q := by
  obtain ⟨cs, st, h1, h2, _⟩ := h
  intro e
  subst e
  rw [h1] at h2
  cases cs with
  | nil => cases h2
  | cons c r => cases h2
theorem Hd.new {p q n : Addr} {o : HO} {H : Hp} (h : Hd p q H) (hn : H n = none) : Hd p q (upd H n o) := by
  obtain ⟨cs, st, h1, h2, h3⟩ := h
  exact ⟨cs, st, by rw [upd_ne (ne_of_none h1 hn)]; exact h1, by rw [upd_ne (ne_of_none h2 hn)]; exact h2, h3⟩
theorem Hd.neOf {p q n : Addr} {o : HO} {H : Hp} (h : Hd p q H) (hn : H n = some o) (ho : ∀ xs, o ≠ .lst xs) : n ≠ p ∧ n ≠ q := by
  obtain ⟨cs, st, h1, h2, _⟩ := h
  constructor
  · intro e
    subst e
    rw [h1] at hn
    exact ho _ (Option.some.inj hn).symm
  · intro e
    subst e
    rw [h2] at hn
    exact ho _ (Option.some.inj hn).symm
theorem Hd.free {p q n : Addr} {H : Hp} (h : Hd p q H) (hn : H n = none) : n ≠ p ∧ n ≠ q := by
  obtain ⟨cs, st, h1, h2, _⟩ := h
  exact ⟨(ne_of_none h1 hn).symm, (ne_of_none h2 hn).symm⟩
theorem dpAll_ints (K : PySem.W.Frag) (H : Hp) : ∀ cs : List Int, DpAll K H (cs.map V.int) (cs.map PyData.int)
  | [] => .nil
  | c :: cs => .cons (.int c) (dpAll_ints K H cs)
theorem dp_ints {K : PySem.W.Frag} {H : Hp} {q : Addr} {cs : List Int} (h : SqL K H q (cs.map V.int)) : Dp K H (.ref q) (.list (cs.map PyData.int)) := .lst h (dpAll_ints K H cs)
theorem lay_ints : ∀ cs : List Int, PyData.canLayAll0 (cs.map PyData.int) = true
  | [] => rfl
  | c :: cs => by
    show (PyData.canLay0 (.int c) && PyData.canLayAll0 (cs.map PyData.int)) = true
    rw [lay_ints cs]
    rfl
theorem depth_ints : ∀ cs : List Int, PyData.depthAll (cs.map PyData.int) = 0
  | [] => rfl
  | c :: cs => by
    show max (PyData.depth (.int c)) (PyData.depthAll (cs.map PyData.int)) = 0
    rw [depth_ints cs]
    rfl
theorem shaped_ints (cs : List Int) : SeqAt.shaped (.list (cs.map PyData.int)) = true := by
  unfold SeqAt.shaped
  rw [Bool.and_eq_true]
  refine ⟨?_, decide_eq_true ?_⟩
  · show PyData.canLayAll0 (cs.map PyData.int) = true
    exact lay_ints cs
  · show PyData.depthAll (cs.map PyData.int) + 1 ≤ 64
    rw [depth_ints]
    decide
theorem shaped_nil : SeqAt.shaped (.list []) = true := by decide +kernel
theorem eqv_nil (cs : List Int) : PyData.eqv (.list (cs.map PyData.int)) (.list []) = decide (cs = []) := by
  cases cs with
  | nil => rfl
  | cons c r => rfl
section
variable {P : Program} {w : World} {K : PySem.W.Frag} {mg : Str → Option Value} {base : Heap}
/-- a draw: some number below many -/
def spDraw : Sp := fun vs H Q _ => ∃ (p q : Addr) (many : Int), vs = [.ref p, .int many] ∧ Hd p q H ∧ 0 < many ∧ many < 1073741824 ∧ ∀ (H' : Hp) (r : Int), Hd p q H' → Keep p q H H' → 0 ≤ r → r < many → Q (.int r) H'
/-- one of some -/
def spPick (K : PySem.W.Frag) : Sp := fun vs H Q _ => ∃ (p q l : Addr) (xs : List V), vs = [.ref p, .ref l] ∧ Hd p q H ∧ H l = some (.lst xs) ∧ l ≠ p ∧ l ≠ q ∧ xs ≠ [] ∧ xs.length < 1000000 ∧ ∀ (H' : Hp) (v : V), Hd p q H' → Keep p q H H' → v ∈ xs → Q v H'
end
theorem same_put {H H' : Hp} {L : Addr} {o : HO} (h : Same H H') (n : H L = none) : Same H (upd H' L o) := fun b x e => by
  rw [upd_ne (ne_of_none e n)]
  exact h b x e
theorem _root_.HD.Hd.same {p q : Addr} {H H' : Hp} (h : Hd p q H) (s : Same H H') : Hd p q H' := by
  obtain ⟨cs, st, h1, h2, h3⟩ := h
  exact ⟨cs, st, s _ _ h1, s _ _ h2, h3⟩
theorem snocL {α : Type} (cs : List α) (h : cs ≠ []) : ∃ c0 c, cs = c0 ++ [c] := ⟨cs.dropLast, cs.getLast h, (List.dropLast_concat_getLast h).symm⟩
theorem fmod_lt (a : Int) {m : Int} (h : 0 < m) : 0 ≤ a.fmod m ∧ a.fmod m < m := ⟨Int.fmod_nonneg_of_pos a h, Int.fmod_lt_of_pos a h⟩
end HD
namespace VG
open PySem PySem.Spec PyProof.Rows L2
section
variable {X : Cx} {st : Stmt} {rest : List Stmt} {t u : TS}
def tCut (t u : TS) : TS := fun D σ H => ∃ J : L2.St → Hp → Prop, t { D with nx := J } σ H ∧ ∀ σ' H', J σ' H' → u D σ' H'
theorem pss_cut (h1 : PS X st t) (h2 : PSs X rest u) : PSs X (st :: rest) (tCut t u) := by
  constructor
  intro pins s σ H D I h
  obtain ⟨J, a, b⟩ := h
  apply wpAny_execs_cons
  apply thn (h1.run pins s σ H { D with nx := J } I a)
  intro f s1 q
  cases f with
  | next =>
    obtain ⟨σ', H', I', q⟩ := q
    exact h2.run pins s1 σ' H' D I' (b σ' H' q)
  | ret v => exact q
  | brk => exact q
  | cont => exact q
end
section
variable {X : Cx} {e : Expr} {c : TT} {te : TE}
def tMeetE (te : TE) : TE := fun σ H Q => ∃ J : V → Hp → Prop, te σ H J ∧ ∀ v H', J v H' → Q v H'
theorem pe_meet (h : PE X e te) : PE X e (tMeetE te) := by
  constructor
  intro pins s σ H Q I hh
  obtain ⟨J, a, b⟩ := hh
  apply thn (h.run pins s σ H J I a)
  intro d s1 q
  obtain ⟨v, H', I', r, q⟩ := q
  exact ⟨v, H', I', r, b _ _ q⟩
end
structure Cl (P : Program) (w : World) (K : PySem.W.Frag) (mg : Str → Option Value) (base : Heap) (k : Nat) (x : Str) (sp : Sp) : Prop where
  ex : ∃ (f : Addr) (fd : FuncData) (ps : List Str), FnOk P w K mg base CX0 k f fd ps sp ∧ mg x = some (.ref f) ∧ PySem.W.keepIn K (.ref f) = true ∧ Binds K fd ps []
section
variable {X : Cx} {k j : Nat} {x : Str} {sp : Sp} {p pos : Pos} {e : Expr} {es : List Expr} {t : TA}
theorem pe_cl (c : Cl X.prog X.w X.K X.mg X.base k x sp) (hr : Room j X.A) (hk : k ≤ j) (hg : Gl X x) (ha : PA X (e :: es) t)
    (h1 : (x == ("__debug__" : Str)) = false := by decide) (h2 : starEach (e :: es) X.env = (false, eval e X.env) :: starEach es X.env := by rfl)
    (h3 : (backTo pos (starEach es X.env)).any (·.1) = false := by rfl) : PE X (.Call (.Name x p) (e :: es) [] pos) (tCall sp [] E0 t) :=
  let ⟨_, _, _, F, m, kp, b⟩ := c.ex
  pe_call F (hr.mono hk) hg m kp b .nil pass0 ha h1 h2 h3
/-- a module's name that holds a text -/
theorem pe_gs {z : Str} (hg : Gl X x) (h : ∃ u, X.mg x = some (.str z u)) (h1 : (x == ("__debug__" : Str)) = false := by decide) :
    PE X (.Name x pos) (tC (.str z)) := by
  obtain ⟨u, m⟩ := h
  exact pe_glob (v := .str z) hg m ⟨u, rfl⟩ h1
/-- repr of data, where no repr is under way -/
def rRepr (K : PySem.W.Frag) : List V → Hp → VK → Prop := fun xs H Q =>
  ∃ a d, xs = [.ref a] ∧ Dp K H (.ref a) d ∧ d.showable = true ∧ d.hasDict = false ∧ d.depth ≤ 60 ∧ d.shown.length ≤ sizeLine ∧ Q (.str d.shown) H
theorem cr_repr (hg : X.A.guards = some []) (hu : X.A.units + 64 < cLine) : CallR X (.builtin "repr") (rRepr X.K) := by
  intro pins s σ H vs us Q I r h
  obtain ⟨a, d, rfl, hd, h1, h2, h3, h4, q⟩ := h
  rw [Vals.ref1 r]
  obtain ⟨as, rd⟩ := Dp.reads I d (.ref a) (.ref a) hd rfl
  refine repr_of_reads' rd h1 (PyData.noDict_hsm h2) hg (by omega) (fun _ _ z => z) (fun h' u tk hk => ?_) h4
  exact ⟨.str d.shown, H, I.kept hk, ⟨u, rfl⟩, q⟩
end
end VG
namespace M2
def g (a b : Int) : Nat := Nat.gcd a.natAbs b.natAbs
/-- bottom above 0, no common divisor -/
def Low (a b : Int) : Prop := 0 < b ∧ g a b = 1
theorem Low.pos {a b : Int} (h : Low a b) : 0 < b := h.1
/-- fraction_of of the text, for a bottom that is not 0 -/
def mk (a b : Int) : Int × Int :=
  let s : Int := if b < 0 then -(g a b : Int) else (g a b : Int)
  (a.fdiv s, b.fdiv s)
theorem g_pos {a b : Int} (h : b ≠ 0) : 0 < g a b := Nat.gcd_pos_of_pos_right _ (Int.natAbs_pos.mpr h)
theorem dvd_l (a b : Int) : (g a b : Int) ∣ a := Int.ofNat_dvd_left.mpr (Nat.gcd_dvd_left _ _)
theorem dvd_r (a b : Int) : (g a b : Int) ∣ b := Int.ofNat_dvd_left.mpr (Nat.gcd_dvd_right _ _)
/-- dividing both by the greatest common divisor -/
theorem div_low {a b : Int} (h : 0 < b) : Low (a / (g a b : Int)) (b / (g a b : Int)) := by
  have gp := g_pos (a := a) (b := b) (by omega)
  obtain ⟨x, hx⟩ := dvd_l a b
  obtain ⟨y, hy⟩ := dvd_r a b
  have gne : (g a b : Int) ≠ 0 := by omega
  have ex : a / (g a b : Int) = x := by rw [Int.ediv_eq_of_eq_mul_right gne hx]
  have ey : b / (g a b : Int) = y := by rw [Int.ediv_eq_of_eq_mul_right gne hy]
  rw [ex, ey]
  have ax : a.natAbs = g a b * x.natAbs := by
    have := congrArg Int.natAbs hx
    rwa [Int.natAbs_mul, Int.natAbs_natCast] at this
  have by' : b.natAbs = g a b * y.natAbs := by
    have := congrArg Int.natAbs hy
    rwa [Int.natAbs_mul, Int.natAbs_natCast] at this
  constructor
  · rcases Int.lt_or_le 0 y with z | z
    · exact z
    · exfalso
      have : (g a b : Int) * y ≤ 0 := Int.mul_nonpos_of_nonneg_of_nonpos (by omega) z
      omega
  · have e : g a b = g a b * g x y := by
      have : Nat.gcd (g a b * x.natAbs) (g a b * y.natAbs) = g a b * Nat.gcd x.natAbs y.natAbs := Nat.gcd_mul_left _ _ _
      unfold g at this ⊢
      rw [← this]
      show Nat.gcd a.natAbs b.natAbs = _
      unfold g at ax by'
      rw [← ax, ← by']
    have e2 : g a b * 1 = g a b * g x y := by rw [Nat.mul_one]; exact e
    exact (Nat.eq_of_mul_eq_mul_left gp e2).symm
theorem g_neg (a b : Int) : g (-a) (-b) = g a b := by
  unfold g
  rw [Int.natAbs_neg, Int.natAbs_neg]
theorem mk_pos {a b : Int} (h : 0 < b) : mk a b = (a / (g a b : Int), b / (g a b : Int)) := by
  have gp := g_pos (a := a) (b := b) (by omega)
  unfold mk
  rw [if_neg (by omega)]
  show (a.fdiv (g a b : Int), b.fdiv (g a b : Int)) = _
  rw [Int.fdiv_eq_ediv_of_nonneg _ (by omega), Int.fdiv_eq_ediv_of_nonneg _ (by omega)]
theorem mk_neg {a b : Int} (h : b < 0) : mk a b = mk (-a) (-b) := by
  have gp := g_pos (a := a) (b := b) (by omega)
  rw [mk_pos (by omega : 0 < -b)]
  unfold mk
  rw [if_pos h, g_neg]
  show (a.fdiv (-(g a b : Int)), b.fdiv (-(g a b : Int))) = _
  obtain ⟨x, hx⟩ := dvd_l a b
  obtain ⟨y, hy⟩ := dvd_r a b
  have gne : (g a b : Int) ≠ 0 := by omega
  have e1 : a = -(g a b : Int) * -x := by rw [Int.neg_mul_neg]; exact hx
  have e2 : b = -(g a b : Int) * -y := by rw [Int.neg_mul_neg]; exact hy
  have e3 : -a = (g a b : Int) * -x := by rw [Int.mul_neg, ← hx]
  have e4 : -b = (g a b : Int) * -y := by rw [Int.mul_neg, ← hy]
  have n : -(g a b : Int) ≠ 0 := by omega
  have f1 : a.fdiv (-(g a b : Int)) = -x := by
    have : (-(g a b : Int) * -x).fdiv (-(g a b : Int)) = -x := Int.mul_fdiv_cancel_left _ n
    rw [← e1] at this
    exact this
  have f2 : b.fdiv (-(g a b : Int)) = -y := by
    have : (-(g a b : Int) * -y).fdiv (-(g a b : Int)) = -y := Int.mul_fdiv_cancel_left _ n
    rw [← e2] at this
    exact this
  rw [f1, f2, Int.ediv_eq_of_eq_mul_right gne e3, Int.ediv_eq_of_eq_mul_right gne e4]
theorem mk_low {a b : Int} (h : b ≠ 0) : Low (mk a b).1 (mk a b).2 := by
  rcases Int.lt_or_lt_of_ne h with z | z
  · rw [mk_neg z, mk_pos (by omega)]
    exact div_low (by omega)
  · rw [mk_pos z]
    exact div_low z
/-- it is the same fraction -/
theorem mk_eq {a b : Int} (h : b ≠ 0) : (mk a b).1 * b = a * (mk a b).2 := by
  have key : ∀ a b : Int, 0 < b → (mk a b).1 * b = a * (mk a b).2 := by
    intro a b hb
    rw [mk_pos hb]
    show a / (g a b : Int) * b = a * (b / (g a b : Int))
    obtain ⟨x, hx⟩ := dvd_l a b
    obtain ⟨y, hy⟩ := dvd_r a b
    have gne : (g a b : Int) ≠ 0 := by
      have := g_pos (a := a) (b := b) (by omega)
      omega
    rw [Int.ediv_eq_of_eq_mul_right gne hx, Int.ediv_eq_of_eq_mul_right gne hy]
    calc x * b = x * ((g a b : Int) * y) := by rw [← hy]
      _ = ((g a b : Int) * x) * y := by rw [← Int.mul_assoc, Int.mul_comm x]
      _ = a * y := by rw [← hx]
  rcases Int.lt_or_lt_of_ne h with z | z
  · rw [mk_neg z]
    have := key (-a) (-b) (by omega)
    rw [Int.mul_neg, Int.neg_mul] at this
    omega
  · exact key a b z
theorem natAbs_div_le (a : Int) {d : Int} (h : 0 < d) : (a / d).natAbs ≤ a.natAbs := Int.natAbs_ediv_le_natAbs a d
theorem mk_size {a b : Int} (h : b ≠ 0) : (mk a b).1.natAbs ≤ a.natAbs ∧ (mk a b).2.natAbs ≤ b.natAbs := by
  have key : ∀ a b : Int, 0 < b → (mk a b).1.natAbs ≤ a.natAbs ∧ (mk a b).2.natAbs ≤ b.natAbs := by
    intro a b hb
    rw [mk_pos hb]
    have gp := g_pos (a := a) (b := b) (by omega)
    exact ⟨natAbs_div_le a (by omega), natAbs_div_le b (by omega)⟩
  rcases Int.lt_or_lt_of_ne h with z | z
  · rw [mk_neg z]
    have := key (-a) (-b) (by omega)
    rwa [Int.natAbs_neg, Int.natAbs_neg] at this
  · exact key a b z
/-- in lowest terms there is just one pair -/
theorem low_eq {a b c d : Int} (h1 : Low a b) (h2 : Low c d) (h : a * d = c * b) : a = c ∧ b = d := by
  have e : a.natAbs * d.natAbs = c.natAbs * b.natAbs := by rw [← Int.natAbs_mul, ← Int.natAbs_mul, h]
  have c1 : Nat.Coprime a.natAbs b.natAbs := h1.2
  have c2 : Nat.Coprime c.natAbs d.natAbs := h2.2
  have d1 : b.natAbs ∣ d.natAbs := c1.symm.dvd_of_dvd_mul_left ⟨c.natAbs, by rw [e, Nat.mul_comm]⟩
  have d2 : d.natAbs ∣ b.natAbs := c2.symm.dvd_of_dvd_mul_left ⟨a.natAbs, by rw [← e, Nat.mul_comm]⟩
  have eb : b.natAbs = d.natAbs := Nat.dvd_antisymm d1 d2
  have hb := h1.1
  have hd := h2.1
  have ebd : b = d := by omega
  subst ebd
  exact ⟨Int.eq_of_mul_eq_mul_right (by omega) h, rfl⟩
/-- added of the text -/
def add (p q : Int × Int) : Int × Int :=
  let s : Int := g p.2 q.2
  let rest := p.2 / s
  let high := p.1 * (q.2 / s) + q.1 * rest
  let common : Int := g high s
  (high / common, rest * (q.2 / common))
theorem cop_dvd_l {a b c : Nat} (h : Nat.Coprime a b) (d : c ∣ a) : Nat.Coprime c b := Nat.Coprime.coprime_dvd_left d h
/-- the sum of two fractions in lowest terms, in lowest terms -/
theorem add_ok {p q : Int × Int} (hp : Low p.1 p.2) (hq : Low q.1 q.2) : Low (add p q).1 (add p q).2 ∧ (add p q).1 * (p.2 * q.2) = (p.1 * q.2 + q.1 * p.2) * (add p q).2 := by
  obtain ⟨a, b⟩ := p
  obtain ⟨c, d⟩ := q
  have hb : 0 < b := hp.1
  have hd : 0 < d := hq.1
  have gp := g_pos (a := b) (b := d) (by omega)
  obtain ⟨x, hx⟩ := dvd_l b d
  obtain ⟨y, hy⟩ := dvd_r b d
  have low := div_low (a := b) (b := d) hd
  have sne : (g b d : Int) ≠ 0 := by omega
  have ex : b / (g b d : Int) = x := Int.ediv_eq_of_eq_mul_right sne hx
  have ey : d / (g b d : Int) = y := Int.ediv_eq_of_eq_mul_right sne hy
  rw [ex, ey] at low
  have hxp : 0 < x := by
    rcases Int.lt_or_le 0 x with z | z
    · exact z
    · have : (g b d : Int) * x ≤ 0 := Int.mul_nonpos_of_nonneg_of_nonpos (by omega) z
      omega
  have hyp : 0 < y := low.1
  show Low ((a * (d / (g b d : Int)) + c * (b / (g b d : Int))) / (g (a * (d / (g b d : Int)) + c * (b / (g b d : Int))) (g b d : Int) : Int)) (b / (g b d : Int) * (d / (g (a * (d / (g b d : Int)) + c * (b / (g b d : Int))) (g b d : Int) : Int))) ∧
    (a * (d / (g b d : Int)) + c * (b / (g b d : Int))) / (g (a * (d / (g b d : Int)) + c * (b / (g b d : Int))) (g b d : Int) : Int) * (b * d) = (a * d + c * b) * (b / (g b d : Int) * (d / (g (a * (d / (g b d : Int)) + c * (b / (g b d : Int))) (g b d : Int) : Int)))
  rw [ex, ey]
  generalize hh : a * y + c * x = h
  generalize hs : (g b d : Int) = s at hx hy sne
  have hsp : 0 < s := by omega
  have kp := g_pos (a := h) (b := s) (by omega)
  obtain ⟨u, hu⟩ := dvd_l h s
  obtain ⟨v, hv⟩ := dvd_r h s
  have low2 := div_low (a := h) (b := s) hsp
  have kne : (g h s : Int) ≠ 0 := by omega
  have eu : h / (g h s : Int) = u := Int.ediv_eq_of_eq_mul_right kne hu
  have ev : s / (g h s : Int) = v := Int.ediv_eq_of_eq_mul_right kne hv
  rw [eu, ev] at low2
  have ed : d / (g h s : Int) = v * y := by
    refine Int.ediv_eq_of_eq_mul_right kne ?_
    rw [← Int.mul_assoc, ← hv, ← hy]
  rw [eu, ed]
  generalize (g h s : Int) = k at hu hv kne
  have hvp : 0 < v := low2.1
  -- the numbers without common divisors
  have cab : Nat.Coprime a.natAbs b.natAbs := hp.2
  have ccd : Nat.Coprime c.natAbs d.natAbs := hq.2
  have cxy : Nat.Coprime x.natAbs y.natAbs := low.2
  have cuv : Nat.Coprime u.natAbs v.natAbs := low2.2
  have dxb : x.natAbs ∣ b.natAbs := ⟨s.natAbs, by rw [hx, Int.natAbs_mul, Nat.mul_comm]⟩
  have dyd : y.natAbs ∣ d.natAbs := ⟨s.natAbs, by rw [hy, Int.natAbs_mul, Nat.mul_comm]⟩
  have duh : u.natAbs ∣ h.natAbs := ⟨k.natAbs, by rw [hu, Int.natAbs_mul, Nat.mul_comm]⟩
  have chx : Nat.Coprime h.natAbs x.natAbs := by
    have e : Int.gcd h x = Int.gcd (a * y) x := by
      rw [← hh]
      exact Int.gcd_add_mul_right_left _ _ _
    have e2 : Nat.Coprime (a * y).natAbs x.natAbs := by
      rw [Int.natAbs_mul]
      exact Nat.Coprime.mul_left (Nat.Coprime.coprime_dvd_right dxb cab) cxy.symm
    exact e.trans e2
  have chy : Nat.Coprime h.natAbs y.natAbs := by
    have e : Int.gcd h y = Int.gcd (c * x) y := by
      rw [← hh]
      exact Int.gcd_mul_right_add_left _ _ _
    have e2 : Nat.Coprime (c * x).natAbs y.natAbs := by
      rw [Int.natAbs_mul]
      exact Nat.Coprime.mul_left (Nat.Coprime.coprime_dvd_right dyd ccd) cxy
    exact e.trans e2
  refine ⟨⟨Int.mul_pos hxp (Int.mul_pos hvp hyp), ?_⟩, ?_⟩
  · show Nat.Coprime u.natAbs (x * (v * y)).natAbs
    rw [Int.natAbs_mul, Int.natAbs_mul]
    exact Nat.Coprime.mul_right (cop_dvd_l chx duh) (Nat.Coprime.mul_right cuv (cop_dvd_l chy duh))
  · have e1 : a * d + c * b = s * h := by
      rw [← hh, hx, hy, Int.mul_add]
      rw [show a * (s * y) = s * (a * y) by rw [← Int.mul_assoc, Int.mul_comm a s, Int.mul_assoc], show c * (s * x) = s * (c * x) by rw [← Int.mul_assoc, Int.mul_comm c s, Int.mul_assoc]]
    rw [e1, hu]
    have e2 : b * d = (s * x) * (s * y) := by rw [← hx, ← hy]
    rw [e2]
    have e3 : s * (k * u) * (x * (v * y)) = u * ((s * x) * ((k * v) * y)) := by
      simp only [Int.mul_assoc, Int.mul_comm, Int.mul_left_comm]
    rw [e3, ← hv]
theorem add_size {p q : Int × Int} (hp : Low p.1 p.2) (hq : Low q.1 q.2) {m n : Nat} (a1 : p.1.natAbs < 2 ^ m) (a2 : p.2.natAbs < 2 ^ m) (b1 : q.1.natAbs < 2 ^ n) (b2 : q.2.natAbs < 2 ^ n) :
    (add p q).1.natAbs < 2 ^ (m + n + 1) ∧ (add p q).2.natAbs < 2 ^ (m + n + 1) := by
  have hb := hp.1
  have hd := hq.1
  have gp := g_pos (a := p.2) (b := q.2) (by omega)
  have l1 : (p.2 / (g p.2 q.2 : Int)).natAbs ≤ p.2.natAbs := natAbs_div_le _ (by omega)
  have l2 : (q.2 / (g p.2 q.2 : Int)).natAbs ≤ q.2.natAbs := natAbs_div_le _ (by omega)
  have hp2 : 2 ^ (m + n + 1) = 2 ^ m * 2 ^ n + 2 ^ m * 2 ^ n := by
    rw [Nat.pow_succ, Nat.pow_add]
    omega
  have mul : ∀ {x y a b : Nat}, x < a → y < b → x * y < a * b := fun h1 h2 => Nat.mul_lt_mul'' h1 h2
  have hh : (p.1 * (q.2 / (g p.2 q.2 : Int)) + q.1 * (p.2 / (g p.2 q.2 : Int))).natAbs < 2 ^ (m + n + 1) := by
    have e1 := Int.natAbs_add_le (p.1 * (q.2 / (g p.2 q.2 : Int))) (q.1 * (p.2 / (g p.2 q.2 : Int)))
    rw [Int.natAbs_mul, Int.natAbs_mul] at e1
    have e2 := mul a1 (Nat.lt_of_le_of_lt l2 b2)
    have e3 := mul b1 (Nat.lt_of_le_of_lt l1 a2)
    rw [Nat.mul_comm (2 ^ n)] at e3
    omega
  have kp := g_pos (a := p.1 * (q.2 / (g p.2 q.2 : Int)) + q.1 * (p.2 / (g p.2 q.2 : Int))) (b := (g p.2 q.2 : Int)) (by omega)
  constructor
  · exact Nat.lt_of_le_of_lt (natAbs_div_le _ (by omega)) hh
  · show (p.2 / (g p.2 q.2 : Int) * (q.2 / (g (p.1 * (q.2 / (g p.2 q.2 : Int)) + q.1 * (p.2 / (g p.2 q.2 : Int))) (g p.2 q.2 : Int) : Int))).natAbs < _
    rw [Int.natAbs_mul]
    have e4 := natAbs_div_le q.2 (d := (g (p.1 * (q.2 / (g p.2 q.2 : Int)) + q.1 * (p.2 / (g p.2 q.2 : Int))) (g p.2 q.2 : Int) : Int)) (by omega)
    have e5 := mul (Nat.lt_of_le_of_lt l1 a2) (Nat.lt_of_le_of_lt e4 b2)
    omega
end M2
namespace FR
open PySem PySem.Spec PyProof.Rows L2 VG
abbrev Q2 := Int × Int
def pV (p : Q2) : List V := [.int p.1, .int p.2]
def Bt (n : Nat) (p : Q2) : Prop := p.1.natAbs < 2 ^ n ∧ p.2.natAbs < 2 ^ n
theorem Bt.mono {m n : Nat} {p : Q2} (h : Bt m p) (hm : m ≤ n) : Bt n p := ⟨Nat.lt_of_lt_of_le h.1 (Nat.pow_le_pow_right (by decide) hm), Nat.lt_of_lt_of_le h.2 (Nat.pow_le_pow_right (by decide) hm)⟩
theorem same_upd {H : Hp} {p : Addr} {o : HO} (h : H p = none) : Same H (upd H p o) := fun b x e => by
  rw [upd_ne (ne_of_none e h)]
  exact e
theorem seqT {K : PySem.W.Frag} {H H' : Hp} {a : Addr} {xs : List V} (e : Same H H') (h : SqT K H a xs) : SqT K H' a xs := by
  rcases h with (h | ⟨o, h⟩) | h
  · exact .inl (.inl (e _ _ h))
  · exact .inl (.inr ⟨o, e _ _ h⟩)
  · exact .inr h
theorem tyT {K : PySem.W.Frag} {H : Hp} {a : Addr} {xs : List V} (h : SqT K H a xs) : TyX K H (.ref a) (.type "tuple") := by
  rcases h with (h | ⟨o, h⟩) | ⟨o, its, n, h1, h2, h3⟩
  · exact .base (.tup h)
  · exact .fTuple h
  · exact .kTuple h1 h2
theorem kb1 {K : PySem.W.Frag} : PySem.W.kitOne K (.type "int") (.type "int") = some true := kit_ty (by decide +kernel)
theorem kb2 {K : PySem.W.Frag} : PySem.W.kitOne K (.type "int") (.type "bool") = some false := kit_ty (by decide +kernel)
def Frs (K : PySem.W.Frag) (H : Hp) : List V → List Q2 → Prop
  | [], [] => True
  | v :: vs, p :: ps => (∃ t, v = .ref t ∧ SqT K H t (pV p)) ∧ Frs K H vs ps
  | _, _ => False
theorem Frs.mono {K : PySem.W.Frag} {H H' : Hp} (e : Same H H') : ∀ {vs : List V} {ps : List Q2}, Frs K H vs ps → Frs K H' vs ps
  | [], [], _ => trivial
  | _ :: _, _ :: _, ⟨⟨t, e1, h⟩, r⟩ => ⟨⟨t, e1, seqT e h⟩, r.mono e⟩
  | [], _ :: _, h => h.elim
  | _ :: _, [], h => h.elim
theorem Frs.len {K : PySem.W.Frag} {H : Hp} : ∀ {vs : List V} {ps : List Q2}, Frs K H vs ps → vs.length = ps.length
  | [], [], _ => rfl
  | _ :: _, _ :: _, h => by rw [List.length_cons, List.length_cons, h.2.len]
  | [], _ :: _, h => h.elim
  | _ :: _, [], h => h.elim
theorem Frs.get {K : PySem.W.Frag} {H : Hp} : ∀ {vs : List V} {ps : List Q2} {i : Nat} {v : V}, Frs K H vs ps → vs[i]? = some v → ∃ t p, v = .ref t ∧ ps[i]? = some p ∧ SqT K H t (pV p)
  | [], [], _, _, _, h => by simp at h
  | a :: _, p :: _, 0, v, h, e => by
    have e1 : a = v := Option.some.inj e
    subst e1
    obtain ⟨t, e2, q⟩ := h.1
    exact ⟨t, p, e2, rfl, q⟩
  | _ :: vs, _ :: ps, i + 1, v, h, e => h.2.get (i := i) e
  | [], _ :: _, _, _, h, _ => h.elim
  | _ :: _, [], _, _, h, _ => h.elim
theorem Frs.snoc {K : PySem.W.Frag} {H : Hp} {t : Addr} {p : Q2} (hv : SqT K H t (pV p)) : ∀ {vs : List V} {ps : List Q2}, Frs K H vs ps → Frs K H (vs ++ [.ref t]) (ps ++ [p])
  | [], [], _ => ⟨⟨t, rfl, hv⟩, trivial⟩
  | _ :: _, _ :: _, h => ⟨h.1, h.2.snoc hv⟩
  | [], _ :: _, h => h.elim
  | _ :: _, [], h => h.elim
def lessQ (p q : Q2) : Bool := decide (p.1 * q.2 < q.1 * p.2)
def bestF (lt : Q2 → Q2 → Bool) : Option (V × Q2) → List (V × Q2) → Option (V × Q2)
  | b, [] => b
  | none, x :: xs => bestF lt (some x) xs
  | some b, x :: xs => bestF lt (if lt x.2 b.2 = true then some x else some b) xs
def bestV (o : Option (V × Q2)) : V := match o with
  | none => .non
  | some x => x.1
/-- what a value is to is_fraction: a whole number, or none -/
def Part (K : PySem.W.Frag) (H : Hp) (x : V) (o : Option Int) : Prop :=
  (∃ a, x = .int a ∧ o = some a) ∨ (o = none ∧ ∃ (ty : String) (b1 b2 : Bool), TyX K H x (.type ty) ∧ kitB ty "int" = some b1 ∧ kitB ty "bool" = some b2 ∧ (b1 && !b2) = false)
def okFr : Option Int → Option Int → Bool
  | some a, some b => decide (0 < b) && decide (M2.g a b = 1)
  | _, _ => false
section
variable {P : Program} {w : World} {K : PySem.W.Frag} {mg : Str → Option Value} {base : Heap}
def spInt (K : PySem.W.Frag) : Sp := fun vs H Q _ => ∃ (v : V) (o : Option Int), vs = [v] ∧ Part K H v o ∧ Q (.bl o.isSome) H
def spAdd (K : PySem.W.Frag) : Sp := fun vs H Q _ => ∃ (s t : Addr) (p q : Q2), vs = [.ref s, .ref t] ∧ SqT K H s (pV p) ∧ SqT K H t (pV q) ∧ M2.Low p.1 p.2 ∧ M2.Low q.1 q.2 ∧ Bt 3000 p ∧ Bt 3000 q ∧
  ∀ H' u, Same H H' → H u = none → H' u = some (.tup (pV (M2.add p q))) → Q (.ref u) H'
def neg (p : Q2) : Q2 := (-p.1, p.2)
def spOpp (K : PySem.W.Frag) : Sp := fun vs H Q _ => ∃ (s : Addr) (p : Q2), vs = [.ref s] ∧ SqT K H s (pV p) ∧ ∀ H' u, Same H H' → H u = none → H' u = some (.tup (pV (neg p))) → Q (.ref u) H'
def spTaken (K : PySem.W.Frag) : Sp := fun vs H Q _ => ∃ (s t : Addr) (p q : Q2), vs = [.ref s, .ref t] ∧ SqT K H s (pV p) ∧ SqT K H t (pV q) ∧ M2.Low p.1 p.2 ∧ M2.Low q.1 q.2 ∧ Bt 3000 p ∧ Bt 3000 q ∧
  ∀ H' u, Same H H' → H u = none → H' u = some (.tup (pV (M2.add p (neg q)))) → Q (.ref u) H'
def spLess (K : PySem.W.Frag) : Sp := fun vs H Q _ => ∃ (s t : Addr) (p q : Q2), vs = [.ref s, .ref t] ∧ SqT K H s (pV p) ∧ SqT K H t (pV q) ∧ Bt 3000 p ∧ Bt 3000 q ∧ Q (.bl (lessQ p q)) H
def spSmall (K : PySem.W.Frag) : Sp := fun vs H Q _ => ∃ (s : Addr) (p : Q2), vs = [.ref s] ∧ SqT K H s (pV p) ∧ Q (.bl (decide ((if p.1 < 0 then -p.1 else p.1) < p.2))) H
def spFloor (K : PySem.W.Frag) : Sp := fun vs H Q _ => ∃ (s : Addr) (p : Q2), vs = [.ref s] ∧ SqT K H s (pV p) ∧ 0 < p.2 ∧ Bt 3000 p ∧ Q (.int (p.1 / p.2)) H
def spCeil (K : PySem.W.Frag) : Sp := fun vs H Q _ => ∃ (s : Addr) (p : Q2), vs = [.ref s] ∧ SqT K H s (pV p) ∧ 0 < p.2 ∧ Bt 3000 p ∧ Q (.int (-(-p.1 / p.2))) H
def sumQ (ps : List Q2) : Q2 := ps.foldl M2.add (0, 1)
def spBest (K : PySem.W.Frag) (lt : Q2 → Q2 → Bool) : Sp := fun vs H Q _ => ∃ (s : Addr) (xs : List V) (ps : List Q2), vs = [.ref s] ∧ SqT K H s xs ∧ Frs K H xs ps ∧ (∀ p ∈ ps, Bt 3000 p) ∧ Q (bestV (bestF lt none (xs.zip ps))) H
end
theorem at0 (x y : V) : atI [x, y] 0 = some x := rfl
theorem at1 (x y : V) : atI [x, y] 1 = some y := rfl
theorem mulW {i j : Int} (h1 : i.natAbs < 2 ^ 400000) (h2 : j.natAbs < 2 ^ 400000) : CMulW i j := wide_mul h1 h2 (by decide) (by decide) (by decide)
theorem up {n m : Nat} {x : Nat} (h : x < 2 ^ n) (hm : n ≤ m) : x < 2 ^ m := Nat.lt_of_lt_of_le h (Nat.pow_le_pow_right (by decide) hm)
end FR
namespace M2
end M2
namespace FR
open PySem PySem.Spec PyProof.Rows L2 VG HD
def dQ (p : Q2) : PyData := .tuple [.int p.1, .int p.2]
theorem dpQ {K : PySem.W.Frag} {H : Hp} {t : Addr} {p : Q2} (h : SqT K H t (pV p)) : Dp K H (.ref t) (dQ p) := .tup h (.cons (.int _) (.cons (.int _) .nil))
theorem sqt {K : PySem.W.Frag} {H : Hp} {t : Addr} {xs : List V} (h : H t = some (.tup xs)) : SqT K H t xs := .inl (.inl h)
end FR
namespace CK
open PySem PySem.Spec PyProof.Rows L2 VG FR
def spNum (K : PySem.W.Frag) : Sp := fun vs H Q _ => ∃ a : Int, vs = [.int a] ∧ Q (.bl (decide (0 ≤ a))) H
def spBelow : Sp := fun vs H Q _ => ∃ a n : Int, vs = [.int a, .int n] ∧ Q (.bl (decide (0 ≤ a ∧ a < n))) H
/-- numbers below, all of them right -/
def spNumsBelow (K : PySem.W.Frag) : Sp := fun vs H Q _ => ∃ (t : Addr) (cs : List Int) (n : Int), vs = [.ref t, .int n] ∧ SqT K H t (cs.map V.int) ∧ cs.length ≤ 1000 ∧ (∀ c ∈ cs, 0 ≤ c ∧ c < n) ∧ ∀ H', Same H H' → Q (.bl true) H'
def Asc : List Int → Prop
  | a :: b :: r => a < b ∧ Asc (b :: r)
  | _ => True
def LtV (x y : V) : Prop := (∃ a b : Int, x = .int a ∧ y = .int b ∧ a < b) ∨ ∃ a b : Str, x = .str a ∧ y = .str b ∧ a.cps.toList < b.cps.toList
def AscV (xs : List V) : Prop := ∀ (i : Nat) (x y : V), xs[i]? = some x → xs[i + 1]? = some y → LtV x y
def spAsc (K : PySem.W.Frag) : Sp := fun vs H Q _ => ∃ (t : Addr) (xs : List V), vs = [.ref t] ∧ SqT K H t xs ∧ xs.length ≤ 1000 ∧ AscV xs ∧ ∀ H', Same H H' → Q (.bl true) H'
def spLot (K : PySem.W.Frag) : Sp := fun vs H Q _ => ∃ (t : Addr) (cs : List Int) (n : Int), vs = [.ref t, .int n] ∧ SqT K H t (cs.map V.int) ∧ cs.length ≤ 1000 ∧ (∀ c ∈ cs, 0 ≤ c ∧ c < n) ∧ Asc cs ∧ ∀ H', Same H H' → Q (.bl true) H'
theorem Asc.get : ∀ {cs : List Int} {i : Nat} {a b : Int}, Asc cs → cs[i]? = some a → cs[i + 1]? = some b → a < b
  | [], _, _, _, _, h, _ => by simp at h
  | [_], 0, _, _, _, _, h => by simp at h
  | [_], _ + 1, _, _, _, h, _ => by simp at h
  | x :: y :: r, 0, a, b, h, ha, hb => by
    have e1 : x = a := Option.some.inj ha
    have e2 : y = b := Option.some.inj hb
    subst e1 e2
    exact h.1
  | x :: y :: r, i + 1, a, b, h, ha, hb => Asc.get (cs := y :: r) (i := i) h.2 ha hb
theorem asc_ints {cs : List Int} (h : Asc cs) : AscV (cs.map V.int) := by
  intro i x y hx hy
  rw [List.getElem?_map] at hx hy
  obtain ⟨a, ea, rfl⟩ := Option.map_eq_some_iff.mp hx
  obtain ⟨b, eb, rfl⟩ := Option.map_eq_some_iff.mp hy
  exact .inl ⟨a, b, rfl, rfl, h.get ea eb⟩
theorem cut1 {xs : List V} : cutV xs (some 1) none = xs.drop 1 := by
  unfold cutV
  have e : HT.sIx xs.length 0 (some 1) = min 1 xs.length := HT.sIx_nat xs.length 0 1
  rw [e, HT.sIx_none]
  cases xs with
  | nil => rfl
  | cons x xs =>
    have : min 1 (x :: xs).length = 1 := by rw [List.length_cons]; omega
    rw [this]
    exact List.take_of_length_le (by rw [List.length_drop]; omega)
end CK
namespace CK
open PySem PySem.Spec PyProof.Rows L2 VG FR
/-- references to tuples of integers -/
def Tots (K : PySem.W.Frag) (H : Hp) : List V → List (List Int) → Prop
  | [], [] => True
  | v :: vs, c :: cs => (∃ t, v = .ref t ∧ SqT K H t (c.map V.int)) ∧ Tots K H vs cs
  | _, _ => False
theorem Tots.mono {K : PySem.W.Frag} {H H' : Hp} (e : Same H H') : ∀ {vs : List V} {cs : List (List Int)}, Tots K H vs cs → Tots K H' vs cs
  | [], [], _ => trivial
  | _ :: _, _ :: _, ⟨⟨t, e1, h⟩, r⟩ => ⟨⟨t, e1, seqT e h⟩, r.mono e⟩
  | [], _ :: _, h => h.elim
  | _ :: _, [], h => h.elim
theorem Tots.len {K : PySem.W.Frag} {H : Hp} : ∀ {vs : List V} {cs : List (List Int)}, Tots K H vs cs → vs.length = cs.length
  | [], [], _ => rfl
  | _ :: _, _ :: _, h => by rw [List.length_cons, List.length_cons, h.2.len]
  | [], _ :: _, h => h.elim
  | _ :: _, [], h => h.elim
theorem Tots.get {K : PySem.W.Frag} {H : Hp} : ∀ {vs : List V} {cs : List (List Int)} {i : Nat} {v : V}, Tots K H vs cs → vs[i]? = some v → ∃ t c, v = .ref t ∧ cs[i]? = some c ∧ SqT K H t (c.map V.int)
  | [], [], _, _, _, h => by simp at h
  | a :: _, c :: _, 0, v, h, e => by
    have e1 : a = v := Option.some.inj e
    subst e1
    obtain ⟨t, e2, q⟩ := h.1
    exact ⟨t, c, e2, rfl, q⟩
  | _ :: vs, _ :: cs, i + 1, v, h, e => h.2.get (i := i) e
  | [], _ :: _, _, _, h, _ => h.elim
  | _ :: _, [], _, _, h, _ => h.elim
/-- what the written part says of the class Table -/
structure TabC (K : PySem.W.Frag) (C : Addr) : Prop where
  c : Cls K C
  nk : NoAttr K C "kinds"
  nt : NoAttr K C "totals"
/-- a table: its names, its totals -/
def Tab (K : PySem.W.Frag) (C : Addr) (H : Hp) (a : Addr) (ks : List Str) (ts : List (List Int)) : Prop :=
  ∃ (dx k t : Addr) (xs : List V), H a = some (.ins C dx [((("kinds" : String) : Str), .ref k), ((("totals" : String) : Str), .ref t)]) ∧ SqT K H k (ks.map V.str) ∧ SqT K H t xs ∧ Tots K H xs ts
theorem Tab.mono {K : PySem.W.Frag} {C a : Addr} {H H' : Hp} {ks : List Str} {ts : List (List Int)} (e : Same H H') (h : Tab K C H a ks ts) : Tab K C H' a ks ts := by
  obtain ⟨dx, k, t, xs, h1, h2, h3, h4⟩ := h
  exact ⟨dx, k, t, xs, e _ _ h1, seqT e h2, seqT e h3, h4.mono e⟩
/-- the totals in which a kind lies -/
def twF (ts : List (List Int)) (kind : Int) (i : Nat) : List Int := ((List.range i).filter fun j => (ts.getD j []).contains kind).map fun j => ((j : Nat) : Int)
def totsWith (ts : List (List Int)) (kind : Int) : List Int := twF ts kind ts.length
def spTotalsWith (K : PySem.W.Frag) (C : Addr) : Sp := fun vs H Q _ => ∃ (a : Addr) (ks : List Str) (ts : List (List Int)) (kind : Int), vs = [.ref a, .int kind] ∧ Tab K C H a ks ts ∧ ts.length ≤ 1000 ∧ ∀ H' u, Same H H' → H u = none → H' u = some (.tup ((totsWith ts kind).map V.int)) → Q (.ref u) H'
theorem twF_yes {ts : List (List Int)} {kind : Int} {i : Nat} {c : List Int} (e : ts[i]? = some c) (h : c.contains kind = true) : twF ts kind (i + 1) = twF ts kind i ++ [(i : Int)] := by
  unfold twF
  have g : ts.getD i [] = c := by rw [List.getD_eq_getElem?_getD, e]; rfl
  rw [List.range_succ, List.filter_append, List.map_append]
  have e2 : [i].filter (fun j => (ts.getD j []).contains kind) = [i] := by simp only [List.filter_cons, g, h, if_true, List.filter_nil]
  rw [e2]
  rfl
theorem twF_no {ts : List (List Int)} {kind : Int} {i : Nat} {c : List Int} (e : ts[i]? = some c) (h : c.contains kind = false) : twF ts kind (i + 1) = twF ts kind i := by
  unfold twF
  have g : ts.getD i [] = c := by rw [List.getD_eq_getElem?_getD, e]; rfl
  rw [List.range_succ, List.filter_append, List.map_append]
  have e2 : [i].filter (fun j => (ts.getD j []).contains kind) = [] := by simp only [List.filter_cons, g, h, if_false, List.filter_nil, Bool.false_eq_true]
  rw [e2]
  exact List.append_nil _
theorem twF_len (ts : List (List Int)) (kind : Int) (i : Nat) : (twF ts kind i).length ≤ i := by
  unfold twF
  rw [List.length_map]
  exact Nat.le_trans (List.length_filter_le _ _) (by rw [List.length_range]; exact Nat.le_refl _)
theorem inV_ints (k : Int) : ∀ cs : List Int, inV (.int k) (cs.map V.int) = cs.contains k
  | [] => rfl
  | c :: cs => by
    have ih := inV_ints k cs
    unfold inV at ih ⊢
    rw [List.map_cons, List.any_cons, ih, List.contains_cons]
    congr 1
    show (c == k) = (k == c)
    rw [Bool.eq_iff_iff, beq_iff_eq, beq_iff_eq]
    exact ⟨Eq.symm, Eq.symm⟩
theorem flat_ints : ∀ cs : List Int, (cs.map V.int).all flatV = true
  | [] => rfl
  | c :: cs => by
    rw [List.map_cons, List.all_cons, flat_ints cs]
    rfl
end CK
namespace FR
open PySem PySem.Spec PyProof.Rows L2 VG
theorem mul_low {p q : Q2} (hp : 0 < p.2) (hq : 0 < q.2) : p.2 * q.2 ≠ 0 := Int.mul_ne_zero (by omega) (by omega)
theorem seqT_upd {K : PySem.W.Frag} {H : Hp} {D t : Addr} {xs ys : List V} {zs : List V} (hD : H D = some (.lst ys)) (h : SqT K H t xs) : SqT K (upd H D (.lst zs)) t xs := by
  rcases h with (h | ⟨o, h⟩) | h
  · refine .inl (.inl ?_)
    rw [upd_ne (by intro e; subst e; rw [hD] at h; cases h)]
    exact h
  · refine .inl (.inr ⟨o, ?_⟩)
    rw [upd_ne (by intro e; subst e; rw [hD] at h; cases h)]
    exact h
  · exact .inr h
theorem Frs.upd {K : PySem.W.Frag} {H : Hp} {D : Addr} {ys zs : List V} (hD : H D = some (.lst ys)) : ∀ {vs : List V} {ps : List Q2}, Frs K H vs ps → Frs K (L2.upd H D (.lst zs)) vs ps
  | [], [], _ => trivial
  | _ :: _, _ :: _, ⟨⟨t, e1, h⟩, r⟩ => ⟨⟨t, e1, seqT_upd hD h⟩, r.upd hD⟩
  | [], _ :: _, h => h.elim
  | _ :: _, [], h => h.elim
section
variable {P : Program} {w : World} {K : PySem.W.Frag} {mg : Str → Option Value} {base : Heap}
def spInitW (K : PySem.W.Frag) (C : Addr) (fld : Str) : Sp := fun vs H Q _ => ∃ (a : Addr) (v : V), vs = [.ref a, v] ∧ H a = some (exo a C none) ∧ ∀ dx, H dx = none → dx ≠ a → Q .non (upd (upd H dx (exd dx [(fld, v)])) a (exo a C (some dx)))
/-- fraction_of: with a bottom of 0 it lets an error out -/
def spFrac (C : Addr) : Sp := fun vs H Q E => ∃ a b : Int, vs = [.int a, .int b] ∧ a.natAbs < 2 ^ 8000 ∧ b.natAbs < 2 ^ 8000 ∧ (b ≠ 0 → ∀ H' u, Same H H' → H u = none → H' u = some (.tup (pV (M2.mk a b))) → Q (.ref u) H') ∧
  (b = 0 → ∀ H' d, Same H H' → H d = none → H' d = some (.xd [((("word" : String) : Str), .str (("bottom" : String) : Str))]) → E (.ref C) (some d) H')
def timeQ (p q : Q2) : Q2 := M2.mk (p.1 * q.1) (p.2 * q.2)
def spTimed (K : PySem.W.Frag) : Sp := fun vs H Q _ => ∃ (s t : Addr) (p q : Q2), vs = [.ref s, .ref t] ∧ SqT K H s (pV p) ∧ SqT K H t (pV q) ∧ 0 < p.2 ∧ 0 < q.2 ∧ Bt 3000 p ∧ Bt 3000 q ∧
  ∀ H' u, Same H H' → H u = none → H' u = some (.tup (pV (timeQ p q))) → Q (.ref u) H'
end
def gtQ (p q : Q2) : Bool := lessQ q p
end FR
namespace CK
open PySem PySem.Spec PyProof.Rows L2 VG FR
def LotOk (n : Int) (c : List Int) : Prop := c.length ≤ 1000 ∧ (∀ x ∈ c, 0 ≤ x ∧ x < n) ∧ Asc c
def spCheckTotals (K : PySem.W.Frag) : Sp := fun vs H Q _ => ∃ (t : Addr) (xs : List V) (ts : List (List Int)) (n : Int), vs = [.ref t, .int n] ∧ SqT K H t xs ∧ Tots K H xs ts ∧ ts.length ≤ 12 ∧ (∀ c ∈ ts, LotOk n c) ∧ ∀ H', Same H H' → Q .non H'
end CK
namespace VG
open PySem PySem.Spec PyProof.Rows L2
end VG
namespace VG
open PySem PySem.Spec PyProof.Rows L2
structure FnG (P : Program) (w : World) (K : PySem.W.Frag) (mg : Str → Option Value) (base : Heap) (k : Nat) (f : Addr) (fd : FuncData) (ps : List Str) (sp : Sp) : Prop where
  len : ∀ vs H Q E, sp vs H Q E → vs.length = ps.length
  run : ∀ (A : Around) (outer : List Env) (s : Shared) (H : Hp) (args : Args) (us : List Value) (vs : List V) (Q : VK) (E : XK),
    A.guards = some [] → Room k A → Env0 P w K mg base A outer s H → BindsTo s fd args (ps.zip us) → Vals vs us → sp vs H Q E →
    codeAny (model P w) A (.call (.ref f) args) (CR CX0 outer P w H s Q E) s
section
variable {P : Program} {w : World} {K : PySem.W.Frag} {mg : Str → Option Value} {base : Heap}
theorem fnG_of {k : Nat} {f : Addr} {x qual : Str} {st : Stmt} {fd : FuncData} {N ps : List Str} {sp : Sp} (F : Fun K x qual st f fd) (S : FnScope N ps (defScope st))
    (hlen : ∀ vs H Q E, sp vs H Q E → vs.length = ps.length)
    (hb : ∀ (cdv : Value) (A : Around) (outer : List Env) (s : Shared) (H : Hp) (vs : List V) (Q : VK) (E : XK), A.guards = some [] →
      Room k (A.deeper (envOfC qual (defScope st) s.heap.objs.size f cdv)) → sp vs H Q E →
      ∃ t, PSs (cxOf CX0 P w K mg base N qual (defScope st) f cdv A outer s H E).nox (defBody st) t ∧ t { nx := fun _ H' => Q .non H', rt := Q } (start N vs) H) :
    FnG P w K mg base (k + 1) f fd ps sp := by
  obtain ⟨oc, od, kV, doc, pm, an, cdv, ct, osl, rfl, lk, hcd⟩ := F.ex
  constructor
  · exact hlen
  · intro A outer s H args us vs Q E hg hr e0 hbi r hsp
    have nl := hlen _ _ _ _ hsp
    have inK : K.In s.heap := e0.mod.kin.keeps fun b o z => (e0.bs b o z).1
    have noL : s.heap.NoLimit := e0.mod.nolimit.keeps fun b o z => (e0.bs b o z).1
    have kinds : ∀ y ∈ ps.zip us, (defScope st).names.lookup y.1 = some .local ∨
        ((defScope st).names.lookup y.1 = some .cell ∧ ((cellsFrom (s.heap.objs.size + 1) (defScope st).names []).lookup y.1).isSome = true) := by
      intro y hy
      obtain ⟨n, v⟩ := y
      cases S.par n (List.of_mem_zip hy).1 with
      | inl q => exact Or.inl q
      | inr q => exact Or.inr ⟨q, PySem.W.cellsFrom_some _ _ _ (.inl q)⟩
    apply codeAny_call_function hr.depth (inK _ _ lk) rfl S.co S.gen rfl (PySem.W.codeRec_of inK hcd) (hbi _ _ _ _ _)
    apply wpAny_newFunctionEnv_cells S.kind kinds
    intro env he s1 xx
    subst he
    refine And.intro (noL.keeps xx.toInCall.keep) (codeAny_func ?_)
    obtain ⟨t, ht, hq⟩ := hb cdv A outer s H vs Q E hg (hr.deeper _) hsp
    have I := inv_start (CX := CX0) (P := P) (w := w) (E := E) S hr.hd e0 nl r xx
    apply wpAny_mono (ht.nox.run [] s1 (start N vs) H _ I hq)
    · intro fl s' hs
      cases fl with
      | ret u =>
        obtain ⟨v, σ', H', J, rv, q⟩ := hs
        exact ⟨v, H', J.os, J.bare, J.base, J.hok, rv, q⟩
      | next =>
        obtain ⟨σ', H', J, q⟩ := hs
        exact ⟨V.non, H', J.os, J.bare, J.base, J.hok, rfl, q⟩
      | brk =>
        obtain ⟨_, _, _, q⟩ := hs
        exact False.elim q
      | cont =>
        obtain ⟨_, _, _, q⟩ := hs
        exact False.elim q
    · intro e s' hs
      exact hs
end
theorem law_callG {P : Program} {w : World} {K : PySem.W.Frag} {mg mb : Str → Option Value} {k : Nat} {fa a : Addr} {fd : FuncData} {x : Str} {sp : Sp} {s₁ : Shared} {vs : List Value} {ns : List Int}
    (KX : K.In s₁.heap) (hns : s₁.heap.Ns mainGlobals mg) (hb : s₁.heap.Ns builtinsNs mb) (hbb : ∀ x : Str, x ≠ "__name__" → mb x = bootBuiltins x) (hlim : s₁.heap.NoLimit) (hg : s₁.gens = #[])
    (ha : s₁.heap.get? a = some { cls := .type "list", data := .seq vs.toArray }) (hi : IntsAre vs ns) (hl : ns.length ≤ sizeLine) (hr : Room k callerA)
    (F : ∀ base : Heap, K.In base → base.Ns mainGlobals mg → FnG P w K mg base k fa fd [x] sp) (hbind : ∀ (s : Shared) (u : Value), BindsTo s fd ⟨[u], []⟩ [(x, u)])
    (hsp : ∀ H : Hp, Only H → SqL K H a (ns.map V.int) → sp [.ref a] H (fun v _ => v = .bl true) fun _ _ _ => False) :
    codeAny (model P w) callerA (.call (.ref fa) ⟨[.ref a], []⟩) (fun r s' => r = .ok (.ret (.bool true)) ∧ OldK s₁.heap s'.heap ∧ s'.os = s₁.os ∧ AllBare s'.gens) s₁ := by
  have rv := vals_ints hi
  have nV := hi.length
  have main : ∀ H : Hp, Only H → SqL K H a (ns.map V.int) → HOk P w H s₁.heap → (∀ b, H b ≠ none → b = a) → (H a ≠ none → K.lookup a = none) →
      codeAny (model P w) callerA (.call (.ref fa) ⟨[.ref a], []⟩) (fun r s' => r = .ok (.ret (.bool true)) ∧ OldK s₁.heap s'.heap ∧ s'.os = s₁.os ∧ AllBare s'.gens) s₁ := by
    intro H hO hS hok hA hK
    have only : ∀ {b : Addr}, b ≠ a → H b = none := by
      intro b hne
      cases q : H b with
      | none => rfl
      | some u => exact absurd (hA b (by rw [q]; exact Option.some_ne_none u)) hne
    have nsK : ∀ {b : Addr} {m : Str → Option Value}, s₁.heap.Ns b m → (hidT s₁.heap H).Ns b m := by
      intro b m z
      obtain ⟨o, es, ep, e, d, r⟩ := z
      refine ⟨o, es, ep, hidT_get e (only ?_), d, r⟩
      intro z
      subst z
      rw [ha] at e
      cases e
      cases d
    have inB : K.In (hidT s₁.heap H) := by
      intro b o e
      refine hidT_get (KX b o e) ?_
      cases q : H b with
      | none => rfl
      | some u =>
        have hb2 : b = a := hA b (by rw [q]; exact Option.some_ne_none u)
        subst hb2
        have := hK (by rw [q]; exact Option.some_ne_none u)
        rw [this] at e
        cases e
    have hM : Mod K mg (hidT s₁.heap H) := ⟨inB, nsK hns, ⟨mb, nsK hb, hbb⟩, by
      obtain ⟨mc, h1, h2⟩ := hlim
      exact ⟨mc, nsK h1, h2⟩⟩
    have e0 : Env0 P w K mg (hidT s₁.heap H) callerA [] s₁ H :=
      ⟨rfl, hM, fun b o e => of_hidT e, Nat.le_of_eq (hidT_size _ _), trivial, fun b hb => absurd (show b ∈ ([] : List Addr) from hb) List.not_mem_nil, hok, .of_eq hg⟩
    have run := (F _ inB (nsK hns)).run callerA [] s₁ H ⟨[.ref a], []⟩ [.ref a] [.ref a] _ _ rfl hr e0 (hbind s₁ (.ref a)) (.cons rfl .nil) (hsp H hO hS)
    apply codeAny_mono run
    intro r s' h
    match r, h with
    | .ok (.ret u), h =>
      obtain ⟨v, H', os, bare, un, hok', r', q⟩ := h
      have q' : v = .bl true := q
      subst q'
      have r2 : u = Value.bool true := r'
      subst r2
      refine ⟨rfl, OldK.of_keep ?_, os, bare⟩
      intro b o e
      cases q : H b with
      | none => exact un.keep b o e q (fun z => absurd (show b ∈ ([] : List Addr) from z) List.not_mem_nil) List.not_mem_nil
      | some u =>
        rcases hO b with z | ⟨ob, xs, z⟩
        · rw [q] at z
          cases z
        · have z2 := un.frzs b ob _ z
          have w1 := (hok b _ z).1
          have w2 := (hok' b _ z2).1
          rw [e] at w1
          cases w1
          exact w2
  cases hk : K.lookup a with
  | some o =>
    have e := KX a o hk
    rw [ha] at e
    cases e
    refine main (fun _ => none) (fun _ => .inl rfl) (.inr ⟨_, vs.toArray, _, hk, rfl, rfl, rfl, ?_, ?_⟩) (fun b u z => ?_) (fun b z => absurd rfl z) (fun z => absurd rfl z)
    · rw [List.size_toArray, nV]
      exact hl
    · simpa using rv
    · exact absurd (show (none : Option HO) = some u from z) (Option.some_ne_none u).symm
  | none =>
    refine main (fun b => if b = a then some (.frz { cls := .type "list", data := .seq vs.toArray } (.lst (ns.map V.int))) else none) ?_ (.inl (.inr ⟨{ cls := .type "list", data := .seq vs.toArray }, if_pos rfl⟩)) ?_ ?_ (fun _ => hk)
    · intro b
      by_cases hb : b = a
      · exact .inr ⟨_, _, if_pos hb⟩
      · exact .inl (if_neg hb)
    · intro b u z
      by_cases hb : b = a
      · subst hb
        have z' := (if_pos rfl).symm.trans z
        cases z'
        refine ⟨ha, ?_, vs, _, rv, ha⟩
        rw [List.length_map]
        exact hl
      · have z' := (if_neg hb).symm.trans z
        cases z'
    · intro b z
      by_cases hb : b = a
      · exact hb
      · exact absurd (if_neg hb) z
theorem walk_G {l : PySem.W.OpenLaw} {n k : Nat} {q : Program} {loose : List Str} {XP : (Str → Option Value) → Heap → Prop} {YP : World → Heap → Prop} {d : DefRec} {K : Params → PySem.W.Frag} {sp : World → Sp} {x : Str}
    (hn : l.most = some n) (hn2 : n ≤ sizeLine) (hdf : d.params.defaults = []) (hr : Room k callerA)
    (hY : ∀ (w : World) (h : Heap), YP w h → (K w.params).In h)
    (F : ∀ (w : World) (mg : Str → Option Value) (fa : Addr) (h : Heap), (K w.params).In h → h.Ns mainGlobals mg → mg d.name = some (.ref fa) →
      ∃ fd : FuncData, (∀ (s : Shared) (u : Value), BindsTo s fd ⟨[u], []⟩ [(x, u)]) ∧
        ∀ base : Heap, (K w.params).In base → base.Ns mainGlobals mg → FnG l.prog w (K w.params) mg base k fa fd [x] (sp w))
    (hsp : ∀ (w : World) (H : Hp) (a : Addr) (ns : List Int), ns.length ≤ n → (∀ z ∈ ns, Builtin.Int.intBits z ≤ 1048576) → Only H → SqL (K w.params) H a (ns.map V.int) → sp w [.ref a] H (fun v _ => v = .bl true) fun _ _ _ => False) :
    PySem.W.WalkO q loose XP YP l.row.toRowW d [] (fun f vs => PySem.call f vs) := by
  apply Att.attach_callB hn hdf
  intro w s₀ s₁ mg mb fa o pm cd doc a vs ns G Y ho hd hcd hmg hobj hints hlen hbits hg
  have KX := hY w _ Y
  obtain ⟨fd, hb, hF⟩ := F w mg fa _ KX G.T.g hmg
  exact law_callG KX G.T.g G.T.b G.T.builtins G.T.nolimit hg hobj hints (Nat.le_trans hlen hn2) hr hF hb fun H hO hS => hsp w H a ns hlen hbits hO hS
end VG
namespace VG
open PySem PySem.Spec PyProof.Rows L2
structure ClG (P : Program) (w : World) (K : PySem.W.Frag) (mg : Str → Option Value) (base : Heap) (k : Nat) (x : Str) (sp : Sp) : Prop where
  ex : ∃ (f : Addr) (fd : FuncData) (ps : List Str), FnG P w K mg base k f fd ps sp ∧ mg x = some (.ref f) ∧ PySem.W.keepIn K (.ref f) = true ∧ Binds K fd ps []
section
variable {X : Cx} {k j : Nat} {x : Str} {sp : Sp} {p pos : Pos} {e : Expr} {es : List Expr} {t : TA}
theorem run_clg {f : Addr} {fd : FuncData} {ps : List Str} {pins : List (Addr × Obj)} {σ : L2.St} {H : Hp} {s : Shared} {Q : VK} {us : List Value} {vs : List V} (F : FnG X.prog X.w X.K X.mg X.base k f fd ps sp) (hg : X.A.guards = some []) (hr : Room k X.A)
    (hb : Binds X.K fd ps []) (I : Inv X pins σ H s) (r : Vals vs us) (h : sp vs H Q E0) : wpAny (model X.prog X.w) X.A (call (.ref f) us) (EP X pins σ Q) X.xe s := by
  have hl : us.length = ps.length := by
    rw [← r.length]
    exact F.len _ _ _ _ h
  have hb2 := hb s us I.kIn (by rw [List.append_nil]; exact hl)
  rw [List.append_nil] at hb2
  apply wpAny_call
  apply codeAny_mono (F.run X.A X.stack s H ⟨us, []⟩ us vs Q E0 hg hr I.env0 hb2 r h)
  intro rr s' hq
  match rr, hq with
  | .ok (.ret u), hq => exact I.after hq
theorem pe_clg (c : ClG X.prog X.w X.K X.mg X.base k x sp) (hgd : X.A.guards = some []) (hr : Room j X.A) (hk : k ≤ j) (hg : Gl X x) (ha : PA X (e :: es) t)
    (h1 : (x == ("__debug__" : Str)) = false := by decide) (h2 : starEach (e :: es) X.env = (false, eval e X.env) :: starEach es X.env := by rfl)
    (h3 : (backTo pos (starEach es X.env)).any (·.1) = false := by rfl) : PE X (.Call (.Name x p) (e :: es) [] pos) (tCall sp [] E0 t) := by
  obtain ⟨f, fd, ps, F, m, kp, b⟩ := c.ex
  constructor
  intro pins s σ H Q I h
  apply wpAny_Call_Name_kw
  apply ld_glob I hg m _ h1
  apply PySem.W.callWith_K (h₀ := X.base) I.ok.mod.kin kp _ h2 h3
  apply thn (ha.run pos pins s σ H _ I h)
  intro us s1 hh
  obtain ⟨vs, H1, I1, r, q⟩ := hh
  refine And.intro I1.kIn ?_
  exact run_clg F hgd (hr.mono hk) b I1 r (by rw [← List.append_nil vs]; exact q)
end
end VG
namespace VG
open PySem PySem.Spec PyProof.Rows L2
structure ClR (P : Program) (w : World) (K : PySem.W.Frag) (mg : Str → Option Value) (base : Heap) (k : Nat) (x : Str) (ks : List Str) (sp : Sp) : Prop where
  ex : ∃ (f : Addr) (fd : FuncData) (ps : List Str), FnOk P w K mg base CX0 k f fd ps sp ∧ mg x = some (.ref f) ∧ PySem.W.keepIn K (.ref f) = true ∧ KBinds K fd ps ks (fun us ws => us ++ ws.reverse) (fun vs zs => vs ++ zs.reverse)
section
variable {X : Cx} {k j : Nat} {x : Str} {sp : Sp} {p pos : Pos} {kws : List Keyword} {ks : List Str} {tk : TA}
def tCallKR (sp : Sp) (tk : TA) : TE := fun σ H Q => tk σ H fun zs H2 => sp zs.reverse H2 Q E0
theorem pe_clr (c : ClR X.prog X.w X.K X.mg X.base k x ks sp) (hr : Room j X.A) (hk : k ≤ j) (hg : Gl X x) (hkw : PK X kws tk)
    (h1 : (backToKw pos (keywordEach kws X.env)).all (·.1.isSome) = true := by rfl) (h2 : (backToKw pos (keywordEach kws X.env)).filterMap (·.1) = ks := by rfl)
    (h3 : (x == ("__debug__" : Str)) = false := by decide) (h4 : ((backTo pos (starEach [] X.env)).any (·.1) || (backToKw pos (keywordEach kws X.env)).any (·.1.isNone)) = false := by rfl) :
    PE X (.Call (.Name x p) [] kws pos) (tCallKR sp tk) := by
  obtain ⟨f, fd, ps, F, m, kp, b⟩ := c.ex
  constructor
  intro pins s σ H Q I h
  apply wpAny_Call_Name_kw
  apply ld_glob I hg m _ h3
  apply PySem.W.callWith_KW0 (h₀ := X.base) I.ok.mod.kin kp h1 _ h4
  apply thn (hkw.run pos pins s σ H _ I h)
  intro ws s2 hh
  obtain ⟨zs, H2, I2, rz, q2⟩ := hh
  refine And.intro I2.kIn ?_
  rw [h2]
  exact run_fnk (us := []) (vs := []) F (hr.mono hk) b pass0 I2 .nil rz q2
end
theorem vals_rev : ∀ {zs : List V} {ws : List Value}, Vals zs ws → Vals zs.reverse ws.reverse
  | _, _, .nil => .nil
  | _, _, .cons r rr => by
    rw [List.reverse_cons, List.reverse_cons]
    exact (vals_rev rr).append (.cons r .nil)
end VG
namespace FR
open PySem PySem.Spec PyProof.Rows L2 VG HD
theorem seqTK {K : PySem.W.Frag} {H H' : Hp} {p q t : Addr} {xs : List V} (hd : Hd p q H) (kp : Keep p q H H') (h : SqT K H t xs) : SqT K H' t xs := by
  rcases h with (h | ⟨o, h⟩) | h
  · have n := hd.neOf h (fun ys z => by cases z)
    exact .inl (.inl (kp _ _ n.1 n.2 h))
  · have n := hd.neOf h (fun ys z => by cases z)
    exact .inl (.inr ⟨o, kp _ _ n.1 n.2 h⟩)
  · exact .inr h
/-- Euclid's steps -/
theorem half {x y : Nat} (h : y < x) (h0 : 0 < y) : 2 * (x % y) < x := by
  have h1 := Nat.mod_lt x h0
  have h2 := Nat.div_add_mod x y
  have h3 : 1 ≤ x / y := (Nat.one_le_div_iff h0).mpr (Nat.le_of_lt h)
  have h4 : y * 1 ≤ y * (x / y) := Nat.mul_le_mul_left y h3
  omega
/-- before the i-th step -/
def Eu (g0 : Nat) (i x y : Nat) : Prop := Nat.gcd x y = g0 ∧ y * 2 ^ (i / 2) < 2 ^ 900 ∧ (1 ≤ i → y < x ∧ x * 2 ^ ((i - 1) / 2) < 2 ^ 900)
theorem Eu.step {g0 i x y : Nat} (h : Eu g0 i x y) (h0 : 0 < y) : Eu g0 (i + 1) y (x % y) := by
  obtain ⟨h1, h2, h3⟩ := h
  have hm := Nat.mod_lt x h0
  refine ⟨?_, ?_, fun _ => ⟨hm, ?_⟩⟩
  · rw [← h1, Nat.gcd_comm x y, Nat.gcd_rec y x, Nat.gcd_comm]
  · by_cases hi : 1 ≤ i
    · obtain ⟨h4, h5⟩ := h3 hi
      have h6 := half h4 h0
      have e : (i + 1) / 2 = (i - 1) / 2 + 1 := by omega
      rw [e, Nat.pow_succ]
      have h7 : 2 * (x % y) * 2 ^ ((i - 1) / 2) < x * 2 ^ ((i - 1) / 2) := Nat.mul_lt_mul_of_pos_right h6 (Nat.two_pow_pos _)
      have h8 : x % y * (2 ^ ((i - 1) / 2) * 2) = 2 * (x % y) * 2 ^ ((i - 1) / 2) := by
        simp only [Nat.mul_comm, Nat.mul_left_comm, Nat.mul_assoc]
      omega
    · have e : i = 0 := by omega
      subst e
      show x % y * 1 < 2 ^ 900
      have h2' : y * 1 < 2 ^ 900 := h2
      omega
  · show y * 2 ^ ((i + 1 - 1) / 2) < 2 ^ 900
    rw [Nat.add_sub_cancel]
    exact h2
end FR
namespace FR
open PySem PySem.Spec PyProof.Rows L2 VG HD
theorem iteNe {x y : V} {A B : Prop} (e : x = y) (h : B) : if (!decide (x = y)) = true then A else B := by
  rw [decide_eq_true e]
  exact iteF h
end FR
namespace FR
open PySem PySem.Spec PyProof.Rows L2 VG HD
theorem ite_eq {c : Bool} (b : Bool) {A B : Prop} (e : c = b) (h : if b = true then A else B) : if c = true then A else B := by
  rw [e]
  exact h
end FR
namespace CK
open PySem PySem.Spec PyProof.Rows L2 VG FR
abbrev cLETTERS : Str := "abcdefghijklmnopqrstuvwxyz"
theorem in_letters (c : Nat) : c ∈ cLETTERS.cps.toList ↔ 97 ≤ c ∧ c ≤ 122 := by
  have e : cLETTERS.cps.toList = (List.range 26).map (· + 97) := by decide +kernel
  rw [e, List.mem_map]
  constructor
  · rintro ⟨a, ha, rfl⟩
    have := List.mem_range.mp ha
    omega
  · intro h
    exact ⟨c - 97, List.mem_range.mpr (by omega), by omega⟩
def NameOk (z : Str) : Prop := 1 ≤ z.cps.size ∧ z.cps.size ≤ 6 ∧ ∀ c ∈ z.cps.toList, 97 ≤ c ∧ c ≤ 122
def spName : Sp := fun vs H Q _ => ∃ z : Str, vs = [.str z] ∧ NameOk z ∧ ∀ H', Same H H' → Q (.bl true) H'
def spNames (K : PySem.W.Frag) : Sp := fun vs H Q _ => ∃ (t : Addr) (ks : List Str), vs = [.ref t] ∧ SqT K H t (ks.map V.str) ∧ ks.length ≤ 1000 ∧ (∀ z ∈ ks, NameOk z) ∧ ∀ H', Same H H' → Q (.bl true) H'
def AscS (ks : List Str) : Prop := ∀ (i : Nat) (a b : Str), ks[i]? = some a → ks[i + 1]? = some b → a.cps.toList < b.cps.toList
theorem asc_strs {ks : List Str} (h : AscS ks) : AscV (ks.map V.str) := by
  intro i x y hx hy
  rw [List.getElem?_map] at hx hy
  obtain ⟨a, ea, rfl⟩ := Option.map_eq_some_iff.mp hx
  obtain ⟨b, eb, rfl⟩ := Option.map_eq_some_iff.mp hy
  exact .inr ⟨a, b, rfl, rfl, h i a b ea eb⟩
def KindsOk (ks : List Str) : Prop := 1 ≤ ks.length ∧ ks.length ≤ 12 ∧ (∀ z ∈ ks, NameOk z) ∧ AscS ks
def spCheckKinds (K : PySem.W.Frag) : Sp := fun vs H Q _ => ∃ (t : Addr) (ks : List Str), vs = [.ref t] ∧ SqT K H t (ks.map V.str) ∧ KindsOk ks ∧ ∀ H', Same H H' → Q .non H'
end CK
namespace CK
open PySem PySem.Spec PyProof.Rows L2 VG FR
/-- __init__ of a right table, at a new instance -/
def spInitT (K : PySem.W.Frag) (C : Addr) : Sp := fun vs H Q _ => ∃ (a dx k t : Addr) (ks : List Str) (xs : List V) (ts : List (List Int)), vs = [.ref a, .ref k, .ref t] ∧ H a = some (.ins C dx []) ∧ SqT K H k (ks.map V.str) ∧ KindsOk ks ∧ SqT K H t xs ∧ Tots K H xs ts ∧ ts.length ≤ 12 ∧
  (∀ c ∈ ts, LotOk ks.length c) ∧ ∀ H', (∀ b o, b ≠ a → H b = some o → H' b = some o) → H' a = some (.ins C dx [((("kinds" : String) : Str), .ref k), ((("totals" : String) : Str), .ref t)]) → Q .non H'
end CK
namespace K2
open PySem PySem.Spec PyProof.Rows L2 VG FR HD
theorem cut_ints (ns : List Int) (lo hi : Option Int) : ∃ ms : List Int, cutV (ns.map V.int) lo hi = ms.map V.int ∧ ms.length ≤ ns.length := by
  refine ⟨(ns.drop (HT.sIx (ns.map V.int).length 0 lo)).take (HT.sIx (ns.map V.int).length (ns.map V.int).length hi - HT.sIx (ns.map V.int).length 0 lo), ?_, ?_⟩
  · unfold cutV
    rw [List.map_take, List.map_drop]
  · rw [List.length_take, List.length_drop]
    omega
end K2
namespace CK
open PySem PySem.Spec PyProof.Rows L2 VG FR HD
def spHeapF (K : PySem.W.Frag) : Sp := fun vs H Q _ => ∃ (a : Addr) (ns : List Int), vs = [.ref a] ∧ SqL K H a (ns.map V.int) ∧ ns.length ≤ 63 ∧ ∀ H' p q, Hd p q H' → Same H H' → H p = none → H q = none → Q (.ref p) H'
end CK
namespace VG
open PySem PySem.Spec PyProof.Rows L2
abbrev emptyS (w : World) : Obj := ⟨.type "set", none, .set #[] 0 (.fresh 0 0 (!w.params.followText "set-order")), #[]⟩
section
variable {P : Program} {w : World} {A : Around} {E : Value → Shared → Prop} {s : Shared}
set_option maxHeartbeats 6400000 in
theorem set_listI {l : Addr} {us : Array Value} (ks : List Int) {Q : Value → Shared → Prop} (calm : A.handled = none) (hl : s.heap.IsList l us) (hi : IntsAre us.toList ks) (room : ks.length + 1 < scanBound)
    (fin : ∀ (hp : Heap) (tk c : Nat), SetR w hp s.heap.objs.size (fun j => decide (j ∈ ks)) c → c ≤ ks.length → (∀ b o, s.heap.get? b = some o → hp.get? b = some o) → Q (.ref s.heap.objs.size) { s with heap := hp, toks := tk }) :
    wpAny (model P w) A (call (.type "set") [.ref l]) Q E s := by
  have size : us.size = ks.length := by have z := IntsAre.length hi; rw [Array.length_toList] at z; exact z
  obtain ⟨cc, tl, mro⟩ := F.called_set.mro; have made := F.called_set.made; have sub := F.called_set.sub
  refine wpAny_call (codeAny_of_tree ?_); show wpAny _ _ (callAny (.type "set") _) _ _ _
  refine wpAny_pure ⟨Code.quiet_builtin _ (by decide +kernel), codeAny_builtin F.entry_type_call ?_⟩; rw [Around.under_plain (weight_type_call_type "set" [.ref l] []) rfl]
  have nt := F.called_set.notType; have cr := F.called_set.canCreate; have tc := F.typeCall_set_1 (.ref l)
  repeat (any_goals (first | assumption | wp_step))
  refine codeAny_mono (code_set_led1 (.ref l) (E := E) (Q₁ := fun obj s₁ => obj = .ref s.heap.objs.size ∧ s₁ = { s with heap := s.heap.push (emptyS w) }) ⟨rfl, rfl⟩) fun r s₁ got => ?_
  match r, got with
  | .error e, got => exact got
  | .ok (.ret obj), got =>
    obtain ⟨rfl, rfl⟩ := got
    have new : (s.heap.push (emptyS w)).get? s.heap.objs.size = some (emptyS w) := Heap.get?_push_size _ rfl
    have ty : Shared.TypeIs { s with heap := s.heap.push (emptyS w) } (.ref s.heap.objs.size) "set" := ⟨_, new, rfl⟩
    have il := F.called_set.init.lookup; have ib := F.called_set.init.bind (.ref s.heap.objs.size)
    repeat (any_goals (first | assumption | wp_step))
    refine codeAny_mono (codeAny_call_builtin (R := wants (fun r t => r = .none ∧ ∃ hp tk c, t = { s with heap := hp, toks := tk } ∧ SetR w hp s.heap.objs.size (fun j => decide (j ∈ ks)) c ∧ c ≤ ks.length ∧
      (∀ b o, s.heap.get? b = some o → hp.get? b = some o)) E) F.called_set.init.plain F.entry_set_init (check_set_init_1 ty ?_)) fun r₂ t got2 => ?_
    · obtain ⟨⟨cls, dict, data, slots⟩, at_, hc, nl, hd⟩ := hl
      simp only at hc hd
      subst hc hd
      have at2 : (s.heap.push (emptyS w)).get? l = some { cls := .type "list", dict := dict, data := .seq us nl, slots := slots } := Heap.get?_push_of_some _ at_
      have hsls := F.sub_list_set; have hslf := F.sub_list_frozenset; have hne : (Value.type "list" == Value.type "dict") = false := by decide
      have isl : (s.heap.push (emptyS w)).IsList l us := ⟨_, at2, rfl, nl, rfl⟩
      unfold Builtin.«set.__init__» noKeywords Builtin.Frozenset.updateFrom; generalize hPI : pyIter = PI
      wp_walk
      subst hPI
      refine wpAny_pyIter_list isl ?_
      refine wpAny_bind (wpAny_runValue ?_)
      have ls : l < s.heap.objs.size := Heap.lt_size at_; have calm3 : A.in1.in1.in1.handled = none := by simp [calm]
      have ps : (s.heap.push (emptyS w)).objs.size = s.heap.objs.size + 1 := Heap.size_push ..
      have nI : l ≠ (s.heap.push (emptyS w)).objs.size := by rw [ps]; exact Nat.ne_of_lt (Nat.lt_succ_of_lt ls)
      have nS : s.heap.objs.size ∉ [(s.heap.push (emptyS w)).objs.size, l] := by
        rw [ps]
        intro z
        rcases List.mem_cons.mp z with z | z
        · exact Nat.ne_of_lt (Nat.lt_succ_self _) z
        · exact Nat.ne_of_gt ls (List.mem_singleton.mp z)
      have val : ∀ (i : Nat) (v : Value), us[i]? = some v → ∃ k t, ks[i]? = some k ∧ v = .int k t := by
        intro i v hv
        have il : i < ks.length := by rw [← size]; exact (Array.getElem?_eq_some_iff.mp hv).1
        obtain ⟨t, e⟩ := PyProof.Rows.IntsAre.int_at hi i v (by rw [Array.getElem?_toList]; exact hv)
        exact ⟨ks[i], t, List.getElem?_eq_getElem il, by rw [e, List.getD_eq_getElem?_getD, List.getElem?_eq_getElem il] <;> rfl⟩
      refine set_update_ints ((Walks.list calm3 _ l nI us).toS) s.heap.objs.size nS ks size room val (us.size - 0) 0 _ (by omega) (Nat.zero_le _) ⟨⟨_, Heap.get?_push_size _ rfl, rfl, rfl⟩, (isl.push _)⟩ ⟨0, Nat.le_refl 0, setR_new_at (Heap.get?_push_of_some _ new)⟩ ?_
      intro s' c' hm hc' hS'
      obtain ⟨hp, g2, d2, tk2, os2⟩ := s'
      have eg : g2 = s.gens := hm.gens; have ed : d2 = s.drawn := hm.drawn; have eo : os2 = s.os := hm.os
      subst eg ed eo
      refine wpAny_pure ?_
      show wpAny _ _ (ret Value.none) _ _ _
      refine wpAny_pure ⟨rfl, hp, tk2, c', rfl, hS', by rw [← size]; exact hc', fun b o e => ?_⟩
      have b0 : b < s.heap.objs.size := Heap.lt_size e
      refine hm.heap b o ?_ (Heap.get?_push_of_some _ (Heap.get?_push_of_some _ e))
      intro z
      rcases List.mem_cons.mp z with z | z
      · exact Nat.ne_of_lt b0 z
      · have z := List.mem_singleton.mp z
        rw [ps] at z
        exact Nat.ne_of_lt (Nat.lt_succ_of_lt b0) z
    · match r₂, got2 with
      | .error e, got2 => exact got2
      | .ok (.ret r), got2 =>
        obtain ⟨rfl, hp, tk, c, rfl, a1, a2, a3⟩ := got2
        repeat (any_goals (first | assumption | wp_step))
        exact fin _ _ _ a1 a2 a3
      | .ok .next, got2 => exact got2.elim
      | .ok .brk, got2 => exact got2.elim
      | .ok .cont, got2 => exact got2.elim
  | .ok .next, got => exact got.elim
  | .ok .brk, got => exact got.elim
  | .ok .cont, got => exact got.elim
end
section
variable {X : Cx}
def rSetL (K : PySem.W.Frag) (w : World) : List V → Hp → VK → Prop := fun vs H Q => ∃ (a : Addr) (ks : List Int), vs = [.ref a] ∧ SqL K H a (ks.map V.int) ∧ ks.length ≤ 1000 ∧ ∀ (p : Addr) (c : Nat), H p = none → c ≤ ks.length → Q (.ref p) (upd H p (SetO w p (fun j => decide (j ∈ ks)) c))
theorem cr_setL (hc : X.calm = true) : CallR X (.type "set") (rSetL X.K X.w) := by
  intro pins s σ H vs us Q I r h
  obtain ⟨a, ks, rfl, hS, hl, q⟩ := h
  rw [Vals.ref1 r]
  obtain ⟨its, rv, pl, hz⟩ := I.list hS
  have hi : IntsAre its.toArray.toList ks := ints_of_vals rv
  refine set_listI ks (I.ok.hd hc) pl.isList hi (by unfold scanBound; omega) fun hp tk c R hcn kp => ?_
  have fr : H s.heap.objs.size = none := I.hok.fresh (Nat.le_refl _)
  exact ⟨.ref _, upd H s.heap.objs.size (SetO X.w s.heap.objs.size (fun j => decide (j ∈ ks)) c), I.laid (t' := tk) kp (Nat.le_refl _) (setO_new R), rfl, q _ c fr hcn⟩
end
end VG
namespace VG
open PySem PySem.Spec PyProof.Rows L2
section
variable {X : Cx}
def rLenK (K : PySem.W.Frag) : List V → Hp → VK → Prop := fun xs H Q => ∃ p ys, xs = [V.ref p] ∧ (SqL K H p ys ∨ SqT K H p ys) ∧ Q (.int ys.length) H
theorem call_lenK : CallR X (.builtin "len") (rLenK X.K) := call_len_seq
end
end VG
namespace VG
open PySem PySem.Spec PyProof.Rows L2
section
variable {X : Cx} {pins : List (Addr × Obj)} {σ : L2.St} {H : Hp} {s : Shared} {a b : Addr} {r : Value} {d : V} {k : List Key} {A : Around} {E : Value → Shared → Prop}
theorem d_setdT {kvs : List (List Key × V)} {Q : Value → Shared → Prop} (hu : A.units + 1 < cLine) (I : Inv X pins σ H s) (e : H a = some (.dT kvs)) (eb : H b = some (.tup (k.map kV))) (rd : RelV d r) (hl : kvs.length < sizeLine)
    (h1 : ∀ v, valV kvs k = some v → ∀ (w' : Value) (s' : Shared), Inv X pins σ H s' → RelV v w' → Q w' s') (h2 : valV kvs k = none → ∀ (w' : Value) (s' : Shared), Inv X pins σ (upd H a (.dT (putK kvs k d))) s' → RelV d w' → Q w' s') :
    wpAny (model X.prog X.w) A (call (.builtin "dict.setdefault") [.ref a, .ref b, r]) Q E s := by
  obtain ⟨z, hd, xs, rel, dd⟩ := dt_of I.hok e
  have hz : xs.length ≤ sizeLine := by
    rw [← Paired.length rel]
    exact z
  have hl2 : (putK kvs k d).length ≤ sizeLine := by
    have := length_putK kvs k d
    omega
  refine call_setdefault_heap (hsz := hz) (tupleKind_room_in1 hu) (key_of I.hok eb) hd dd (fun p hp => ?_) (fun hn h' dd' hs => ?_)
  · have q := rel.val k
    rw [hp] at q
    cases q0 : valV kvs k with
    | none =>
      rw [q0] at q
      exact (show False from q).elim
    | some v0 =>
      rw [q0] at q
      exact h1 v0 q0 _ _ (I.tok _) q
  · have q := rel.val k
    rw [hn] at q
    cases q0 : valV kvs k with
    | some v0 =>
      rw [q0] at q
      exact (show False from q).elim
    | none =>
      obtain ⟨qo, es, ep, hq, g2, g3, g4, _, g5⟩ := dd'
      refine h2 q0 _ _ (d_write I (by rw [e]; exact True.intro) hs ⟨qo, hq⟩ ⟨hl2, hd, _, (rel.put k eb rd).keeps fun c ys ec => ?_, qo, es, ep, hq, g2, g3, g4, g5⟩) rd
      rw [upd_ne (ne_of ec e (fun z => nomatch z))]
      exact ec
end
def tDSetT (td ty tx : TE) : TE := fun σ H Q => td σ H fun x H1 => ∃ a, x = .ref a ∧ IsD H1 a ∧ ty σ H1 fun y H2 => tx σ H2 fun z H3 => ∃ (kvs : List (List Key × V)) (k : List Key) (b : Addr), H3 a = some (.dT kvs) ∧ y = .ref b ∧ H3 b = some (.tup (k.map kV)) ∧ kvs.length < sizeLine ∧
  (∀ v, valV kvs k = some v → Q v H3) ∧ (valV kvs k = none → Q z (upd H3 a (.dT (putK kvs k z))))
section
variable {X : Cx} {o e f : Expr} {td ty tx : TE} {apos cpos : Pos}
theorem pe_dsetT (hu : X.A.units + 1 < cLine) (ho : PE X o td) (he : PE X e ty) (hf : PE X f tx) (m : M2 X o "setdefault" apos e f cpos) : PE X (.Call (.Attribute o "setdefault" apos) [e, f] [] cpos) (tDSetT td ty tx) := by
  refine ⟨fun pins s σ H Q I h => ?_⟩
  refine wpAny_Call_method m.base m.few m.line PySem.F.plainAttrs_dict PySem.F.slot_dict_setdefault PySem.F.type_dict_setdefault (thn (ho.run pins s σ H _ I h) fun u s1 ⟨x, H1, I1, rx, a, ex, d, q1⟩ => ?_)
  subst ex
  obtain rfl : u = Value.ref a := rx
  obtain ⟨t1, t2, _⟩ := isD_at I1 d
  refine ⟨t1, t2, ?_⟩
  rw [m.trees]
  refine Calls.callWith_builtin rfl (Calls.evalArgs_plain (Calls.spliced_cons (thn (he.run pins s1 σ H1 _ I1 q1) fun iv s2 ⟨y, H2, I2, ry, q2⟩ =>
    Calls.spliced_cons (thn (hf.run pins s2 σ H2 _ I2 q2) fun fv s3 ⟨z, H3, I3, rz, kvs, k, b, ea, ey, eb, hl, q3, q4⟩ => Calls.spliced_nil ?_))))
  subst ey
  obtain rfl : iv = Value.ref b := ry
  exact d_setdT hu I3 ea eb rz hl (fun v hv w' s4 I4 rw' => ⟨v, _, I4, rw', q3 v hv⟩) fun hn w' s4 I4 rw' => ⟨z, _, I4, rw', q4 hn⟩
end
end VG
namespace VG
open PySem PySem.Spec PyProof.Rows L2
section
variable {X : Cx} {pins : List (Addr × Obj)} {σ : L2.St} {H : Hp} {s : Shared} {d : Addr} {o : Obj}
theorem frzT2 {kvs : List (List Key × V)} (I : Inv X pins σ H s) (h : H d = some (.frz o (.dT kvs))) :
    (d == sysModules) = false ∧ s.heap.get? d = some o ∧ o.ExactDict ∧ ∃ (es : Array DictEntry) (ep : Nat), o.data = .dict es ep ∧ es.size = kvs.length ∧
      ∀ (i : Nat) (k : List Key) (v : V), kvs[i]? = some (k, v) → ∃ (en : DictEntry) (q : Addr), es[i]? = some en ∧ en.key = .ref q ∧ H q = some (.tup (k.map kV)) ∧ RelV v en.val := by
  obtain ⟨hd, z, hs, xs, pr, o', es, ep, ho, hx, hdt, he, _⟩ := I.hok d _ h
  rw [hd] at ho
  cases ho
  refine ⟨hs, hd, hx, es, ep, hdt, ?_, fun i k v e => ?_⟩
  · have l1 : es.size = xs.length := size_of_entries he
    have l2 : kvs.length = xs.length := Paired.length pr
    omega
  · obtain ⟨b, hb, e1, e2, e3⟩ := L2.paired_get pr e
    have q := entry_at he i
    rw [hb] at q
    exact ⟨_, b.2.1, q, rfl, e2, e3⟩
end
/-- the pairs, the key its own tuple, each pair a new one -/
def ItiT (d : Addr) (o : Obj) (kvs : List (List Key × V)) : It :=
  ⟨fun i H => H d = some (.frz o (.dT kvs)) ∧ i < kvs.length, fun i H x H' => ∃ (T : Addr) (k : List Key) (v : V) (q : Addr), kvs[i]? = some (k, v) ∧ x = .ref T ∧ H q = some (.tup (k.map kV)) ∧ H T = none ∧ H' = upd H T (.tup [.ref q, v]), fun i H => H d = some (.frz o (.dT kvs)) ∧ kvs.length ≤ i⟩
section
variable {P : Program} {w : World} {K : PySem.W.Frag} {d : Addr} {o : Obj} {es : Array DictEntry} {ep : Nat}
theorem turn_itemsT {kvs : List (List Key × V)} {elts : List Expr} {kk : Nat} {tpos : Pos} (it : Addr) (hod : o.data = .dict es ep) :
    Turn P w K (.Tuple elts kk tpos) (ItiT d o kvs) [it] it (fun i h => ∃ ok ov, IsItemIter h it d i kvs.length ep ok ov) where
  mem := by simp
  obj := fun i h st b hb => by
    have e : b = it := by simpa using hb
    subst e
    obtain ⟨ok, ov, e⟩ := st
    exact ⟨_, e, fun v z => nomatch z⟩
  keep := fun i h h' st k => let ⟨ok, ov, e⟩ := st; ⟨ok, ov, k it (by simp) _ e⟩
  item := by
    intro X hP hw hK hc i pins s σ H E I hf st hg
    subst hP hw hK
    obtain ⟨hd, hi⟩ := hg
    obtain ⟨hs, hgd, hx, es', ep', hdt, hsz, ent⟩ := frzT2 I hd
    obtain ⟨rfl, rfl⟩ := L2.dict_ep hod hdt
    obtain ⟨⟨k, v⟩, hkv⟩ : ∃ p, kvs[i]? = some p := ⟨kvs[i], List.getElem?_eq_getElem hi⟩
    obtain ⟨en, q, hen, hkey, hq, hv⟩ := ent i k v hkv
    obtain ⟨ok, ov, he⟩ := st
    have hlt : it < s.heap.objs.size := Heap.lt_size he
    have hie : i < es'.size := by omega
    have eget : es'[i] = en := by
      have z : es'[i]? = some es'[i] := Array.getElem?_eq_getElem hie
      rw [z] at hen
      exact Option.some.inj hen
    rw [← hsz] at he
    refine wpAny_pyNext_items_item_raw he ⟨o, hgd, hx, hdt⟩ hie fun h' ho hT hz hk => ?_
    rw [eget] at ho hT
    refine ⟨_, rfl, wpAny_letOwnedTupleGo_items (s := { s with heap := h' }) ho fun h'' he' sb => ?_⟩
    have hT2 : h''.get? s.heap.objs.size = some { cls := .type "tuple", data := .seq #[en.key, en.val] } := (sb.2 _ (Nat.ne_of_gt hlt)).trans hT
    have new : ObjOk X.prog X.w (upd H s.heap.objs.size (.tup [.ref q, v])) h'' s.heap.objs.size (.tup [.ref q, v]) :=
      ⟨by show 2 ≤ sizeLine; decide, [en.key, en.val], .cons hkey (.cons hv .nil), ⟨_, hT2, rfl, _, rfl⟩⟩
    have I1 : Inv X pins σ (upd H s.heap.objs.size (.tup [.ref q, v])) { s with heap := h'' } :=
      I.turnedNew (t' := s.toks) (ch := [it]) (fun b ob hb e => (sb.2 b (by simpa using hb)).trans (hk b ob (by simpa using hb) e)) hf (Nat.le_refl _) new
    refine ⟨.ref s.heap.objs.size, _, I1, rfl, ⟨_, k, v, q, hkv, rfl, hq, I.hok.fresh (Nat.le_refl _), rfl⟩, ⟨en.key, en.val, ?_⟩, fun b hb => ?_⟩
    · rw [← hsz]
      exact he'
    · have e : b = it := by simpa using hb
      rw [e, upd_ne (Nat.ne_of_lt hlt)]
      exact (hf it (by simp)).1
  done := by
    intro X hP hw hK hc i pins s σ H E I hf st hg
    subst hP hw hK
    obtain ⟨hd, hi⟩ := hg
    obtain ⟨f0, f1, f2, f3, f4, f5⟩ := hf it (by simp)
    obtain ⟨hs, hgd, hx, es', ep', hdt, hsz, ent⟩ := frzT2 I hd
    obtain ⟨rfl, rfl⟩ := L2.dict_ep hod hdt
    obtain ⟨ok, ov, he⟩ := st
    rw [← hsz] at he
    exact wpAny_pyNext_items_end_raw (I.ok.hd hc) he ⟨o, hgd, hx, hdt⟩ (by omega) fun h' eb => ⟨rfl, I.turned (t' := s.toks) (fun b ob hb e => eb b ob hb e) f0 f1 f3 f4 f5⟩
  self := fun A i s Q E st h => let ⟨_, _, e⟩ := st; PySem.W.kcp_self e h
end
def iItemsT (td : TE) : TI := fun σ H R => td σ H fun x H1 => ∃ d o kvs, x = .ref d ∧ H1 d = some (.frz o (.dT kvs)) ∧ R (ItiT d o kvs) H1
section
variable {X : Cx} {e : Expr} {td : TE} {apos cpos : Pos}
theorem pi_itemsT {elts : List Expr} {kk : Nat} {tpos : Pos} (he : PE X e td) (hbase : attributeBase e "items" X.env (eval e X.env) = eval e X.env := by rfl) (hline : (apos.endLine == cpos.line) = true := by rfl) :
    PI X (.Tuple elts kk tpos) (.Call (.Attribute e "items" apos) [] [] cpos) (iItemsT td) := by
  refine ⟨fun pins s σ H R I h => ?_⟩
  refine wpAny_Call_method (T := "dict") (id := "dict.items") hbase rfl hline F.plainAttrs_dict F.slot_dict_items F.type_dict_items (thn (he.run pins s σ H _ I h) fun u s1 ⟨x, H1, I1, rx, d, o, kvs, ex, hd, q⟩ => ?_)
  subst ex
  obtain rfl : u = Value.ref d := rx
  obtain ⟨hs, hgd, hx, es, ep, hdt, hsz, ent⟩ := frzT2 I1 hd
  have raw : s1.heap.DictRaw d es ep := ⟨o, hgd, hx, hdt⟩
  refine ⟨raw.typeIs, fun b eb => ?_, ?_⟩
  · cases eb
    exact ⟨o, hgd, hx.2.1⟩
  have I2 : Inv X pins σ H1 { s1 with heap := s1.heap.push { cls := .type "dict_items", data := .fields #[.ref d] } } := I1.kept (t' := s1.toks) fun b ob q => Heap.get?_push_of_some _ q
  have fin : wpAny (model X.prog X.w) X.A (pyIter (.ref s1.heap.objs.size)) (PIE X pins σ (.Tuple elts kk tpos) R) X.xe { s1 with heap := s1.heap.push { cls := .type "dict_items", data := .fields #[.ref d] } } := by
    refine wpAny_pyIter_items_raw (d := d) ⟨_, Heap.get?_push_size _ rfl, rfl, rfl⟩ (raw.at fun o e => Heap.get?_push_of_some _ e) (pi_one (tk := s1.toks) I2 _ (turn_itemsT _ hdt) ⟨.none, .none, ?_⟩ q)
    rw [hsz]
    exact Heap.get?_push_size _ rfl
  show wpAny _ _ (callWith cpos (.builtin "dict.items") [.ref d] [] []) _ X.xe s1
  exact method_meetsIn F.slot_dict_items F.entry_dict_items rfl (PySem.evalArgs_none ⟨rfl, raw.typeIs, F.args_dict_items_1 _, _, meets_dict_items_raw d hs, ⟨⟨es, ep, raw⟩, fin⟩⟩)
end
/-- truth, the written part told -/
def tTru (K : PySem.W.Frag) (ta : TE) : TT := fun σ H Q => ta σ H fun x H' => ∃ k, TruV K x H' k ∧ Q k H'
theorem pt_tru {X : Cx} {K : PySem.W.Frag} {a : Expr} {ta : TE} (hK : X.K = K) (ha : PE X a ta) (he : ∀ whole, isTrue a X.env whole = (do let v ← whole; standAt a.pos; holding [v] (truthy v))) : PT X a (tTru K ta) := by
  subst hK
  exact pt_truth ha he
/-- tuple(x), the written part told -/
def rTupOf (K : PySem.W.Frag) : List V → Hp → VK → Prop := fun xs H Q => ∃ p ys, xs = [.ref p] ∧ ((SqL K H p ys ∧ ∀ l, H l = none → Q (.ref l) (L2.upd H l (.tup ys))) ∨ SqT K H p ys ∧ Q (.ref p) H)
theorem call_tupK {X : Cx} : CallR X (.type "tuple") (rTupOf X.K) := call_tuple_of
theorem units1 {k : Nat} {A : Around} (hr : Room k A) : A.units + 1 < cLine := by
  have := hr.un
  omega
theorem walk_itemsT {d : Addr} {o : Obj} {kvs : List (List Key × V)} : Walk (ItiT d o kvs) kvs.length (fun H => H d = some (.frz o (.dT kvs))) (fun i H x H' => ∃ (T : Addr) (k : List Key) (v : V) (q : Addr), kvs[i]? = some (k, v) ∧ x = .ref T ∧ H q = some (.tup (k.map kV)) ∧ H T = none ∧ H' = L2.upd H T (.tup [.ref q, v])) := by
  constructor
  · intro i H hi hG
    exact ⟨hG, hi⟩
  · intro H hG
    exact ⟨hG, Nat.le_refl _⟩
  · intro i H v H' hi hG hy
    exact hy
end VG
namespace CK
open PySem PySem.Spec PyProof.Rows L2 VG FR
/-- the numbers below i at which something holds -/
def pick (P : Nat → Bool) (i : Nat) : List Int := ((List.range i).filter P).map fun j => ((j : Nat) : Int)
theorem pick_yes {P : Nat → Bool} {i : Nat} (h : P i = true) : pick P (i + 1) = pick P i ++ [(i : Int)] := by
  unfold pick
  rw [List.range_succ, List.filter_append, List.map_append]
  have e2 : [i].filter P = [i] := by simp only [List.filter_cons, h, if_true, List.filter_nil]
  rw [e2]
  rfl
theorem pick_no {P : Nat → Bool} {i : Nat} (h : P i = false) : pick P (i + 1) = pick P i := by
  unfold pick
  rw [List.range_succ, List.filter_append, List.map_append]
  have e2 : [i].filter P = [] := by simp only [List.filter_cons, h, if_false, List.filter_nil, Bool.false_eq_true]
  rw [e2]
  exact List.append_nil _
theorem pick_len (P : Nat → Bool) (i : Nat) : (pick P i).length ≤ i := by
  unfold pick
  rw [List.length_map]
  exact Nat.le_trans (List.length_filter_le _ _) (by rw [List.length_range]; exact Nat.le_refl _)
def absI (a : Int) : Int := if a < 0 then -a else a
def agrP (one other : List Int) (j : Nat) : Bool := decide (absI (one.getD j 0) = 1) && decide (one.getD j 0 = other.getD j 0)
def agrL (cs ds : List Int) : List Int := pick (agrP cs ds) cs.length
def difL (cs ds : List Int) : List Int := (cs.zip ds).map fun x => x.1 - x.2
end CK
namespace CK
open PySem PySem.Spec PyProof.Rows L2 VG FR
def kI (c : List Int) : List L2.Key := c.map fun x => (Sum.inl x : L2.Key)
theorem kI_inj {a b : List Int} (h : kI a = kI b) : a = b := by
  unfold kI at h
  induction a generalizing b with
  | nil =>
    cases b with
    | nil => rfl
    | cons y ys => cases h
  | cons x xs ih =>
    cases b with
    | nil => cases h
    | cons y ys =>
      rw [List.map_cons, List.map_cons] at h
      obtain ⟨h1, h2⟩ := List.cons.inj h
      rw [Sum.inl.inj h1, ih h2]
theorem kI_kV (c : List Int) : (kI c).map kV = c.map V.int := by
  unfold kI
  rw [List.map_map]
  rfl
/-- the keys in the sequence in which they come about -/
def keysOf (f : Nat → List Int) : Nat → List (List Int)
  | 0 => []
  | n + 1 => if f n ∈ keysOf f n then keysOf f n else keysOf f n ++ [f n]
theorem keys_mem (f : Nat → List Int) : ∀ {n j : Nat}, j < n → f j ∈ keysOf f n
  | n + 1, j, h => by
    unfold keysOf
    by_cases e : f n ∈ keysOf f n
    · rw [if_pos e]
      rcases Nat.lt_or_ge j n with z | z
      · exact keys_mem f z
      · have : j = n := by omega
        subst this
        exact e
    · rw [if_neg e]
      rcases Nat.lt_or_ge j n with z | z
      · exact List.mem_append_left _ (keys_mem f z)
      · have : j = n := by omega
        subst this
        exact List.mem_append_right _ (List.mem_singleton.mpr rfl)
theorem keys_nodup (f : Nat → List Int) : ∀ n, (keysOf f n).Nodup
  | 0 => List.nodup_nil
  | n + 1 => by
    unfold keysOf
    by_cases e : f n ∈ keysOf f n
    · rw [if_pos e]
      exact keys_nodup f n
    · rw [if_neg e]
      exact List.nodup_append.mpr ⟨keys_nodup f n, by simp, fun a ha b hb => by
        have : b = f n := List.mem_singleton.mp hb
        subst this
        exact fun z => e (z ▸ ha)⟩
theorem keys_len (f : Nat → List Int) : ∀ n, (keysOf f n).length ≤ n
  | 0 => Nat.le_refl _
  | n + 1 => by
    unfold keysOf
    have := keys_len f n
    split
    · omega
    · rw [List.length_append, List.length_singleton]
      omega
def memb (f : Nat → List Int) (c : List Int) (j : Nat) : Bool := decide (f j = c)
/-- the dict's entries -/
def mkKvs : List (List Int) → List Addr → List (List L2.Key × V)
  | c :: cs, l :: ls => (kI c, .ref l) :: mkKvs cs ls
  | _, _ => []
theorem mk_len : ∀ {cs : List (List Int)} {ls : List Addr}, cs.length = ls.length → (mkKvs cs ls).length = cs.length
  | [], [], _ => rfl
  | _ :: cs, _ :: ls, h => by
    show (mkKvs cs ls).length + 1 = cs.length + 1
    rw [mk_len (Nat.succ.inj h)]
  | [], _ :: _, h => by cases h
  | _ :: _, [], h => by cases h
theorem mk_val {c : List Int} : ∀ {cs : List (List Int)} {ls : List Addr} {v : V}, cs.length = ls.length → valV (mkKvs cs ls) (kI c) = some v → ∃ (i : Nat) (l : Addr), cs[i]? = some c ∧ ls[i]? = some l ∧ v = .ref l
  | [], [], v, _, h => by cases h
  | d :: cs, l :: ls, v, e, h => by
    by_cases q : kI d = kI c
    · have q2 := kI_inj q
      subst q2
      have : valV (mkKvs (d :: cs) (l :: ls)) (kI d) = some (.ref l) := valV_pos (p := (kI d, V.ref l)) rfl
      rw [this] at h
      exact ⟨0, l, rfl, rfl, (Option.some.inj h).symm⟩
    · have : valV (mkKvs (d :: cs) (l :: ls)) (kI c) = valV (mkKvs cs ls) (kI c) := valV_neg (p := (kI d, V.ref l)) q
      rw [this] at h
      obtain ⟨i, m, h1, h2, h3⟩ := mk_val (Nat.succ.inj e) h
      exact ⟨i + 1, m, h1, h2, h3⟩
  | [], _ :: _, _, h, _ => by cases h
  | _ :: _, [], _, h, _ => by cases h
theorem mk_none {c : List Int} : ∀ {cs : List (List Int)} {ls : List Addr}, cs.length = ls.length → valV (mkKvs cs ls) (kI c) = none → c ∉ cs
  | [], [], _, _ => List.not_mem_nil
  | d :: cs, l :: ls, e, h => by
    by_cases q : kI d = kI c
    · have : valV (mkKvs (d :: cs) (l :: ls)) (kI c) = some (.ref l) := valV_pos (p := (kI d, V.ref l)) q
      rw [this] at h
      cases h
    · have : valV (mkKvs (d :: cs) (l :: ls)) (kI c) = valV (mkKvs cs ls) (kI c) := valV_neg (p := (kI d, V.ref l)) q
      rw [this] at h
      have ih := mk_none (Nat.succ.inj e) h
      intro z
      rcases List.mem_cons.mp z with z | z
      · subst z
        exact q rfl
      · exact ih z
  | [], _ :: _, h, _ => by cases h
  | _ :: _, [], h, _ => by cases h
theorem mk_snoc {c : List Int} {l : Addr} : ∀ {cs : List (List Int)} {ls : List Addr}, cs.length = ls.length → mkKvs (cs ++ [c]) (ls ++ [l]) = mkKvs cs ls ++ [(kI c, .ref l)]
  | [], [], _ => rfl
  | d :: cs, m :: ls, e => by
    show (kI d, V.ref m) :: mkKvs (cs ++ [c]) (ls ++ [l]) = _
    rw [mk_snoc (Nat.succ.inj e)]
    rfl
  | [], _ :: _, h => by cases h
  | _ :: _, [], h => by cases h
theorem mk_put {c : List Int} {l : Addr} {cs : List (List Int)} {ls : List Addr} (e : cs.length = ls.length) (h : valV (mkKvs cs ls) (kI c) = none) : putK (mkKvs cs ls) (kI c) (.ref l) = mkKvs (cs ++ [c]) (ls ++ [l]) := by
  unfold putK
  rw [valV_any, h]
  rw [if_neg (by simp), mk_snoc e]
theorem mk_get : ∀ {cs : List (List Int)} {ls : List Addr} {i : Nat} {k : List L2.Key} {v : V}, cs.length = ls.length → (mkKvs cs ls)[i]? = some (k, v) → ∃ c l, cs[i]? = some c ∧ ls[i]? = some l ∧ k = kI c ∧ v = .ref l
  | [], [], _, _, _, _, h => by cases h
  | d :: cs, l :: ls, 0, k, v, e, h => by
    have q : (kI d, V.ref l) = (k, v) := Option.some.inj h
    obtain ⟨q1, q2⟩ := Prod.mk.inj q
    exact ⟨d, l, rfl, rfl, q1.symm, q2.symm⟩
  | d :: cs, l :: ls, i + 1, k, v, e, h => mk_get (i := i) (Nat.succ.inj e) h
  | [], _ :: _, _, _, _, h, _ => by cases h
  | _ :: _, [], _, _, _, h, _ => by cases h
end CK
namespace CK
open PySem PySem.Spec PyProof.Rows L2 VG FR
def fT (ts : List (List Int)) (j : Nat) : List Int := totsWith ts j
def classesL (ts : List (List Int)) (n : Nat) : List (List Int) := ((keysOf (fT ts) n).filter fun c => !c.isEmpty).map fun c => pick (memb (fT ts) c) n
def spClasses (K : PySem.W.Frag) (C : Addr) : Sp := fun vs H Q _ => ∃ (a : Addr) (ks : List Str) (ts : List (List Int)), vs = [.ref a] ∧ Tab K C H a ks ts ∧ ts.length ≤ 1000 ∧ ks.length ≤ 1000 ∧
  ∀ H' u xs, Same H H' → H u = none → H' u = some (.tup xs) → Tots K H' xs (classesL ts ks.length) → Q (.ref u) H'
/-- the groups in the heap, behind i kinds -/
structure Grp (H0 H : Hp) (D : Addr) (f : Nat → List Int) (i : Nat) (ls : List Addr) : Prop where
  d : H D = some (.dT (mkKvs (keysOf f i) ls))
  len : (keysOf f i).length = ls.length
  nd : ls.Nodup
  new : ∀ l ∈ ls, H0 l = none
  at_ : ∀ (j : Nat) (c : List Int) (l : Addr), (keysOf f i)[j]? = some c → ls[j]? = some l → H l = some (.lst ((pick (memb f c) i).map V.int))
theorem Grp.mono {H0 H H' : Hp} {D : Addr} {f : Nat → List Int} {i : Nat} {ls : List Addr} (g : Grp H0 H D f i ls) (e : Same H H') : Grp H0 H' D f i ls :=
  ⟨e _ _ g.d, g.len, g.nd, g.new, fun j c l h1 h2 => e _ _ (g.at_ j c l h1 h2)⟩
theorem pick_nil {P : Nat → Bool} {i : Nat} (h : ∀ j, j < i → P j = false) : pick P i = [] := by
  unfold pick
  have e : (List.range i).filter P = [] := List.filter_eq_nil_iff.mpr fun j hj => by
    rw [h j (List.mem_range.mp hj)]
    exact Bool.false_ne_true
  rw [e]
  rfl
theorem nodup_at {α : Type} : ∀ {l : List α} {i j : Nat} {x : α}, l.Nodup → l[i]? = some x → l[j]? = some x → i = j
  | [], _, _, _, _, h, _ => by simp at h
  | a :: l, 0, 0, _, _, _, _ => rfl
  | a :: l, 0, j + 1, x, n, h, k => by
    have e : a = x := Option.some.inj h
    subst e
    exact absurd (List.mem_of_getElem? (l := l) (i := j) k) (List.nodup_cons.mp n).1
  | a :: l, i + 1, 0, x, n, h, k => by
    have e : a = x := Option.some.inj k
    subst e
    exact absurd (List.mem_of_getElem? (l := l) (i := i) h) (List.nodup_cons.mp n).1
  | a :: l, i + 1, j + 1, x, n, h, k => by rw [nodup_at (l := l) (i := i) (j := j) (List.nodup_cons.mp n).2 h k]
/-- one more kind, of a group that is there -/
theorem Grp.old {H0 H : Hp} {D l : Addr} {f : Nat → List Int} {i j : Nat} {ls : List Addr} (g : Grp H0 H D f i ls) (h1 : (keysOf f i)[j]? = some (f i)) (h2 : ls[j]? = some l) :
    Grp H0 (L2.upd H l (.lst ((pick (memb f (f i)) i).map V.int ++ [V.int (i : Int)]))) D f (i + 1) ls := by
  have hl := g.at_ j _ l h1 h2
  have ek : keysOf f (i + 1) = keysOf f i := by
    show (if f i ∈ keysOf f i then keysOf f i else keysOf f i ++ [f i]) = _
    rw [if_pos (List.mem_of_getElem? h1)]
  refine ⟨?_, by rw [ek]; exact g.len, g.nd, g.new, ?_⟩
  · rw [ek, upd_ne (ne_of g.d hl (fun z => nomatch z))]
    exact g.d
  · intro m c l' k1 k2
    rw [ek] at k1
    by_cases e : m = j
    · subst e
      have e1 : c = f i := Option.some.inj (k1.symm.trans h1)
      have e2 : l' = l := Option.some.inj (k2.symm.trans h2)
      subst e1 e2
      rw [upd_same, pick_yes (by unfold memb; exact decide_eq_true rfl), List.map_append]
      rfl
    · have nl : l' ≠ l := fun z => by
        subst z
        exact e (nodup_at g.nd k2 h2)
      have nc : c ≠ f i := fun z => by
        subst z
        exact e (nodup_at (keys_nodup f i) k1 h1)
      rw [upd_ne nl, pick_no (by unfold memb; exact decide_eq_false (fun z => nc z.symm))]
      exact g.at_ m c l' k1 k2
/-- one more kind, of a new group -/
theorem Grp.fresh {H0 H : Hp} {D L : Addr} {f : Nat → List Int} {i : Nat} {ls : List Addr} (g : Grp H0 H D f i ls) (n : f i ∉ keysOf f i) (nL : H L = none) (n0 : H0 L = none) :
    Grp H0 (L2.upd (L2.upd (L2.upd H L (.lst [])) D (.dT (mkKvs (keysOf f i ++ [f i]) (ls ++ [L])))) L (.lst [V.int (i : Int)])) D f (i + 1) (ls ++ [L]) := by
  have ek : keysOf f (i + 1) = keysOf f i ++ [f i] := by
    show (if f i ∈ keysOf f i then keysOf f i else keysOf f i ++ [f i]) = _
    rw [if_neg n]
  have nDL : D ≠ L := ne_of_none g.d nL
  have there : ∀ l ∈ ls, l ≠ L ∧ l ≠ D := by
    intro l hl
    obtain ⟨j, ej⟩ := List.mem_iff_getElem?.mp hl
    have hj : j < (keysOf f i).length := by
      have := (List.getElem?_eq_some_iff.mp ej).1
      rw [g.len]
      exact this
    have h := g.at_ j _ l (List.getElem?_eq_getElem hj) ej
    exact ⟨ne_of_none h nL, ne_of h g.d (fun z => nomatch z)⟩
  refine ⟨?_, ?_, ?_, ?_, ?_⟩
  · rw [upd_ne nDL, upd_same, ek]
  · rw [ek, List.length_append, List.length_append, g.len]
    rfl
  · exact List.nodup_append.mpr ⟨g.nd, by simp, fun a ha b hb => by
      have : b = L := List.mem_singleton.mp hb
      subst this
      exact (there a ha).1⟩
  · intro l hl
    rcases List.mem_append.mp hl with z | z
    · exact g.new l z
    · have : l = L := List.mem_singleton.mp z
      subst this
      exact n0
  · intro j c l k1 k2
    rw [ek] at k1
    rcases Nat.lt_or_ge j ls.length with z | z
    · rw [List.getElem?_append_left (by rw [g.len]; exact z)] at k1
      rw [List.getElem?_append_left z] at k2
      have th := there l (List.mem_of_getElem? k2)
      have nc : f i ≠ c := fun q => n (q ▸ List.mem_of_getElem? k1)
      rw [upd_ne th.1, upd_ne th.2, upd_ne th.1, pick_no (by unfold memb; exact decide_eq_false nc)]
      exact g.at_ j c l k1 k2
    · rw [List.getElem?_append_right (by rw [g.len]; exact z)] at k1
      rw [List.getElem?_append_right z] at k2
      rw [g.len] at k1
      have j0 : j - ls.length = 0 := by
        have := (List.getElem?_eq_some_iff.mp k2).1
        rw [List.length_singleton] at this
        omega
      rw [j0] at k1 k2
      have e1 : f i = c := Option.some.inj k1
      have e2 : L = l := Option.some.inj k2
      subst e1 e2
      have p0 : pick (memb f (f i)) i = [] := pick_nil fun j hj => by
        unfold memb
        exact decide_eq_false (fun q => n (q ▸ keys_mem f hj))
      rw [upd_same, pick_yes (by unfold memb; exact decide_eq_true rfl), p0]
      rfl
end CK
namespace CK
open PySem PySem.Spec PyProof.Rows L2 VG FR
theorem seqT_unlock {K : PySem.W.Frag} {H : Hp} {D t : Addr} {od : Obj} {kvs : List (List L2.Key × V)} {o : HO} {xs : List V} (hD : H D = some (.frz od (.dT kvs))) (h : SqT K H t xs) : SqT K (L2.upd H D o) t xs := by
  rcases h with (h | ⟨o', h⟩) | h
  · exact .inl (.inl (by rw [upd_ne (ne_of h hD (fun z => nomatch z))]; exact h))
  · exact .inl (.inr ⟨o', by rw [upd_ne (ne_of h hD (fun z => by cases z))]; exact h⟩)
  · exact .inr h
theorem Tots.unlock {K : PySem.W.Frag} {H : Hp} {D : Addr} {od : Obj} {kvs : List (List L2.Key × V)} {o : HO} (hD : H D = some (.frz od (.dT kvs))) : ∀ {vs : List V} {cs : List (List Int)}, Tots K H vs cs → Tots K (L2.upd H D o) vs cs
  | [], [], _ => trivial
  | _ :: _, _ :: _, ⟨⟨t, e1, h⟩, r⟩ => ⟨⟨t, e1, seqT_unlock hD h⟩, Tots.unlock hD r⟩
  | [], _ :: _, h => h.elim
  | _ :: _, [], h => h.elim
theorem Tots.snoc {K : PySem.W.Frag} {H : Hp} {t : Addr} {c : List Int} (hv : SqT K H t (c.map V.int)) : ∀ {vs : List V} {cs : List (List Int)}, Tots K H vs cs → Tots K H (vs ++ [.ref t]) (cs ++ [c])
  | [], [], _ => ⟨⟨t, rfl, hv⟩, trivial⟩
  | _ :: _, _ :: _, h => ⟨h.1, Tots.snoc hv h.2⟩
  | [], _ :: _, h => h.elim
  | _ :: _, [], h => h.elim
theorem Tots.upd {K : PySem.W.Frag} {H : Hp} {D : Addr} {ys zs : List V} (hD : H D = some (.lst ys)) : ∀ {vs : List V} {cs : List (List Int)}, Tots K H vs cs → Tots K (L2.upd H D (.lst zs)) vs cs
  | [], [], _ => trivial
  | _ :: _, _ :: _, ⟨⟨t, e1, h⟩, r⟩ => ⟨⟨t, e1, seqT_upd hD h⟩, Tots.upd hD r⟩
  | [], _ :: _, h => h.elim
  | _ :: _, [], h => h.elim
/-- what has come about behind i groups -/
def outL (f : Nat → List Int) (n i : Nat) : List (List Int) := (((keysOf f n).take i).filter fun c => !c.isEmpty).map fun c => pick (memb f c) n
theorem out_yes {f : Nat → List Int} {n i : Nat} {c : List Int} (e : (keysOf f n)[i]? = some c) (h : (!c.isEmpty) = true) : outL f n (i + 1) = outL f n i ++ [pick (memb f c) n] := by
  unfold outL
  rw [List.take_add_one, e, List.filter_append, List.map_append]
  have e2 : (some c).toList.filter (fun c => !c.isEmpty) = [c] := by
    show [c].filter _ = _
    simp only [List.filter_cons, h, if_true, List.filter_nil]
  rw [e2]
  rfl
theorem out_no {f : Nat → List Int} {n i : Nat} {c : List Int} (e : (keysOf f n)[i]? = some c) (h : (!c.isEmpty) = false) : outL f n (i + 1) = outL f n i := by
  unfold outL
  rw [List.take_add_one, e, List.filter_append, List.map_append]
  have e2 : (some c).toList.filter (fun c => !c.isEmpty) = [] := by
    show [c].filter _ = _
    simp only [List.filter_cons, h, if_false, List.filter_nil, Bool.false_eq_true]
  rw [e2]
  exact List.append_nil _
end CK
namespace CK
open PySem PySem.Spec PyProof.Rows L2 VG FR
theorem seqT_at {K : PySem.W.Frag} {H : Hp} {D t : Addr} {o o0 : HO} {xs : List V} (hD : H D = some o0) (h1 : ∀ ys, HO.tup ys ≠ o0) (h2 : ∀ od ys, HO.frz od (.tup ys) ≠ o0) (h : SqT K H t xs) : SqT K (L2.upd H D o) t xs := by
  rcases h with (h | ⟨o', h⟩) | h
  · exact .inl (.inl (by rw [upd_ne (ne_of h hD (h1 _))]; exact h))
  · exact .inl (.inr ⟨o', by rw [upd_ne (ne_of h hD (h2 _ _))]; exact h⟩)
  · exact .inr h
theorem Tots.at_ {K : PySem.W.Frag} {H : Hp} {D : Addr} {o o0 : HO} (hD : H D = some o0) (h1 : ∀ ys, HO.tup ys ≠ o0) (h2 : ∀ od ys, HO.frz od (.tup ys) ≠ o0) : ∀ {vs : List V} {cs : List (List Int)}, Tots K H vs cs → Tots K (L2.upd H D o) vs cs
  | [], [], _ => trivial
  | _ :: _, _ :: _, ⟨⟨t, e1, h⟩, r⟩ => ⟨⟨t, e1, seqT_at hD h1 h2 h⟩, Tots.at_ hD h1 h2 r⟩
  | [], _ :: _, h => h.elim
  | _ :: _, [], h => h.elim
abbrev Nums := List (L2.Key × V)
def putRow (g : Nums) (at_ : Nat) (c : List Int) : Nums := c.foldl (fun g k => putK g (Sum.inl k : L2.Key) (V.int (at_ : Int))) g
def numF (cs : List (List Int)) : Nat → Nums
  | 0 => []
  | i + 1 => putRow (numF cs i) i (cs.getD i [])
/-- the number of a kind's class, None if it has none -/
def numV (cs : List (List Int)) (k : Int) : V := (valV (numF cs cs.length) (Sum.inl k : L2.Key)).getD .non
theorem row_len (at_ : Nat) : ∀ (c : List Int) (g : Nums), (putRow g at_ c).length ≤ g.length + c.length
  | [], g => Nat.le_refl _
  | k :: c, g => by
    have h := row_len at_ c (putK g (Sum.inl k : L2.Key) (V.int (at_ : Int)))
    have h2 := length_putK g (Sum.inl k : L2.Key) (V.int (at_ : Int))
    show (putRow (putK g _ _) at_ c).length ≤ _
    rw [List.length_cons]
    omega
theorem num_len {cs : List (List Int)} (h : ∀ c ∈ cs, c.length ≤ 1000) : ∀ i, i ≤ cs.length → (numF cs i).length ≤ i * 1000
  | 0, _ => Nat.le_refl _
  | i + 1, hi => by
    have ih := num_len h i (by omega)
    have hc : (cs.getD i []).length ≤ 1000 := by
      rw [List.getD_eq_getElem?_getD, List.getElem?_eq_getElem (by omega)]
      exact h _ (List.getElem_mem _)
    have := row_len i (cs.getD i []) (numF cs i)
    show (putRow (numF cs i) i (cs.getD i [])).length ≤ _
    rw [Nat.succ_mul]
    omega
theorem row_take {g : Nums} {at_ i : Nat} {c : List Int} {k : Int} (e : c[i]? = some k) : putRow g at_ (c.take (i + 1)) = putK (putRow g at_ (c.take i)) (Sum.inl k : L2.Key) (V.int (at_ : Int)) := by
  unfold putRow
  rw [List.take_add_one, e, List.foldl_append]
  rfl
theorem classes_len (ts : List (List Int)) (n : Nat) : (classesL ts n).length ≤ n ∧ ∀ c ∈ classesL ts n, c.length ≤ n := by
  constructor
  · unfold classesL
    rw [List.length_map]
    exact Nat.le_trans (List.length_filter_le _ _) (keys_len _ n)
  · intro c hc
    unfold classesL at hc
    obtain ⟨k, _, rfl⟩ := List.mem_map.mp hc
    exact pick_len _ n
def spNumbers (K : PySem.W.Frag) (C : Addr) : Sp := fun vs H Q _ => ∃ (a : Addr) (ks : List Str) (ts : List (List Int)), vs = [.ref a] ∧ Tab K C H a ks ts ∧ ts.length ≤ 1000 ∧ ks.length ≤ 1000 ∧
  ∀ H' u, Same H H' → H u = none → H' u = some (.tup ((List.range ks.length).map fun j => numV (classesL ts ks.length) ((j : Nat) : Int))) → Q (.ref u) H'
end CK
namespace M15
/-- no member twice, within a list or in two -/
def Apart (bs : List (List Int)) : Prop := bs.flatten.Nodup
theorem apart_perm {as bs : List (List Int)} (p : as.Perm bs) (h : Apart bs) : Apart as := (p.flatten.nodup_iff).mpr h
theorem apart_get : ∀ {bs : List (List Int)} {i : Nat} {b : List Int}, Apart bs → bs[i]? = some b → b.Nodup
  | b :: bs, 0, c, h, e => by
    have : b = c := Option.some.inj e
    subst this
    exact (List.nodup_append.mp h).1
  | b :: bs, i + 1, c, h, e => apart_get (bs := bs) (i := i) (List.nodup_append.mp h).2.1 e
theorem apart_mem {bs : List (List Int)} {b : List Int} (h : Apart bs) (m : b ∈ bs) : b.Nodup := by
  obtain ⟨i, e⟩ := List.mem_iff_getElem?.mp m
  exact apart_get h e
theorem apart_two : ∀ {bs : List (List Int)} {i j : Nat} {a b : List Int}, Apart bs → bs[i]? = some a → bs[j]? = some b → i ≠ j → (a ++ b).Nodup
  | c :: bs, 0, 0, a, b, _, _, _, n => absurd rfl n
  | c :: bs, 0, j + 1, a, b, h, ha, hb, _ => by
    have e : c = a := Option.some.inj ha
    subst e
    have hb' : bs[j]? = some b := hb
    have ⟨h1, h2, h3⟩ := List.nodup_append.mp (show (c ++ bs.flatten).Nodup from h)
    exact List.nodup_append.mpr ⟨h1, apart_get (bs := bs) h2 hb', fun x hx y hy => h3 x hx y (List.mem_flatten.mpr ⟨b, List.mem_of_getElem? hb', hy⟩)⟩
  | c :: bs, i + 1, 0, a, b, h, ha, hb, _ => by
    have e : c = b := Option.some.inj hb
    subst e
    have ha' : bs[i]? = some a := ha
    have ⟨h1, h2, h3⟩ := List.nodup_append.mp (show (c ++ bs.flatten).Nodup from h)
    exact List.nodup_append.mpr ⟨apart_get (bs := bs) h2 ha', h1, fun x hx y hy z => h3 y hy x (List.mem_flatten.mpr ⟨a, List.mem_of_getElem? ha', hx⟩) z.symm⟩
  | c :: bs, i + 1, j + 1, a, b, h, ha, hb, n => apart_two (bs := bs) (i := i) (j := j) (List.nodup_append.mp (show (c ++ bs.flatten).Nodup from h)).2.1 ha hb (fun z => n (by rw [z]))
end M15
namespace CK
open PySem PySem.Spec PyProof.Rows L2 VG FR
theorem mem_pick {P : Nat → Bool} {n : Nat} {x : Int} : x ∈ pick P n ↔ ∃ j : Nat, j < n ∧ P j = true ∧ x = (j : Int) := by
  unfold pick
  constructor
  · intro h
    obtain ⟨j, hj, rfl⟩ := List.mem_map.mp h
    have ⟨h1, h2⟩ := List.mem_filter.mp hj
    exact ⟨j, List.mem_range.mp h1, h2, rfl⟩
  · rintro ⟨j, h1, h2, rfl⟩
    exact List.mem_map.mpr ⟨j, List.mem_filter.mpr ⟨List.mem_range.mpr h1, h2⟩, rfl⟩
theorem pick_nodup (P : Nat → Bool) (n : Nat) : (pick P n).Nodup := by
  unfold pick
  refine List.pairwise_map.mpr ?_
  have h : (List.range n).Nodup := List.nodup_range
  exact (List.Pairwise.filter P h).imp fun z e => z (by omega)
theorem keys_from (f : Nat → List Int) : ∀ {n : Nat} {c : List Int}, c ∈ keysOf f n → ∃ j, j < n ∧ f j = c
  | n + 1, c, h => by
    unfold keysOf at h
    by_cases e : f n ∈ keysOf f n
    · rw [if_pos e] at h
      obtain ⟨j, h1, h2⟩ := keys_from f h
      exact ⟨j, by omega, h2⟩
    · rw [if_neg e] at h
      rcases List.mem_append.mp h with z | z
      · obtain ⟨j, h1, h2⟩ := keys_from f z
        exact ⟨j, by omega, h2⟩
      · exact ⟨n, by omega, (List.mem_singleton.mp z).symm⟩
def sgL (f : Nat → List Int) (n : Nat) : List (List Int) := (keysOf f n).filter fun c => !c.isEmpty
theorem sg_nodup (f : Nat → List Int) (n : Nat) : (sgL f n).Nodup := List.Pairwise.filter _ (keys_nodup f n)
theorem classes_eq (ts : List (List Int)) (n : Nat) : classesL ts n = (sgL (fT ts) n).map fun c => pick (memb (fT ts) c) n := rfl
theorem picks_apart (f : Nat → List Int) (n : Nat) : ∀ (ks : List (List Int)), ks.Nodup → M15.Apart (ks.map fun c => pick (memb f c) n)
  | [], _ => List.nodup_nil
  | c :: ks, h => by
    have ⟨h1, h2⟩ := List.nodup_cons.mp h
    show (pick (memb f c) n ++ (ks.map fun c => pick (memb f c) n).flatten).Nodup
    refine List.nodup_append.mpr ⟨pick_nodup _ _, picks_apart f n ks h2, fun x hx y hy e => ?_⟩
    obtain ⟨l, hl, hy⟩ := List.mem_flatten.mp hy
    obtain ⟨d, hd, rfl⟩ := List.mem_map.mp hl
    obtain ⟨i, i1, i2, i3⟩ := mem_pick.mp hx
    obtain ⟨j, j1, j2, j3⟩ := mem_pick.mp hy
    have e2 : i = j := by omega
    subst e2
    have q1 : f i = c := of_decide_eq_true i2
    have q2 : f i = d := of_decide_eq_true j2
    exact h1 (by rw [← q1, q2]; exact hd)
theorem classes_apart (ts : List (List Int)) (n : Nat) : M15.Apart (classesL ts n) := picks_apart _ _ _ (sg_nodup _ _)
theorem nodup_le {α : Type} [DecidableEq α] : ∀ (l D : List α), l.Nodup → (∀ x ∈ l, x ∈ D) → l.length ≤ D.length
  | [], _, _, _ => Nat.zero_le _
  | a :: l, D, h, s => by
    have ⟨h1, h2⟩ := List.nodup_cons.mp h
    have ha := s a List.mem_cons_self
    have ih := nodup_le l (D.erase a) h2 fun x hx => (List.mem_erase_of_ne (fun e => h1 (by rw [← e]; exact hx))).mpr (s x (List.mem_cons_of_mem _ hx))
    rw [List.length_erase_of_mem ha] at ih
    have := List.length_pos_of_mem ha
    rw [List.length_cons]
    omega
theorem classes_below {ts : List (List Int)} {n : Nat} {c : List Int} {x : Int} (hc : c ∈ classesL ts n) (hx : x ∈ c) : ∃ j : Nat, j < n ∧ x = (j : Int) := by
  rw [classes_eq] at hc
  obtain ⟨d, hd, rfl⟩ := List.mem_map.mp hc
  obtain ⟨j, j1, _, rfl⟩ := mem_pick.mp hx
  exact ⟨j, j1, rfl⟩
theorem mem_tw {ts : List (List Int)} {k : Int} {t : Nat} {c : List Int} (e : ts[t]? = some c) : (t : Int) ∈ totsWith ts k ↔ c.contains k = true := by
  have g : ts.getD t [] = c := by rw [List.getD_eq_getElem?_getD, e]; rfl
  have hl := (List.getElem?_eq_some_iff.mp e).1
  have h := mem_pick (P := fun j => (ts.getD j []).contains k) (n := ts.length) (x := (t : Int))
  have q : totsWith ts k = pick (fun j => (ts.getD j []).contains k) ts.length := rfl
  rw [q, h]
  constructor
  · rintro ⟨j, _, h2, h3⟩
    have : j = t := by omega
    subst this
    rw [g] at h2
    exact h2
  · intro z
    exact ⟨t, hl, by rw [g]; exact z, rfl⟩
/-- a kind of some total has a class, just one -/
theorem cls_one {ts : List (List Int)} {n j : Nat} {c : List Int} (hc : c ∈ ts) (hj : j < n) (hk : (j : Int) ∈ c) : ∃ a : Nat, ∃ cl, (classesL ts n)[a]? = some cl ∧ (j : Int) ∈ cl ∧ ∀ b d, (classesL ts n)[b]? = some d → (j : Int) ∈ d → b = a := by
  obtain ⟨t, et⟩ := List.mem_iff_getElem?.mp hc
  have ht : (t : Int) ∈ fT ts j := (mem_tw et).mpr (List.contains_iff_mem.mpr hk)
  have hs : fT ts j ∈ sgL (fT ts) n := List.mem_filter.mpr ⟨keys_mem _ hj, by
    cases h : fT ts j with
    | nil => rw [h] at ht; cases ht
    | cons _ _ => rfl⟩
  obtain ⟨a, ea⟩ := List.mem_iff_getElem?.mp hs
  refine ⟨a, pick (memb (fT ts) (fT ts j)) n, by rw [classes_eq, List.getElem?_map, ea]; rfl, mem_pick.mpr ⟨j, hj, decide_eq_true rfl, rfl⟩, fun b d hb hd => ?_⟩
  rw [classes_eq, List.getElem?_map] at hb
  obtain ⟨key, ek, rfl⟩ := Option.map_eq_some_iff.mp hb
  obtain ⟨i, i1, i2, i3⟩ := mem_pick.mp hd
  have : i = j := by omega
  subst this
  have q : fT ts i = key := of_decide_eq_true i2
  subst q
  exact nodup_at (sg_nodup _ _) ek ea
theorem row_val (at_ : Nat) (k : Int) : ∀ (c : List Int) (g : Nums), valV (putRow g at_ c) (Sum.inl k : L2.Key) = if k ∈ c then some (V.int (at_ : Int)) else valV g (Sum.inl k : L2.Key)
  | [], g => by simp [putRow]
  | x :: c, g => by
    have ih := row_val at_ k c (putK g (Sum.inl x : L2.Key) (V.int (at_ : Int)))
    show valV (putRow (putK g (Sum.inl x : L2.Key) (V.int (at_ : Int))) at_ c) _ = _
    rw [ih, valV_put]
    by_cases h1 : k ∈ c
    · rw [if_pos h1, if_pos (List.mem_cons_of_mem _ h1)]
    · rw [if_neg h1]
      by_cases h2 : k = x
      · subst h2
        rw [if_pos rfl, if_pos List.mem_cons_self]
      · rw [if_neg (fun z => h2 (Sum.inl.inj z)), if_neg (fun z => (List.mem_cons.mp z).elim h2 h1)]
theorem num_val {cs : List (List Int)} {k : Int} {a : Nat} (hk : k ∈ cs.getD a []) (only : ∀ b, b ≠ a → k ∉ cs.getD b []) : ∀ i, a < i → valV (numF cs i) (Sum.inl k : L2.Key) = some (V.int (a : Int))
  | 0, h => by omega
  | i + 1, h => by
    show valV (putRow (numF cs i) i (cs.getD i [])) _ = _
    rw [row_val]
    by_cases e : i = a
    · subst e
      rw [if_pos hk]
    · rw [if_neg (only i e)]
      exact num_val hk only i (by omega)
theorem num_of {cs : List (List Int)} {k : Int} {a : Nat} {cl : List Int} (ha : cs[a]? = some cl) (hk : k ∈ cl) (only : ∀ b d, cs[b]? = some d → k ∈ d → b = a) : numV cs k = .int (a : Int) := by
  have g : cs.getD a [] = cl := by rw [List.getD_eq_getElem?_getD, ha]; rfl
  unfold numV
  rw [num_val (a := a) (by rw [g]; exact hk) (fun b nb hb => ?_) cs.length (List.getElem?_eq_some_iff.mp ha).1]
  · rfl
  · rw [List.getD_eq_getElem?_getD] at hb
    cases hc : cs[b]? with
    | none => rw [hc] at hb; cases hb
    | some d =>
      rw [hc] at hb
      exact nb (only b d hc hb)
def headI (c : List Int) : Int := c.getD 0 0
theorem rec_iff {ts : List (List Int)} {n : Nat} {c cl : List Int} {a : Nat} (hc : c ∈ ts) (ok : ∀ x ∈ c, 0 ≤ x ∧ x < (n : Int)) (ha : (classesL ts n)[a]? = some cl) : (∃ k ∈ c, numV (classesL ts n) k = V.int (a : Int)) ↔ c.contains (headI cl) = true := by
  obtain ⟨t, et⟩ := List.mem_iff_getElem?.mp hc
  have ha' := ha
  rw [classes_eq, List.getElem?_map] at ha'
  obtain ⟨key, ek, e2⟩ := Option.map_eq_some_iff.mp ha'
  have hkey := (List.mem_filter.mp (List.mem_of_getElem? ek)).1
  obtain ⟨j1, l1, f1⟩ := keys_from _ hkey
  have ne : cl ≠ [] := by
    intro z
    have : (j1 : Int) ∈ cl := by rw [← e2]; exact mem_pick.mpr ⟨j1, l1, decide_eq_true f1, rfl⟩
    rw [z] at this
    cases this
  have hm : headI cl ∈ cl := by
    cases cl with
    | nil => exact absurd rfl ne
    | cons x r => exact List.mem_cons_self
  have hm2 := hm
  rw [← e2] at hm2
  obtain ⟨j0, l0, f0, e0⟩ := mem_pick.mp hm2
  have f0 : fT ts j0 = key := of_decide_eq_true f0
  rw [e2] at e0
  constructor
  · rintro ⟨k, hk, hn⟩
    have ⟨k0, k1⟩ := ok k hk
    obtain ⟨j, rfl⟩ := Int.eq_ofNat_of_zero_le k0
    obtain ⟨a2, cl2, g1, g2, g3⟩ := cls_one (n := n) hc (by omega) hk
    rw [num_of g1 g2 g3] at hn
    have : a2 = a := by have := V.int.inj hn; omega
    subst this
    have e3 : cl2 = cl := Option.some.inj (g1.symm.trans ha)
    subst e3
    rw [← e2] at g2
    obtain ⟨j', l', f', e'⟩ := mem_pick.mp g2
    have : j' = j := by omega
    subst this
    have f' : fT ts j' = key := of_decide_eq_true f'
    have z : (t : Int) ∈ fT ts j' := (mem_tw et).mpr (List.contains_iff_mem.mpr hk)
    rw [f', ← f0] at z
    rw [e0]
    exact (mem_tw et).mp z
  · intro z
    have hk := List.contains_iff_mem.mp z
    rw [e0] at hk
    obtain ⟨a2, cl2, g1, g2, g3⟩ := cls_one hc l0 hk
    refine ⟨(j0 : Int), hk, ?_⟩
    have : a = a2 := g3 a cl ha (by rw [← e0]; exact hm)
    subst this
    exact num_of g1 g2 g3
def numI (cs : List (List Int)) (k : Int) : Int := match numV cs k with
  | .int a => a
  | _ => 0
theorem num_int {ts : List (List Int)} {n : Nat} {c : List Int} {k : Int} (hc : c ∈ ts) (ok : ∀ x ∈ c, 0 ≤ x ∧ x < (n : Int)) (hk : k ∈ c) : numV (classesL ts n) k = V.int (numI (classesL ts n) k) := by
  have ⟨k0, k1⟩ := ok k hk
  obtain ⟨j, rfl⟩ := Int.eq_ofNat_of_zero_le k0
  obtain ⟨a2, cl2, g1, g2, g3⟩ := cls_one (n := n) hc (by omega) hk
  have e := num_of g1 g2 g3
  unfold numI
  rw [e]
end CK
namespace VG
open PySem PySem.Spec PyProof.Rows L2
theorem units65 {k : Nat} {A : Around} (hr : Room k A) : A.units + 65 < cLine := by
  have := hr.un
  omega
end VG
namespace FR
/-- each q is t over B -/
def Ov (B : Int) : List Q2 → List Int → Prop
  | [], [] => True
  | q :: qs, t :: ts => (M2.Low q.1 q.2 ∧ q.1 * B = t * q.2) ∧ Ov B qs ts
  | _, _ => False
/-- the best of them -/
structure Tot (lt : Q2 → Q2 → Bool) : Prop where
  asym : ∀ a b : Q2, lt a b = true → lt b a = false
  tr : ∀ a b c : Q2, 0 < a.2 → 0 < b.2 → 0 < c.2 → lt a b = false → lt b c = false → lt a c = false
theorem tot_less : Tot lessQ := by
  constructor
  · intro a b h
    have := of_decide_eq_true h
    exact decide_eq_false (by omega)
  · intro a b c ha hb hc h1 h2
    have h1 := of_decide_eq_false h1
    have h2 := of_decide_eq_false h2
    refine decide_eq_false fun z => ?_
    -- b.1*a.2 ≤ a.1*b.2, c.1*b.2 ≤ b.1*c.2
    have g1 : b.1 * a.2 ≤ a.1 * b.2 := by omega
    have g2 : c.1 * b.2 ≤ b.1 * c.2 := by omega
    have p1 := Int.mul_le_mul_of_nonneg_right g1 (Int.le_of_lt hc)
    have p2 := Int.mul_le_mul_of_nonneg_right g2 (Int.le_of_lt ha)
    have p3 := Int.mul_lt_mul_of_pos_right z hb
    have e1 : b.1 * a.2 * c.2 = b.1 * c.2 * a.2 := by grind
    have e2 : a.1 * b.2 * c.2 = a.1 * c.2 * b.2 := by grind
    have e3 : c.1 * b.2 * a.2 = c.1 * a.2 * b.2 := by grind
    omega
theorem tot_gt : Tot gtQ := by
  constructor
  · intro a b h
    exact tot_less.asym b a h
  · intro a b c ha hb hc h1 h2
    exact tot_less.tr c b a hc hb ha h2 h1
open PySem PySem.Spec PyProof.Rows L2 VG HD
theorem best_some {lt : Q2 → Q2 → Bool} (T : Tot lt) : ∀ (l : List (V × Q2)) (b : V × Q2), 0 < b.2.2 → (∀ x ∈ l, 0 < x.2.2) → ∃ r, bestF lt (some b) l = some r ∧ r ∈ b :: l ∧ ∀ y ∈ b :: l, lt y.2 r.2 = false
  | [], b, _, _ => ⟨b, rfl, List.mem_cons_self, fun y hy => by
      have e : y = b := by simpa using hy
      subst e
      cases h : lt y.2 y.2
      · rfl
      · have := T.asym _ _ h
        rw [h] at this
        cases this⟩
  | x :: xs, b, hb, hx => by
    have px := hx x List.mem_cons_self
    have self : ∀ z : Q2, lt z z = false := fun z => by
      cases h : lt z z
      · rfl
      · have := T.asym _ _ h
        rw [h] at this
        cases this
    show ∃ r, bestF lt (if lt x.2 b.2 = true then some x else some b) xs = some r ∧ _
    by_cases h : lt x.2 b.2 = true
    · rw [if_pos h]
      obtain ⟨r, e, m, f⟩ := best_some T xs x px fun y hy => hx y (List.mem_cons_of_mem _ hy)
      refine ⟨r, e, List.mem_cons_of_mem _ m, fun y hy => ?_⟩
      rcases List.mem_cons.mp hy with z | z
      · subst z
        have pr : 0 < r.2.2 := by
          rcases List.mem_cons.mp m with z | z
          · rw [z]; exact px
          · exact hx _ (List.mem_cons_of_mem _ z)
        exact T.tr _ _ _ hb px pr (T.asym _ _ h) (f x List.mem_cons_self)
      · exact f y z
    · rw [if_neg h]
      obtain ⟨r, e, m, f⟩ := best_some T xs b hb fun y hy => hx y (List.mem_cons_of_mem _ hy)
      have h' : lt x.2 b.2 = false := Bool.eq_false_iff.mpr h
      refine ⟨r, e, ?_, fun y hy => ?_⟩
      · rcases List.mem_cons.mp m with z | z
        · rw [z]; exact List.mem_cons_self
        · exact List.mem_cons_of_mem _ (List.mem_cons_of_mem _ z)
      · have pr : 0 < r.2.2 := by
          rcases List.mem_cons.mp m with z | z
          · rw [z]; exact hb
          · exact hx _ (List.mem_cons_of_mem _ z)
        rcases List.mem_cons.mp hy with z | z
        · rw [z]; exact f b List.mem_cons_self
        rcases List.mem_cons.mp z with z | z
        · rw [z]
          exact T.tr _ _ _ px hb pr h' (f b List.mem_cons_self)
        · exact f y (List.mem_cons_of_mem _ z)
end FR
namespace FR
open PySem PySem.Spec PyProof.Rows L2 VG HD
theorem Frs.keep {K : PySem.W.Frag} {H H' : Hp} {p q : Addr} (hd : Hd p q H) (kp : Keep p q H H') : ∀ {vs : List V} {ps : List Q2}, Frs K H vs ps → Frs K H' vs ps
  | [], [], _ => trivial
  | _ :: _, _ :: _, ⟨⟨t, e1, h⟩, r⟩ => ⟨⟨t, e1, seqTK hd kp h⟩, Frs.keep hd kp r⟩
  | [], _ :: _, h => h.elim
  | _ :: _, [], h => h.elim
theorem hd_put {p q D : Addr} {H : Hp} {o : HO} (h : Hd p q H) (n1 : D ≠ p) (n2 : D ≠ q) : Hd p q (L2.upd H D o) := by
  obtain ⟨cs, st, h1, h2, h3⟩ := h
  exact ⟨cs, st, by rw [upd_ne n1.symm]; exact h1, by rw [upd_ne n2.symm]; exact h2, h3⟩
theorem dpAll_ps {K : PySem.W.Frag} {H : Hp} : ∀ {vs : List V} {ps : List Q2}, Frs K H vs ps → DpAll K H vs (ps.map dQ)
  | [], [], _ => .nil
  | _ :: _, _ :: _, ⟨⟨t, e1, h⟩, r⟩ => by
    subst e1
    exact .cons (dpQ h) (dpAll_ps r)
  | [], _ :: _, h => h.elim
  | _ :: _, [], h => h.elim
theorem best_of {K : PySem.W.Frag} {H : Hp} {lt : Q2 → Q2 → Bool} (T : Tot lt) {xs : List V} {ps : List Q2} (fr : Frs K H xs ps) (h : ∀ a ∈ ps, 0 < a.2) (n : ps ≠ []) :
    ∃ t q, bestV (bestF lt none (xs.zip ps)) = .ref t ∧ SqT K H t (pV q) ∧ q ∈ ps ∧ ∀ y ∈ ps, lt y q = false := by
  have hl := fr.len
  match xs, ps, n with
  | v :: vs, p :: ps, _ =>
    obtain ⟨r, e, m, f⟩ := best_some T (vs.zip ps) (v, p) (h p List.mem_cons_self) (fun x hx => h _ (List.mem_cons_of_mem _ (List.of_mem_zip hx).2))
    have m2 : r ∈ (v :: vs).zip (p :: ps) := m
    obtain ⟨i, ei⟩ := List.mem_iff_getElem?.mp m2
    have ⟨g1, g2⟩ := List.getElem?_zip_eq_some.mp ei
    obtain ⟨t, q, e1, e2, hq⟩ := fr.get g1
    have e3 : r.2 = q := Option.some.inj (g2.symm.trans e2)
    refine ⟨t, q, ?_, hq, List.mem_of_getElem? e2, fun y hy => ?_⟩
    · show bestV (bestF lt (some (v, p)) (vs.zip ps)) = _
      rw [e]
      exact e1
    · obtain ⟨j, ej⟩ := List.mem_iff_getElem?.mp hy
      have hj : j < (v :: vs).length := by
        have := (List.getElem?_eq_some_iff.mp ej).1
        omega
      have := f ((v :: vs)[j], y) (show ((v :: vs)[j], y) ∈ (v :: vs).zip (p :: ps) from List.mem_iff_getElem?.mpr ⟨j, List.getElem?_zip_eq_some.mpr ⟨List.getElem?_eq_getElem hj, ej⟩⟩)
      rw [← e3]
      exact this
  | [], _ :: _, _ => cases hl
end FR
namespace VG
open PySem PySem.Spec PyProof.Rows L2 HT
end VG
namespace FR
open PySem PySem.Spec PyProof.Rows L2 VG HD
theorem tyX_mono {K : PySem.W.Frag} {H H' : Hp} (e : Same H H') {v : V} {ty : String} (h : TyX K H v (.type ty)) : TyX K H' v (.type ty) := by
  cases h with
  | base b =>
    cases b with
    | non => exact .base .non
    | bl x => exact .base (.bl x)
    | int i => exact .base (.int i)
    | str x => exact .base (.str x)
    | flt x => exact .base (.flt x)
    | lst h => exact .base (.lst (e _ _ h))
    | frz h => exact .base (.frz (e _ _ h))
    | tup h => exact .base (.tup (e _ _ h))
    | dK h => exact .base (.dK (e _ _ h))
    | dT h => exact .base (.dT (e _ _ h))
  | byt b => exact .byt b
  | set h => exact .set (e _ _ h)
  | kList a b => exact .kList a b
  | kTuple a b => exact .kTuple a b
  | kDict a b => exact .kDict a b
  | fTuple h => exact .fTuple (e _ _ h)
  | fDict h => exact .fDict (e _ _ h)
theorem part_mono {K : PySem.W.Frag} {H H' : Hp} (e : Same H H') {v : V} {o : Option Int} (h : Part K H v o) : Part K H' v o := by
  rcases h with h | ⟨h1, ty, b1, b2, t, h2⟩
  · exact .inl h
  · exact .inr ⟨h1, ty, b1, b2, tyX_mono e t, h2⟩
/-- what is_fraction says of a value -/
def OddV (K : PySem.W.Frag) (H : Hp) (v : V) (r : Bool) : Prop :=
  (∃ ty : String, TyX K H v (.type ty) ∧ kitB ty "tuple" = some false ∧ r = false) ∨ (∃ t xs, v = .ref t ∧ SqT K H t xs ∧ xs.length ≠ 2 ∧ r = false) ∨
  ∃ t x y o1 o2, v = .ref t ∧ SqT K H t [x, y] ∧ Part K H x o1 ∧ Part K H y o2 ∧ r = okFr o1 o2 ∧ ∀ b, o2 = some b → b.natAbs < 2 ^ 900
theorem OddV.mono {K : PySem.W.Frag} {H H' : Hp} (e : Same H H') {v : V} {r : Bool} (h : OddV K H v r) : OddV K H' v r := by
  rcases h with ⟨ty, a, b⟩ | ⟨t, xs, a, b, c⟩ | ⟨t, x, y, o1, o2, a, b, c, d, f⟩
  · exact .inl ⟨ty, tyX_mono e a, b⟩
  · exact .inr (.inl ⟨t, xs, a, seqT e b, c⟩)
  · exact .inr (.inr ⟨t, x, y, o1, o2, a, seqT e b, part_mono e c, part_mono e d, f⟩)
def frz (p q : Addr) (H : Hp) : Hp := fun b => if b = p ∨ b = q then none else H b
theorem frz_at {p q t : Addr} {H : Hp} {o : HO} (h : H t = some o) (n : t ≠ p ∧ t ≠ q) : frz p q H t = some o := by
  unfold frz
  rw [if_neg (fun z => z.elim n.1 n.2)]
  exact h
theorem frz_keep {p q : Addr} {H H' : Hp} (h : Keep p q H H') : Same (frz p q H) H' := fun b o e => by
  unfold frz at e
  by_cases z : b = p ∨ b = q
  · rw [if_pos z] at e
    cases e
  · rw [if_neg z] at e
    exact h b o (fun y => z (.inl y)) (fun y => z (.inr y)) e
theorem all_cons {P : V → Prop} {x : V} {xs : List V} (h : P x) (t : ∀ v ∈ xs, P v) : ∀ v ∈ x :: xs, P v := fun v hv => by
  rcases List.mem_cons.mp hv with z | z
  · rw [z]; exact h
  · exact t v z
end FR
namespace CK
open PySem PySem.Spec PyProof.Rows L2 VG FR HD
def On (p q : Addr) (G H : Hp) : Prop := Hd p q H ∧ Same G H ∧ G p = none ∧ G q = none
theorem frz_p (p q : Addr) (H : Hp) : frz p q H p = none ∧ frz p q H q = none := by
  unfold frz
  exact ⟨if_pos (.inl rfl), if_pos (.inr rfl)⟩
theorem frz_le {p q : Addr} {H : Hp} : Same (frz p q H) H := frz_keep (Keep.refl p q H)
theorem frz_cases {p q b : Addr} {o : HO} {H : Hp} (h : frz p q H b = some o) : b ≠ p ∧ b ≠ q ∧ H b = some o := by
  unfold frz at h
  by_cases z : b = p ∨ b = q
  · rw [if_pos z] at h
    cases h
  · rw [if_neg z] at h
    exact ⟨fun y => z (.inl y), fun y => z (.inr y), h⟩
section
variable {p q : Addr} {G H H' : Hp}
theorem On.start (h : Hd p q H) : On p q (frz p q H) H := ⟨h, frz_le, (frz_p p q H).1, (frz_p p q H).2⟩
theorem On.hd (h : On p q G H) : Hd p q H := h.1
theorem On.le (h : On p q G H) : Same G H := h.2.1
theorem On.neP (h : On p q G H) {b : Addr} {o : HO} (e : G b = some o) : b ≠ p ∧ b ≠ q := ⟨fun z => (by rw [z, h.2.2.1] at e; cases e), fun z => (by rw [z, h.2.2.2] at e; cases e)⟩
theorem On.draw (h : On p q G H) (hd : Hd p q H') (k : Keep p q H H') : On p q G H' :=
  ⟨hd, fun b o e => k b o (h.neP e).1 (h.neP e).2 (h.le b o e), h.2.2⟩
theorem On.same (h : On p q G H) (s : Same H H') : On p q G H' := ⟨h.1.same s, h.le.trans s, h.2.2⟩
theorem On.new (h : On p q G H) {n : Addr} {o : HO} (hn : H n = none) : On p q G (L2.upd H n o) := h.same (same_upd hn)
theorem On.free (h : On p q G H) {n : Addr} (hn : H n = none) : n ≠ p ∧ n ≠ q ∧ G n = none := ⟨(h.1.free hn).1, (h.1.free hn).2, h.le.free hn⟩
theorem On.put (h : On p q G H) {D : Addr} {o : HO} (f : D ≠ p ∧ D ≠ q ∧ G D = none) : On p q G (L2.upd H D o) :=
  ⟨hd_put h.1 f.1 f.2.1, fun b x e => by rw [upd_ne (ne_of_none e f.2.2)]; exact h.le b x e, h.2.2⟩
theorem On.base (h : On p q G H) : On p q (frz p q H) H ∧ Same G (frz p q H) := ⟨.start h.1, fun b o e => frz_at (h.le b o e) (h.neP e)⟩
theorem On.keep (h : On p q (frz p q H) H') : Keep p q H H' := fun b o n1 n2 e => h.le b o (frz_at e ⟨n1, n2⟩)
theorem On.drop {G0 : Hp} (h : On p q G H) (s : Same G0 G) : On p q G0 H := ⟨h.1, s.trans h.le, s.free h.2.2.1, s.free h.2.2.2⟩
end
theorem atN {α : Type} {xs : List α} {k : Nat} (h : k < xs.length) : seqIndex? (k : Int) xs.length = some k := by
  unfold seqIndex?
  have : ¬ (k : Int) < 0 := by omega
  rw [if_neg this]
  have : (0 : Int) ≤ (k : Int) ∧ (k : Int) < (xs.length : Int) := by omega
  first
    | rw [if_pos this, Int.toNat_natCast]
    | simp [h]
theorem perm_move {xs ls fs : List V} {k : Nat} {y : V} (h : (ls ++ fs).Perm xs) (hy : ls[k]? = some y) : (ls.eraseIdx k ++ (fs ++ [y])).Perm xs := by
  refine List.Perm.trans ?_ h
  have hk := (List.getElem?_eq_some_iff.mp hy)
  obtain ⟨hk, ey⟩ := hk
  have e1 : ls.Perm (y :: ls.eraseIdx k) := by
    have e := List.eraseIdx_eq_take_drop_succ ls k
    have e2 : ls = ls.take k ++ (y :: ls.drop (k + 1)) := by
      rw [← ey, List.getElem_cons_drop, List.take_append_drop]
    rw [e]
    conv => lhs; rw [e2]
    exact List.perm_middle
  have e3 : (ls.eraseIdx k ++ (fs ++ [y])).Perm (y :: (ls.eraseIdx k ++ fs)) := by
    rw [← List.append_assoc]
    exact (List.perm_append_comm (l₁ := ls.eraseIdx k ++ fs) (l₂ := [y]))
  exact e3.trans (List.Perm.append_right fs e1).symm
abbrev cALPH : Str := "acdefghijklnop"
def lastC (t : Nat) : Nat := cALPH.cps.toList.getD (t % 14) 0
theorem last_ok (t : Nat) : cALPH.cps.toList[t % 14]? = some (lastC t) ∧ 97 ≤ lastC t ∧ lastC t ≤ 122 := by
  have h : ∀ i : Fin 14, cALPH.cps.toList[i.1]? = some (cALPH.cps.toList.getD i.1 0) ∧ 97 ≤ cALPH.cps.toList.getD i.1 0 ∧ cALPH.cps.toList.getD i.1 0 ≤ 122 := by decide +kernel
  exact h ⟨t % 14, Nat.mod_lt _ (by decide)⟩
/-- a word of a turn -/
def Wd (t : Nat) (z : Str) : Prop := ∃ pre : List Nat, z.cps.toList = pre ++ [lastC t] ∧ pre.length ≤ 2 ∧ ∀ c ∈ pre, 97 ≤ c ∧ c ≤ 122
theorem Wd.name {t : Nat} {z : Str} (h : Wd t z) : NameOk z := by
  obtain ⟨pre, e, l, a⟩ := h
  have sz : z.cps.size = pre.length + 1 := by rw [← Array.length_toList, e, List.length_append]; rfl
  refine ⟨by omega, by omega, fun c hc => ?_⟩
  rw [e] at hc
  rcases List.mem_append.mp hc with q | q
  · exact a c q
  · have := List.mem_singleton.mp q
    subst this
    exact (last_ok t).2
theorem Wd.ne {i j : Nat} {z : Str} (h1 : Wd i z) (h2 : Wd j z) : lastC i = lastC j := by
  obtain ⟨a, e1, _⟩ := h1
  obtain ⟨b, e2, _⟩ := h2
  rw [e1] at e2
  have := (List.append_inj' e2 rfl).2
  exact (List.cons.inj this).1
theorem rising_step : ∀ (p : Str) (l : List Str) (i : Nat) (a b : Str), risingS p l = true → (p :: l)[i]? = some a → (p :: l)[i + 1]? = some b → ltCps b.cps.toList a.cps.toList = false
  | p, [], i, a, b, _, _, h => by simp at h
  | p, x :: r, 0, a, b, h, ha, hb => by
    have e1 : p = a := Option.some.inj ha
    have e2 : x = b := Option.some.inj hb
    subst e1 e2
    have h : (!ltCps x.cps.toList p.cps.toList && risingS x r) = true := h
    rw [Bool.and_eq_true] at h
    simpa using h.1
  | p, x :: r, i + 1, a, b, h, ha, hb => by
    have h : (!ltCps x.cps.toList p.cps.toList && risingS x r) = true := h
    rw [Bool.and_eq_true] at h
    exact rising_step x r i a b h.2 ha hb
theorem ascS_of {ks : List Str} (h : sortedS ks = true) (n : ks.Nodup) : AscS ks := by
  intro i a b ha hb
  have ne : a ≠ b := fun z => by
    subst z
    have := nodup_at n ha hb
    omega
  have le : ltCps b.cps.toList a.cps.toList = false := by
    cases ks with
    | nil => simp at ha
    | cons p l => exact rising_step p l i a b h ha hb
  rw [ltCps_eq] at le
  have le := of_decide_eq_false le
  have ne2 : a.cps.toList ≠ b.cps.toList := fun z => ne (by
    obtain ⟨x⟩ := a
    obtain ⟨y⟩ := b
    have e : x = y := Array.toList_inj.mp z
    rw [e])
  rcases Std.lt_trichotomy a.cps.toList b.cps.toList with z | z | z
  · exact z
  · exact absurd z ne2
  · exact absurd z le
def spLawNames (K : PySem.W.Frag) : Sp := fun vs H Q _ => ∃ (p q : Addr) (m : Nat), vs = [.ref p, .int m] ∧ Hd p q H ∧ 1 ≤ m ∧ m ≤ 12 ∧ ∀ (H' : Hp) (u : Addr) (ks : List Str), On p q (frz p q H) H' → H' u = some (.tup (ks.map V.str)) → KindsOk ks → ks.length = m → Q (.ref u) H'
end CK
namespace CK
open PySem PySem.Spec PyProof.Rows L2 VG FR HD
theorem fmod_nat (i : Nat) {m : Nat} (h : 0 < m) : ((i : Int)).fmod (m : Int) = ((i % m : Nat) : Int) := by
  rw [Int.fmod_eq_emod_of_nonneg _ (by omega)]
  rfl
end CK
namespace CK
open PySem PySem.Spec PyProof.Rows L2 VG FR HD
def asInts (ys : List V) : List Int := ys.map fun v => match v with
  | .int a => a
  | _ => 0
theorem as_ints : ∀ c : List Int, asInts (c.map V.int) = c
  | [] => rfl
  | a :: c => by
    show a :: asInts (c.map V.int) = a :: c
    rw [as_ints c]
def rd (G : Hp) (v : V) : List Int := match v with
  | .ref t => match G t with
    | some (.lst ys) => asInts ys
    | _ => []
  | _ => []
def LOk (G : Hp) (v : V) : Prop := ∃ (t : Addr) (c : List Int), v = .ref t ∧ G t = some (.lst (c.map V.int))
theorem rd_eq {G : Hp} {t : Addr} {c : List Int} (h : G t = some (.lst (c.map V.int))) : rd G (.ref t) = c := by
  show (match G t with
    | some (.lst ys) => asInts ys
    | _ => []) = c
  rw [h]
  exact as_ints c
theorem LOk.get {G : Hp} {v : V} (h : LOk G v) : ∃ t, v = .ref t ∧ G t = some (.lst ((rd G v).map V.int)) := by
  obtain ⟨t, c, rfl, e⟩ := h
  exact ⟨t, rfl, by rw [rd_eq e]; exact e⟩
theorem LOk.mono {G G' : Hp} (s : Same G G') {v : V} (h : LOk G v) : LOk G' v ∧ rd G' v = rd G v := by
  obtain ⟨t, c, rfl, e⟩ := h
  exact ⟨⟨t, c, rfl, s _ _ e⟩, by rw [rd_eq e, rd_eq (s _ _ e)]⟩
def Ls (G : Hp) (xs : List V) : Prop := ∀ v ∈ xs, LOk G v
theorem Ls.mono {G G' : Hp} (s : Same G G') {xs : List V} (h : Ls G xs) : Ls G' xs ∧ xs.map (rd G') = xs.map (rd G) :=
  ⟨fun v hv => ((h v hv).mono s).1, List.map_congr_left fun v hv => ((h v hv).mono s).2⟩
theorem asc_lt : ∀ {l : List Int} {a : Int}, Asc (a :: l) → ∀ x ∈ l, a < x
  | b :: l, a, h, x, hx => by
    rcases List.mem_cons.mp hx with z | z
    · rw [z]
      exact h.1
    · exact Int.lt_trans h.1 (asc_lt h.2 x z)
theorem asc_nodup : ∀ {l : List Int}, Asc l → l.Nodup
  | [], _ => List.nodup_nil
  | a :: l, h => by
    refine List.nodup_cons.mpr ⟨fun z => ?_, asc_nodup (l := l) ?_⟩
    · have := asc_lt h a z
      omega
    · cases l with
      | nil => trivial
      | cons b r => exact h.2
/-- a lot of numbers below m -/
def LotI (m : Nat) (c : List Int) : Prop := Asc c ∧ ∀ x ∈ c, 0 ≤ x ∧ x < (m : Int)
theorem below_len {m : Nat} {c : List Int} (n : c.Nodup) (h : ∀ x ∈ c, 0 ≤ x ∧ x < (m : Int)) : c.length ≤ m := by
  have z := nodup_le c ((List.range m).map fun (j : Nat) => (j : Int)) n fun x hx => by
    have ⟨h1, h2⟩ := h x hx
    obtain ⟨j, rfl⟩ := Int.eq_ofNat_of_zero_le h1
    exact List.mem_map.mpr ⟨j, List.mem_range.mpr (by omega), rfl⟩
  rw [List.length_map, List.length_range] at z
  exact z
theorem LotI.len {m : Nat} {c : List Int} (h : LotI m c) : c.length ≤ m := below_len (asc_nodup h.1) h.2
/-- lists at given places -/
def Blk (H : Hp) : List Addr → List (List Int) → Prop
  | t :: ts, b :: bs => H t = some (.lst (b.map V.int)) ∧ Blk H ts bs
  | [], [] => True
  | _, _ => False
theorem Blk.len {H : Hp} : ∀ {ts : List Addr} {bs : List (List Int)}, Blk H ts bs → ts.length = bs.length
  | [], [], _ => rfl
  | _ :: _, _ :: _, h => by rw [List.length_cons, List.length_cons, h.2.len]
  | [], _ :: _, h => h.elim
  | _ :: _, [], h => h.elim
theorem Blk.imp {H H' : Hp} : ∀ {ts : List Addr} {bs : List (List Int)}, (∀ t ∈ ts, ∀ o, H t = some o → H' t = some o) → Blk H ts bs → Blk H' ts bs
  | [], [], _, _ => trivial
  | t :: ts, b :: bs, k, h => ⟨k t List.mem_cons_self _ h.1, Blk.imp (fun u hu => k u (List.mem_cons_of_mem _ hu)) h.2⟩
  | [], _ :: _, _, h => h.elim
  | _ :: _, [], _, h => h.elim
theorem Blk.get {H : Hp} : ∀ {ts : List Addr} {bs : List (List Int)} {j : Nat} {t : Addr}, Blk H ts bs → ts[j]? = some t → ∃ b, bs[j]? = some b ∧ H t = some (.lst (b.map V.int))
  | a :: _, b :: _, 0, t, h, e => by
    have e1 : a = t := Option.some.inj e
    subst e1
    exact ⟨b, rfl, h.1⟩
  | _ :: ts, _ :: bs, j + 1, t, h, e => h.2.get (j := j) e
  | [], [], _, _, _, e => by cases e
  | [], _ :: _, _, _, h, _ => h.elim
  | _ :: _, [], _, _, h, _ => h.elim
theorem Blk.at_ {H : Hp} {ts : List Addr} {bs : List (List Int)} (h : Blk H ts bs) {t : Addr} (m : t ∈ ts) : ∃ b, b ∈ bs ∧ H t = some (.lst (b.map V.int)) := by
  obtain ⟨j, e⟩ := List.mem_iff_getElem?.mp m
  obtain ⟨b, e2, k⟩ := h.get e
  exact ⟨b, List.mem_of_getElem? e2, k⟩
theorem Blk.snoc {H : Hp} {t : Addr} {b : List Int} (k : H t = some (.lst (b.map V.int))) : ∀ {ts : List Addr} {bs : List (List Int)}, Blk H ts bs → Blk H (ts ++ [t]) (bs ++ [b])
  | [], [], _ => ⟨k, trivial⟩
  | _ :: _, _ :: _, h => ⟨h.1, h.2.snoc k⟩
  | [], _ :: _, h => h.elim
  | _ :: _, [], h => h.elim
theorem Blk.set {H : Hp} {c : List Int} : ∀ {ts : List Addr} {bs : List (List Int)} {j : Nat} {t : Addr}, ts.Nodup → ts[j]? = some t → Blk H ts bs → Blk (L2.upd H t (.lst (c.map V.int))) ts (bs.set j c)
  | a :: ts, b :: bs, 0, t, n, e, h => by
    have e1 : a = t := Option.some.inj e
    subst e1
    refine ⟨upd_same, Blk.imp (fun u hu o k => ?_) h.2⟩
    have : u ≠ a := fun z => (List.nodup_cons.mp n).1 (z ▸ hu)
    rw [upd_ne this]
    exact k
  | a :: ts, b :: bs, j + 1, t, n, e, h => by
    have ha : a ≠ t := fun z => (List.nodup_cons.mp n).1 (z ▸ List.mem_of_getElem? (l := ts) (i := j) e)
    refine ⟨by rw [upd_ne ha]; exact h.1, Blk.set (j := j) (List.nodup_cons.mp n).2 e h.2⟩
  | [], [], _, _, _, e, _ => by cases e
  | [], _ :: _, _, _, _, _, h => h.elim
  | _ :: _, [], _, _, _, _, h => h.elim
theorem Blk.ls {H : Hp} : ∀ {ts : List Addr} {bs : List (List Int)}, Blk H ts bs → Ls H (ts.map V.ref) ∧ (ts.map V.ref).map (rd H) = bs
  | [], [], _ => ⟨fun v h => (by cases h), rfl⟩
  | t :: ts, b :: bs, h => by
    have ih := h.2.ls
    refine ⟨fun v hv => ?_, ?_⟩
    · rcases List.mem_cons.mp hv with z | z
      · rw [z]
        exact ⟨t, b, rfl, h.1⟩
      · exact ih.1 v z
    · show rd H (.ref t) :: (ts.map V.ref).map (rd H) = b :: bs
      rw [ih.2, rd_eq h.1]
  | [], _ :: _, h => h.elim
  | _ :: _, [], h => h.elim
/-- blocks: lists without a common member, together the numbers below m -/
def BlocksOk (m : Nat) (bs : List (List Int)) : Prop := M15.Apart bs ∧ bs ≠ [] ∧ bs.length ≤ 12 ∧ ∀ b ∈ bs, ∀ x ∈ b, 0 ≤ x ∧ x < (m : Int)
end CK
namespace CK
open PySem PySem.Spec PyProof.Rows L2 VG FR HD
theorem eqvAll_ints : ∀ a b : List Int, PyData.eqvAll (a.map PyData.int) (b.map PyData.int) = decide (a = b)
  | [], [] => by simp [PyData.eqvAll]
  | [], _ :: _ => by simp [PyData.eqvAll]
  | _ :: _, [] => by simp [PyData.eqvAll]
  | x :: a, y :: b => by
    have ih := eqvAll_ints a b
    rw [List.map_cons, List.map_cons, PyData.eqvAll, ih, PyData.eqv]
    by_cases h : x = y
    · subst h
      by_cases k : a = b
      · subst k
        simp
      · simp [k]
    · simp [h]
theorem eqv_ints (a b : List Int) : PyData.eqv (.list (a.map PyData.int)) (.list (b.map PyData.int)) = decide (a = b) := by
  rw [PyData.eqv]
  exact eqvAll_ints a b
def dL (cs : List (List Int)) : List PyData := cs.map fun c => .list (c.map PyData.int)
theorem shaped_dL (cs : List (List Int)) : SeqAt.shaped (.list (dL cs)) = true := by
  have h : ∀ cs : List (List Int), PyData.canLayAll0 (dL cs) = true ∧ PyData.depthAll (dL cs) ≤ 1 := by
    intro cs
    induction cs with
    | nil => exact ⟨rfl, Nat.zero_le _⟩
    | cons c cs ih =>
      refine ⟨?_, ?_⟩
      · show (PyData.canLayAll0 (c.map PyData.int) && PyData.canLayAll0 (dL cs)) = true
        rw [ih.1, lay_ints]
        rfl
      · show max (PyData.depthAll (c.map PyData.int) + 1) (PyData.depthAll (dL cs)) ≤ 1
        rw [depth_ints]
        omega
  have ⟨h1, h2⟩ := h cs
  unfold SeqAt.shaped
  rw [Bool.and_eq_true]
  refine ⟨h1, decide_eq_true ?_⟩
  show PyData.depthAll (dL cs) + 1 ≤ 64
  omega
theorem any_dL (c : List Int) : ∀ cs : List (List Int), (dL cs).any (fun z => PyData.eqv z (.list (c.map PyData.int))) = decide (c ∈ cs)
  | [] => by simp [dL]
  | d :: cs => by
    have ih := any_dL c cs
    show (PyData.eqv (.list (d.map PyData.int)) (.list (c.map PyData.int)) || (dL cs).any _) = _
    rw [ih, eqv_ints]
    by_cases h : d = c
    · subst h
      simp
    · have : ¬ c = d := fun z => h z.symm
      simp [h, this]
theorem sg_succ (f : Nat → List Int) (i : Nat) : sgL f (i + 1) = if f i = [] ∨ f i ∈ sgL f i then sgL f i else sgL f i ++ [f i] := by
  have e : sgL f (i + 1) = (if f i ∈ keysOf f i then keysOf f i else keysOf f i ++ [f i]).filter fun c => !c.isEmpty := rfl
  rw [e]
  by_cases h : f i = []
  · rw [show (if f i = [] ∨ f i ∈ sgL f i then sgL f i else sgL f i ++ [f i]) = sgL f i from if_pos (.inl h)]
    by_cases k : f i ∈ keysOf f i
    · rw [if_pos k]
      rfl
    · rw [if_neg k, List.filter_append, h]
      show _ ++ [] = _
      exact List.append_nil _
  · have he : (!(f i).isEmpty) = true := by
      cases hc : f i with
      | nil => exact absurd hc h
      | cons _ _ => rfl
    by_cases k : f i ∈ keysOf f i
    · have ks : f i ∈ sgL f i := List.mem_filter.mpr ⟨k, he⟩
      rw [if_pos k, show (if f i = [] ∨ f i ∈ sgL f i then sgL f i else sgL f i ++ [f i]) = sgL f i from if_pos (.inr ks)]
      rfl
    · have nk : ¬ (f i = [] ∨ f i ∈ sgL f i) := fun z => z.elim h fun y => k (List.mem_filter.mp y).1
      rw [if_neg k, if_neg nk, List.filter_append]
      show sgL f i ++ _ = sgL f i ++ _
      congr 1
      rw [List.filter_cons, he]
      rfl
theorem sg_ne {f : Nat → List Int} {i : Nat} {c : List Int} (h : c ∈ sgL f i) : c ≠ [] := fun z => by
  have := (List.mem_filter.mp h).2
  rw [z] at this
  cases this
def pk (f : Nat → List Int) (i : Nat) (sg : List (List Int)) : List (List Int) := sg.map fun c => pick (memb f c) i
theorem pk_old {f : Nat → List Int} {i : Nat} {sg : List (List Int)} (h : f i ∉ sg) : pk f (i + 1) sg = pk f i sg := by
  unfold pk
  refine List.map_congr_left fun c hc => pick_no (decide_eq_false fun z => h (z ▸ hc))
theorem pk_new {f : Nat → List Int} {i j : Nat} {sg : List (List Int)} (n : sg.Nodup) (h : sg[j]? = some (f i)) (hj : j < (pk f i sg).length) : (pk f i sg).set j ((pk f i sg)[j] ++ [(i : Int)]) = pk f (i + 1) sg := by
  refine List.ext_getElem? fun k => ?_
  have hjs : j < sg.length := (List.getElem?_eq_some_iff.mp h).1
  by_cases e : j = k
  · subst e
    rw [List.getElem?_set_self hj]
    have e1 : (pk f i sg)[j]? = some (pick (memb f (f i)) i) := by unfold pk; rw [List.getElem?_map, h]; rfl
    have e2 : (pk f (i + 1) sg)[j]? = some (pick (memb f (f i)) (i + 1)) := by unfold pk; rw [List.getElem?_map, h]; rfl
    have e3 : (pk f i sg)[j] = pick (memb f (f i)) i := by
      have := List.getElem?_eq_getElem hj
      rw [e1] at this
      exact (Option.some.inj this).symm
    rw [e2, e3, pick_yes (decide_eq_true rfl)]
  · rw [List.getElem?_set_ne e]
    unfold pk
    rw [List.getElem?_map, List.getElem?_map]
    cases hk : sg[k]? with
    | none => rfl
    | some c =>
      have nc : f i ≠ c := fun z => e (nodup_at n (z ▸ h) hk)
      show some (pick (memb f c) i) = some (pick (memb f c) (i + 1))
      rw [pick_no (decide_eq_false nc)]
theorem pk_fresh {f : Nat → List Int} {i : Nat} (h : f i ∉ sgL f i) (ne : f i ≠ []) : pick (memb f (f i)) i = [] := pick_nil fun j hj => decide_eq_false fun q => h (List.mem_filter.mpr ⟨by rw [← q]; exact keys_mem f hj, by
  cases hc : f i with
  | nil => exact absurd hc ne
  | cons _ _ => rfl⟩)
/-- groups and their signs while they grow: H is the heap of before -/
def ClsW (H H' : Hp) (S F : Addr) (ss fs : List Addr) (sg bs : List (List Int)) : Prop := Same H H' ∧ H' S = some (.lst (ss.map V.ref)) ∧ Blk H' ss sg ∧ H' F = some (.lst (fs.map V.ref)) ∧ Blk H' fs bs ∧ fs.Nodup ∧
  (∀ t ∈ fs, t ≠ S ∧ t ≠ F ∧ H t = none) ∧ (∀ t ∈ ss, t ≠ S ∧ t ≠ F ∧ H t = none) ∧ ∀ t ∈ fs, t ∉ ss
theorem ClsW.same {H H1 H2 : Hp} {S F : Addr} {ss fs : List Addr} {sg bs : List (List Int)} (h : ClsW H H1 S F ss fs sg bs) (s : Same H1 H2) : ClsW H H2 S F ss fs sg bs :=
  ⟨h.1.trans s, s _ _ h.2.1, Blk.imp (fun t _ o k => s t o k) h.2.2.1, s _ _ h.2.2.2.1, Blk.imp (fun t _ o k => s t o k) h.2.2.2.2.1, h.2.2.2.2.2⟩
/-- a new sign, a new group -/
theorem ClsW.add {H H6 H7 H8 : Hp} {S F L T : Addr} {ss fs : List Addr} {sg bs : List (List Int)} {c : List Int} (h : ClsW H H6 S F ss fs sg bs) (nS : H S = none) (nF : H F = none) (kL : H6 L = some (.lst (c.map V.int))) (nL : L ≠ S ∧ L ≠ F ∧ H L = none) (Lf : L ∉ fs)
    (e7 : H7 = L2.upd H6 S (.lst (ss.map V.ref ++ [.ref L]))) (nT : H7 T = none) (e8 : H8 = L2.upd H7 T (.lst [])) (nSF : S ≠ F) :
    ClsW H (L2.upd H8 F (.lst (fs.map V.ref ++ [.ref T]))) S F (ss ++ [L]) (fs ++ [T]) (sg ++ [c]) (bs ++ [[]]) ∧ (L2.upd H8 F (.lst (fs.map V.ref ++ [.ref T]))) L = some (.lst (c.map V.int)) := by
  obtain ⟨sm, eS, bS, eF, bF, nd, avF, avS, dis⟩ := h
  have keep7 : ∀ t, t ≠ S → ∀ o, H6 t = some o → H7 t = some o := fun t n o k => by rw [e7, upd_ne n]; exact k
  have keep : ∀ t, t ≠ S → t ≠ F → ∀ o, H6 t = some o → (L2.upd H8 F (.lst (fs.map V.ref ++ [.ref T]))) t = some o := fun t n1 n2 o k => by
    rw [upd_ne n2, e8]
    exact same_upd nT _ _ (keep7 t n1 o k)
  have T0 : ∀ t, t ≠ S → H6 t ≠ none → t ≠ T := fun t n k z => by
    subst z
    cases e : H6 t with
    | none => exact k e
    | some o => rw [keep7 t n o e] at nT; cases nT
  have h7S : H7 S = some (.lst (ss.map V.ref ++ [.ref L])) := by rw [e7, upd_same]
  have nTS : T ≠ S := fun z => by subst z; rw [h7S] at nT; cases nT
  have nTF : T ≠ F := (T0 F nSF.symm (by rw [eF]; exact Option.some_ne_none _)).symm
  have HT : H T = none := by
    cases e : H T with
    | none => rfl
    | some o => exact absurd rfl (T0 T nTS (by rw [sm _ _ e]; exact Option.some_ne_none _))
  have inS : ∀ t ∈ ss, H6 t ≠ none := fun t ht => by obtain ⟨b, _, k⟩ := bS.at_ ht; rw [k]; exact Option.some_ne_none _
  have inF : ∀ t ∈ fs, H6 t ≠ none := fun t ht => by obtain ⟨b, _, k⟩ := bF.at_ ht; rw [k]; exact Option.some_ne_none _
  refine ⟨⟨fun b o e => keep b (fun z => by rw [z, nS] at e; cases e) (fun z => by rw [z, nF] at e; cases e) o (sm _ _ e), ?_, ?_, ?_, ?_, ?_, ?_, ?_, ?_⟩, keep L nL.1 nL.2.1 _ kL⟩
  · rw [upd_ne nSF, e8]
    rw [same_upd nT _ _ h7S, List.map_append]
    rfl
  · exact Blk.snoc (keep L nL.1 nL.2.1 _ kL) (Blk.imp (fun t ht o k => keep t (avS t ht).1 (avS t ht).2.1 o k) bS)
  · rw [upd_same, List.map_append]
    rfl
  · exact Blk.snoc (by rw [upd_ne nTF, e8, upd_same]; rfl) (Blk.imp (fun t ht o k => keep t (avF t ht).1 (avF t ht).2.1 o k) bF)
  · exact List.nodup_append.mpr ⟨nd, by simp, fun x hx y hy e => by
      have := List.mem_singleton.mp hy
      subst this
      exact T0 x (avF x hx).1 (inF x hx) e⟩
  · intro t ht
    rcases List.mem_append.mp ht with z | z
    · exact avF t z
    · rw [List.mem_singleton.mp z]
      exact ⟨nTS, nTF, HT⟩
  · intro t ht
    rcases List.mem_append.mp ht with z | z
    · exact avS t z
    · rw [List.mem_singleton.mp z]
      exact nL
  · intro t ht hs
    rcases List.mem_append.mp ht with z | z
    · rcases List.mem_append.mp hs with y | y
      · exact dis t z y
      · rw [List.mem_singleton.mp y] at z
        exact Lf z
    · have et := List.mem_singleton.mp z
      subst et
      rcases List.mem_append.mp hs with y | y
      · exact T0 t nTS (inS t y) rfl
      · exact T0 L nL.1 (by rw [kL]; exact Option.some_ne_none _) (List.mem_singleton.mp y).symm
/-- one more kind in a group -/
theorem ClsW.put {H H6 : Hp} {S F t : Addr} {ss fs : List Addr} {sg bs : List (List Int)} {j : Nat} {b : List Int} (h : ClsW H H6 S F ss fs sg bs) (et : fs[j]? = some t) : ClsW H (L2.upd H6 t (.lst (b.map V.int))) S F ss fs sg (bs.set j b) := by
  obtain ⟨sm, eS, bS, eF, bF, nd, avF, avS, dis⟩ := h
  have ht := List.mem_of_getElem? et
  have av := avF t ht
  refine ⟨fun x o e => ?_, ?_, ?_, ?_, Blk.set nd et bF, nd, avF, avS, dis⟩
  · rw [upd_ne (ne_of_none e av.2.2)]
    exact sm _ _ e
  · rw [upd_ne av.1.symm]
    exact eS
  · exact Blk.imp (fun u hu o k => by rw [upd_ne (fun z : u = t => dis t ht (by rw [← z]; exact hu))]; exact k) bS
  · rw [upd_ne av.2.1.symm]
    exact eF
end CK
namespace CK
open PySem PySem.Spec PyProof.Rows L2 VG FR HD
def Shn (d : PyData) (k B : Nat) : Prop := d.showable = true ∧ d.hasDict = false ∧ d.depth ≤ k ∧ d.shown.length ≤ B
theorem shn_all {k B : Nat} : ∀ ds : List PyData, (∀ d ∈ ds, Shn d k B) → PyData.showableAll ds = true ∧ PyData.hasDictAll ds = false ∧ PyData.depthAll ds ≤ k ∧ piled (PyData.shownAll ds) ≤ (B + 2) * ds.length
  | [], _ => ⟨by simp [PyData.showableAll], by simp [PyData.hasDictAll], by simp [PyData.depthAll], by simp [PyData.shownAll, piled]⟩
  | d :: ds, h => by
    have ⟨a1, a2, a3, a4⟩ := h d List.mem_cons_self
    have ⟨b1, b2, b3, b4⟩ := shn_all ds fun e he => h e (List.mem_cons_of_mem _ he)
    refine ⟨?_, ?_, ?_, ?_⟩
    · rw [PyData.showableAll, a1, b1]
      rfl
    · rw [PyData.hasDictAll, a2, b2]
      rfl
    · rw [PyData.depthAll]
      omega
    · rw [PyData.shownAll, piled_cons, List.length_cons, Nat.mul_succ]
      omega
theorem shn_tup {k B n : Nat} {ds : List PyData} (h : ∀ d ∈ ds, Shn d k B) (hn : ds.length ≤ n) : Shn (.tuple ds) (k + 1) ((B + 2) * n + 2) := by
  have ⟨b1, b2, b3, b4⟩ := shn_all ds h
  refine ⟨?_, ?_, ?_, ?_⟩
  · rw [PyData.showable]
    exact b1
  · rw [PyData.hasDict]
    exact b2
  · rw [PyData.depth]
    omega
  · show (tupleText (PyData.shownAll ds)).length ≤ _
    have e := fmt_text (PyData.shownAll ds)
    have m : (B + 2) * ds.length ≤ (B + 2) * n := Nat.mul_le_mul_left _ hn
    omega
theorem shn_int {a : Int} {k : Nat} (k0 : 0 < k) (h : a.natAbs < 2 ^ k) (hk : k ≤ 1900) : Shn (.int a) 0 (k + 1) := by
  have l2 : a.natAbs.log2 < k := by
    by_cases h0 : a.natAbs = 0
    · rw [h0]
      exact Nat.lt_of_le_of_lt (Nat.le_of_eq (by decide)) k0
    · exact (Nat.log2_lt h0).mpr h
  refine ⟨?_, by rw [PyData.hasDict], by simp [PyData.depth], ?_⟩
  · rw [PyData.showable]
    exact decide_eq_true (by omega)
  · show (Str.ofString (toString a)).length ≤ _
    rw [PySem.ofString_length]
    exact int_text_length_le k0 l2
def dI (c : List Int) : PyData := .tuple (c.map PyData.int)
theorem shn_Q {p : Q2} {k : Nat} (k0 : 0 < k) (h : Bt k p) (hk : k ≤ 1900) : Shn (dQ p) 1 ((k + 3) * 2 + 2) := shn_tup (k := 0) (B := k + 1) (ds := [.int p.1, .int p.2]) (fun d hd => by
  have : d = .int p.1 ∨ d = .int p.2 := by simpa using hd
  rcases this with z | z
  · rw [z]
    exact shn_int k0 h.1 hk
  · rw [z]
    exact shn_int k0 h.2 hk) (Nat.le_refl 2)
theorem dp_I {K : PySem.W.Frag} {H : Hp} {t : Addr} {c : List Int} (h : SqT K H t (c.map V.int)) : Dp K H (.ref t) (dI c) := .tup h (dpAll_ints K H c)
theorem Shn.r {d : PyData} {k B : Nat} (s : Shn d k B) (hk : k ≤ 60 := by decide) (hB : B ≤ 16777216 := by decide) : d.showable = true ∧ d.hasDict = false ∧ d.depth ≤ 60 ∧ d.shown.length ≤ sizeLine :=
  ⟨s.1, s.2.1, Nat.le_trans s.2.2.1 hk, Nat.le_trans s.2.2.2 (Nat.le_trans hB (by decide))⟩
def bT (b : Bool) : Str := if b = true then (("True" : String) : Str) else (("False" : String) : Str)
end CK
namespace CK
open PySem PySem.Spec PyProof.Rows L2 VG FR HD
/-- a list at F that grows by new lists -/
def Gw (p q : Addr) (H : Hp) (F : Addr) (ts : List Addr) (bs : List (List Int)) : Prop := H F = some (.lst (ts.map V.ref)) ∧ Blk H ts bs ∧ ∀ t ∈ ts, t ≠ F ∧ t ≠ p ∧ t ≠ q
section
variable {p q F : Addr} {H H' : Hp} {ts : List Addr} {bs : List (List Int)}
theorem Gw.nil (h : H F = some (.lst [])) : Gw p q H F [] [] := ⟨h, trivial, fun t h => by cases h⟩
theorem Gw.same (h : Gw p q H F ts bs) (s : Same H H') : Gw p q H' F ts bs := ⟨s _ _ h.1, Blk.imp (fun t _ o k => s _ _ k) h.2.1, h.2.2⟩
theorem Gw.draw (h : Gw p q H F ts bs) (f : F ≠ p ∧ F ≠ q) (k : Keep p q H H') : Gw p q H' F ts bs :=
  ⟨k _ _ f.1 f.2 h.1, Blk.imp (fun t ht o e => k _ _ (h.2.2 t ht).2.1 (h.2.2 t ht).2.2 e) h.2.1, h.2.2⟩
theorem Gw.push (h : Gw p q H F ts bs) {t : Addr} {b : List Int} (e : H t = some (.lst (b.map V.int))) (n : t ≠ F ∧ t ≠ p ∧ t ≠ q) : Gw p q (L2.upd H F (.lst (ts.map V.ref ++ [.ref t]))) F (ts ++ [t]) (bs ++ [b]) := by
  refine ⟨by rw [upd_same, List.map_append]; rfl, Blk.snoc (by rw [upd_ne n.1]; exact e) (Blk.imp (fun u hu o k => by rw [upd_ne (h.2.2 u hu).1]; exact k) h.2.1), fun u hu => ?_⟩
  rcases List.mem_append.mp hu with z | z
  · exact h.2.2 u z
  · rw [List.mem_singleton.mp z]
    exact n
theorem Gw.ls (h : Gw p q H F ts bs) : Ls (frz p q H) (ts.map V.ref) ∧ (ts.map V.ref).map (rd (frz p q H)) = bs :=
  (Blk.imp (fun t ht o k => frz_at k ⟨(h.2.2 t ht).2.1, (h.2.2 t ht).2.2⟩) h.2.1).ls
theorem Gw.len (h : Gw p q H F ts bs) : ts.length = bs.length := h.2.1.len
end
def Distinct (m : Nat) (c : List Int) : Prop := c.Nodup ∧ ∀ x ∈ c, 0 ≤ x ∧ x < (m : Int)
theorem Distinct.len {m : Nat} {c : List Int} (h : Distinct m c) : c.length ≤ m := below_len h.1 h.2
theorem BlocksOk.one {m : Nat} {bs : List (List Int)} (h : BlocksOk m bs) {b : List Int} (hb : b ∈ bs) : Distinct m b := ⟨M15.apart_mem h.1 hb, h.2.2.2 b hb⟩
theorem BlocksOk.two {m : Nat} {bs cs : List (List Int)} (h : BlocksOk m bs) (p : cs.Perm bs) {i j : Nat} {a b : List Int} (ha : cs[i]? = some a) (hb : cs[j]? = some b) (n : i ≠ j) : Distinct m (a ++ b) := by
  refine ⟨M15.apart_two (M15.apart_perm p h.1) ha hb n, fun x hx => ?_⟩
  rcases List.mem_append.mp hx with z | z
  · exact h.2.2.2 a (p.mem_iff.mp (List.mem_of_getElem? ha)) x z
  · exact h.2.2.2 b (p.mem_iff.mp (List.mem_of_getElem? hb)) x z
end CK
namespace CK
open PySem PySem.Spec PyProof.Rows L2 VG FR HD
def Fs (m : Nat) (G : Hp) (ys : List V) : Prop := ∀ v ∈ ys, LOk G v ∧ LotI m (rd G v)
theorem Fs.mono {m : Nat} {G G' : Hp} (s : Same G G') {ys : List V} (h : Fs m G ys) : Fs m G' ys := fun v hv => by
  have e := (h v hv).1.mono s
  exact ⟨e.1, by rw [e.2]; exact (h v hv).2⟩
theorem Fs.sub {m : Nat} {G : Hp} {xs ys : List V} (h : Fs m G xs) (k : ∀ v ∈ ys, v ∈ xs) : Fs m G ys := fun v hv => h v (k v hv)
theorem cut0 {xs : List V} (k : Nat) : cutV xs none (some (k : Int)) = xs.take k := by
  unfold cutV
  rw [HT.sIx_none, HT.sIx_nat]
  have : xs.drop 0 = xs := List.drop_zero
  rw [this, Nat.sub_zero]
  rcases Nat.le_total k xs.length with h | h
  · rw [Nat.min_eq_left h]
  · rw [Nat.min_eq_right h, List.take_of_length_le (Nat.le_refl _), List.take_of_length_le h]
/-- the state of the drawn totals: blocks at B, totals at F -/
def InF (p q : Addr) (G : Hp) (m : Nat) (B F : Addr) (H : Hp) : Prop := On p q G H ∧ (B ≠ p ∧ B ≠ q) ∧ (F ≠ p ∧ F ≠ q) ∧ ∃ xs ys, H B = some (.lst xs) ∧ H F = some (.lst ys) ∧ Ls (frz p q H) xs ∧ BlocksOk m (xs.map (rd (frz p q H))) ∧ Fs m (frz p q H) ys ∧ ys.length ≤ 40
theorem InF.step {p q B F F2 : Addr} {G H H2 : Hp} {m : Nat} {zs : List V} (h : InF p q G m B F H) (on : On p q (frz p q H) H2) (f : F2 ≠ p ∧ F2 ≠ q) (e : H2 F2 = some (.lst zs)) (k : Fs m (frz p q H2) zs) (l : zs.length ≤ 40) : InF p q G m B F2 H2 := by
  obtain ⟨o, b, _, xs, ys, h1, h2, h3, h4, h5, h6⟩ := h
  have s := on.base.2
  have ls := h3.mono s
  exact ⟨on.drop (o.base.2), b, f, xs, zs, on.le _ _ (frz_at h1 b), e, ls.1, by rw [ls.2]; exact h4, k, l⟩
theorem keep_frz {p q : Addr} {H : Hp} : Keep p q H (frz p q H) := fun b o n1 n2 e => frz_at e ⟨n1, n2⟩
theorem Tots.frz {K : PySem.W.Frag} {p q : Addr} {H : Hp} (hd : Hd p q H) : ∀ {vs : List V} {cs : List (List Int)}, Tots K H vs cs → Tots K (frz p q H) vs cs
  | [], [], _ => trivial
  | _ :: _, _ :: _, ⟨⟨t, e, h⟩, r⟩ => ⟨⟨t, e, seqTK hd keep_frz h⟩, r.frz hd⟩
  | [], _ :: _, h => h.elim
  | _ :: _, [], h => h.elim
theorem asc_pw : ∀ {l : List Int}, l.Pairwise (· < ·) → Asc l
  | [], _ => trivial
  | [_], _ => trivial
  | a :: b :: r, h => by
    have ⟨h1, h2⟩ := List.pairwise_cons.mp h
    exact ⟨h1 b List.mem_cons_self, asc_pw h2⟩
end CK
namespace M14
open M2
def Eqv (a b : Int × Int) : Prop := a.1 * b.2 = b.1 * a.2
theorem eqv_mk {a b : Int × Int} (ha : Low a.1 a.2) (hb : 0 < b.2) (h : Eqv a b) : a = mk b.1 b.2 := by
  have e := mk_eq (a := b.1) (b := b.2) (by omega)
  have l := mk_low (a := b.1) (b := b.2) (by omega)
  have h : a.1 * b.2 = b.1 * a.2 := h
  have c : a.1 * (mk b.1 b.2).2 = (mk b.1 b.2).1 * a.2 := by
    refine Int.eq_of_mul_eq_mul_right (a := b.2) (by omega) ?_
    grind
  have q := low_eq ha l c
  exact Prod.ext q.1 q.2
def absV (a : Int) : Int := if a < 0 then -a else a
theorem small_eqv {a b : Int × Int} (ha : 0 < a.2) (hb : 0 < b.2) (h : Eqv a b) : absV a.1 < a.2 ↔ absV b.1 < b.2 := by
  have h : a.1 * b.2 = b.1 * a.2 := h
  have e : absV a.1 * b.2 = absV b.1 * a.2 := by
    unfold absV
    by_cases x : a.1 < 0
    · have y : b.1 < 0 := by
        have z : b.1 * a.2 < 0 := by rw [← h]; exact Int.mul_neg_of_neg_of_pos x hb
        rcases Int.lt_or_le b.1 0 with q | q
        · exact q
        · have := Int.mul_nonneg q (Int.le_of_lt ha)
          omega
      rw [if_pos x, if_pos y, Int.neg_mul, Int.neg_mul, h]
    · have y : ¬ b.1 < 0 := by
        intro y
        have z : a.1 * b.2 < 0 := by rw [h]; exact Int.mul_neg_of_neg_of_pos y ha
        have := Int.mul_nonneg (show 0 ≤ a.1 by omega) (Int.le_of_lt hb)
        omega
      rw [if_neg x, if_neg y, h]
  constructor
  · intro k
    refine Int.lt_of_mul_lt_mul_right (a := a.2) ?_ (Int.le_of_lt ha)
    rw [← e]
    have := Int.mul_lt_mul_of_pos_right k hb
    rw [Int.mul_comm b.2 a.2]
    exact this
  · intro k
    refine Int.lt_of_mul_lt_mul_right (a := b.2) ?_ (Int.le_of_lt hb)
    rw [e]
    have := Int.mul_lt_mul_of_pos_right k ha
    rw [Int.mul_comm a.2 b.2]
    exact this
end M14
namespace CK
open PySem PySem.Spec PyProof.Rows L2 VG FR
def BtL : List Nat → List Q2 → Prop
  | n :: ns, p :: ps => Bt n p ∧ BtL ns ps
  | [], [] => True
  | _, _ => False
def bits (e : Nat) (ns : List Nat) : Nat := (ns.map (· + e)).sum
theorem BtL.len : ∀ {ns : List Nat} {ps : List Q2}, BtL ns ps → ns.length = ps.length
  | [], [], _ => rfl
  | _ :: _, _ :: _, h => by rw [List.length_cons, List.length_cons, h.2.len]
  | [], _ :: _, h => h.elim
  | _ :: _, [], h => h.elim
theorem BtL.get : ∀ {ns : List Nat} {ps : List Q2} {i : Nat} {p : Q2}, BtL ns ps → ps[i]? = some p → ∃ n, ns[i]? = some n ∧ Bt n p
  | n :: _, p :: _, 0, q, h, e => by
    have e1 : p = q := Option.some.inj e
    subst e1
    exact ⟨n, rfl, h.1⟩
  | _ :: ns, _ :: ps, i + 1, q, h, e => h.2.get (i := i) e
  | [], [], _, _, _, e => by cases e
  | [], _ :: _, _, _, h, _ => h.elim
  | _ :: _, [], _, _, h, _ => h.elim
theorem bits_get {e : Nat} : ∀ {ns : List Nat} {i n : Nat}, ns[i]? = some n → n + e ≤ bits e ns
  | m :: ns, 0, n, h => by
    have : m = n := Option.some.inj h
    subst this
    show m + e ≤ (m + e) + (ns.map (· + e)).sum
    omega
  | m :: ns, i + 1, n, h => by
    have := bits_get (e := e) (ns := ns) (i := i) (n := n) h
    show n + e ≤ (m + e) + bits e ns
    omega
theorem bits_take {e : Nat} : ∀ (ns : List Nat) (i : Nat), bits e (ns.take i) ≤ bits e ns
  | [], _ => by simp [bits]
  | m :: ns, 0 => Nat.zero_le _
  | m :: ns, i + 1 => by
    have := bits_take (e := e) ns i
    show (m + e) + bits e (ns.take i) ≤ (m + e) + bits e ns
    omega
theorem BtL.take : ∀ {ns : List Nat} {ps : List Q2} (i : Nat), BtL ns ps → BtL (ns.take i) (ps.take i)
  | [], [], i, h => by
    rw [List.take_nil, List.take_nil]
    trivial
  | _ :: _, _ :: _, 0, h => trivial
  | _ :: _, _ :: _, i + 1, h => ⟨h.1, h.2.take i⟩
  | [], _ :: _, _, h => h.elim
  | _ :: _, [], _, h => h.elim
theorem sumL_ok : ∀ (ns : List Nat) (ps : List Q2) (a : Q2) (m : Nat), BtL ns ps → (∀ p ∈ ps, M2.Low p.1 p.2) → M2.Low a.1 a.2 → Bt m a → M2.Low (ps.foldl M2.add a).1 (ps.foldl M2.add a).2 ∧ Bt (m + bits 1 ns) (ps.foldl M2.add a)
  | [], [], a, m, _, _, h1, h2 => ⟨h1, h2⟩
  | n :: ns, p :: ps, a, m, hb, hp, h1, h2 => by
    have lp := hp p List.mem_cons_self
    have ad := M2.add_ok (p := a) (q := p) h1 lp
    have sz := M2.add_size (p := a) (q := p) h1 lp h2.1 h2.2 hb.1.1 hb.1.2
    have ih := sumL_ok ns ps (M2.add a p) (m + n + 1) hb.2 (fun q hq => hp q (List.mem_cons_of_mem _ hq)) ad.1 sz
    have e : m + bits 1 (n :: ns) = m + n + 1 + bits 1 ns := by
      show m + ((n + 1) + bits 1 ns) = _
      omega
    rw [e]
    exact ih
  | [], _ :: _, _, _, h, _, _, _ => h.elim
  | _ :: _, [], _, _, h, _, _, _ => h.elim
def spSumL (K : PySem.W.Frag) : Sp := fun vs H Q _ => ∃ (s : Addr) (xs : List V) (ps : List Q2) (ns : List Nat), vs = [.ref s] ∧ (SqT K H s xs ∨ SqL K H s xs) ∧ Frs K H xs ps ∧ BtL ns ps ∧ (∀ p ∈ ps, M2.Low p.1 p.2) ∧ bits 1 ns ≤ 2900 ∧ ∀ H' u, Same H H' → SqT K H' u (pV (sumQ ps)) → Q (.ref u) H'
end CK
namespace CK
open PySem PySem.Spec PyProof.Rows L2 VG FR
/-- entries that are integers, or not -/
def Parts (K : PySem.W.Frag) (H : Hp) : List V → List (Option Int) → Prop
  | x :: xs, o :: os => Part K H x o ∧ Parts K H xs os
  | [], [] => True
  | _, _ => False
theorem Parts.mono {K : PySem.W.Frag} {H H' : Hp} (e : Same H H') : ∀ {xs : List V} {os : List (Option Int)}, Parts K H xs os → Parts K H' xs os
  | [], [], _ => trivial
  | _ :: _, _ :: _, h => ⟨part_mono e h.1, h.2.mono e⟩
  | [], _ :: _, h => h.elim
  | _ :: _, [], h => h.elim
theorem Parts.len {K : PySem.W.Frag} {H : Hp} : ∀ {xs : List V} {os : List (Option Int)}, Parts K H xs os → xs.length = os.length
  | [], [], _ => rfl
  | _ :: _, _ :: _, h => by rw [List.length_cons, List.length_cons, h.2.len]
  | [], _ :: _, h => h.elim
  | _ :: _, [], h => h.elim
theorem Parts.get {K : PySem.W.Frag} {H : Hp} : ∀ {xs : List V} {os : List (Option Int)} {i : Nat} {x : V}, Parts K H xs os → xs[i]? = some x → ∃ o, os[i]? = some o ∧ Part K H x o
  | a :: _, o :: _, 0, x, h, e => by
    have e1 : a = x := Option.some.inj e
    subst e1
    exact ⟨o, rfl, h.1⟩
  | _ :: xs, _ :: os, i + 1, x, h, e => h.2.get (i := i) e
  | [], [], _, _, _, e => by cases e
  | [], _ :: _, _, _, h, _ => h.elim
  | _ :: _, [], _, _, h, _ => h.elim
/-- any value: no tuple, or a tuple with such entries -/
def AnyV (K : PySem.W.Frag) (H : Hp) (v : V) : Option (List (Option Int)) → Prop
  | none => ∃ ty : String, TyX K H v (.type ty) ∧ kitB ty "tuple" = some false
  | some os => ∃ p xs, v = .ref p ∧ SqT K H p xs ∧ Parts K H xs os ∧ os.length ≤ 1000
theorem AnyV.mono {K : PySem.W.Frag} {H H' : Hp} (e : Same H H') {v : V} : ∀ {o : Option (List (Option Int))}, AnyV K H v o → AnyV K H' v o
  | none, ⟨ty, h, k⟩ => ⟨ty, tyX_mono e h, k⟩
  | some _, ⟨p, xs, e1, h, r, l⟩ => ⟨p, xs, e1, seqT e h, r.mono e, l⟩
/-- the errors of classes -/
def errsL (cs : List (List Int)) (es : List Q2) : List Q2 := cs.map fun c => sumQ (c.map fun k => es.getD k.toNat (0, 1))
def EsOk (es : List Q2) : Prop := ∀ p ∈ es, M2.Low p.1 p.2 ∧ Bt 20 p
def spClassErrs (K : PySem.W.Frag) (C : Addr) : Sp := fun vs H Q _ => ∃ (a e : Addr) (ys : List V) (ks : List Str) (ts : List (List Int)) (es : List Q2), vs = [.ref a, .ref e] ∧ Tab K C H a ks ts ∧ ts.length ≤ 1000 ∧ ks.length ≤ 12 ∧ SqT K H e ys ∧ Frs K H ys es ∧ es.length = ks.length ∧ EsOk es ∧
  ∀ H' u xs, Same H H' → H' u = some (.tup xs) → Frs K H' xs (errsL (classesL ts ks.length) es) → Q (.ref u) H'
theorem picked_bt {es : List Q2} (h : EsOk es) : ∀ (c : List Int), BtL (List.replicate c.length 20) (c.map fun k => es.getD k.toNat (0, 1)) ∧ ∀ p ∈ c.map (fun k => es.getD k.toNat (0, 1)), M2.Low p.1 p.2
  | [] => ⟨trivial, fun p h => by cases h⟩
  | k :: c => by
    have ih := picked_bt h c
    have one : M2.Low (es.getD k.toNat (0, 1)).1 (es.getD k.toNat (0, 1)).2 ∧ Bt 20 (es.getD k.toNat (0, 1)) := by
      rw [List.getD_eq_getElem?_getD]
      cases e : es[k.toNat]? with
      | none => exact ⟨⟨by decide, by decide⟩, ⟨by decide, by decide⟩⟩
      | some p => exact h p (List.mem_of_getElem? e)
    refine ⟨⟨one.2, ih.1⟩, fun p hp => ?_⟩
    rcases List.mem_cons.mp hp with z | z
    · rw [z]
      exact one.1
    · exact ih.2 p z
theorem bits_rep (e n k : Nat) : bits e (List.replicate k n) = k * (n + e) := by
  unfold bits
  rw [List.map_replicate, List.sum_replicate_nat]
theorem BtL.all : ∀ {ns : List Nat} {ps : List Q2} {m : Nat}, BtL ns ps → (∀ n ∈ ns, n ≤ m) → ∀ p ∈ ps, Bt m p
  | [], [], _, _, _, p, hp => by cases hp
  | n :: ns, q :: ps, m, h, hn, p, hp => by
    rcases List.mem_cons.mp hp with z | z
    · rw [z]
      exact h.1.mono (hn n List.mem_cons_self)
    · exact BtL.all h.2 (fun k hk => hn k (List.mem_cons_of_mem _ hk)) p z
  | [], _ :: _, _, h, _, _, _ => h.elim
  | _ :: _, [], _, h, _, _, _ => h.elim
theorem errs_len (cs : List (List Int)) (es : List Q2) : (errsL cs es).length = cs.length := List.length_map ..
end CK
namespace CK
open PySem PySem.Spec PyProof.Rows L2 VG FR HD
end CK
namespace CK
open PySem PySem.Spec PyProof.Rows L2 VG FR HD
inductive Stp where
  | tot (t : Nat) (s : Int)
  | less (c i j : Nat)
def stV : Stp → List V
  | .tot t s => [.str "total", .int t, .int s]
  | .less c i j => [.str "less", .int c, .int i, .int j]
def Sts (K : PySem.W.Frag) (H : Hp) : List V → List Stp → Prop
  | [], [] => True
  | v :: vs, c :: cs => (∃ t, v = .ref t ∧ SqT K H t (stV c)) ∧ Sts K H vs cs
  | _, _ => False
theorem Sts.mono {K : PySem.W.Frag} {H H' : Hp} (e : Same H H') : ∀ {vs : List V} {cs : List Stp}, Sts K H vs cs → Sts K H' vs cs
  | [], [], _ => trivial
  | _ :: _, _ :: _, ⟨⟨t, e1, h⟩, r⟩ => ⟨⟨t, e1, seqT e h⟩, r.mono e⟩
  | [], _ :: _, h => h.elim
  | _ :: _, [], h => h.elim
theorem Sts.len {K : PySem.W.Frag} {H : Hp} : ∀ {vs : List V} {cs : List Stp}, Sts K H vs cs → vs.length = cs.length
  | [], [], _ => rfl
  | _ :: _, _ :: _, h => by rw [List.length_cons, List.length_cons, h.2.len]
  | [], _ :: _, h => h.elim
  | _ :: _, [], h => h.elim
theorem Sts.get {K : PySem.W.Frag} {H : Hp} : ∀ {vs : List V} {cs : List Stp} {i : Nat} {v : V}, Sts K H vs cs → vs[i]? = some v → ∃ t c, v = .ref t ∧ cs[i]? = some c ∧ SqT K H t (stV c)
  | [], [], _, _, h, e => by simp at e
  | a :: _, c :: _, 0, v, h, e => by
    have e1 : a = v := Option.some.inj e
    subst e1
    obtain ⟨t, e2, q⟩ := h.1
    exact ⟨t, c, e2, rfl, q⟩
  | _ :: vs, _ :: cs, i + 1, v, h, e => h.2.get (i := i) e
  | [], _ :: _, _, _, h, _ => h.elim
  | _ :: _, [], _, _, h, _ => h.elim
theorem Sts.snoc {K : PySem.W.Frag} {H : Hp} {t : Addr} {c : Stp} (hv : SqT K H t (stV c)) : ∀ {vs : List V} {cs : List Stp}, Sts K H vs cs → Sts K H (vs ++ [.ref t]) (cs ++ [c])
  | [], [], _ => ⟨⟨t, rfl, hv⟩, trivial⟩
  | _ :: _, _ :: _, h => ⟨h.1, h.2.snoc hv⟩
  | [], _ :: _, h => h.elim
  | _ :: _, [], h => h.elim
theorem Sts.upd {K : PySem.W.Frag} {H : Hp} {D : Addr} {ys zs : List V} (hD : H D = some (.lst ys)) : ∀ {vs : List V} {cs : List Stp}, Sts K H vs cs → Sts K (L2.upd H D (.lst zs)) vs cs
  | [], [], _ => trivial
  | _ :: _, _ :: _, ⟨⟨t, e1, h⟩, r⟩ => ⟨⟨t, e1, seqT_upd hD h⟩, r.upd hD⟩
  | [], _ :: _, h => h.elim
  | _ :: _, [], h => h.elim
def oppL (cs : List Int) : List Int := cs.map fun a => -a
def beyB (cs : List Int) : Bool := cs.any fun c => decide (absI c > 1)
/-- the reckoning of a step -/
def recOf (bs known : List (List Int)) : Stp → List Int
  | .tot t s => if s = 1 then bs.getD t [] else oppL (bs.getD t [])
  | .less _ i j => difL (known.getD i []) (known.getD j [])
/-- a step that a derivation may have -/
def StOk (nb nk : Nat) : Stp → Prop
  | .tot t s => t < nb ∧ (s = 1 ∨ s = -1)
  | .less _ i j => i < nk ∧ j < nk
def along (bs : List (List Int)) : List Stp → List (List Int) → List (List Int)
  | [], known => known
  | s :: ss, known => along bs ss (known ++ [recOf bs known s])
/-- all rows have so many entries -/
def Rws (n : Nat) (bs : List (List Int)) : Prop := ∀ c ∈ bs, c.length = n
theorem Rws.getD {n : Nat} {bs : List (List Int)} (h : Rws n bs) {i : Nat} (hi : i < bs.length) : bs[i]? = some (bs.getD i []) ∧ (bs.getD i []).length = n := by
  have e : bs[i]? = some bs[i] := List.getElem?_eq_getElem hi
  have g : bs.getD i [] = bs[i] := by rw [List.getD_eq_getElem?_getD, e]; rfl
  exact ⟨by rw [g]; exact e, by rw [g]; exact h _ (List.getElem_mem hi)⟩
/-- the steps of a right derivation (what asks of agreements left out) -/
def DerOk (nb : Nat) (steps : List Stp) : Prop := ∀ i s, steps[i]? = some s → StOk nb i s
theorem along_len (bs : List (List Int)) : ∀ (ss : List Stp) (kn : List (List Int)), (along bs ss kn).length = kn.length + ss.length
  | [], kn => rfl
  | s :: ss, kn => by
    show (along bs ss (kn ++ [recOf bs kn s])).length = _
    rw [along_len bs ss]
    simp only [List.length_append, List.length_cons, List.length_nil]
    omega
end CK
namespace VG
open PySem PySem.Spec PyProof.Rows L2
section
variable {X : Cx}
def rCatM (K : PySem.W.Frag) : R2 := fun x y H Q => ∃ a b xs ys, x = .ref a ∧ y = .ref b ∧ SqT K H a xs ∧ SqT K H b ys ∧ xs.length + ys.length ≤ sizeLine ∧ ∀ t H', Same H H' → SqT K H' t (xs ++ ys) → Q (.ref t) H'
theorem op_catM : OpR X (binaryOp .Add) (rCatM X.K) := by
  intro pins s σ H x y v u Q I rx ry h
  obtain ⟨a, b, xs, ys, rfl, rfl, ha, hb, hl, q⟩ := h
  refine op_catA pins s σ H _ _ v u Q I rx ry ⟨a, b, xs, ys, rfl, rfl, ha, hb, hl, fun e => q b H (Same.refl _) ?_, fun _ e => q a H (Same.refl _) ?_, fun _ _ p np => q p _ (fun b o e => by rw [upd_ne (ne_of_none e np)]; exact e) (.inl (.inl upd_same))⟩
  · subst e
    exact hb
  · subst e
    rw [List.append_nil]
    exact ha
def rSlM (K : PySem.W.Frag) : V → Option Int → Option Int → Hp → VK → Prop := fun x lo hi H Q => ∃ a xs, x = .ref a ∧ SqT K H a xs ∧ ∀ t H', Same H H' → SqT K H' t (cutV xs lo hi) → Q (.ref t) H'
theorem cut_whole {xs : List V} {lo hi : Option Int} (h : HT.sIx xs.length 0 lo = 0 ∧ HT.sIx xs.length xs.length hi = xs.length) : cutV xs lo hi = xs := by
  unfold cutV
  rw [h.1, h.2, List.drop_zero, Nat.sub_zero]
  exact List.take_of_length_le (Nat.le_refl _)
theorem sl_tupM : SlR X (rSlM X.K) := by
  intro pins s σ H x v vl vu lo hi sl Q I rx hs pl pu h
  obtain ⟨a, xs, rfl, hS, q⟩ := h
  exact sl_tupA pins s σ H _ v vl vu lo hi sl Q I rx hs pl pu ⟨a, xs, rfl, hS, fun e => q a H (Same.refl _) (by rw [cut_whole e]; exact hS), fun _ p np => q p _ (fun b o e => by rw [upd_ne (ne_of_none e np)]; exact e) (.inl (.inl upd_same))⟩
end
end VG
namespace CK
open PySem PySem.Spec PyProof.Rows L2 VG FR HD
theorem Parts.ints {K : PySem.W.Frag} {H : Hp} : ∀ c : List Int, Parts K H (c.map V.int) (c.map some)
  | [] => trivial
  | a :: c => ⟨.inl ⟨a, rfl, rfl⟩, Parts.ints c⟩
theorem AnyV.tup {K : PySem.W.Frag} {H : Hp} {t : Addr} {xs : List V} {os : List (Option Int)} (h : SqT K H t xs) (k : Parts K H xs os) (l : os.length ≤ 1000) : ∃ o, AnyV K H (.ref t) o := ⟨some os, t, xs, rfl, h, k, l⟩
end CK
namespace CK
open PySem PySem.Spec PyProof.Rows L2 VG FR HD
mutual
inductive Dv (K : PySem.W.Frag) (H : Hp) : V → PyData → Prop
  | non : Dv K H .non .none
  | bl (b : Bool) : Dv K H (.bl b) (.bool b)
  | int (i : Int) : Dv K H (.int i) (.int i)
  | str (x : Str) : Dv K H (.str x) (.str x)
  | lst {a : Addr} {xs : List V} {ds : List PyData} : H a = some (.lst xs) → DvAll K H xs ds → Dv K H (.ref a) (.list ds)
  | tup {a : Addr} {xs : List V} {ds : List PyData} : SqT K H a xs → DvAll K H xs ds → Dv K H (.ref a) (.tuple ds)
inductive DvAll (K : PySem.W.Frag) (H : Hp) : List V → List PyData → Prop
  | nil : DvAll K H [] []
  | cons {v : V} {vs : List V} {d : PyData} {ds : List PyData} : Dv K H v d → DvAll K H vs ds → DvAll K H (v :: vs) (d :: ds)
end
mutual
theorem Dv.mono {K : PySem.W.Frag} {H H' : Hp} (e : Same H H') : ∀ {v : V} {d : PyData}, Dv K H v d → Dv K H' v d
  | _, _, .non => .non
  | _, _, .bl b => .bl b
  | _, _, .int i => .int i
  | _, _, .str x => .str x
  | _, _, .lst h r => .lst (e _ _ h) (DvAll.mono e r)
  | _, _, .tup h r => .tup (seqT e h) (DvAll.mono e r)
theorem DvAll.mono {K : PySem.W.Frag} {H H' : Hp} (e : Same H H') : ∀ {vs : List V} {ds : List PyData}, DvAll K H vs ds → DvAll K H' vs ds
  | _, _, .nil => .nil
  | _, _, .cons h r => .cons (Dv.mono e h) (DvAll.mono e r)
end
theorem DvAll.len {K : PySem.W.Frag} {H : Hp} : ∀ {vs : List V} {ds : List PyData}, DvAll K H vs ds → vs.length = ds.length
  | _, _, .nil => rfl
  | _, _, .cons _ r => by rw [List.length_cons, List.length_cons, r.len]
theorem at00 (x : V) (xs : List V) : atI (x :: xs) 0 = some x := atI_nat (j := 0) rfl
def intO : PyData → Option Int
  | .int a => some a
  | _ => none
def belowO (n : Int) : Option Int → Bool
  | some a => decide (0 ≤ a ∧ a < n)
  | none => false
end CK
namespace CK
open PySem PySem.Spec PyProof.Rows L2 VG FR HD
theorem DvAll.four {K : PySem.W.Frag} {H : Hp} {xs : List V} {w : Str} {d1 d2 d3 : PyData} (h : DvAll K H xs [.str w, d1, d2, d3]) : ∃ x1 x2 x3, xs = [.str w, x1, x2, x3] ∧ Dv K H x1 d1 ∧ Dv K H x2 d2 ∧ Dv K H x3 d3 := by
  cases h with
  | cons h0 h => cases h0 with
    | str => cases h with
      | cons h1 h => cases h with
        | cons h2 h => cases h with
          | cons h3 h => cases h with
            | nil => exact ⟨_, _, _, rfl, h1, h2, h3⟩
end CK
namespace CK
open PySem PySem.Spec PyProof.Rows L2 VG FR HD
def shortD : PyData → Prop
  | .tuple ds => ds.length ≤ 1000
  | _ => True
theorem DvAll.get {K : PySem.W.Frag} {H : Hp} : ∀ {xs : List V} {ds : List PyData} {i : Nat} {x : V}, DvAll K H xs ds → xs[i]? = some x → ∃ d, ds[i]? = some d ∧ Dv K H x d
  | _, _, i, x, .nil, e => by simp at e
  | _, _, 0, x, .cons h _, e => by
    have e1 := Option.some.inj e
    subst e1
    exact ⟨_, rfl, h⟩
  | _, _, i + 1, x, .cons _ r, e => r.get (i := i) e
end CK
namespace CK
open PySem PySem.Spec PyProof.Rows L2 VG FR HD
mutual
inductive Ov (K : PySem.W.Frag) (H : Hp) : V → PyData → Prop
  | non : Ov K H .non .none
  | bl (b : Bool) : Ov K H (.bl b) (.bool b)
  | int (i : Int) : Ov K H (.int i) (.int i)
  | str (x : Str) : Ov K H (.str x) (.str x)
  | dct {a : Addr} : H a = some (.dK []) → Ov K H (.ref a) (.dict [])
  | lst {a : Addr} {xs : List V} {ds : List PyData} : H a = some (.lst xs) → OvAll K H xs ds → Ov K H (.ref a) (.list ds)
  | tup {a : Addr} {xs : List V} {ds : List PyData} : SqT K H a xs → OvAll K H xs ds → Ov K H (.ref a) (.tuple ds)
inductive OvAll (K : PySem.W.Frag) (H : Hp) : List V → List PyData → Prop
  | nil : OvAll K H [] []
  | cons {v : V} {vs : List V} {d : PyData} {ds : List PyData} : Ov K H v d → OvAll K H vs ds → OvAll K H (v :: vs) (d :: ds)
end
mutual
theorem Ov.mono {K : PySem.W.Frag} {H H' : Hp} (e : Same H H') : ∀ {v : V} {d : PyData}, Ov K H v d → Ov K H' v d
  | _, _, .non => .non
  | _, _, .bl b => .bl b
  | _, _, .int i => .int i
  | _, _, .str x => .str x
  | _, _, .dct h => .dct (e _ _ h)
  | _, _, .lst h r => .lst (e _ _ h) (OvAll.mono e r)
  | _, _, .tup h r => .tup (seqT e h) (OvAll.mono e r)
theorem OvAll.mono {K : PySem.W.Frag} {H H' : Hp} (e : Same H H') : ∀ {vs : List V} {ds : List PyData}, OvAll K H vs ds → OvAll K H' vs ds
  | _, _, .nil => .nil
  | _, _, .cons h r => .cons (Ov.mono e h) (OvAll.mono e r)
end
theorem OvAll.len {K : PySem.W.Frag} {H : Hp} : ∀ {vs : List V} {ds : List PyData}, OvAll K H vs ds → vs.length = ds.length
  | _, _, .nil => rfl
  | _, _, .cons _ r => by rw [List.length_cons, List.length_cons, r.len]
theorem OvAll.get {K : PySem.W.Frag} {H : Hp} : ∀ {xs : List V} {ds : List PyData} {i : Nat} {x : V}, OvAll K H xs ds → xs[i]? = some x → ∃ d, ds[i]? = some d ∧ Ov K H x d
  | _, _, _, _, .nil, e => by simp at e
  | _, _, 0, _, .cons h _, e => by
    have e1 := Option.some.inj e
    subst e1
    exact ⟨_, rfl, h⟩
  | _, _, i + 1, _, .cons _ r, e => r.get (i := i) e
theorem Ov.ints {K : PySem.W.Frag} {H : Hp} {a : Addr} {cs : List Int} (h : SqT K H a (cs.map V.int)) : Ov K H (.ref a) (.tuple (cs.map PyData.int)) := by
  refine .tup h ?_
  clear h
  induction cs with
  | nil => exact .nil
  | cons c r ih => exact .cons (.int c) ih
/-- numbers below n -/
def numsBD (n : Int) : PyData → Bool
  | .tuple ds => ds.all fun d => belowO n (intO d)
  | _ => false
/-- each less than the next -/
def ascB (cs : List Int) : Bool := (cs.zip (cs.drop 1)).all fun p => decide (p.1 < p.2)
def intsD : PyData → List Int
  | .tuple ds => ds.map fun d => (intO d).getD 0
  | _ => []
def lotD (n : Int) (d : PyData) : Bool := numsBD n d && ascB (intsD d)
def nameB (z : Str) : Bool := decide (1 ≤ z.length ∧ z.length ≤ 6) && z.cps.toList.all fun c => decide (c ∈ cLETTERS.cps.toList)
def nameD : PyData → Bool
  | .str z => nameB z
  | _ => false
def namesD : PyData → Bool
  | .tuple ds => ds.all nameD
  | _ => false
end CK
namespace CK
open PySem PySem.Spec PyProof.Rows L2 VG FR HD
section
variable {X : Cx} {pins : List (Addr × Obj)} {σ : L2.St} {H : Hp} {s : Shared}
mutual
theorem Ov.reads (I : Inv X pins σ H s) : ∀ (d : PyData) (v : V) (u : Value), Ov X.K H v d → RelV v u → ∃ as, Reads s.heap u d as
  | .none, _, _, h, r => by
    cases h
    cases r
    exact ⟨[], Reads.none⟩
  | .bool b, _, _, h, r => by
    cases h
    cases r
    exact ⟨[], Reads.bool b⟩
  | .int i, _, _, h, r => by
    cases h
    obtain ⟨t, rfl⟩ := r
    exact ⟨[], Reads.int i t⟩
  | .str x, _, _, h, r => by
    cases h
    obtain ⟨t, rfl⟩ := r
    exact ⟨[], Reads.str x t⟩
  | .list ds, _, _, h, r => by
    cases h with
    | @lst a xs _ hs ha =>
      cases r
      obtain ⟨its, rv, ⟨o, n, ho, hc, _, hd⟩, _⟩ := I.list (show SqL X.K H a xs from .inl (.inl hs))
      obtain ⟨as, hr⟩ := Ov.readsAll I ds _ its ha rv
      exact ⟨a :: as, Reads.list ho hc hd hr⟩
  | .tuple ds, _, _, h, r => by
    cases h with
    | tup hs ha =>
      cases r
      obtain ⟨its, rv, ⟨o, ho, hc, n, hd⟩, _⟩ := I.tuple hs
      obtain ⟨as, hr⟩ := Ov.readsAll I ds _ its ha rv
      exact ⟨as, Reads.tuple ho hc hd hr⟩
  | .dict kvs, _, _, h, r => by
    cases h with
    | @dct a hs =>
      cases r
      obtain ⟨_, ns, vs, rel, o, es, ep, ho, hx, hd, _, prs, _⟩ := dk_of I.hok hs
      have v0 : vs = [] := by
        cases rel
        rfl
      subst v0
      have e0 : es.toList = [] := List.eq_nil_of_length_eq_zero prs.length
      exact ⟨[a], Reads.dict (h := s.heap) (kvs := []) (as := []) (bs := []) ho hx.1 hd (by rw [e0]; exact ReadsAll.nil) (by rw [e0]; exact ReadsAll.nil)⟩
theorem Ov.readsAll (I : Inv X pins σ H s) : ∀ (ds : List PyData) (vs : List V) (us : List Value), OvAll X.K H vs ds → Vals vs us → ∃ as, ReadsAll s.heap us ds as
  | [], _, _, h, r => by
    cases h
    cases r
    exact ⟨[], ReadsAll.nil⟩
  | d :: ds, _, _, h, r => by
    cases h with
    | cons h1 h2 =>
      cases r with
      | cons r1 r2 =>
        obtain ⟨as, q1⟩ := Ov.reads I d _ _ h1 r1
        obtain ⟨bs, q2⟩ := Ov.readsAll I ds _ _ h2 r2
        exact ⟨as ++ bs, ReadsAll.cons q1 q2⟩
end
end
def ShO (k B : Nat) (d : PyData) : Prop := d.showable = true ∧ d.depth ≤ k ∧ d.shown.length ≤ B
theorem ShO.mono {k B k' B' : Nat} {d : PyData} (h : ShO k B d) (hk : k ≤ k') (hB : B ≤ B') : ShO k' B' d := ⟨h.1, Nat.le_trans h.2.1 hk, Nat.le_trans h.2.2 hB⟩
theorem Shn.o {k B : Nat} {d : PyData} (h : Shn d k B) : ShO k B d := ⟨h.1, h.2.2.1, h.2.2.2⟩
end CK
namespace VG
open PySem PySem.Spec PyProof.Rows L2
end VG
namespace VG
open PySem PySem.Spec PyProof.Rows L2
structure MkT (P : Program) (w : World) (K : PySem.W.Frag) (mg : Str → Option Value) (base : Heap) (k : Nat) (x : Str) (C : Addr) (sp : Sp) : Prop where
  ex : ∃ (f : Addr) (fd : FuncData) (ps : List Str), Mk K C f ∧ FnOk P w K mg base CX0 k f fd ps sp ∧ mg x = some (.ref C) ∧ Binds K fd ps []
section
variable {X : Cx} {k j : Nat} {x : Str} {sp : Sp} {p pos : Pos} {e : Expr} {es : List Expr} {t : TA} {C : Addr}
theorem pe_mt (c : MkT X.prog X.w X.K X.mg X.base k x C sp) (hr : Room j X.A) (hk : k + 1 ≤ j) (hg : Gl X x) (ha : PA X (e :: es) t)
    (h1 : (x == ("__debug__" : Str)) = false := by decide) (h2 : starEach (e :: es) X.env = (false, eval e X.env) :: starEach es X.env := by rfl)
    (h3 : (backTo pos (starEach es X.env)).any (·.1) = false := by rfl) : PE X (.Call (.Name x p) (e :: es) [] pos) (tMake C sp [] E0 t) :=
  let ⟨_, _, _, M, F, m, b⟩ := c.ex
  pe_make M F (hr.mono hk) hg m b .nil pass0 ha h1 h2 h3
end
end VG
namespace CK
open FR
end CK
namespace CK
open PySem PySem.Spec PyProof.Rows L2 VG FR HD
theorem Tab.frz {K : PySem.W.Frag} {C a p q : Addr} {H : Hp} {ks : List Str} {ts : List (List Int)} (hd : Hd p q H) (h : Tab K C H a ks ts) : Tab K C (frz p q H) a ks ts := by
  obtain ⟨dx, k, t, xs, h1, h2, h3, h4⟩ := h
  obtain ⟨_, _, e1, e2, _⟩ := id hd
  have n1 : a ≠ p := fun z => by rw [z, e1] at h1; cases h1
  have n2 : a ≠ q := fun z => by rw [z, e2] at h1; cases h1
  exact ⟨dx, k, t, xs, frz_at h1 ⟨n1, n2⟩, seqTK hd keep_frz h2, seqTK hd keep_frz h3, h4.frz hd⟩
theorem tab_made {K : PySem.W.Frag} {C k t x dx : Addr} {H : Hp} {ks : List Str} {xs : List V} {ts : List (List Int)} {Qf : Hp → Prop} {E : XK} (hk : SqT K H k (ks.map V.str)) (ok : KindsOk ks) (ht : SqT K H t xs) (hT : Tots K H xs ts) (hl : ts.length ≤ 12) (hc : ∀ c ∈ ts, LotOk ks.length c) (nx : H x = none) (nd : H dx = none) (ne : dx ≠ x)
    (fin : ∀ H', Same H H' → Tab K C H' x ks ts → H x = none → Qf H') : spInitT K C (.ref x :: ([.ref k, .ref t] ++ [])) (L2.upd (L2.upd H dx (.own x)) x (.ins C dx [])) (fun v H2 => v = .non ∧ Qf H2) E := by
  have s1 := same_upd (o := .own x) nd
  have nx1 : L2.upd H dx (.own x) x = none := by rw [upd_ne ne.symm]; exact nx
  have s2 := s1.trans (same_upd (o := .ins C dx []) nx1)
  refine ⟨x, dx, k, t, ks, xs, ts, rfl, upd_same, seqT s2 hk, ok, seqT s2 ht, hT.mono s2, hl, hc, fun H' kp hx => ⟨rfl, ?_⟩⟩
  have s3 : Same H H' := fun b o e => kp b o (ne_of_none e nx) (s2 b o e)
  exact fin H' s3 ⟨dx, k, t, xs, hx, seqT s3 hk, seqT s3 ht, hT.mono s3⟩ nx
theorem cls_ne {ts : List (List Int)} {n : Nat} : ∀ d ∈ classesL ts n, d ≠ [] := by
  intro d hd z
  rw [classes_eq] at hd
  obtain ⟨key, hk, rfl⟩ := List.mem_map.mp hd
  obtain ⟨j, l1, f1⟩ := keys_from _ (List.mem_filter.mp hk).1
  have : (j : Int) ∈ pick (memb (fT ts) key) n := mem_pick.mpr ⟨j, l1, decide_eq_true f1, rfl⟩
  rw [z] at this
  cases this
/-- a row that was told or drawn -/
def RwOk (n : Nat) (G : Hp) (v : V) : Prop := ∃ (t : Addr) (c : List Int), v = .ref t ∧ G t = some (.tup (c.map V.int)) ∧ c.length = n ∧ ∀ x ∈ c, x.natAbs ≤ 5
theorem RwOk.mono {n : Nat} {G G' : Hp} {v : V} (s : Same G G') (h : RwOk n G v) : RwOk n G' v := by
  obtain ⟨t, c, e, k, l, z⟩ := h
  exact ⟨t, c, e, s _ _ k, l, z⟩
theorem rep1 (k : Nat) : ((List.replicate k ([.int 1] : List V)).flatten) = (List.replicate k (1 : Int)).map V.int := by
  induction k with
  | zero => rfl
  | succ k ih => rw [List.replicate_succ, List.replicate_succ, List.flatten_cons, ih]; rfl
theorem RwOk.updL {n : Nat} {p q D : Addr} {H : Hp} {zs : List V} {o : HO} {v : V} (h : RwOk n (frz p q H) v) (k : H D = some (.lst zs)) : RwOk n (frz p q (L2.upd H D o)) v := by
  obtain ⟨t, c, e, kt, l, z⟩ := h
  obtain ⟨n1, n2, kt⟩ := frz_cases kt
  have ne : t ≠ D := fun y => by rw [y, k] at kt; cases kt
  exact ⟨t, c, e, frz_at (by rw [upd_ne ne]; exact kt) ⟨n1, n2⟩, l, z⟩
end CK
namespace CK
open PySem PySem.Spec PyProof.Rows L2 VG FR HD
def spClassOf (K : PySem.W.Frag) (C : Addr) : Sp := fun vs H Q _ => ∃ (a : Addr) (ks : List Str) (ts : List (List Int)) (k : Nat), vs = [.ref a, .int k] ∧ Tab K C H a ks ts ∧ ts.length ≤ 1000 ∧ ks.length ≤ 1000 ∧ k < ks.length ∧
  ∀ H', Same H H' → Q (numV (classesL ts ks.length) k) H'
/-- a table that can be -/
structure TabOk (ks : List Str) (ts : List (List Int)) : Prop where
  kinds : KindsOk ks
  len : ts.length ≤ 12
  lots : ∀ c ∈ ts, LotOk (ks.length : Int) c
theorem asc_of : ∀ {cs : List Int}, ascB cs = true → Asc cs
  | [], _ => trivial
  | [_], _ => trivial
  | a :: b :: r, h => by
    have h : (decide (a < b) && ascB (b :: r)) = true := h
    rw [Bool.and_eq_true] at h
    exact ⟨of_decide_eq_true h.1, asc_of h.2⟩
end CK
namespace CK
open PySem PySem.Spec PyProof.Rows L2 VG FR HD
theorem tup_either {K : PySem.W.Frag} {H : Hp} {k : Addr} {xs : List V} {Q : VK} (h : SqL K H k xs ∨ SqT K H k xs) (fin : ∀ H' u, Same H H' → SqT K H' u xs → Q (.ref u) H') :
    ∃ p ys, ([V.ref k] : List V) = [V.ref p] ∧ ((SqL K H p ys ∧ ∀ l, H l = none → Q (.ref l) (L2.upd H l (.tup ys))) ∨ (SqT K H p ys ∧ Q (.ref p) H)) := by
  rcases h with h | h
  · exact ⟨k, xs, rfl, .inl ⟨h, fun l nl => fin _ l (same_upd nl) (sqt upd_same)⟩⟩
  · exact ⟨k, xs, rfl, .inr ⟨h, fin H k (Same.refl _) h⟩⟩
def rTupE (K : PySem.W.Frag) : List V → Hp → VK → Prop := fun vs H Q => ∃ (k : Addr) (xs : List V), vs = [.ref k] ∧ (SqL K H k xs ∨ SqT K H k xs) ∧ ∀ H' u, Same H H' → SqT K H' u xs → Q (.ref u) H'
theorem call_tupE {X : Cx} : CallR X (.type "tuple") (rTupE X.K) := fun pins s σ H vs us Q I rv h => by
  obtain ⟨k, xs, rfl, h1, h2⟩ := h
  exact call_tuple_of pins s σ H _ us Q I rv (tup_either h1 h2)
end CK
namespace CK
open PySem PySem.Spec PyProof.Rows L2 VG FR HD
def shortS : PyData → Prop
  | .str z => z.length ≤ 1000
  | _ => True
def tupD (n : Nat) : PyData → Bool
  | .tuple ds => decide (ds.length = n)
  | _ => false
end CK
namespace M9
open M2 FR CK
def DL : Int := 21000000 * 999983
theorem DL_pos : 0 < DL := by decide
theorem DL_ne : DL ≠ 0 := by decide
def U (a : Int) : Int × Int := mk a DL
theorem U_low (a : Int) : Low (U a).1 (U a).2 := mk_low DL_ne
theorem U_eq (a : Int) : (U a).1 * DL = a * (U a).2 := mk_eq DL_ne
theorem U_of {p : Int × Int} {a : Int} (h : Low p.1 p.2) (e : p.1 * DL = a * p.2) : p = U a := M14.eqv_mk (b := (a, DL)) h DL_pos e
theorem low_neg {p : Int × Int} (h : Low p.1 p.2) : Low (-p.1) p.2 := ⟨h.1, by
  have := h.2
  unfold g at this ⊢
  rw [Int.natAbs_neg]
  exact this⟩
theorem neg_U (a : Int) : neg (U a) = U (-a) := by
  refine U_of (p := neg (U a)) (low_neg (U_low a)) ?_
  have e := U_eq a
  show -(U a).1 * DL = -a * (U a).2
  rw [Int.neg_mul, Int.neg_mul, e]
def un (p : Int × Int) : Int := p.1 * (DL / p.2)
theorem U_un {p : Int × Int} (h : Low p.1 p.2) (d : p.2 ∣ DL) : U (un p) = p := by
  refine (U_of h ?_).symm
  obtain ⟨c, hc⟩ := d
  have pp := h.1
  unfold un
  rw [hc, Int.mul_ediv_cancel_left _ (by omega)]
  grind
theorem U_floor (a : Int) : (U a).1 / (U a).2 = a / DL := by
  have e := U_eq a
  have p := (U_low a).1
  have d := DL_pos
  generalize (U a).1 = x at *
  generalize (U a).2 = y at *
  generalize DL = k at *
  have h1 : x * k / (y * k) = x / y := Int.mul_ediv_mul_of_pos_left x y d
  have h2 : a * y / (k * y) = a / k := Int.mul_ediv_mul_of_pos_left a k p
  rw [← h1, ← h2, e, Int.mul_comm k y]
theorem bits_rep (n : Nat) : ∀ k : Nat, bits 1 (List.replicate k n) = k * (n + 1)
  | 0 => (Nat.zero_mul _).symm
  | k + 1 => by
    show (n + 1) + bits 1 (List.replicate k n) = _
    rw [bits_rep n k, Nat.succ_mul]
    omega
/-- the wholes next to an amount of a parts -/
def choU (a : Int) : List Int := if a / DL = -(-a / DL) then [a / DL] else [a / DL, -(-a / DL)]
theorem cho_ex (a : Int) : -(-a / DL) = if a / DL * DL = a then a / DL else a / DL + 1 := by
  have d := DL_pos
  split
  · rename_i h
    have : -a = -(a / DL) * DL := by rw [Int.neg_mul, h]
    rw [this, Int.mul_ediv_cancel _ DL_ne]
    omega
  · rename_i h
    have m1 := Int.mul_ediv_add_emod a DL
    have m2 := Int.emod_nonneg a DL_ne
    have m3 := Int.emod_lt_of_pos a d
    have m4 : a % DL ≠ 0 := fun z => h (by rw [z, Int.add_zero, Int.mul_comm] at m1; exact m1)
    have e : -a = (DL - a % DL) + -(a / DL + 1) * DL := by grind
    rw [e, Int.add_mul_ediv_right _ _ DL_ne, Int.ediv_eq_zero_of_lt (by omega) (by omega)]
    omega
theorem cho_near {a n : Int} (h : n ∈ choU a) : (n * DL - a).natAbs < DL.natAbs := by
  have d := DL_pos
  have m1 := Int.mul_ediv_add_emod a DL
  have m2 := Int.emod_nonneg a DL_ne
  have m3 := Int.emod_lt_of_pos a d
  have c := cho_ex a
  have key : n = a / DL ∨ (n = a / DL + 1 ∧ a % DL ≠ 0) := by
    unfold choU at h
    split at h
    · exact .inl (by simpa using h)
    · rename_i q
      rcases List.mem_cons.mp h with z | z
      · exact .inl z
      · have z := List.mem_singleton.mp z
        rw [c] at z q
        split at z
        · exact .inl z
        · rename_i t
          exact .inr ⟨z, fun y => t (by rw [y, Int.add_zero, Int.mul_comm] at m1; exact m1)⟩
  rcases key with rfl | ⟨rfl, y⟩
  · have : a / DL * DL - a = -(a % DL) := by grind
    rw [this]
    omega
  · have : (a / DL + 1) * DL - a = DL - a % DL := by grind
    rw [this]
    omega
end M9
namespace CK
open PySem PySem.Spec PyProof.Rows L2 VG FR HD M9
def EU (K : PySem.W.Frag) (H : Hp) (a : Addr) (es : List Int) : Prop := ∃ xs, SqT K H a xs ∧ Frs K H xs (es.map U)
theorem EU.mono {K : PySem.W.Frag} {H H' : Hp} {a : Addr} {es : List Int} (s : Same H H') (h : EU K H a es) : EU K H' a es := by
  obtain ⟨xs, h1, h2⟩ := h
  exact ⟨xs, seqT s h1, h2.mono s⟩
/-- a line: its kind, its amount, its whole -/
abbrev Line := Nat × Q2 × Int
def LineAt (K : PySem.W.Frag) (H : Hp) (v : V) (r : Line) : Prop := ∃ t s, v = .ref t ∧ SqT K H t [.int r.1, .ref s, .int r.2.2] ∧ SqT K H s (pV r.2.1)
def Lines (K : PySem.W.Frag) (H : Hp) : List V → List Line → Prop
  | [], [] => True
  | v :: vs, r :: rs => LineAt K H v r ∧ Lines K H vs rs
  | _, _ => False
theorem LineAt.mono {K : PySem.W.Frag} {H H' : Hp} (s : Same H H') {v : V} {r : Line} (h : LineAt K H v r) : LineAt K H' v r := by
  obtain ⟨t, u, e, h1, h2⟩ := h
  exact ⟨t, u, e, seqT s h1, seqT s h2⟩
theorem Lines.mono {K : PySem.W.Frag} {H H' : Hp} (s : Same H H') : ∀ {vs : List V} {rs : List Line}, Lines K H vs rs → Lines K H' vs rs
  | [], [], _ => trivial
  | _ :: _, _ :: _, h => ⟨h.1.mono s, h.2.mono s⟩
  | [], _ :: _, h => h.elim
  | _ :: _, [], h => h.elim
theorem Lines.len {K : PySem.W.Frag} {H : Hp} : ∀ {vs : List V} {rs : List Line}, Lines K H vs rs → vs.length = rs.length
  | [], [], _ => rfl
  | _ :: _, _ :: _, h => by rw [List.length_cons, List.length_cons, h.2.len]
  | [], _ :: _, h => h.elim
  | _ :: _, [], h => h.elim
theorem Lines.get {K : PySem.W.Frag} {H : Hp} : ∀ {vs : List V} {rs : List Line} {i : Nat} {v : V}, Lines K H vs rs → vs[i]? = some v → ∃ r, rs[i]? = some r ∧ LineAt K H v r
  | [], [], _, _, _, h => by simp at h
  | a :: _, r :: _, 0, v, h, e => by
    have e1 : a = v := Option.some.inj e
    subst e1
    exact ⟨r, rfl, h.1⟩
  | _ :: vs, _ :: rs, i + 1, v, h, e => h.2.get (i := i) e
  | [], _ :: _, _, _, h, _ => h.elim
  | _ :: _, [], _, _, h, _ => h.elim
/-- an amount that the laws draw: small, in lowest terms, of the common bottom -/
structure AmtOk (p : Q2) : Prop where
  low : M2.Low p.1 p.2
  dvd : p.2 ∣ DL
  top : p.1.natAbs ≤ 1000000
def lineU (p : Q2) (n : Int) : Int := n * DL - un p
structure LineOk (m : Nat) (r : Line) : Prop where
  kind : r.1 < m
  amt : AmtOk r.2.1
  whole : r.2.2.natAbs ≤ 1000001
  near : (lineU r.2.1 r.2.2).natAbs < 2 ^ 45
def addAt (es : List Int) (k : Nat) (d : Int) : List Int := es.set k (es.getD k 0 + d)
def behU (es : List Int) (r : Line) : List Int := addAt es r.1 (lineU r.2.1 r.2.2)
def errU (m : Nat) (rs : List Line) : List Int := rs.foldl behU (List.replicate m 0)
/-- none further off than so many lines are -/
def Within (n : Nat) (es : List Int) : Prop := ∀ e ∈ es, e.natAbs ≤ n * 2 ^ 45
theorem Within.mono {m n : Nat} (h : m ≤ n) {es : List Int} (w : Within m es) : Within n es := fun e he => Nat.le_trans (w e he) (Nat.mul_le_mul_right _ h)
theorem frs_get {K : PySem.W.Frag} {H : Hp} : ∀ {ps : List Q2} {vs : List V} {i : Nat} {p : Q2}, Frs K H vs ps → ps[i]? = some p → ∃ t, vs[i]? = some (.ref t) ∧ SqT K H t (pV p)
  | [], [], _, _, _, h => by simp at h
  | p :: _, v :: _, 0, q, h, e => by
    have e1 : p = q := Option.some.inj e
    subst e1
    obtain ⟨t, e2, q⟩ := h.1
    exact ⟨t, by rw [e2]; rfl, q⟩
  | _ :: ps, _ :: vs, i + 1, p, h, e => frs_get (i := i) h.2 e
  | _ :: _, [], _, _, h, _ => h.elim
  | [], _ :: _, _, _, h, _ => h.elim
theorem frs_set {K : PySem.W.Frag} {H : Hp} {t : Addr} {p : Q2} (ht : SqT K H t (pV p)) : ∀ {ps : List Q2} {vs : List V} (i : Nat), Frs K H vs ps → Frs K H (vs.set i (.ref t)) (ps.set i p)
  | [], [], _, _ => trivial
  | _ :: _, _ :: _, 0, h => ⟨⟨t, rfl, ht⟩, h.2⟩
  | _ :: _, _ :: _, i + 1, h => ⟨h.1, frs_set ht i h.2⟩
  | _ :: _, [], _, h => h.elim
  | [], _ :: _, _, h => h.elim
theorem cutN {xs : List V} (k : Nat) : cutV xs (some ((k : Int) + 1)) none = xs.drop (k + 1) := by
  have e : ((k : Int) + 1) = ((k + 1 : Nat) : Int) := rfl
  rw [e]
  unfold cutV
  rw [HT.sIx_none, HT.sIx_nat]
  rcases Nat.le_total (k + 1) xs.length with h | h
  · rw [Nat.min_eq_left h]
    exact List.take_of_length_le (by rw [List.length_drop]; exact Nat.le_refl _)
  · rw [Nat.min_eq_right h, List.drop_eq_nil_of_le h, List.drop_eq_nil_of_le (Nat.le_refl _)]
    exact List.take_nil
end CK
namespace CK
open PySem PySem.Spec PyProof.Rows L2 VG FR HD M9
theorem Frs.updL {K : PySem.W.Frag} {H : Hp} {D : Addr} {ys zs : List V} (hD : H D = some (.lst ys)) : ∀ {vs : List V} {ps : List Q2}, Frs K H vs ps → Frs K (L2.upd H D (.lst zs)) vs ps
  | [], [], _ => trivial
  | _ :: _, _ :: _, ⟨⟨t, e1, h⟩, r⟩ => ⟨⟨t, e1, seqT_upd hD h⟩, Frs.updL hD r⟩
  | [], _ :: _, h => h.elim
  | _ :: _, [], h => h.elim
theorem EU.updL {K : PySem.W.Frag} {H : Hp} {D a : Addr} {ys zs : List V} {es : List Int} (hD : H D = some (.lst ys)) (h : EU K H a es) : EU K (L2.upd H D (.lst zs)) a es := by
  obtain ⟨xs, h1, h2⟩ := h
  exact ⟨xs, seqT_upd hD h1, Frs.updL hD h2⟩
/-- errors, one behind another -/
def EUs (K : PySem.W.Frag) (H : Hp) : List V → List (List Int) → Prop
  | [], [] => True
  | v :: vs, e :: es => (∃ u, v = .ref u ∧ EU K H u e) ∧ EUs K H vs es
  | _, _ => False
theorem EUs.mono {K : PySem.W.Frag} {H H' : Hp} (s : Same H H') : ∀ {vs : List V} {rs : List (List Int)}, EUs K H vs rs → EUs K H' vs rs
  | [], [], _ => trivial
  | _ :: _, _ :: _, ⟨⟨u, e, h⟩, r⟩ => ⟨⟨u, e, h.mono s⟩, EUs.mono s r⟩
  | [], _ :: _, h => h.elim
  | _ :: _, [], h => h.elim
theorem EUs.updL {K : PySem.W.Frag} {H : Hp} {D : Addr} {ys zs : List V} (hD : H D = some (.lst ys)) : ∀ {vs : List V} {rs : List (List Int)}, EUs K H vs rs → EUs K (L2.upd H D (.lst zs)) vs rs
  | [], [], _ => trivial
  | _ :: _, _ :: _, ⟨⟨u, e, h⟩, r⟩ => ⟨⟨u, e, h.updL hD⟩, EUs.updL hD r⟩
  | [], _ :: _, h => h.elim
  | _ :: _, [], h => h.elim
theorem EUs.snoc {K : PySem.W.Frag} {H : Hp} {u : Addr} {e : List Int} (hv : EU K H u e) : ∀ {vs : List V} {rs : List (List Int)}, EUs K H vs rs → EUs K H (vs ++ [.ref u]) (rs ++ [e])
  | [], [], _ => ⟨⟨u, rfl, hv⟩, trivial⟩
  | _ :: _, _ :: _, h => ⟨h.1, EUs.snoc hv h.2⟩
  | [], _ :: _, h => h.elim
  | _ :: _, [], h => h.elim
theorem EUs.len {K : PySem.W.Frag} {H : Hp} : ∀ {vs : List V} {rs : List (List Int)}, EUs K H vs rs → vs.length = rs.length
  | [], [], _ => rfl
  | _ :: _, _ :: _, h => by rw [List.length_cons, List.length_cons, EUs.len h.2]
  | [], _ :: _, h => h.elim
  | _ :: _, [], h => h.elim
theorem EUs.get {K : PySem.W.Frag} {H : Hp} : ∀ {vs : List V} {rs : List (List Int)} {i : Nat} {v : V}, EUs K H vs rs → vs[i]? = some v → ∃ u r, v = .ref u ∧ rs[i]? = some r ∧ EU K H u r
  | [], [], _, _, _, h => by simp at h
  | a :: _, r :: _, 0, v, h, e => by
    have e1 : a = v := Option.some.inj e
    subst e1
    obtain ⟨u, e2, q⟩ := h.1
    exact ⟨u, r, e2, rfl, q⟩
  | _ :: vs, _ :: rs, i + 1, v, h, e => EUs.get (i := i) h.2 e
  | [], _ :: _, _, _, h, _ => h.elim
  | _ :: _, [], _, _, h, _ => h.elim
theorem frs_snoc {K : PySem.W.Frag} {H : Hp} {t : Addr} {p : Q2} {vs : List V} {ps : List Q2} (hv : SqT K H t (pV p)) (h : Frs K H vs ps) : Frs K H (vs ++ [.ref t]) (ps ++ [p]) := Frs.snoc hv h
/-- how the errors of totals change with a line -/
def behT (ts : List (List Int)) (xs : List Int) (k : Int) (d : Int) : List Int := (ts.zip xs).map fun p => if p.1.contains k then p.2 + d else p.2
def smallU (es : List Int) : Bool := es.all fun e => decide (-DL < e ∧ e < DL)
def DayIn (K : PySem.W.Frag) (H : Hp) (d : Addr) (m : Nat) (rs : List Line) : Prop := ∃ xs, SqT K H d xs ∧ Lines K H xs rs ∧ (∀ r ∈ rs, LineOk m r) ∧ rs.length ≤ 900
theorem DayIn.mono {K : PySem.W.Frag} {H H' : Hp} {d : Addr} {m : Nat} {rs : List Line} (s : Same H H') (h : DayIn K H d m rs) : DayIn K H' d m rs := by
  obtain ⟨xs, h1, h2, h3⟩ := h
  exact ⟨xs, seqT s h1, h2.mono s, h3⟩
end CK
namespace CK
open PySem PySem.Spec PyProof.Rows L2 VG FR HD M9
def choQ (p : Q2) : List Int := if p.1 / p.2 = -(-p.1 / p.2) then [p.1 / p.2] else [p.1 / p.2, -(-p.1 / p.2)]
theorem cho_U (a : Int) : choQ (U a) = choU a := by
  unfold choQ choU
  have e : -(U a).1 / (U a).2 = -a / DL := by
    have := U_floor (-a)
    rw [← neg_U] at this
    exact this
  rw [U_floor, e]
def spCho (K : PySem.W.Frag) : Sp := fun vs H Q _ => ∃ (s : Addr) (p : Q2), vs = [.ref s] ∧ SqT K H s (pV p) ∧ 0 < p.2 ∧ Bt 3000 p ∧ ∀ H' u, Same H H' → H u = none → H' u = some (.tup ((choQ p).map V.int)) → Q (.ref u) H'
end CK
namespace CK
open PySem PySem.Spec PyProof.Rows L2 VG FR HD M9
theorem cho_whole {a : Int} {n : Int} (ha : a.natAbs ≤ 1000000 * DL.natAbs) (h : n ∈ choU a) : n.natAbs ≤ 1000001 := by
  have c := cho_near h
  have d := DL_pos
  have h1 : (n * DL).natAbs ≤ a.natAbs + DL.natAbs := by
    have := Int.natAbs_add_le (n * DL - a) a
    rw [Int.sub_add_cancel] at this
    omega
  rw [Int.natAbs_mul] at h1
  have h2 : n.natAbs * DL.natAbs ≤ 1000001 * DL.natAbs := by omega
  exact Nat.le_of_mul_le_mul_right h2 (by omega)
theorem un_le {p : Q2} (low : M2.Low p.1 p.2) (t : p.1.natAbs ≤ 1000000) : (un p).natAbs ≤ 1000000 * DL.natAbs := by
  unfold un
  rw [Int.natAbs_mul]
  exact Nat.mul_le_mul t (M2.natAbs_div_le DL low.1)
end CK
namespace CK
open PySem PySem.Spec PyProof.Rows L2 VG FR HD M9
end CK
namespace VG
open PySem PySem.Spec PyProof.Rows L2
end VG
namespace CK
open PySem PySem.Spec PyProof.Rows L2 VG FR HD
abbrev cABC : Str := "abcdefghijklmnopqrstuvwxyz"
theorem ixN_nat {n j : Nat} (h : j < n) : ixN n (j : Int) = some j := by
  unfold ixN
  rw [if_pos (by omega), if_pos (by omega), Int.toNat_natCast]
def nmB (z : Str) : Bool := decide (1 ≤ z.cps.size) && decide (z.cps.size ≤ 6) && z.cps.toList.all fun c => decide (97 ≤ c ∧ c ≤ 122)
theorem ok_of_B {z : Str} (h : nmB z = true) : NameOk z := by
  unfold nmB at h
  rw [Bool.and_eq_true, Bool.and_eq_true] at h
  exact ⟨of_decide_eq_true h.1.1, of_decide_eq_true h.1.2, fun c hc => of_decide_eq_true (List.all_eq_true.mp h.2 c hc)⟩
end CK
namespace CK
open PySem PySem.Spec PyProof.Rows L2 VG FR HD M9
theorem euc_step {x y i P : Nat} (h : x * y * 2 ^ i ≤ 2 * P) (o : y ≤ x) (y0 : 0 < y) : y * (x % y) * 2 ^ (i + 1) ≤ 2 * P := by
  have m := Nat.mod_lt x y0
  have d := Nat.div_add_mod x y
  have q : 1 ≤ x / y := Nat.div_pos o y0
  have h1 : y + x % y ≤ x := by
    have : y * 1 ≤ y * (x / y) := Nat.mul_le_mul_left y q
    omega
  have h2 : 2 * (x % y) ≤ x := by omega
  have h3 : y * (x % y) * 2 ≤ x * y := by
    calc y * (x % y) * 2 = y * (2 * (x % y)) := by rw [Nat.mul_assoc, Nat.mul_comm (x % y) 2]
      _ ≤ y * x := Nat.mul_le_mul_left y h2
      _ = x * y := Nat.mul_comm y x
  calc y * (x % y) * 2 ^ (i + 1) = y * (x % y) * 2 * 2 ^ i := by rw [Nat.pow_succ, Nat.mul_comm (2 ^ i) 2, ← Nat.mul_assoc]
    _ ≤ x * y * 2 ^ i := Nat.mul_le_mul_right _ h3
    _ ≤ 2 * P := h
end CK
namespace CK
open PySem PySem.Spec PyProof.Rows L2 VG FR HD M9
end CK
namespace CK
open PySem PySem.Spec PyProof.Rows L2 VG FR HD M9
/-- the law's totals: a tuple of lots -/
def TotsIn (K : PySem.W.Frag) (H : Hp) (t : Addr) (m : Nat) (ts : List (List Int)) : Prop := ∃ xs, SqT K H t xs ∧ Tots K H xs ts ∧ ts.length ≤ 12 ∧ ∀ c ∈ ts, LotOk (m : Int) c
theorem TotsIn.mono {K : PySem.W.Frag} {H H' : Hp} {t : Addr} {m : Nat} {ts : List (List Int)} (s : Same H H') (h : TotsIn K H t m ts) : TotsIn K H' t m ts := by
  obtain ⟨xs, h1, h2, h3⟩ := h
  exact ⟨xs, seqT s h1, h2.mono s, h3⟩
end CK
namespace CK
open PySem PySem.Spec PyProof.Rows L2 VG FR HD
end CK
namespace CK
open PySem PySem.Spec PyProof.Rows L2 VG FR HD
end CK
namespace CK
open PySem PySem.Spec PyProof.Rows L2 VG FR HD
theorem Sts.append {K : PySem.W.Frag} {H : Hp} : ∀ {xs ys : List V} {a b : List Stp}, Sts K H xs a → Sts K H ys b → Sts K H (xs ++ ys) (a ++ b)
  | [], _, [], _, _, h => h
  | _ :: _, _, _ :: _, _, h1, h2 => ⟨h1.1, h1.2.append h2⟩
  | [], _, _ :: _, _, h, _ => h.elim
  | _ :: _, _, [], _, h, _ => h.elim
end CK
namespace CK
open PySem PySem.Spec PyProof.Rows L2 VG FR HD
def refsIn (x : Nat) : Option Stp → Bool
  | some (.less _ i j) => decide (x = i) || decide (x = j)
  | _ => false
def nz (steps : List Stp) : Nat → Nat → Bool
  | 0, x => decide (x + 1 = steps.length)
  | k + 1, x => nz steps k x || (nz steps k (steps.length - 1 - k) && refsIn x steps[steps.length - 1 - k]?)
def tk (k : Nat) : L2.Key × V := ((Sum.inl (k : Int) : L2.Key), .bl true)
/-- refs lie below -/
def Below' (steps : List Stp) : Prop := ∀ (i c a b : Nat), steps[i]? = some (Stp.less c a b) → a < i ∧ b < i
end CK
namespace CK
open PySem PySem.Spec PyProof.Rows L2 VG FR HD
theorem along_app (bs : List (List Int)) : ∀ (ss tt : List Stp) (kn : List (List Int)), along bs (ss ++ tt) kn = along bs tt (along bs ss kn)
  | [], _, _ => rfl
  | s :: ss, tt, kn => along_app bs ss tt (kn ++ [recOf bs kn s])
theorem along_pre (bs : List (List Int)) : ∀ (ss : List Stp) (kn : List (List Int)), ∃ r, along bs ss kn = kn ++ r
  | [], kn => ⟨[], (List.append_nil kn).symm⟩
  | s :: ss, kn => by
    obtain ⟨r, e⟩ := along_pre bs ss (kn ++ [recOf bs kn s])
    exact ⟨recOf bs kn s :: r, by show along bs ss (kn ++ [recOf bs kn s]) = _; rw [e]; simp⟩
theorem along_len0 (bs : List (List Int)) (ss : List Stp) : (along bs ss []).length = ss.length := by
  rw [along_len, List.length_nil, Nat.zero_add]
theorem along_takeE (bs : List (List Int)) (ss : List Stp) (i : Nat) : (along bs ss []).take i = along bs (ss.take i) [] := by
  obtain ⟨r, e⟩ := along_pre bs (ss.drop i) (along bs (ss.take i) [])
  rw [← along_app, List.take_append_drop] at e
  by_cases hi : i ≤ ss.length
  · have l : (along bs (ss.take i) []).length = i := by rw [along_len0, List.length_take]; omega
    rw [e, List.take_left' l]
  · rw [List.take_of_length_le (by rw [along_len0]; omega), List.take_of_length_le (by omega)]
theorem getD_take {R : List (List Int)} {a i : Nat} (h : a < i) : (R.take i).getD a [] = R.getD a [] := by
  rw [List.getD_eq_getElem?_getD, List.getD_eq_getElem?_getD, List.getElem?_take, if_pos h]
def RStp (nb many : Nat) (R : List (List Int)) (i : Nat) : Stp → Prop
  | .tot t s => t < nb ∧ (s = 1 ∨ s = -1)
  | .less c a b => c < many ∧ a < i ∧ b < i ∧ beyB (R.getD a []) = false ∧ beyB (R.getD b []) = false ∧ (agrL (R.getD a []) (R.getD b [])).contains (c : Int) = true
def RD (bs : List (List Int)) (many : Nat) (steps : List Stp) : Prop := ∀ i s, steps[i]? = some s → RStp bs.length many (along bs steps []) i s
theorem RD.below {bs : List (List Int)} {many : Nat} {steps : List Stp} (h : RD bs many steps) : Below' steps := fun i c a b e => ⟨(h i _ e).2.1, (h i _ e).2.2.1⟩
theorem RD.ok {bs : List (List Int)} {many : Nat} {steps : List Stp} (h : RD bs many steps) : DerOk bs.length steps := fun i s e => by
  have r := h i s e
  cases s with
  | tot t s => exact r
  | less c a b => exact ⟨r.2.1, r.2.2.1⟩
theorem RStp.take {nb many i : Nat} {R : List (List Int)} : ∀ {s : Stp}, RStp nb many (R.take i) i s ↔ RStp nb many R i s
  | .tot t s => Iff.rfl
  | .less c a b => by
    constructor
    · rintro ⟨h1, h2, h3, h4, h5, h6⟩
      rw [getD_take h2] at h4 h6
      rw [getD_take h3] at h5 h6
      exact ⟨h1, h2, h3, h4, h5, h6⟩
    · rintro ⟨h1, h2, h3, h4, h5, h6⟩
      refine ⟨h1, h2, h3, ?_, ?_, ?_⟩
      · rw [getD_take h2]; exact h4
      · rw [getD_take h3]; exact h5
      · rw [getD_take h2, getD_take h3]; exact h6
theorem RD.take {bs : List (List Int)} {many : Nat} {steps : List Stp} (h : RD bs many steps) (k : Nat) : RD bs many (steps.take k) := fun i s e => by
  have hi : i < k := by
    have := (List.getElem?_eq_some_iff.mp e).1
    rw [List.length_take] at this
    omega
  rw [List.getElem?_take, if_pos hi] at e
  have r := RStp.take.mpr (h i s e)
  rw [along_takeE] at r
  refine RStp.take.mp ?_
  rw [along_takeE, List.take_take, show min i k = i from by omega]
  exact r
end CK
namespace CK
open PySem PySem.Spec PyProof.Rows L2 VG FR HD
theorem Sts.keep {K : PySem.W.Frag} {H H' : Hp} {p q : Addr} (hd : Hd p q H) (kp : Keep p q H H') : ∀ {vs : List V} {cs : List Stp}, Sts K H vs cs → Sts K H' vs cs
  | [], [], _ => trivial
  | _ :: _, _ :: _, ⟨⟨t, e1, h⟩, r⟩ => ⟨⟨t, e1, seqTK hd kp h⟩, r.keep hd kp⟩
  | [], _ :: _, h => h.elim
  | _ :: _, [], h => h.elim
theorem Tots.keep {K : PySem.W.Frag} {H H' : Hp} {p q : Addr} (hd : Hd p q H) (kp : Keep p q H H') : ∀ {vs : List V} {cs : List (List Int)}, Tots K H vs cs → Tots K H' vs cs
  | [], [], _ => trivial
  | _ :: _, _ :: _, ⟨⟨t, e1, h⟩, r⟩ => ⟨⟨t, e1, seqTK hd kp h⟩, Tots.keep hd kp r⟩
  | [], _ :: _, h => h.elim
  | _ :: _, [], h => h.elim
end CK
namespace CK
open PySem PySem.Spec PyProof.Rows L2 VG FR HD M9
theorem same_of {H H' : Hp} {z : Addr} {o : HO} (n : H z = none) (e : L2.upd H z o = H') : Same H H' := e ▸ same_upd n
theorem at_of {H H' : Hp} {z : Addr} {o : HO} (e : L2.upd H z o = H') : H' z = some o := e ▸ upd_same
theorem Tots.take {K : PySem.W.Frag} {H : Hp} : ∀ {xs : List V} {ts : List (List Int)} (n : Nat), Tots K H xs ts → Tots K H (xs.take n) (ts.take n)
  | [], [], 0, _ => trivial
  | [], [], _ + 1, _ => trivial
  | _ :: _, _ :: _, 0, _ => trivial
  | _ :: _, _ :: _, n + 1, h => ⟨h.1, Tots.take n h.2⟩
/-- totals as they are drawn: D lists them -/
structure TotW (K : PySem.W.Frag) (p q : Addr) (G : Hp) (n : Nat) (H : Hp) (D : Addr) (xs : List V) (ts : List (List Int)) (i : Nat) : Prop where
  on : On p q G H
  lst : H D = some (.lst xs)
  tots : Tots K H xs ts
  len : ts.length = i
  ok : ∀ c ∈ ts, LotOk (n : Int) c
section
variable {K : PySem.W.Frag} {p q : Addr} {G H H' : Hp} {n : Nat} {D : Addr} {xs : List V} {ts : List (List Int)} {i : Nat}
theorem TotW.draw (h : TotW K p q G n H D xs ts i) (fD : D ≠ p ∧ D ≠ q) (hd : Hd p q H') (k : Keep p q H H') : TotW K p q G n H' D xs ts i :=
  ⟨h.on.draw hd k, k D _ fD.1 fD.2 h.lst, h.tots.keep h.on.hd k, h.len, h.ok⟩
theorem TotW.same (h : TotW K p q G n H D xs ts i) (s : Same H H') : TotW K p q G n H' D xs ts i := ⟨h.on.same s, s _ _ h.lst, h.tots.mono s, h.len, h.ok⟩
theorem TotW.put (h : TotW K p q G n H D xs ts i) {S : Addr} {ys zs : List V} (f : S ≠ p ∧ S ≠ q ∧ G S = none) (ne : D ≠ S) (k : H S = some (.lst ys)) : TotW K p q G n (L2.upd H S (.lst zs)) D xs ts i :=
  ⟨h.on.put f, by rw [upd_ne ne]; exact h.lst, h.tots.upd k, h.len, h.ok⟩
theorem TotW.add (h : TotW K p q G n H D xs ts i) {t : Addr} {c : List Int} (f : D ≠ p ∧ D ≠ q ∧ G D = none) (ht : SqT K H t (c.map V.int)) (hc : LotOk (n : Int) c) : TotW K p q G n (L2.upd H D (.lst (xs ++ [.ref t]))) D (xs ++ [.ref t]) (ts ++ [c]) (i + 1) :=
  ⟨h.on.put f, upd_same, Tots.upd h.lst (Tots.snoc ht h.tots), by rw [List.length_append, h.len]; rfl, fun d hd => (List.mem_append.mp hd).elim (h.ok d) fun z => by rw [List.mem_singleton.mp z]; exact hc⟩
end
end CK
namespace CK
open PySem PySem.Spec PyProof.Rows L2 VG FR HD M9
end CK
namespace VG
open PySem PySem.Spec PyProof.Rows L2
end VG
namespace CK
open PySem PySem.Spec PyProof.Rows L2 VG FR HD M9
theorem EU.keep {K : PySem.W.Frag} {H H' : Hp} {p q a : Addr} {es : List Int} (hd : Hd p q H) (kp : Keep p q H H') (h : EU K H a es) : EU K H' a es := by
  obtain ⟨xs, h1, h2⟩ := h
  exact ⟨xs, seqTK hd kp h1, h2.keep hd kp⟩
theorem LineAt.keep {K : PySem.W.Frag} {H H' : Hp} {p q : Addr} (hd : Hd p q H) (kp : Keep p q H H') {v : V} {r : Line} (h : LineAt K H v r) : LineAt K H' v r := by
  obtain ⟨t, s, e, h1, h2⟩ := h
  exact ⟨t, s, e, seqTK hd kp h1, seqTK hd kp h2⟩
theorem Lines.keep {K : PySem.W.Frag} {H H' : Hp} {p q : Addr} (hd : Hd p q H) (kp : Keep p q H H') : ∀ {vs : List V} {rs : List Line}, Lines K H vs rs → Lines K H' vs rs
  | [], [], _ => trivial
  | _ :: _, _ :: _, h => ⟨h.1.keep hd kp, Lines.keep hd kp h.2⟩
  | [], _ :: _, h => h.elim
  | _ :: _, [], h => h.elim
theorem Lines.updL {K : PySem.W.Frag} {H : Hp} {D : Addr} {ys zs : List V} (hD : H D = some (.lst ys)) : ∀ {vs : List V} {rs : List Line}, Lines K H vs rs → Lines K (L2.upd H D (.lst zs)) vs rs
  | [], [], _ => trivial
  | _ :: _, _ :: _, h => ⟨by
    obtain ⟨t, s, e, h1, h2⟩ := h.1
    exact ⟨t, s, e, seqT_upd hD h1, seqT_upd hD h2⟩, Lines.updL hD h.2⟩
  | [], _ :: _, h => h.elim
  | _ :: _, [], h => h.elim
theorem Lines.snoc {K : PySem.W.Frag} {H : Hp} {v : V} {r : Line} (hv : LineAt K H v r) : ∀ {vs : List V} {rs : List Line}, Lines K H vs rs → Lines K H (vs ++ [v]) (rs ++ [r])
  | [], [], _ => ⟨hv, trivial⟩
  | _ :: _, _ :: _, h => ⟨h.1, Lines.snoc hv h.2⟩
  | [], _ :: _, h => h.elim
  | _ :: _, [], h => h.elim
theorem line_of {m k : Nat} {p : Q2} {n : Int} (hk : k < m) (ha : AmtOk p) (hn : n ∈ choQ p) : LineOk m (k, p, n) := by
  have hc2 : n ∈ choU (un p) := by
    rw [← cho_U, U_un ha.low ha.dvd]
    exact hn
  exact ⟨hk, ha, cho_whole (un_le ha.low ha.top) hc2, Nat.lt_of_lt_of_le (cho_near hc2) (by decide)⟩
/-- a day as it is drawn: D lists its lines, e the errors behind them -/
structure DayW (K : PySem.W.Frag) (p q : Addr) (G : Hp) (m : Nat) (H : Hp) (D e : Addr) (xs : List V) (rs : List Line) (i : Nat) : Prop where
  on : On p q G H
  lst : H D = some (.lst xs)
  lines : Lines K H xs rs
  len : rs.length = i
  ok : ∀ r ∈ rs, LineOk m r
  err : EU K H e (errU m rs)
section
variable {K : PySem.W.Frag} {p q : Addr} {G H H' : Hp} {m : Nat} {D e : Addr} {xs : List V} {rs : List Line} {i : Nat}
theorem DayW.draw (h : DayW K p q G m H D e xs rs i) (fD : D ≠ p ∧ D ≠ q) (hd : Hd p q H') (k : Keep p q H H') : DayW K p q G m H' D e xs rs i :=
  ⟨h.on.draw hd k, k D _ fD.1 fD.2 h.lst, h.lines.keep h.on.hd k, h.len, h.ok, h.err.keep h.on.hd k⟩
theorem DayW.same (h : DayW K p q G m H D e xs rs i) (s : Same H H') : DayW K p q G m H' D e xs rs i := ⟨h.on.same s, s _ _ h.lst, h.lines.mono s, h.len, h.ok, h.err.mono s⟩
theorem DayW.put (h : DayW K p q G m H D e xs rs i) {S : Addr} {ys zs : List V} (f : S ≠ p ∧ S ≠ q ∧ G S = none) (ne : D ≠ S) (k : H S = some (.lst ys)) : DayW K p q G m (L2.upd H S (.lst zs)) D e xs rs i :=
  ⟨h.on.put f, by rw [upd_ne ne]; exact h.lst, h.lines.updL k, h.len, h.ok, h.err.updL k⟩
end
end CK
namespace CK
open PySem PySem.Spec PyProof.Rows L2 VG FR HD
end CK
namespace CK
open PySem PySem.Spec PyProof.Rows L2 VG FR HD
end CK
namespace CK
open PySem PySem.Spec PyProof.Rows L2 VG FR HD
def Gd (n : Nat) (d : PyData) : Prop := d.canLay0 = true ∧ d.depth ≤ n
theorem gd_all {n : Nat} : ∀ {ds : List PyData}, (∀ d ∈ ds, Gd n d) → PyData.canLayAll0 ds = true ∧ PyData.depthAll ds ≤ n
  | [], _ => ⟨rfl, Nat.zero_le _⟩
  | d :: ds, h => by
    have ⟨a1, a2⟩ := h d List.mem_cons_self
    have ⟨b1, b2⟩ := gd_all (ds := ds) fun e he => h e (List.mem_cons_of_mem _ he)
    refine ⟨?_, ?_⟩
    · show (PyData.canLay0 d && PyData.canLayAll0 ds) = true
      rw [a1, b1]
      rfl
    · show max (PyData.depth d) (PyData.depthAll ds) ≤ n
      omega
theorem gd_tup {n : Nat} {ds : List PyData} (h : ∀ d ∈ ds, Gd n d) : Gd (n + 1) (.tuple ds) := ⟨(gd_all h).1, Nat.succ_le_succ (gd_all h).2⟩
theorem gd_int (n : Nat) (a : Int) : Gd n (.int a) := ⟨rfl, Nat.zero_le _⟩
theorem Gd.shaped {n : Nat} {d : PyData} (h : Gd n d) (hn : n ≤ 64) : SeqAt.shaped d = true := by
  unfold SeqAt.shaped
  rw [h.1, decide_eq_true (Nat.le_trans h.2 hn)]
  rfl
end CK
namespace CK
open PySem PySem.Spec PyProof.Rows L2 VG FR HD M9
end CK
namespace CK
open PySem PySem.Spec PyProof.Rows L2 VG FR HD
end CK
namespace VG
open PySem PySem.Spec PyProof.Rows L2
/-- a heap without tables: what is told of it outlives the making of lambdas -/
def NoTbl (G : Hp) : Prop := ∀ b ps, G b ≠ some (.tbl ps)
theorem NoTbl.over {G H H' : Hp} (n : NoTbl G) (s : Same G H) (e : LamX.ExtN H H') : Same G H' := fun b o h =>
  e b o (s b o h) fun ps z => n b ps (by rw [h, z])
theorem tabs_same {T : List (Addr × Str)} {H H' : Hp} (t : LamX.Tabs T H) (s : Same H H') : LamX.Tabs T H' := t.ext s
/-- a heap but for its tables -/
noncomputable def offT (H : Hp) : Hp := fun b => match H b with
  | some (.tbl _) => none
  | o => o
theorem offT_no (H : Hp) : NoTbl (offT H) := fun b ps h => by
  unfold offT at h
  split at h
  · cases h
  · rename_i n
    exact n ps h
theorem offT_same (H : Hp) : Same (offT H) H := fun b o h => by
  unfold offT at h
  split at h
  · cases h
  · exact h
end VG
namespace CK
open PySem PySem.Spec PyProof.Rows L2 VG FR HD
end CK
namespace CK
open PySem PySem.Spec PyProof.Rows L2 VG FR HD
/-- totals by classes: for each total its classes, ascending -/
structure ByCls (ts : List (List Int)) (n : Nat) (ls : List (List Int)) : Prop where
  len : ls.length = ts.length
  rel : ∀ (j : Nat) c l, ts[j]? = some c → ls[j]? = some l → ∀ x : Int, x ∈ l ↔ ∃ k ∈ c, numV (classesL ts n) k = .int x
  asc : ∀ l ∈ ls, l.length ≤ 1000 ∧ l.Pairwise (· < ·)
def spTBC2 (K : PySem.W.Frag) (C : Addr) : Sp := fun vs H Q _ => ∃ (a : Addr) (ks : List Str) (ts : List (List Int)), vs = [.ref a] ∧ Tab K C H a ks ts ∧ ts.length ≤ 1000 ∧ ks.length ≤ 1000 ∧ (∀ c ∈ ts, c.length ≤ 60 ∧ ∀ x ∈ c, 0 ≤ x ∧ x < (ks.length : Int)) ∧
  ∀ H' u xs ls, Same H H' → H' u = some (.tup xs) → Tots K H' xs ls → ByCls ts ks.length ls → Q (.ref u) H'
/-- an ascending lot below n has at most n entries -/
theorem lot_small {n : Nat} {c : List Int} (h : LotOk (n : Int) c) : c.length ≤ n := by
  have pw : ∀ (c : List Int) (lo : Int), Asc c → (∀ x ∈ c, lo ≤ x ∧ x < (n : Int)) → (c.length : Int) ≤ (n : Int) - lo ∨ c = [] := by
    intro c
    induction c with
    | nil => intro lo _ _; exact .inr rfl
    | cons x r ih =>
      intro lo ha hb
      left
      have hx := hb x List.mem_cons_self
      cases r with
      | nil => simp; omega
      | cons y r2 =>
        have ha2 : x < y ∧ Asc (y :: r2) := ha
        have asc_all : ∀ (y : Int) (r : List Int), Asc (y :: r) → ∀ z ∈ y :: r, y ≤ z := by
          intro y r
          induction r generalizing y with
          | nil => intro _ z hz; rw [List.mem_singleton.mp hz]; exact Int.le_refl _
          | cons w r3 ih3 =>
            intro h3 z hz
            have h3 : y < w ∧ Asc (w :: r3) := h3
            rcases List.mem_cons.mp hz with e | m
            · rw [e]; exact Int.le_refl _
            · have := ih3 w h3.2 z m
              omega
        rcases ih (x + 1) ha2.2 (fun z hz => ⟨by have := asc_all y r2 ha2.2 z hz; omega, (hb z (List.mem_cons_of_mem _ hz)).2⟩) with q | q
        · rw [List.length_cons]
          omega
        · cases q
  rcases pw c 0 h.2.2 h.2.1 with q | q
  · omega
  · rw [q]; exact Nat.zero_le _
theorem TabOk.low {ks : List Str} {ts : List (List Int)} (h : TabOk ks ts) : ∀ c ∈ ts, c.length ≤ 60 ∧ ∀ x ∈ c, 0 ≤ x ∧ x < (ks.length : Int) := fun c hc =>
  ⟨by have := lot_small (h.lots c hc); have := h.kinds.2.1; omega, (h.lots c hc).2.1⟩
end CK
namespace CK
open PySem PySem.Spec PyProof.Rows L2 VG FR HD
end CK
namespace TU
open PySem PyProof.Rows
/-- the order of tuples of integers -/
def lexI : List Int → List Int → Bool
  | [], [] => false
  | [], _ :: _ => true
  | _ :: _, [] => false
  | x :: xs, y :: ys => if x = y then lexI xs ys else decide (x < y)
theorem lexI_asym : ∀ (a b : List Int), lexI a b = true → lexI b a = false
  | [], [], h => by cases h
  | [], _ :: _, _ => rfl
  | _ :: _, [], h => by cases h
  | x :: xs, y :: ys, h => by
    show (if y = x then lexI ys xs else decide (y < x)) = false
    have h : (if x = y then lexI xs ys else decide (x < y)) = true := h
    by_cases e : x = y
    · rw [if_pos e] at h
      rw [if_pos e.symm]
      exact lexI_asym xs ys h
    · rw [if_neg e] at h
      rw [if_neg (Ne.symm e)]
      have := of_decide_eq_true h
      exact decide_eq_false (by omega)
theorem lexI_total : ∀ (a b : List Int), lexI a b = false → lexI b a = false → a = b
  | [], [], _, _ => rfl
  | [], _ :: _, h, _ => by cases h
  | _ :: _, [], _, h => by cases h
  | x :: xs, y :: ys, h1, h2 => by
    have h1 : (if x = y then lexI xs ys else decide (x < y)) = false := h1
    have h2 : (if y = x then lexI ys xs else decide (y < x)) = false := h2
    by_cases e : x = y
    · rw [if_pos e] at h1
      rw [if_pos e.symm] at h2
      rw [e, lexI_total xs ys h1 h2]
    · rw [if_neg e] at h1
      rw [if_neg (Ne.symm e)] at h2
      have := of_decide_eq_false h1
      have := of_decide_eq_false h2
      omega
section
variable {prog : Program} {w : World} {A : Around} {E : Value → Shared → Prop} {s : Shared}
/-- what is sorted: tuples of integers -/
def AllT (h : Heap) (vs : List Value) : Prop := ∀ v ∈ vs, ∃ ns, TS.TupInts h v ns
theorem AllT.keeps {h h' : Heap} {vs : List Value} (x : AllT h vs) (k : ∀ b o, h.get? b = some o → o.cls = .type "tuple" → h'.get? b = some o) : AllT h' vs := fun v hv =>
  let ⟨ns, t⟩ := x v hv; ⟨ns, t.keeps k⟩
end
end TU
namespace L2
open PySem PySem.Spec PyProof.Rows
end L2
namespace CK
open PySem PySem.Spec PyProof.Rows L2 VG FR HD
def hd0 (c : List Int) : Int := c.getD 0 0
end CK
namespace CK
open PySem PySem.Spec PyProof.Rows L2 VG FR HD
end CK
namespace CK
open PySem PySem.Spec PyProof.Rows L2 VG FR HD
/-- ascending rows -/
def LexAsc (l : List (List Int)) : Prop := l.Pairwise fun a b => TU.lexI a b = true
theorem lexI_self (a : List Int) : TU.lexI a a = false := by
  cases h : TU.lexI a a with
  | false => rfl
  | true => exact absurd (TU.lexI_asym a a h) (by rw [h]; exact Bool.noConfusion)
theorem LexAsc.nodup {l : List (List Int)} (h : LexAsc l) : l.Nodup := List.Pairwise.imp (fun {a b} q e => by rw [e, lexI_self] at q; cases q) h
theorem LexAsc.first {a b : List Int} {l m : List (List Int)} (ha : LexAsc (a :: l)) (hb : LexAsc (b :: m)) (h : ∀ c, c ∈ a :: l ↔ c ∈ b :: m) : a = b := by
  have ha' := (List.pairwise_cons.mp ha).1
  have hb' := (List.pairwise_cons.mp hb).1
  rcases List.mem_cons.mp ((h a).mp List.mem_cons_self) with e | m1
  · exact e
  · rcases List.mem_cons.mp ((h b).mpr List.mem_cons_self) with e | m2
    · exact e.symm
    · have q := TU.lexI_asym _ _ (hb' a m1)
      rw [ha' b m2] at q
      cases q
theorem LexAsc.uniq : ∀ {l m : List (List Int)}, LexAsc l → LexAsc m → (∀ c, c ∈ l ↔ c ∈ m) → l = m
  | [], [], _, _, _ => rfl
  | [], b :: m, _, _, h => by have := (h b).mpr List.mem_cons_self; cases this
  | a :: l, [], _, _, h => by have := (h a).mp List.mem_cons_self; cases this
  | a :: l, b :: m, ha, hb, h => by
    have e := ha.first hb h
    subst e
    have n1 := (List.nodup_cons.mp ha.nodup).1
    have n2 := (List.nodup_cons.mp hb.nodup).1
    have h2 : ∀ c, c ∈ l ↔ c ∈ m := fun c => ⟨fun hc => by
      rcases List.mem_cons.mp ((h c).mp (List.mem_cons_of_mem _ hc)) with e | m1
      · rw [e] at hc; exact absurd hc n1
      · exact m1, fun hc => by
      rcases List.mem_cons.mp ((h c).mpr (List.mem_cons_of_mem _ hc)) with e | m1
      · rw [e] at hc; exact absurd hc n2
      · exact m1⟩
    rw [LexAsc.uniq (List.pairwise_cons.mp ha).2 (List.pairwise_cons.mp hb).2 h2]
end CK
namespace VG
open PySem PySem.Spec PyProof.Rows L2
/-- the keys of some texts -/
def inS (ks : List Str) : Key → Bool := fun k => decide (∃ x ∈ ks, k = .inr x)
end VG
namespace PyProof.Rows
open PySem
section
variable {prog : Program} {w : World} {A : Around} {E : Value → Shared → Prop} {s : Shared}
theorem collect_tupS {l : Addr} {vs : List Value} {Q : List Value → Shared → Prop} (hl : s.heap.IsTuple l vs.toArray) (short : vs.length ≤ sizeLine)
    (h : Q vs { s with heap := (s.heap.push (seqObj "list" #[] 0)).update s.heap.objs.size (Obj.mapSeq (· ++ vs.toArray)) }) :
    wpAny (model prog w) A (collect (.ref l)) Q E s := by
  obtain ⟨o, ho, hc, n, hd⟩ := id hl
  unfold collect
  refine wpAny_bind (wpAny_runValue (codeAny_builtin entry_proto_collect' ?_))
  show wpAny _ _ (do again (.builtin "list.__iadd__" ⟨[← newList [], .ref l], []⟩)) _ _ s
  refine wpAny_bind (wpAny_newList (wpAny_pure ⟨Code.quiet_builtin _ (by decide +kernel), codeAny_builtin entry_list_iadd' ?_⟩))
  show wpAny _ _ (Builtin.List.listExtendWith (.ref s.heap.objs.size) (.ref l) (.ref s.heap.objs.size)) _ _ { s with heap := s.heap.push (seqObj "list" #[] 0) }
  unfold Builtin.List.listExtendWith
  have ho' : (s.heap.push (seqObj "list" #[] 0)).get? l = some o := Heap.get?_push_of_some _ ho
  refine wpAny_bind (wpAny_typeOf (T := "tuple") ⟨o, ho', hc⟩ ?_)
  have ht : (Value.type "tuple" == Value.type "tuple") = true := by rfl
  rw [if_pos (by rw [ht]; simp)]
  refine wpAny_bind (listItems_at ho' hd ?_)
  refine wpAny_bind (listItems_at (xs := #[]) (n := 0) (Heap.get?_push_size _ rfl) rfl ?_)
  rw [if_neg (by simp)]
  refine wpAny_bind (listUpdate_at (xs := #[]) (n := 0) (Heap.get?_push_size _ rfl) rfl ?_ (Nat.zero_le _) (by show (#[] ++ vs.toArray).size ≤ sizeLine + 1; simp only [Array.size_append, List.size_toArray, List.length_nil]; omega))
  refine wpAny_pure ?_
  show wpAny (model prog w) A (do
      let o ← load s.heap.objs.size
      match o.data with
      | .seq xs _ => pure xs.toList
      | _ => unsupported "internal:collect") Q E { s with heap := (s.heap.push (seqObj "list" #[] 0)).update s.heap.objs.size (Obj.mapSeq (· ++ vs.toArray)) }
  refine wpAny_bind (wpAny_load (get?_update_seq (Heap.get?_push_size _ rfl) _) ?_)
  show wpAny _ _ (pure ((#[] : Array Value) ++ vs.toArray).toList) Q E _
  rw [show ((#[] : Array Value) ++ vs.toArray).toList = vs by simp]
  exact wpAny_pure h
end
end PyProof.Rows
namespace L2
open PySem PySem.Spec PyProof.Rows
end L2
namespace VG
open PySem PySem.Spec PyProof.Rows L2
end VG
namespace VG
open PySem PySem.Spec PyProof.Rows L2 FR
/-- a tuple of the run, its object told: no dict of its own -/
def TupO (H : Hp) (p : Addr) (xs : List V) : Prop := ∃ ob : Obj, H p = some (.frz ob (.tup xs)) ∧ ob.cls = .type "tuple" ∧ ob.dict = none
theorem TupO.seq {K : PySem.W.Frag} {H : Hp} {p : Addr} {xs : List V} (t : TupO H p xs) : SqT K H p xs :=
  let ⟨ob, e, _, _⟩ := t
  .inl (.inr ⟨ob, e⟩)
theorem TupO.mono {H H' : Hp} {p : Addr} {xs : List V} (t : TupO H p xs) (e : Same H H') : TupO H' p xs :=
  let ⟨ob, e1, e2, e3⟩ := t
  ⟨ob, e _ _ e1, e2, e3⟩
end VG
namespace CK
open PySem PySem.Spec PyProof.Rows L2 VG FR HD
end CK
namespace CK
open PySem PySem.Spec PyProof.Rows L2 VG FR HD
theorem pw_of_asc : ∀ {l : List Int}, Asc l → l.Pairwise (· < ·)
  | [], _ => List.Pairwise.nil
  | [a], _ => List.pairwise_singleton _ _
  | a :: b :: r, h => by
    have h : a < b ∧ Asc (b :: r) := h
    have ih := pw_of_asc h.2
    refine List.Pairwise.cons (fun z hz => ?_) ih
    rcases List.mem_cons.mp hz with e | m
    · rw [e]
      exact h.1
    · have := (List.pairwise_cons.mp ih).1 z m
      omega
end CK
namespace CK
open PySem PySem.Spec PyProof.Rows L2 VG FR HD
/-- totals by new numbers -/
structure RenR (ps : List Int) (ts rs : List (List Int)) : Prop where
  len : rs.length = ts.length
  rel : ∀ (j : Nat) c r, ts[j]? = some c → rs[j]? = some r → (∀ x : Int, x ∈ r ↔ ∃ k ∈ c, ps[k.toNat]? = some x) ∧ r.Pairwise (· < ·)
theorem ascI_uniq {a b : List Int} (ha : a.Pairwise (· < ·)) (hb : b.Pairwise (· < ·)) (h : ∀ x, x ∈ a ↔ x ∈ b) : a = b := by
  have na : a.Nodup := ha.imp fun z => by omega
  have nb : b.Nodup := hb.imp fun z => by omega
  exact List.Perm.eq_of_pairwise (le := fun a b : Int => a ≤ b) (fun a b _ _ h1 h2 => by omega) (ha.imp fun z => by omega) (hb.imp fun z => by omega) ((List.perm_ext_iff_of_nodup na nb).mpr h)
theorem RenR.uniq {ps : List Int} {ts rs qs : List (List Int)} (h1 : RenR ps ts rs) (h2 : RenR ps ts qs) : rs = qs := by
  refine List.ext_getElem? fun j => ?_
  by_cases lt : j < ts.length
  · have l1 := h1.len
    have l2 := h2.len
    have e1 : ts[j]? = some ts[j] := List.getElem?_eq_getElem lt
    have e2 : rs[j]? = some rs[j] := List.getElem?_eq_getElem (by omega)
    have e3 : qs[j]? = some qs[j] := List.getElem?_eq_getElem (by omega)
    obtain ⟨a1, a2⟩ := h1.rel j _ _ e1 e2
    obtain ⟨b1, b2⟩ := h2.rel j _ _ e1 e3
    rw [e2, e3, ascI_uniq a2 b2 fun x => (a1 x).trans (b1 x).symm]
  · have l1 := h1.len
    have l2 := h2.len
    rw [List.getElem?_eq_none (by omega), List.getElem?_eq_none (by omega)]
def strD : PyData → Str
  | .str z => z
  | _ => Str.empty
def strsD : PyData → List Str
  | .tuple ds => ds.map strD
  | _ => []
def renB (n : Nat) (d : PyData) : Bool := tupD n d && namesD d && decide (strsD d).Nodup
end CK
namespace CK
open PySem PySem.Spec PyProof.Rows L2 VG FR HD
/-- found classes and kinds' numbers while they grow: H is the heap of before -/
def FndW (H H' : Hp) (F N : Addr) (fs : List Addr) (bs : List (List Int)) (ns : List V) : Prop := Same H H' ∧ H' F = some (.lst (fs.map V.ref)) ∧ Blk H' fs bs ∧ H' N = some (.lst ns) ∧ fs.Nodup ∧ ∀ t ∈ fs, t ≠ F ∧ t ≠ N ∧ H t = none
theorem FndW.same {H H1 H2 : Hp} {F N : Addr} {fs : List Addr} {bs : List (List Int)} {ns : List V} (h : FndW H H1 F N fs bs ns) (s : Same H1 H2) : FndW H H2 F N fs bs ns :=
  ⟨h.1.trans s, s _ _ h.2.1, Blk.imp (fun t _ o k => s t o k) h.2.2.1, s _ _ h.2.2.2.1, h.2.2.2.2⟩
theorem FndW.add {H H6 : Hp} {F N T : Addr} {fs : List Addr} {bs : List (List Int)} {ns : List V} (h : FndW H H6 F N fs bs ns) (nF : H F = none) (nFN : F ≠ N) (nT : H6 T = none) :
    FndW H (L2.upd (L2.upd H6 T (.lst [])) F (.lst (fs.map V.ref ++ [.ref T]))) F N (fs ++ [T]) (bs ++ [[]]) ns := by
  obtain ⟨sm, eF, bF, eN, nd, av⟩ := h
  have sT := same_upd (o := .lst []) nT
  have nTF : T ≠ F := fun z => by subst z; rw [eF] at nT; cases nT
  have nTN : T ≠ N := fun z => by subst z; rw [eN] at nT; cases nT
  have HT : H T = none := sm.free nT
  have inF : ∀ t ∈ fs, H6 t ≠ none := fun t ht => by obtain ⟨b, _, k⟩ := bF.at_ ht; rw [k]; exact Option.some_ne_none _
  refine ⟨HD.same_put (sm.trans sT) nF, by rw [upd_same, List.map_append]; rfl, ?_, ?_, ?_, fun t ht => ?_⟩
  · exact Blk.snoc (by rw [upd_ne nTF, upd_same]; rfl) (Blk.imp (fun t ht o k => by rw [upd_ne (av t ht).1]; exact sT _ _ k) bF)
  · rw [upd_ne nFN.symm]
    exact sT _ _ eN
  · exact List.nodup_append.mpr ⟨nd, by simp, fun x hx y hy e => by
      have := List.mem_singleton.mp hy
      subst this
      subst e
      exact inF x hx nT⟩
  · rcases List.mem_append.mp ht with z | z
    · exact av t z
    · rw [List.mem_singleton.mp z]
      exact ⟨nTF, nTN, HT⟩
theorem FndW.put {H H6 : Hp} {F N t : Addr} {fs : List Addr} {bs : List (List Int)} {ns : List V} {j : Nat} {b : List Int} (h : FndW H H6 F N fs bs ns) (et : fs[j]? = some t) : FndW H (L2.upd H6 t (.lst (b.map V.int))) F N fs (bs.set j b) ns := by
  obtain ⟨sm, eF, bF, eN, nd, av⟩ := h
  have a := av t (List.mem_of_getElem? et)
  exact ⟨HD.same_put sm a.2.2, by rw [upd_ne a.1.symm]; exact eF, Blk.set nd et bF, by rw [upd_ne a.2.1.symm]; exact eN, nd, av⟩
theorem FndW.num {H H6 : Hp} {F N : Addr} {fs : List Addr} {bs : List (List Int)} {ns : List V} {v : V} (h : FndW H H6 F N fs bs ns) (nN : H N = none) (nFN : F ≠ N) : FndW H (L2.upd H6 N (.lst (ns ++ [v]))) F N fs bs (ns ++ [v]) := by
  obtain ⟨sm, eF, bF, eN, nd, av⟩ := h
  exact ⟨HD.same_put sm nN, by rw [upd_ne nFN]; exact eF, Blk.imp (fun t ht o k => by rw [upd_ne (av t ht).2.1]; exact k) bF, upd_same, nd, av⟩
end CK
namespace CK
open PySem PySem.Spec PyProof.Rows L2 VG FR HD
end CK
namespace CK
open PySem PySem.Spec PyProof.Rows L2 VG FR HD
end CK
namespace CK
open PySem PySem.Spec PyProof.Rows L2 VG FR HD
/-- lists of ints, none of them D -/
def LsD (D : Addr) (H : Hp) : List V → List (List Int) → Prop
  | [], [] => True
  | v :: vs, c :: cs => (∃ t, v = .ref t ∧ t ≠ D ∧ H t = some (.lst (c.map V.int))) ∧ LsD D H vs cs
  | _, _ => False
theorem LsD.mono {D : Addr} {H H' : Hp} (e : Same H H') : ∀ {vs : List V} {cs : List (List Int)}, LsD D H vs cs → LsD D H' vs cs
  | [], [], _ => trivial
  | _ :: _, _ :: _, ⟨⟨t, e1, n, h⟩, r⟩ => ⟨⟨t, e1, n, e _ _ h⟩, r.mono e⟩
  | [], _ :: _, h => h.elim
  | _ :: _, [], h => h.elim
theorem LsD.len {D : Addr} {H : Hp} : ∀ {vs : List V} {cs : List (List Int)}, LsD D H vs cs → vs.length = cs.length
  | [], [], _ => rfl
  | _ :: _, _ :: _, h => by rw [List.length_cons, List.length_cons, h.2.len]
  | [], _ :: _, h => h.elim
  | _ :: _, [], h => h.elim
theorem LsD.snoc {D : Addr} {H : Hp} {t : Addr} {c : List Int} (n : t ≠ D) (h : H t = some (.lst (c.map V.int))) : ∀ {vs : List V} {cs : List (List Int)}, LsD D H vs cs → LsD D H (vs ++ [.ref t]) (cs ++ [c])
  | [], [], _ => ⟨⟨t, rfl, n, h⟩, trivial⟩
  | _ :: _, _ :: _, q => ⟨q.1, q.2.snoc n h⟩
  | [], _ :: _, q => q.elim
  | _ :: _, [], q => q.elim
theorem LsD.upd {D : Addr} {H : Hp} {o : HO} : ∀ {vs : List V} {cs : List (List Int)}, LsD D H vs cs → LsD D (L2.upd H D o) vs cs
  | [], [], _ => trivial
  | _ :: _, _ :: _, ⟨⟨t, e1, n, h⟩, r⟩ => ⟨⟨t, e1, n, by rw [upd_ne n]; exact h⟩, r.upd⟩
  | [], _ :: _, h => h.elim
  | _ :: _, [], h => h.elim
theorem LsD.get {D : Addr} {H : Hp} : ∀ {vs : List V} {cs : List (List Int)} {i : Nat}, LsD D H vs cs → i < cs.length → ∃ t, vs[i]? = some (.ref t) ∧ H t = some (.lst ((cs.getD i []).map V.int))
  | v :: _, _ :: _, 0, h, _ => by
    obtain ⟨t, e, _, q⟩ := h.1
    exact ⟨t, congrArg some e, q⟩
  | _ :: vs, _ :: cs, i + 1, h, l => h.2.get (i := i) (by simpa using l)
  | [], [], _, _, l => by simp at l
  | [], _ :: _, _, h, _ => h.elim
  | _ :: _, [], _, h, _ => h.elim
end CK
namespace VG
open PySem PySem.Spec PyProof.Rows L2 HT
end VG
namespace CK
open PySem PySem.Spec PyProof.Rows L2 VG FR HD
def Lv (K : PySem.W.Frag) (G : Hp) (n : Nat) (v : V) : Prop := ∃ e, Dv K G v e ∧ Gd n e ∧ shortD e ∧ ∀ ds, e = .tuple ds → ∀ x ∈ ds, shortD x
theorem Lv.mono {K : PySem.W.Frag} {G G' : Hp} {n : Nat} {v : V} (s : Same G G') (h : Lv K G n v) : Lv K G' n v := by
  obtain ⟨e, h1, h2⟩ := h
  exact ⟨e, h1.mono s, h2⟩
end CK
namespace CK
open PySem PySem.Spec PyProof.Rows L2 VG FR HD
theorem gd_dI (c : List Int) : Gd 1 (dI c) := gd_tup fun d hd => by
  obtain ⟨x, _, rfl⟩ := List.mem_map.mp hd
  exact gd_int 0 x
end CK
namespace CK
open PySem PySem.Spec PyProof.Rows L2 VG FR HD
end CK
namespace CK
open PySem PySem.Spec PyProof.Rows L2 VG FR HD
/-- a class meets a total -/
def meet (c cl : List Int) : Bool := cl.any fun k => c.contains k
theorem headI_mem {cl : List Int} (h : cl ≠ []) : headI cl ∈ cl := by
  cases cl with
  | nil => exact absurd rfl h
  | cons x r => exact List.mem_cons_self
theorem meet_head {ts : List (List Int)} {n : Nat} {c cl : List Int} {a : Nat} (hc : c ∈ ts) (ok : ∀ x ∈ c, 0 ≤ x ∧ x < (n : Int)) (ha : (classesL ts n)[a]? = some cl) : meet c cl = c.contains (headI cl) := by
  have ne := cls_ne cl (List.mem_of_getElem? ha)
  rw [Bool.eq_iff_iff]
  unfold meet
  rw [List.any_eq_true]
  constructor
  · rintro ⟨k, hk, e⟩
    have kc := List.contains_iff_mem.mp e
    obtain ⟨k0, k1⟩ := ok k kc
    obtain ⟨j, rfl⟩ := Int.eq_ofNat_of_zero_le k0
    obtain ⟨b, d, e1, e2, e3⟩ := cls_one (n := n) hc (by omega) kc
    have ab : a = b := e3 a cl ha hk
    subst ab
    exact (rec_iff hc ok ha).mp ⟨(j : Int), kc, num_of e1 e2 e3⟩
  · intro e
    exact ⟨headI cl, headI_mem ne, e⟩
/-- the classes of a total -/
def rowC (cs : List (List Int)) (c : List Int) (i : Nat) : List Int := ((List.range i).filter fun a => meet c (cs.getD a [])).map fun a => ((a : Nat) : Int)
theorem rowC_yes {cs : List (List Int)} {c cl : List Int} {i : Nat} (e : cs[i]? = some cl) (h : meet c cl = true) : rowC cs c (i + 1) = rowC cs c i ++ [(i : Int)] := by
  unfold rowC
  have g : cs.getD i [] = cl := by rw [List.getD_eq_getElem?_getD, e]; rfl
  rw [List.range_succ, List.filter_append, List.map_append]
  have e2 : [i].filter (fun a => meet c (cs.getD a [])) = [i] := by simp only [List.filter_cons, g, h, if_true, List.filter_nil]
  rw [e2]
  rfl
theorem rowC_no {cs : List (List Int)} {c cl : List Int} {i : Nat} (e : cs[i]? = some cl) (h : meet c cl = false) : rowC cs c (i + 1) = rowC cs c i := by
  unfold rowC
  have g : cs.getD i [] = cl := by rw [List.getD_eq_getElem?_getD, e]; rfl
  rw [List.range_succ, List.filter_append, List.map_append]
  have e2 : [i].filter (fun a => meet c (cs.getD a [])) = [] := by simp only [List.filter_cons, g, h, if_false, List.filter_nil, Bool.false_eq_true]
  rw [e2]
  exact List.append_nil _
theorem rowC_len (cs : List (List Int)) (c : List Int) (i : Nat) : (rowC cs c i).length ≤ i := by
  unfold rowC
  rw [List.length_map]
  exact Nat.le_trans (List.length_filter_le _ _) (by rw [List.length_range]; exact Nat.le_refl _)
theorem rowC_mem {cs : List (List Int)} {c : List Int} {x : Int} {i : Nat} : x ∈ rowC cs c i ↔ ∃ a : Nat, a < i ∧ meet c (cs.getD a []) = true ∧ x = (a : Int) := by
  unfold rowC
  rw [List.mem_map]
  constructor
  · rintro ⟨a, ha, e⟩
    obtain ⟨h1, h2⟩ := List.mem_filter.mp ha
    exact ⟨a, List.mem_range.mp h1, h2, e.symm⟩
  · rintro ⟨a, h1, h2, e⟩
    exact ⟨a, List.mem_filter.mpr ⟨List.mem_range.mpr h1, h2⟩, e.symm⟩
theorem rowC_asc (cs : List (List Int)) (c : List Int) (i : Nat) : (rowC cs c i).Pairwise (· < ·) := by
  unfold rowC
  refine List.pairwise_map.mpr ?_
  have h : (List.range i).Pairwise (· < ·) := List.pairwise_lt_range
  exact (List.Pairwise.filter _ h).imp fun z => by omega
theorem byCls_rows {ts : List (List Int)} {n : Nat} (hn : n ≤ 12) (ok : ∀ c ∈ ts, LotOk (n : Int) c) : ByCls ts n (ts.map fun c => rowC (classesL ts n) c (classesL ts n).length) := by
  have ⟨cl1, _⟩ := classes_len ts n
  refine ⟨List.length_map .., fun j c l ec el x => ?_, fun l hl => ?_⟩
  · rw [List.getElem?_map, ec] at el
    have el : rowC (classesL ts n) c (classesL ts n).length = l := Option.some.inj el
    subst el
    have hc := List.mem_of_getElem? ec
    have okc := (ok c hc).2.1
    rw [rowC_mem]
    constructor
    · rintro ⟨a, ha, hm, rfl⟩
      have e : (classesL ts n)[a]? = some (classesL ts n)[a] := List.getElem?_eq_getElem ha
      have g : (classesL ts n).getD a [] = (classesL ts n)[a] := by rw [List.getD_eq_getElem?_getD, e]; rfl
      rw [g, meet_head hc okc e] at hm
      exact (rec_iff hc okc e).mpr hm
    · rintro ⟨k, hk, e⟩
      obtain ⟨k0, k1⟩ := okc k hk
      obtain ⟨i, rfl⟩ := Int.eq_ofNat_of_zero_le k0
      obtain ⟨a, cl, e1, e2, e3⟩ := cls_one (n := n) hc (by omega) hk
      rw [num_of e1 e2 e3] at e
      injection e with e
      have la := (List.getElem?_eq_some_iff.mp e1).1
      have g : (classesL ts n).getD a [] = cl := by rw [List.getD_eq_getElem?_getD, e1]; rfl
      refine ⟨a, la, ?_, e.symm⟩
      rw [g]
      exact List.any_eq_true.mpr ⟨_, e2, List.contains_iff_mem.mpr hk⟩
  · obtain ⟨c, hc, rfl⟩ := List.mem_map.mp hl
    have := rowC_len (classesL ts n) c (classesL ts n).length
    exact ⟨by omega, rowC_asc _ _ _⟩
theorem ByCls.uniq {ts : List (List Int)} {n : Nat} {ls ms : List (List Int)} (h1 : ByCls ts n ls) (h2 : ByCls ts n ms) : ls = ms := by
  refine List.ext_getElem? fun j => ?_
  have l1 := h1.len
  have l2 := h2.len
  by_cases lt : j < ts.length
  · have e1 : ts[j]? = some ts[j] := List.getElem?_eq_getElem lt
    have e2 : ls[j]? = some ls[j] := List.getElem?_eq_getElem (by omega)
    have e3 : ms[j]? = some ms[j] := List.getElem?_eq_getElem (by omega)
    rw [e2, e3, ascI_uniq (h1.asc _ (List.mem_of_getElem? e2)).2 (h2.asc _ (List.mem_of_getElem? e3)).2 fun x => (h1.rel j _ _ e1 e2 x).trans (h2.rel j _ _ e1 e3 x).symm]
  · rw [List.getElem?_eq_none (by omega), List.getElem?_eq_none (by omega)]
end CK
namespace CK
open PySem PySem.Spec PyProof.Rows L2 VG FR HD
/-- a class by its head -/
theorem cls_sign {ts : List (List Int)} {n a : Nat} {cl : List Int} (ha : (classesL ts n)[a]? = some cl) : ∃ j : Nat, headI cl = (j : Int) ∧ j < n ∧ (sgL (fT ts) n)[a]? = some (fT ts j) ∧ fT ts j ≠ [] := by
  have hm := headI_mem (cls_ne cl (List.mem_of_getElem? ha))
  rw [classes_eq, List.getElem?_map] at ha
  obtain ⟨sg, es, rfl⟩ := Option.map_eq_some_iff.mp ha
  obtain ⟨j, h1, h2, h3⟩ := mem_pick.mp hm
  have e : fT ts j = sg := of_decide_eq_true h2
  exact ⟨j, h3, h1, by rw [e]; exact es, by rw [e]; exact sg_ne (List.mem_of_getElem? es)⟩
end CK
namespace CK
open PySem PySem.Spec PyProof.Rows L2 VG FR HD
theorem tabs_put {T : List (Addr × Str)} {H : Hp} {D : Addr} {xs : List V} {o : HO} (t : LamX.Tabs T H) (h : H D = some (.lst xs)) : LamX.Tabs T (L2.upd H D o) := fun p hp => by
  obtain ⟨ps, h1, h2, h3⟩ := t p hp
  refine ⟨ps, ?_, h2, fun pos cv hc => ?_⟩
  · rw [upd_ne (fun z => by rw [z, h] at h1; cases h1)]
    exact h1
  · obtain ⟨c, e1, e2⟩ := h3 pos cv hc
    refine ⟨c, e1, ?_⟩
    rw [upd_ne (fun z => by rw [z, h] at e2; cases e2)]
    exact e2
/-- what once becomes -/
def OnceOf (L : List (List Int)) (os : List (List Int)) : Prop := LexAsc os ∧ ∀ c, c ∈ os ↔ c ∈ L ∧ c ≠ []
theorem OnceOf.skip {L os : List (List Int)} {c : List Int} (h : OnceOf L os) (e : c = [] ∨ c ∈ os) : OnceOf (L ++ [c]) os := by
  refine ⟨h.1, fun x => ?_⟩
  rw [h.2 x, List.mem_append]
  constructor
  · intro ⟨a, b⟩
    exact ⟨.inl a, b⟩
  · rintro ⟨a | a, b⟩
    · exact ⟨a, b⟩
    · have := List.mem_singleton.mp a
      subst this
      rcases e with e | e
      · exact absurd e b
      · exact (h.2 x).mp e
theorem OnceOf.add {L os : List (List Int)} {c : List Int} (h : OnceOf L os) (up : ∀ x ∈ L, TU.lexI c x = false) (n : c ≠ []) (no : c ∉ os) : OnceOf (L ++ [c]) (os ++ [c]) := by
  refine ⟨List.pairwise_append.mpr ⟨h.1, List.pairwise_singleton _ _, fun a ha b hb => ?_⟩, fun x => ?_⟩
  · have := List.mem_singleton.mp hb
    subst this
    cases q : TU.lexI a b with
    | true => rfl
    | false => exact absurd ((TU.lexI_total a b q (up a ((h.2 a).mp ha).1)) ▸ ha) no
  · rw [List.mem_append, List.mem_append, h.2 x]
    constructor
    · rintro (⟨a, b⟩ | a)
      · exact ⟨.inl a, b⟩
      · exact ⟨.inr a, by rw [List.mem_singleton.mp a]; exact n⟩
    · rintro ⟨a | a, b⟩
      · exact .inl ⟨a, b⟩
      · exact .inr a
end CK
namespace CK
open PySem PySem.Spec PyProof.Rows L2 VG FR HD
noncomputable def GB (p q : Addr) (H : Hp) : Hp := offT (frz p q H)
theorem gb_at {p q b : Addr} {H : Hp} {o : HO} (h : H b = some o) (n : b ≠ p ∧ b ≠ q) (nt : ∀ ps, o ≠ .tbl ps) : GB p q H b = some o := by
  unfold GB offT
  rw [frz_at h n]
  cases o <;> first | rfl | exact absurd rfl (nt _)
theorem gb_same (p q : Addr) (H : Hp) : Same (GB p q H) H := (offT_same _).trans frz_le
theorem gb_cases {p q b : Addr} {H : Hp} {o : HO} (h : GB p q H b = some o) : b ≠ p ∧ b ≠ q ∧ H b = some o ∧ ∀ ps, o ≠ .tbl ps := by
  have h1 := offT_same _ _ _ h
  have h2 := frz_cases h1
  exact ⟨h2.1, h2.2.1, h2.2.2, fun ps z => offT_no _ b ps (by rw [← z]; exact h)⟩
theorem gb_le {p q : Addr} {G H : Hp} (nG : NoTbl G) (gp : G p = none) (gq : G q = none) (s : Same G H) : Same G (GB p q H) := fun b o h =>
  gb_at (s _ _ h) ⟨(fun z => by rw [z, gp] at h; cases h), (fun z => by rw [z, gq] at h; cases h)⟩ fun ps z => nG b ps (by rw [← z]; exact h)
def OnT (T : List (Addr × Str)) (p q : Addr) (G H : Hp) : Prop := On p q G H ∧ LamX.Tabs T H ∧ NoTbl G
section
variable {T : List (Addr × Str)} {p q : Addr} {G H H' : Hp}
theorem OnT.start (h : Hd p q H) (t : LamX.Tabs T H) : OnT T p q (GB p q H) H := ⟨⟨h, gb_same p q H, by
  cases e : GB p q H p with
  | none => rfl
  | some o => exact absurd rfl (gb_cases e).1, by
  cases e : GB p q H q with
  | none => rfl
  | some o => exact absurd rfl (gb_cases e).2.1⟩, t, offT_no _⟩
theorem OnT.hd (h : OnT T p q G H) : Hd p q H := h.1.hd
theorem OnT.le (h : OnT T p q G H) : Same G H := h.1.le
theorem OnT.base (h : OnT T p q G H) : OnT T p q (GB p q H) H ∧ Same G (GB p q H) := ⟨.start h.hd h.2.1, gb_le h.2.2 h.1.2.2.1 h.1.2.2.2 h.le⟩
theorem OnT.drop {G0 : Hp} (h : OnT T p q G H) (s : Same G0 G) (n : NoTbl G0) : OnT T p q G0 H := ⟨h.1.drop s, h.2.1, n⟩
theorem OnT.same (h : OnT T p q G H) (s : Same H H') : OnT T p q G H' := ⟨h.1.same s, tabs_same h.2.1 s, h.2.2⟩
theorem OnT.new (h : OnT T p q G H) {n : Addr} {o : HO} (hn : H n = none) : OnT T p q G (L2.upd H n o) := h.same (same_upd hn)
theorem OnT.draw (h : OnT T p q G H) (hd : Hd p q H') (k : Keep p q H H') : OnT T p q G H' := by
  refine ⟨h.1.draw hd k, fun x hx => ?_, h.2.2⟩
  obtain ⟨ps, h1, h2, h3⟩ := h.2.1 x hx
  obtain ⟨cs, st, e1, e2, _⟩ := h.hd
  refine ⟨ps, k _ _ (fun z => by rw [z, e1] at h1; cases h1) (fun z => by rw [z, e2] at h1; cases h1) h1, h2, fun pos cv hc => ?_⟩
  obtain ⟨c, e3, e4⟩ := h3 pos cv hc
  exact ⟨c, e3, k _ _ (fun z => by rw [z, e1] at e4; cases e4) (fun z => by rw [z, e2] at e4; cases e4) e4⟩
theorem OnT.put (h : OnT T p q G H) {D : Addr} {xs : List V} {o : HO} (hD : H D = some (.lst xs)) (f : D ≠ p ∧ D ≠ q ∧ G D = none) : OnT T p q G (L2.upd H D o) := ⟨h.1.put f, tabs_put h.2.1 hD, h.2.2⟩
theorem OnT.free (h : OnT T p q G H) {n : Addr} (hn : H n = none) : n ≠ p ∧ n ≠ q ∧ G n = none := h.1.free hn
end
/-- a value that is no lot below n -/
def Wr (K : PySem.W.Frag) (n : Int) (H : Hp) (v : V) : Prop := ∃ d, Ov K H v d ∧ lotD n d = false ∧ shortD d
theorem Wr.mono {K : PySem.W.Frag} {n : Int} {H H' : Hp} {v : V} (s : Same H H') (h : Wr K n H v) : Wr K n H' v := let ⟨d, a, b, c⟩ := h; ⟨d, a.mono s, b, c⟩
end CK
namespace CK
open PySem PySem.Spec PyProof.Rows L2 VG FR HD
theorem cut_init (ys : List V) (x : V) : cutV (ys ++ [x]) none (some (-1)) = ys := by
  unfold cutV
  have e : HT.sIx (ys ++ [x]).length (ys ++ [x]).length (some (-1)) = ys.length := by
    show (if (-1 : Int) < 0 then ((-1 : Int) + ((ys ++ [x]).length : Int)).toNat else min (-1 : Int).toNat (ys ++ [x]).length) = ys.length
    rw [if_pos (by decide), List.length_append]
    show ((-1 : Int) + ((ys.length + 1 : Nat) : Int)).toNat = ys.length
    omega
  rw [e, HT.sIx_none]
  show (List.drop 0 (ys ++ [x])).take (ys.length - 0) = ys
  rw [List.drop_zero, Nat.sub_zero, List.take_left]
/-- a value that is no tuple of n unlike names -/
def Wn (K : PySem.W.Frag) (n : Nat) (H : Hp) (v : V) : Prop := ∃ d, Ov K H v d ∧ renB n d = false ∧ shortD d ∧ ∀ ds, d = .tuple ds → ∀ x ∈ ds, shortS x
theorem Wn.mono {K : PySem.W.Frag} {n : Nat} {H H' : Hp} {v : V} (s : Same H H') (h : Wn K n H v) : Wn K n H' v := let ⟨d, a, b⟩ := h; ⟨d, a.mono s, b⟩
end CK
namespace CK
open PySem PySem.Spec PyProof.Rows L2 VG FR HD
def litI : List Int → TA
  | [] => tNil
  | c :: cs => tCons (tC (.int c)) (litI cs)
def litS : List Str → TA
  | [] => tNil
  | c :: cs => tCons (tC (.str c)) (litS cs)
def litT : List (List Int) → TA
  | [] => tNil
  | c :: cs => tCons (tTup (litI c)) (litT cs)
theorem litI_at : ∀ (cs : List Int) (σ : L2.St) (H : Hp) (R : List V → Hp → Prop), R (cs.map V.int) H → litI cs σ H R
  | [], _, _, _, h => h
  | c :: cs, σ, H, R, h => litI_at cs σ H (fun xs H2 => R (.int c :: xs) H2) h
theorem litS_at : ∀ (cs : List Str) (σ : L2.St) (H : Hp) (R : List V → Hp → Prop), R (cs.map V.str) H → litS cs σ H R
  | [], _, _, _, h => h
  | c :: cs, σ, H, R, h => litS_at cs σ H (fun xs H2 => R (.str c :: xs) H2) h
theorem lit_ints {cs : List Int} {σ : L2.St} {H : Hp} {Q : VK} (l : cs.length ≤ 1000) (h : ∀ H' z, Same H H' → H' z = some (.tup (cs.map V.int)) → Q (.ref z) H') : tTup (litI cs) σ H Q :=
  litI_at cs σ H _ ⟨by rw [List.length_map]; have : sizeLine = 16777216 := by decide
                       omega, fun p np => h _ p (same_upd np) upd_same⟩
theorem lit_strs {cs : List Str} {σ : L2.St} {H : Hp} {Q : VK} (l : cs.length ≤ 1000) (h : ∀ H' z, Same H H' → H' z = some (.tup (cs.map V.str)) → Q (.ref z) H') : tTup (litS cs) σ H Q :=
  litS_at cs σ H _ ⟨by rw [List.length_map]; have : sizeLine = 16777216 := by decide
                       omega, fun p np => h _ p (same_upd np) upd_same⟩
theorem litT_at {K : PySem.W.Frag} : ∀ (cs : List (List Int)) (σ : L2.St) (H : Hp) (R : List V → Hp → Prop), (∀ c ∈ cs, c.length ≤ 1000) → (∀ H' xs, Same H H' → Tots K H' xs cs → R xs H') → litT cs σ H R
  | [], _, H, _, _, h => h H [] (Same.refl _) trivial
  | c :: cs, σ, H, R, l, h => lit_ints (Q := fun x H1 => litT cs σ H1 fun xs H2 => R (x :: xs) H2) (l c List.mem_cons_self) fun H1 z s1 kz => litT_at (K := K) cs σ H1 (fun xs H2 => R (.ref z :: xs) H2) (fun d hd => l d (List.mem_cons_of_mem _ hd)) fun H2 xs s2 hX => h H2 (.ref z :: xs) (s1.trans s2) ⟨⟨z, rfl, sqt (s2 _ _ kz)⟩, hX⟩
theorem lit_tots {K : PySem.W.Frag} {cs : List (List Int)} {σ : L2.St} {H : Hp} {Q : VK} (l : cs.length ≤ 1000 ∧ ∀ c ∈ cs, c.length ≤ 1000) (h : ∀ H' z xs, Same H H' → H' z = some (.tup xs) → Tots K H' xs cs → Q (.ref z) H') : tTup (litT cs) σ H Q :=
  litT_at (K := K) cs σ H _ l.2 fun H1 xs s1 hX => ⟨by rw [hX.len]; have : sizeLine = 16777216 := by decide
                                                       have := l.1; omega, fun p np => h _ p xs (s1.trans (same_upd np)) upd_same (hX.mono (same_upd np))⟩
def kE : List Str := ["bun", "cup", "jam", "pie", "tea"]
def tE : List (List Int) := [[0, 2, 4], [], [2, 4], [3], [0, 2, 4]]
theorem asc_dec : ∀ ks : List Str, (ks.zip (ks.drop 1)).all (fun p => decide (p.1.cps.toList < p.2.cps.toList)) = true → AscS ks := by
  intro ks h i a b ha hb
  have hz : (ks.zip (ks.drop 1))[i]? = some (a, b) := by
    rw [List.getElem?_zip_eq_some]
    exact ⟨ha, by rw [List.getElem?_drop, Nat.add_comm]; exact hb⟩
  exact of_decide_eq_true (List.all_eq_true.mp h _ (List.mem_of_getElem? hz))
theorem kinds_dec {ks : List Str} (h1 : 1 ≤ ks.length ∧ ks.length ≤ 12) (h2 : ks.all nmB = true) (h3 : (ks.zip (ks.drop 1)).all (fun p => decide (p.1.cps.toList < p.2.cps.toList)) = true) : KindsOk ks :=
  ⟨h1.1, h1.2, fun z hz => ok_of_B (List.all_eq_true.mp h2 z hz), asc_dec ks h3⟩
def lotB (n : Int) (c : List Int) : Bool := decide (c.length ≤ 1000) && c.all (fun x => decide (0 ≤ x ∧ x < n)) && ascB c
theorem lot_dec {n : Int} {c : List Int} (h : lotB n c = true) : LotOk n c := by
  unfold lotB at h
  rw [Bool.and_eq_true, Bool.and_eq_true] at h
  exact ⟨of_decide_eq_true h.1.1, fun x hx => of_decide_eq_true (List.all_eq_true.mp h.1.2 x hx), asc_of h.2⟩
def nE : List V := [.int 0, .non, .int 1, .int 2, .int 1]
def kF : List Str := ["a", "b"]
def kG : List Str := ["a"]
def tG : List (List Int) := [[]]
theorem okG : TabOk kG tG := ⟨kinds_dec (by decide) (by decide +kernel) (by decide +kernel), by decide, fun c hc => lot_dec (List.all_eq_true.mp (by decide +kernel : tG.all (lotB (kG.length : Int)) = true) c hc)⟩
end CK
namespace CK
open PySem PySem.Spec PyProof.Rows L2 VG FR HD
theorem Tots.set {K : PySem.W.Frag} {H : Hp} {t : Addr} {c : List Int} (ht : SqT K H t (c.map V.int)) : ∀ {xs : List V} {ts : List (List Int)} (i : Nat), Tots K H xs ts → Tots K H (xs.set i (.ref t)) (ts.set i c)
  | [], [], _, _ => trivial
  | _ :: _, _ :: _, 0, h => ⟨⟨t, rfl, ht⟩, h.2⟩
  | _ :: xs, _ :: ts, i + 1, h => ⟨h.1, Tots.set ht (xs := xs) (ts := ts) i h.2⟩
/-- rows that are drawn: R lists them -/
def RowsW (p q : Addr) (G H : Hp) (R : Addr) (rs : List Addr) (bs : List (List Int)) : Prop := On p q G H ∧ H R = some (.lst (rs.map V.ref)) ∧ Blk H rs bs ∧ ∀ t ∈ rs, t ≠ p ∧ t ≠ q ∧ t ≠ R
theorem RowsW.draw {p q : Addr} {G H H' : Hp} {R : Addr} {rs : List Addr} {bs : List (List Int)} (h : RowsW p q G H R rs bs) (fR : R ≠ p ∧ R ≠ q) (hd : Hd p q H') (k : Keep p q H H') : RowsW p q G H' R rs bs :=
  ⟨h.1.draw hd k, k R _ fR.1 fR.2 h.2.1, Blk.imp (fun t ht o e => k t o (h.2.2.2 t ht).1 (h.2.2.2 t ht).2.1 e) h.2.2.1, h.2.2.2⟩
theorem RowsW.same {p q : Addr} {G H H' : Hp} {R : Addr} {rs : List Addr} {bs : List (List Int)} (h : RowsW p q G H R rs bs) (s : Same H H') : RowsW p q G H' R rs bs :=
  ⟨h.1.same s, s _ _ h.2.1, Blk.imp (fun t _ o e => s t o e) h.2.2.1, h.2.2.2⟩
theorem RowsW.put {p q : Addr} {G H : Hp} {R D : Addr} {o : HO} {rs : List Addr} {bs : List (List Int)} (h : RowsW p q G H R rs bs) (f : D ≠ p ∧ D ≠ q ∧ G D = none) (nR : R ≠ D) (nD : ∀ t ∈ rs, t ≠ D) : RowsW p q G (L2.upd H D o) R rs bs :=
  ⟨h.1.put f, by rw [upd_ne nR]; exact h.2.1, Blk.imp (fun t ht o e => by rw [upd_ne (nD t ht)]; exact e) h.2.2.1, h.2.2.2⟩
/-- one more row -/
theorem RowsW.add {p q : Addr} {G H : Hp} {R r : Addr} {rs : List Addr} {bs : List (List Int)} {b : List Int} (h : RowsW p q G H R rs bs) (fR : R ≠ p ∧ R ≠ q ∧ G R = none) (kr : H r = some (.lst (b.map V.int))) (nr : r ≠ p ∧ r ≠ q ∧ r ≠ R) : RowsW p q G (L2.upd H R (.lst (rs.map V.ref ++ [.ref r]))) R (rs ++ [r]) (bs ++ [b]) := by
  refine ⟨h.1.put fR, by rw [upd_same, List.map_append]; rfl, Blk.snoc (by rw [upd_ne nr.2.2]; exact kr) (Blk.imp (fun t ht o e => by rw [upd_ne (h.2.2.2 t ht).2.2]; exact e) h.2.2.1), fun t ht => ?_⟩
  rcases List.mem_append.mp ht with z | z
  · exact h.2.2.2 t z
  · rw [List.mem_singleton.mp z]
    exact nr
end CK
namespace CK
open PySem PySem.Spec PyProof.Rows L2 VG FR HD
theorem at_make {cls : Addr} {sp : Sp} {ys : List V} {E : XK} {ta : TA} {σ : L2.St} {H : Hp} {Q : VK} (h : ta σ H fun xs H1 => tMake cls sp ys E (fun _ H Q => Q xs H) σ H1 Q) : tMake cls sp ys E ta σ H Q := h
theorem at_cons {ta : TE} {tr : TA} {σ : L2.St} {H : Hp} {R : List V → Hp → Prop} (h : ta σ H fun x H1 => tr σ H1 fun xs H2 => R (x :: xs) H2) : tCons ta tr σ H R := h
theorem eqv_I1 (c : List Int) : PyData.eqv (dI c) (dI c) = true ∧ SeqAt.shaped (dI c) = true := ⟨SeqAt.eqv_refl _ (gd_dI c).1, (gd_dI c).shaped (by decide)⟩
end CK
namespace CK
open PySem PySem.Spec PyProof.Rows L2 VG FR HD M9
end CK
namespace CK
open PySem PySem.Spec PyProof.Rows L2 VG FR HD M9
end CK
namespace VG
open PySem PySem.Spec PyProof.Rows L2
/-- four keywords, turned round -/
theorem kbinds_rev4 {K : PySem.W.Frag} {x qual p1 p2 p3 p4 : Str} {st : Stmt} {f : Addr} {fd : FuncData} (F : Fun K x qual st f fd)
    (h : ∀ (kV doc pm : Value) (an : Option Addr) (cdv ct u v w z : Value) (i : Nat), bindArgs (PySem.W.fnOf x qual (defArgs st) (defBody st) (defScope st) .none kV doc pm an cdv ct)
      (match i with
        | 0 => ⟨[], [(p4, z), (p3, w), (p2, v), (p1, u)]⟩
        | 1 => ⟨[u], [(p4, z), (p3, w), (p2, v)]⟩
        | 2 => ⟨[u, v], [(p4, z), (p3, w)]⟩
        | 3 => ⟨[u, v, w], [(p4, z)]⟩
        | _ => ⟨[u, v, w, z], []⟩) = pure [(p1, u), (p2, v), (p3, w), (p4, z)]) :
    KBinds K fd [p1, p2, p3, p4] [p4, p3, p2, p1] (fun us ws => us ++ ws.reverse) (fun vs zs => vs ++ zs.reverse) := by
  obtain ⟨oc, od, kV, doc, pm, an, cdv, ct, osl, rfl, lk, hcd⟩ := F.ex
  constructor
  · intro s us ws _ hl
    have hl : us.length + ws.length = 4 := by
      rw [List.length_append, List.length_reverse] at hl
      exact hl
    match us, ws, hl with
    | [], [z, w, v, u], _ => exact .of_eq (h kV doc pm an cdv ct u v w z 0)
    | [u], [z, w, v], _ => exact .of_eq (h kV doc pm an cdv ct u v w z 1)
    | [u, v], [z, w], _ => exact .of_eq (h kV doc pm an cdv ct u v w z 2)
    | [u, v, w], [z], _ => exact .of_eq (h kV doc pm an cdv ct u v w z 3)
    | [u, v, w, z], [], _ => exact .of_eq (h kV doc pm an cdv ct u v w z 4)
    | [], [], hl => cases hl
    | [], [_], hl => cases hl
    | [], [_, _], hl => cases hl
    | [], [_, _, _], hl => cases hl
    | [], _ :: _ :: _ :: _ :: _ :: _, hl => simp at hl
    | [_], [], hl => cases hl
    | [_], [_], hl => cases hl
    | [_], [_, _], hl => cases hl
    | [_], _ :: _ :: _ :: _ :: _, hl => simp at hl; omega
    | [_, _], [], hl => cases hl
    | [_, _], [_], hl => cases hl
    | [_, _], _ :: _ :: _ :: _, hl => simp at hl; omega
    | [_, _, _], [], hl => cases hl
    | [_, _, _], _ :: _ :: _, hl => simp at hl; omega
    | [_, _, _, _], _ :: _, hl => simp at hl
    | _ :: _ :: _ :: _ :: _ :: _, ws, hl => simp at hl; omega
  · intro vs us zs ws r1 r2
    exact r1.append (vals_rev r2)
end VG
namespace CK
open PySem PySem.Spec PyProof.Rows L2 VG FR HD M9
/-- how a refusal is told: the line or the day, and where -/
def E9 (IL ID : Addr) (Q : VK) : XK := fun cls d H' =>
  (cls = .ref IL ∧ ∃ (dd : Addr) (v : V), d = some dd ∧ H' dd = some (.xd [("at", v)]) ∧ ∀ H2 u, Same H' H2 → H2 u = some (.tup [.str ("line" : String), v]) → Q (.ref u) H2) ∨
    (cls = .ref ID ∧ ∃ (dd : Addr) (v : V), d = some dd ∧ H' dd = some (.xd [("at", v)]) ∧ ∀ H2 u, Same H' H2 → H2 u = some (.tup [.str ("day" : String), v]) → Q (.ref u) H2)
end CK
namespace CK
open PySem PySem.Spec PyProof.Rows L2 VG FR HD M9
/-- what was heard of one -/
def HeardIs (K : PySem.W.Frag) (H : Hp) (z : Str) : Option Int → V → Prop
  | none, w => w = .non
  | some i, w => ∃ u, w = .ref u ∧ SqT K H u [.str z, .int i]
theorem HeardIs.mono {K : PySem.W.Frag} {H H' : Hp} {z : Str} (s : Same H H') : ∀ {o : Option Int} {w : V}, HeardIs K H z o w → HeardIs K H' z o w
  | none, _, h => h
  | some _, _, ⟨u, e, h⟩ => ⟨u, e, seqT s h⟩
theorem seqT_off {K : PySem.W.Frag} {H : Hp} {t : Addr} {xs : List V} (h : SqT K H t xs) : SqT K (offT H) t xs := by
  rcases h with h | h
  · rcases h with h | ⟨ob, h⟩
    · exact .inl (.inl (by unfold offT; rw [h]))
    · exact .inl (.inr ⟨ob, by unfold offT; rw [h]⟩)
  · exact .inr h
theorem offT_over {H H' : Hp} (e : LamX.ExtN H H') : Same (offT H) H' := (offT_no H).over (offT_same H) e
theorem HeardIs.ext {K : PySem.W.Frag} {H H' : Hp} {z : Str} (e : LamX.ExtN H H') : ∀ {o : Option Int} {w : V}, HeardIs K H z o w → HeardIs K H' z o w
  | none, _, h => h
  | some _, _, ⟨u, e1, h⟩ => ⟨u, e1, seqT (offT_over e) (seqT_off h)⟩
theorem HeardIs.updL {K : PySem.W.Frag} {H : Hp} {z : Str} {D : Addr} {ys zs : List V} (hD : H D = some (.lst ys)) : ∀ {o : Option Int} {w : V}, HeardIs K H z o w → HeardIs K (L2.upd H D (.lst zs)) z o w
  | none, _, h => h
  | some _, _, ⟨u, e, h⟩ => ⟨u, e, seqT_upd hD h⟩
theorem E9.line {IL ID x : Addr} {Q : VK} {i : Int} {H : Hp} (hx : H x = some (.xd [((("at" : String) : Str), .int i)])) (h : ∀ H2 u, Same H H2 → H2 u = some (.tup [.str ("line" : String), .int i]) → Q (.ref u) H2) : E9 IL ID Q (.ref IL) (some x) H := .inl ⟨rfl, x, .int i, rfl, hx, h⟩
end CK
namespace CK
open PySem PySem.Spec PyProof.Rows L2 VG FR HD M9
/-- values of which something is so -/
def AllP (K : PySem.W.Frag) (F : Hp) (P : PyData → Prop) (vs : List V) : Prop := ∀ v ∈ vs, ∃ d, Ov K F v d ∧ P d
theorem AllP.mono {K : PySem.W.Frag} {F F' : Hp} {P : PyData → Prop} {vs : List V} (s : Same F F') (h : AllP K F P vs) : AllP K F' P vs := fun v hv => by
  obtain ⟨d, a, b⟩ := h v hv
  exact ⟨d, a.mono s, b⟩
/-- pairs, the first of A, the second of B -/
def PrsIn (K : PySem.W.Frag) (H : Hp) (A B ws : List V) : Prop := ∀ w ∈ ws, ∃ z x y, w = .ref z ∧ SqT K H z [x, y] ∧ x ∈ A ∧ y ∈ B
section
variable {K : PySem.W.Frag} {H H' : Hp} {A B ws : List V}
theorem PrsIn.mono (s : Same H H') (h : PrsIn K H A B ws) : PrsIn K H' A B ws := fun w hw => by
  obtain ⟨z, x, y, e, h1, h2⟩ := h w hw
  exact ⟨z, x, y, e, seqT s h1, h2⟩
theorem PrsIn.keep {p q : Addr} (h : PrsIn K H A B ws) (hd : Hd p q H) (kp : Keep p q H H') : PrsIn K H' A B ws := fun w hw => by
  obtain ⟨z, x, y, e, h1, h2⟩ := h w hw
  exact ⟨z, x, y, e, seqTK hd kp h1, h2⟩
theorem PrsIn.updL {D : Addr} {ys zs : List V} (hD : H D = some (.lst ys)) (h : PrsIn K H A B ws) : PrsIn K (L2.upd H D (.lst zs)) A B ws := fun w hw => by
  obtain ⟨z, x, y, e, h1, h2⟩ := h w hw
  exact ⟨z, x, y, e, seqT_upd hD h1, h2⟩
theorem PrsIn.add {z : Addr} {x y : V} (h : PrsIn K H A B ws) (hz : SqT K H z [x, y]) (hx : x ∈ A) (hy : y ∈ B) : PrsIn K H A B (ws ++ [.ref z]) := fun w hw => (List.mem_append.mp hw).elim (h w) fun e => ⟨z, x, y, List.mem_singleton.mp e, hz, hx, hy⟩
end
end CK
namespace CK
open PySem PySem.Spec PyProof.Rows L2 VG FR HD M9
def lineP (r : Line) : PyData := .tuple [.int (r.1 : Int), dQ r.2.1, .int r.2.2]
theorem OvAll.take {K : PySem.W.Frag} {H : Hp} : ∀ {vs : List V} {ds : List PyData} (n : Nat), OvAll K H vs ds → OvAll K H (vs.take n) (ds.take n)
  | _, _, 0, h => by rw [List.take_zero, List.take_zero]; exact .nil
  | _, _, _ + 1, .nil => .nil
  | _, _, n + 1, .cons a r => .cons a (r.take n)
theorem OvAll.drop {K : PySem.W.Frag} {H : Hp} : ∀ {vs : List V} {ds : List PyData} (n : Nat), OvAll K H vs ds → OvAll K H (vs.drop n) (ds.drop n)
  | _, _, 0, h => h
  | _, _, _ + 1, .nil => .nil
  | _, _, n + 1, .cons a r => r.drop n
/-- days of which one item is another one of B -/
def RowsIn (K : PySem.W.Frag) (H : Hp) (xs : List V) (a : Nat) (B ws : List V) : Prop := ∀ w ∈ ws, ∃ z y, w = .ref z ∧ SqT K H z (xs.take a ++ [y] ++ xs.drop (a + 1)) ∧ y ∈ B
section
variable {K : PySem.W.Frag} {H H' : Hp} {xs B ws : List V} {a : Nat}
theorem RowsIn.mono (s : Same H H') (h : RowsIn K H xs a B ws) : RowsIn K H' xs a B ws := fun w hw => by
  obtain ⟨z, y, e, h1, h2⟩ := h w hw
  exact ⟨z, y, e, seqT s h1, h2⟩
theorem RowsIn.keep {p q : Addr} (h : RowsIn K H xs a B ws) (hd : Hd p q H) (kp : Keep p q H H') : RowsIn K H' xs a B ws := fun w hw => by
  obtain ⟨z, y, e, h1, h2⟩ := h w hw
  exact ⟨z, y, e, seqTK hd kp h1, h2⟩
theorem RowsIn.updL {D : Addr} {ys zs : List V} (hD : H D = some (.lst ys)) (h : RowsIn K H xs a B ws) : RowsIn K (L2.upd H D (.lst zs)) xs a B ws := fun w hw => by
  obtain ⟨z, y, e, h1, h2⟩ := h w hw
  exact ⟨z, y, e, seqT_upd hD h1, h2⟩
theorem RowsIn.add {z : Addr} {y : V} (h : RowsIn K H xs a B ws) (hz : SqT K H z (xs.take a ++ [y] ++ xs.drop (a + 1))) (hy : y ∈ B) : RowsIn K H xs a B (ws ++ [.ref z]) := fun w hw => (List.mem_append.mp hw).elim (h w) fun e => ⟨z, y, List.mem_singleton.mp e, hz, hy⟩
end
end CK
namespace CK
open PySem PySem.Spec PyProof.Rows L2 VG FR HD M9
end CK
namespace CK
open PySem PySem.Spec PyProof.Rows L2 VG FR HD M9
theorem seqT_ext {K : PySem.W.Frag} {F F' : Hp} (e : LamX.ExtN F F') {t : Addr} {xs : List V} (h : SqT K F t xs) : SqT K F' t xs := by
  rcases h with h | h
  · rcases h with h | ⟨ob, h⟩
    · exact .inl (.inl (e _ _ h fun _ z => by cases z))
    · exact .inl (.inr ⟨ob, e _ _ h fun _ z => by cases z⟩)
  · exact .inr h
mutual
theorem Ov.ext {K : PySem.W.Frag} {F F' : Hp} (e : LamX.ExtN F F') : ∀ {v : V} {d : PyData}, Ov K F v d → Ov K F' v d
  | _, _, .non => .non
  | _, _, .bl b => .bl b
  | _, _, .int i => .int i
  | _, _, .str x => .str x
  | _, _, .dct h => .dct (e _ _ h fun _ z => by cases z)
  | _, _, .lst h r => .lst (e _ _ h fun _ z => by cases z) (OvAll.ext e r)
  | _, _, .tup h r => .tup (seqT_ext e h) (OvAll.ext e r)
theorem OvAll.ext {K : PySem.W.Frag} {F F' : Hp} (e : LamX.ExtN F F') : ∀ {vs : List V} {ds : List PyData}, OvAll K F vs ds → OvAll K F' vs ds
  | _, _, .nil => .nil
  | _, _, .cons h r => .cons (Ov.ext e h) (OvAll.ext e r)
end
def kX : List Str := ["cup", "jam", "tea"]
def tX : List (List Int) := [[0, 1, 2], [0, 2], [1, 2]]
theorem okX : TabOk kX tX := ⟨kinds_dec (by decide) (by decide +kernel) (by decide +kernel), by decide, fun c hc => lot_dec (List.all_eq_true.mp (by decide +kernel : tX.all (lotB (kX.length : Int)) = true) c hc)⟩
theorem gd_dQ (p : Q2) : Gd 1 (dQ p) := gd_tup fun x hx => by
  simp only [List.mem_cons, List.not_mem_nil, or_false] at hx
  rcases hx with z | z <;> (rw [z]; exact gd_int 0 _)
end CK
namespace CK
open PySem PySem.Spec PyProof.Rows L2 VG FR HD M9
mutual
theorem dp_mono {K : PySem.W.Frag} {H H' : Hp} (e : Same H H') : ∀ {v : V} {d : PyData}, Dp K H v d → Dp K H' v d
  | _, _, .non => .non
  | _, _, .bl b => .bl b
  | _, _, .int i => .int i
  | _, _, .str x => .str x
  | _, _, .lst h r => .lst (e.seq h) (dp_monoAll e r)
  | _, _, .tup h r => .tup (seqT e h) (dp_monoAll e r)
theorem dp_monoAll {K : PySem.W.Frag} {H H' : Hp} (e : Same H H') : ∀ {vs : List V} {ds : List PyData}, DpAll K H vs ds → DpAll K H' vs ds
  | _, _, .nil => .nil
  | _, _, .cons h r => .cons (dp_mono e h) (dp_monoAll e r)
end
end CK
namespace CK
open PySem PySem.Spec PyProof.Rows L2 VG FR HD M9
end CK
namespace CK
open PySem PySem.Spec PyProof.Rows L2 VG FR HD M9
def LR {α : Type} (R : V → α → Prop) : List V → List α → Prop
  | [], [] => True
  | v :: vs, r :: rs => R v r ∧ LR R vs rs
  | _, _ => False
theorem LR.imp {α : Type} {R R' : V → α → Prop} (h : ∀ v r, R v r → R' v r) : ∀ {vs : List V} {rs : List α}, LR R vs rs → LR R' vs rs
  | [], [], _ => trivial
  | _ :: _, _ :: _, q => ⟨h _ _ q.1, LR.imp h q.2⟩
  | [], _ :: _, q => q.elim
  | _ :: _, [], q => q.elim
theorem LR.len {α : Type} {R : V → α → Prop} : ∀ {vs : List V} {rs : List α}, LR R vs rs → vs.length = rs.length
  | [], [], _ => rfl
  | _ :: _, _ :: _, q => by rw [List.length_cons, List.length_cons, LR.len q.2]
  | [], _ :: _, q => q.elim
  | _ :: _, [], q => q.elim
theorem LR.get {α : Type} {R : V → α → Prop} : ∀ {vs : List V} {rs : List α} {i : Nat} {v : V}, LR R vs rs → vs[i]? = some v → ∃ r, rs[i]? = some r ∧ R v r
  | [], [], _, _, _, h => by simp at h
  | a :: _, r :: _, 0, v, h, e => by
    have e1 : a = v := Option.some.inj e
    subst e1
    exact ⟨r, rfl, h.1⟩
  | _ :: vs, _ :: rs, i + 1, v, h, e => LR.get (i := i) h.2 e
  | [], _ :: _, _, _, h, _ => h.elim
  | _ :: _, [], _, _, h, _ => h.elim
theorem LR.append {α : Type} {R : V → α → Prop} : ∀ {vs : List V} {rs : List α} {ws : List V} {ss : List α}, LR R vs rs → LR R ws ss → LR R (vs ++ ws) (rs ++ ss)
  | [], [], _, _, _, q => q
  | _ :: _, _ :: _, _, _, p, q => ⟨p.1, LR.append p.2 q⟩
  | [], _ :: _, _, _, h, _ => h.elim
  | _ :: _, [], _, _, h, _ => h.elim
theorem LR.map {α β : Type} {R : V → α → Prop} {R' : V → β → Prop} {f : V → V} {g : α → β} (h : ∀ v r, R v r → R' (f v) (g r)) : ∀ {vs : List V} {rs : List α}, LR R vs rs → LR R' (vs.map f) (rs.map g)
  | [], [], _ => trivial
  | _ :: _, _ :: _, q => ⟨h _ _ q.1, LR.map h q.2⟩
  | [], _ :: _, q => q.elim
  | _ :: _, [], q => q.elim
theorem LR.take {α : Type} {R : V → α → Prop} : ∀ {vs : List V} {rs : List α} (n : Nat), LR R vs rs → LR R (vs.take n) (rs.take n)
  | _, _, 0, _ => trivial
  | [], [], _ + 1, _ => trivial
  | _ :: _, _ :: _, n + 1, q => ⟨q.1, LR.take n q.2⟩
  | [], _ :: _, _ + 1, q => q.elim
  | _ :: _, [], _ + 1, q => q.elim
abbrev Told := Nat × Q2
def TdAt (K : PySem.W.Frag) (H : Hp) (v : V) (l : Told) : Prop := ∃ t s, v = .ref t ∧ SqT K H t [.int l.1, .ref s] ∧ SqT K H s (pV l.2)
theorem TdAt.mono {K : PySem.W.Frag} {H H' : Hp} (s : Same H H') {v : V} {l : Told} (h : TdAt K H v l) : TdAt K H' v l := by
  obtain ⟨t, u, e, h1, h2⟩ := h
  exact ⟨t, u, e, seqT s h1, seqT s h2⟩
structure TdOk (m : Nat) (l : Told) : Prop where
  kind : l.1 < m
  amt : AmtOk l.2
def ToldIn (K : PySem.W.Frag) (H : Hp) (a : Addr) (m : Nat) (ls : List Told) : Prop := ∃ xs, SqT K H a xs ∧ LR (TdAt K H) xs ls ∧ ∀ l ∈ ls, TdOk m l
theorem ToldIn.mono {K : PySem.W.Frag} {H H' : Hp} (s : Same H H') {a : Addr} {m : Nat} {ls : List Told} (h : ToldIn K H a m ls) : ToldIn K H' a m ls := by
  obtain ⟨xs, h1, h2, h3⟩ := h
  exact ⟨xs, seqT s h1, h2.imp fun _ _ q => q.mono s, h3⟩
def DayT (K : PySem.W.Frag) (H : Hp) (d : Addr) (rs : List Line) : Prop := ∃ xs, SqT K H d xs ∧ Lines K H xs rs
theorem DayT.mono {K : PySem.W.Frag} {H H' : Hp} (s : Same H H') {d : Addr} {rs : List Line} (h : DayT K H d rs) : DayT K H' d rs := by
  obtain ⟨xs, h1, h2⟩ := h
  exact ⟨xs, seqT s h1, h2.mono s⟩
theorem DayT.updL {K : PySem.W.Frag} {H : Hp} {D d : Addr} {ys zs : List V} {rs : List Line} (hD : H D = some (.lst ys)) (h : DayT K H d rs) : DayT K (L2.upd H D (.lst zs)) d rs := by
  obtain ⟨xs, h1, h2⟩ := h
  exact ⟨xs, seqT_upd hD h1, Lines.updL hD h2⟩
def DayV (K : PySem.W.Frag) (H : Hp) (v : V) (rs : List Line) : Prop := ∃ d, v = .ref d ∧ DayT K H d rs
theorem DayV.mono {K : PySem.W.Frag} {H H' : Hp} (s : Same H H') {v : V} {rs : List Line} (h : DayV K H v rs) : DayV K H' v rs := by
  obtain ⟨d, e, h⟩ := h
  exact ⟨d, e, h.mono s⟩
theorem DayV.updL {K : PySem.W.Frag} {H : Hp} {D : Addr} {v : V} {ys zs : List V} {rs : List Line} (hD : H D = some (.lst ys)) (h : DayV K H v rs) : DayV K (L2.upd H D (.lst zs)) v rs := by
  obtain ⟨d, e, h⟩ := h
  exact ⟨d, e, h.updL hD⟩
abbrev KSt := List Line × List Int
def KAt (K : PySem.W.Frag) (H : Hp) (v : V) (st : KSt) : Prop := ∃ t d e, v = .ref t ∧ SqT K H t [.ref d, .ref e] ∧ DayT K H d st.1 ∧ EU K H e st.2
theorem KAt.mono {K : PySem.W.Frag} {H H' : Hp} (s : Same H H') {v : V} {st : KSt} (h : KAt K H v st) : KAt K H' v st := by
  obtain ⟨t, d, e, r, h1, h2, h3⟩ := h
  exact ⟨t, d, e, r, seqT s h1, h2.mono s, h3.mono s⟩
theorem KAt.updL {K : PySem.W.Frag} {H : Hp} {D : Addr} {v : V} {ys zs : List V} {st : KSt} (hD : H D = some (.lst ys)) (h : KAt K H v st) : KAt K (L2.upd H D (.lst zs)) v st := by
  obtain ⟨t, d, e, r, h1, h2, h3⟩ := h
  exact ⟨t, d, e, r, seqT_upd hD h1, h2.updL hD, h3.updL hD⟩
def oneK (ts : List (List Int)) (l : Told) (st : KSt) (n : Int) : List KSt := if smallU (behT ts st.2 (l.1 : Int) (lineU l.2 n)) then [(st.1 ++ [(l.1, l.2, n)], behT ts st.2 (l.1 : Int) (lineU l.2 n))] else []
structure KOk (m n : Nat) (ts : List (List Int)) (st : KSt) : Prop where
  len : st.2.length = ts.length
  near : ∀ x ∈ st.2, -DL < x ∧ x < DL
  many : st.1.length = n
  lines : ∀ r ∈ st.1, LineOk m r
theorem behT_len {ts : List (List Int)} {es : List Int} {k d : Int} (h : es.length = ts.length) : (behT ts es k d).length = ts.length := by
  unfold behT
  rw [List.length_map, List.length_zip]
  omega
theorem small_mem {es : List Int} (h : smallU es = true) : ∀ x ∈ es, -DL < x ∧ x < DL := fun x hx => of_decide_eq_true (List.all_eq_true.mp h x hx)
theorem KOk.one {m n : Nat} {ts : List (List Int)} {st : KSt} {l : Told} {z : Int} (h : KOk m n ts st) (hl : TdOk m l) (hz : z ∈ choQ l.2) : ∀ x ∈ oneK ts l st z, KOk m (n + 1) ts x := fun x hx => by
  unfold oneK at hx
  split at hx
  · rename_i hs
    rw [List.mem_singleton.mp hx]
    refine ⟨behT_len h.len, small_mem hs, by rw [List.length_append, h.many]; rfl, fun r hr => ?_⟩
    rcases List.mem_append.mp hr with q | q
    · exact h.lines r q
    · rw [List.mem_singleton.mp q]
      exact line_of hl.kind hl.amt hz
  · cases hx
def DaysT (K : PySem.W.Frag) (H : Hp) (a : Addr) (ds : List (List Line)) : Prop := ∃ xs, SqT K H a xs ∧ LR (DayV K H) xs ds
theorem DaysT.mono {K : PySem.W.Frag} {H H' : Hp} (s : Same H H') {a : Addr} {ds : List (List Line)} (h : DaysT K H a ds) : DaysT K H' a ds := by
  obtain ⟨xs, h1, h2⟩ := h
  exact ⟨xs, seqT s h1, h2.imp fun _ _ q => q.mono s⟩
end CK
namespace CK
open PySem PySem.Spec PyProof.Rows L2 VG FR HD M9
/-- a small amount -/
structure AmtS (p : Q2) : Prop where
  ok : AmtOk p
  top : p.1.natAbs ≤ 40
  bot : p.2 ≤ 6
end CK
namespace CK
open PySem PySem.Spec PyProof.Rows L2 VG FR HD M9
/-- a line of a small amount, rounded -/
structure RowS (m : Nat) (r : Line) : Prop where
  kind : r.1 < m
  amt : AmtS r.2.1
  whole : r.2.2 ∈ choQ r.2.1
theorem RowS.ok {m : Nat} {r : Line} (h : RowS m r) : LineOk m r := line_of h.kind h.amt.ok h.whole
structure TdS (m : Nat) (l : Told) : Prop where
  kind : l.1 < m
  amt : AmtS l.2
end CK
namespace VG
open PySem PySem.Spec PyProof.Rows L2
end VG
namespace CK
open PySem PySem.Spec PyProof.Rows L2 VG FR HD M9
theorem lay_map {α : Type} {f : α → PyData} {k : Nat} (h : ∀ x, (f x).canLay0 = true ∧ (f x).depth ≤ k) : ∀ l : List α, PyData.canLayAll0 (l.map f) = true ∧ PyData.depthAll (l.map f) ≤ k
  | [] => ⟨by simp [PyData.canLayAll0], by simp [PyData.depthAll]⟩
  | x :: l => by
    have ⟨a, b⟩ := h x
    have ⟨c, d⟩ := lay_map h l
    refine ⟨?_, ?_⟩
    · rw [List.map_cons, PyData.canLayAll0, a, c]
      rfl
    · rw [List.map_cons, PyData.depthAll]
      omega
end CK
namespace CK
open PySem PySem.Spec PyProof.Rows L2 VG FR HD M9
theorem cut_tail : ∀ ys : List V, cutV ys none (some (-1)) = ys.dropLast := fun ys => by
  by_cases h : ys = []
  · subst h
    rfl
  · obtain ⟨c0, c, e⟩ := snocL ys h
    subst e
    rw [cut_init, List.dropLast_concat]
theorem LR.dropLast {α : Type} {R : V → α → Prop} {vs : List V} {rs : List α} (h : LR R vs rs) : LR R vs.dropLast rs.dropLast := by
  rw [List.dropLast_eq_take, List.dropLast_eq_take, h.len]
  exact h.take _
theorem DayT.frz {K : PySem.W.Frag} {p q : Addr} {H : Hp} (hd : Hd p q H) {d : Addr} {rs : List Line} (h : DayT K H d rs) : DayT K (frz p q H) d rs := by
  obtain ⟨xs, h1, h2⟩ := h
  refine ⟨xs, seqTK hd keep_frz h1, ?_⟩
  have key : ∀ (vs : List V) (rs : List Line), Lines K H vs rs → Lines K (FR.frz p q H) vs rs := by
    intro vs
    induction vs with
    | nil =>
      intro rs h
      cases rs with
      | nil => trivial
      | cons r rs => exact h.elim
    | cons v vs ih =>
      intro rs h
      cases rs with
      | nil => exact h.elim
      | cons r rs =>
        obtain ⟨⟨t, s, e, a, b⟩, c⟩ := h
        exact ⟨⟨t, s, e, seqTK hd keep_frz a, seqTK hd keep_frz b⟩, ih rs c⟩
  exact key xs rs h2
theorem DayV.frz {K : PySem.W.Frag} {p q : Addr} {H : Hp} (hd : Hd p q H) {v : V} {rs : List Line} (h : DayV K H v rs) : DayV K (FR.frz p q H) v rs := by
  obtain ⟨d, e, h⟩ := h
  exact ⟨d, e, h.frz hd⟩
theorem DaysT.frz {K : PySem.W.Frag} {p q : Addr} {H : Hp} (hd : Hd p q H) {a : Addr} {ds : List (List Line)} (h : DaysT K H a ds) : DaysT K (FR.frz p q H) a ds := by
  obtain ⟨xs, h1, h2⟩ := h
  exact ⟨xs, seqTK hd keep_frz h1, h2.imp fun _ _ q => q.frz hd⟩
/-- told lines of small amounts -/
def SmallIn (K : PySem.W.Frag) (H : Hp) (a : Addr) (m : Nat) (ls : List Told) : Prop := ∃ xs, SqT K H a xs ∧ LR (TdAt K H) xs ls ∧ ∀ l ∈ ls, TdS m l
theorem SmallIn.mono {K : PySem.W.Frag} {H H' : Hp} (s : Same H H') {a : Addr} {m : Nat} {ls : List Told} (h : SmallIn K H a m ls) : SmallIn K H' a m ls := by
  obtain ⟨xs, h1, h2, h3⟩ := h
  exact ⟨xs, seqT s h1, h2.imp fun _ _ q => q.mono s, h3⟩
end CK
namespace CK
open PySem PySem.Spec PyProof.Rows L2 VG FR HD M9
theorem low_neg {a b : Int} (h : M2.Low a b) : M2.Low (0 - a) b := by
  obtain ⟨h1, h2⟩ := h
  refine ⟨h1, ?_⟩
  unfold M2.g at h2 ⊢
  rw [Int.zero_sub, Int.natAbs_neg]
  exact h2
end CK
namespace DS
open PySem PySem.Spec PyProof.Rows L2 VG FR CK HD M9 TU Srt
def LineIs (h : Heap) (v : Value) (l : Told) (n : Int) : Prop := ∃ (t u : Addr) (T1 T2 T3 T4 : Tok), v = .ref t ∧ h.IsTuple t #[.int (l.1 : Int) T1, .ref u, .int n T2] ∧ h.IsTuple u #[.int l.2.1 T3, .int l.2.2 T4]
inductive LinesAre (h : Heap) : List Value → List Told → List Int → Prop
  | nil : LinesAre h [] [] []
  | cons {v : Value} {vs : List Value} {l : Told} {fr : List Told} {n : Int} {ns : List Int} : LineIs h v l n → LinesAre h vs fr ns → LinesAre h (v :: vs) (l :: fr) (n :: ns)
def DayIs (h : Heap) (v : Value) (fr : List Told) (ns : List Int) : Prop := ∃ (a : Addr) (xs : Array Value), v = .ref a ∧ h.IsTuple a xs ∧ LinesAre h xs.toList fr ns
abbrev Kp (h h' : Heap) : Prop := ∀ b o, h.get? b = some o → o.cls = .type "tuple" → h'.get? b = some o
theorem tup_keeps {h h' : Heap} {a : Addr} {xs : Array Value} (k : Kp h h') (x : h.IsTuple a xs) : h'.IsTuple a xs := by
  obtain ⟨o, ho, hc, r⟩ := x
  exact ⟨o, k _ _ ho hc, hc, r⟩
theorem LineIs.keeps {h h' : Heap} (k : Kp h h') {v : Value} {l : Told} {n : Int} (x : LineIs h v l n) : LineIs h' v l n := by
  obtain ⟨t, u, T1, T2, T3, T4, e, a, b⟩ := x
  exact ⟨t, u, T1, T2, T3, T4, e, tup_keeps k a, tup_keeps k b⟩
theorem LinesAre.keeps {h h' : Heap} (k : Kp h h') : ∀ {vs : List Value} {fr : List Told} {ns : List Int}, LinesAre h vs fr ns → LinesAre h' vs fr ns
  | _, _, _, .nil => .nil
  | _, _, _, .cons a r => .cons (a.keeps k) (r.keeps k)
theorem DayIs.keeps {h h' : Heap} (k : Kp h h') {v : Value} {fr : List Told} {ns : List Int} (x : DayIs h v fr ns) : DayIs h' v fr ns := by
  obtain ⟨a, xs, e, t, r⟩ := x
  exact ⟨a, xs, e, tup_keeps k t, r.keeps k⟩
/-- the wholes, as the heap has them -/
def nth2 (h : Heap) (v : Value) : Int := match v with
  | .ref t => match h.get? t with
    | some o => match o.data with
      | .seq xs _ => match xs[2]? with
        | some (Value.int n _) => n
        | _ => 0
      | _ => 0
    | none => 0
  | _ => 0
def whOf (h : Heap) (v : Value) : List Int := match v with
  | .ref a => match h.get? a with
    | some o => match o.data with
      | .seq xs _ => xs.toList.map (nth2 h)
      | _ => []
    | none => []
  | _ => []
theorem LineIs.nth {h : Heap} {v : Value} {l : Told} {n : Int} (x : LineIs h v l n) : nth2 h v = n := by
  obtain ⟨t, u, T1, T2, T3, T4, rfl, ⟨o, ho, hc, m, hd⟩, b⟩ := x
  unfold nth2
  dsimp only
  rw [ho]
  dsimp only
  rw [hd]
  rfl
theorem LinesAre.nth {h : Heap} : ∀ {vs : List Value} {fr : List Told} {ns : List Int}, LinesAre h vs fr ns → vs.map (nth2 h) = ns
  | _, _, _, .nil => rfl
  | _, _, _, .cons a r => by rw [List.map_cons, a.nth, r.nth]
theorem DayIs.wh {h : Heap} {v : Value} {fr : List Told} {ns : List Int} (x : DayIs h v fr ns) : whOf h v = ns := by
  obtain ⟨a, xs, rfl, ⟨o, ho, hc, m, hd⟩, r⟩ := x
  unfold whOf
  dsimp only
  rw [ho]
  dsimp only
  rw [hd]
  exact r.nth
section
variable {prog : Program} {w : World} {A : Around} {E : Value → Shared → Prop} {s : Shared}
theorem amt_reads {h : Heap} {u : Addr} {p : Q2} {T3 T4 : Tok} (b : h.IsTuple u #[.int p.1 T3, .int p.2 T4]) : ∃ as, Reads h (.ref u) (dQ p) as := by
  obtain ⟨o, ho, hc, m, hd⟩ := b
  exact ⟨_, Reads.tuple ho hc hd (ReadsAll.cons (Reads.int _ _) (ReadsAll.cons (Reads.int _ _) ReadsAll.nil))⟩
theorem LineIs.reads {h : Heap} {v : Value} {l : Told} {n : Int} (x : LineIs h v l n) : ∃ as, Reads h v (lineP (l.1, l.2, n)) as := by
  obtain ⟨t, u, T1, T2, T3, T4, rfl, ⟨o, ho, hc, m, hd⟩, b⟩ := x
  obtain ⟨as, r⟩ := amt_reads b
  exact ⟨_, Reads.tuple ho hc hd (ReadsAll.cons (Reads.int _ _) (ReadsAll.cons r (ReadsAll.cons (Reads.int _ _) ReadsAll.nil)))⟩
theorem LinesAre.size {h : Heap} : ∀ {vs : List Value} {fr : List Told} {ns : List Int}, LinesAre h vs fr ns → vs.length = fr.length ∧ ns.length = fr.length
  | _, _, _, .nil => ⟨rfl, rfl⟩
  | _, _, _, .cons _ r => by
    have := r.size
    simp only [List.length_cons]
    omega
end
end DS
namespace L2
open PySem PySem.Spec PyProof.Rows VG FR CK HD M9
def whole (rs : List Line) : List Int := rs.map fun r => r.2.2
end L2
namespace CK
open PySem PySem.Spec PyProof.Rows L2 VG FR HD M9 TU
end CK
namespace CK
open PySem PySem.Spec PyProof.Rows L2 VG FR HD M9 TU
theorem TdAt.updL {K : PySem.W.Frag} {H : Hp} {D : Addr} {v : V} {ys zs : List V} {l : Told} (hD : H D = some (.lst ys)) (h : TdAt K H v l) : TdAt K (L2.upd H D (.lst zs)) v l := by
  obtain ⟨t, u, e, h1, h2⟩ := h
  exact ⟨t, u, e, seqT_upd hD h1, seqT_upd hD h2⟩
theorem LR.reverse {α : Type} {R : V → α → Prop} : ∀ {vs : List V} {rs : List α}, LR R vs rs → LR R vs.reverse rs.reverse
  | [], [], _ => trivial
  | v :: vs, r :: rs, h => by
    rw [List.reverse_cons, List.reverse_cons]
    exact (LR.reverse h.2).append (show LR R [v] [r] from ⟨h.1, trivial⟩)
  | [], _ :: _, h => h.elim
  | _ :: _, [], h => h.elim
end CK
namespace VG
open PySem PySem.Spec PyProof.Rows L2
mutual
def Nums : NestedKey → Prop
  | .num _ => True
  | .tup ks => NumsA ks
  | .none => False
  | .text _ => False
def NumsA : List NestedKey → Prop
  | [] => True
  | k :: ks => Nums k ∧ NumsA ks
end
/-- b is such a tuple, not too deep -/
def KeyA (h : Heap) (k : NestedKey) (b : Addr) : Prop := NestedIs h k (.ref b) ∧ k.depth ≤ 8 ∧ Nums k
section
variable {P : Program} {w : World} {A : Around} {E : Value → Shared → Prop} {s : Shared}
/-- a question that a value answers so, wherever it is asked -/
def Says (P : Program) (w : World) (f : Value → Sem Bool) (b : Bool) (s : Shared) (v : Value) : Prop := ∀ (A : Around) (E : Value → Shared → Prop) (Q : Bool → Shared → Prop), Q b s → wpAny (model P w) A (f v) Q E s
theorem hash_tupN {n : Nat} {a : Addr} {o : Obj} {vs : Array Value} {m : Nat} (at_ : s.heap.get? a = some o) (oc : o.cls = .type "tuple") (od : o.data = .seq vs m) (all : ∀ v ∈ vs.toList, Says P w (hashByValue n) true s v) : Says P w (hashByValue (n + 1)) true s (.ref a) := fun A E Q fin => by
  unfold hashByValue
  refine wpAny_bind (wpAny_specialOf (T := "tuple") ⟨o, at_, oc⟩ F.slot_tuple_hash.lookup ?_)
  show wpAny _ _ (seqItems? (.ref a) >>= fun _ => _) _ _ s
  refine wpAny_bind (wpAny_seqItems at_ od (wpAny_bind ?_))
  show wpAny _ _ (forIn vs (none, ()) _) _ _ s
  rw [← Array.forIn_toList]
  refine wpAny_forIn_list _ (fun left r z => r.1 = none ∧ z = s ∧ ∀ v ∈ left, Says P w (hashByValue n) true s v) _ (fun v left r z got => ?_) (fun r z got => ?_) _ _ ⟨rfl, rfl, all⟩
  · obtain ⟨_, rfl, each⟩ := got
    refine wpAny_bind (each v List.mem_cons_self _ _ _ ?_)
    simp only [Bool.not_true, Bool.false_eq_true, if_false]
    exact wpAny_pure ⟨rfl, rfl, fun u m => each u (List.mem_cons_of_mem _ m)⟩
  · obtain ⟨r1, r2⟩ := r
    obtain ⟨z1, rfl, _⟩ := got
    simp only at z1
    subst z1
    exact wpAny_pure fin
theorem class_tupN {n : Nat} {a : Addr} {o : Obj} {vs : Array Value} {m : Nat} (at_ : s.heap.get? a = some o) (oc : o.cls = .type "tuple") (od : o.data = .seq vs m) (all : ∀ v ∈ vs.toList, Says P w (ofAClassStatement n) false s v) : Says P w (ofAClassStatement (n + 1)) false s (.ref a) := fun A E Q fin => by
  unfold ofAClassStatement
  refine wpAny_bind (wpAny_typeOf (T := "tuple") ⟨o, at_, oc⟩ ?_)
  dsimp only
  simp only [show (("tuple" : String) == "tuple") = true from by decide, if_true, Bool.not_true, Bool.false_eq_true, if_false]
  try refine wpAny_bind (wpAny_pure ?_)
  try simp only [Bool.not_true, Bool.false_eq_true, if_false]
  show wpAny _ _ (seqItems? (.ref a) >>= fun _ => _) _ _ s
  refine wpAny_bind (wpAny_seqItems at_ od ?_)
  dsimp only
  refine wpAny_bind ?_
  show wpAny _ _ (forIn vs (none, ()) _) _ _ s
  rw [← Array.forIn_toList]
  refine wpAny_forIn_list _ (fun left r z => r.1 = none ∧ z = s ∧ ∀ v ∈ left, Says P w (ofAClassStatement n) false s v) _ (fun v left r z got => ?_) (fun r z got => ?_) _ _ ⟨rfl, rfl, all⟩
  · obtain ⟨_, rfl, each⟩ := got
    refine wpAny_bind (each v List.mem_cons_self _ _ _ ?_)
    simp only [Bool.false_eq_true, if_false]
    exact wpAny_pure ⟨rfl, rfl, fun u m => each u (List.mem_cons_of_mem _ m)⟩
  · obtain ⟨r1, r2⟩ := r
    obtain ⟨z1, rfl, _⟩ := got
    simp only at z1
    subst z1
    exact wpAny_pure fin
theorem hash_val {n : Nat} {v : Value} (h : hashByValue n v = pure true) : Says P w (hashByValue n) true s v := fun A E Q fin => by
  rw [h]
  exact wpAny_pure fin
theorem class_val {n : Nat} {v : Value} (h : ofAClassStatement n v = pure false) : Says P w (ofAClassStatement n) false s v := fun A E Q fin => by
  rw [h]
  exact wpAny_pure fin
mutual
theorem says_hash : ∀ (k : NestedKey) (v : Value) (n : Nat), NestedIs s.heap k v → k.depth ≤ n → Nums k → Says P w (hashByValue n) true s v
  | .num i, _, n, x, _, _ => by cases x <;> exact hash_val (by cases n <;> rfl)
  | .tup ks, _, n, x, d, nm => by
    cases x with
    | tup a1 a2 a3 a4 =>
      simp only [NestedKey.depth] at d
      cases n with
      | zero => omega
      | succ n => exact hash_tupN a1 a2 a3 (says_hashes ks _ n a4 (by omega) nm)
theorem says_hashes : ∀ (ks : List NestedKey) (vs : List Value) (n : Nat), NestedAll s.heap ks vs → NestedKey.depthAll ks ≤ n → NumsA ks → ∀ v ∈ vs, Says P w (hashByValue n) true s v
  | [], _, n, x, _, _, v, m => by cases x; cases m
  | k :: ks, _, n, x, d, nm, v, m => by
    cases x with
    | cons x1 x2 =>
      simp only [NestedKey.depthAll] at d
      rcases List.mem_cons.mp m with e | m
      · rw [e]; exact says_hash k _ n x1 (by omega) nm.1
      · exact says_hashes ks _ n x2 (by omega) nm.2 v m
end
mutual
theorem says_class : ∀ (k : NestedKey) (v : Value) (n : Nat), NestedIs s.heap k v → k.depth ≤ n → Nums k → Says P w (ofAClassStatement n) false s v
  | .num i, _, n, x, _, _ => by cases x <;> exact class_val (by cases n <;> rfl)
  | .tup ks, _, n, x, d, nm => by
    cases x with
    | tup a1 a2 a3 a4 =>
      simp only [NestedKey.depth] at d
      cases n with
      | zero => omega
      | succ n => exact class_tupN a1 a2 a3 (says_classes ks _ n a4 (by omega) nm)
theorem says_classes : ∀ (ks : List NestedKey) (vs : List Value) (n : Nat), NestedAll s.heap ks vs → NestedKey.depthAll ks ≤ n → NumsA ks → ∀ v ∈ vs, Says P w (ofAClassStatement n) false s v
  | [], _, n, x, _, _, v, m => by cases x; cases m
  | k :: ks, _, n, x, d, nm, v, m => by
    cases x with
    | cons x1 x2 =>
      simp only [NestedKey.depthAll] at d
      rcases List.mem_cons.mp m with e | m
      · rw [e]; exact says_class k _ n x1 (by omega) nm.1
      · exact says_classes ks _ n x2 (by omega) nm.2 v m
end
/-- such a search shows nothing -/
theorem unseenN {k : NestedKey} {b : Addr} {Q : Bool → Shared → Prop} (x : KeyA s.heap k b) {ys : List Value} (all : ∀ y ∈ ys, ∃ k' c, y = Value.ref c ∧ KeyA s.heap k' c) (fin : Q false s) : wpAny (model P w) A (searchCouldBeSeen (.ref b) ys) Q E s := by
  unfold searchCouldBeSeen
  refine wpAny_bind ?_
  refine wpAny_forIn_list _ (fun left r z => r.1 = none ∧ z = s ∧ ∀ y ∈ left, ∃ k' c, y = Value.ref c ∧ KeyA s.heap k' c) _ (fun y left r z got => ?_) (fun r z got => ?_) _ _ ⟨rfl, rfl, all⟩
  · obtain ⟨_, rfl, each⟩ := got
    obtain ⟨k2, c, rfl, y⟩ := each y List.mem_cons_self
    have more : ∀ y ∈ left, ∃ k' c, y = Value.ref c ∧ KeyA z.heap k' c := fun u m => each u (List.mem_cons_of_mem _ m)
    dsimp only
    by_cases same : (b == c || (carriedByValue (.ref b) && carriedByValue (.ref c))) = true
    · exact wp_if_pos same (wpAny_pure ⟨rfl, rfl, more⟩)
    · refine wp_if_neg same (wpAny_bind (quiet_key _ _ 8 _ x.1 x.2.1 _ _ _ ?_))
      simp only [Bool.not_true, Bool.false_eq_true, if_false]
      refine wpAny_bind (quiet_key _ _ 8 _ y.1 y.2.1 _ _ _ ?_)
      simp only [Bool.not_true, Bool.false_eq_true, if_false]
      refine wpAny_bind (says_class _ _ 8 x.1 x.2.1 x.2.2 _ _ _ ?_)
      simp only [Bool.false_eq_true, if_false]
      refine wpAny_bind (says_class _ _ 8 y.1 y.2.1 y.2.2 _ _ _ ?_)
      simp only [Bool.false_eq_true, if_false]
      exact wpAny_pure ⟨rfl, rfl, more⟩
  · obtain ⟨r1, r2⟩ := r
    obtain ⟨z1, rfl, _⟩ := got
    simp only at z1
    subst z1
    exact wpAny_pure fin
/-- a set that holds the keys ks -/
structure NSet (w : World) (h0 h : Heap) (a : Addr) (ks : List NestedKey) (es : Array (Int × Value)) (ep : Nat) (t : SetTable) : Prop where
  ob : ∃ o, h.get? a = some o ∧ o.ExactSet ∧ o.data = .set es ep t
  size : es.size = ks.length
  tab : TabOk t (es.toList.map (·.1))
  good : ∀ r ∈ es.toList, ∃ k b, k ∈ ks ∧ r = (k.hash w, .ref b) ∧ KeyA h0 k b
  plain : t.plain = true
  led : w.params.followText "set-order" = true ∨ t.led = true
  room : es.size * 5 < t.mask * 3
variable {h0 : Heap} {a : Addr} {ks : List NestedKey} {es : Array (Int × Value)} {ep : Nat} {t : SetTable}
theorem NSet.fits {h : Heap} (N : NSet w h0 h a ks es ep t) : t.fits es.size = true := by
  have e := N.tab.sz
  have r := N.room
  rw [List.length_map, Array.length_toList] at e
  unfold SetTable.fits SetTable.fill
  rw [N.tab.dm, Bool.and_eq_true, beq_iff_eq, decide_eq_true_eq]
  show t.place.size = es.size ∧ t.place.size + 0 ≤ t.mask
  omega
theorem no_dummy (m : Nat) : ∀ (n : Nat) (p : SetTable.Probe), p.dummy = none → (nth m p n).dummy = none
  | 0, _, h => h
  | n + 1, p, h => no_dummy m n (adv m p) (by
    unfold adv
    split <;> exact h)
end
end VG
namespace VG
open PySem PySem.Spec PyProof.Rows L2
section
variable {P : Program} {w : World} {A : Around} {E : Value → Shared → Prop} {s : Shared}
theorem perm_at {α : Type} (l : List α) (p : Nat) (x : α) : (l.take p ++ x :: l.drop p).Perm (x :: l) := by
  have e : (l.take p ++ x :: l.drop p).Perm (x :: (l.take p ++ l.drop p)) := List.perm_middle
  rwa [List.take_append_drop] at e
theorem picked {α : Type} [Inhabited α] (es : Array α) {order : Array Nat} (pm : order.toList.Perm (List.range es.size)) : (order.filterMap (es[·]?)).toList = order.toList.map (fun i => es[i]!) := by
  have go : ∀ l : List Nat, (∀ i ∈ l, i < es.size) → l.filterMap (fun i => es[i]?) = l.map fun i => es[i]! := by
    intro l
    induction l with
    | nil => intro _; rfl
    | cons i l ih =>
      intro h
      have hi := h i List.mem_cons_self
      rw [List.filterMap_cons_some (Array.getElem?_eq_getElem hi), ih fun j m => h j (List.mem_cons_of_mem _ m), List.map_cons]
      congr 1
      simp [hi]
  rw [Array.toList_filterMap]
  exact go _ fun i m => List.mem_range.mp (pm.mem_iff.mp m)
variable {h0 : Heap} {a : Addr} {ks : List NestedKey} {es : Array (Int × Value)} {ep : Nat} {t : SetTable}
theorem NSet.stay {h h' : Heap} (N : NSet w h0 h a ks es ep t) (own : ∀ o, h.get? a = some o → h'.get? a = some o) : NSet w h0 h' a ks es ep t := by
  obtain ⟨o, at_, r⟩ := N.ob
  exact ⟨⟨o, own o at_, r⟩, N.size, N.tab, N.good, N.plain, N.led, N.room⟩
end
end VG
namespace VG
open PySem PySem.Spec PyProof.Rows L2
end VG
namespace VG
open PySem PySem.Spec PyProof.Rows L2
section
variable {X : Cx}
/-- the keys that values are -/
inductive KeysA (h : Heap) : List NestedKey → List Value → Prop
  | nil : KeysA h [] []
  | cons {k ks b us} : KeyA h k b → KeysA h ks us → KeysA h (k :: ks) (.ref b :: us)
theorem KeysA.get {h : Heap} : ∀ {ks : List NestedKey} {us : List Value} {i : Nat} {v : Value}, KeysA h ks us → us[i]? = some v → ∃ k b, ks[i]? = some k ∧ v = .ref b ∧ KeyA h k b
  | _, _, 0, _, .cons x _, e => by
    obtain rfl := Option.some.inj e
    exact ⟨_, _, rfl, rfl, x⟩
  | _, _, i + 1, _, .cons _ t, e => t.get (i := i) (by simpa using e)
  | _, _, i, _, .nil, e => by simp at e
theorem KeysA.len {h : Heap} : ∀ {ks : List NestedKey} {us : List Value}, KeysA h ks us → us.length = ks.length
  | _, _, .nil => rfl
  | _, _, .cons _ t => congrArg (· + 1) t.len
end
end VG
namespace VG
open PySem PySem.Spec PyProof.Rows L2
abbrev NRow := NestedKey × Addr
def rowN (w : World) (p : NRow) : Int × Value := (p.1.hash w, .ref p.2)
def KeysAt (h : Heap) (L : List NRow) : Prop := ∀ p ∈ L, KeyA h p.1 p.2
/-- a set of the rows L, its own object alone -/
structure NSL (w : World) (h : Heap) (a : Addr) (L : List NRow) (es : Array (Int × Value)) (ep : Nat) (t : SetTable) : Prop where
  ob : ∃ o, h.get? a = some o ∧ o.ExactSet ∧ o.data = .set es ep t
  rows : es.toList = L.map (rowN w)
  tab : TabOk t (L.map fun p => p.1.hash w)
  nd : (L.map (·.1)).Nodup
  plain : t.plain = true
  led : w.params.followText "set-order" = true ∨ t.led = true
  room : L.length * 5 < t.mask * 3
section
variable {P : Program} {w : World} {A : Around} {E : Value → Shared → Prop} {s : Shared} {a : Addr} {L : List NRow} {es : Array (Int × Value)} {ep : Nat} {t : SetTable}
theorem NSL.size {h : Heap} (N : NSL w h a L es ep t) : es.size = L.length := by
  have e := congrArg List.length N.rows
  rwa [Array.length_toList, List.length_map] at e
theorem NSL.fits {h : Heap} (N : NSL w h a L es ep t) : t.fits es.size = true := by
  have e := N.tab.sz
  have r := N.room
  have z := N.size
  rw [List.length_map] at e
  unfold SetTable.fits SetTable.fill
  rw [N.tab.dm, Bool.and_eq_true, beq_iff_eq, decide_eq_true_eq]
  show t.place.size = es.size ∧ t.place.size + 0 ≤ t.mask
  omega
theorem NSL.row {h : Heap} (N : NSL w h a L es ep t) {i : Nat} {p : NRow} (e : L[i]? = some p) : es[i]? = some (p.1.hash w, .ref p.2) := by
  rw [← Array.getElem?_toList, N.rows, List.getElem?_map, e]
  rfl
/-- the search: there, or at an empty slot -/
theorem searchL (N : NSL w s.heap a L es ep t) (kl : KeysAt s.heap L) {x : Addr} {k : NestedKey} (key : KeyA s.heap k x) (u8 : A.units + 8 < cLine) {K : Nat} (bound : K < 10 * SetTable.turns t.mask)
    (free : way t.mask (k.hash w) K ∉ t.place.toList) (full : ∀ c, c < K → way t.mask (k.hash w) c ∈ t.place.toList) {Q : SetFound → Shared → Prop} (inn : k ∈ L.map (·.1) → Q (.there none) s) (out : k ∉ L.map (·.1) → Q (.free (way t.mask (k.hash w) K) false) s) :
    ∀ (f c : Nat) (st : Option SetTable.Probe), st.getD (t.probeStart (k.hash w)) = nth t.mask (runAt t.mask (SetTable.bits (k.hash w) % (t.mask + 1)) (SetTable.bits (k.hash w))) c → c ≤ K → K - c < f →
      (∀ (i : Nat) p, L[i]? = some p → p.1 = k → ∃ d, c ≤ d ∧ d < K ∧ t.place.toList[i]? = some (way t.mask (k.hash w) d)) → wpAny (model P w) A (setSearchFrom a (.ref x) (k.hash w) true f st) Q E s
  | 0, c, st, _, _, lt, _ => absurd lt (Nat.not_lt_zero _)
  | f + 1, c, st, e0, le, lt, ahead => by
    obtain ⟨o, at_, ex, od⟩ := N.ob
    generalize hp : runAt t.mask (SetTable.bits (k.hash w) % (t.mask + 1)) (SetTable.bits (k.hash w)) = p0 at e0
    have wy : ∀ q, way t.mask (k.hash w) q = (nth t.mask p0 q).j := fun q => by rw [← hp]
    have sh : ∀ q, nth t.mask (nth t.mask p0 c) q = nth t.mask p0 (c + q) := fun q => (nth_add t.mask c p0 q).symm
    have dn : (nth t.mask p0 c).dummy = none := no_dummy _ _ _ (by rw [← hp]; rfl)
    have hsh : ∀ (i : Nat) p, L[i]? = some p → ((es[i]?.map (·.1)).getD 0) = p.1.hash w := fun i p e => by
      rw [N.row e]
      rfl
    rw [setSearchFrom_succ]
    refine wpAny_bind (wpAny_setState_of at_ od N.fits ?_)
    dsimp only
    refine wp_if_neg (by unfold SetTable.gaveWay; rw [mask_odd N.tab.mok]; decide) ?_
    try refine wpAny_bind (wpAny_pure ?_)
    have two := go_spec t N.tab.ris N.tab.dm (fun i => (es[i]?.map (·.1)).getD 0) (k.hash w) (10 * SetTable.turns t.mask) (K - c) (nth t.mask p0 c) dn (by omega)
      (fun q lq => by rw [sh, ← wy]; exact full (c + q) (by omega)) (by rw [sh, ← wy, show c + (K - c) = K by omega]; exact free)
    rw [← e0] at two
    rcases two with ⟨q, i, lq, hi, same, no, found⟩ | ⟨no, none_⟩
    · rw [show t.probe (fun i => (es[i]?.map (·.1)).getD 0) (k.hash w) (st.getD (t.probeStart (k.hash w))) = _ from found]
      dsimp only
      rw [e0, sh] at hi
      have il : i < L.length := by
        have l1 := (List.getElem?_eq_some_iff.mp hi).1
        have l2 := N.tab.sz
        rw [List.length_map] at l2
        rw [Array.length_toList] at l1
        omega
      obtain ⟨p, ep_⟩ : ∃ p, L[i]? = some p := ⟨_, List.getElem?_eq_getElem il⟩
      have pm : p ∈ L := List.mem_of_getElem? ep_
      have rest : wpAny (model P w) A (searchRest a (.ref x) (k.hash w) true f es t (nth t.mask (st.getD (t.probeStart (k.hash w))) q).j i (nth t.mask (st.getD (t.probeStart (k.hash w))) (q + 1))) Q E s := by
        rw [e0, sh, sh]
        unfold searchRest
        rw [N.row ep_]
        dsimp only
        refine wpAny_bind (wpAny_holding ((nestedKind P w).eqBool (x := p.1) (y := k) u8 ⟨(kl p pm).1, (kl p pm).2.1⟩ ⟨key.1, key.2.1⟩ (wpAny_bind (wpAny_setState_of at_ od N.fits ?_))))
        dsimp only
        by_cases pk : p.1 = k
        · exact wp_if_pos (by simp [pk]) (wpAny_pure (inn (List.mem_map.mpr ⟨p, pm, pk⟩)))
        · refine wp_if_neg (by simp [pk]) ?_
          try refine wpAny_bind (wpAny_pure ?_)
          rw [sameMem]
          dsimp only
          have live : t.slot (nth t.mask p0 (c + q)).j = .live i := slot_live N.tab.ris hi
          simp only [if_true, live, N.row ep_]
          refine wpAny_bind (wpAny_isSame_ref_self (wpAny_bind (wpAny_pure ?_)))
          simp only [if_true]
          refine wp_if_neg (by simp [pk]) ?_
          refine searchL N kl key u8 bound free full inn out f (c + (q + 1)) _ (by rw [hp]; rfl) (by omega) (by omega) fun i2 p2 e2 k2 => ?_
          obtain ⟨d, d1, d2, d3⟩ := ahead i2 p2 e2 k2
          refine ⟨d, ?_, d2, d3⟩
          rcases Nat.lt_trichotomy d (c + q) with y | y | y
          · have no2 := no (d - c) i2 (by omega)
            rw [e0, sh, show c + (d - c) = d by omega, ← wy] at no2
            exact absurd ((hsh i2 p2 e2).trans (congrArg (NestedKey.hash w) k2)) (no2 d3)
          · exfalso
            rw [y, wy] at d3
            have l2 := slot_live N.tab.ris d3
            rw [live] at l2
            injection l2 with l2
            rw [← l2, ep_] at e2
            exact pk ((congrArg Prod.fst (Option.some.inj e2)).trans k2)
          · omega
      by_cases ld : t.led = true
      · refine wp_if_neg (by simp [ld]) ?_
        try refine wpAny_bind (wpAny_pure ?_)
        exact rest
      · refine wp_if_pos (by simp [ld]) (wpAny_bind (unseenN key (fun y m => ?_) (wp_if_neg (by decide) ?_)))
        · obtain ⟨r, mr, rfl⟩ := List.mem_map.mp m
          have mr1 : r ∈ es ∧ r.1 = k.hash w := by simpa using mr
          have mr2 : r ∈ es.toList := by simpa using mr1.1
          rw [N.rows] at mr2
          obtain ⟨p3, m3, e3⟩ := List.mem_map.mp mr2
          exact ⟨p3.1, p3.2, by rw [← e3]; rfl, kl p3 m3⟩
        · try refine wpAny_bind (wpAny_pure ?_)
          exact rest
    · rw [show t.probe (fun i => (es[i]?.map (·.1)).getD 0) (k.hash w) (st.getD (t.probeStart (k.hash w))) = _ from none_]
      dsimp only
      rw [e0, sh, ← wy, show c + (K - c) = K by omega]
      refine wpAny_pure (out fun m => ?_)
      obtain ⟨p2, m2, k2⟩ := List.mem_map.mp m
      obtain ⟨i2, hi2, e2⟩ := List.getElem_of_mem m2
      have e2' : L[i2]? = some p2 := by rw [List.getElem?_eq_getElem hi2, e2]
      obtain ⟨d, d1, d2, d3⟩ := ahead i2 p2 e2' k2
      have no2 := no (d - c) i2 (by omega)
      rw [e0, sh, show c + (d - c) = d by omega, ← wy] at no2
      exact no2 d3 ((hsh i2 p2 e2').trans (congrArg (NestedKey.hash w) k2))
theorem search_any (N : NSL w s.heap a L es ep t) (kl : KeysAt s.heap L) {x : Addr} {k : NestedKey} (key : KeyA s.heap k x) (u8 : A.units + 8 < cLine) {Q : SetFound → Shared → Prop} (inn : k ∈ L.map (·.1) → Q (.there none) s)
    (out : ∀ K, k ∉ L.map (·.1) → way t.mask (k.hash w) K ∉ t.place.toList → (∀ c, c < K → way t.mask (k.hash w) c ∈ t.place.toList) → Q (.free (way t.mask (k.hash w) K) false) s) : wpAny (model P w) A (setSearch a (.ref x) (k.hash w) true) Q E s := by
  have r := N.room
  obtain ⟨K, bound, free, full⟩ := N.tab.first (by rw [List.length_map]; omega) (k.hash w)
  have few : 10 * SetTable.turns t.mask ≤ 1420 := by
    unfold SetTable.turns
    rcases N.tab.mok with e | e | e <;> omega
  refine searchL N kl key u8 bound free full inn (fun n => out K n free full) 100000 0 none rfl (Nat.zero_le _) (by omega) fun i p e pk => ?_
  have hi : (L.map fun p => p.1.hash w)[i]? = some (k.hash w) := by rw [List.getElem?_map, e, ← pk]; rfl
  have il : i < t.place.toList.length := by
    have l1 := (List.getElem?_eq_some_iff.mp e).1
    have l2 := N.tab.sz
    rw [List.length_map] at l2
    rw [Array.length_toList]
    omega
  have hj := List.getElem?_eq_getElem il
  obtain ⟨d, d1, d2⟩ := N.tab.before free hi hj
  exact ⟨d, Nat.zero_le _, d1, by rw [hj, d2]⟩
instance : Inhabited NRow := ⟨(.none, 0)⟩
/-- laid anew, larger -/
theorem relayL {o : Obj} (at_ : s.heap.get? a = some o) (ex : o.ExactSet) (od : o.data = .set es ep t) (rows : es.toList = L.map (rowN w)) (place : t.place.size = es.size) (dm : t.dummies = #[]) (le : es.size ≤ t.mask)
    (nd : (L.map (·.1)).Nodup) (plain : t.plain = true) (led : w.params.followText "set-order" = true ∨ t.led = true) {wanted M : Nat}
    (sM : SetTable.sizeAbove wanted - 1 = M) (mok : MaskOk M) (s128 : SetTable.sizeAbove wanted ≤ 128) (room : L.length * 5 < M * 3) {Q : Unit → Shared → Prop}
    (fin : ∀ hp L' es' ep' t', Heap.SameBut a s.heap hp → NSL w hp a L' es' ep' t' → L'.Perm L → Q () { s with heap := hp }) : wpAny (model P w) A (setRelay a wanted) Q E s := by
  have fits : t.fits es.size = true := by
    unfold SetTable.fits SetTable.fill
    rw [dm, Bool.and_eq_true, beq_iff_eq, decide_eq_true_eq]
    show t.place.size = es.size ∧ t.place.size + 0 ≤ t.mask
    omega
  have esz : es.size = L.length := by
    have e := congrArg List.length rows
    rwa [Array.length_toList, List.length_map] at e
  have eM : M ≤ 127 := by rcases mok with e | e | e <;> omega
  obtain ⟨t2, order, e, pm, T, em, el, ep2, ed⟩ := relaid_ok t (hs := es.map (·.1)) (wanted := wanted) sM mok (by rw [Array.size_map]; omega)
  rw [Array.size_map] at pm
  have picks := picked es pm
  generalize hes2 : order.filterMap (es[·]?) = es2 at picks
  have ent : ∀ i, i < L.length → es[i]! = rowN w L[i]! := fun i hi => by
    have h1 : i < es.size := by omega
    have e1 : es.toList[i]? = some (rowN w L[i]) := by rw [rows, List.getElem?_map, List.getElem?_eq_getElem hi]; rfl
    have e2 : es[i]? = some (rowN w L[i]) := by rw [← Array.getElem?_toList]; exact e1
    have e3 : es[i]! = rowN w L[i] := (getElem!_pos es i h1).trans (Option.some.inj ((Array.getElem?_eq_getElem h1).symm.trans e2))
    have e4 : L[i]! = L[i] := by simp [hi]
    rw [e3, e4]
  have below : ∀ i ∈ order.toList, i < L.length := fun i m => by
    have := List.mem_range.mp (pm.mem_iff.mp m)
    omega
  have rows2 : es2.toList = (order.toList.map fun i => L[i]!).map (rowN w) := by
    rw [picks, List.map_map]
    exact List.map_congr_left fun i m => ent i (below i m)
  have pL : (order.toList.map fun i => L[i]!).Perm L := by
    have h1 : ((List.range L.length).map fun i => L[i]!) = L := by
      refine List.ext_getElem (by simp) fun i h1 h2 => ?_
      simp [h2]
    have h2 := pm.map fun i => L[i]!
    rw [esz, h1] at h2
    exact h2
  have T2 : TabOk t2 ((order.toList.map fun i => L[i]!).map fun p => p.1.hash w) := by
    rw [List.map_map]
    have e3 : (order.toList.map fun i => (es.map (·.1)).getD i 0) = order.toList.map ((fun p : NRow => p.1.hash w) ∘ fun i => L[i]!) := by
      refine List.map_congr_left fun i m => ?_
      have hi := below i m
      have h1 : i < es.size := by omega
      have e1 := ent i hi
      have e2 : es[i]! = es[i] := by simp [h1]
      show (es.map (·.1)).getD i 0 = (L[i]!).1.hash w
      have e4 : (es.map (·.1)).getD i 0 = (es[i]).1 := by simp [Array.getD_eq_getD_getElem?, h1]
      rw [e4, ← e2, e1]
      rfl
    rw [← e3]
    exact T
  generalize (order.toList.map fun i => L[i]!) = L2 at rows2 pL T2
  have sz2 : es2.size = es.size := by
    have l := congrArg List.length rows2
    rw [Array.length_toList, List.length_map, pL.length_eq] at l
    omega
  rw [setRelay_eq]
  refine wpAny_bind (wpAny_setState_of at_ od fits ?_)
  dsimp only
  refine wp_if_neg (by rw [sizeLine_eq]; omega) ?_
  try refine wpAny_bind (wpAny_pure ?_)
  rw [e]
  dsimp only
  rw [hes2]
  refine wpAny_bind (wp_if_neg (by rw [sz2]; simp) ?_)
  try refine wpAny_bind (wpAny_pure ?_)
  refine wpAny_pure ?_
  dsimp only
  refine wpAny_storeSet_of at_ od ?_ (by rw [sz2, sizeLine_eq]; omega)
  have sb : Heap.SameBut a s.heap (s.heap.update a (Obj.putSet es2 t2)) := Heap.SameBut.update ..
  exact fin _ L2 es2 (ep + 1) t2 sb ⟨⟨_, store_at at_ od, ⟨ex.1, ex.2.1, ex.2.2⟩, rfl⟩, rows2, T2, (pL.map (·.1)).nodup_iff.mpr nd, by rw [ep2]; exact plain, by rw [el]; exact led, by rw [pL.length_eq, em]; exact room⟩ pL
/-- a key put in -/
theorem addL (N : NSL w s.heap a L es ep t) (kl : KeysAt s.heap L) {x : Addr} {k : NestedKey} (key : KeyA s.heap k x) (u8 : A.units + 8 < cLine) (few : k ∉ L.map (·.1) → L.length ≤ 70) {Q : Bool → Shared → Prop}
    (fin : ∀ b hp L' es' ep' t', Heap.SameBut a s.heap hp → NSL w hp a L' es' ep' t' → (k ∈ L.map (·.1) → L' = L) → (k ∉ L.map (·.1) → L'.Perm ((k, x) :: L)) → Q b { s with heap := hp }) : wpAny (model P w) A (setAddHashed a (.ref x) (k.hash w)) Q E s := by
  obtain ⟨o, at_, ex, od⟩ := N.ob
  have nsz := N.size
  have nroom := N.room
  unfold setAddHashed
  refine wpAny_holding ?_
  rw [show (100000 : Nat) = 99999 + 1 from rfl, setAddHashedIn_succ]
  refine wpAny_bind (wpAny_setState_of at_ od N.fits ?_)
  dsimp only
  refine wp_if_neg (by simp [byScan, Value.scannable]) ?_
  try refine wpAny_bind (wpAny_pure ?_)
  refine wpAny_bind (search_any N kl key u8 (fun old => ?_) fun K new free full => ?_)
  · dsimp only
    exact wpAny_pure (fin false s.heap L es ep t (Heap.SameBut.refl a s.heap) N (fun _ => rfl) fun n => absurd old n)
  dsimp only
  refine wpAny_bind (wpAny_setState_of at_ od N.fits ?_)
  dsimp only
  obtain ⟨q1, q2, q3, q4, q5, q6, q7, q8, q9⟩ := N.tab.put free full
  have pl := q6.trans N.plain
  generalize t.put (way t.mask (k.hash w) K) = both at q1 q3 q4 q5 q6 q7 q8 q9 pl ⊢
  obtain ⟨t1, p⟩ := both
  dsimp only at q1 q3 q4 q5 q6 q7 q8 q9 pl ⊢
  subst q1
  have hsh := says_hash (P := P) (w := w) (s := s) k _ 8 key.1 key.2.1 key.2.2
  first
    | (refine wpAny_bind ?_; refine wp_if_pos pl ?_; refine hsh _ _ _ ?_)
    | refine wp_if_pos pl (wpAny_bind (hsh _ _ _ ?_))
  simp only [if_true]
  have into := SetTable.toList_insertAt es (SetTable.below t.place (way t.mask (k.hash w) K)) (k.hash w, Value.ref x)
  generalize hpp : SetTable.below t.place (way t.mask (k.hash w) K) = p at q2 q3 into ⊢
  generalize SetTable.insertAt es p (k.hash w, Value.ref x) = es1 at into ⊢
  have pm := perm_at L p (k, x)
  have rows1 : es1.toList = (L.take p ++ (k, x) :: L.drop p).map (rowN w) := by
    rw [into, N.rows, List.map_append, List.map_cons, List.map_take, List.map_drop]
    rfl
  have tab1 : TabOk t1 ((L.take p ++ (k, x) :: L.drop p).map fun p => p.1.hash w) := by
    rw [List.map_append, List.map_cons, List.map_take, List.map_drop]
    exact q3
  generalize L.take p ++ (k, x) :: L.drop p = L1 at pm rows1 tab1
  have len1 : L1.length = L.length + 1 := pm.length_eq
  have sz1 : es1.size = L.length + 1 := by
    have l := congrArg List.length rows1
    rw [Array.length_toList, List.length_map] at l
    omega
  have few1 := few new
  refine wpAny_bind (wpAny_storeSet_of at_ od ?_ (by rw [sz1, sizeLine_eq]; omega))
  have sb : Heap.SameBut a s.heap (s.heap.update a (Obj.putSet es1 t1)) := Heap.SameBut.update ..
  have at1 := store_at (es' := es1) (t' := t1) at_ od
  generalize s.heap.update a (Obj.putSet es1 t1) = h1 at sb at1 ⊢
  have nd1 : (L1.map (·.1)).Nodup := (pm.map (·.1)).nodup_iff.mpr (List.nodup_cons.mpr ⟨new, N.nd⟩)
  have led1 : w.params.followText "set-order" = true ∨ t1.led = true := by rw [q5]; exact N.led
  have fill : t1.fill = L1.length := by rw [q9, List.length_map, len1]
  by_cases fl : t1.tooFull = true
  · first
      | (refine wpAny_bind ?_; refine wp_if_pos (by simp [fl]) ?_)
      | (refine wp_if_pos (by simp [fl]) ?_; refine wpAny_bind ?_)
    have full5 : L1.length * 5 ≥ t1.mask * 3 := by
      have g := fl
      unfold SetTable.tooFull at g
      rwa [decide_eq_true_eq, fill] at g
    have place1 : t1.place.size = es1.size := by
      have g2 := tab1.sz
      rw [List.length_map] at g2
      omega
    have at_mask : (t.mask = 7 ∧ L.length = 4) ∨ (t.mask = 31 ∧ L.length = 18) := by
      rcases N.tab.mok with e | e | e
      · left; rw [q4, e] at full5; rw [e] at nroom; exact ⟨e, by omega⟩
      · right; rw [q4, e] at full5; rw [e] at nroom; exact ⟨e, by omega⟩
      · exfalso; rw [q4, e] at full5; omega
    have go : ∀ M, SetTable.sizeAbove (SetTable.grown (es.size + 1)) - 1 = M → MaskOk M → SetTable.sizeAbove (SetTable.grown (es.size + 1)) ≤ 128 → L1.length * 5 < M * 3 →
        wpAny (model P w) A (setRelay a (SetTable.grown (es.size + 1))) (fun _ z => wpAny (model P w) A (pure true) Q E z) E { s with heap := h1 } := fun M g1 g2 g3 g4 => by
      refine relayL (s := { s with heap := h1 }) (L := L1) at1 ⟨ex.1, ex.2.1, ex.2.2⟩ rfl rows1 place1 q3.dm (by rw [sz1, q4]; rcases at_mask with ⟨e, e2⟩ | ⟨e, e2⟩ <;> omega) nd1 pl led1 g1 g2 g3 g4 fun hp L2 es2 ep2 t2 sb2 N2 pm2 => ?_
      exact wpAny_pure (fin true hp L2 es2 ep2 t2 (sb.trans sb2) N2 (fun o => absurd o new) fun _ => pm2.trans pm)
    rw [← nsz] at at_mask
    rcases at_mask with ⟨_, e2⟩ | ⟨_, e2⟩
    · exact go 31 (by rw [e2, size_20]) (.inr (.inl rfl)) (by rw [e2, size_20]; decide) (by omega)
    · exact go 127 (by rw [e2, size_76]) (.inr (.inr rfl)) (by rw [e2, size_76]; decide) (by omega)
  · first
      | refine wp_if_neg (by simp [fl]) ?_
      | (refine wpAny_bind ?_; refine wp_if_neg (by simp [fl]) ?_; refine wpAny_pure ?_)
    refine wpAny_pure (fin true h1 L1 es1 (ep + 1) t1 sb ⟨⟨_, at1, ⟨ex.1, ex.2.1, ex.2.2⟩, rfl⟩, rows1, tab1, nd1, pl, led1, ?_⟩ (fun o => absurd o new) fun _ => pm)
    have g := fl
    unfold SetTable.tooFull at g
    rw [decide_eq_true_eq, fill] at g
    omega
theorem NSL.stay {h h' : Heap} (N : NSL w h a L es ep t) (own : ∀ o, h.get? a = some o → h'.get? a = some o) : NSL w h' a L es ep t := by
  obtain ⟨o, at_, r⟩ := N.ob
  exact ⟨⟨o, own o at_, r⟩, N.rows, N.tab, N.nd, N.plain, N.led, N.room⟩
end
end VG
namespace VG
open PySem PySem.Spec PyProof.Rows L2 FR
mutual
def NestV (K : PySem.W.Frag) (H : Hp) : NestedKey → V → Prop
  | .num i, v => v = .int i
  | .tup ks, v => ∃ a xs, v = .ref a ∧ SqT K H a xs ∧ NestVs K H ks xs
  | .none, _ => False
  | .text _, _ => False
def NestVs (K : PySem.W.Frag) (H : Hp) : List NestedKey → List V → Prop
  | [], [] => True
  | k :: ks, x :: xs => NestV K H k x ∧ NestVs K H ks xs
  | [], _ :: _ => False
  | _ :: _, [] => False
end
mutual
theorem NestV.mono {K : PySem.W.Frag} {H H' : Hp} (sm : Same H H') : ∀ {k : NestedKey} {v : V}, NestV K H k v → NestV K H' k v
  | .num _, _, h => h
  | .tup ks, _, h => by
    obtain ⟨a, xs, e, hs, hx⟩ := h
    exact ⟨a, xs, e, seqT sm hs, NestVs.mono sm hx⟩
  | .none, _, h => h.elim
  | .text _, _, h => h.elim
theorem NestVs.mono {K : PySem.W.Frag} {H H' : Hp} (sm : Same H H') : ∀ {ks : List NestedKey} {xs : List V}, NestVs K H ks xs → NestVs K H' ks xs
  | [], [], _ => trivial
  | _ :: _, _ :: _, h => ⟨NestV.mono sm h.1, NestVs.mono sm h.2⟩
  | [], _ :: _, h => h.elim
  | _ :: _, [], h => h.elim
end
mutual
theorem NestV.nums {K : PySem.W.Frag} {H : Hp} : ∀ {k : NestedKey} {v : V}, NestV K H k v → Nums k
  | .num _, _, _ => trivial
  | .tup ks, _, h => by
    obtain ⟨a, xs, e, hs, hx⟩ := h
    exact NestVs.nums hx
  | .none, _, h => h.elim
  | .text _, _, h => h.elim
theorem NestVs.nums {K : PySem.W.Frag} {H : Hp} : ∀ {ks : List NestedKey} {xs : List V}, NestVs K H ks xs → NumsA ks
  | [], [], _ => trivial
  | _ :: _, _ :: _, h => ⟨NestV.nums h.1, NestVs.nums h.2⟩
  | [], _ :: _, h => h.elim
  | _ :: _, [], h => h.elim
end
section
variable {X : Cx} {pins : List (Addr × Obj)} {σ : L2.St} {H : Hp} {s : Shared}
mutual
theorem nest_is (I : Inv X pins σ H s) : ∀ {k : NestedKey} {v : V} {u : Value}, NestV X.K H k v → RelV v u → NestedIs s.heap k u
  | .num i, _, _, h, r => by
    obtain rfl := h
    obtain ⟨t, rfl⟩ := r
    exact .int i t
  | .tup ks, _, _, h, r => by
    obtain ⟨a, xs, rfl, hs, hx⟩ := h
    obtain rfl := r
    obtain ⟨its, rv, ⟨o, at_, oc, n, od⟩, _⟩ := I.tuple hs
    exact .tup at_ oc od (by simpa using nest_all I hx rv)
  | .none, _, _, h, _ => h.elim
  | .text _, _, _, h, _ => h.elim
theorem nest_all (I : Inv X pins σ H s) : ∀ {ks : List NestedKey} {vs : List V} {us : List Value}, NestVs X.K H ks vs → Vals vs us → NestedAll s.heap ks us
  | [], [], _, _, .nil => .nil
  | _ :: _, _ :: _, _, h, .cons r t => .cons (nest_is I h.1 r) (nest_all I h.2 t)
  | [], _ :: _, _, h, _ => h.elim
  | _ :: _, [], _, h, _ => h.elim
end
/-- at b stands the key k -/
def NestA (K : PySem.W.Frag) (H : Hp) (p : NRow) : Prop := NestV K H p.1 (.ref p.2) ∧ p.1.depth ≤ 8
theorem NestA.mono {K : PySem.W.Frag} {H H' : Hp} (sm : Same H H') {p : NRow} (h : NestA K H p) : NestA K H' p := ⟨h.1.mono sm, h.2⟩
theorem NestA.key (I : Inv X pins σ H s) {p : NRow} (h : NestA X.K H p) : KeyA s.heap p.1 p.2 := ⟨nest_is I h.1 rfl, h.2, h.1.nums⟩
end
end VG
namespace VG
open PySem PySem.Spec PyProof.Rows L2 FR
/-- a key, the tuple that stands for it, its value -/
abbrev NEnt := NestedKey × Addr × V
def vOf : V → Value
  | .bl b => .bool b
  | .ref a => .ref a
  | _ => .none
def PlainV : V → Prop
  | .bl _ => True
  | .ref _ => True
  | _ => False
def rawN (y : NEnt) : NestedKey × Addr × Value := (y.1, y.2.1, vOf y.2.2)
def valN (ys : List NEnt) (k : NestedKey) : Option V := (ys.find? fun y => decide (y.1 = k)).map (·.2.2)
def putN (ys : List NEnt) (k : NestedKey) (b : Addr) (v : V) : List NEnt := if (valN ys k).isSome then ys.map fun y => if y.1 = k then (y.1, y.2.1, v) else y else ys ++ [(k, b, v)]
theorem mem_put {ys : List NEnt} {k : NestedKey} {b : Addr} {v : V} {y : NEnt} (h : y ∈ putN ys k b v) : y = (k, b, v) ∨ y ∈ ys ∨ ∃ z ∈ ys, z.1 = k ∧ y = (k, z.2.1, v) := by
  unfold putN at h
  split at h
  · obtain ⟨z, mz, e⟩ := List.mem_map.mp h
    by_cases q : z.1 = k
    · rw [if_pos q] at e
      exact .inr (.inr ⟨z, mz, q, by rw [← e, q]⟩)
    · rw [if_neg q] at e
      exact .inr (.inl (e ▸ mz))
  · rcases List.mem_append.mp h with m | m
    · exact .inr (.inl m)
    · exact .inl (List.mem_singleton.mp m)
theorem valN_mem {ys : List NEnt} {k : NestedKey} {v : V} (h : valN ys k = some v) : ∃ b, (k, b, v) ∈ ys := by
  unfold valN at h
  obtain ⟨y, e, rfl⟩ := Option.map_eq_some_iff.mp h
  have m := List.mem_of_find?_eq_some e
  have q := List.find?_some e
  have q2 : y.1 = k := of_decide_eq_true q
  exact ⟨y.2.1, by rw [← q2]; exact m⟩
/-- the dict's own object -/
def NDict0 (P : Program) (w : World) (h : Heap) (d : Addr) (ys : List NEnt) : Prop :=
  (∃ o es ep, h.get? d = some o ∧ o.ExactDict ∧ o.data = .dict es ep ∧ es.toList = (ys.map rawN).map (entryOfKey (nestedKind P w)) ∧ ((ys.map rawN).map (·.1)).Nodup) ∧ (d == sysModules) = false ∧ ys.length ≤ sizeLine
def NDictO (P : Program) (w : World) (d : Addr) (ys : List NEnt) : HO := .ext fun h => NDict0 P w h d ys
/-- all keys stand -/
def NKeys (K : PySem.W.Frag) (H : Hp) (ys : List NEnt) : Prop := ∀ y ∈ ys, NestA K H (y.1, y.2.1) ∧ PlainV y.2.2
theorem NKeys.mono {K : PySem.W.Frag} {H H' : Hp} (sm : Same H H') {ys : List NEnt} (h : NKeys K H ys) : NKeys K H' ys := fun y m => ⟨(h y m).1.mono sm, (h y m).2⟩
theorem NKeys.put {K : PySem.W.Frag} {H : Hp} {ys : List NEnt} {k : NestedKey} {b : Addr} {v : V} (h : NKeys K H ys) (kb : NestA K H (k, b)) (pv : PlainV v) : NKeys K H (putN ys k b v) := fun y m => by
  rcases mem_put m with e | m | ⟨z, mz, e, rfl⟩
  · rw [e]; exact ⟨kb, pv⟩
  · exact h y m
  · have := (h z mz).1
    rw [e] at this
    exact ⟨this, pv⟩
/-- all but the one at d -/
def Off (d : Addr) (H : Hp) : Hp := fun a => if a = d then none else H a
theorem off_upd (d : Addr) (H : Hp) (o : HO) : Off d (L2.upd H d o) = Off d H := by
  funext a
  unfold Off
  split
  · rfl
  · rename_i ne
    exact upd_ne ne
theorem off_mono {d : Addr} {H H' : Hp} (h : Same H H') : Same (Off d H) (Off d H') := fun a o e => by
  unfold Off at e ⊢
  split at e
  · cases e
  · rename_i ne
    rw [if_neg ne]
    exact h a o e
/-- the dict at d holds ys -/
structure KnO (P : Program) (w : World) (K : PySem.W.Frag) (H : Hp) (d : Addr) (ys : List NEnt) : Prop where
  at_ : H d = some (NDictO P w d ys)
  keys : NKeys K (Off d H) ys
/-- behind a store the dict is the new one, all else as before -/
theorem KnO.put {P : Program} {w : World} {K : PySem.W.Frag} {H : Hp} {d b : Addr} {ys : List NEnt} {k : NestedKey} {v : V} (kn : KnO P w K H d ys) (kb : NestA K (Off d H) (k, b)) (pv : PlainV v) : KnO P w K (L2.upd H d (NDictO P w d (putN ys k b v))) d (putN ys k b v) :=
  ⟨upd_same, by rw [off_upd]; exact kn.keys.put kb pv⟩
theorem KnO.new {P : Program} {w : World} {K : PySem.W.Frag} {H : Hp} {d : Addr} : KnO P w K (L2.upd H d (NDictO P w d [])) d [] := ⟨upd_same, fun y m => by cases m⟩
theorem KnO.same {P : Program} {w : World} {K : PySem.W.Frag} {H H' : Hp} {d : Addr} {ys : List NEnt} (kn : KnO P w K H d ys) (sm : Same H H') : KnO P w K H' d ys := ⟨sm _ _ kn.at_, kn.keys.mono (off_mono sm)⟩
end VG
namespace CK
open PySem PySem.Spec PyProof.Rows L2 VG FR HD M9
/-- all errors below a whole of u parts -/
def smallB (u : Int) (st : List Int) : Bool := st.all fun e => decide (-u < e ∧ e < u)
def addL (st step : List Int) : List Int := (st.zip step).map fun p => p.1 + p.2
/-- whether a state lasts, whatever comes of menus of lines, each with the steps from which one is chosen -/
def lasts (u : Int) : List (List (List (List Int))) → List Int → Bool
  | [], st => smallB u st
  | menu :: rest, st => smallB u st && menu.all fun opts => opts.any fun step => lasts u rest (addL st step)
/-- a move: which totals it changes, its part -/
abbrev Move := List Int × Int
def changesU (p u : Int) : List Int := if p = 0 then [0] else [-p, u - p]
def optsM (u : Int) (m : Move) : List (List Int) := (changesU m.2 u).map fun c => m.1.map (c * ·)
def gameM (u : Int) (A : List (List Move)) : List (List (List (List Int))) := A.map fun ms => ms.map (optsM u)
def playM (u : Int) (A : List (List Move)) (st : List Int) : Bool := lasts u (gameM u A) st
/-- what is noted: at n lines before the end, the state st -/
def keyM (n : Nat) (st : List Int) : NestedKey := .tup [.num n, .tup (st.map .num)]
theorem keyM_inj {n n' : Nat} {st st' : List Int} (h : keyM n st = keyM n' st') : n = n' ∧ st = st' := by
  simp only [keyM, NestedKey.tup.injEq, List.cons.injEq, NestedKey.num.injEq, and_true] at h
  obtain ⟨h1, h2⟩ := h
  refine ⟨by omega, ?_⟩
  exact (List.map_inj_right (fun _ _ e => by injection e)).mp h2
/-- all that is noted is so -/
def Noted (u : Int) (G : List (List Move)) (ys : List NEnt) : Prop := ∀ y ∈ ys, ∃ n st, y.1 = keyM n st ∧ n ≤ G.length ∧ y.2.2 = .bl (playM u (G.drop (G.length - n)) st)
theorem Noted.nil (u : Int) (G : List (List Move)) : Noted u G [] := fun y m => by cases m
theorem Noted.get {u : Int} {G : List (List Move)} {ys : List NEnt} (h : Noted u G ys) {n : Nat} {st : List Int} {v : V} (e : valN ys (keyM n st) = some v) : v = .bl (playM u (G.drop (G.length - n)) st) := by
  obtain ⟨b, m⟩ := valN_mem e
  obtain ⟨n2, st2, e1, _, e2⟩ := h _ m
  obtain ⟨rfl, rfl⟩ := keyM_inj e1
  exact e2
theorem Noted.put {u : Int} {G : List (List Move)} {ys : List NEnt} (h : Noted u G ys) {n : Nat} {st : List Int} {b : Addr} (le : n ≤ G.length) : Noted u G (putN ys (keyM n st) b (.bl (playM u (G.drop (G.length - n)) st))) := fun y m => by
  rcases mem_put m with e | m | ⟨z, mz, e, rfl⟩
  · rw [e]; exact ⟨n, st, rfl, le, rfl⟩
  · exact h y m
  · exact ⟨n, st, rfl, le, rfl⟩
def MoveAt (K : PySem.W.Frag) (H : Hp) (v : V) (m : Move) : Prop := ∃ t h, v = .ref t ∧ SqT K H t [.ref h, .int m.2] ∧ SqT K H h (m.1.map V.int)
theorem MoveAt.mono {K : PySem.W.Frag} {H H' : Hp} (s : Same H H') {v : V} {m : Move} (h : MoveAt K H v m) : MoveAt K H' v m := by
  obtain ⟨t, x, e, h1, h2⟩ := h
  exact ⟨t, x, e, seqT s h1, seqT s h2⟩
def MenuAt (K : PySem.W.Frag) (H : Hp) (v : V) (ms : List Move) : Prop := ∃ l xs, v = .ref l ∧ SqL K H l xs ∧ LR (MoveAt K H) xs ms
theorem seqLs {K : PySem.W.Frag} {H H' : Hp} {a : Addr} {xs : List V} (e : Same H H') (h : SqL K H a xs) : SqL K H' a xs := by
  rcases h with (h | ⟨o, h⟩) | h
  · exact .inl (.inl (e _ _ h))
  · exact .inl (.inr ⟨o, e _ _ h⟩)
  · exact .inr h
theorem MenuAt.mono {K : PySem.W.Frag} {H H' : Hp} (s : Same H H') {v : V} {ms : List Move} (h : MenuAt K H v ms) : MenuAt K H' v ms := by
  obtain ⟨l, xs, e, h1, h2⟩ := h
  exact ⟨l, xs, e, seqLs s h1, h2.imp fun _ _ q => q.mono s⟩
def AheadAt (K : PySem.W.Frag) (H : Hp) (a : Addr) (A : List (List Move)) : Prop := ∃ xs, SqL K H a xs ∧ LR (MenuAt K H) xs A
theorem AheadAt.mono {K : PySem.W.Frag} {H H' : Hp} (s : Same H H') {a : Addr} {A : List (List Move)} (h : AheadAt K H a A) : AheadAt K H' a A := by
  obtain ⟨xs, h1, h2⟩ := h
  exact ⟨xs, seqLs s h1, h2.imp fun _ _ q => q.mono s⟩
/-- hits are 0 or 1 -/
def MoveOk (u : Int) (m : Move) : Prop := (∀ x ∈ m.1, x = 0 ∨ x = 1) ∧ m.1.length ≤ 64 ∧ 0 ≤ m.2 ∧ m.2 < u
/-- what the calls want and leave: the dict d of notes, all else as before -/
structure Calls (P : Program) (w : World) (K : PySem.W.Frag) (u : Int) (G : List (List Move)) (H : Hp) (d : Addr) (ys : List NEnt) : Prop where
  kn : KnO P w K H d ys
  ok : Noted u G ys
/-- a list of states -/
def StateV (K : PySem.W.Frag) (H : Hp) (v : V) (st : List Int) : Prop := ∃ t, v = .ref t ∧ SqT K H t (st.map V.int)
def StatesAt (K : PySem.W.Frag) (H : Hp) (xs : List V) (sts : List (List Int)) : Prop := LR (StateV K H) xs sts
theorem StatesAt.mono {K : PySem.W.Frag} {H H' : Hp} (s : Same H H') {xs : List V} {sts : List (List Int)} (h : StatesAt K H xs sts) : StatesAt K H' xs sts := LR.imp (fun _ _ ⟨t, e, q⟩ => ⟨t, e, seqT s q⟩) h
theorem StatesAt.updL {K : PySem.W.Frag} {H : Hp} {D : Addr} {ys zs : List V} (hD : H D = some (.lst ys)) {xs : List V} {sts : List (List Int)} (h : StatesAt K H xs sts) : StatesAt K (L2.upd H D (.lst zs)) xs sts := LR.imp (fun _ _ ⟨t, e, q⟩ => ⟨t, e, seqT_upd hD q⟩) h
end CK
namespace CK
open PySem PySem.Spec PyProof.Rows L2 VG FR HD M9
theorem Calls.same {P : Program} {w : World} {K : PySem.W.Frag} {u : Int} {G : List (List Move)} {H H' : Hp} {d : Addr} {ys : List NEnt} (c : Calls P w K u G H d ys) (s : Same H H') : Calls P w K u G H' d ys := ⟨c.kn.same s, c.ok⟩
end CK
namespace VG
open PySem PySem.Spec PyProof.Rows L2
end VG
namespace CK
open PySem PySem.Spec PyProof.Rows L2 VG FR HD M9
theorem U_bot_dvd (a : Int) : (U a).2 ∣ DL := by
  have e := U_eq a
  have l := U_low a
  have h : (U a).2 ∣ (U a).1 * DL := ⟨a, by rw [e, Int.mul_comm]⟩
  have g : Nat.gcd (U a).1.natAbs (U a).2.natAbs = 1 := l.2
  have h2 : (U a).2.natAbs ∣ (U a).1.natAbs * DL.natAbs := by
    rw [← Int.natAbs_mul]
    exact Int.natAbs_dvd_natAbs.mpr h
  have h3 : (U a).2.natAbs ∣ DL.natAbs := Nat.Coprime.dvd_of_dvd_mul_left (Nat.coprime_comm.mp g) h2
  exact Int.natAbs_dvd_natAbs.mp h3
end CK
namespace CK
open PySem PySem.Spec PyProof.Rows L2 VG FR HD M9
def FitG (m n : Nat) : Prop := n ≤ 12 ∧ m ^ n ≤ 5000
end CK
namespace VG
open PySem PySem.Spec PyProof.Rows L2 FR
end VG
namespace CK
open PySem PySem.Spec PyProof.Rows L2 VG FR HD M9
def FrAt (K : PySem.W.Frag) (H : Hp) (v : V) (p : Q2) : Prop := ∃ t, v = .ref t ∧ SqT K H t (pV p)
theorem FrAt.mono {K : PySem.W.Frag} {H H' : Hp} (s : Same H H') {v : V} {p : Q2} (h : FrAt K H v p) : FrAt K H' v p := by
  obtain ⟨t, e, q⟩ := h
  exact ⟨t, e, seqT s q⟩
end CK
namespace CK
open PySem PySem.Spec PyProof.Rows L2 VG FR HD M9
/-- which totals a kind changes -/
def hitsOf (ts : List (List Int)) (k : Int) : List Int := ts.map fun c => if c.contains k then 1 else 0
def allMoves (ts : List (List Int)) (ns ps : List Int) : List Move := ns.flatMap fun n => ps.map fun p => (hitsOf ts n, p)
end CK
namespace CK
open PySem PySem.Spec PyProof.Rows L2 VG FR HD M9
/-- the menus have the same ways -/
inductive All2 {α β : Type} (R : α → β → Prop) : List α → List β → Prop
  | nil : All2 R [] []
  | cons {a b as bs} : R a b → All2 R as bs → All2 R (a :: as) (b :: bs)
/-- the steps of a line of an amount of a parts, in parts of DL -/
def stepsU (a : Int) : List Int := if a % DL = 0 then [0] else [-(a % DL), DL - a % DL]
/-- the moves of a menu are those of its lines -/
def MovesOf (u : Int) (ts : List (List Int)) (ns as : List Int) (ms : List Move) : Prop := ∃ ps : List Int, (∀ p ∈ ps, ∃ a ∈ as, p * (DL / u) = a % DL) ∧ (∀ a ∈ as, ∃ p ∈ ps, p * (DL / u) = a % DL) ∧ ∀ m, m ∈ ms ↔ m ∈ allMoves ts ns ps
def cntM (m : Nat) : Nat → Nat
  | 0 => 0
  | n + 1 => 1 + m * (2 * cntM m n)
end CK
namespace CK
open PySem PySem.Spec PyProof.Rows L2 VG FR HD M9
def kindsN (ns : List Int) : NestedKey := .tup (ns.map .num)
theorem kindsN_inj {p q : List Int} (h : kindsN p = kindsN q) : p = q := by
  simp only [kindsN, NestedKey.tup.injEq] at h
  exact (List.map_inj_right (fun _ _ e => by injection e)).mp h
/-- what is noted of kinds: their moves -/
def MenuFor (K : PySem.W.Frag) (H : Hp) (u : Int) (ts : List (List Int)) (as : List Int) (d : Nat) (v : V) (ns : List Int) (ms : List Move) : Prop := MenuAt K H v ms ∧ MovesOf u ts ns as ms ∧ (∀ m ∈ ms, MoveOk u m) ∧ ms.length ≤ ns.length * d
theorem MenuFor.mono {K : PySem.W.Frag} {H H' : Hp} (s : Same H H') {u : Int} {ts : List (List Int)} {as : List Int} {d : Nat} {v : V} {ns : List Int} {ms : List Move} (h : MenuFor K H u ts as d v ns ms) : MenuFor K H' u ts as d v ns ms := ⟨h.1.mono s, h.2⟩
def EntOk (K : PySem.W.Frag) (H : Hp) (u : Int) (ts : List (List Int)) (as : List Int) (d : Nat) (ys : List NEnt) : Prop := ∀ y ∈ ys, ∃ ns ms, y.1 = kindsN ns ∧ MenuFor K H u ts as d y.2.2 ns ms
theorem EntOk.mono {K : PySem.W.Frag} {H H' : Hp} (s : Same H H') {u : Int} {ts : List (List Int)} {as : List Int} {d : Nat} {ys : List NEnt} (h : EntOk K H u ts as d ys) : EntOk K H' u ts as d ys := fun y m => by
  obtain ⟨ns, ms, e, q⟩ := h y m
  exact ⟨ns, ms, e, q.mono s⟩
theorem EntOk.put {K : PySem.W.Frag} {H : Hp} {u : Int} {ts : List (List Int)} {as : List Int} {d : Nat} {ys : List NEnt} (h : EntOk K H u ts as d ys) {ns : List Int} {ms : List Move} {b : Addr} {v : V} (q : MenuFor K H u ts as d v ns ms) : EntOk K H u ts as d (putN ys (kindsN ns) b v) := fun y m => by
  rcases mem_put m with e | m | ⟨z, mz, e, rfl⟩
  · rw [e]; exact ⟨ns, ms, rfl, q⟩
  · exact h y m
  · exact ⟨ns, ms, rfl, q⟩
theorem EntOk.get {K : PySem.W.Frag} {H : Hp} {u : Int} {ts : List (List Int)} {as : List Int} {d : Nat} {ys : List NEnt} (h : EntOk K H u ts as d ys) {ns : List Int} {v : V} (e : valN ys (kindsN ns) = some v) : ∃ ms, MenuFor K H u ts as d v ns ms := by
  obtain ⟨b, m⟩ := valN_mem e
  obtain ⟨ns2, ms, e1, q⟩ := h _ m
  have e1 : kindsN ns = kindsN ns2 := e1
  have e2 : ns2 = ns := (kindsN_inj e1).symm
  rw [e2] at q
  exact ⟨ms, q⟩
theorem All2.snoc {α β : Type} {R : α → β → Prop} {a : α} {b : β} (h : R a b) : ∀ {as : List α} {bs : List β}, All2 R as bs → All2 R (as ++ [a]) (bs ++ [b])
  | _, _, .nil => .cons h .nil
  | _, _, .cons q t => .cons q (All2.snoc h t)
theorem All2.len {α β : Type} {R : α → β → Prop} : ∀ {as : List α} {bs : List β}, All2 R as bs → as.length = bs.length
  | _, _, .nil => rfl
  | _, _, .cons _ t => congrArg (· + 1) t.len
theorem All2.imp {α β : Type} {R S : α → β → Prop} (f : ∀ a b, R a b → S a b) : ∀ {as : List α} {bs : List β}, All2 R as bs → All2 S as bs
  | _, _, .nil => .nil
  | _, _, .cons h t => .cons (f _ _ h) (t.imp f)
end CK
namespace CK
open PySem PySem.Spec PyProof.Rows L2 VG FR HD M9
def CostOk (m n : Nat) : Prop := cntM m n ≤ 10000000
def rangeL (m : Nat) : List Int := (List.range m).map Int.ofNat
theorem range_len (m : Nat) : (rangeL m).length = m := by
  unfold rangeL
  rw [List.length_map, List.length_range]
theorem rg_range (m : Nat) : rgV 0 (m : Int) = (rangeL m).map V.int := by
  unfold rgV rangeL
  rw [List.map_map, Int.sub_zero, Int.toNat_natCast]
  refine List.map_congr_left fun i _ => ?_
  show V.int (0 + (i : Int)) = V.int (Int.ofNat i)
  rw [Int.zero_add]
  rfl
theorem none_back {H H1 : Hp} {x : Addr} (s : Same H H1) (h : H1 x = none) : H x = none := by
  cases q : H x with
  | none => rfl
  | some o => rw [s x o q] at h; cases h
end CK
namespace CK
open PySem PySem.Spec PyProof.Rows L2 VG FR HD M9
def LstAt {α : Type} (K : PySem.W.Frag) (R : Hp → V → α → Prop) (H : Hp) (v : V) (as : List α) : Prop := ∃ l xs, v = .ref l ∧ SqL K H l xs ∧ LR (R H) xs as
theorem LstAt.mono {α : Type} {K : PySem.W.Frag} {R : Hp → V → α → Prop} (m : ∀ {H H' : Hp} {v a}, Same H H' → R H v a → R H' v a) {H H' : Hp} {v : V} {as : List α} (s : Same H H') (h : LstAt K R H v as) : LstAt K R H' v as := by
  obtain ⟨l, xs, e, h1, h2⟩ := h
  exact ⟨l, xs, e, seqLs s h1, LR.imp (fun _ _ q => m s q) h2⟩
def IntsL (K : PySem.W.Frag) (H : Hp) (v : V) (st : List Int) : Prop := ∃ t, v = .ref t ∧ SqL K H t (st.map V.int)
theorem IntsL.mono {K : PySem.W.Frag} {H H' : Hp} {v : V} {st : List Int} (s : Same H H') (h : IntsL K H v st) : IntsL K H' v st := by
  obtain ⟨t, e, q⟩ := h
  exact ⟨t, e, seqLs s q⟩
abbrev OptsL (K : PySem.W.Frag) := LstAt K (IntsL K)
abbrev MenuL (K : PySem.W.Frag) := LstAt K (OptsL K)
abbrev PlacesL (K : PySem.W.Frag) := LstAt K (MenuL K)
theorem OptsL.mono {K : PySem.W.Frag} {H H' : Hp} {v : V} {as : List (List Int)} (s : Same H H') (h : OptsL K H v as) : OptsL K H' v as := LstAt.mono (R := IntsL K) (fun s h => IntsL.mono s h) s h
theorem MenuL.mono {K : PySem.W.Frag} {H H' : Hp} {v : V} {as : List (List (List Int))} (s : Same H H') (h : MenuL K H v as) : MenuL K H' v as := LstAt.mono (R := OptsL K) (fun s h => OptsL.mono s h) s h
theorem PlacesL.mono {K : PySem.W.Frag} {H H' : Hp} {v : V} {as : List (List (List (List Int)))} (s : Same H H') (h : PlacesL K H v as) : PlacesL K H' v as := LstAt.mono (R := MenuL K) (fun s h => MenuL.mono s h) s h
def dLst {α : Type} (f : α → PyData) (as : List α) : PyData := .list (as.map f)
def dInts (st : List Int) : PyData := .list (st.map .int)
theorem dp_ints {K : PySem.W.Frag} {H : Hp} {v : V} {st : List Int} (h : IntsL K H v st) : Dp K H v (dInts st) := by
  obtain ⟨t, rfl, q⟩ := h
  refine .lst q ?_
  clear q
  induction st with
  | nil => exact .nil
  | cons a st ih => exact .cons (.int a) ih
theorem lay_lst {α : Type} {f : α → PyData} {k : Nat} (h : ∀ x, (f x).canLay0 = true ∧ (f x).depth ≤ k) (as : List α) : (dLst f as).canLay0 = true ∧ (dLst f as).depth ≤ k + 1 := by
  have ⟨a, b⟩ := lay_map h as
  refine ⟨?_, ?_⟩
  · unfold dLst
    rw [PyData.canLay0]
    exact a
  · unfold dLst
    rw [PyData.depth]
    omega
theorem lay_ints (st : List Int) : (dInts st).canLay0 = true ∧ (dInts st).depth ≤ 1 := lay_lst (f := PyData.int) (k := 0) (fun x => ⟨by simp [PyData.canLay0], by simp [PyData.depth]⟩) st
end CK
namespace CK
open PySem PySem.Spec PyProof.Rows L2 VG FR HD M9
theorem sqL_ne {K : PySem.W.Frag} {H : Hp} {D t : Addr} {o : HO} {xs : List V} (ne : t ≠ D) (h : SqL K H t xs) : SqL K (L2.upd H D o) t xs := by
  rcases h with (h | ⟨o2, h⟩) | h
  · exact .inl (.inl (by rw [upd_ne ne]; exact h))
  · exact .inl (.inr ⟨o2, by rw [upd_ne ne]; exact h⟩)
  · exact .inr h
/-- a list of integers, at a place of which F holds -/
def IntsN (K : PySem.W.Frag) (F : Addr → Prop) (H : Hp) (v : V) (st : List Int) : Prop := ∃ t, v = .ref t ∧ F t ∧ SqL K H t (st.map V.int)
theorem IntsN.mono {K : PySem.W.Frag} {F : Addr → Prop} {H H' : Hp} {v : V} {st : List Int} (s : Same H H') (h : IntsN K F H v st) : IntsN K F H' v st := by
  obtain ⟨t, e, n, q⟩ := h
  exact ⟨t, e, n, seqLs s q⟩
theorem IntsN.upd {K : PySem.W.Frag} {F : Addr → Prop} {D : Addr} (ne : ∀ a, F a → a ≠ D) {H : Hp} {o : HO} {v : V} {st : List Int} (h : IntsN K F H v st) : IntsN K F (L2.upd H D o) v st := by
  obtain ⟨t, e, n, q⟩ := h
  exact ⟨t, e, n, sqL_ne (ne t n) q⟩
theorem IntsN.L {K : PySem.W.Frag} {F : Addr → Prop} {H : Hp} {v : V} {st : List Int} (h : IntsN K F H v st) : IntsL K H v st := by
  obtain ⟨t, e, _, q⟩ := h
  exact ⟨t, e, q⟩
def LstN {α : Type} (K : PySem.W.Frag) (F : Addr → Prop) (R : Hp → V → α → Prop) (H : Hp) (v : V) (as : List α) : Prop := ∃ l xs, v = .ref l ∧ F l ∧ SqL K H l xs ∧ LR (R H) xs as
abbrev OptsN (K : PySem.W.Frag) (F : Addr → Prop) := LstN K F (IntsN K F)
abbrev MenuNw (K : PySem.W.Frag) (F : Addr → Prop) := LstN K F (OptsN K F)
section
variable {α : Type} {K : PySem.W.Frag} {F F' : Addr → Prop}
theorem LstN.mono {R : Hp → V → α → Prop} {H H' : Hp} (m : ∀ {v a}, R H v a → R H' v a) {v : V} {as : List α} (s : Same H H') (h : LstN K F R H v as) : LstN K F R H' v as := by
  obtain ⟨l, xs, e, n, h1, h2⟩ := h
  exact ⟨l, xs, e, n, seqLs s h1, LR.imp (fun _ _ q => m q) h2⟩
theorem LstN.upd {R : Hp → V → α → Prop} {H : Hp} {D : Addr} {o : HO} (ne : ∀ a, F a → a ≠ D) (m : ∀ {v a}, R H v a → R (L2.upd H D o) v a) {v : V} {as : List α} (h : LstN K F R H v as) : LstN K F R (L2.upd H D o) v as := by
  obtain ⟨l, xs, e, n, h1, h2⟩ := h
  exact ⟨l, xs, e, n, sqL_ne (ne l n) h1, LR.imp (fun _ _ q => m q) h2⟩
end
section
variable {K : PySem.W.Frag} {F F' : Addr → Prop} {H H' : Hp} {v : V}
theorem OptsN.mono {as : List (List Int)} (s : Same H H') (h : OptsN K F H v as) : OptsN K F H' v as := LstN.mono (R := IntsN K F) (fun h => IntsN.mono s h) s h
theorem OptsN.upd {D : Addr} {o : HO} {as : List (List Int)} (ne : ∀ a, F a → a ≠ D) (h : OptsN K F H v as) : OptsN K F (L2.upd H D o) v as := LstN.upd (R := IntsN K F) ne (fun h => IntsN.upd ne h) h
theorem MenuNw.mono {as : List (List (List Int))} (s : Same H H') (h : MenuNw K F H v as) : MenuNw K F H' v as := LstN.mono (R := OptsN K F) (fun h => OptsN.mono s h) s h
theorem MenuNw.upd {D : Addr} {o : HO} {as : List (List (List Int))} (ne : ∀ a, F a → a ≠ D) (h : MenuNw K F H v as) : MenuNw K F (L2.upd H D o) v as := LstN.upd (R := OptsN K F) ne (fun h => OptsN.upd ne h) h
end
end CK
namespace CK
open PySem PySem.Spec PyProof.Rows L2 VG FR HD M9
/-- a kind and an amount -/
def PairAt (K : PySem.W.Frag) (H : Hp) (v : V) (q : Int × Int) : Prop := ∃ t s, v = .ref t ∧ SqT K H t [.int q.1, .ref s] ∧ SqT K H s (pV (U q.2))
theorem PairAt.mono {K : PySem.W.Frag} {H H' : Hp} {v : V} {q : Int × Int} (s : Same H H') (h : PairAt K H v q) : PairAt K H' v q := by
  obtain ⟨t, x, e, h1, h2⟩ := h
  exact ⟨t, x, e, seqT s h1, seqT s h2⟩
abbrev PairsL (K : PySem.W.Frag) := LstAt K (PairAt K)
theorem PairsL.mono {K : PySem.W.Frag} {H H' : Hp} {v : V} {as : List (Int × Int)} (s : Same H H') (h : PairsL K H v as) : PairsL K H' v as := LstAt.mono (R := PairAt K) (fun s h => PairAt.mono s h) s h
end CK
namespace CK
open PySem PySem.Spec PyProof.Rows L2 VG FR HD M9
theorem PairAt.updL {K : PySem.W.Frag} {H : Hp} {D : Addr} {ys zs : List V} (hD : H D = some (.lst ys)) {v : V} {q : Int × Int} (h : PairAt K H v q) : PairAt K (L2.upd H D (.lst zs)) v q := by
  obtain ⟨t, x, e, h1, h2⟩ := h
  exact ⟨t, x, e, seqT_upd hD h1, seqT_upd hD h2⟩
end CK
namespace CK
open PySem PySem.Spec PyProof.Rows L2 VG FR HD M9
/-- amounts and errors that the law draws -/
structure NumF (a : Int) : Prop where
  size : a.natAbs ≤ 1000 * 2 ^ 45
  bot : (U a).2 ≤ 6
/-- a growing list of fractions, apart from the draws -/
structure FrL (K : PySem.W.Frag) (p q : Addr) (G H : Hp) (D : Addr) (as : List Int) : Prop where
  on : On p q G H
  ne : D ≠ p ∧ D ≠ q ∧ G D = none
  ls : ∃ vs, H D = some (.lst vs) ∧ Frs K H vs (as.map U)
  ok : ∀ a ∈ as, NumF a
theorem FrL.draw {K : PySem.W.Frag} {p q D : Addr} {G H H' : Hp} {as : List Int} (h : FrL K p q G H D as) (hd : Hd p q H') (kp : Keep p q H H') : FrL K p q G H' D as := by
  obtain ⟨vs, k, f⟩ := h.ls
  exact ⟨h.on.draw hd kp, h.ne, ⟨vs, kp _ _ h.ne.1 h.ne.2.1 k, Frs.keep h.on.hd kp f⟩, h.ok⟩
theorem FrL.same {K : PySem.W.Frag} {p q D : Addr} {G H H' : Hp} {as : List Int} (h : FrL K p q G H D as) (s : Same H H') : FrL K p q G H' D as := by
  obtain ⟨vs, k, f⟩ := h.ls
  exact ⟨h.on.same s, h.ne, ⟨vs, s _ _ k, f.mono s⟩, h.ok⟩
theorem FrL.add {K : PySem.W.Frag} {p q D u : Addr} {G H : Hp} {as : List Int} {a : Int} (h : FrL K p q G H D as) (hu : SqT K H u (pV (U a))) (ha : NumF a) : ∃ vs, H D = some (.lst vs) ∧ vs.length = as.length ∧ FrL K p q G (L2.upd H D (.lst (vs ++ [.ref u]))) D (as ++ [a]) := by
  obtain ⟨vs, k, f⟩ := h.ls
  have l := f.len
  rw [List.length_map] at l
  refine ⟨vs, k, l, h.on.put h.ne, h.ne, ⟨_, upd_same, ?_⟩, fun b m => ?_⟩
  · rw [List.map_append]
    exact Frs.updL k (frs_snoc hu f)
  · rcases List.mem_append.mp m with m | m
    · exact h.ok b m
    · have : b = a := by simpa using m
      rw [this]; exact ha
end CK
namespace CK
open PySem PySem.Spec PyProof.Rows L2 VG FR HD M9
theorem NumF.lt {a : Int} (h : NumF a) : a.natAbs < 2 ^ 100 := Nat.lt_of_le_of_lt h.size (by decide)
end CK
namespace CK
open PySem PySem.Spec PyProof.Rows L2 VG FR HD M9
end CK
namespace CK
open PySem PySem.Spec PyProof.Rows L2 VG FR HD M9
def aT : List Int := [DL / 3]
def nX : List Int := [0, 1, 2, 0, 1, 2, 0, 1, 2, 0, 1, 2]
def HIs (xs : List V) (H : Hp) (v : V) : Prop := ∃ t, v = .ref t ∧ H t = some (.tup xs)
theorem HIs.same {xs : List V} {H H' : Hp} {v : V} (s : Same H H') (h : HIs xs H v) : HIs xs H' v := let ⟨t, e, k⟩ := h; ⟨t, e, s _ _ k⟩
theorem HIs.ext {xs : List V} {H H' : Hp} {v : V} (s : LamX.ExtN H H') (h : HIs xs H v) : HIs xs H' v := let ⟨t, e, k⟩ := h; ⟨t, e, s t _ k (fun _ z => by cases z)⟩
theorem HIs.put {xs : List V} {H : Hp} {v : V} {L : Addr} {vs : List V} {o : HO} (k : H L = some (.lst vs)) (h : HIs xs H v) : HIs xs (L2.upd H L o) v := by
  obtain ⟨t, e, k2⟩ := h
  refine ⟨t, e, ?_⟩
  rw [upd_ne (fun z => by rw [z, k] at k2; cases k2)]
  exact k2
def HL (xs : List V) (L : Addr) (n : Nat) (H : Hp) : Prop := ∃ vs, H L = some (.lst vs) ∧ vs.length = n ∧ ∀ v ∈ vs, HIs xs H v
/-- a list of what was heard, beside the draws -/
structure LSt (T : List (Addr × Str)) (p q : Addr) (G : Hp) (xs : List V) (L : Addr) (n : Nat) (H : Hp) : Prop where
  on : OnT T p q G H
  fr : L ≠ p ∧ L ≠ q ∧ G L = none
  hl : HL xs L n H
theorem LSt.same {T : List (Addr × Str)} {p q : Addr} {G : Hp} {xs : List V} {L : Addr} {n : Nat} {H H' : Hp} (h : LSt T p q G xs L n H) (s : Same H H') : LSt T p q G xs L n H' := ⟨h.on.same s, h.fr, let ⟨vs, k, l, a⟩ := h.hl; ⟨vs, s _ _ k, l, fun v m => (a v m).same s⟩⟩
theorem LSt.start {T : List (Addr × Str)} {p q : Addr} {G : Hp} {xs : List V} {L : Addr} {H : Hp} {v : V} (on : OnT T p q G H) (nL : H L = none) (h : HIs xs H v) : LSt T p q G xs L 1 (L2.upd H L (.lst [v])) :=
  ⟨on.new nL, on.free nL, [v], upd_same, rfl, fun w m => by
    rw [List.mem_singleton.mp m]
    exact h.same (same_upd nL)⟩
theorem LSt.add {T : List (Addr × Str)} {p q : Addr} {G : Hp} {xs : List V} {L : Addr} {n : Nat} {H : Hp} {v : V} (h : LSt T p q G xs L n H) (hv : HIs xs H v) : ∃ vs, H L = some (.lst vs) ∧ vs.length = n ∧ LSt T p q G xs L (n + 1) (L2.upd H L (.lst (vs ++ [v]))) := by
  obtain ⟨vs, k, l, a⟩ := h.hl
  refine ⟨vs, k, l, h.on.put k h.fr, h.fr, _, upd_same, by rw [List.length_append, l]; rfl, fun w m => ?_⟩
  rcases List.mem_append.mp m with m | m
  · exact (a w m).put k
  · rw [List.mem_singleton.mp m]
    exact hv.put k
theorem cut_pre (xs : List V) (n : Nat) : cutV xs none (some (n : Int)) = xs.take n := by
  unfold cutV
  simp [HT.sIx]
  rw [if_neg (by omega)]
  omega
end CK
namespace CK
open PySem PySem.Spec PyProof.Rows L2 VG FR HD M9
theorem len_fits : ∀ l : Fin 13, ∀ n : Fin 5, (l.val < 4 ∨ (l.val = 4 ∧ n.val ≤ 3) ∨ n.val ≤ 2) → n.val ≤ 12 ∧ l.val ^ n.val ≤ 5000 ∧ cntM l.val n.val ≤ 10000000 := by decide +kernel
theorem fits {l n : Nat} (hl : l ≤ 12) (hn : n ≤ 4) (h : l < 4 ∨ (l = 4 ∧ n ≤ 3) ∨ n ≤ 2) : FitG l n ∧ CostOk l n := by
  have := len_fits ⟨l, by omega⟩ ⟨n, by omega⟩ h
  exact ⟨⟨this.1, this.2.1⟩, this.2.2⟩
end CK
namespace CK
open PySem PySem.Spec PyProof.Rows L2 VG FR HD M9
end CK
namespace CK
open PySem PySem.Spec PyProof.Rows L2 VG FR HD M9
abbrev Mn := List (List (Int × Int))
def SubP (R : Int × Int → Int × Int → Prop) : Mn → Mn → Prop
  | [], _ => True
  | a :: as, b :: bs => (∀ p ∈ a, ∃ q ∈ b, R p q) ∧ SubP R as bs
  | _ :: _, [] => False
theorem SubP.imp {R S : Int × Int → Int × Int → Prop} (h : ∀ p q, R p q → S p q) : ∀ {A B : Mn}, SubP R A B → SubP S A B
  | [], _, _ => trivial
  | _ :: _, _ :: _, q => ⟨fun p m => by obtain ⟨x, mx, r⟩ := q.1 p m; exact ⟨x, mx, h p x r⟩, SubP.imp h q.2⟩
  | _ :: _, [], q => q.elim
def gA (L : List (List Int)) (h : List Int → Int → Int) (mss : Mn) : List (List (List (List Int))) := mss.map fun ms => ms.map fun q => (stepsU q.2).map fun c => L.map fun t => c * h t q.1
theorem mem_range {m : Nat} {k : Int} : k ∈ rangeL m ↔ 0 ≤ k ∧ k < m := by
  unfold rangeL
  rw [List.mem_map]
  constructor
  · rintro ⟨i, hi, rfl⟩
    have := List.mem_range.mp hi
    have e : Int.ofNat i = (i : Int) := rfl
    omega
  · rintro ⟨h0, h1⟩
    refine ⟨k.toNat, List.mem_range.mpr (by omega), ?_⟩
    have e : Int.ofNat k.toNat = (k.toNat : Int) := rfl
    omega
abbrev NA := Nat × Int
end CK
namespace CK
open PySem PySem.Spec PyProof.Rows L2 VG FR HD M9
def NAt (K : PySem.W.Frag) (H : Hp) (v : V) (p : NA) : Prop := PairAt K H v ((p.1 : Int), p.2)
theorem NAt.mono {K : PySem.W.Frag} {H H' : Hp} {v : V} {p : NA} (s : Same H H') (h : NAt K H v p) : NAt K H' v p := PairAt.mono s h
theorem NAt.keep {K : PySem.W.Frag} {p q : Addr} {H H' : Hp} {v : V} {r : NA} (hd : Hd p q H) (k : Keep p q H H') (h : NAt K H v r) : NAt K H' v r := by
  obtain ⟨t, s, e, h1, h2⟩ := h
  exact ⟨t, s, e, seqTK hd k h1, seqTK hd k h2⟩
theorem NAt.updL {K : PySem.W.Frag} {H : Hp} {D : Addr} {ys zs : List V} (hD : H D = some (.lst ys)) {v : V} {r : NA} (h : NAt K H v r) : NAt K (L2.upd H D (.lst zs)) v r := PairAt.updL hD h
def ToldA (K : PySem.W.Frag) (H : Hp) (l : Addr) (ps : List NA) : Prop := ∃ xs, SqT K H l xs ∧ LR (NAt K H) xs ps
theorem ToldA.mono {K : PySem.W.Frag} {H H' : Hp} {l : Addr} {ps : List NA} (s : Same H H') (h : ToldA K H l ps) : ToldA K H' l ps := by
  obtain ⟨xs, h1, h2⟩ := h
  exact ⟨xs, seqT s h1, h2.imp fun _ _ q => q.mono s⟩
theorem NumF.amt {a : Int} (h : NumF a) : AmtOk (U a) := by
  refine ⟨U_low a, U_bot_dvd a, ?_⟩
  have e := U_eq a
  have l := (U_low a).1
  have h1 := h.size
  have h2 := h.bot
  have e2 : (U a).1.natAbs * DL.natAbs = a.natAbs * (U a).2.natAbs := by rw [← Int.natAbs_mul, ← Int.natAbs_mul, e]
  have h3 : a.natAbs * (U a).2.natAbs ≤ 1000 * 2 ^ 45 * 6 := Nat.mul_le_mul h1 (by omega)
  have d : DL.natAbs = 20999643000000 := by decide
  rw [d] at e2
  have : (1000 * 2 ^ 45 * 6 : Nat) = 211106232532992000 := by decide
  omega
abbrev T0 : List (Addr × Str) := []
end CK
namespace CK
open PySem PySem.Spec PyProof.Rows L2 VG FR HD M9
/-- how many lines are asked of l amounts and k kinds -/
structure Cond (l k n : Nat) : Prop where
  l3 : l ≤ 3
  k3 : k ≤ 3
  n4 : n ≤ 4
  few : l * k < 3 ∨ (l * k < 5 ∧ n ≤ 3) ∨ n ≤ 2
theorem Cond.less {l k n l' n' : Nat} (h : Cond l k n) (hl : l' ≤ l) (hn : n' ≤ n) : Cond l' k n' := by
  have h1 := h.l3
  have h2 := h.k3
  have h3 := h.n4
  have m := Nat.mul_le_mul_right k hl
  refine ⟨by omega, h2, by omega, ?_⟩
  rcases h.few with z | ⟨z, y⟩ | z <;> omega
end CK
namespace CK
open PySem PySem.Spec PyProof.Rows L2 VG FR HD M9
def tK : List (List Int) := [[0], [1], [0, 1, 2]]
def nsK : List (List Int) := [[2, 0, 1, 2], [0, 2, 1, 2], [0, 1, 2, 0]]
theorem okK : TabOk kX tK := ⟨okX.kinds, by decide, fun c hc => lot_dec (List.all_eq_true.mp (by decide +kernel : tK.all (lotB (kX.length : Int)) = true) c hc)⟩
def nM : List Int := [0, 1, 2, 0]
end CK
namespace CK
open PySem PySem.Spec PyProof.Rows L2 VG FR HD M9
theorem frs_tots {K : PySem.W.Frag} {H : Hp} : ∀ {xs : List V} {cs : List (List Int)} {ps : List Q2}, cs = ps.map (fun p => [p.1, p.2]) → Tots K H xs cs → Frs K H xs ps
  | [], [], [], _, _ => trivial
  | _ :: _, _ :: _, p :: ps, e, h => by
    rw [List.map_cons] at e
    injection e with e1 e2
    obtain ⟨t, e3, h3⟩ := h.1
    rw [e1] at h3
    exact ⟨⟨t, e3, h3⟩, frs_tots e2 h.2⟩
  | [], [], _ :: _, e, _ => by cases e
  | _ :: _, _ :: _, [], e, _ => by cases e
  | [], _ :: _, _, _, h => h.elim
  | _ :: _, [], _, _, h => h.elim
end CK
namespace CK
open PySem PySem.Spec PyProof.Rows L2 VG FR HD M9
inductive Rch (lots : List (List Int)) (s : Int) : Int → Prop
  | refl : Rch lots s s
  | step {a b : Int} {l : List Int} : Rch lots s a → l ∈ lots → a ∈ l → b ∈ l → Rch lots s b
theorem Rch.trans {lots : List (List Int)} {s a b : Int} (h : Rch lots s a) (g : Rch lots a b) : Rch lots s b := by
  induction g with
  | refl => exact h
  | step _ m1 m2 m3 ih => exact .step ih m1 m2 m3
theorem Rch.symm {lots : List (List Int)} {s a : Int} (h : Rch lots s a) : Rch lots a s := by
  induction h with
  | refl => exact .refl
  | step _ m1 m2 m3 ih => exact (Rch.step .refl m1 m3 m2).trans ih
structure IsPiece (lots : List (List Int)) (s : Int) (P : List Int) : Prop where
  asc : P.Pairwise (· < ·)
  mem : ∀ x, x ∈ P ↔ Rch lots s x
theorem asc_ext : ∀ {a b : List Int}, a.Pairwise (· < ·) → b.Pairwise (· < ·) → (∀ x, x ∈ a ↔ x ∈ b) → a = b
  | [], [], _, _, _ => rfl
  | [], y :: b, _, _, h => absurd ((h y).mpr List.mem_cons_self) List.not_mem_nil
  | x :: a, [], _, _, h => absurd ((h x).mp List.mem_cons_self) List.not_mem_nil
  | x :: a, y :: b, ha, hb, h => by
    have ⟨a1, a2⟩ := List.pairwise_cons.mp ha
    have ⟨b1, b2⟩ := List.pairwise_cons.mp hb
    have e : x = y := by
      have p := (h x).mp List.mem_cons_self
      have q := (h y).mpr List.mem_cons_self
      rcases List.mem_cons.mp p with p | p
      · exact p
      · rcases List.mem_cons.mp q with q | q
        · exact q.symm
        · have := a1 y q
          have := b1 x p
          omega
    subst e
    rw [asc_ext a2 b2 fun z => ⟨fun m => by
      rcases List.mem_cons.mp ((h z).mp (List.mem_cons_of_mem _ m)) with e | m2
      · have := a1 z m
        omega
      · exact m2, fun m => by
      rcases List.mem_cons.mp ((h z).mpr (List.mem_cons_of_mem _ m)) with e | m2
      · have := b1 z m
        omega
      · exact m2⟩]
theorem IsPiece.uniq {lots : List (List Int)} {s : Int} {P Q : List Int} (h : IsPiece lots s P) (g : IsPiece lots s Q) : P = Q := asc_ext h.asc g.asc fun x => (h.mem x).trans (g.mem x).symm
theorem IsPiece.self {lots : List (List Int)} {s : Int} {P : List Int} (h : IsPiece lots s P) : s ∈ P := (h.mem s).mpr .refl
/-- the piece of any of its own -/
theorem IsPiece.move {lots : List (List Int)} {s t : Int} {P : List Int} (h : IsPiece lots s P) (m : t ∈ P) : IsPiece lots t P := ⟨h.asc, fun x => by
  have r := (h.mem t).mp m
  rw [h.mem x]
  exact ⟨fun q => r.symm.trans q, fun q => r.trans q⟩⟩
/-- lots of numbers below m -/
def LotsB (lots : List (List Int)) (m : Nat) : Prop := ∀ l ∈ lots, l.length ≤ 12 ∧ ∀ x ∈ l, 0 ≤ x ∧ x < (m : Int)
theorem Rch.low {lots : List (List Int)} {m : Nat} (h : LotsB lots m) {s x : Int} (hs : 0 ≤ s ∧ s < (m : Int)) (r : Rch lots s x) : 0 ≤ x ∧ x < (m : Int) := by
  cases r with
  | refl => exact hs
  | step _ m1 _ m3 => exact (h _ m1).2 _ m3
theorem asc_few {P : List Int} {m : Nat} (a : P.Pairwise (· < ·)) (h : ∀ x ∈ P, 0 ≤ x ∧ x < (m : Int)) : P.length ≤ m := by
  have key : ∀ (P : List Int) (lo : Int), P.Pairwise (· < ·) → (∀ x ∈ P, lo ≤ x ∧ x < (m : Int)) → (P.length : Int) ≤ max 0 ((m : Int) - lo) := by
    intro P
    induction P with
    | nil => intro lo _ _; simp; omega
    | cons x P ih =>
      intro lo a h
      have ⟨a1, a2⟩ := List.pairwise_cons.mp a
      have hx := h x List.mem_cons_self
      have := ih (x + 1) a2 fun y my => ⟨by have := a1 y my; omega, (h y (List.mem_cons_of_mem _ my)).2⟩
      rw [List.length_cons]
      omega
  have := key P 0 a h
  omega
/-- all pieces -/
structure Pieces (lots : List (List Int)) (m : Nat) (Ps : List (List Int)) : Prop where
  lex : LexAsc Ps
  mem : ∀ P, P ∈ Ps ↔ ∃ s : Int, 0 ≤ s ∧ s < (m : Int) ∧ IsPiece lots s P
theorem Pieces.uniq {lots : List (List Int)} {m : Nat} {A B : List (List Int)} (h : Pieces lots m A) (g : Pieces lots m B) : A = B := LexAsc.uniq h.lex g.lex fun P => (h.mem P).trans (g.mem P).symm
end CK
namespace CK
open PySem PySem.Spec PyProof.Rows L2 VG FR HD M9
/-- the totals by classes -/
def lotsC (ts : List (List Int)) (n : Nat) : List (List Int) := ts.map fun c => rowC (classesL ts n) c (classesL ts n).length
theorem lotsC_len (ts : List (List Int)) (n : Nat) : (lotsC ts n).length = ts.length := List.length_map _
theorem lotsC_low (ts : List (List Int)) {n : Nat} (hn : n ≤ 12) : LotsB (lotsC ts n) (classesL ts n).length := fun l ml => by
  obtain ⟨c, mc, rfl⟩ := List.mem_map.mp ml
  have h1 := rowC_len (classesL ts n) c (classesL ts n).length
  have h2 := (classes_len ts n).1
  refine ⟨by omega, fun x mx => ?_⟩
  obtain ⟨a, ha, _, rfl⟩ := rowC_mem.mp mx
  omega
theorem byCls_uniq {ts ls : List (List Int)} {n : Nat} (hn : n ≤ 12) (ok : ∀ c ∈ ts, LotOk (n : Int) c) (h : ByCls ts n ls) : ls = lotsC ts n := by
  have g : ByCls ts n (lotsC ts n) := byCls_rows hn ok
  refine List.ext_getElem? fun j => ?_
  by_cases lt : j < ts.length
  · have l1 : j < ls.length := by rw [h.len]; exact lt
    have l2 : j < (lotsC ts n).length := by rw [g.len]; exact lt
    have e0 : ts[j]? = some ts[j] := List.getElem?_eq_getElem lt
    have e1 : ls[j]? = some ls[j] := List.getElem?_eq_getElem l1
    have e2 : (lotsC ts n)[j]? = some (lotsC ts n)[j] := List.getElem?_eq_getElem l2
    rw [e1, e2]
    congr 1
    exact asc_ext (h.asc _ (List.getElem_mem l1)).2 (g.asc _ (List.getElem_mem l2)).2 fun x => (h.rel j _ _ e0 e1 x).trans (g.rel j _ _ e0 e2 x).symm
  · rw [List.getElem?_eq_none (by rw [h.len]; omega), List.getElem?_eq_none (by rw [g.len]; omega)]
/-- a row of classes -/
structure PcOk (ts : List (List Int)) (n : Nat) (P : List Int) : Prop where
  asc : P.Pairwise (· < ·)
  low : ∀ x ∈ P, 0 ≤ x ∧ x < ((classesL ts n).length : Int)
theorem PcOk.few {ts : List (List Int)} {n : Nat} {P : List Int} (h : PcOk ts n P) (hn : n ≤ 12) : P.length ≤ 12 := by
  have := asc_few h.asc h.low
  have := (classes_len ts n).1
  omega
def kdsP (ts : List (List Int)) (n : Nat) (P : List Int) : List Int := pick (fun k => P.any fun x => ((classesL ts n).getD x.toNat []).contains (k : Int)) n
theorem classes_only {ts : List (List Int)} {n i j : Nat} {c d : List Int} {k : Int} (e1 : (classesL ts n)[i]? = some c) (e2 : (classesL ts n)[j]? = some d) (h1 : k ∈ c) (h2 : k ∈ d) : i = j := by
  by_cases e : i = j
  · exact e
  · exact absurd rfl ((List.nodup_append.mp (M15.apart_two (classes_apart ts n) e1 e2 e)).2.2 k h1 k h2)
end CK
namespace CK
open PySem PySem.Spec PyProof.Rows L2 VG FR HD M9
end CK
namespace CK
open PySem PySem.Spec PyProof.Rows L2 VG FR HD M9
def shiftS (row : List Int) (c : Int) (st : List Int) : List Int := (List.range st.length).map fun (j : Nat) => if row.contains (j : Int) then st.getD j 0 + c else st.getD j 0
def canW (rows : List (List Int)) (steps : List Int) : Nat → List Int → Bool
  | 0, _ => true
  | n + 1, st => rows.all fun row => steps.all fun s => [6 - s, 0 - s].any fun c => smallB 6 (shiftS row c st) && canW rows steps n (shiftS row c st)
def NotedW (rows : List (List Int)) (steps : List Int) (ys : List NEnt) : Prop := ∀ y ∈ ys, ∃ n st, y.1 = keyM n st ∧ y.2.2 = .bl (canW rows steps n st)
theorem NotedW.get {rows : List (List Int)} {steps : List Int} {ys : List NEnt} (h : NotedW rows steps ys) {n : Nat} {st : List Int} {v : V} (e : valN ys (keyM n st) = some v) : v = .bl (canW rows steps n st) := by
  obtain ⟨b, m⟩ := valN_mem e
  obtain ⟨n2, st2, e1, e2⟩ := h _ m
  obtain ⟨rfl, rfl⟩ := keyM_inj e1
  exact e2
theorem NotedW.put {rows : List (List Int)} {steps : List Int} {ys : List NEnt} (h : NotedW rows steps ys) {n : Nat} {st : List Int} {b : Addr} : NotedW rows steps (putN ys (keyM n st) b (.bl (canW rows steps n st))) := fun y m => by
  rcases mem_put m with e | m | ⟨z, mz, e, rfl⟩
  · rw [e]; exact ⟨n, st, rfl, rfl⟩
  · exact h y m
  · exact ⟨n, st, rfl, rfl⟩
structure CallsW (P : Program) (w : World) (K : PySem.W.Frag) (rows : List (List Int)) (steps : List Int) (H : Hp) (d : Addr) (ys : List NEnt) : Prop where
  kn : KnO P w K H d ys
  ok : NotedW rows steps ys
theorem CallsW.same {P : Program} {w : World} {K : PySem.W.Frag} {rows : List (List Int)} {steps : List Int} {H H' : Hp} {d : Addr} {ys : List NEnt} (c : CallsW P w K rows steps H d ys) (s : Same H H') : CallsW P w K rows steps H' d ys := ⟨c.kn.same s, c.ok⟩
def RowsL (K : PySem.W.Frag) (H : Hp) (a : Addr) (rows : List (List Int)) : Prop := ∃ xs, SqL K H a xs ∧ LR (IntsL K H) xs rows
theorem RowsL.mono {K : PySem.W.Frag} {H H' : Hp} {a : Addr} {rows : List (List Int)} (s : Same H H') (h : RowsL K H a rows) : RowsL K H' a rows := by
  obtain ⟨xs, h1, h2⟩ := h
  exact ⟨xs, seqLs s h1, LR.imp (fun _ _ q => IntsL.mono s q) h2⟩
end CK
namespace CK
open PySem PySem.Spec PyProof.Rows L2 VG FR HD M9
def rowK (ts : List (List Int)) (k : Nat) : List Int := pick (fun j => (ts.getD j []).contains (k : Int)) ts.length
end CK
namespace CK
open PySem PySem.Spec PyProof.Rows L2 VG FR HD M9
theorem rowK_fT (ts : List (List Int)) (k : Nat) : rowK ts k = fT ts k := rfl
end CK
namespace CK
open PySem PySem.Spec PyProof.Rows L2 VG FR HD M9
theorem lex_less {Q P : List Int} {i s : Int} (aQ : Q.Pairwise (· < ·)) (mQ : s ∈ Q) (lt : s < i) (hP : ∀ x ∈ P, i ≤ x) (ne : P ≠ []) : TU.lexI Q P = true := by
  cases P with
  | nil => exact absurd rfl ne
  | cons p P =>
    have hp := hP p List.mem_cons_self
    cases Q with
    | nil => cases mQ
    | cons q Q =>
      have hq : q ≤ s := by
        rcases List.mem_cons.mp mQ with e | z
        · omega
        · have := (List.pairwise_cons.mp aQ).1 s z
          omega
      show (if q = p then TU.lexI Q P else decide (q < p)) = true
      rw [if_neg (by omega), decide_eq_true_eq]
      omega
/-- pieces found so far -/
structure PcsI (lots : List (List Int)) (i : Nat) (Ps : List (List Int)) : Prop where
  lex : LexAsc Ps
  mem : ∀ P, P ∈ Ps ↔ ∃ s : Int, 0 ≤ s ∧ s < (i : Int) ∧ IsPiece lots s P
theorem PcsI.skip {lots : List (List Int)} {i : Nat} {Ps : List (List Int)} (h : PcsI lots i Ps) {P : List Int} (hP : IsPiece lots (i : Int) P) (mP : P ∈ Ps) : PcsI lots (i + 1) Ps := ⟨h.lex, fun R => by
  rw [h.mem R]
  constructor
  · rintro ⟨s, h1, h2, h3⟩
    exact ⟨s, h1, by omega, h3⟩
  · rintro ⟨s, h1, h2, h3⟩
    by_cases e : s = (i : Int)
    · rw [e] at h3
      rw [h3.uniq hP]
      exact (h.mem P).mp mP
    · exact ⟨s, h1, by omega, h3⟩⟩
theorem PcsI.add {lots : List (List Int)} {m i : Nat} (low : LotsB lots m) (hi : i < m) {Ps : List (List Int)} (h : PcsI lots i Ps) {P : List Int} (hP : IsPiece lots (i : Int) P) (nP : P ∉ Ps) : PcsI lots (i + 1) (Ps ++ [P]) := by
  refine ⟨List.pairwise_append.mpr ⟨h.lex, List.pairwise_singleton _ _, fun Q mQ R mR => ?_⟩, fun R => ?_⟩
  · rw [List.mem_singleton.mp mR]
    obtain ⟨s, s0, s1, hQ⟩ := (h.mem Q).mp mQ
    refine lex_less hQ.asc hQ.self s1 (fun x mx => ?_) (fun e => by have := hP.self; rw [e] at this; cases this)
    have xl := ((hP.mem x).mp mx).low low ⟨by omega, by omega⟩
    rcases Int.lt_or_le x (i : Int) with z | z
    · exact absurd ((h.mem P).mpr ⟨x, xl.1, z, hP.move mx⟩) nP
    · exact z
  · rw [List.mem_append, h.mem R]
    constructor
    · rintro (⟨s, h1, h2, h3⟩ | z)
      · exact ⟨s, h1, by omega, h3⟩
      · rw [List.mem_singleton.mp z]
        exact ⟨(i : Int), by omega, by omega, hP⟩
    · rintro ⟨s, h1, h2, h3⟩
      by_cases e : s = (i : Int)
      · rw [e] at h3
        exact .inr (List.mem_singleton.mpr (h3.uniq hP))
      · exact .inl ⟨s, h1, by omega, h3⟩
end CK
namespace CK
open PySem PySem.Spec PyProof.Rows L2 VG FR HD M9
theorem Pieces.few {lots : List (List Int)} {m : Nat} {Ps : List (List Int)} (h : Pieces lots m Ps) : Ps.length ≤ m := by
  classical
  have := nodup_le Ps ((rangeL m).map fun s => if q : ∃ P, IsPiece lots s P then Classical.choose q else []) h.lex.nodup fun P mP => by
    obtain ⟨s, s0, s1, hP⟩ := (h.mem P).mp mP
    refine List.mem_map.mpr ⟨s, mem_range.mpr ⟨s0, s1⟩, ?_⟩
    have q : ∃ P, IsPiece lots s P := ⟨P, hP⟩
    rw [dif_pos q]
    exact (Classical.choose_spec q).uniq hP
  rw [List.length_map, range_len] at this
  exact this
theorem lotsC_asc (ts : List (List Int)) (n : Nat) : ∀ c ∈ lotsC ts n, c.Pairwise (· < ·) := fun c mc => by
  obtain ⟨d, _, rfl⟩ := List.mem_map.mp mc
  exact rowC_asc _ _ _
end CK
namespace CK
open PySem PySem.Spec PyProof.Rows L2 VG FR HD M9
def inK (v : V) (c : List Int) : Bool := inV v (c.map V.int)
def LnE (K : PySem.W.Frag) (H : Hp) (v : V) (p : V × Int) : Prop := ∃ t, v = .ref t ∧ SqT K H t [p.1, .int p.2]
theorem LnE.mono {K : PySem.W.Frag} {H H' : Hp} {v : V} {p : V × Int} (s : Same H H') (h : LnE K H v p) : LnE K H' v p := by
  obtain ⟨t, e, k⟩ := h
  exact ⟨t, e, seqT s k⟩
end CK
namespace CK
open PySem PySem.Spec PyProof.Rows L2 VG FR HD M9
theorem cls_alike {ts : List (List Int)} {n a : Nat} {cl c : List Int} {k k2 : Int} (ha : (classesL ts n)[a]? = some cl) (hk : k ∈ cl) (hk2 : k2 ∈ cl) (hc : c ∈ ts) : k ∈ c ↔ k2 ∈ c := by
  rw [classes_eq, List.getElem?_map] at ha
  obtain ⟨key, _, rfl⟩ := Option.map_eq_some_iff.mp ha
  obtain ⟨i, _, h1, rfl⟩ := mem_pick.mp hk
  obtain ⟨i2, _, h2, rfl⟩ := mem_pick.mp hk2
  have e1 : fT ts i = key := of_decide_eq_true h1
  have e2 : fT ts i2 = key := of_decide_eq_true h2
  obtain ⟨t, et⟩ := List.mem_iff_getElem?.mp hc
  have q1 : (t : Int) ∈ fT ts i ↔ c.contains (i : Int) = true := mem_tw et
  have q2 : (t : Int) ∈ fT ts i2 ↔ c.contains (i2 : Int) = true := mem_tw et
  rw [← List.contains_iff_mem, ← List.contains_iff_mem, ← q1, ← q2, e1, e2]
end CK
namespace CK
open PySem PySem.Spec PyProof.Rows L2 VG FR HD M9
def kn (ts : List (List Int)) (n : Nat) (P : List Int) : List Nat := (kdsP ts n P).map Int.toNat
end CK
namespace CK
open PySem PySem.Spec PyProof.Rows L2 VG FR HD M9
theorem num_out {cs : List (List Int)} {k : Int} (none : ∀ (b : Nat) (d : List Int), cs[b]? = some d → k ∉ d) : numV cs k = .non := by
  have all : ∀ n, valV (numF cs n) (Sum.inl k : L2.Key) = Option.none := by
    intro n
    induction n with
    | zero => rfl
    | succ n ih =>
      show valV (putRow (numF cs n) n (cs.getD n [])) _ = _
      rw [row_val, if_neg, ih]
      intro hm
      rw [List.getD_eq_getElem?_getD] at hm
      cases hc : cs[n]? with
      | none => rw [hc] at hm; cases hm
      | some d =>
        rw [hc] at hm
        exact none n d hc hm
  unfold numV
  rw [all]
  rfl
theorem num_cases (ts : List (List Int)) (n : Nat) (k : Int) : (numV (classesL ts n) k = .non ∧ ∀ (b : Nat) (d : List Int), (classesL ts n)[b]? = some d → k ∉ d) ∨ ∃ (a : Nat) (cl : List Int), (classesL ts n)[a]? = some cl ∧ k ∈ cl ∧ numV (classesL ts n) k = .int (a : Int) := by
  by_cases e : ∃ (a : Nat) (cl : List Int), (classesL ts n)[a]? = some cl ∧ k ∈ cl
  · obtain ⟨a, cl, ha, hk⟩ := e
    exact .inr ⟨a, cl, ha, hk, num_of ha hk fun b d hb hd => classes_only hb ha hd hk⟩
  · have no : ∀ (b : Nat) (d : List Int), (classesL ts n)[b]? = some d → k ∉ d := fun b d hb hd => e ⟨b, d, hb, hd⟩
    exact .inl ⟨num_out no, no⟩
end CK
namespace CK
open PySem PySem.Spec PyProof.Rows L2 VG FR HD M9
def LnR (H : Hp) (v : V) (p : V × Int) : Prop := ∃ t, v = .ref t ∧ H t = some (.tup [p.1, .int p.2])
theorem LnR.same {H H' : Hp} {v : V} {p : V × Int} (s : Same H H') (h : LnR H v p) : LnR H' v p := by
  obtain ⟨t, e, k⟩ := h
  exact ⟨t, e, s _ _ k⟩
theorem LnR.draw {p0 q0 : Addr} {H H' : Hp} {v : V} {p : V × Int} (hd : Hd p0 q0 H) (k : Keep p0 q0 H H') (h : LnR H v p) : LnR H' v p := by
  obtain ⟨t, e, kt⟩ := h
  obtain ⟨cs, st, h1, h2, _⟩ := hd
  exact ⟨t, e, k _ _ (fun z => by rw [z, h1] at kt; cases kt) (fun z => by rw [z, h2] at kt; cases kt) kt⟩
theorem LnR.upd {H : Hp} {D : Addr} {xs : List V} {o : HO} {v : V} {p : V × Int} (kD : H D = some (.lst xs)) (h : LnR H v p) : LnR (L2.upd H D o) v p := by
  obtain ⟨t, e, k⟩ := h
  exact ⟨t, e, by rw [upd_ne (fun z => by rw [z, kD] at k; cases k)]; exact k⟩
theorem LR.snocR {α : Type} {R : V → α → Prop} {vs : List V} {rs : List α} {v : V} {r : α} (h : LR R vs rs) (k : R v r) : LR R (vs ++ [v]) (rs ++ [r]) := LR.append h ⟨k, trivial⟩
end CK
namespace M24
open M2 FR CK
def US (s a : Int) : Int × Int := mk a s
section
variable {s : Int}
theorem US_low (hs : 0 < s) (a : Int) : Low (US s a).1 (US s a).2 := mk_low (by omega)
theorem US_eq (hs : 0 < s) (a : Int) : (US s a).1 * s = a * (US s a).2 := mk_eq (by omega)
theorem US_of (hs : 0 < s) {p : Int × Int} {a : Int} (h : Low p.1 p.2) (e : p.1 * s = a * p.2) : p = US s a := M14.eqv_mk (b := (a, s)) h hs e
theorem add_US (hs : 0 < s) (a b : Int) : add (US s a) (US s b) = US s (a + b) := by
  have la := US_low hs a
  have lb := US_low hs b
  obtain ⟨l, e⟩ := add_ok la lb
  refine US_of hs l ?_
  have ea := US_eq hs a
  have eb := US_eq hs b
  have pa := la.1
  have pb := lb.1
  refine Int.eq_of_mul_eq_mul_right (a := (US s a).2 * (US s b).2) (Int.ne_of_gt (Int.mul_pos pa pb)) ?_
  generalize (US s a).1 = x at *
  generalize (US s a).2 = y at *
  generalize (US s b).1 = z at *
  generalize (US s b).2 = t at *
  generalize (add (x, y) (z, t)).1 = m at *
  generalize (add (x, y) (z, t)).2 = n at *
  grind
theorem neg_US (hs : 0 < s) (a : Int) : neg (US s a) = US s (-a) := by
  refine US_of (p := neg (US s a)) hs (M9.low_neg (US_low hs a)) ?_
  have e := US_eq hs a
  show -(US s a).1 * s = -a * (US s a).2
  rw [Int.neg_mul, Int.neg_mul, e]
theorem US_bt {n : Nat} (hs : 0 < s) {a : Int} (h : a.natAbs < 2 ^ n) (h2 : s.natAbs < 2 ^ n) : Bt n (US s a) := by
  have z := mk_size (a := a) (b := s) (by omega)
  exact ⟨Nat.lt_of_le_of_lt z.1 h, Nat.lt_of_le_of_lt z.2 h2⟩
theorem US_zero (hs : 0 < s) : US s 0 = (0, 1) := (US_of (p := (0, 1)) hs ⟨(by show (0 : Int) < 1; decide), by
  show Nat.gcd (0 : Int).natAbs 1 = 1
  exact Nat.gcd_one_right _⟩ (by
  show 0 * s = 0 * 1
  omega)).symm
theorem US_small (hs : 0 < s) (a : Int) : (if (US s a).1 < 0 then -(US s a).1 else (US s a).1) < (US s a).2 ↔ -s < a ∧ a < s := by
  have e := US_eq hs a
  have p := (US_low hs a).1
  have h := M14.small_eqv (a := US s a) (b := (a, s)) p hs e
  unfold M14.absV at h
  rw [h]
  show (if a < 0 then -a else a) < s ↔ _
  split <;> omega
theorem less_US (hs : 0 < s) (a b : Int) : lessQ (US s a) (US s b) = decide (a < b) := by
  have ea := US_eq hs a
  have eb := US_eq hs b
  have pa := (US_low hs a).1
  have pb := (US_low hs b).1
  show decide ((US s a).1 * (US s b).2 < (US s b).1 * (US s a).2) = _
  refine decide_eq_decide.mpr ?_
  generalize (US s a).1 = x at *
  generalize (US s a).2 = y at *
  generalize (US s b).1 = z at *
  generalize (US s b).2 = t at *
  -- x s = a y, z s = b t
  have h1 : (x * t) * s = a * (y * t) := by grind
  have h2 : (z * y) * s = b * (y * t) := by grind
  have yt : 0 < y * t := Int.mul_pos pa pb
  constructor
  · intro h
    have h3 : (x * t) * s < (z * y) * s := Int.mul_lt_mul_of_pos_right h hs
    rw [h1, h2] at h3
    exact Int.lt_of_mul_lt_mul_right h3 (Int.le_of_lt yt)
  · intro h
    have h3 : a * (y * t) < b * (y * t) := Int.mul_lt_mul_of_pos_right h yt
    rw [← h1, ← h2] at h3
    exact Int.lt_of_mul_lt_mul_right h3 (Int.le_of_lt hs)
theorem time_US (hs : 0 < s) (c a : Int) : timeQ (c, 1) (US s a) = US s (c * a) := by
  have e := US_eq hs a
  have l := US_low hs a
  show mk (c * (US s a).1) (1 * (US s a).2) = _
  rw [Int.one_mul]
  refine US_of hs (mk_low (by have := l.1; omega)) ?_
  have e2 := mk_eq (a := c * (US s a).1) (b := (US s a).2) (by have := l.1; omega)
  have p := l.1
  generalize (mk (c * (US s a).1) (US s a).2).1 = x at *
  generalize (mk (c * (US s a).1) (US s a).2).2 = y at *
  generalize (US s a).1 = z at *
  generalize (US s a).2 = t at *
  refine Int.eq_of_mul_eq_mul_right (a := t) (by omega) ?_
  grind
theorem sum_fromS (hs : 0 < s) (cs : List Int) : ∀ a : Int, (cs.map (US s)).foldl add (US s a) = US s (a + cs.sum) := by
  induction cs with
  | nil => intro a; simp
  | cons c cs ih =>
    intro a
    rw [List.map_cons, List.foldl_cons, add_US hs, ih, List.sum_cons, Int.add_assoc]
theorem sumQ_US (hs : 0 < s) (cs : List Int) : sumQ (cs.map (US s)) = US s cs.sum := by
  have h := sum_fromS hs cs 0
  rw [US_zero hs, Int.zero_add] at h
  exact h
end
end M24
namespace CK
open PySem PySem.Spec PyProof.Rows L2 VG FR HD M24
/-- blocks: a colour for each class, and pieces -/
structure BlkC (K : PySem.W.Frag) (C : Addr) : Prop where
  c : Cls K C
  nc : NoAttr K C "colours"
  np : NoAttr K C "pieces"
def BlkO (K : PySem.W.Frag) (C : Addr) (H : Hp) (a : Addr) (cs : List Int) (Ps : List (List Int)) : Prop :=
  ∃ (dx c z : Addr) (xs : List V), H a = some (.ins C dx [((("colours" : String) : Str), .ref c), ((("pieces" : String) : Str), .ref z)]) ∧ SqT K H c (cs.map V.int) ∧ SqT K H z xs ∧ Tots K H xs Ps
theorem BlkO.mono {K : PySem.W.Frag} {C a : Addr} {H H' : Hp} {cs : List Int} {Ps : List (List Int)} (e : Same H H') (h : BlkO K C H a cs Ps) : BlkO K C H' a cs Ps := by
  obtain ⟨dx, c, z, xs, h1, h2, h3, h4⟩ := h
  exact ⟨dx, c, z, xs, e _ _ h1, seqT e h2, seqT e h3, h4.mono e⟩
def loneB (ls : List (List Int)) (P : List Int) : Bool := ls.any fun l => decide (l.length = 1) && P.contains (l.headD 0)
def spHasLone (K : PySem.W.Frag) (C : Addr) : Sp := fun vs H Q _ => ∃ (a pa : Addr) (ks : List Str) (ts : List (List Int)) (P : List Int), vs = [.ref a, .ref pa] ∧ Tab K C H a ks ts ∧ TabOk ks ts ∧ SqT K H pa (P.map V.int) ∧ ∀ H', Same H H' → Q (.bl (loneB (lotsC ts ks.length) P)) H'
def spFixed (K : PySem.W.Frag) (C CB : Addr) : Sp := fun vs H Q _ => ∃ (a b : Addr) (ks : List Str) (ts : List (List Int)) (cs : List Int) (Ps : List (List Int)), vs = [.ref a, .ref b] ∧ Tab K C H a ks ts ∧ TabOk ks ts ∧ BlkO K CB H b cs Ps ∧ Ps.length ≤ 12 ∧
  ∀ H' u, Same H H' → SqT K H' u ((Ps.map (loneB (lotsC ts ks.length))).map V.bl) → Q (.ref u) H'
/-- errors over a common bottom -/
def ErT (K : PySem.W.Frag) (s : Int) (H : Hp) (e : Addr) (es : List Int) : Prop := ∃ ys, SqT K H e ys ∧ Frs K H ys (es.map (US s))
theorem ErT.mono {K : PySem.W.Frag} {s : Int} {H H' : Hp} {e : Addr} {es : List Int} (z : Same H H') (h : ErT K s H e es) : ErT K s H' e es := by
  obtain ⟨ys, h1, h2⟩ := h
  exact ⟨ys, seqT z h1, h2.mono z⟩
structure ErOk (s : Int) (es : List Int) : Prop where
  pos : 0 < s
  sc : s.natAbs < 2 ^ 20
  few : ∀ e ∈ es, e.natAbs < 2 ^ 20
def sumC (es : List Int) (c : List Int) : Int := (c.map fun k => es.getD k.toNat 0).sum
def rowS (cs : List Int) (cls : List (List Int)) (es : List Int) : List Int := List.zipWith (fun c cl => c * sumC es cl) cs cls
theorem errsL_US {s : Int} (hs : 0 < s) (cls : List (List Int)) (es : List Int) : errsL cls (es.map (US s)) = cls.map fun c => US s (sumC es c) := by
  unfold errsL
  refine List.map_congr_left fun c _ => ?_
  unfold sumC
  rw [← sumQ_US hs, List.map_map]
  congr 1
  refine List.map_congr_left fun k _ => ?_
  show (es.map (US s)).getD k.toNat (0, 1) = US s (es.getD k.toNat 0)
  rw [List.getD_eq_getElem?_getD, List.getD_eq_getElem?_getD, List.getElem?_map]
  cases es[k.toNat]? with
  | none => exact (US_zero hs).symm
  | some e => rfl
theorem sum_few {es : List Int} (h : ∀ e ∈ es, e.natAbs < 2 ^ 20) : ∀ c : List Int, (sumC es c).natAbs ≤ c.length * 2 ^ 20
  | [] => by show (0 : Int).natAbs ≤ _; exact Nat.zero_le _
  | k :: c => by
    have ih := sum_few h c
    have e : sumC es (k :: c) = es.getD k.toNat 0 + sumC es c := by
      unfold sumC
      rw [List.map_cons, List.sum_cons]
    have h1 : (es.getD k.toNat 0).natAbs < 2 ^ 20 := by
      rw [List.getD_eq_getElem?_getD]
      cases q : es[k.toNat]? with
      | none => decide
      | some e => exact h e (List.mem_of_getElem? q)
    rw [e, List.length_cons, Nat.succ_mul]
    omega
theorem ErOk.es {s : Int} {es : List Int} (h : ErOk s es) : EsOk (es.map (US s)) := fun p mp => by
  obtain ⟨e, me, rfl⟩ := List.mem_map.mp mp
  exact ⟨US_low h.pos e, US_bt h.pos (h.few e me) h.sc⟩
def spSignedBy (K : PySem.W.Frag) (C : Addr) : Sp := fun vs H Q _ => ∃ (a c e : Addr) (ks : List Str) (ts : List (List Int)) (cs es : List Int) (s : Int), vs = [.ref a, .ref c, .ref e] ∧ Tab K C H a ks ts ∧ TabOk ks ts ∧ SqT K H c (cs.map V.int) ∧ cs.length = (classesL ts ks.length).length ∧ (∀ x ∈ cs, x = 1 ∨ x = -1) ∧ ErT K s H e es ∧ es.length = ks.length ∧ ErOk s es ∧
  ∀ H' u, Same H H' → ErT K s H' u (rowS cs (classesL ts ks.length) es) → Q (.ref u) H'
def spSigned (K : PySem.W.Frag) (C CB : Addr) : Sp := fun vs H Q _ => ∃ (a b e : Addr) (ks : List Str) (ts : List (List Int)) (cs : List Int) (Ps : List (List Int)) (es : List Int) (s : Int), vs = [.ref a, .ref b, .ref e] ∧ Tab K C H a ks ts ∧ TabOk ks ts ∧ BlkO K CB H b cs Ps ∧ cs.length = (classesL ts ks.length).length ∧ (∀ x ∈ cs, x = 1 ∨ x = -1) ∧ ErT K s H e es ∧ es.length = ks.length ∧ ErOk s es ∧
  ∀ H' u, Same H H' → ErT K s H' u (rowS cs (classesL ts ks.length) es) → Q (.ref u) H'
end CK
namespace CK
open PySem PySem.Spec PyProof.Rows L2 VG FR HD M24
def minI : List Int → Int
  | [] => 0
  | [x] => x
  | x :: y :: r => min x (minI (y :: r))
def maxI : List Int → Int
  | [] => 0
  | [x] => x
  | x :: y :: r => max x (maxI (y :: r))
theorem minI_ok : ∀ {l : List Int}, l ≠ [] → minI l ∈ l ∧ ∀ y ∈ l, minI l ≤ y
  | [], h => absurd rfl h
  | [x], _ => ⟨List.mem_singleton.mpr rfl, fun y m => by rw [List.mem_singleton.mp m]; exact Int.le_refl _⟩
  | x :: y :: r, _ => by
    have ⟨h1, h2⟩ := minI_ok (l := y :: r) (by simp)
    have e : minI (x :: y :: r) = min x (minI (y :: r)) := rfl
    rw [e]
    refine ⟨?_, fun z m => ?_⟩
    · rcases Int.le_total x (minI (y :: r)) with c | c
      · rw [Int.min_eq_left c]; exact List.mem_cons_self
      · rw [Int.min_eq_right c]; exact List.mem_cons_of_mem _ h1
    · rcases List.mem_cons.mp m with rfl | m
      · exact Int.min_le_left _ _
      · exact Int.le_trans (Int.min_le_right _ _) (h2 z m)
theorem maxI_ok : ∀ {l : List Int}, l ≠ [] → maxI l ∈ l ∧ ∀ y ∈ l, y ≤ maxI l
  | [], h => absurd rfl h
  | [x], _ => ⟨List.mem_singleton.mpr rfl, fun y m => by rw [List.mem_singleton.mp m]; exact Int.le_refl _⟩
  | x :: y :: r, _ => by
    have ⟨h1, h2⟩ := maxI_ok (l := y :: r) (by simp)
    have e : maxI (x :: y :: r) = max x (maxI (y :: r)) := rfl
    rw [e]
    refine ⟨?_, fun z m => ?_⟩
    · rcases Int.le_total x (maxI (y :: r)) with c | c
      · rw [Int.max_eq_right c]; exact List.mem_cons_of_mem _ h1
      · rw [Int.max_eq_left c]; exact List.mem_cons_self
    · rcases List.mem_cons.mp m with rfl | m
      · exact Int.le_max_left _ _
      · exact Int.le_trans (h2 z m) (Int.le_max_right _ _)
theorem minI_uniq {l : List Int} {m : Int} (h1 : m ∈ l) (h2 : ∀ y ∈ l, m ≤ y) : m = minI l := by
  have ⟨g1, g2⟩ := minI_ok (l := l) (fun e => by rw [e] at h1; cases h1)
  have := h2 _ g1
  have := g2 _ h1
  omega
theorem maxI_uniq {l : List Int} {m : Int} (h1 : m ∈ l) (h2 : ∀ y ∈ l, y ≤ m) : m = maxI l := by
  have ⟨g1, g2⟩ := maxI_ok (l := l) (fun e => by rw [e] at h1; cases h1)
  have := h2 _ g1
  have := g2 _ h1
  omega
def ptS (ls : List (List Int)) (row : List Int) (P : List Int) : List Int := (P.map fun k => row.getD k.toNat 0) ++ (if loneB ls P = true then [0] else [])
def ptsS (ls : List (List Int)) (row : List Int) (Ps : List (List Int)) : List (List Int) := Ps.map (ptS ls row)
def PtV (K : PySem.W.Frag) (s : Int) (H : Hp) (v : V) (w : List Int) : Prop := ∃ t, v = .ref t ∧ ErT K s H t w
theorem PtV.mono {K : PySem.W.Frag} {s : Int} {H H' : Hp} {v : V} {w : List Int} (z : Same H H') (h : PtV K s H v w) : PtV K s H' v w := by
  obtain ⟨t, e, k⟩ := h
  exact ⟨t, e, k.mono z⟩
theorem ErT.upd {K : PySem.W.Frag} {s : Int} {H : Hp} {D t : Addr} {xs ys : List V} {w : List Int} (kD : H D = some (.lst xs)) (h : ErT K s H t w) : ErT K s (L2.upd H D (.lst ys)) t w := by
  obtain ⟨zs, h1, h2⟩ := h
  exact ⟨zs, seqT_upd kD h1, Frs.upd kD h2⟩
theorem PtV.upd {K : PySem.W.Frag} {s : Int} {H : Hp} {D : Addr} {xs ys : List V} {v : V} {w : List Int} (kD : H D = some (.lst xs)) (h : PtV K s H v w) : PtV K s (L2.upd H D (.lst ys)) v w := by
  obtain ⟨t, e, k⟩ := h
  exact ⟨t, e, k.upd kD⟩
/-- pieces of some classes -/
structure PsOk (m : Nat) (Ps : List (List Int)) : Prop where
  few : Ps.length ≤ 12
  ne : ∀ P ∈ Ps, P ≠ []
  len : ∀ P ∈ Ps, P.length ≤ 12
  low : ∀ P ∈ Ps, ∀ k ∈ P, 0 ≤ k ∧ k < (m : Int)
theorem pt_ne {ls : List (List Int)} {row P : List Int} (h : P ≠ []) : ptS ls row P ≠ [] := by
  cases P with
  | nil => exact absurd rfl h
  | cons x P =>
    intro e
    unfold ptS at e
    rw [List.map_cons, List.cons_append] at e
    cases e
theorem row_few {cs : List Int} {cls : List (List Int)} {es : List Int} (h : ∀ e ∈ es, e.natAbs < 2 ^ 20) (sgn : ∀ x ∈ cs, x = 1 ∨ x = -1) (hc : ∀ c ∈ cls, c.length ≤ 12) : ∀ x ∈ rowS cs cls es, x.natAbs < 2 ^ 24 := fun x mx => by
  obtain ⟨i, ei⟩ := List.mem_iff_getElem?.mp mx
  unfold rowS at ei
  rw [List.getElem?_zipWith] at ei
  cases e1 : cs[i]? with
  | none => rw [e1] at ei; cases ei
  | some c =>
    cases e2 : cls[i]? with
    | none => rw [e1, e2] at ei; cases ei
    | some cl =>
      rw [e1, e2] at ei
      have ei : c * sumC es cl = x := Option.some.inj ei
      have := sum_few h cl
      have l := hc cl (List.mem_of_getElem? e2)
      have e24 : (2 : Nat) ^ 20 = 1048576 := by decide
      have e25 : (2 : Nat) ^ 24 = 16777216 := by decide
      have l2 : cl.length * 2 ^ 20 ≤ 12 * 2 ^ 20 := Nat.mul_le_mul_right _ l
      rcases sgn c (List.mem_of_getElem? e1) with z | z
      · rw [z, Int.one_mul] at ei
        omega
      · rw [z] at ei
        omega
theorem pt_few {ls : List (List Int)} {row P : List Int} {n : Nat} (h : ∀ x ∈ row, x.natAbs < 2 ^ n) : ∀ x ∈ ptS ls row P, x.natAbs < 2 ^ n := fun x mx => by
  unfold ptS at mx
  rcases List.mem_append.mp mx with m | m
  · obtain ⟨k, _, rfl⟩ := List.mem_map.mp m
    rw [List.getD_eq_getElem?_getD]
    cases q : row[k.toNat]? with
    | none => exact Nat.pow_pos (by decide)
    | some e => exact h e (List.mem_of_getElem? q)
  · split at m
    · rw [List.mem_singleton.mp m]
      exact Nat.pow_pos (by decide)
    · cases m
theorem best_min {K : PySem.W.Frag} {s : Int} {H : Hp} {xs : List V} {w : List Int} (pos : 0 < s) (fx : Frs K H xs (w.map (US s))) (ne : w ≠ []) : ∃ t, bestV (bestF lessQ none (xs.zip (w.map (US s)))) = .ref t ∧ SqT K H t (pV (US s (minI w))) := by
  obtain ⟨t, q, e, h, mq, lq⟩ := best_of tot_less fx (fun a ma => by
    obtain ⟨x, _, rfl⟩ := List.mem_map.mp ma
    exact (US_low pos x).1) (fun e => ne (List.map_eq_nil_iff.mp e))
  obtain ⟨x, mx, rfl⟩ := List.mem_map.mp mq
  have ex : x = minI w := minI_uniq mx fun y my => by
    have := lq _ (List.mem_map.mpr ⟨y, my, rfl⟩)
    rw [less_US pos] at this
    have := of_decide_eq_false this
    omega
  rw [ex] at h
  exact ⟨t, e, h⟩
theorem best_max {K : PySem.W.Frag} {s : Int} {H : Hp} {xs : List V} {w : List Int} (pos : 0 < s) (fx : Frs K H xs (w.map (US s))) (ne : w ≠ []) : ∃ t, bestV (bestF gtQ none (xs.zip (w.map (US s)))) = .ref t ∧ SqT K H t (pV (US s (maxI w))) := by
  obtain ⟨t, q, e, h, mq, lq⟩ := best_of tot_gt fx (fun a ma => by
    obtain ⟨x, _, rfl⟩ := List.mem_map.mp ma
    exact (US_low pos x).1) (fun e => ne (List.map_eq_nil_iff.mp e))
  obtain ⟨x, mx, rfl⟩ := List.mem_map.mp mq
  have ex : x = maxI w := maxI_uniq mx fun y my => by
    have := lq _ (List.mem_map.mpr ⟨y, my, rfl⟩)
    unfold gtQ at this
    rw [less_US pos] at this
    have := of_decide_eq_false this
    omega
  rw [ex] at h
  exact ⟨t, e, h⟩
/-- a pair: the least and the greatest point -/
def PrV (K : PySem.W.Frag) (s : Int) (H : Hp) (v : V) (w : List Int) : Prop := ∃ t t1 t2, v = .ref t ∧ SqT K H t [.ref t1, .ref t2] ∧ SqT K H t1 (pV (US s (minI w))) ∧ SqT K H t2 (pV (US s (maxI w)))
theorem PrV.mono {K : PySem.W.Frag} {s : Int} {H H' : Hp} {v : V} {w : List Int} (z : Same H H') (h : PrV K s H v w) : PrV K s H' v w := by
  obtain ⟨t, t1, t2, e, h1, h2, h3⟩ := h
  exact ⟨t, t1, t2, e, seqT z h1, seqT z h2, seqT z h3⟩
theorem PrV.upd {K : PySem.W.Frag} {s : Int} {H : Hp} {D : Addr} {xs ys : List V} {v : V} {w : List Int} (kD : H D = some (.lst xs)) (h : PrV K s H v w) : PrV K s (L2.upd H D (.lst ys)) v w := by
  obtain ⟨t, t1, t2, e, h1, h2, h3⟩ := h
  exact ⟨t, t1, t2, e, seqT_upd kD h1, seqT_upd kD h2, seqT_upd kD h3⟩
def spPoints (K : PySem.W.Frag) (C CB : Addr) : Sp := fun vs H Q _ => ∃ (a b e : Addr) (ks : List Str) (ts : List (List Int)) (cs : List Int) (Ps : List (List Int)) (es : List Int) (s : Int), vs = [.ref a, .ref b, .ref e] ∧ Tab K C H a ks ts ∧ TabOk ks ts ∧ BlkO K CB H b cs Ps ∧ cs.length = (classesL ts ks.length).length ∧ (∀ x ∈ cs, x = 1 ∨ x = -1) ∧ PsOk cs.length Ps ∧ ErT K s H e es ∧ es.length = ks.length ∧ ErOk s es ∧
  ∀ H' D vs, Same H H' → H' D = some (.lst vs) → LR (PtV K s H') vs (ptsS (lotsC ts ks.length) (rowS cs (classesL ts ks.length) es) Ps) → Q (.ref D) H'
/-- points that are told -/
def spSpan (K : PySem.W.Frag) : Sp := fun vs H Q _ => ∃ (t : Addr) (w : List Int) (s : Int), vs = [.ref t] ∧ ErT K s H t w ∧ w ≠ [] ∧ 0 < s ∧ s.natAbs < 2 ^ 20 ∧ (∀ x ∈ w, x.natAbs < 2 ^ 24) ∧ ∀ H' u, Same H H' → SqT K H' u (pV (US s (maxI w - minI w))) → Q (.ref u) H'
def spClose (K : PySem.W.Frag) : Sp := fun vs H Q _ => ∃ (t : Addr) (w : List Int) (s : Int), vs = [.ref t] ∧ ErT K s H t w ∧ w ≠ [] ∧ 0 < s ∧ s.natAbs < 2 ^ 20 ∧ (∀ x ∈ w, x.natAbs < 2 ^ 24) ∧ ∀ H', Same H H' → Q (.bl (decide (maxI w - minI w < s))) H'
def inB (s : Int) (pts : List (List Int)) : Bool := pts.all fun w => decide (maxI w - minI w < s)
def spInside (K : PySem.W.Frag) (C CB : Addr) : Sp := fun vs H Q _ => ∃ (a b e : Addr) (ks : List Str) (ts : List (List Int)) (cs : List Int) (Ps : List (List Int)) (es : List Int) (s : Int), vs = [.ref a, .ref b, .ref e] ∧ Tab K C H a ks ts ∧ TabOk ks ts ∧ BlkO K CB H b cs Ps ∧ cs.length = (classesL ts ks.length).length ∧ (∀ x ∈ cs, x = 1 ∨ x = -1) ∧ PsOk cs.length Ps ∧ ErT K s H e es ∧ es.length = ks.length ∧ ErOk s es ∧
  ∀ H', Same H H' → Q (.bl (inB s (ptsS (lotsC ts ks.length) (rowS cs (classesL ts ks.length) es) Ps))) H'
end CK
namespace CK
open PySem PySem.Spec PyProof.Rows L2 VG FR HD M24
theorem euc_end99 {x y P : Nat} (h : x * y * 2 ^ 99 ≤ 2 * P) (o : y ≤ x) (hp : P < 2 ^ 90) : y = 0 := by
  rcases Nat.eq_zero_or_pos y with z | z
  · exact z
  · exfalso
    have h1 : 1 * 2 ^ 99 ≤ x * y * 2 ^ 99 := Nat.mul_le_mul_right _ (Nat.mul_pos (by omega) z)
    have h2 : 2 * P < 2 * 2 ^ 90 := by omega
    have h3 : 2 * 2 ^ 90 ≤ 1 * 2 ^ 99 := by decide
    omega
def spLowest : Sp := fun vs H Q _ => ∃ a b : Int, vs = [.int a, .int b] ∧ 0 < b ∧ a.natAbs < 2 ^ 45 ∧ b.natAbs < 2 ^ 45 ∧ ∀ H' u, Same H H' → H u = none → H' u = some (.tup (pV (US b a))) → Q (.ref u) H'
def spLawFrs (K : PySem.W.Frag) : Sp := fun vs H Q _ => ∃ (l : Addr) (ns : List Int) (s : Int), vs = [.ref l, .int s] ∧ SqL K H l (ns.map V.int) ∧ ns.length ≤ 100 ∧ 0 < s ∧ s.natAbs < 2 ^ 45 ∧ (∀ x ∈ ns, x.natAbs < 2 ^ 45) ∧ ∀ H' u, Same H H' → ErT K s H' u ns → Q (.ref u) H'
/-- a case: how many kinds, totals, classes, colours, pieces, which are fixed -/
def CaseT (K : PySem.W.Frag) (H : Hp) (a : Addr) (n : Nat) (ts cls : List (List Int)) (cs : List Int) (Ps : List (List Int)) (fx : List Bool) : Prop := ∃ (t cl c p f : Addr) (xs zs : List V), SqT K H a [.int n, .ref t, .ref cl, .ref c, .ref p, .ref f] ∧ SqT K H t xs ∧ Tots K H xs ts ∧ RowsL K H cl cls ∧ SqT K H c (cs.map V.int) ∧ SqT K H p zs ∧ Tots K H zs Ps ∧ SqL K H f (fx.map V.bl)
theorem CaseT.mono {K : PySem.W.Frag} {H H' : Hp} {a : Addr} {n : Nat} {ts cls : List (List Int)} {cs : List Int} {Ps : List (List Int)} {fx : List Bool} (s : Same H H') (h : CaseT K H a n ts cls cs Ps fx) : CaseT K H' a n ts cls cs Ps fx := by
  obtain ⟨t, cl, c, p, f, xs, zs, h1, h2, h3, h4, h5, h6, h7, h8⟩ := h
  exact ⟨t, cl, c, p, f, xs, zs, seqT s h1, seqT s h2, h3.mono s, h4.mono s, seqT s h5, seqT s h6, h7.mono s, seqLs s h8⟩
structure CaseOk (n : Nat) (ts cls : List (List Int)) (cs : List Int) (Ps : List (List Int)) (fx : List Bool) : Prop where
  n12 : n ≤ 12
  t12 : ts.length ≤ 12
  tlen : ∀ c ∈ ts, c.length ≤ 12 ∧ ∀ k ∈ c, 0 ≤ k ∧ k < (n : Int)
  cl12 : cls.length ≤ 12
  clen : ∀ c ∈ cls, c.length ≤ 12 ∧ c ≠ [] ∧ ∀ k ∈ c, 0 ≤ k ∧ k < (n : Int)
  cl : cs.length = cls.length
  sgn : ∀ x ∈ cs, x = 1 ∨ x = -1
  ps : PsOk cs.length Ps
  fl : fx.length = Ps.length
def ptF (row : List Int) (P : List Int) (b : Bool) : List Int := (P.map fun k => row.getD k.toNat 0) ++ (if b = true then [0] else [])
def ptsF (row : List Int) (Ps : List (List Int)) (fx : List Bool) : List (List Int) := List.zipWith (ptF row) Ps fx
def spPts (K : PySem.W.Frag) : Sp := fun vs H Q _ => ∃ (a r : Addr) (n : Nat) (ts cls : List (List Int)) (cs : List Int) (Ps : List (List Int)) (fx : List Bool) (row : List Int), vs = [.ref a, .ref r] ∧ CaseT K H a n ts cls cs Ps fx ∧ CaseOk n ts cls cs Ps fx ∧ SqL K H r (row.map V.int) ∧ row.length = cs.length ∧
  ∀ H' u, Same H H' → (∃ vs, H' u = some (.lst vs) ∧ LR (IntsL K H') vs (ptsF row Ps fx)) → Q (.ref u) H'
def spIns (K : PySem.W.Frag) : Sp := fun vs H Q _ => ∃ (a r : Addr) (s : Int) (n : Nat) (ts cls : List (List Int)) (cs : List Int) (Ps : List (List Int)) (fx : List Bool) (row : List Int), vs = [.ref a, .ref r, .int s] ∧ CaseT K H a n ts cls cs Ps fx ∧ CaseOk n ts cls cs Ps fx ∧ SqL K H r (row.map V.int) ∧ row.length = cs.length ∧
  ∀ H', Same H H' → Q (.bl (inB s (ptsF row Ps fx))) H'
end CK
namespace CK
open PySem PySem.Spec PyProof.Rows L2 VG FR HD M24
/-- own lists of integers -/
def IntsX (F : Addr → Prop) (H : Hp) (v : V) (c : List Int) : Prop := ∃ t, v = .ref t ∧ F t ∧ H t = some (.lst (c.map V.int))
theorem IntsX.mono {F : Addr → Prop} {H H' : Hp} {v : V} {c : List Int} (s : Same H H') (h : IntsX F H v c) : IntsX F H' v c := by
  obtain ⟨t, e, f, k⟩ := h
  exact ⟨t, e, f, s _ _ k⟩
theorem IntsX.upd {F : Addr → Prop} {D : Addr} (ne : ∀ a, F a → a ≠ D) {H : Hp} {o : HO} {v : V} {c : List Int} (h : IntsX F H v c) : IntsX F (L2.upd H D o) v c := by
  obtain ⟨t, e, f, k⟩ := h
  exact ⟨t, e, f, by rw [upd_ne (ne t f)]; exact k⟩
theorem IntsX.weak {F F' : Addr → Prop} (f : ∀ a, F a → F' a) {H : Hp} {v : V} {c : List Int} (h : IntsX F H v c) : IntsX F' H v c := by
  obtain ⟨t, e, g, k⟩ := h
  exact ⟨t, e, f t g, k⟩
theorem IntsX.draw {p q : Addr} {H H' : Hp} {v : V} {c : List Int} (kp : Keep p q H H') (h : IntsX (fun a => a ≠ p ∧ a ≠ q) H v c) : IntsX (fun a => a ≠ p ∧ a ≠ q) H' v c := by
  obtain ⟨t, e, g, k⟩ := h
  exact ⟨t, e, g, kp _ _ g.1 g.2 k⟩
theorem LR.set {α : Type} {R : V → α → Prop} : ∀ {vs : List V} {rs : List α} {i : Nat} {v : V} {r : α}, LR R vs rs → R v r → LR R (vs.set i v) (rs.set i r)
  | [], [], _, _, _, _, _ => trivial
  | _ :: _, _ :: _, 0, _, _, h, k => ⟨k, h.2⟩
  | _ :: _, _ :: _, i + 1, _, _, h, k => ⟨h.1, LR.set (i := i) h.2 k⟩
  | [], _ :: _, _, _, _, h, _ => h.elim
  | _ :: _, [], _, _, _, h, _ => h.elim
theorem lrx_dp {K : PySem.W.Frag} {F : Addr → Prop} {H : Hp} : ∀ {vs : List V} {cs : List (List Int)}, LR (IntsX F H) vs cs → DpAll K H vs (dL cs)
  | [], [], _ => .nil
  | _ :: _, _ :: _, ⟨⟨t, e, _, k⟩, r⟩ => by
    subst e
    exact .cons (HD.dp_ints (.inl (.inl k))) (lrx_dp r)
  | [], _ :: _, h => h.elim
  | _ :: _, [], h => h.elim
def spLawCls24 (K : PySem.W.Frag) : Sp := fun vs H Q _ => ∃ (l : Addr) (m : Nat) (xs : List V) (ts : List (List Int)), vs = [.int m, .ref l] ∧ SqL K H l xs ∧ Tots K H xs ts ∧ ts.length ≤ 12 ∧ m ≤ 12 ∧ ∀ (H' : Hp) (u : Addr) (ys : List V), Same H H' → H u = none → H' u = some (.lst ys) → LR (IntsX (fun a => H a = none) H') ys (classesL ts m) → Q (.ref u) H'
end CK
namespace PyProof.Rows
open PySem
section
variable {prog : Program} {w : World} {A : Around} {E : Value → Shared → Prop} {s : Shared}
theorem sorted_tupI {l : Addr} {vs : List Value} {ns : List Int} {Q : Value → Shared → Prop} (hl : s.heap.IsTuple l vs.toArray) (hI : IntsAre vs ns) (h64 : vs.length < 64)
    (h : ∀ (out : Array Value) (ns' : List Int), IntsAre out.toList ns' → ns'.Perm ns → ns'.Pairwise (· ≤ ·) → Q (.ref (s.heap.objs.size + 1)) { s with heap := sortedAll s.heap vs out }) :
    wpAny (model prog w) A (call (.builtin "sorted") [.ref l]) Q E s := by
  refine Calls.call_function_entry kind_sorted plain_sorted entry_sorted (args_sorted1 _) ?_
  unfold Builtin.«sorted»
  refine wpAny_bind (m := checkCount "sorted" 1 1 _) (wpAny_pure ?_)
  refine wpAny_bind (collect_tupS hl (by rw [sizeLine_eq]; omega) ?_)
  refine wpAny_bind (wpAny_newList ?_ (by rw [sizeLine_eq]; omega))
  have hsz : ((s.heap.push (seqObj "list" #[] 0)).update s.heap.objs.size (Obj.mapSeq (· ++ vs.toArray))).objs.size = s.heap.objs.size + 1 := by
    rw [Heap.size_update, size_push']
  have hoL : (((s.heap.push (seqObj "list" #[] 0)).update s.heap.objs.size (Obj.mapSeq (· ++ vs.toArray))).push (seqObj "list" vs.toArray 0)).get? (s.heap.objs.size + 1) = some (seqObj "list" vs.toArray 0) := by
    rw [← hsz]; exact Heap.get?_push_size _ rfl
  show wpAny _ _ _ _ _ { s with heap := ((s.heap.push (seqObj "list" #[] 0)).update s.heap.objs.size (Obj.mapSeq (· ++ vs.toArray))).push (seqObj "list" vs.toArray 0) }
  rw [hsz]
  refine wpAny_bind (wpAny_holding (wpAny_call_entry slot_list_sort ⟨_, hoL, rfl⟩ entry_list_sort (list_sort_tree hoL hI h64 fun out ns' a1 a2 a3 => ⟨_, rfl, ?_⟩) (args_list_sort _)))
  exact wpAny_pure ⟨_, rfl, h out ns' a1 a2 a3⟩
end
end PyProof.Rows
namespace L2
open PySem PySem.Spec PyProof.Rows
def rSortedTI (K : PySem.W.Frag) : List V → Hp → VK → Prop := fun vs H Q => ∃ (a : Addr) (ns : List Int), vs = [V.ref a] ∧ SqT K H a (ns.map V.int) ∧ ns.length < 64 ∧
  ∀ (ns' : List Int) (p : Addr), ns'.Perm ns → ns'.Pairwise (· ≤ ·) → H p = none → Q (.ref p) (upd H p (.lst (ns'.map V.int)))
theorem cr_sortedTI {X : Cx} : CallR X (.builtin "sorted") (rSortedTI X.K) := by
  intro pins s σ H vs us Q I r h
  obtain ⟨a, ns, rfl, hs, h64, q⟩ := h
  obtain ⟨its, rv, hl, _⟩ := I.tuple hs
  rw [Vals.ref1 r]
  have hlen0 := rv.length
  rw [List.length_map] at hlen0
  refine PyProof.Rows.sorted_tupI hl rv.ints (by rw [← hlen0]; exact h64) fun out ns' h1 h2 h3 => ?_
  obtain ⟨ep, he'⟩ := PyProof.Rows.sortedAll_at s.heap its out
  have hlen : (ns'.map V.int).length ≤ sizeLine := by rw [List.length_map, h2.length_eq]; exact small64 h64
  exact ⟨.ref _, upd H (s.heap.objs.size + 1) (.lst (ns'.map V.int)), I.laid (t' := s.toks) (fun _ _ => PyProof.Rows.sortedAll_old) (Nat.le_succ _) ⟨hlen, out.toList, ep, vals_of_ints h1, he'⟩, rfl, q ns' _ h2 h3 (I.hok.fresh (Nat.le_succ _))⟩
end L2
namespace CK
open PySem PySem.Spec PyProof.Rows L2 VG FR HD M24
structure GTot (G : Nat → List Int) (side : Nat → Bool) (c : List Int) : Prop where
  un : c = [] ∨ (∃ g, ∀ k, k ∈ c ↔ k ∈ G g) ∨ ∃ g o, side g ≠ side o ∧ ∀ k, k ∈ c ↔ k ∈ G g ∨ k ∈ G o
structure GT (ts : List (List Int)) : Prop where
  ex : ∃ (G : Nat → List Int) (side : Nat → Bool), (∀ g o k, k ∈ G g → k ∈ G o → g = o) ∧ (∀ c ∈ ts, GTot G side c) ∧ ∀ g, (G g).length ≤ 2
theorem pick_congr {P Q : Nat → Bool} : ∀ {n : Nat}, (∀ j, j < n → P j = Q j) → pick P n = pick Q n
  | 0, _ => rfl
  | n + 1, h => by
    have ih := pick_congr (P := P) (Q := Q) (n := n) fun j hj => h j (by omega)
    have e := h n (by omega)
    cases q : Q n with
    | true => rw [pick_yes (by rw [e]; exact q), pick_yes q, ih]
    | false => rw [pick_no (by rw [e]; exact q), pick_no q, ih]
theorem fT_eq {ts : List (List Int)} {i i2 : Nat} (h : ∀ c ∈ ts, ((i : Int) ∈ c ↔ (i2 : Int) ∈ c)) : fT ts i = fT ts i2 := by
  rw [← rowK_fT, ← rowK_fT]
  refine pick_congr fun j hj => ?_
  have e : ts[j]? = some ts[j] := List.getElem?_eq_getElem hj
  rw [List.getD_eq_getElem?_getD, e]
  show ts[j].contains (i : Int) = ts[j].contains (i2 : Int)
  rw [Bool.eq_iff_iff, List.contains_iff_mem, List.contains_iff_mem]
  exact h _ (List.getElem_mem hj)
theorem cls_mem {ts : List (List Int)} {n a : Nat} {cl : List Int} {i : Nat} (ha : (classesL ts n)[a]? = some cl) : (i : Int) ∈ cl ↔ i < n ∧ (sgL (fT ts) n)[a]? = some (fT ts i) := by
  rw [classes_eq, List.getElem?_map] at ha
  obtain ⟨key, ek, rfl⟩ := Option.map_eq_some_iff.mp ha
  rw [ek, mem_pick]
  constructor
  · rintro ⟨j, h1, h2, e⟩
    have : i = j := by omega
    subst this
    have e2 : fT ts i = key := of_decide_eq_true h2
    exact ⟨h1, by rw [e2]⟩
  · rintro ⟨h1, h2⟩
    exact ⟨i, h1, decide_eq_true (Option.some.inj h2).symm, rfl⟩
theorem num_iff {ts : List (List Int)} {n : Nat} {k : Int} {a : Nat} : numV (classesL ts n) k = .int (a : Int) ↔ ∃ cl, (classesL ts n)[a]? = some cl ∧ k ∈ cl := by
  constructor
  · intro h
    rcases num_cases ts n k with ⟨e, _⟩ | ⟨b, cl, h1, h2, e⟩
    · rw [e] at h; cases h
    · rw [e] at h
      have : b = a := by have := V.int.inj h; omega
      subst this
      exact ⟨cl, h1, h2⟩
  · rintro ⟨cl, h1, h2⟩
    exact num_of h1 h2 fun b d hb hd => classes_only hb h1 hd h2
/-- kinds of one group lie in one class -/
theorem group_one {ts : List (List Int)} {n : Nat} {G : Nat → List Int} {side : Nat → Bool} (dis : ∀ g o k, k ∈ G g → k ∈ G o → g = o) (un : ∀ c ∈ ts, GTot G side c) {g i i2 a b : Nat} {A B : List Int} (h1 : (i : Int) ∈ G g) (h2 : (i2 : Int) ∈ G g) (hA : (classesL ts n)[a]? = some A) (hB : (classesL ts n)[b]? = some B) (m1 : (i : Int) ∈ A) (m2 : (i2 : Int) ∈ B) : a = b := by
  have half : ∀ {x y : Nat}, (x : Int) ∈ G g → (y : Int) ∈ G g → ∀ c ∈ ts, (x : Int) ∈ c → (y : Int) ∈ c := fun {x y} hx hy c mc h => by
    rcases (un c mc).un with e | ⟨g2, e⟩ | ⟨g2, o2, _, e⟩
    · rw [e] at h; cases h
    · have := dis _ _ _ ((e _).mp h) hx
      subst this
      exact (e _).mpr hy
    · rcases (e _).mp h with z | z
      · have := dis _ _ _ z hx
        subst this
        exact (e _).mpr (.inl hy)
      · have := dis _ _ _ z hx
        subst this
        exact (e _).mpr (.inr hy)
  have ef : fT ts i = fT ts i2 := fT_eq fun c mc => ⟨half h1 h2 c mc, half h2 h1 c mc⟩
  have ⟨_, e1⟩ := (cls_mem hA).mp m1
  have ⟨_, e2⟩ := (cls_mem hB).mp m2
  rw [ef] at e1
  exact nodup_at (sg_nodup _ _) e1 e2
/-- the lot of a total: what it has -/
theorem lot_at {ts : List (List Int)} {n : Nat} (hn : n ≤ 12) (ok : ∀ c ∈ ts, LotOk (n : Int) c) {j : Nat} {c l : List Int} (ec : ts[j]? = some c) (el : (lotsC ts n)[j]? = some l) {x : Int} (mx : x ∈ l) : ∃ (a i : Nat) (A : List Int), x = (a : Int) ∧ (classesL ts n)[a]? = some A ∧ (i : Int) ∈ A ∧ (i : Int) ∈ c := by
  have by_ : ByCls ts n (lotsC ts n) := byCls_rows hn ok
  have xl := (lotsC_low ts hn l (List.mem_of_getElem? el)).2 x mx
  obtain ⟨a, rfl⟩ := Int.eq_ofNat_of_zero_le xl.1
  obtain ⟨k, mk, e⟩ := (by_.rel j c l ec el (a : Int)).mp mx
  obtain ⟨A, h1, h2⟩ := num_iff.mp e
  have ⟨k0, _⟩ := (ok c (List.mem_of_getElem? ec)).2.1 k mk
  obtain ⟨i, rfl⟩ := Int.eq_ofNat_of_zero_le k0
  exact ⟨a, i, A, rfl, h1, h2, mk⟩
theorem gt_two {ts : List (List Int)} {n : Nat} (hn : n ≤ 12) (ok : ∀ c ∈ ts, LotOk (n : Int) c) (h : GT ts) : ∀ l ∈ lotsC ts n, l.length ≤ 2 := fun l ml => by
  obtain ⟨G, side, dis, un, _⟩ := h.ex
  obtain ⟨j, el⟩ := List.mem_iff_getElem?.mp ml
  have hj := (List.getElem?_eq_some_iff.mp el).1
  rw [lotsC_len] at hj
  have ec : ts[j]? = some ts[j] := List.getElem?_eq_getElem hj
  generalize ts[j] = c at ec
  have mc := List.mem_of_getElem? ec
  have asc := lotsC_asc ts n l ml
  match l, asc, el with
  | [], _, _ => exact Nat.zero_le _
  | [_], _, _ => exact (by decide : 1 ≤ 2)
  | [_, _], _, _ => exact Nat.le_refl _
  | x :: y :: z :: r, asc, el =>
    exfalso
    obtain ⟨a, i, A, rfl, hA, iA, ic⟩ := lot_at hn ok ec el (List.mem_cons_self)
    obtain ⟨b, i2, B, rfl, hB, iB, ic2⟩ := lot_at hn ok ec el (List.mem_cons_of_mem _ List.mem_cons_self)
    obtain ⟨d, i3, D, rfl, hD, iD, ic3⟩ := lot_at hn ok ec el (List.mem_cons_of_mem _ (List.mem_cons_of_mem _ List.mem_cons_self))
    have ⟨p1, p2⟩ := List.pairwise_cons.mp asc
    have ⟨p3, _⟩ := List.pairwise_cons.mp p2
    have ab := p1 _ List.mem_cons_self
    have ad := p1 _ (List.mem_cons_of_mem _ List.mem_cons_self)
    have bd := p3 _ List.mem_cons_self
    have same : ∀ {g x y u v : Nat} {U V : List Int}, (classesL ts n)[u]? = some U → (classesL ts n)[v]? = some V → (x : Int) ∈ U → (y : Int) ∈ V → (x : Int) ∈ G g → (y : Int) ∈ G g → u = v := fun h1 h2 m1 m2 g1 g2 => group_one dis un g1 g2 h1 h2 m1 m2
    rcases (un c mc).un with e | ⟨g, e⟩ | ⟨g, o, _, e⟩
    · rw [e] at ic; cases ic
    · have := same hA hB iA iB ((e _).mp ic) ((e _).mp ic2)
      omega
    · rcases (e _).mp ic with z1 | z1 <;> rcases (e _).mp ic2 with z2 | z2 <;> rcases (e _).mp ic3 with z3 | z3
      · have := same hA hB iA iB z1 z2; omega
      · have := same hA hB iA iB z1 z2; omega
      · have := same hA hD iA iD z1 z3; omega
      · have := same hB hD iB iD z2 z3; omega
      · have := same hB hD iB iD z2 z3; omega
      · have := same hA hD iA iD z1 z3; omega
      · have := same hA hB iA iB z1 z2; omega
      · have := same hA hB iA iB z1 z2; omega
theorem gt_col {ts : List (List Int)} {n : Nat} (hn : n ≤ 12) (ok : ∀ c ∈ ts, LotOk (n : Int) c) (h : GT ts) : ∃ β : Int → Bool, ∀ a b, [a, b] ∈ lotsC ts n → β a ≠ β b := by
  classical
  obtain ⟨G, side, dis, un, _⟩ := h.ex
  let hd : Int → Int := fun a => headI ((classesL ts n).getD a.toNat [])
  let gr : Int → Nat := fun k => if q : ∃ g, k ∈ G g then Classical.choose q else 0
  have grE : ∀ {k : Int} {g : Nat}, k ∈ G g → gr k = g := fun {k g} h => by
    have q : ∃ g, k ∈ G g := ⟨g, h⟩
    show (if q : ∃ g, k ∈ G g then Classical.choose q else 0) = g
    rw [dif_pos q]
    exact dis _ _ _ (Classical.choose_spec q) h
  refine ⟨fun a => side (gr (hd a)), fun a b ml => ?_⟩
  obtain ⟨j, el⟩ := List.mem_iff_getElem?.mp ml
  have hj := (List.getElem?_eq_some_iff.mp el).1
  rw [lotsC_len] at hj
  have ec : ts[j]? = some ts[j] := List.getElem?_eq_getElem hj
  generalize ts[j] = c at ec
  have mc := List.mem_of_getElem? ec
  have asc := lotsC_asc ts n _ ml
  have ab := (List.pairwise_cons.mp asc).1 b List.mem_cons_self
  obtain ⟨a, i, A, rfl, hA, iA, ic⟩ := lot_at hn ok ec el (List.mem_cons_self)
  obtain ⟨b, i2, B, rfl, hB, iB, ic2⟩ := lot_at hn ok ec el (List.mem_cons_of_mem _ List.mem_cons_self)
  have head : ∀ {a i : Nat} {A : List Int}, (classesL ts n)[a]? = some A → (i : Int) ∈ A → (i : Int) ∈ c → ∃ u : Nat, hd (a : Int) = (u : Int) ∧ (u : Int) ∈ A ∧ (u : Int) ∈ c := fun {a i A} hA iA ic => by
    have mA := headI_mem (cls_ne A (List.mem_of_getElem? hA))
    obtain ⟨u, _, eu⟩ := classes_below (List.mem_of_getElem? hA) mA
    have e : hd (a : Int) = headI A := by
      show headI ((classesL ts n).getD ((a : Int)).toNat []) = _
      rw [Int.toNat_natCast, List.getD_eq_getElem?_getD, hA]
      rfl
    rw [eu] at mA e
    exact ⟨u, e, mA, (cls_alike hA iA mA mc).mp ic⟩
  obtain ⟨u, eu, uA, uc⟩ := head hA iA ic
  obtain ⟨v, ev, vB, vc⟩ := head hB iB ic2
  show side (gr (hd (a : Int))) ≠ side (gr (hd (b : Int)))
  rw [eu, ev]
  rcases (un c mc).un with e | ⟨g, e⟩ | ⟨g, o, ne, e⟩
  · rw [e] at uc; cases uc
  · have := group_one dis un ((e _).mp uc) ((e _).mp vc) hA hB uA vB
    omega
  · rcases (e _).mp uc with z1 | z1 <;> rcases (e _).mp vc with z2 | z2
    · have := group_one dis un z1 z2 hA hB uA vB; omega
    · rw [grE z1, grE z2]; exact ne
    · rw [grE z1, grE z2]; exact fun q => ne q.symm
    · have := group_one dis un z1 z2 hA hB uA vB; omega
/-- classes have four kinds at most -/
theorem gt_four {ts : List (List Int)} {n : Nat} (h : GT ts) : ∀ A ∈ classesL ts n, A.length ≤ 4 := fun A mA => by
  obtain ⟨G, side, dis, un, sm⟩ := h.ex
  obtain ⟨a, ha⟩ := List.mem_iff_getElem?.mp mA
  have hm := headI_mem (cls_ne A mA)
  obtain ⟨u, _, eu⟩ := classes_below mA hm
  rw [eu] at hm
  obtain ⟨j, e1, e2, e3, e4⟩ := cls_sign ha
  have : u = j := by omega
  subst this
  have e5 : pick (fun j => (ts.getD j []).contains (u : Int)) ts.length ≠ [] := e4
  obtain ⟨x, mx⟩ := List.exists_mem_of_ne_nil _ e5
  obtain ⟨y, y1, y2, y3⟩ := mem_pick.mp mx
  have ec : ts[y]? = some ts[y] := List.getElem?_eq_getElem y1
  have mc := List.mem_of_getElem? ec
  have y2 : (ts.getD y []).contains (u : Int) = true := y2
  rw [List.getD_eq_getElem?_getD, ec] at y2
  have uc : (u : Int) ∈ ts[y] := List.contains_iff_mem.mp y2
  generalize ts[y] = c at mc uc
  have nd : A.Nodup := by
    rw [classes_eq] at mA
    obtain ⟨key, _, rfl⟩ := List.mem_map.mp mA
    exact pick_nodup _ _
  have sub : ∀ k ∈ A, k ∈ c := fun k mk => (cls_alike ha hm mk mc).mp uc
  rcases (un c mc).un with e | ⟨g, e⟩ | ⟨g, o, _, e⟩
  · rw [e] at uc; cases uc
  · have := nodup_le A (G g) nd fun k mk => (e k).mp (sub k mk)
    have := sm g
    omega
  · have := nodup_le A (G g ++ G o) nd fun k mk => List.mem_append.mpr ((e k).mp (sub k mk))
    rw [List.length_append] at this
    have := sm g
    have := sm o
    omega
end CK
namespace CK
open PySem PySem.Spec PyProof.Rows L2 VG FR HD M24
def spMixedL (K : PySem.W.Frag) : Sp := fun vs H Q _ => ∃ (p q l : Addr) (xs : List V), vs = [.ref p, .ref l] ∧ Hd p q H ∧ SqL K H l xs ∧ l ≠ p ∧ l ≠ q ∧ xs.length < 1000 ∧
  ∀ (H' : Hp) (u : Addr) (ys : List V), On p q (frz p q H) H' → H u = none → u ≠ p ∧ u ≠ q → H' u = some (.lst ys) → ys.Perm xs → Q (.ref u) H'
def SN (zs : List Nat) (i : Nat) : Nat := (zs.take i).sum
theorem SN_succ {zs : List Nat} {i : Nat} (h : i < zs.length) : SN zs (i + 1) = SN zs i + zs.getD i 0 := by
  unfold SN
  rw [List.take_add_one, List.getElem?_eq_getElem h, List.sum_append, List.getD_eq_getElem?_getD, List.getElem?_eq_getElem h]
  show _ + [zs[i]].sum = _ + zs[i]
  simp
theorem SN_mono {zs : List Nat} {i j : Nat} (h : i ≤ j) : SN zs i ≤ SN zs j := by
  induction j with
  | zero => rw [show i = 0 by omega]; exact Nat.le_refl _
  | succ j ih =>
    by_cases e : i = j + 1
    · rw [e]; exact Nat.le_refl _
    · refine Nat.le_trans (ih (by omega)) ?_
      by_cases l : j < zs.length
      · rw [SN_succ l]; omega
      · unfold SN
        rw [List.take_of_length_le (by omega), List.take_of_length_le (by omega)]
        exact Nat.le_refl _
theorem SN_all (zs : List Nat) : SN zs zs.length = zs.sum := by
  unfold SN
  rw [List.take_length]
theorem sum_int : ∀ zs : List Nat, (zs.map fun z => ((z : Nat) : Int)).sum = ((zs.sum : Nat) : Int)
  | [] => rfl
  | z :: zs => by
    rw [List.map_cons, List.sum_cons, List.sum_cons, sum_int zs]
    omega
theorem cut_mid (xs : List V) {a b : Nat} (h : a ≤ b) (hb : b ≤ xs.length) : cutV xs (some (a : Int)) (some (b : Int)) = (xs.drop a).take (b - a) := by
  unfold cutV
  have e1 : HT.sIx xs.length 0 (some (a : Int)) = a := by
    simp [HT.sIx]
    rw [if_neg (by omega)]
    omega
  have e2 : HT.sIx xs.length xs.length (some (b : Int)) = b := by
    simp [HT.sIx]
    rw [if_neg (by omega)]
    omega
  rw [e1, e2]
/-- the kinds of a group -/
def grp (ord : List Int) (zs : List Nat) (g : Nat) : List Int := (ord.drop (SN zs g)).take (SN zs (g + 1) - SN zs g)
theorem mem_grp {ord : List Int} {zs : List Nat} {g : Nat} {k : Int} (hl : SN zs (g + 1) ≤ ord.length) : k ∈ grp ord zs g ↔ ∃ j, SN zs g ≤ j ∧ j < SN zs (g + 1) ∧ ord[j]? = some k := by
  have mono := SN_mono (zs := zs) (i := g) (j := g + 1) (by omega)
  unfold grp
  rw [List.mem_iff_getElem?]
  constructor
  · rintro ⟨j, e⟩
    have lt := (List.getElem?_eq_some_iff.mp e).1
    rw [List.length_take, List.length_drop] at lt
    rw [List.getElem?_take_of_lt (by omega), List.getElem?_drop] at e
    exact ⟨SN zs g + j, by omega, by omega, e⟩
  · rintro ⟨j, h1, h2, e⟩
    refine ⟨j - SN zs g, ?_⟩
    rw [List.getElem?_take_of_lt (by omega), List.getElem?_drop, show SN zs g + (j - SN zs g) = j from by omega]
    exact e
theorem grp_apart {ord : List Int} {zs : List Nat} (nd : ord.Nodup) {g o : Nat} {k : Int} (h1 : SN zs (g + 1) ≤ ord.length) (h2 : SN zs (o + 1) ≤ ord.length) (m1 : k ∈ grp ord zs g) (m2 : k ∈ grp ord zs o) : g = o := by
  obtain ⟨i, a1, a2, ei⟩ := (mem_grp h1).mp m1
  obtain ⟨j, b1, b2, ej⟩ := (mem_grp h2).mp m2
  have e : i = j := nodup_at nd ei ej
  subst e
  rcases Nat.lt_trichotomy g o with z | z | z
  · have := SN_mono (zs := zs) (i := g + 1) (j := o) z
    omega
  · exact z
  · have := SN_mono (zs := zs) (i := o + 1) (j := g) z
    omega
/-- a total of groups below i -/
structure TotI (ord : List Int) (zs : List Nat) (ss : List Int) (n i : Nat) (c : List Int) : Prop where
  ok : LotOk (n : Int) c
  un : c = [] ∨ (∃ g, g < i ∧ ∀ k, k ∈ c ↔ k ∈ grp ord zs g) ∨ ∃ g o, g < i ∧ o < i ∧ ss.getD g 0 ≠ ss.getD o 0 ∧ ∀ k, k ∈ c ↔ k ∈ grp ord zs g ∨ k ∈ grp ord zs o
theorem TotI.next {ord : List Int} {zs : List Nat} {ss : List Int} {n i : Nat} {c : List Int} (h : TotI ord zs ss n i c) (x : Int) (l : i ≤ ss.length) : TotI ord zs (ss ++ [x]) n (i + 1) c := by
  refine ⟨h.ok, ?_⟩
  rcases h.un with e | ⟨g, h1, h2⟩ | ⟨g, o, h1, h2, h3, h4⟩
  · exact .inl e
  · exact .inr (.inl ⟨g, by omega, h2⟩)
  · refine .inr (.inr ⟨g, o, by omega, by omega, ?_, h4⟩)
    rw [List.getD_eq_getElem?_getD, List.getD_eq_getElem?_getD, List.getElem?_append_left (by omega), List.getElem?_append_left (by omega), ← List.getD_eq_getElem?_getD, ← List.getD_eq_getElem?_getD]
    exact h3
theorem gt_of1 {ord : List Int} {zs : List Nat} {m g o : Nat} {k : Int} (nd : ord.Nodup) (hl : SN zs m ≤ ord.length) (h1 : k ∈ (if g < m then grp ord zs g else [])) (h2 : k ∈ (if o < m then grp ord zs o else [])) : g = o := by
  have g1 : g < m := by
    by_cases z : g < m
    · exact z
    · rw [if_neg z] at h1; cases h1
  have o1 : o < m := by
    by_cases z : o < m
    · exact z
    · rw [if_neg z] at h2; cases h2
  rw [if_pos g1] at h1
  rw [if_pos o1] at h2
  exact grp_apart nd (Nat.le_trans (SN_mono g1) hl) (Nat.le_trans (SN_mono o1) hl) h1 h2
theorem gt_of {ord : List Int} {zs : List Nat} {ss : List Int} {n m : Nat} {ts : List (List Int)} (nd : ord.Nodup) (hl : SN zs m ≤ ord.length) (s01 : ∀ x ∈ ss, x = 0 ∨ x = 1) (h : ∀ c ∈ ts, TotI ord zs ss n m c) (z2 : ∀ z ∈ zs, z ≤ 2) : GT ts := by
  have dz : ∀ g, ss.getD g 0 = 0 ∨ ss.getD g 0 = 1 := fun g => by
    rw [List.getD_eq_getElem?_getD]
    cases e : ss[g]? with
    | none => exact .inl rfl
    | some x => exact s01 x (List.mem_of_getElem? e)
  refine ⟨fun g => if g < m then grp ord zs g else [], fun g => decide (ss.getD g 0 = 0), fun g o k h1 h2 => ?_, fun c mc => ⟨?_⟩, fun g => ?_⟩
  · have h1 : k ∈ (if g < m then grp ord zs g else []) := h1
    have h2 : k ∈ (if o < m then grp ord zs o else []) := h2
    exact gt_of1 nd hl h1 h2
  · rcases (h c mc).un with e | ⟨g, h1, h2⟩ | ⟨g, o, h1, h2, h3, h4⟩
    · exact .inl e
    · refine .inr (.inl ⟨g, fun k => ?_⟩)
      show k ∈ c ↔ k ∈ (if g < m then grp ord zs g else [])
      rw [h2 k, if_pos h1]
    · refine .inr (.inr ⟨g, o, fun e => h3 ?_, fun k => ?_⟩)
      · have e : decide (ss.getD g 0 = 0) = decide (ss.getD o 0 = 0) := e
        have e := decide_eq_decide.mp e
        have := dz g
        have := dz o
        omega
      · show k ∈ c ↔ k ∈ (if g < m then grp ord zs g else []) ∨ k ∈ (if o < m then grp ord zs o else [])
        rw [h4 k, if_pos h1, if_pos h2]
  · show (if g < m then grp ord zs g else []).length ≤ 2
    split
    · unfold grp
      rw [List.length_take]
      have : SN zs (g + 1) - SN zs g ≤ 2 := by
        unfold SN
        rw [List.take_add_one, List.sum_append]
        cases e : zs[g]? with
        | none => exact Nat.le_trans (Nat.le_of_eq (by simp)) (Nat.zero_le 2)
        | some z =>
          have := z2 z (List.mem_of_getElem? e)
          show (zs.take g).sum + [z].sum - (zs.take g).sum ≤ 2
          rw [List.sum_singleton]
          omega
      omega
    · exact Nat.zero_le _
/-- sides, groups and totals while they grow -/
structure LotW (K : PySem.W.Frag) (p q : Addr) (G H : Hp) (S Lo To : Addr) (ord : List Int) (zs : List Nat) (n i : Nat) (ss : List Int) (lv : List V) (gs : List (List Int)) (tv : List V) (ts : List (List Int)) : Prop where
  on : On p q G H
  kS : H S = some (.lst (ss.map V.int))
  s01 : ∀ x ∈ ss, x = 0 ∨ x = 1
  kL : H Lo = some (.lst lv)
  hL : Tots K H lv gs
  gr : ∀ (g : Nat) (c : List Int), gs[g]? = some c → LotOk (n : Int) c ∧ ∀ k, k ∈ c ↔ k ∈ grp ord zs g
  kT : H To = some (.lst tv)
  hT : Tots K H tv ts
  tot : ∀ c ∈ ts, TotI ord zs ss n i c
section
variable {K : PySem.W.Frag} {p q : Addr} {G H : Hp} {S Lo To : Addr} {ord : List Int} {zs : List Nat} {n i : Nat} {ss : List Int} {lv : List V} {gs : List (List Int)} {tv : List V} {ts : List (List Int)}
theorem LotW.same {H' : Hp} (h : LotW K p q G H S Lo To ord zs n i ss lv gs tv ts) (s : Same H H') : LotW K p q G H' S Lo To ord zs n i ss lv gs tv ts := ⟨h.on.same s, s _ _ h.kS, h.s01, s _ _ h.kL, h.hL.mono s, h.gr, s _ _ h.kT, h.hT.mono s, h.tot⟩
theorem LotW.draw {H' : Hp} (h : LotW K p q G H S Lo To ord zs n i ss lv gs tv ts) (fS : S ≠ p ∧ S ≠ q) (fL : Lo ≠ p ∧ Lo ≠ q) (fT : To ≠ p ∧ To ≠ q) (hd : Hd p q H') (kp : Keep p q H H') : LotW K p q G H' S Lo To ord zs n i ss lv gs tv ts :=
  have le := (h.on.base.1.draw hd kp).le
  ⟨h.on.draw hd kp, kp _ _ fS.1 fS.2 h.kS, h.s01, kp _ _ fL.1 fL.2 h.kL, (h.hL.frz h.on.hd).mono le, h.gr, kp _ _ fT.1 fT.2 h.kT, (h.hT.frz h.on.hd).mono le, h.tot⟩
end
theorem perm_ints {ys : List V} {l : List Int} (h : ys.Perm (l.map V.int)) : ∃ o : List Int, ys = o.map V.int ∧ o.Perm l := by
  let f : V → Int := fun v => match v with | .int k => k | _ => 0
  refine ⟨ys.map f, ?_, ?_⟩
  · rw [List.map_map]
    have : ys.map (V.int ∘ f) = ys.map id := List.map_congr_left fun v mv => by
      obtain ⟨k, _, rfl⟩ := List.mem_map.mp (h.mem_iff.mp mv)
      rfl
    rw [this, List.map_id]
  · have h2 := h.map f
    rw [List.map_map] at h2
    have e : l.map (f ∘ V.int) = l.map id := List.map_congr_left fun k _ => rfl
    rw [e, List.map_id] at h2
    exact h2
theorem tots_app {K : PySem.W.Frag} {H : Hp} : ∀ {xs : List V} {cs : List (List Int)} {ys : List V} {ds : List (List Int)}, Tots K H xs cs → Tots K H ys ds → Tots K H (xs ++ ys) (cs ++ ds)
  | [], [], _, _, _, h => h
  | _ :: _, _ :: _, _, _, h, g => ⟨h.1, tots_app h.2 g⟩
  | [], _ :: _, _, _, h, _ => h.elim
  | _ :: _, [], _, _, h, _ => h.elim
theorem tots_in {K : PySem.W.Frag} {H : Hp} {xs : List V} {cs : List (List Int)} (h : Tots K H xs cs) : ∀ {ys : List V}, (∀ v ∈ ys, v ∈ xs) → ∃ ds, Tots K H ys ds ∧ ∀ d ∈ ds, d ∈ cs
  | [], _ => ⟨[], trivial, fun d md => by cases md⟩
  | v :: ys, m => by
    obtain ⟨ds, h1, h2⟩ := tots_in h (ys := ys) fun w mw => m w (List.mem_cons_of_mem _ mw)
    obtain ⟨i, ei⟩ := List.mem_iff_getElem?.mp (m v List.mem_cons_self)
    obtain ⟨t, c, e, ec, ht⟩ := h.get ei
    exact ⟨c :: ds, ⟨⟨t, e, ht⟩, h1⟩, fun d md => by
      rcases List.mem_cons.mp md with z | z
      · rw [z]; exact List.mem_of_getElem? ec
      · exact h2 d z⟩
theorem range_nodup (m : Nat) : (rangeL m).Nodup := by
  unfold rangeL
  exact List.pairwise_map.mpr ((List.nodup_range (n := m)).imp fun h e => h (Int.ofNat.inj e))
/-- totals and how many kinds -/
def spTot24 (K : PySem.W.Frag) : Sp := fun vs H Q _ => ∃ (p q : Addr) (most : Int), vs = [.ref p, .int most] ∧ Hd p q H ∧ 1 ≤ most ∧ most ≤ 8 ∧
  ∀ (H' : Hp) (u D : Addr) (n : Nat) (xs : List V) (ts : List (List Int)), On p q (frz p q H) H' → H' u = some (.tup [.int n, .ref D]) → H' D = some (.lst xs) → (D ≠ p ∧ D ≠ q) → Tots K H' xs ts → 1 ≤ n → n ≤ 12 → ts.length ≤ 12 → (∀ c ∈ ts, LotOk (n : Int) c) → GT ts → Q (.ref u) H'
end CK
namespace CK
open PySem PySem.Spec PyProof.Rows L2 VG FR HD M24
def stepC (S e : List Int) : List Int := if (S.contains (e.getD 0 0) && !S.contains (e.getD 1 0)) = true then S ++ [e.getD 1 0] else S
theorem stepC_same {S e : List Int} (h : (stepC S e).length = S.length) : stepC S e = S ∧ (e.getD 0 0 ∈ S → e.getD 1 0 ∈ S) := by
  unfold stepC at h ⊢
  split
  · rename_i hm
    rw [if_pos hm, List.length_append] at h
    have h : S.length + 1 = S.length := h
    omega
  · rename_i hm
    refine ⟨rfl, fun m => ?_⟩
    cases q : S.contains (e.getD 1 0) with
    | true => exact List.contains_iff_mem.mp q
    | false => exact absurd (by rw [List.contains_iff_mem.mpr m, q]; rfl) hm
theorem stepC_len (S e : List Int) : S.length ≤ (stepC S e).length := by
  unfold stepC
  split
  · rw [List.length_append]
    omega
  · exact Nat.le_refl _
theorem stepsC_len : ∀ (es : List (List Int)) (S : List Int), S.length ≤ (es.foldl stepC S).length
  | [], _ => Nat.le_refl _
  | e :: es, S => Nat.le_trans (stepC_len S e) (stepsC_len es (stepC S e))
def ClosC (es : List (List Int)) (S : List Int) : Prop := ∀ e ∈ es, e.getD 0 0 ∈ S → e.getD 1 0 ∈ S
theorem stepsC_same : ∀ (es : List (List Int)) (S : List Int), (es.foldl stepC S).length = S.length → es.foldl stepC S = S ∧ ClosC es S
  | [], _, _ => ⟨rfl, fun l m => by cases m⟩
  | e :: es, S, h => by
    have h : (es.foldl stepC (stepC S e)).length = S.length := h
    have h1 := stepC_len S e
    have h2 := stepsC_len es (stepC S e)
    have ⟨e1, c⟩ := stepC_same (S := S) (e := e) (by omega)
    rw [e1] at h
    have ⟨e2, c2⟩ := stepsC_same es S h
    refine ⟨by show es.foldl stepC (stepC S e) = S; rw [e1, e2], fun l' m => ?_⟩
    rcases List.mem_cons.mp m with rfl | m
    · exact c
    · exact c2 l' m
theorem stepC_closed {S e : List Int} (h : e.getD 0 0 ∈ S → e.getD 1 0 ∈ S) : stepC S e = S := by
  unfold stepC
  rw [if_neg]
  intro q
  rw [Bool.and_eq_true] at q
  have := List.contains_iff_mem.mpr (h (List.contains_iff_mem.mp q.1))
  rw [this] at q
  cases q.2
theorem stepsC_closed : ∀ {es : List (List Int)} {S : List Int}, ClosC es S → es.foldl stepC S = S
  | [], _, _ => rfl
  | e :: es, S, h => by
    show es.foldl stepC (stepC S e) = S
    rw [stepC_closed (h e List.mem_cons_self)]
    exact stepsC_closed fun l' m => h l' (List.mem_cons_of_mem _ m)
theorem roundC {es : List (List Int)} {S : List Int} {k : Nat} (h : ClosC es S ∨ k + 1 ≤ S.length) : ClosC es (es.foldl stepC S) ∨ k + 1 + 1 ≤ (es.foldl stepC S).length := by
  rcases h with h | h
  · rw [stepsC_closed h]
    exact .inl h
  · by_cases e : (es.foldl stepC S).length = S.length
    · have ⟨e1, c⟩ := stepsC_same es S e
      rw [e1]
      exact .inl c
    · have := stepsC_len es S
      exact .inr (by omega)
/-- ties of classes below m, both ways -/
structure TieE (m : Nat) (E : List (List Int)) : Prop where
  two : ∀ e ∈ E, ∃ a b, e = [a, b] ∧ (0 ≤ a ∧ a < (m : Int)) ∧ 0 ≤ b ∧ b < (m : Int)
  sym : ∀ a b, [a, b] ∈ E → [b, a] ∈ E
/-- pieces and colours while they grow -/
structure PcW (E : List (List Int)) (m i : Nat) (cs : List Int) (Ps : List (List Int)) : Prop where
  len : cs.length = m
  val : ∀ x : Nat, cs.getD x 0 = 0 ∨ cs.getD x 0 = 1 ∨ cs.getD x 0 = -1
  nz : ∀ x : Nat, x < m → (cs.getD x 0 ≠ 0 ↔ ∃ P ∈ Ps, (x : Int) ∈ P)
  seen : ∀ x : Nat, x < i → cs.getD x 0 ≠ 0
  ps : ∀ P ∈ Ps, P ≠ [] ∧ P.Pairwise (· < ·) ∧ ∀ x ∈ P, 0 ≤ x ∧ x < (m : Int)
  dis : Ps.Pairwise fun P R => ∀ x ∈ P, x ∉ R
  clo : ∀ P ∈ Ps, ∀ a b : Int, [a, b] ∈ E → a ∈ P → b ∈ P ∧ cs.getD a.toNat 0 = -cs.getD b.toNat 0
theorem PcW.skip {E : List (List Int)} {m i : Nat} {cs : List Int} {Ps : List (List Int)} (h : PcW E m i cs Ps) (q : cs.getD i 0 ≠ 0) : PcW E m (i + 1) cs Ps := ⟨h.len, h.val, h.nz, fun x hx => by
  by_cases e : x = i
  · rw [e]; exact q
  · exact h.seen x (by omega), h.ps, h.dis, h.clo⟩
structure GoodC (m : Nat) (Ps : List (List Int)) (s : Int) (S : List Int) : Prop where
  nd : S.Nodup
  self : s ∈ S
  low : ∀ x ∈ S, 0 ≤ x ∧ x < (m : Int)
  out : ∀ x ∈ S, ∀ P ∈ Ps, x ∉ P
theorem GoodC.step {E : List (List Int)} {m i : Nat} {cs : List Int} {Ps : List (List Int)} {s : Int} {S e : List Int} (t : TieE m E) (W : PcW E m i cs Ps) (h : GoodC m Ps s S) (me : e ∈ E) : GoodC m Ps s (stepC S e) := by
  obtain ⟨a, b, rfl, la, lb⟩ := t.two e me
  unfold stepC
  split
  · rename_i q
    rw [Bool.and_eq_true] at q
    have ma : a ∈ S := List.contains_iff_mem.mp q.1
    have nb : b ∉ S := fun z => by
      have z2 : S.contains ([a, b].getD 1 0) = true := List.contains_iff_mem.mpr z
      rw [z2] at q
      cases q.2
    refine ⟨List.nodup_append.mpr ⟨h.nd, List.nodup_cons.mpr ⟨List.not_mem_nil, List.nodup_nil⟩, fun x hx y hy ee => ?_⟩, List.mem_append_left _ h.self, fun x mx => ?_, fun x mx P mP hx => ?_⟩
    · rw [List.mem_singleton.mp hy] at ee
      rw [ee] at hx
      exact nb hx
    · rcases List.mem_append.mp mx with z | z
      · exact h.low x z
      · rw [List.mem_singleton.mp z]; exact lb
    · rcases List.mem_append.mp mx with z | z
      · exact h.out x z P mP hx
      · have ex : x = b := List.mem_singleton.mp z
        subst ex
        exact h.out a ma P mP (W.clo P mP x a (t.sym a x me) hx).1
  · exact h
theorem goodC_few {m : Nat} {Ps : List (List Int)} {s : Int} {S : List Int} (h : GoodC m Ps s S) : S.length ≤ m := by
  have := nodup_le S (rangeL m) h.nd fun x mx => mem_range.mpr (h.low x mx)
  rw [range_len] at this
  exact this
def gam (β : Int → Bool) (s c0 x : Int) : Int := if β x = β s then c0 else -c0
theorem gam_tie {β : Int → Bool} {s c0 a b : Int} (h : β a ≠ β b) : gam β s c0 b = -gam β s c0 a := by
  unfold gam
  cases p : β a <;> cases q : β b <;> cases r : β s <;> simp_all
def colL (old S : List Int) (g : Int → Int) (m : Nat) : List Int := (List.range m).map fun (x : Nat) => if S.contains (x : Int) = true then g (x : Int) else old.getD x 0
theorem colL_at {old S : List Int} {g : Int → Int} {m x : Nat} (h : x < m) : (colL old S g m).getD x 0 = if S.contains (x : Int) = true then g (x : Int) else old.getD x 0 := by
  unfold colL
  rw [List.getD_eq_getElem?_getD, List.getElem?_map, List.getElem?_range h]
  rfl
theorem colL_len (old S : List Int) (g : Int → Int) (m : Nat) : (colL old S g m).length = m := by
  unfold colL
  rw [List.length_map, List.length_range]
theorem colL_set {old S : List Int} {g : Int → Int} {m b : Nat} (hb : b < m) : (colL old S g m).set b (g (b : Int)) = colL old (S ++ [(b : Int)]) g m := by
  refine List.ext_getElem? fun x => ?_
  by_cases l : x < m
  · have e2 : (colL old (S ++ [(b : Int)]) g m)[x]? = some (if (S ++ [(b : Int)]).contains (x : Int) = true then g (x : Int) else old.getD x 0) := by
      unfold colL
      rw [List.getElem?_map, List.getElem?_range l]
      rfl
    rw [e2]
    by_cases e : b = x
    · subst e
      rw [List.getElem?_set_self (by rw [colL_len]; exact l), if_pos (List.contains_iff_mem.mpr (List.mem_append_right _ List.mem_cons_self))]
    · rw [List.getElem?_set_ne e]
      unfold colL
      rw [List.getElem?_map, List.getElem?_range l]
      show some (if S.contains (x : Int) = true then g (x : Int) else old.getD x 0) = _
      congr 1
      have : (S ++ [(b : Int)]).contains (x : Int) = S.contains (x : Int) := by
        rw [Bool.eq_iff_iff, List.contains_iff_mem, List.contains_iff_mem, List.mem_append]
        constructor
        · rintro (z | z)
          · exact z
          · have := List.mem_singleton.mp z
            omega
        · exact .inl
      rw [this]
  · rw [List.getElem?_eq_none (by rw [List.length_set, colL_len]; omega), List.getElem?_eq_none (by rw [colL_len]; omega)]
theorem PcW.add {E : List (List Int)} {m i : Nat} {cs : List Int} {Ps : List (List Int)} {S P : List Int} {β : Int → Bool} {c0 : Int} (t : TieE m E) (hβ : ∀ a b, [a, b] ∈ E → β a ≠ β b) (W : PcW E m i cs Ps) (hi : i < m) (hc : c0 = 1 ∨ c0 = -1) (g : GoodC m Ps (i : Int) S) (c : ClosC E S) (pm : P.Perm S) (le : P.Pairwise (· ≤ ·)) : PcW E m (i + 1) (colL cs S (gam β (i : Int) c0) m) (Ps ++ [P]) := by
  have gv : ∀ x, gam β (i : Int) c0 x = 1 ∨ gam β (i : Int) c0 x = -1 := fun x => by
    unfold gam
    split <;> rcases hc with e | e <;> rw [e] <;> decide
  have out : ∀ x : Int, x ∈ S → ∀ R ∈ Ps, x ∉ R := g.out
  refine ⟨colL_len _ _ _ _, fun x => ?_, fun x hx => ?_, fun x hx => ?_, fun R mR => ?_, ?_, fun R mR a b me ma => ?_⟩
  · by_cases l : x < m
    · rw [colL_at l]
      split
      · exact .inr (gv _)
      · exact W.val x
    · rw [List.getD_eq_getElem?_getD, List.getElem?_eq_none (by rw [colL_len]; omega)]
      exact .inl rfl
  · rw [colL_at hx]
    by_cases q : (x : Int) ∈ S
    · rw [if_pos (List.contains_iff_mem.mpr q)]
      refine ⟨fun _ => ⟨P, List.mem_append_right _ List.mem_cons_self, pm.mem_iff.mpr q⟩, fun _ => ?_⟩
      rcases gv (x : Int) with e | e <;> (rw [e]; decide)
    · rw [if_neg (fun z => q (List.contains_iff_mem.mp z)), W.nz x hx]
      constructor
      · rintro ⟨R, mR, h⟩
        exact ⟨R, List.mem_append_left _ mR, h⟩
      · rintro ⟨R, mR, h⟩
        rcases List.mem_append.mp mR with z | z
        · exact ⟨R, z, h⟩
        · rw [List.mem_singleton.mp z] at h
          exact absurd (pm.mem_iff.mp h) q
  · rw [colL_at (by omega)]
    by_cases q : (x : Int) ∈ S
    · rw [if_pos (List.contains_iff_mem.mpr q)]
      rcases gv (x : Int) with e | e <;> (rw [e]; decide)
    · rw [if_neg (fun z => q (List.contains_iff_mem.mp z))]
      by_cases e : x = i
      · rw [e] at q
        exact absurd g.self q
      · exact W.seen x (by omega)
  · rcases List.mem_append.mp mR with z | z
    · exact W.ps R z
    · rw [List.mem_singleton.mp z]
      refine ⟨fun e => ?_, (List.pairwise_and_iff.mpr ⟨le, pm.nodup_iff.mpr g.nd⟩).imp fun ⟨h1, h2⟩ => by omega, fun x mx => g.low x (pm.mem_iff.mp mx)⟩
      have := pm.mem_iff.mpr g.self
      rw [e] at this
      cases this
  · refine List.pairwise_append.mpr ⟨W.dis, List.pairwise_singleton _ _, fun R mR Q mQ x hx hq => ?_⟩
    rw [List.mem_singleton.mp mQ] at hq
    exact out x (pm.mem_iff.mp hq) R mR hx
  · obtain ⟨a', b', e, la, lb⟩ := t.two _ me
    have e1 : a = a' := (List.cons.inj e).1
    have e2 : b = b' := (List.cons.inj (List.cons.inj e).2).1
    subst e1
    subst e2
    obtain ⟨an, rfl⟩ := Int.eq_ofNat_of_zero_le la.1
    obtain ⟨bn, rfl⟩ := Int.eq_ofNat_of_zero_le lb.1
    rw [Int.toNat_natCast, Int.toNat_natCast, colL_at (by omega), colL_at (by omega)]
    rcases List.mem_append.mp mR with z | z
    · obtain ⟨h1, h2⟩ := W.clo R z _ _ me ma
      refine ⟨h1, ?_⟩
      rw [if_neg (fun q => out _ (List.contains_iff_mem.mp q) R z ma), if_neg (fun q => out _ (List.contains_iff_mem.mp q) R z h1)]
      rw [Int.toNat_natCast, Int.toNat_natCast] at h2
      exact h2
    · rw [List.mem_singleton.mp z] at ma ⊢
      have sa := pm.mem_iff.mp ma
      have sb : (bn : Int) ∈ S := c _ me sa
      refine ⟨pm.mem_iff.mpr sb, ?_⟩
      rw [if_pos (List.contains_iff_mem.mpr sa), if_pos (List.contains_iff_mem.mpr sb), gam_tie (hβ _ _ me), Int.neg_neg]
/-- the case is good -/
structure CaseG (lots : List (List Int)) (m : Nat) (cs : List Int) (Ps : List (List Int)) : Prop where
  two : ∀ l ∈ lots, l.length ≤ 2
  one : ∀ a : Int, 0 ≤ a → a < (m : Int) → ∃ P ∈ Ps, a ∈ P
  tie : ∀ a b : Int, [a, b] ∈ lots → ∀ P ∈ Ps, a ∈ P → b ∈ P ∧ cs.getD a.toNat 0 = -cs.getD b.toNat 0
  dis : Ps.Pairwise fun P R => ∀ x ∈ P, x ∉ R
theorem PcW.done {E lots : List (List Int)} {m : Nat} {cs : List Int} {Ps : List (List Int)} (h : PcW E m m cs Ps) (two : ∀ l ∈ lots, l.length ≤ 2) (sub : ∀ a b, [a, b] ∈ lots → [a, b] ∈ E) : CaseG lots m cs Ps := ⟨two, fun a a0 a1 => by
  obtain ⟨x, rfl⟩ := Int.eq_ofNat_of_zero_le a0
  exact (h.nz x (by omega)).mp (h.seen x (by omega)), fun a b ml P mP ma => h.clo P mP a b (sub a b ml) ma, h.dis⟩
end CK
namespace CK
open PySem PySem.Spec PyProof.Rows L2 VG FR HD M24
def tieL (lots : List (List Int)) : List (List Int) := lots.filter fun l => decide (l.length = 2)
def bothL (ties : List (List Int)) : List (List Int) := ties ++ ties.map List.reverse
theorem two_of {l : List Int} (h : l.length = 2) : ∃ a b, l = [a, b] := by
  match l, h with
  | [a, b], _ => exact ⟨a, b, rfl⟩
theorem mem_tieL {lots : List (List Int)} {l : List Int} : l ∈ tieL lots ↔ l ∈ lots ∧ l.length = 2 := by
  unfold tieL
  rw [List.mem_filter, decide_eq_true_eq]
theorem mem_both {ties : List (List Int)} {l : List Int} : l ∈ bothL ties ↔ l ∈ ties ∨ l.reverse ∈ ties := by
  unfold bothL
  rw [List.mem_append, List.mem_map]
  constructor
  · rintro (h | ⟨r, h, rfl⟩)
    · exact .inl h
    · rw [List.reverse_reverse]
      exact .inr h
  · rintro (h | h)
    · exact .inl h
    · exact .inr ⟨_, h, List.reverse_reverse l⟩
theorem tieE_of {lots : List (List Int)} {m : Nat} (low : LotsB lots m) : TieE m (bothL (tieL lots)) := by
  refine ⟨fun e me => ?_, fun a b h => ?_⟩
  · rcases mem_both.mp me with h | h
    · obtain ⟨h1, h2⟩ := mem_tieL.mp h
      obtain ⟨a, b, rfl⟩ := two_of h2
      exact ⟨a, b, rfl, (low _ h1).2 a List.mem_cons_self, (low _ h1).2 b (List.mem_cons_of_mem _ List.mem_cons_self)⟩
    · obtain ⟨h1, h2⟩ := mem_tieL.mp h
      rw [List.length_reverse] at h2
      obtain ⟨a, b, rfl⟩ := two_of h2
      exact ⟨a, b, rfl, (low _ h1).2 a (List.mem_reverse.mpr List.mem_cons_self), (low _ h1).2 b (List.mem_reverse.mpr (List.mem_cons_of_mem _ List.mem_cons_self))⟩
  · rcases mem_both.mp h with z | z
    · exact mem_both.mpr (.inr z)
    · exact mem_both.mpr (.inl z)
theorem both_col {lots : List (List Int)} {β : Int → Bool} (h : ∀ a b, [a, b] ∈ lots → β a ≠ β b) : ∀ a b, [a, b] ∈ bothL (tieL lots) → β a ≠ β b := fun a b m => by
  rcases mem_both.mp m with z | z
  · exact h a b (mem_tieL.mp z).1
  · exact fun e => h b a (mem_tieL.mp z).1 e.symm
theorem both_sub {lots : List (List Int)} : ∀ a b, [a, b] ∈ lots → [a, b] ∈ bothL (tieL lots) := fun a b h => mem_both.mpr (.inl (mem_tieL.mpr ⟨h, rfl⟩))
theorem tie_len (lots : List (List Int)) : (tieL lots).length ≤ lots.length := List.length_filter_le _ _
theorem PcW.start (E : List (List Int)) (m : Nat) : PcW E m 0 (List.replicate m 0) [] := by
  have z : ∀ x : Nat, (List.replicate m (0 : Int)).getD x 0 = 0 := fun x => by
    rw [List.getD_eq_getElem?_getD]
    cases q : (List.replicate m (0 : Int))[x]? with
    | none => rfl
    | some y => exact List.eq_of_mem_replicate (List.mem_of_getElem? q)
  refine ⟨List.length_replicate, fun x => .inl (z x), fun x _ => ⟨fun h => absurd (z x) h, fun ⟨P, h, _⟩ => by cases h⟩, fun x h => absurd h (Nat.not_lt_zero x), fun P h => (by cases h), List.Pairwise.nil, fun P h => (by cases h)⟩
theorem colL_nil {old : List Int} {g : Int → Int} {m : Nat} (h : old.length = m) : colL old [] g m = old := by
  refine List.ext_getElem? fun x => ?_
  unfold colL
  rw [List.getElem?_map]
  by_cases l : x < m
  · rw [List.getElem?_range l, List.getElem?_eq_getElem (by omega)]
    show some (if ([] : List Int).contains (x : Int) = true then _ else old.getD x 0) = _
    rw [if_neg (by simp), List.getD_eq_getElem?_getD, List.getElem?_eq_getElem (by omega)]
    rfl
  · rw [List.getElem?_eq_none (by rw [List.length_range]; omega), List.getElem?_eq_none (by omega)]
    rfl
theorem gam_self (β : Int → Bool) (s c0 : Int) : gam β s c0 s = c0 := by
  unfold gam
  rw [if_pos rfl]
theorem stepC_yes {S : List Int} {a b : Int} (ha : S.contains a = true) (hb : S.contains b = false) : stepC S [a, b] = S ++ [b] := by
  unfold stepC
  rw [if_pos]
  · rfl
  · show (S.contains a && !S.contains b) = true
    rw [ha, hb]
    rfl
theorem stepC_no1 {S : List Int} {a b : Int} (ha : S.contains a = false) : stepC S [a, b] = S := by
  unfold stepC
  rw [if_neg]
  show ¬ (S.contains a && !S.contains b) = true
  rw [ha]
  simp
theorem stepC_no2 {S : List Int} {a b : Int} (hb : S.contains b = true) : stepC S [a, b] = S := by
  unfold stepC
  rw [if_neg]
  show ¬ (S.contains a && !S.contains b) = true
  rw [hb]
  simp
theorem goodC_start {m i : Nat} {E : List (List Int)} {cs : List Int} {Ps : List (List Int)} (W : PcW E m i cs Ps) (hi : i < m) (q : cs.getD i 0 = 0) : GoodC m Ps (i : Int) [(i : Int)] := by
  refine ⟨List.nodup_cons.mpr ⟨List.not_mem_nil, List.nodup_nil⟩, List.mem_cons_self, fun x mx => ?_, fun x mx P mP hx => ?_⟩
  · rw [List.mem_singleton.mp mx]
    omega
  · rw [List.mem_singleton.mp mx] at hx
    exact (W.nz i hi).mpr ⟨P, mP, hx⟩ q
/-- the colour of one more class -/
theorem col_next {β : Int → Bool} {cs S : List Int} {m : Nat} {s c0 : Int} {a b : Nat} (h : β (a : Int) ≠ β (b : Int)) (ha : a < m) (hb : b < m) (ma : (a : Int) ∈ S) : (colL cs S (gam β s c0) m).set b (0 - (colL cs S (gam β s c0) m).getD a 0) = colL cs (S ++ [(b : Int)]) (gam β s c0) m := by
  rw [colL_at ha, if_pos (List.contains_iff_mem.mpr ma), ← colL_set hb, gam_tie h, Int.zero_sub]
end CK
namespace CK
open PySem PySem.Spec PyProof.Rows L2 VG FR HD M24
theorem lrx_frz {K : PySem.W.Frag} {p q : Addr} {F : Addr → Prop} (f : ∀ a, F a → a ≠ p ∧ a ≠ q) {H : Hp} {vs : List V} {rs : List (List Int)} (h : LR (IntsX F H) vs rs) : LR (IntsL K (frz p q H)) vs rs := LR.imp (fun _ _ ⟨t, e, g, k⟩ => ⟨t, e, .inl (.inl (frz_at k (f t g)))⟩) h
theorem frz_sub {a b : Addr} {G H : Hp} (s : Same G H) (n1 : G a = none) (n2 : G b = none) : Same G (frz a b H) := fun c o e => frz_at (s c o e) ⟨fun z => (by rw [z, n1] at e; cases e), fun z => (by rw [z, n2] at e; cases e)⟩
theorem ints_at {l : List Int} {i : Nat} (h : i < l.length) : (l.map V.int)[i]? = some (.int (l.getD i 0)) := by
  have e : l[i]? = some l[i] := List.getElem?_eq_getElem h
  rw [List.getElem?_map, List.getD_eq_getElem?_getD, e]
  rfl
theorem rep_zero (m : Nat) : (List.replicate ((m : Nat) : Int).toNat [V.int 0]).flatten = (List.replicate m (0 : Int)).map V.int := by
  rw [Int.toNat_natCast, List.map_replicate]
  induction m with
  | zero => rfl
  | succ m ih => rw [List.replicate_succ, List.flatten_cons, ih]; rfl
theorem col_start {β : Int → Bool} {cs : List Int} {m i : Nat} {c0 : Int} (hl : cs.length = m) (hi : i < m) : cs.set i c0 = colL cs [(i : Int)] (gam β (i : Int) c0) m := by
  have h := colL_set (old := cs) (S := []) (g := gam β (i : Int) c0) (m := m) hi
  rw [colL_nil hl, gam_self] at h
  exact h
/-- what is true of a drawn case -/
structure CaseW (n : Nat) (ts : List (List Int)) (cs : List Int) (Ps : List (List Int)) : Prop where
  n1 : 1 ≤ n
  n12 : n ≤ 12
  t12 : ts.length ≤ 12
  ok : ∀ c ∈ ts, LotOk (n : Int) c
  four : ∀ A ∈ classesL ts n, A.length ≤ 4
  sgn : ∀ x ∈ cs, x = 1 ∨ x = -1
  cl : cs.length = (classesL ts n).length
  pok : PsOk cs.length Ps
  good : CaseG (lotsC ts n) (classesL ts n).length cs Ps
theorem CaseW.caseOk {n : Nat} {ts : List (List Int)} {cs : List Int} {Ps : List (List Int)} (h : CaseW n ts cs Ps) : CaseOk n ts (classesL ts n) cs Ps (Ps.map (loneB (lotsC ts n))) := by
  have ⟨cl12, clen⟩ := classes_len ts n
  have n12 := h.n12
  refine ⟨n12, h.t12, fun c mc => ?_, by omega, fun c mc => ?_, h.cl, h.sgn, h.pok, List.length_map _⟩
  · have ⟨_, low, asc⟩ := h.ok c mc
    have := nodup_le c (rangeL n) ((pw_of_asc asc).imp fun z => by omega) fun x mx => mem_range.mpr (low x mx)
    rw [range_len] at this
    exact ⟨by omega, low⟩
  · refine ⟨by have := clen c mc; omega, cls_ne c mc, fun k mk => ?_⟩
    obtain ⟨j, hj, rfl⟩ := classes_below mc mk
    exact ⟨by omega, by omega⟩
abbrev Cas (K : PySem.W.Frag) (H : Hp) (a : Addr) (n : Nat) (ts : List (List Int)) (cs : List Int) (Ps : List (List Int)) : Prop := CaseT K H a n ts (classesL ts n) cs Ps (Ps.map (loneB (lotsC ts n)))
/-- a drawn case -/
def spCase24 (K : PySem.W.Frag) : Sp := fun vs H Q _ => ∃ (p q : Addr) (most : Int), vs = [.ref p, .int most] ∧ Hd p q H ∧ 1 ≤ most ∧ most ≤ 8 ∧
  ∀ (H' : Hp) (u : Addr) (n : Nat) (ts : List (List Int)) (cs : List Int) (Ps : List (List Int)), On p q (frz p q H) H' → Cas K (frz p q H') u n ts cs Ps → CaseW n ts cs Ps → Q (.ref u) H'
end CK
namespace CK
open PySem PySem.Spec PyProof.Rows L2 VG FR HD M24
theorem sum_abs {s : Int} : ∀ {l : List Int}, (∀ x ∈ l, -s ≤ x ∧ x ≤ s) → -((l.length : Nat) * s) ≤ l.sum ∧ l.sum ≤ (l.length : Nat) * s
  | [], _ => by simp
  | x :: l, h => by
    have ⟨h1, h2⟩ := sum_abs (l := l) fun y my => h y (List.mem_cons_of_mem _ my)
    have ⟨h3, h4⟩ := h x List.mem_cons_self
    rw [List.sum_cons, List.length_cons]
    have e : ((l.length + 1 : Nat) : Int) * s = (l.length : Nat) * s + s := by
      rw [Int.natCast_add, Int.add_mul]
      show _ + 1 * s = _
      rw [Int.one_mul]
    rw [e]
    omega
end CK
namespace CK
open PySem PySem.Spec PyProof.Rows L2 VG FR HD M24
theorem row_at {cs : List Int} {cls : List (List Int)} (l : cs.length = cls.length) (es : List Int) {a : Nat} (h : a < cls.length) : (rowS cs cls es).getD a 0 = cs.getD a 0 * sumC es (cls.getD a []) := by
  unfold rowS
  have e1 : cs[a]? = some cs[a] := List.getElem?_eq_getElem (by omega)
  have e2 : cls[a]? = some cls[a] := List.getElem?_eq_getElem h
  rw [List.getD_eq_getElem?_getD, List.getElem?_zipWith, List.getD_eq_getElem?_getD, List.getD_eq_getElem?_getD, e1, e2]
  rfl
theorem rowS_len {cs : List Int} {cls : List (List Int)} (l : cs.length = cls.length) (es : List Int) : (rowS cs cls es).length = cs.length := by
  unfold rowS
  rw [List.length_zipWith]
  omega
theorem ptsF_S (ls : List (List Int)) (row : List Int) : ∀ Ps : List (List Int), ptsF row Ps (Ps.map (loneB ls)) = ptsS ls row Ps
  | [] => rfl
  | P :: Ps => congrArg (ptS ls row P :: ·) (ptsF_S ls row Ps)
end CK
namespace CK
open PySem PySem.Spec PyProof.Rows L2 VG FR HD M24
/-- Blocks made by its call -/
def spInitB (K : PySem.W.Frag) (C : Addr) : Sp := fun vs H Q _ => ∃ (a dx c z : Addr), vs = [.ref a, .ref c, .ref z] ∧ H a = some (.ins C dx []) ∧
  ∀ H', (∀ b o, b ≠ a → H b = some o → H' b = some o) → H' a = some (.ins C dx [((("colours" : String) : Str), .ref c), ((("pieces" : String) : Str), .ref z)]) → Q .non H'
theorem blk_made {K : PySem.W.Frag} {C c z x dx : Addr} {H : Hp} {cs : List Int} {xs : List V} {Ps : List (List Int)} {Qf : Hp → Prop} {E : XK} (hc : SqT K H c (cs.map V.int)) (hz : SqT K H z xs) (hP : Tots K H xs Ps) (nx : H x = none) (nd : H dx = none) (ne : dx ≠ x)
    (fin : ∀ H', Same H H' → BlkO K C H' x cs Ps → H x = none → Qf H') : spInitB K C (.ref x :: ([.ref c, .ref z] ++ [])) (L2.upd (L2.upd H dx (.own x)) x (.ins C dx [])) (fun v H2 => v = .non ∧ Qf H2) E := by
  have s1 := same_upd (o := .own x) nd
  have nx1 : L2.upd H dx (.own x) x = none := by rw [upd_ne ne.symm]; exact nx
  have s2 := s1.trans (same_upd (o := .ins C dx []) nx1)
  refine ⟨x, dx, c, z, rfl, upd_same, fun H' kp hx => ⟨rfl, ?_⟩⟩
  have s3 : Same H H' := fun b o e => kp b o (ne_of_none e nx) (s2 b o e)
  exact fin H' s3 ⟨dx, c, z, xs, hx, seqT s3 hc, seqT s3 hz, hP.mono s3⟩ nx
theorem BlkO.frz {K : PySem.W.Frag} {C a p q : Addr} {H : Hp} {cs : List Int} {Ps : List (List Int)} (hd : Hd p q H) (h : BlkO K C H a cs Ps) : BlkO K C (frz p q H) a cs Ps := by
  obtain ⟨dx, c, z, xs, h1, h2, h3, h4⟩ := h
  obtain ⟨_, _, e1, e2, _⟩ := id hd
  have n1 : a ≠ p := fun z => by rw [z, e1] at h1; cases h1
  have n2 : a ≠ q := fun z => by rw [z, e2] at h1; cases h1
  exact ⟨dx, c, z, xs, frz_at h1 ⟨n1, n2⟩, seqTK hd keep_frz h2, seqTK hd keep_frz h3, h4.frz hd⟩
end CK
namespace CK
open PySem PySem.Spec PyProof.Rows L2 VG FR HD M24
theorem get_getD {l : List Int} {i : Nat} (h : i < l.length) : l[i]? = some (l.getD i 0) := by
  have e : l[i]? = some l[i] := List.getElem?_eq_getElem h
  rw [List.getD_eq_getElem?_getD, e]
  rfl
theorem apart_of {Ps : List (List Int)} (dis : Ps.Pairwise fun P R => ∀ x ∈ P, x ∉ R) {P R : List Int} (mP : P ∈ Ps) (mR : R ∈ Ps) (ne : R ≠ P) : ∀ x ∈ R, x ∉ P := fun x xR xP => by
  obtain ⟨i, hi, rfl⟩ := List.mem_iff_getElem.mp mP
  obtain ⟨j, hj, rfl⟩ := List.mem_iff_getElem.mp mR
  have pw := List.pairwise_iff_getElem.mp dis
  rcases Nat.lt_trichotomy i j with h | h | h
  · exact pw i j hi hj h x xP xR
  · subst h
    exact ne rfl
  · exact pw j i hj hi h x xR xP
end CK
namespace CK
open PySem PySem.Spec PyProof.Rows L2 VG FR HD M24
end CK
namespace FR
open PySem PySem.Spec PyProof.Rows L2 VG HD
end FR
namespace FR
open PySem PySem.Spec PyProof.Rows L2 VG HD
def spLaw (K : PySem.W.Frag) : Sp := fun vs H Q _ => ∃ (a : Addr) (ns : List Int), vs = [.ref a] ∧ SqL K H a (ns.map V.int) ∧ ns.length ≤ 63 ∧ ∀ H', Q (.bl true) H'
end FR
namespace CK
open PySem PySem.Spec PyProof.Rows L2 VG FR HD M24
def kW1 : List Str := ["cup", "tea"]
def tW1 : List (List Int) := [[0], [1], [0, 1]]
theorem okW1 : TabOk kW1 tW1 := ⟨kinds_dec (by decide) (by decide +kernel) (by decide +kernel), by decide, fun c hc => lot_dec (List.all_eq_true.mp (by decide +kernel : tW1.all (lotB (kW1.length : Int)) = true) c hc)⟩
theorem at_par {i j : Nat} {ta : TA} {u : TS} {D : Ends} {σ : L2.St} {H : Hp} (h : ta σ H fun vs H1 => ∃ v w, vs = [v, w] ∧ u D ((σ.set i (some v)).set j (some w)) H1) : tSeq (tPar i j ta) u D σ H := h
theorem erT_lit {K : PySem.W.Frag} {s : Int} {H : Hp} {e : Addr} {xs : List V} {es : List Int} {cs : List (List Int)} (k : H e = some (.tup xs)) (hX : Tots K H xs cs) (h : cs = (es.map (US s)).map (fun p => [p.1, p.2])) : ErT K s H e es := ⟨xs, sqt k, frs_tots h hX⟩
end CK
namespace K25
open PySem PySem.Spec PyProof.Rows L2 VG FR CK HD M9
open K2 (cut_ints)
def topS (i : Nat) : Stmt := PySem.Challenge.pw_centsatonce_k25_whole_one_whole_is_alway.main.body.getD i (.Pass ⟨0, 0, 0, 0⟩)
abbrev s_totals_by_classes : Stmt := topS 45
abbrev N_totals_by_classes : List Str := ["table", "numbers", "total", "kind"]
theorem sc_totals_by_classes : FnScope N_totals_by_classes ["table"] (defScope s_totals_by_classes) := ⟨rfl, rfl, rfl, by decide +kernel, rfl, by decide +kernel, by decide +kernel⟩
abbrev s_is_an_integer : Stmt := topS 4
abbrev N_is_an_integer : List Str := ["value"]
theorem sc_is_an_integer : FnScope N_is_an_integer ["value"] (defScope s_is_an_integer) := ⟨rfl, rfl, rfl, by decide +kernel, rfl, by decide +kernel, by decide +kernel⟩
abbrev s_is_number : Stmt := topS 5
abbrev N_is_number : List Str := ["value"]
theorem sc_is_number : FnScope N_is_number ["value"] (defScope s_is_number) := ⟨rfl, rfl, rfl, by decide +kernel, rfl, by decide +kernel, by decide +kernel⟩
abbrev s_is_number_below : Stmt := topS 6
abbrev N_is_number_below : List Str := ["value", "many"]
theorem sc_is_number_below : FnScope N_is_number_below ["value", "many"] (defScope s_is_number_below) := ⟨rfl, rfl, rfl, by decide +kernel, rfl, by decide +kernel, by decide +kernel⟩
abbrev s_are_numbers_below : Stmt := topS 9
abbrev N_are_numbers_below : List Str := ["value", "many", "item"]
theorem sc_are_numbers_below : FnScope N_are_numbers_below ["value", "many"] (defScope s_are_numbers_below) := ⟨rfl, rfl, rfl, by decide +kernel, rfl, by decide +kernel, by decide +kernel⟩
abbrev s_is_ascending : Stmt := topS 10
abbrev N_is_ascending : List Str := ["some", "one", "other"]
theorem sc_is_ascending : FnScope N_is_ascending ["some"] (defScope s_is_ascending) := ⟨rfl, rfl, rfl, by decide +kernel, rfl, by decide +kernel, by decide +kernel⟩
abbrev s_is_lot_below : Stmt := topS 11
abbrev N_is_lot_below : List Str := ["value", "many"]
theorem sc_is_lot_below : FnScope N_is_lot_below ["value", "many"] (defScope s_is_lot_below) := ⟨rfl, rfl, rfl, by decide +kernel, rfl, by decide +kernel, by decide +kernel⟩
abbrev s_check_totals : Stmt := topS 40
abbrev N_check_totals : List Str := ["totals", "many", "at", "total"]
theorem sc_check_totals : FnScope N_check_totals ["totals", "many"] (defScope s_check_totals) := ⟨rfl, rfl, rfl, by decide +kernel, rfl, by decide +kernel, by decide +kernel⟩
abbrev s_is_name : Stmt := topS 7
abbrev N_is_name : List Str := ["value", "letter"]
theorem sc_is_name : FnScope N_is_name ["value"] (defScope s_is_name) := ⟨rfl, rfl, rfl, by decide +kernel, rfl, by decide +kernel, by decide +kernel⟩
abbrev s_are_names : Stmt := topS 8
abbrev N_are_names : List Str := ["value", "item"]
theorem sc_are_names : FnScope N_are_names ["value"] (defScope s_are_names) := ⟨rfl, rfl, rfl, by decide +kernel, rfl, by decide +kernel, by decide +kernel⟩
abbrev s_check_kinds : Stmt := topS 39
abbrev N_check_kinds : List Str := ["kinds"]
theorem sc_check_kinds : FnScope N_check_kinds ["kinds"] (defScope s_check_kinds) := ⟨rfl, rfl, rfl, by decide +kernel, rfl, by decide +kernel, by decide +kernel⟩
abbrev i_Table : Stmt := inClass (topS 38) 0
theorem sc_i_Table : FnScope ["self", "kinds", "totals"] ["self", "kinds", "totals"] (defScope i_Table) := ⟨rfl, rfl, rfl, by decide +kernel, rfl, by decide +kernel, by decide +kernel⟩
abbrev s__law_draw : Stmt := topS 64
abbrev N__law_draw : List Str := ["heap", "many", "rest"]
theorem sc__law_draw : FnScope N__law_draw ["heap", "many"] (defScope s__law_draw) := ⟨rfl, rfl, rfl, by decide +kernel, rfl, by decide +kernel, by decide +kernel⟩
abbrev s__law_pick : Stmt := topS 65
abbrev N__law_pick : List Str := ["heap", "some"]
theorem sc__law_pick : FnScope N__law_pick ["heap", "some"] (defScope s__law_pick) := ⟨rfl, rfl, rfl, by decide +kernel, rfl, by decide +kernel, by decide +kernel⟩
abbrev s__law_heap : Stmt := topS 63
abbrev N__law_heap : List Str := ["script", "cell", "cells", "stir"]
theorem sc__law_heap : FnScope N__law_heap ["script"] (defScope s__law_heap) := ⟨rfl, rfl, rfl, by decide +kernel, rfl, by decide +kernel, by decide +kernel⟩
abbrev s_totals_with : Stmt := topS 41
abbrev N_totals_with : List Str := ["table", "kind", "at", "total"]
theorem sc_totals_with : FnScope N_totals_with ["table", "kind"] (defScope s_totals_with) := ⟨rfl, rfl, rfl, by decide +kernel, rfl, by decide +kernel, by decide +kernel⟩
abbrev s_classes_of : Stmt := topS 42
abbrev N_classes_of : List Str := ["table", "by_totals", "kind", "totals", "kinds"]
theorem sc_classes_of : FnScope N_classes_of ["table"] (defScope s_classes_of) := ⟨rfl, rfl, rfl, by decide +kernel, rfl, by decide +kernel, by decide +kernel⟩
abbrev s_class_numbers : Stmt := topS 43
abbrev N_class_numbers : List Str := ["table", "numbers", "at", "kinds", "kind"]
theorem sc_class_numbers : FnScope N_class_numbers ["table"] (defScope s_class_numbers) := ⟨rfl, rfl, rfl, by decide +kernel, rfl, by decide +kernel, by decide +kernel⟩
abbrev s_added : Stmt := topS 20
abbrev N_added : List Str := ["one", "other", "top", "bottom", "more", "under", "shared", "rest", "high", "common"]
theorem sc_added : FnScope N_added ["one", "other"] (defScope s_added) := ⟨rfl, rfl, rfl, by decide +kernel, rfl, by decide +kernel, by decide +kernel⟩
abbrev s_opposite_of : Stmt := topS 21
abbrev N_opposite_of : List Str := ["one", "top", "bottom"]
theorem sc_opposite_of : FnScope N_opposite_of ["one"] (defScope s_opposite_of) := ⟨rfl, rfl, rfl, by decide +kernel, rfl, by decide +kernel, by decide +kernel⟩
abbrev s_taken : Stmt := topS 22
abbrev N_taken : List Str := ["one", "other"]
theorem sc_taken : FnScope N_taken ["one", "other"] (defScope s_taken) := ⟨rfl, rfl, rfl, by decide +kernel, rfl, by decide +kernel, by decide +kernel⟩
abbrev s_is_small : Stmt := topS 25
abbrev N_is_small : List Str := ["one"]
theorem sc_is_small : FnScope N_is_small ["one"] (defScope s_is_small) := ⟨rfl, rfl, rfl, by decide +kernel, rfl, by decide +kernel, by decide +kernel⟩
abbrev s_sum_of : Stmt := topS 28
abbrev N_sum_of : List Str := ["some", "total", "one"]
theorem sc_sum_of : FnScope N_sum_of ["some"] (defScope s_sum_of) := ⟨rfl, rfl, rfl, by decide +kernel, rfl, by decide +kernel, by decide +kernel⟩
abbrev s_fraction_of : Stmt := topS 19
abbrev N_fraction_of : List Str := ["top", "bottom", "shared"]
theorem sc_fraction_of : FnScope N_fraction_of ["top", "bottom"] (defScope s_fraction_of) := ⟨rfl, rfl, rfl, by decide +kernel, rfl, by decide +kernel, by decide +kernel⟩
abbrev s_timed : Stmt := topS 23
abbrev N_timed : List Str := ["one", "other"]
theorem sc_timed : FnScope N_timed ["one", "other"] (defScope s_timed) := ⟨rfl, rfl, rfl, by decide +kernel, rfl, by decide +kernel, by decide +kernel⟩
abbrev s_is_less : Stmt := topS 24
abbrev N_is_less : List Str := ["one", "other"]
theorem sc_is_less : FnScope N_is_less ["one", "other"] (defScope s_is_less) := ⟨rfl, rfl, rfl, by decide +kernel, rfl, by decide +kernel, by decide +kernel⟩
abbrev s_least_of : Stmt := topS 29
abbrev N_least_of : List Str := ["some", "least", "one"]
theorem sc_least_of : FnScope N_least_of ["some"] (defScope s_least_of) := ⟨rfl, rfl, rfl, by decide +kernel, rfl, by decide +kernel, by decide +kernel⟩
abbrev s_greatest_of : Stmt := topS 30
abbrev N_greatest_of : List Str := ["some", "greatest", "one"]
theorem sc_greatest_of : FnScope N_greatest_of ["some"] (defScope s_greatest_of) := ⟨rfl, rfl, rfl, by decide +kernel, rfl, by decide +kernel, by decide +kernel⟩
abbrev s_class_errors : Stmt := topS 47
abbrev N_class_errors : List Str := ["table", "errors", "kinds", "kind"]
theorem sc_class_errors : FnScope N_class_errors ["table", "errors"] (defScope s_class_errors) := ⟨rfl, rfl, rfl, by decide +kernel, rfl, by decide +kernel, by decide +kernel⟩
abbrev s_floor_of : Stmt := topS 26
abbrev N_floor_of : List Str := ["one"]
theorem sc_floor_of : FnScope N_floor_of ["one"] (defScope s_floor_of) := ⟨rfl, rfl, rfl, by decide +kernel, rfl, by decide +kernel, by decide +kernel⟩
abbrev s_ceiling_of : Stmt := topS 27
abbrev N_ceiling_of : List Str := ["one"]
theorem sc_ceiling_of : FnScope N_ceiling_of ["one"] (defScope s_ceiling_of) := ⟨rfl, rfl, rfl, by decide +kernel, rfl, by decide +kernel, by decide +kernel⟩
abbrev s_choices : Stmt := topS 32
abbrev N_choices : List Str := ["amount", "low", "high"]
theorem sc_choices : FnScope N_choices ["amount"] (defScope s_choices) := ⟨rfl, rfl, rfl, by decide +kernel, rfl, by decide +kernel, by decide +kernel⟩
abbrev s_class_of_kind : Stmt := topS 44
abbrev N_class_of_kind : List Str := ["table", "kind"]
theorem sc_class_of_kind : FnScope N_class_of_kind ["table", "kind"] (defScope s_class_of_kind) := ⟨rfl, rfl, rfl, by decide +kernel, rfl, by decide +kernel, by decide +kernel⟩
section
variable {P : Program} {w : World} {K : PySem.W.Frag} {mg : Str → Option Value} {base : Heap}
theorem ok_is_an_integer {f : Addr} {fd : FuncData} (F : Fun K "is_an_integer" "is_an_integer" s_is_an_integer f fd) (z_isinstance : mg "isinstance" = none) (z_int : mg "int" = none) (z_bool : mg "bool" = none) :
    FnOk P w K mg base CX0 1 f fd ["value"] (spInt K) := by
  refine F.ok sc_is_an_integer (fun vs H Q E h => ?_) (fun cdv A outer s H vs Q E hr h => ?_)
  · obtain ⟨v, o, rfl, _⟩ := h
    rfl
  · obtain ⟨v, o, rfl, hp, q⟩ := h
    refine ⟨_, (pss_one (ps_ret (pe_and (pe_callB call_isi (by rfl) z_isinstance (by decide +kernel) (pa_cons (pv 0) (pa_cons (pe_bltn (v := .ty "int") (by rfl) z_int (by decide +kernel) rfl) pa_nil))) (pe_one (pe_not (pe_callB call_isi (by rfl) z_isinstance (by decide +kernel) (pa_cons (pv 0) (pa_cons (pe_bltn (v := .ty "bool") (by rfl) z_bool (by decide +kernel) rfl) pa_nil)))))))), ?_⟩
    rcases hp with ⟨a, rfl, rfl⟩ | ⟨rfl, ty, b1, b2, t, k1, k2, e⟩
    · refine ⟨_, rfl, _, _, _, _, true, rfl, .ty "int", .base (.int a), kb1, true, rfl, iteT ?_⟩
      exact ⟨_, rfl, _, _, _, _, false, rfl, .ty "bool", .base (.int a), kb2, _, rfl, q⟩
    · refine ⟨_, rfl, _, _, _, _, b1, rfl, .ty "int", t, kit_ty k1, b1, rfl, ?_⟩
      cases b1 with
      | false => exact iteF q
      | true =>
        refine iteT ⟨_, rfl, _, _, _, _, b2, rfl, .ty "bool", t, kit_ty k2, _, rfl, ?_⟩
        have e2 : (!b2) = false := e
        rw [e2]
        exact q
theorem ok_is_number {f : Addr} {fd : FuncData} (F : Fun K "is_number" "is_number" s_is_number f fd) (C_is_an_integer : Cl P w K mg base 1 "is_an_integer" (spInt K)) : FnOk P w K mg base CX0 2 f fd ["value"] (spNum K) := by
  refine F.ok sc_is_number (fun vs H Q E h => ?_) (fun cdv A outer s H vs Q E hr h => ?_)
  · obtain ⟨_, rfl, _⟩ := h
    rfl
  · obtain ⟨a, rfl, q⟩ := h
    refine ⟨_, (pss_one (ps_ret (pe_and (pe_cl C_is_an_integer hr (by decide) rfl (pa_cons (pv 0) pa_nil)) (pe_one (pe_cmpR op_ge (pv 0) pe_int (nomark _)))))), ?_⟩
    refine ⟨_, rfl, _, some a, rfl, .inl ⟨_, rfl, rfl⟩, true, rfl, iteT ?_⟩
    exact ⟨_, rfl, _, _, rfl, rfl, q⟩
theorem ok_is_number_below {f : Addr} {fd : FuncData} (F : Fun K "is_number_below" "is_number_below" s_is_number_below f fd) (C_is_number : Cl P w K mg base 2 "is_number" (spNum K)) : FnOk P w K mg base CX0 3 f fd ["value", "many"] spBelow := by
  refine F.ok sc_is_number_below (fun vs H Q E h => ?_) (fun cdv A outer s H vs Q E hr h => ?_)
  · obtain ⟨_, _, rfl, _⟩ := h
    rfl
  · obtain ⟨a, n, rfl, q⟩ := h
    refine ⟨_, (pss_one (ps_ret (pe_and (pe_cl C_is_number hr (by decide) rfl (pa_cons (pv 0) pa_nil)) (pe_one (pe_cmpR op_lt (pv 0) (pv 1) (nomark _)))))), ?_⟩
    refine ⟨_, rfl, a, rfl, _, rfl, ite2 (fun e => ?_) (fun e => ?_)⟩
    · have ha := of_decide_eq_true e
      refine ⟨_, rfl, _, rfl, _, _, rfl, rfl, ?_⟩
      have e2 : decide (a < n) = decide (0 ≤ a ∧ a < n) := decide_eq_decide.mpr ⟨fun z => ⟨ha, z⟩, fun z => z.2⟩
      show Q (.bl (decide (a < n))) H
      rw [e2]
      exact q
    · have ha : ¬ 0 ≤ a := fun z => e (decide_eq_true z)
      have e1 : decide (0 ≤ a ∧ a < n) = false := decide_eq_false (fun z => ha z.1)
      rw [e1] at q
      exact q
theorem ok_are_numbers_below {f : Addr} {fd : FuncData} (F : Fun K "are_numbers_below" "are_numbers_below" s_are_numbers_below f fd) (C_is_number_below : Cl P w K mg base 3 "is_number_below" spBelow) (z_isinstance : mg "isinstance" = none) (z_tuple : mg "tuple" = none) (z_all : mg "all" = none) :
    FnOk P w K mg base CX0 4 f fd ["value", "many"] (spNumsBelow K) := by
  refine F.ok sc_are_numbers_below (fun vs H Q E h => ?_) (fun cdv A outer s H vs Q E hr h => ?_)
  · obtain ⟨_, _, _, rfl, _⟩ := h
    rfl
  · obtain ⟨t, cs, n, rfl, hS, hl, hc, fin⟩ := h
    refine ⟨_, (pss_one (ps_ret (pe_and (pe_callB call_isi (by rfl) z_isinstance (by decide +kernel) (pa_cons (pv 0) (pa_cons (pe_bltn (v := .ty "tuple") (by rfl) z_tuple (by decide +kernel) rfl) pa_nil))) (pe_one (pe_callB (cr_all rfl) (by rfl) z_all (by decide +kernel) (pa_cons (pe_lc (own := [("item", 2)]) (by rfl) sc_are_numbers_below.nd (pi_tup (pv 0)) (blkOk_by (own := [("item", 2)]) (N := N_are_numbers_below) (sc := defScope s_are_numbers_below) (by decide +kernel)) (fun _ _ _ _ _ => (pg_name (i := 2) sc_are_numbers_below.nd rfl (.inl rfl))) (fun _ _ _ _ _ => pts_nil) (fun _ _ _ _ _ => (pe_cl C_is_number_below hr (by decide) rfl (pa_cons (pv 2) (pa_cons (pv 1) pa_nil))))) pa_nil)))))), ?_⟩
    refine ⟨_, rfl, _, _, _, _, true, rfl, .ty "tuple", tyT hS, kit_ty (by decide +kernel), true, rfl, iteT ?_⟩
    refine ⟨_, rfl, t, rfl, ⟨_, hS⟩, fun D nD => ?_⟩
    refine lc_it (walk_tup (K := K) (a := t) (xs := cs.map V.int)) (fun i H' => Same H H' ∧ ∃ bs : List Bool, bs.length = i ∧ bs.all id = true ∧ H' D = some (.lst (bs.map V.bl))) ⟨same_upd nD, [], rfl, rfl, upd_same⟩ (fun i H' _ h => seqT h.1 hS) ?_ ?_
    · rintro i v H1 H2 hi ⟨sm, bs, el, ea, hD⟩ ⟨e2, ex⟩
      subst e2
      rw [List.getElem?_map] at ex
      obtain ⟨c, ec, rfl⟩ := Option.map_eq_some_iff.mp ex
      have ⟨c0, c1⟩ := hc c (List.mem_of_getElem? ec)
      refine ⟨rfl, _, rfl, _, rfl, c, n, rfl, ?_⟩
      have il : i < cs.length := (List.getElem?_eq_some_iff.mp ec).1
      rw [decide_eq_true (⟨c0, c1⟩ : 0 ≤ c ∧ c < n)]
      refine ⟨bs.map V.bl, hD, ?_, HD.same_put sm nD, bs ++ [true], by rw [List.length_append, el]; rfl, ?_, ?_⟩
      · rw [List.length_map]
        have : sizeLine = 16777216 := by decide
        omega
      · rw [List.all_append, ea]
        rfl
      · rw [upd_same, List.map_append]
        rfl
    · rintro H1 ⟨sm, bs, el, ea, hD⟩
      refine ⟨D, bs, rfl, .inl (.inl hD), ?_⟩
      rw [ea]
      exact fin H1 sm
theorem ok_is_ascending {f : Addr} {fd : FuncData} (F : Fun K "is_ascending" "is_ascending" s_is_ascending f fd) (z_all : mg "all" = none) (z_zip : mg "zip" = none) : FnOk P w K mg base CX0 1 f fd ["some"] (spAsc K) := by
  refine F.ok sc_is_ascending (fun vs H Q E h => ?_) (fun cdv A outer s H vs Q E hr h => ?_)
  · obtain ⟨_, _, rfl, _⟩ := h
    rfl
  · obtain ⟨t, xs, rfl, hS, hl, hasc, fin⟩ := h
    refine ⟨_, (pss_one (ps_ret (pe_callB (cr_all rfl) (by rfl) z_all (by decide +kernel) (pa_cons (pe_lc (own := [("one", 1), ("other", 2)]) (by rfl) sc_is_ascending.nd (RZ.pi_zipA (by rfl) z_zip (pa_cons (pv 0) (pa_cons (pe_meet (pe_slice sl_tupA (pv 0) (po_some pe_int) po_none)) pa_nil))) (blkOk_by (own := [("one", 1), ("other", 2)]) (N := N_is_ascending) (sc := defScope s_is_ascending) (by decide +kernel)) (fun _ _ _ _ _ => (show PG _ _ (gTup K 2 _) from pg_tup rfl (pgs_cons (pg_name (i := 1) sc_is_ascending.nd rfl (.inl rfl)) (pgs_cons (pg_name (i := 2) sc_is_ascending.nd rfl (.inl rfl)) pgs_nil)))) (fun _ _ _ _ _ => pts_nil) (fun _ _ _ _ _ => (pe_cmpR (op_lt.or op_lt_str) (pv 1) (pv 2) (nomark _)))) pa_nil)))), ?_⟩
    refine ⟨_, rfl, fun v H' => ∃ u, v = .ref u ∧ Same H H' ∧ SqT K H' u (xs.drop 1), ?_, ?_⟩
    · refine ⟨_, rfl, 1, rfl, ?_⟩
      refine ⟨t, xs, rfl, hS, fun z => ?_, fun z u nu => ?_⟩
      · have e : HT.sIx xs.length 0 (some 1) = min 1 xs.length := HT.sIx_nat xs.length 0 1
        have e0 : xs.length = 0 := by
          have := z.1
          rw [e] at this
          omega
        have x0 : xs = [] := List.eq_nil_of_length_eq_zero e0
        subst x0
        exact ⟨t, rfl, Same.refl _, hS⟩
      · refine ⟨u, rfl, same_upd nu, ?_⟩
        have h := sqt (K := K) (upd_same (H := H) (a := u) (o := .tup (cutV xs (some 1) none)))
        rw [cut1] at h ⊢
        exact h
    rintro v H1 ⟨u, rfl, sm1, hU⟩
    have hS1 := seqT sm1 hS
    refine ⟨t, u, xs, xs.drop 1, rfl, .inr ⟨hS1, hU, fun D nD => ?_⟩⟩
    refine lc_it (walk_zipT (K := K) (a := t) (b := u) (xs := xs) (ys := xs.drop 1) (n := xs.length - 1) (by rw [List.length_drop]; omega)) (fun i H' => Same H1 H' ∧ ∃ bs : List Bool, bs.length = i ∧ bs.all id = true ∧ H' D = some (.lst (bs.map V.bl))) ⟨same_upd nD, [], rfl, rfl, upd_same⟩ (fun i H' _ h => ⟨seqT h.1 hS1, seqT h.1 hU⟩) ?_ ?_
    · rintro i v H2 H3 hi ⟨sm, bs, el, ea, hD⟩ ⟨T, x, y, rfl, nT, rfl, ex, ey⟩
      have ey2 : xs[i + 1]? = some y := by
        have z : (xs.drop 1)[i]? = some y := ey
        rw [List.getElem?_drop, Nat.add_comm] at z
        exact z
      have sT := same_upd (o := .tup [x, y]) nT
      have hlt := hasc i x y ex ey2
      have fin2 : ∃ acc : List V, (L2.upd H2 T (.tup [x, y])) D = some (.lst acc) ∧ acc.length < sizeLine ∧ Same H1 (L2.upd (L2.upd H2 T (.tup [x, y])) D (.lst (acc ++ [V.bl true]))) ∧ ∃ bs : List Bool, bs.length = i + 1 ∧ bs.all id = true ∧ (L2.upd (L2.upd H2 T (.tup [x, y])) D (.lst (acc ++ [V.bl true]))) D = some (.lst (bs.map V.bl)) := by
        refine ⟨bs.map V.bl, sT _ _ hD, ?_, HD.same_put (sm.trans sT) nD, bs ++ [true], by rw [List.length_append, el]; rfl, ?_, ?_⟩
        · have : sizeLine = 16777216 := by decide
          rw [List.length_map]
          omega
        · rw [List.all_append, ea]
          rfl
        · rw [upd_same, List.map_append]
          rfl
      obtain ⟨acc, f1, f2, f3, f4⟩ := fin2
      refine ⟨T, _, rfl, .inl (.inl upd_same), rfl, _, _, rfl, _, _, rfl, rfl, rfl, _, rfl, _, rfl, ?_⟩
      rcases hlt with ⟨a, b, rfl, rfl, ab⟩ | ⟨a, b, rfl, rfl, ab⟩
      · refine .inl ⟨_, _, rfl, rfl, acc, f1, f2, ?_⟩
        have e : decide (a < b) = true := decide_eq_true ab
        simp only [e]
        exact ⟨f3, f4⟩
      · refine .inr ⟨a, b, rfl, rfl, acc, f1, f2, ?_⟩
        have e : decide (a.cps.toList < b.cps.toList) = true := decide_eq_true ab
        rw [e]
        exact ⟨f3, f4⟩
    · rintro H2 ⟨sm, bs, el, ea, hD⟩
      refine ⟨D, bs, rfl, .inl (.inl hD), ?_⟩
      rw [ea]
      exact fin H2 (sm1.trans sm)
theorem ok_is_lot_below {f : Addr} {fd : FuncData} (F : Fun K "is_lot_below" "is_lot_below" s_is_lot_below f fd) (C_are_numbers_below : Cl P w K mg base 4 "are_numbers_below" (spNumsBelow K)) (C_is_ascending : Cl P w K mg base 1 "is_ascending" (spAsc K)) :
    FnOk P w K mg base CX0 5 f fd ["value", "many"] (spLot K) := by
  refine F.ok sc_is_lot_below (fun vs H Q E h => ?_) (fun cdv A outer s H vs Q E hr h => ?_)
  · obtain ⟨_, _, _, rfl, _⟩ := h
    rfl
  · obtain ⟨t, cs, n, rfl, hS, hl, hc, ha, fin⟩ := h
    refine ⟨_, (pss_one (ps_ret (pe_and (pe_cl C_are_numbers_below hr (by decide) rfl (pa_cons (pv 0) (pa_cons (pv 1) pa_nil))) (pe_one (pe_cl C_is_ascending hr (by decide) rfl (pa_cons (pv 0) pa_nil)))))), ?_⟩
    refine ⟨_, rfl, _, rfl, t, cs, n, rfl, hS, hl, hc, fun H1 sm => ⟨true, rfl, iteT ?_⟩⟩
    exact ⟨_, rfl, t, _, rfl, seqT sm hS, by rw [List.length_map]; exact hl, asc_ints ha, fun H2 sm2 => fin H2 (sm.trans sm2)⟩
theorem ok_check_totals {f fi Ci : Addr} {fd fdi : FuncData} {tk : Tok} (F : Fun K "check_totals" "check_totals" s_check_totals f fd) (C_is_lot_below : Cl P w K mg base 5 "is_lot_below" (spLot K)) (m_MOST_TOTALS : mg "MOST_TOTALS" = some (.int 12 tk))
    (e_InvalidTable : ErrC K mg "InvalidTable" Ci fi) (i_InvalidTable : FnOk P w K mg base CX0 1 fi fdi ["self", "at"] (spInitW K Ci "at")) (b_InvalidTable : Binds K fdi ["self", "at"] [])
    (z_isinstance : mg "isinstance" = none) (z_tuple : mg "tuple" = none) (z_len : mg "len" = none) (z_enumerate : mg "enumerate" = none) :
    FnOk P w K mg base (L2.CX P w) 6 f fd ["totals", "many"] (spCheckTotals K) := by
  refine F.okX sc_check_totals (fun vs H Q E h => ?_) (fun cdv A outer s H vs Q E hr h => ?_)
  · obtain ⟨_, _, _, _, rfl, _⟩ := h
    rfl
  · obtain ⟨t, xs, ts, n, rfl, hS, hT, hl, ho, fin⟩ := h
    refine ⟨_, (pss_cons (ps_if (PW.pt (pw_or (pt_not (pt_val (pe_callB call_isi (by rfl) z_isinstance (by decide +kernel) (pa_cons (pv 0) (pa_cons (pe_bltn (v := .ty "tuple") (by rfl) z_tuple (by decide +kernel) rfl) pa_nil))))) (pw_or1 (pt_cmpR op_gt (pe_callB call_len_seq (by rfl) z_len (by decide +kernel) (pa_cons (pv 0) pa_nil)) (pe_glob (v := .int 12) rfl m_MOST_TOTALS ⟨_, rfl⟩) (nomark _)))))
      (pss_one (ps_raise rfl (takes_of rfl rfl rfl rfl) (pmk_oex e_InvalidTable.o e_InvalidTable.iC e_InvalidTable.tI i_InvalidTable (hr.mono (by decide)) b_InvalidTable .nil pass0 rfl e_InvalidTable.gC (pa_cons (pe_un un_neg pe_int) pa_nil))))
      pss_nil)
    (pss_one (ps_for (passes_of rfl) rfl (pi_enumT (by rfl) z_enumerate (pa_cons (pv 0) pa_nil)) (pg_tup rfl (pgs_cons (pg_name (i := 2) sc_check_totals.nd rfl (.inl rfl)) (pgs_cons (pg_name (i := 3) sc_check_totals.nd rfl (.inl rfl)) pgs_nil)))
      (pss_one (ps_if (pt_not (pt_val (pe_cl C_is_lot_below hr (by decide) rfl (pa_cons (pv 3) (pa_cons (pv 1) pa_nil)))))
        (pss_one (ps_raise rfl (takes_of rfl rfl rfl rfl) (pmk_oex e_InvalidTable.o e_InvalidTable.iC e_InvalidTable.tI i_InvalidTable (hr.mono (by decide)) b_InvalidTable .nil pass0 rfl e_InvalidTable.gC (pa_cons (pv 2) pa_nil))))
        pss_nil))))), ?_⟩
    have lx := hT.len
    refine ⟨_, rfl, _, _, _, _, true, rfl, .ty "tuple", tyT hS, kit_ty (by decide +kernel), true, rfl, iteF ?_⟩
    refine ⟨_, rfl, t, _, rfl, .inr hS, _, _, rfl, rfl, _, rfl, ite2 (fun z => ?_) (fun z => ?_)⟩
    · have : (xs.length : Int) > 12 := of_decide_eq_true z
      omega
    refine ⟨_, rfl, t, xs, rfl, hS, ?_⟩
    refine for_it (walk_enumT (K := K) (a := t) (xs := xs)) (fun i σ H' => Same H H' ∧ ∃ y2 y3 : Option V, σ = [some (.ref t), some (.int n), y2, y3]) ⟨Same.refl _, _, _, rfl⟩ (fun i σ H' _ h => seqT h.1 hS) ?_ ?_
    · rintro i v σ H2 H3 hi ⟨sm, y2, y3, rfl⟩ ⟨U, x, rfl, nU, rfl, ex⟩
      obtain ⟨u, c, rfl, ec, hu⟩ := hT.get ex
      have sU := same_upd (o := .tup [.int (i : Nat), .ref u]) nU
      have ok := ho c (List.mem_of_getElem? ec)
      refine ⟨U, _, rfl, .inl (.inl upd_same), rfl, _, _, rfl, _, _, rfl, rfl, ?_⟩
      refine ⟨_, rfl, _, rfl, u, c, n, rfl, seqT (sm.trans sU) hu, ok.1, ok.2.1, ok.2.2, fun H4 s4 => ⟨true, rfl, iteF ?_⟩⟩
      exact ⟨(sm.trans sU).trans s4, _, _, rfl⟩
    · rintro σ H2 ⟨sm, y2, y3, rfl⟩
      exact fin H2 sm
theorem ok_is_name {f : Addr} {fd : FuncData} {tk : Tok} (F : Fun K "is_name" "is_name" s_is_name f fd) (m_LETTERS : ∃ u, mg "LETTERS" = some (.str cLETTERS u)) (m_LONGEST_NAME : mg "LONGEST_NAME" = some (.int 6 tk))
    (z_isinstance : mg "isinstance" = none) (z_str : mg "str" = none) (z_len : mg "len" = none) (z_all : mg "all" = none) : FnOk P w K mg base CX0 1 f fd ["value"] spName := by
  refine F.ok sc_is_name (fun vs H Q E h => ?_) (fun cdv A outer s H vs Q E hr h => ?_)
  · obtain ⟨_, rfl, _⟩ := h
    rfl
  · obtain ⟨z, rfl, ⟨n1, n2, n3⟩, fin⟩ := h
    refine ⟨_, (pss_cons (ps_if (PW.pt (pw_or (pt_not (pt_val (pe_callB call_isi (by rfl) z_isinstance (by decide +kernel) (pa_cons (pv 0) (pa_cons (pe_bltn (v := .ty "str") (by rfl) z_str (by decide +kernel) rfl) pa_nil))))) (pw_or1 (pt_not (pt_chain op_le op_le pe_int (pe_callB call_len_str (by rfl) z_len (by decide +kernel) (pa_cons (pv 0) pa_nil)) (pe_glob (v := .int 6) rfl m_LONGEST_NAME ⟨_, rfl⟩))))))
      (pss_one (ps_ret pe_bl))
      pss_nil)
    (pss_one (ps_ret (pe_callB (cr_all rfl) (by rfl) z_all (by decide +kernel) (pa_cons (pe_lc (own := [("letter", 1)]) (by rfl) sc_is_name.nd (pi_str (pv 0)) (blkOk_by (own := [("letter", 1)]) (N := N_is_name) (sc := defScope s_is_name) (by decide +kernel)) (fun _ _ _ _ _ => (pg_name (i := 1) sc_is_name.nd rfl (.inl rfl))) (fun _ _ _ _ _ => pts_nil) (fun _ _ _ _ _ => (pe_cmpR op_in_sign (pv 1) (pe_gs rfl m_LETTERS) rfl))) pa_nil))))), ?_⟩
    refine ⟨_, rfl, _, _, _, _, true, rfl, .ty "str", .base (.str z), kit_ty (by decide +kernel), true, rfl, iteF ?_⟩
    have zl : z.length = z.cps.size := rfl
    refine ⟨_, rfl, z, rfl, ?_, _, _, rfl, rfl, _, rfl, ite_eq true (decide_eq_true (by show (1 : Int) ≤ (z.length : Nat); omega)) (iteT ?_)⟩
    · have : sizeLine = 16777216 := by decide
      omega
    refine ⟨_, _, rfl, rfl, _, rfl, ite_eq false ?_ (iteF ?_)⟩
    · have e : decide (((z.length : Nat) : Int) ≤ 6) = true := decide_eq_true (by omega)
      rw [e]
      rfl
    refine ⟨_, rfl, z, rfl, fun D nD => ?_⟩
    refine lc_it (walk_str (z := z)) (fun i H' => Same H H' ∧ ∃ bs : List Bool, bs.length = i ∧ bs.all id = true ∧ H' D = some (.lst (bs.map V.bl))) ⟨same_upd nD, [], rfl, rfl, upd_same⟩ (fun _ _ _ _ => trivial) ?_ ?_
    · rintro i v H2 H3 hi ⟨sm, bs, el, ea, hD⟩ ⟨e2, c, ec, rfl⟩
      subst e2
      have cm : c ∈ z.cps.toList := by
        have q : z.cps.toList[i]? = some c := by rw [Array.getElem?_toList]; exact ec
        exact List.mem_of_getElem? q
      refine ⟨rfl, _, rfl, c, _, rfl, rfl, ?_⟩
      rw [decide_eq_true ((in_letters c).mpr (n3 c cm))]
      refine ⟨bs.map V.bl, hD, ?_, HD.same_put sm nD, bs ++ [true], by rw [List.length_append, el]; rfl, ?_, ?_⟩
      · rw [List.length_map]
        have : sizeLine = 16777216 := by decide
        omega
      · rw [List.all_append, ea]
        rfl
      · rw [upd_same, List.map_append]
        rfl
    · rintro H2 ⟨sm, bs, el, ea, hD⟩
      refine ⟨D, bs, rfl, .inl (.inl hD), ?_⟩
      rw [ea]
      exact fin H2 sm
theorem ok_are_names {f : Addr} {fd : FuncData} (F : Fun K "are_names" "are_names" s_are_names f fd) (C_is_name : Cl P w K mg base 1 "is_name" spName) (z_isinstance : mg "isinstance" = none) (z_tuple : mg "tuple" = none) (z_all : mg "all" = none) :
    FnOk P w K mg base CX0 2 f fd ["value"] (spNames K) := by
  refine F.ok sc_are_names (fun vs H Q E h => ?_) (fun cdv A outer s H vs Q E hr h => ?_)
  · obtain ⟨_, _, rfl, _⟩ := h
    rfl
  · obtain ⟨t, ks, rfl, hS, hl, hc, fin⟩ := h
    refine ⟨_, (pss_one (ps_ret (pe_and (pe_callB call_isi (by rfl) z_isinstance (by decide +kernel) (pa_cons (pv 0) (pa_cons (pe_bltn (v := .ty "tuple") (by rfl) z_tuple (by decide +kernel) rfl) pa_nil))) (pe_one (pe_callB (cr_all rfl) (by rfl) z_all (by decide +kernel) (pa_cons (pe_lc (own := [("item", 1)]) (by rfl) sc_are_names.nd (pi_tup (pv 0)) (blkOk_by (own := [("item", 1)]) (N := N_are_names) (sc := defScope s_are_names) (by decide +kernel)) (fun _ _ _ _ _ => (pg_name (i := 1) sc_are_names.nd rfl (.inl rfl))) (fun _ _ _ _ _ => pts_nil) (fun _ _ _ _ _ => (pe_cl C_is_name hr (by decide) rfl (pa_cons (pv 1) pa_nil)))) pa_nil)))))), ?_⟩
    refine ⟨_, rfl, _, _, _, _, true, rfl, .ty "tuple", tyT hS, kit_ty (by decide +kernel), true, rfl, iteT ?_⟩
    refine ⟨_, rfl, t, rfl, ⟨_, hS⟩, fun D nD => ?_⟩
    refine lc_it (walk_tup (K := K) (a := t) (xs := ks.map V.str)) (fun i H' => Same H H' ∧ ∃ bs : List Bool, bs.length = i ∧ bs.all id = true ∧ H' D = some (.lst (bs.map V.bl))) ⟨same_upd nD, [], rfl, rfl, upd_same⟩ (fun i H' _ h => seqT h.1 hS) ?_ ?_
    · rintro i v H1 H2 hi ⟨sm, bs, el, ea, hD⟩ ⟨e2, ex⟩
      subst e2
      rw [List.getElem?_map] at ex
      obtain ⟨z, ec, rfl⟩ := Option.map_eq_some_iff.mp ex
      have il : i < ks.length := (List.getElem?_eq_some_iff.mp ec).1
      refine ⟨rfl, _, rfl, z, rfl, hc z (List.mem_of_getElem? ec), fun H3 s3 => ?_⟩
      have sm3 := sm.trans s3
      refine ⟨bs.map V.bl, s3 _ _ hD, ?_, HD.same_put sm3 nD, bs ++ [true], by rw [List.length_append, el]; rfl, ?_, ?_⟩
      · rw [List.length_map]
        have : sizeLine = 16777216 := by decide
        omega
      · rw [List.all_append, ea]
        rfl
      · rw [upd_same, List.map_append]
        rfl
    · rintro H1 ⟨sm, bs, el, ea, hD⟩
      refine ⟨D, bs, rfl, .inl (.inl hD), ?_⟩
      rw [ea]
      exact fin H1 sm
theorem ok_check_kinds {f fi Ci : Addr} {fd fdi : FuncData} {tk : Tok} (F : Fun K "check_kinds" "check_kinds" s_check_kinds f fd) (C_are_names : Cl P w K mg base 2 "are_names" (spNames K)) (C_is_ascending : Cl P w K mg base 1 "is_ascending" (spAsc K)) (m_MOST_KINDS : mg "MOST_KINDS" = some (.int 12 tk))
    (e_InvalidTable : ErrC K mg "InvalidTable" Ci fi) (i_InvalidTable : FnOk P w K mg base CX0 1 fi fdi ["self", "at"] (spInitW K Ci "at")) (b_InvalidTable : Binds K fdi ["self", "at"] [])
    (z_isinstance : mg "isinstance" = none) (z_tuple : mg "tuple" = none) (z_len : mg "len" = none) :
    FnOk P w K mg base (L2.CX P w) 3 f fd ["kinds"] (spCheckKinds K) := by
  refine F.okX sc_check_kinds (fun vs H Q E h => ?_) (fun cdv A outer s H vs Q E hr h => ?_)
  · obtain ⟨_, _, rfl, _⟩ := h
    rfl
  · obtain ⟨t, ks, rfl, hS, ⟨l1, l2, l3, l4⟩, fin⟩ := h
    refine ⟨_, (pss_cons (ps_if (PW.pt (pw_or (pt_not (pt_val (pe_callB call_isi (by rfl) z_isinstance (by decide +kernel) (pa_cons (pv 0) (pa_cons (pe_bltn (v := .ty "tuple") (by rfl) z_tuple (by decide +kernel) rfl) pa_nil))))) (pw_or1 (pt_not (pt_chain op_le op_le pe_int (pe_callB call_len_seq (by rfl) z_len (by decide +kernel) (pa_cons (pv 0) pa_nil)) (pe_glob (v := .int 12) rfl m_MOST_KINDS ⟨_, rfl⟩))))))
      (pss_one (ps_raise rfl (takes_of rfl rfl rfl rfl) (pmk_oex e_InvalidTable.o e_InvalidTable.iC e_InvalidTable.tI i_InvalidTable (hr.mono (by decide)) b_InvalidTable .nil pass0 rfl e_InvalidTable.gC (pa_cons (pe_un un_neg pe_int) pa_nil))))
      pss_nil)
    (pss_one (ps_if (PW.pt (pw_or (pt_not (pt_val (pe_cl C_are_names hr (by decide) rfl (pa_cons (pv 0) pa_nil)))) (pw_or1 (pt_not (pt_val (pe_cl C_is_ascending hr (by decide) rfl (pa_cons (pv 0) pa_nil)))))))
      (pss_one (ps_raise rfl (takes_of rfl rfl rfl rfl) (pmk_oex e_InvalidTable.o e_InvalidTable.iC e_InvalidTable.tI i_InvalidTable (hr.mono (by decide)) b_InvalidTable .nil pass0 rfl e_InvalidTable.gC (pa_cons (pe_un un_neg pe_int) pa_nil))))
      pss_nil))), ?_⟩
    have ll : (ks.map V.str).length = ks.length := List.length_map _
    refine ⟨_, rfl, _, _, _, _, true, rfl, .ty "tuple", tyT hS, kit_ty (by decide +kernel), true, rfl, iteF ?_⟩
    refine ⟨_, rfl, t, _, rfl, .inr hS, _, _, rfl, rfl, _, rfl, ite_eq true (decide_eq_true (by omega)) (iteT ?_)⟩
    refine ⟨_, _, rfl, rfl, _, rfl, ite_eq false ?_ (iteF ?_)⟩
    · have e : decide ((((ks.map V.str).length : Nat) : Int) ≤ 12) = true := decide_eq_true (by omega)
      rw [e]
      rfl
    refine ⟨_, rfl, t, ks, rfl, hS, by omega, l3, fun H1 s1 => ⟨true, rfl, iteF ?_⟩⟩
    refine ⟨_, rfl, t, _, rfl, seqT s1 hS, by omega, asc_strs l4, fun H2 s2 => ⟨true, rfl, iteF ?_⟩⟩
    exact fin H2 (s1.trans s2)
theorem ok_init_Table {f C : Addr} {fd : FuncData} (F : Fun K "__init__" "Table.__init__" i_Table f fd) (T : TabC K C) (C_check_kinds : Cl P w K mg base 3 "check_kinds" (fun vs H Q _ => spCheckKinds K vs H Q E0)) (C_check_totals : Cl P w K mg base 6 "check_totals" (fun vs H Q _ => spCheckTotals K vs H Q E0))
    (z_len : mg "len" = none) : FnOk P w K mg base CX0 7 f fd ["self", "kinds", "totals"] (spInitT K C) := by
  refine F.ok sc_i_Table (fun vs H Q E h => ?_) (fun cdv A outer s H vs Q E hr h => ?_)
  · obtain ⟨_, _, _, _, _, _, _, rfl, _⟩ := h
    rfl
  · obtain ⟨a, dx, k, t, ks, xs, ts, rfl, ha, hk, ok, ht, hT, hl, hc, fin⟩ := h
    refine ⟨_, (pss_cons (ps_expr (pe_cl C_check_kinds hr (by decide) rfl (pa_cons (pv 1) pa_nil)))
      (pss_cons (ps_expr (pe_cl C_check_totals hr (by decide) rfl (pa_cons (pv 2) (pa_cons (pe_callB call_len_seq (by rfl) z_len (by decide +kernel) (pa_cons (pv 1) pa_nil)) pa_nil))))
      (pss_cons (ps_fld (pv 0) (pv 1) (by rfl))
      (pss_one (ps_fld (pv 0) (pv 2) (by rfl)))))), ?_⟩
    refine ⟨_, rfl, k, ks, rfl, hk, ok, fun H1 s1 => ?_⟩
    have hk1 := seqT s1 hk
    have e : ((ks.map V.str).length : Int) = (ks.length : Nat) := by rw [List.length_map]
    refine ⟨_, rfl, _, rfl, k, _, rfl, .inr hk1, t, xs, ts, _, rfl, seqT s1 ht, hT.mono s1, hl, fun c h => by rw [e]; exact hc c h, fun H2 s2 => ?_⟩
    have s12 := s1.trans s2
    refine ⟨_, rfl, _, rfl, a, C, dx, [], rfl, s12 _ _ ha, T.c, T.nk, by decide, ?_⟩
    refine ⟨_, rfl, _, rfl, a, C, dx, _, rfl, upd_same, T.c, T.nt, by show 1 < 1000; decide, ?_⟩
    refine fin _ (fun b o nb hb => ?_) ?_
    · rw [upd_ne nb, upd_ne nb]
      exact s12 b o hb
    · rw [upd_same]
      rfl
theorem ok__law_draw {f : Addr} {fd : FuncData} (F : Fun K "_law_draw" "_law_draw" s__law_draw f fd) (z_int : mg "int" = none) :
    FnOk P w K mg base CX0 1 f fd ["heap", "many"] spDraw := by
  refine F.ok sc__law_draw (fun vs H Q E h => ?_) (fun cdv A outer s H vs Q E hr h => ?_)
  · obtain ⟨p, q, many, rfl, _⟩ := h
    rfl
  · obtain ⟨p, q, many, rfl, hd, m0, m1, fin⟩ := h
    refine ⟨_, (pss_cut (ps_while PassesOwn.never (PW.pt (pw_and (pt_cmpR (op_neD hr.units) (pe_ix ix_list (pv 0) pe_int (fun _ _ => rfl)) (pe_lst pa_nil) (nomark _)) (pw_and1 (pt_cmpR op_eq (pe_ix ix_list (pe_ix ix_list (pv 0) pe_int (fun _ _ => rfl)) (pe_un un_neg pe_int) (fun _ _ => rfl)) pe_int (nomark _)))))
      (pss_one (ps_expr (pe_bm0 PySem.F.plainAttrs_list PySem.F.slot_list_pop PySem.F.type_list_pop mt_pop (pe_ix ix_list (pv 0) pe_int (fun _ _ => rfl))))))
    (pss_cons (ps_if (pt_cmpR (op_neD hr.units) (pe_ix ix_list (pv 0) pe_int (fun _ _ => rfl)) (pe_lst pa_nil) (nomark _))
      (pss_cons (ps_set (i := 2) sc__law_draw.nd rfl (.inl rfl) (pe_bm0 PySem.F.plainAttrs_list PySem.F.slot_list_pop PySem.F.type_list_pop mt_pop (pe_ix ix_list (pv 0) pe_int (fun _ _ => rfl))))
      (pss_cons (ps_expr (pe_bm PySem.F.plainAttrs_list PySem.F.slot_list_append PySem.F.type_list_append mt_append (pe_ix ix_list (pv 0) pe_int (fun _ _ => rfl)) (pa_cons (pe_op op_fdivN (pv 2) (pv 1)) pa_nil)))
      (pss_one (ps_ret (pe_op op_modN (pe_callTy call_int1 (by rfl) z_int (by decide +kernel) (pa_cons (pv 2) pa_nil)) (pv 1))))))
      pss_nil)
    (pss_cons (ps_asg (pe_op op_modN (pe_callTy call_int1 (by rfl) z_int (by decide +kernel) (pa_cons (pe_op op_add (pe_op op_mul (pe_ix ix_list (pv 0) pe_int (fun _ _ => rfl)) pe_int) pe_int) pa_nil)) pe_int) (pg_sub (pv 0) pe_int set_list))
    (pss_one (ps_ret (pe_op op_modN (pe_callTy call_int1 (by rfl) z_int (by decide +kernel) (pa_cons (pe_op op_fdivN (pe_ix ix_list (pv 0) pe_int (fun _ _ => rfl)) pe_int) pa_nil)) (pv 1))))))), ?_⟩
    obtain ⟨cs, st, h1, h2, h3, h4, h5⟩ := hd
    have at0 : ∀ x y : V, atI [x, y] 0 = some x := fun _ _ => rfl
    have at1 : ∀ x y : V, atI [x, y] 1 = some y := fun _ _ => rfl
    refine ⟨fun σ H' => σ = [some (.ref p), some (.int many), none] ∧ Keep p q H H' ∧ ∃ cs : List Int, H' p = some (.lst [.ref q, .int st]) ∧ H' q = some (.lst (cs.map V.int)) ∧ cs.length ≤ 63, ?_, ?_⟩
    · -- the loop
      refine ⟨fun m σ H' => ∃ cs : List Int, m = cs.length ∧ σ = [some (.ref p), some (.int many), none] ∧ Keep p q H H' ∧ H' p = some (.lst [.ref q, .int st]) ∧ H' q = some (.lst (cs.map V.int)) ∧ cs.length ≤ 63,
        ⟨_, cs, rfl, rfl, Keep.refl _ _ _, h1, h2, h3⟩, ?_⟩
      rintro m σ H1 ⟨cs, rfl, rfl, kp, h1, h2, h3⟩
      refine ⟨_, rfl, p, _, 0, .ref q, rfl, rfl, .inl (.inl h1), at0 _ _, Nat.zero_le _, fun l nl => ?_⟩
      have n1 : p ≠ l := ne_of_none h1 nl
      have n2 : q ≠ l := ne_of_none h2 nl
      have g1 : (upd H1 l (.lst [])) p = some (.lst [.ref q, .int st]) := by
        rw [upd_ne n1]
        exact h1
      have g2 : (upd H1 l (.lst [])) q = some (.lst (cs.map V.int)) := by
        rw [upd_ne n2]
        exact h2
      have kp1 : Keep p q H (upd H1 l (.lst [])) := kp.trans (Keep.new nl)
      refine ⟨_, .list [], dp_ints (.inl (.inl g2)), .lst (.inl (.inl upd_same)) .nil, shaped_ints _, shaped_nil, _, rfl, ?_⟩
      rw [eqv_nil]
      by_cases hc : cs = []
      · rw [decide_eq_true hc]
        refine iteF ⟨rfl, kp1, cs, g1, g2, h3⟩
      · rw [decide_eq_false hc]
        refine iteT ?_
        obtain ⟨c0, c, rfl⟩ := snocL cs hc
        have gl : atI ((c0 ++ [c]).map V.int) (-1) = some (.int c) := by
          rw [List.map_append]
          exact atI_last _ _
        refine ⟨_, rfl, p, _, 0, .ref q, rfl, rfl, .inl (.inl g1), at0 _ _, 1, rfl, q, _, -1, _, rfl, rfl, .inl (.inl g2), gl, rfl, _, rfl, ite2 (fun e => ?_) (fun e => ?_)⟩
        · refine ⟨fun σ' H'' => σ' = [some (.ref p), some (.int many), none] ∧ Keep p q H H'' ∧ H'' p = some (.lst [.ref q, .int st]) ∧ H'' q = some (.lst (c0.map V.int)), fun σ' H'' hN => ?_, ?_⟩
          · obtain ⟨e1, e2, e3, e4⟩ := hN
            rw [List.length_append, List.length_cons, List.length_nil] at h3
            exact ⟨c0.length, by rw [List.length_append, List.length_cons, List.length_nil]; omega, c0, rfl, e1, e2, e3, e4, by omega⟩
          · refine ⟨_, rfl, p, _, 0, .ref q, rfl, rfl, .inl (.inl g1), at0 _ _, .inl ⟨rfl, _, .inl (.inl g2)⟩, q, _, .int c, rfl, rfl, g2, ?_, rfl, kp1.trans Keep.at2, ?_, ?_⟩
            · rw [List.map_append, List.length_append, List.getElem?_append_right (by simp)]
              simp
            · rw [upd_ne (show p ≠ q from Hd.ne (H := upd H1 l (.lst [])) ⟨_, _, g1, g2, h3, h4, h5⟩)]
              exact g1
            · rw [upd_same, List.map_append]
              simp
        · exact ⟨rfl, kp1, _, g1, g2, h3⟩
    · rintro σ H1 ⟨rfl, kp, cs, h1, h2, h3⟩
      refine ⟨_, rfl, p, _, 0, .ref q, rfl, rfl, .inl (.inl h1), at0 _ _, Nat.zero_le _, fun l nl => ?_⟩
      have n1 : p ≠ l := ne_of_none h1 nl
      have n2 : q ≠ l := ne_of_none h2 nl
      have g1 : (upd H1 l (.lst [])) p = some (.lst [.ref q, .int st]) := by
        rw [upd_ne n1]
        exact h1
      have g2 : (upd H1 l (.lst [])) q = some (.lst (cs.map V.int)) := by
        rw [upd_ne n2]
        exact h2
      have kp1 : Keep p q H (upd H1 l (.lst [])) := kp.trans (Keep.new nl)
      have hpq : p ≠ q := Hd.ne (H := upd H1 l (.lst [])) ⟨_, _, g1, g2, h3, h4, h5⟩
      refine ⟨_, .list [], dp_ints (.inl (.inl g2)), .lst (.inl (.inl upd_same)) .nil, shaped_ints _, shaped_nil, _, rfl, ?_⟩
      rw [eqv_nil]
      by_cases hc : cs = []
      · -- from the number
        rw [decide_eq_true hc]
        refine iteF ?_
        have b1 : -(2 ^ 64) < st ∧ st < 2 ^ 64 := ⟨by omega, by omega⟩
        have fm := fmod_lt (st * 48271 + 17) (m := 2147483647) (by decide)
        refine ⟨_, rfl, p, _, 1, .int st, rfl, rfl, .inl (.inl g1), at1 _ _, _, _, rfl, rfl, .inl b1, _, _, rfl, rfl, .inl ⟨_, rfl, _, _, rfl, rfl, by show (2147483647 : Int) ≠ 0; decide, ?_⟩⟩
        refine ⟨_, rfl, p, _, 1, 1, rfl, rfl, g1, rfl, ?_⟩
        have g3 : (upd (upd H1 l (.lst [])) p (.lst ([V.ref q, V.int st].set 1 (V.int ((st * 48271 + 17).fmod 2147483647))))) p = some (.lst [.ref q, .int ((st * 48271 + 17).fmod 2147483647)]) := upd_same
        refine ⟨_, rfl, p, _, 1, .int ((st * 48271 + 17).fmod 2147483647), rfl, rfl, .inl (.inl g3), at1 _ _, _, _, rfl, rfl, ⟨by decide, by decide⟩, .inl ⟨_, rfl, _, rfl, _, _, rfl, rfl, by omega, ?_⟩⟩
        have fm2 := fmod_lt (((st * 48271 + 17).fmod 2147483647).fdiv 32) m0
        refine fin _ _ ⟨cs, _, g3, ?_, h3, fm.1, fm.2⟩ (kp1.trans Keep.at1) fm2.1 fm2.2
        rw [upd_ne hpq.symm]
        exact g2
      · rw [decide_eq_false hc]
        refine iteT ?_
        obtain ⟨c0, c, rfl⟩ := snocL cs hc
        have gp : (List.map V.int (c0 ++ [c]))[(List.map V.int (c0 ++ [c])).length - 1]? = some (.int c) := by
          rw [List.map_append, List.length_append, List.getElem?_append_right (by simp)]
          simp
        refine ⟨_, rfl, p, _, 0, .ref q, rfl, rfl, .inl (.inl g1), at0 _ _, .inl ⟨rfl, _, .inl (.inl g2)⟩, q, _, .int c, rfl, rfl, g2, gp, ?_⟩
        have dl : (List.map V.int (c0 ++ [c])).dropLast = c0.map V.int := by
          rw [List.map_append]
          simp
        rw [dl]
        have g3 : (upd (upd H1 l (.lst [])) q (.lst (c0.map V.int))) p = some (.lst [.ref q, .int st]) := by
          rw [upd_ne hpq]
          exact g1
        have g4 : (upd (upd H1 l (.lst [])) q (.lst (c0.map V.int))) q = some (.lst (c0.map V.int)) := upd_same
        refine ⟨_, rfl, p, _, 0, .ref q, rfl, rfl, .inl (.inl g3), at0 _ _, .inl ⟨rfl, _, .inl (.inl g4)⟩, _, rfl, _, rfl, _, _, rfl, rfl, ⟨by omega, by omega⟩, q, _, _, rfl, rfl, g4, ?_, ?_⟩
        · rw [List.length_append, List.length_cons, List.length_nil] at h3
          rw [List.length_map]
          exact small1000 (by omega)
        · refine ⟨_, rfl, .inl ⟨_, rfl, _, rfl, _, _, rfl, rfl, by omega, ?_⟩⟩
          have fm := fmod_lt c m0
          refine fin _ _ ⟨c0 ++ [c.fdiv many], st, ?_, ?_, ?_, h4, h5⟩ ((kp1.trans Keep.at2).trans Keep.at2) fm.1 fm.2
          · rw [upd_ne hpq]
            exact g3
          · rw [upd_same, List.map_append]
            rfl
          · rw [List.length_append, List.length_cons, List.length_nil] at h3 ⊢
            exact h3
theorem ok__law_pick {f : Addr} {fd : FuncData} (F : Fun K "_law_pick" "_law_pick" s__law_pick f fd) (C__law_draw : Cl P w K mg base 1 "_law_draw" spDraw) (z_len : mg "len" = none) :
    FnOk P w K mg base CX0 2 f fd ["heap", "some"] (spPick K) := by
  refine F.ok sc__law_pick (fun vs H Q E h => ?_) (fun cdv A outer s H vs Q E hr h => ?_)
  · obtain ⟨p, q, l, xs, rfl, _⟩ := h
    rfl
  · obtain ⟨p, q, l, xs, rfl, hd, hl, n1, n2, hx, hz, fin⟩ := h
    refine ⟨_, (pss_one (ps_ret (pe_ix ix_list (pv 1) (pe_cl C__law_draw hr (by decide) rfl (pa_cons (pv 0) (pa_cons (pe_callB call_len_seq (by rfl) z_len (by decide +kernel) (pa_cons (pv 1) pa_nil)) pa_nil))) (fun _ _ => rfl)))), ?_⟩
    have h0 : 0 < xs.length := List.length_pos_iff.mpr hx
    refine ⟨_, rfl, _, rfl, _, rfl, l, xs, rfl, .inl (.inl (.inl hl)), p, q, _, rfl, hd, by omega, by omega, fun H' r hd' kp r0 r1 => ?_⟩
    have hl' := kp l _ n1 n2 hl
    obtain ⟨j, rfl⟩ := Int.eq_ofNat_of_zero_le r0
    have hj : j < xs.length := by omega
    refine ⟨l, xs, _, xs[j], rfl, rfl, .inl (.inl hl'), atI_nat (List.getElem?_eq_getElem hj), ?_⟩
    exact fin _ _ hd' kp (List.getElem_mem hj)
theorem ok__law_heapF {f : Addr} {fd : FuncData} (F : Fun K "_law_heap" "_law_heap" s__law_heap f fd) (z_int : mg "int" = none) (z_abs : mg "abs" = none) :
    FnOk P w K mg base CX0 1 f fd ["script"] (spHeapF K) := by
  refine F.ok sc__law_heap (fun vs H Q E h => ?_) (fun cdv A outer s H vs Q E hr h => ?_)
  · obtain ⟨a, ns, rfl, _⟩ := h
    rfl
  · obtain ⟨a, ns, rfl, hS, hn, fin⟩ := h
    refine ⟨_, (pss_cons (ps_par (i := 2) (j := 3) (by rfl) sc__law_heap.nd rfl rfl (by decide) rfl rfl (pa_cons (pe_lc (own := [("cell", 1)]) (by rfl) sc__law_heap.nd (pi_list (pe_slice sl_list (pv 0) po_none (po_some pe_int))) (blkOk_by (own := [("cell", 1)]) (N := N__law_heap) (sc := defScope s__law_heap) (by decide +kernel)) (fun _ _ _ _ _ => (pg_name (i := 1) sc__law_heap.nd rfl (.inl rfl))) (fun _ _ _ _ _ => pts_nil) (fun _ _ _ _ _ => (pe_op op_add (pe_op op_mul pe_int (pe_callB call_abs (by rfl) z_abs (by decide +kernel) (pa_cons (pv 1) pa_nil))) (pe_callTy call_int1 (by rfl) z_int (by decide +kernel) (pa_cons (pe_cmpR op_lt (pv 1) pe_int (nomark _)) pa_nil))))) (pa_cons pe_int pa_nil)) (by rfl))
    (pss_cut (ps_for PassesOwn.never rfl (pi_list (pv 2)) (pg_name (i := 1) sc__law_heap.nd rfl (.inl rfl))
      (pss_one (ps_set (i := 3) sc__law_heap.nd rfl (.inl rfl) (pe_op op_modN (pe_callTy call_int1 (by rfl) z_int (by decide +kernel) (pa_cons (pe_op op_add (pe_op op_add (pe_op op_mul (pv 3) pe_int) (pe_op op_modN (pe_callTy call_int1 (by rfl) z_int (by decide +kernel) (pa_cons (pv 1) pa_nil)) pe_int)) pe_int) pa_nil)) pe_int))))
    (pss_one (ps_ret (pe_lst (pa_cons (pe_revL (pe_lc (own := [("cell", 1)]) (by rfl) sc__law_heap.nd (pi_list (pv 2)) (blkOk_by (own := [("cell", 1)]) (N := N__law_heap) (sc := defScope s__law_heap) (by decide +kernel)) (fun _ _ _ _ _ => (pg_name (i := 1) sc__law_heap.nd rfl (.inl rfl))) (fun _ _ _ _ _ => (pts_one (pt_cmpR op_ge (pv 1) (pe_op op_pow pe_int pe_int) (nomark _)))) (fun _ _ _ _ _ => (pv 1)))) (pa_cons (pv 3) pa_nil))))))), ?_⟩
    obtain ⟨ms, em, hm⟩ := cut_ints ns none (some 60)
    refine ⟨_, rfl, _, rfl, a, _, rfl, hS, fun c nc => ?_⟩
    rw [em]
    have s1 : Same H (upd H c (.lst (ms.map V.int))) := FR.same_upd nc
    refine ⟨c, rfl, ⟨_, .inl (.inl upd_same)⟩, fun D nD => ?_⟩
    have ncD : c ≠ D := ne_of_none upd_same nD
    refine lc_it (walk_list (K := K) (a := c) (xs := ms.map V.int)) (fun i H' => Same H H' ∧ H' c = some (.lst (ms.map V.int)) ∧ ∃ cs : List Int, cs.length = i ∧ H' D = some (.lst (cs.map V.int))) ?_ ?_ ?_ ?_
    · exact ⟨s1.trans (FR.same_upd nD), by rw [upd_ne ncD]; exact upd_same, [], rfl, upd_same⟩
    · rintro i H' _ ⟨_, h2, _⟩
      exact .inl (.inl h2)
    · rintro i x H1 H' hi ⟨sm, hc, cs, el, hD⟩ ⟨rfl, ex⟩
      rw [List.length_map] at hi
      rw [List.getElem?_map, List.getElem?_eq_getElem hi] at ex
      have e1 : V.int ms[i] = x := Option.some.inj ex
      subst e1
      refine ⟨rfl, _, rfl, _, rfl, _, _, rfl, rfl, .inl ⟨by decide, by decide⟩, _, rfl, _, _, rfl, rfl, .inr ⟨_, rfl, _, _, rfl, rfl, ?_⟩⟩
      refine ⟨cs.map V.int, hD, ?_, ?_, ?_, ?_⟩
      · rw [List.length_map]
        exact small1000 (by omega)
      · have nH : H D = none := s1.free nD
        exact HD.same_put sm nH
      · rw [upd_ne ncD]
        exact hc
      · refine ⟨cs ++ [2 * (if ms[i] < 0 then -ms[i] else ms[i]) + (if decide (ms[i] < 0) = true then 1 else 0)], by rw [List.length_append, el]; rfl, ?_⟩
        rw [upd_same, List.map_append]
        rfl
    · rintro H1 ⟨sm, hc, cs, el, hD⟩
      rw [List.length_map] at el
      have hcs : cs.length ≤ 63 := by omega
      refine ⟨_, _, rfl, ?_⟩
      -- the loop over the cells
      refine ⟨fun σ H' => H' = H1 ∧ ∃ (y1 : Option V) (st : Int), σ = [some (.ref a), y1, some (.ref D), some (.int st)] ∧ 0 ≤ st ∧ st < 2147483647, ?_, ?_⟩
      · refine ⟨_, rfl, D, rfl, ⟨_, .inl (.inl hD)⟩, ?_⟩
        refine for_it (walk_list (K := K) (a := D) (xs := cs.map V.int)) (fun i σ H' => H' = H1 ∧ ∃ (y1 : Option V) (st : Int), σ = [some (.ref a), y1, some (.ref D), some (.int st)] ∧ 0 ≤ st ∧ st < 2147483647) ?_ ?_ ?_ ?_
        · exact ⟨rfl, _, 25031, rfl, by decide, by decide⟩
        · rintro i σ H' _ ⟨rfl, _⟩
          exact .inl (.inl hD)
        · rintro i x σ H' H'' hi ⟨rfl, y1, st, rfl, h1, h2⟩ ⟨rfl, ex⟩
          rw [List.length_map] at hi
          rw [List.getElem?_map, List.getElem?_eq_getElem hi] at ex
          have e1 : V.int cs[i] = x := Option.some.inj ex
          subst e1
          have fm := fmod_lt (st * 69621 + (cs[i]).fmod 2147483563 + 29) (m := 2147483647) (by decide)
          refine ⟨_, rfl, _, _, rfl, rfl, .inl ⟨by omega, by omega⟩, _, rfl, .inl ⟨_, rfl, _, _, rfl, rfl, by show (2147483563 : Int) ≠ 0; decide, _, _, rfl, rfl, _, _, rfl, rfl, .inl ⟨_, rfl, _, _, rfl, rfl, by show (2147483647 : Int) ≠ 0; decide, ?_⟩⟩⟩
          exact ⟨rfl, _, _, rfl, fm.1, fm.2⟩
        · rintro σ H' ⟨rfl, h⟩
          exact ⟨rfl, h⟩
      · rintro σ H' ⟨rfl, y1, st, rfl, h1, h2⟩
        refine ⟨_, rfl, D, rfl, ⟨_, .inl (.inl hD)⟩, fun B nB => ?_⟩
        have nDB : D ≠ B := ne_of_none hD nB
        refine lc_it (walk_list (K := K) (a := D) (xs := cs.map V.int)) (fun i H2 => Same H H2 ∧ H2 D = some (.lst (cs.map V.int)) ∧ ∃ ds : List Int, ds.length ≤ i ∧ H2 B = some (.lst (ds.map V.int))) ?_ ?_ ?_ ?_
        · exact ⟨sm.trans (FR.same_upd nB), by rw [upd_ne nDB]; exact hD, [], Nat.le_refl _, upd_same⟩
        · rintro i H2 _ ⟨_, g2, _⟩
          exact .inl (.inl g2)
        · rintro i x H2 H3 hi ⟨sm2, hD2, ds, el2, hB⟩ ⟨rfl, ex⟩
          rw [List.length_map] at hi
          rw [List.getElem?_map, List.getElem?_eq_getElem hi] at ex
          have e1 : V.int cs[i] = x := Option.some.inj ex
          subst e1
          refine ⟨rfl, _, rfl, _, _, rfl, rfl, ⟨by decide, by decide, by decide⟩, _, _, rfl, rfl, _, rfl, ite2 (fun e => ?_) (fun e => ?_)⟩
          · refine ⟨_, rfl, ds.map V.int, hB, ?_, HD.same_put sm2 (sm.free nB), ?_, ?_⟩
            · rw [List.length_map]
              exact small1000 (by omega)
            · rw [upd_ne nDB]
              exact hD2
            · refine ⟨ds ++ [cs[i]], by rw [List.length_append, List.length_cons, List.length_nil]; omega, ?_⟩
              rw [upd_same, List.map_append]
              rfl
          · exact ⟨sm2, hD2, ds, by omega, hB⟩
        · rintro H2 ⟨sm2, hD2, ds, el2, hB⟩
          rw [List.length_map] at el2
          refine ⟨B, _, rfl, .inl (.inl hB), fun q nq => ?_⟩
          refine ⟨_, rfl, by show 2 ≤ sizeLine; decide, fun p np => ?_⟩
          have npq : q ≠ p := ne_of_none upd_same np
          refine fin _ p q ⟨ds.reverse, st, upd_same, ?_, ?_, h1, h2⟩ ((sm2.trans (FR.same_upd nq)).trans (FR.same_upd np)) ((sm2.trans (FR.same_upd nq)).free np) (sm2.free nq)
          · rw [upd_ne npq, upd_same, List.map_reverse]
          · rw [List.length_reverse]
            omega
theorem ok_totals_with {f C : Addr} {fd : FuncData} (F : Fun K "totals_with" "totals_with" s_totals_with f fd) (T : TabC K C) (z_enumerate : mg "enumerate" = none) (z_tuple : mg "tuple" = none) : FnOk P w K mg base CX0 1 f fd ["table", "kind"] (spTotalsWith K C) := by
  refine F.ok sc_totals_with (fun vs H Q E h => ?_) (fun cdv A outer s H vs Q E hr h => ?_)
  · obtain ⟨_, _, _, _, rfl, _⟩ := h
    rfl
  · obtain ⟨a, ks, ts, kind, rfl, ⟨dx, k, t, xs, hO, hK, hS, hT⟩, hl, fin⟩ := h
    refine ⟨_, (pss_one (ps_ret (pe_callTy call_tuple_of (by rfl) z_tuple (by decide +kernel) (pa_cons (pe_lc (own := [("at", 2), ("total", 3)]) (by rfl) sc_totals_with.nd (pi_enumT (by rfl) z_enumerate (pa_cons (pe_fld (pv 0) (by rfl)) pa_nil)) (blkOk_by (own := [("at", 2), ("total", 3)]) (N := N_totals_with) (sc := defScope s_totals_with) (by decide +kernel)) (fun _ _ _ _ _ => (show PG _ _ (gTup K 2 _) from pg_tup rfl (pgs_cons (pg_name (i := 2) sc_totals_with.nd rfl (.inl rfl)) (pgs_cons (pg_name (i := 3) sc_totals_with.nd rfl (.inl rfl)) pgs_nil)))) (fun _ _ _ _ _ => (pts_one (pt_cmpR (show OpR _ (compareOp .In) (rIn K false) from op_in_seq) (pv 1) (pv 3) rfl))) (fun _ _ _ _ _ => (pv 2))) pa_nil)))), ?_⟩
    have lx := hT.len
    refine ⟨_, rfl, a, C, dx, _, .ref t, rfl, hO, T.c, T.nt, rfl, t, xs, rfl, hS, fun D nD => ?_⟩
    refine lc_it (walk_enumT (K := K) (a := t) (xs := xs)) (fun i H' => Same H H' ∧ H' D = some (.lst ((twF ts kind i).map V.int))) ⟨same_upd nD, upd_same⟩ (fun i H' _ h => seqT h.1 hS) ?_ ?_
    · rintro i v H2 H3 hi ⟨sm, hD⟩ ⟨U, x, rfl, nU, rfl, ex⟩
      obtain ⟨u, c, rfl, ec, hu⟩ := hT.get ex
      have sU := same_upd (o := .tup [.int (i : Nat), .ref u]) nU
      refine ⟨U, _, rfl, .inl (.inl upd_same), rfl, _, _, rfl, _, _, rfl, rfl, rfl, ?_⟩
      have sm2 := sm.trans sU
      refine ⟨_, rfl, _, rfl, u, c.map V.int, rfl, .inr (seqT sm2 hu), rfl, flat_ints c, _, rfl, ?_⟩
      have hD2 := sU _ _ hD
      rw [inV_ints]
      cases hc : c.contains kind with
      | true =>
        refine iteT ⟨_, rfl, _, hD2, ?_, HD.same_put sm2 nD, ?_⟩
        · have := twF_len ts kind i
          have z : sizeLine = 16777216 := by decide
          have : i < xs.length := hi
          rw [List.length_map]
          omega
        · rw [upd_same, twF_yes ec hc, List.map_append]
          rfl
      | false =>
        refine iteF ⟨sm2, ?_⟩
        rw [twF_no ec hc]
        exact hD2
    · rintro H2 ⟨sm, hD⟩
      rw [lx] at hD
      refine ⟨D, _, rfl, .inl ⟨.inl (.inl hD), fun u nu => ?_⟩⟩
      exact fin _ u (sm.trans (same_upd nu)) (sm.free nu) upd_same
theorem ok_classes_of {f C : Addr} {fd : FuncData} (F : Fun K "classes_of" "classes_of" s_classes_of f fd) (T : TabC K C) (C_totals_with : Cl P w K mg base 1 "totals_with" (spTotalsWith K C)) (z_range : mg "range" = none) (z_len : mg "len" = none) (z_tuple : mg "tuple" = none) :
    FnOk P w K mg base CX0 2 f fd ["table"] (spClasses K C) := by
  refine F.ok sc_classes_of (fun vs H Q E h => ?_) (fun cdv A outer s H vs Q E hr h => ?_)
  · obtain ⟨_, _, _, rfl, _⟩ := h
    rfl
  · obtain ⟨a, ks, ts, rfl, hTab, lt, lk, fin⟩ := h
    refine ⟨_, (pss_cons (ps_set (i := 1) sc_classes_of.nd rfl (.inl rfl) pe_dnewT)
    (pss_cut (ps_for PassesOwn.never rfl (pi_range1 (by rfl) z_range (pa_cons (pe_callB call_len_seq (by rfl) z_len (by decide +kernel) (pa_cons (pe_fld (pv 0) (by rfl)) pa_nil)) pa_nil)) (pg_name (i := 2) sc_classes_of.nd rfl (.inl rfl))
      (pss_one (ps_expr (pe_bm PySem.F.plainAttrs_list PySem.F.slot_list_append PySem.F.type_list_append mt_append (pe_dsetT (units1 hr) (pv 1) (pe_cl C_totals_with hr (by decide) rfl (pa_cons (pv 0) (pa_cons (pv 2) pa_nil))) (pe_lst pa_nil) ⟨rfl, rfl, rfl, rfl⟩) (pa_cons (pv 2) pa_nil)))))
    (pss_one (ps_ret (pe_callTy call_tuple_of (by rfl) z_tuple (by decide +kernel) (pa_cons (pe_lock (pe_lc (own := [("totals", 3), ("kinds", 4)]) (by rfl) sc_classes_of.nd (pi_itemsT (pv 1)) (blkOk_by (own := [("totals", 3), ("kinds", 4)]) (N := N_classes_of) (sc := defScope s_classes_of) (by decide +kernel)) (fun _ _ _ _ _ => (show PG _ _ (gTup K 2 _) from pg_tup rfl (pgs_cons (pg_name (i := 3) sc_classes_of.nd rfl (.inl rfl)) (pgs_cons (pg_name (i := 4) sc_classes_of.nd rfl (.inl rfl)) pgs_nil)))) (fun _ _ _ _ _ => (pts_one (pt_tru (K := K) rfl (pv 3) (by intro _; rfl)))) (fun _ _ _ _ _ => (pe_callTy (show CallR _ (.type "tuple") (rTupOf K) from call_tupK) (by rfl) z_tuple (by decide +kernel) (pa_cons (pv 4) pa_nil))))) pa_nil)))))), ?_⟩
    refine fun D nD => ?_
    have sD := same_upd (o := .dT []) nD
    obtain ⟨dx, k, t, xs, hO, hK, hS, hT⟩ := hTab
    have hTab : Tab K C H a ks ts := ⟨dx, k, t, xs, hO, hK, hS, hT⟩
    have aD : a ≠ D := ne_of_none hO nD
    refine ⟨fun σ H' => ∃ (y2 : Option V) (ls : List Addr), σ = [some (.ref a), some (.ref D), y2, none, none] ∧ Same H H' ∧ Grp H H' D (fT ts) ks.length ls, ?_, ?_⟩
    · refine ⟨_, rfl, a, C, dx, _, .ref k, rfl, sD _ _ hO, T.c, T.nk, rfl, k, _, rfl, .inr (seqT sD hK), _, rfl, by rw [List.length_map]; omega, by rw [List.length_map]; omega, ?_⟩
      refine for_it (walk_range (lo := 0) (n := (ks.map V.str).length)) (fun i σ H' => ∃ (y2 : Option V) (ls : List Addr), σ = [some (.ref a), some (.ref D), y2, none, none] ∧ Same H H' ∧ Grp H H' D (fT ts) i ls) ?_ (fun _ _ _ _ _ => trivial) ?_ ?_
      · exact ⟨none, [], rfl, sD, ⟨upd_same, rfl, List.nodup_nil, (fun l hl => by cases hl), (fun j c l h => by cases h)⟩⟩
      · rintro i v σ Ha Hb hi ⟨y2, ls, rfl, sm, g⟩ ⟨e, rfl⟩
        subst e
        refine ⟨_, rfl, D, rfl, .inr ⟨_, .inl g.d⟩, ?_⟩
        refine ⟨_, rfl, _, rfl, a, ks, ts, _, rfl, hTab.mono sm, lt, fun H2 u s2 nu hu => ?_⟩
        refine ⟨by show 0 ≤ sizeLine; decide, fun L nL => ?_⟩
        have g2 := g.mono s2
        have sm2 := sm.trans s2
        have sL := same_upd (o := .lst []) nL
        have g3 := g2.mono sL
        have sm3 := sm2.trans sL
        have e0 : (0 : Int) + (i : Nat) = (i : Nat) := Int.zero_add _
        rw [e0] at hu
        have hi2 : i < ks.length := by
          have : i < (ks.map V.str).length := hi
          rw [List.length_map] at this
          exact this
        have small : ∀ n : Nat, n ≤ 1000 → n < sizeLine := fun n hn => by
          have : sizeLine = 16777216 := by decide
          omega
        refine ⟨_, kI (fT ts i), u, g3.d, rfl, ?_, ?_, fun v hv => ?_, fun hn => ?_⟩
        · rw [kI_kV]
          exact sL _ _ hu
        · rw [mk_len g.len]
          have := keys_len (fT ts) i
          exact small _ (by omega)
        · obtain ⟨j, l, k1, k2, rfl⟩ := mk_val g.len hv
          have hl := g3.at_ j _ l k1 k2
          refine ⟨.inl ⟨rfl, _, .inl (.inl hl)⟩, _, rfl, l, _, _, rfl, rfl, hl, ?_, ?_⟩
          · have := pick_len (memb (fT ts) (fT ts i)) i
            rw [List.length_map]
            exact small _ (by omega)
          · have gg := g3.old k1 k2
            rw [← e0] at gg
            refine ⟨_, ls, rfl, ?_, gg⟩
            intro b o hb
            have nb : b ≠ l := ne_of_none hb (g.new l (List.mem_of_getElem? k2))
            rw [upd_ne nb]
            exact sm3 b o hb
        · have nk := mk_none g.len hn
          have nDL : D ≠ L := ne_of_none g2.d nL
          have hLL : (L2.upd (L2.upd H2 L (.lst [])) D (.dT (putK (mkKvs (keysOf (fT ts) i) ls) (kI (fT ts i)) (.ref L)))) L = some (.lst []) := by
            rw [upd_ne nDL.symm, upd_same]
          refine ⟨.inl ⟨rfl, _, .inl (.inl hLL)⟩, _, rfl, L, _, _, rfl, rfl, hLL, by show 0 < sizeLine; decide, ?_⟩
          rw [mk_put g.len hn]
          have gg := g2.fresh nk nL (sm2.free nL)
          rw [← e0] at gg
          refine ⟨_, ls ++ [L], rfl, ?_, gg⟩
          intro b o hb
          have nbL : b ≠ L := ne_of_none (sm2 b o hb) nL
          have nbD : b ≠ D := ne_of_none hb nD
          rw [upd_ne nbL, upd_ne nbD, upd_ne nbL]
          exact sm2 b o hb
      · rintro σ H' ⟨y2, ls, rfl, sm, g⟩
        rw [List.length_map] at g
        exact ⟨y2, ls, rfl, sm, g⟩
    · rintro σ H1 ⟨y2, ls, rfl, sm, g⟩
      refine ⟨D, _, g.d, trivial, fun od => ?_⟩
      have g1 := g
      have hfr : (L2.upd H1 D (.frz od (.dT (mkKvs (keysOf (fT ts) ks.length) ls)))) D = some (.frz od (.dT (mkKvs (keysOf (fT ts) ks.length) ls))) := upd_same
      have lists : ∀ (j : Nat) (c : List Int) (l : Addr), (keysOf (fT ts) ks.length)[j]? = some c → ls[j]? = some l → (L2.upd H1 D (.frz od (.dT (mkKvs (keysOf (fT ts) ks.length) ls)))) l = some (.lst ((pick (memb (fT ts) c) ks.length).map V.int)) := by
        intro j c l k1 k2
        have h := g.at_ j c l k1 k2
        rw [upd_ne (ne_of h g.d (fun z => nomatch z))]
        exact h
      have keepF : ∀ (b : Addr) (o : HO), H b = some o → (L2.upd H1 D (.frz od (.dT (mkKvs (keysOf (fT ts) ks.length) ls)))) b = some o := by
        intro b o hb
        rw [upd_ne (ne_of_none hb nD)]
        exact sm b o hb
      generalize L2.upd H1 D (.frz od (.dT (mkKvs (keysOf (fT ts) ks.length) ls))) = HF at hfr lists keepF ⊢
      refine ⟨_, rfl, D, od, _, rfl, hfr, fun M nM => ?_⟩
      have kl := keys_len (fT ts) ks.length
      refine lc_it (walk_itemsT (d := D) (o := od) (kvs := mkKvs (keysOf (fT ts) ks.length) ls)) (fun i H' => Same HF H' ∧ ∃ xs, H' M = some (.lst xs) ∧ Tots K H' xs (outL (fT ts) ks.length i) ∧ xs.length ≤ i) ⟨same_upd nM, [], upd_same, trivial, Nat.le_refl _⟩ (fun i H' _ h => h.1 _ _ hfr) ?_ ?_
      · rintro i v H2 H3 hi ⟨sm2, xs2, hM, hx, hl2⟩ ⟨U, kk, v', q, hkv, rfl, hq, nU, rfl⟩
        obtain ⟨c, l, k1, k2, rfl, rfl⟩ := mk_get g.len hkv
        have sU := same_upd (o := .tup [.ref q, .ref l]) nU
        have sm3 := sm2.trans sU
        have il : i < (keysOf (fT ts) ks.length).length := (List.getElem?_eq_some_iff.mp k1).1
        rw [kI_kV] at hq
        refine ⟨U, _, rfl, .inl (.inl upd_same), rfl, _, _, rfl, _, _, rfl, rfl, rfl, ?_⟩
        refine ⟨_, rfl, _, .inr (.inl ⟨_, sqt (sU _ _ hq), rfl⟩), ?_⟩
        have em : (!(c.map V.int).isEmpty) = !c.isEmpty := by cases c <;> rfl
        rw [em]
        cases hc : !c.isEmpty with
        | true =>
          refine iteT ⟨_, rfl, l, _, rfl, .inl ⟨.inl (.inl (sm3 _ _ (lists i c l k1 k2))), fun u nu => ?_⟩⟩
          have su := same_upd (o := .tup ((pick (memb (fT ts) c) ks.length).map V.int)) nu
          have hM2 := su _ _ (sU _ _ hM)
          refine ⟨_, hM2, ?_, HD.same_put (sm3.trans su) nM, xs2 ++ [.ref u], upd_same, ?_, by rw [List.length_append]; exact Nat.succ_le_succ hl2⟩
          · have : sizeLine = 16777216 := by decide
            omega
          · rw [out_yes k1 hc]
            exact Tots.upd hM2 (Tots.snoc (sqt upd_same) (hx.mono (sU.trans su)))
        | false =>
          refine iteF ⟨sm3, xs2, sU _ _ hM, ?_, by omega⟩
          rw [out_no k1 hc]
          exact hx.mono sU
      · rintro H2 ⟨sm2, xs2, hM, hx, hl2⟩
        have h2D := sm2 _ _ hfr
        refine ⟨h2D, ?_⟩
        have nMD : M ≠ D := ne_of hM h2D (fun z => nomatch z)
        have hM2 : (L2.upd H2 D (.dT (mkKvs (keysOf (fT ts) ks.length) ls))) M = some (.lst xs2) := by
          rw [upd_ne nMD]
          exact hM
        refine ⟨M, xs2, rfl, .inl ⟨.inl (.inl hM2), fun u nu => ?_⟩⟩
        have su := same_upd (o := .tup xs2) nu
        refine fin _ u xs2 (fun b o hb => ?_) ?_ upd_same ?_
        · have nb : b ≠ D := ne_of_none hb nD
          refine su _ _ ?_
          rw [upd_ne nb]
          exact sm2 _ _ (keepF b o hb)
        · cases hu : H u with
          | none => rfl
          | some o =>
            have nb : u ≠ D := ne_of_none hu nD
            have := sm2 _ _ (keepF u o hu)
            rw [upd_ne nb, this] at nu
            cases nu
        · have eo : outL (fT ts) ks.length (mkKvs (keysOf (fT ts) ks.length) ls).length = classesL ts ks.length := by
            unfold outL classesL
            rw [mk_len g.len, List.take_of_length_le (Nat.le_refl _)]
          rw [eo] at hx
          exact (Tots.unlock h2D hx).mono su
theorem ok_class_numbers {f C : Addr} {fd : FuncData} (F : Fun K "class_numbers" "class_numbers" s_class_numbers f fd) (T : TabC K C) (C_classes_of : Cl P w K mg base 2 "classes_of" (spClasses K C)) (z_enumerate : mg "enumerate" = none) (z_range : mg "range" = none) (z_len : mg "len" = none) (z_tuple : mg "tuple" = none) :
    FnOk P w K mg base CX0 3 f fd ["table"] (spNumbers K C) := by
  refine F.ok sc_class_numbers (fun vs H Q E h => ?_) (fun cdv A outer s H vs Q E hr h => ?_)
  · obtain ⟨_, _, _, rfl, _⟩ := h
    rfl
  · obtain ⟨a, ks, ts, rfl, hTab, lt, lk, fin⟩ := h
    refine ⟨_, (pss_cons (ps_set (i := 1) sc_class_numbers.nd rfl (.inr rfl) pe_dnewK)
    (pss_cut (ps_for PassesOwn.never rfl (pi_enumT (by rfl) z_enumerate (pa_cons (pe_cl C_classes_of hr (by decide) rfl (pa_cons (pv 0) pa_nil)) pa_nil)) (pg_tup rfl (pgs_cons (pg_name (i := 2) sc_class_numbers.nd rfl (.inl rfl)) (pgs_cons (pg_name (i := 3) sc_class_numbers.nd rfl (.inl rfl)) pgs_nil)))
      (pss_one (ps_for PassesOwn.never rfl (pi_tup (pv 3)) (pg_name (i := 4) sc_class_numbers.nd rfl (.inl rfl))
        (pss_one (ps_dput (units1 hr) (pv 1) (pv 4) (pv 2) (by rfl))))))
    (pss_one (ps_ret (pe_callTy call_tuple_of (by rfl) z_tuple (by decide +kernel) (pa_cons (pe_lc (own := [("kind", 4)]) (by rfl) sc_class_numbers.nd (pi_range1 (by rfl) z_range (pa_cons (pe_callB call_len_seq (by rfl) z_len (by decide +kernel) (pa_cons (pe_fld (pv 0) (by rfl)) pa_nil)) pa_nil)) (blkOk_by (own := [("kind", 4)]) (N := N_class_numbers) (sc := defScope s_class_numbers) (by decide +kernel)) (fun _ _ _ _ _ => (pg_name (i := 4) sc_class_numbers.nd rfl (.inl rfl))) (fun _ _ _ _ _ => pts_nil) (fun _ _ _ _ _ => (pe_dget1 (units1 hr) (pv 1) (pv 4) ⟨rfl, rfl, rfl, rfl⟩))) pa_nil)))))), ?_⟩
    refine fun D nD => ?_
    have sD := same_upd (o := .dK []) nD
    have ⟨cl1, cl2⟩ := classes_len ts ks.length
    generalize hcs : classesL ts ks.length = cs at cl1 cl2 fin
    refine ⟨fun σ H' => (∃ y2 y3 y4 : Option V, σ = [some (.ref a), some (.ref D), y2, y3, y4]) ∧ Same H H' ∧ H' D = some (.dK (numF cs cs.length)), ?_, ?_⟩
    · refine ⟨_, rfl, a, ks, ts, rfl, hTab.mono sD, lt, lk, fun H1 u xs s1 nu hu hx => ?_⟩
      rw [hcs] at hx
      have lx := hx.len
      have sm1 := sD.trans s1
      refine ⟨u, xs, rfl, sqt hu, ?_⟩
      have hD1 := s1 _ _ (upd_same (H := H) (a := D) (o := .dK []))
      refine for_it (walk_enumT (K := K) (a := u) (xs := xs)) (fun i σ H' => (∃ y2 y3 y4 : Option V, σ = [some (.ref a), some (.ref D), y2, y3, y4]) ∧ Same H H' ∧ H' D = some (.dK (numF cs i)) ∧ SqT K H' u xs ∧ Tots K H' xs cs) ⟨⟨_, _, _, rfl⟩, sm1, hD1, sqt hu, hx⟩ (fun i σ H' _ h => h.2.2.2.1) ?_ ?_
      · rintro i v σ H2 H3 hi ⟨⟨y2, y3, y4, rfl⟩, sm2, hD2, hS2, hT2⟩ ⟨U, x, rfl, nU, rfl, ex⟩
        obtain ⟨tt, c, rfl, ec, ht⟩ := hT2.get ex
        have sU := same_upd (o := .tup [.int (i : Nat), .ref tt]) nU
        have ic : i < cs.length := (List.getElem?_eq_some_iff.mp ec).1
        have lc := cl2 c (List.mem_of_getElem? ec)
        have gd : cs.getD i [] = c := by rw [List.getD_eq_getElem?_getD, ec]; rfl
        have nl := num_len (cs := cs) (fun c hc => Nat.le_trans (cl2 c hc) lk) i (by omega)
        refine ⟨U, _, rfl, .inl (.inl upd_same), rfl, _, _, rfl, _, _, rfl, rfl, ?_⟩
        refine ⟨_, rfl, tt, rfl, ⟨_, seqT sU ht⟩, ?_⟩
        refine for_it (walk_tup (K := K) (a := tt) (xs := c.map V.int)) (fun j σ H' => (∃ y4 : Option V, σ = [some (.ref a), some (.ref D), some (.int (i : Nat)), some (.ref tt), y4]) ∧ Same H H' ∧ H' D = some (.dK (putRow (numF cs i) i (c.take j))) ∧ SqT K H' u xs ∧ Tots K H' xs cs ∧ SqT K H' tt (c.map V.int)) ⟨⟨_, rfl⟩, sm2.trans sU, sU _ _ hD2, seqT sU hS2, hT2.mono sU, seqT sU ht⟩ (fun j σ H' _ h => h.2.2.2.2.2) ?_ ?_
        · rintro j v σ H4 H5 hj ⟨⟨y4', rfl⟩, sm4, hD4, hS4, hT4, ht4⟩ ⟨e5, ex5⟩
          subst e5
          rw [List.getElem?_map] at ex5
          obtain ⟨kk, ek, rfl⟩ := Option.map_eq_some_iff.mp ex5
          have jl : j < c.length := (List.getElem?_eq_some_iff.mp ek).1
          have rl := row_len i (c.take j) (numF cs i)
          have n1 : ∀ (g : Nums) (ys : List V), HO.tup ys ≠ HO.dK g := fun g ys z => nomatch z
          have n2 : ∀ (g : Nums) (od : Obj) (ys : List V), HO.frz od (.tup ys) ≠ HO.dK g := fun g od ys z => nomatch z
          refine ⟨_, rfl, _, rfl, _, rfl, D, _, rfl, DPut.k (k := (Sum.inl kk : L2.Key)) hD4 ?_, ?_⟩
          · have : sizeLine = 16777216 := by decide
            rw [List.length_take] at rl
            have h3 : i * 1000 ≤ 1000 * 1000 := Nat.mul_le_mul_right _ (by omega)
            omega
          · refine ⟨⟨_, rfl⟩, ?_, ?_, seqT_at hD4 (n1 _) (n2 _) hS4, Tots.at_ hD4 (n1 _) (n2 _) hT4, seqT_at hD4 (n1 _) (n2 _) ht4⟩
            · intro b o hb
              rw [upd_ne (ne_of_none hb nD)]
              exact sm4 b o hb
            · rw [upd_same, row_take ek]
        · rintro σ H4 ⟨⟨y4', rfl⟩, sm4, hD4, hS4, hT4, ht4⟩
          rw [List.take_of_length_le (by rw [List.length_map]; exact Nat.le_refl _)] at hD4
          refine ⟨⟨_, _, _, rfl⟩, sm4, ?_, hS4, hT4⟩
          rw [hD4]
          show some (HO.dK (putRow (numF cs i) i c)) = some (HO.dK (putRow (numF cs i) i (cs.getD i [])))
          rw [gd]
      · rintro σ H2 ⟨⟨y2, y3, y4, rfl⟩, sm2, hD2, hS2, hT2⟩
        rw [lx] at hD2
        exact ⟨⟨_, _, _, rfl⟩, sm2, hD2⟩
    · rintro σ H2 ⟨⟨y2, y3, y4, rfl⟩, sm2, hD2⟩
      have hTab2 := hTab.mono sm2
      obtain ⟨dx, k, t, ys, hO, hK, hS, hT⟩ := hTab2
      refine ⟨_, rfl, a, C, dx, _, .ref k, rfl, hO, T.c, T.nk, rfl, k, _, rfl, .inr hK, _, rfl, by rw [List.length_map]; omega, by rw [List.length_map]; omega, fun M nM => ?_⟩
      refine lc_it (walk_range (lo := 0) (n := (ks.map V.str).length)) (fun i H' => Same H2 H' ∧ H' M = some (.lst ((List.range i).map fun j => numV cs ((j : Nat) : Int)))) ⟨same_upd nM, upd_same⟩ (fun _ _ _ _ => trivial) ?_ ?_
      · rintro i v H3 H4 hi ⟨sm3, hM⟩ ⟨e, rfl⟩
        subst e
        have e0 : (0 : Int) + (i : Nat) = (i : Nat) := Int.zero_add _
        have il : i < ks.length := by
          have : i < (ks.map V.str).length := hi
          rw [List.length_map] at this
          exact this
        have hD3 := sm3 _ _ hD2
        refine ⟨rfl, _, rfl, D, rfl, .inl ⟨_, .inl hD3⟩, _, rfl, _, DGet.k (k := (Sum.inl (0 + (i : Nat)) : L2.Key)) hD3, ?_⟩
        refine ⟨_, hM, ?_, HD.same_put sm3 nM, ?_⟩
        · rw [List.length_map, List.length_range]
          have : sizeLine = 16777216 := by decide
          omega
        · rw [upd_same, List.range_succ, List.map_append, e0]
          rfl
      · rintro H3 ⟨sm3, hM⟩
        rw [List.length_map] at hM
        refine ⟨M, _, rfl, .inl ⟨.inl (.inl hM), fun u nu => ?_⟩⟩
        have sall := sm2.trans (sm3.trans (same_upd (o := .tup ((List.range ks.length).map fun j => numV cs ((j : Nat) : Int))) nu))
        exact fin _ u sall ((sm2.trans sm3).free nu) upd_same
theorem ok_totals_by_classes2 {f C : Addr} {fd : FuncData} (F : Fun K "totals_by_classes" "totals_by_classes" s_totals_by_classes f fd) (T : TabC K C) (C_class_numbers : Cl P w K mg base 3 "class_numbers" (spNumbers K C)) (z_tuple : mg "tuple" = none) (z_sorted : mg "sorted" = none) (z_set : mg "set" = none) :
    FnOk P w K mg base CX0 4 f fd ["table"] (spTBC2 K C) := by
  refine F.ok sc_totals_by_classes (fun vs H Q E h => ?_) (fun cdv A outer s H vs Q E hr h => ?_)
  · obtain ⟨_, _, _, rfl, _⟩ := h
    rfl
  · obtain ⟨a, ks, ts, rfl, hTab, lt, lk, ok, fin⟩ := h
    refine ⟨_, (pss_cons (ps_set (i := 1) sc_totals_by_classes.nd rfl (.inr rfl) (pe_cl C_class_numbers hr (by decide) rfl (pa_cons (pv 0) pa_nil)))
    (pss_one (ps_ret (pe_callTy call_tuple_of (by rfl) z_tuple (by decide +kernel) (pa_cons (pe_lc (own := [("total", 2)]) (by rfl) sc_totals_by_classes.nd (pi_tup (pe_fld (pv 0) (by rfl))) (blkOk_by (own := [("total", 2)]) (N := N_totals_by_classes) (sc := defScope s_totals_by_classes) (by decide +kernel)) (fun _ _ _ _ _ => (pg_name (i := 2) sc_totals_by_classes.nd rfl (.inl rfl))) (fun _ _ _ _ _ => pts_nil) (fun _ _ _ _ _ => (pe_callTy (show CallR _ (.type "tuple") (rTupOf K) from call_tupK) (by rfl) z_tuple (by decide +kernel) (pa_cons (pe_callB (show CallR _ (.builtin "sorted") (rSortedSet w) from cr_sortedSet rfl) (by rfl) z_sorted (by decide +kernel) (pa_cons (pe_callTy (show CallR _ (.type "set") (rSetL K w) from cr_setL rfl) (by rfl) z_set (by decide +kernel) (pa_cons (pe_lc (own := [("kind", 3)]) (by rfl) sc_totals_by_classes.nd (show PI _ _ _ (iTup K _) from pi_tup (pv 2)) (blkOk_by (own := [("kind", 3)]) (N := N_totals_by_classes) (sc := { kind := .function, names := [((".0" : String), .local), (("total" : String), .local), (("tuple" : String), .globalImplicit), (("sorted" : String), .globalImplicit), (("set" : String), .globalImplicit), (("numbers" : String), .cell)], isGenerator := false, isCoroutine := false }) (by decide +kernel)) (fun _ _ _ _ _ => (pg_name (i := 3) sc_totals_by_classes.nd rfl (.inl rfl))) (fun _ _ _ _ _ => pts_nil) (fun _ _ _ _ _ => (pe_ix (show IxR _ (rIxT K) from ix_tup) (pv 1) (pv 3) (fun _ _ => rfl)))) pa_nil)) pa_nil)) pa_nil)))) pa_nil))))), ?_⟩
    refine ⟨_, rfl, a, ks, ts, rfl, hTab, lt, lk, fun H1 u s1 nu hu => ?_⟩
    have hTab1 := hTab.mono s1
    obtain ⟨dx, k, t, ys, hO, hK, hS, hT⟩ := hTab1
    have ly := hT.len
    generalize hcs : classesL ts ks.length = cs at hu fin
    refine ⟨_, rfl, a, C, dx, _, .ref t, rfl, hO, T.c, T.nt, rfl, t, rfl, ⟨_, hS⟩, fun D nD => ?_⟩
    refine lc_it (walk_tup (K := K) (a := t) (xs := ys)) (fun i H' => Same H1 H' ∧ ∃ xs ls, H' D = some (.lst xs) ∧ Tots K H' xs ls ∧ ls.length = i ∧ (∀ (j : Nat) c l, ts[j]? = some c → ls[j]? = some l → ∀ x : Int, x ∈ l ↔ ∃ k ∈ c, numV cs k = .int x) ∧ ∀ l ∈ ls, l.length ≤ 1000 ∧ l.Pairwise (· < ·)) ⟨same_upd nD, [], [], upd_same, trivial, rfl, fun j c l _ h => by simp at h, fun l h => by cases h⟩ (fun i H' _ h => seqT h.1 hS) ?_ ?_
    · rintro i v H2 H3 hi ⟨sm2, xs, ls, hD, hx, hl, rel, small⟩ ⟨rfl, ex⟩
      obtain ⟨tt, c, rfl, ec, ht⟩ := hT.get ex
      have hcm := List.mem_of_getElem? ec
      have okc := ok c hcm
      refine ⟨rfl, _, rfl, tt, rfl, ⟨_, seqT sm2 ht⟩, fun L nL => ?_⟩
      have sL := same_upd (o := .lst []) nL
      refine lc_it (walk_tup (K := K) (a := tt) (xs := c.map V.int)) (fun i H' => Same H3 H' ∧ H' L = some (.lst (((c.map (numI cs)).take i).map V.int))) ⟨sL, upd_same⟩ (fun i H' _ h => seqT (sm2.trans h.1) ht) ?_ ?_
      · rintro j v H4 H5 hj ⟨sm4, hL⟩ ⟨rfl, ex2⟩
        rw [List.getElem?_map] at ex2
        obtain ⟨kk, ek, rfl⟩ := Option.map_eq_some_iff.mp ex2
        have kin := List.mem_of_getElem? ek
        have ⟨k0, k1⟩ := okc.2 kk kin
        have hu4 := (sm2.trans sm4) _ _ hu
        obtain ⟨m, rfl⟩ := Int.eq_ofNat_of_zero_le k0
        have hat : atI ((List.range ks.length).map fun j => numV cs ((j : Nat) : Int)) ((m : Nat) : Int) = some (.int (numI cs (m : Int))) := by
          refine atI_nat ?_
          rw [List.getElem?_map, List.getElem?_range (by omega)]
          show some (numV cs (m : Int)) = _
          rw [← hcs, num_int hcm okc.2 kin]
        refine ⟨rfl, _, rfl, _, rfl, u, _, _, _, rfl, rfl, .inl (.inl hu4), hat, _, hL, ?_, HD.same_put sm4 nL, ?_⟩
        · rw [List.length_map, List.length_take, List.length_map]
          have : sizeLine = 16777216 := by decide
          have := okc.1
          omega
        · rw [upd_same, List.take_add_one, List.getElem?_map, ek, List.map_append]
          rfl
      · rintro H4 ⟨sm4, hL⟩
        rw [List.take_of_length_le (by rw [List.length_map, List.length_map]; exact Nat.le_refl _)] at hL
        refine ⟨L, c.map (numI cs), rfl, .inl (.inl hL), by rw [List.length_map]; omega, fun p cnt np hcn => ?_⟩
        have sp := same_upd (o := SetO w p (fun j => decide (j ∈ c.map (numI cs))) cnt) np
        refine ⟨p, _, cnt, rfl, upd_same, by have := okc.1; rw [List.length_map] at hcn; omega, fun ns q pw mem ln nq => ?_⟩
        have sq := same_upd (o := .lst (ns.map V.int)) nq
        refine ⟨q, _, rfl, .inl ⟨.inl (.inl upd_same), fun r nr => ?_⟩⟩
        have sr := same_upd (o := .tup (ns.map V.int)) nr
        have s35 := ((sm4.trans sp).trans sq).trans sr
        have hD5 := s35 _ _ hD
        refine ⟨xs, hD5, ?_, HD.same_put (sm2.trans s35) nD, xs ++ [.ref r], ls ++ [ns], upd_same, ?_, by rw [List.length_append, hl]; rfl, ?_, ?_⟩
        · have := hx.len
          have : sizeLine = 16777216 := by decide
          have : i < ys.length := hi
          omega
        · exact Tots.upd hD5 (Tots.snoc (sqt upd_same) (hx.mono s35))
        · intro j c' l h1 h2 x
          rcases Nat.lt_or_ge j ls.length with z | z
          · rw [List.getElem?_append_left z] at h2
            exact rel j c' l h1 h2 x
          · rw [List.getElem?_append_right z] at h2
            have j0 : j - ls.length = 0 := by
              have := (List.getElem?_eq_some_iff.mp h2).1
              rw [List.length_singleton] at this
              omega
            rw [j0] at h2
            have e1 : ns = l := Option.some.inj h2
            have ji : j = i := by omega
            subst e1 ji
            have e2 : c' = c := Option.some.inj (h1.symm.trans ec)
            subst e2
            rw [mem x, decide_eq_true_eq, List.mem_map]
            constructor
            · rintro ⟨k, hk, e⟩
              refine ⟨k, hk, ?_⟩
              rw [← hcs] at e ⊢
              rw [num_int hcm okc.2 hk, e]
            · rintro ⟨k, hk, e⟩
              refine ⟨k, hk, ?_⟩
              rw [← hcs] at e ⊢
              rw [num_int hcm okc.2 hk] at e
              exact V.int.inj e
        · intro l hl2
          rcases List.mem_append.mp hl2 with z | z
          · exact small l z
          · have := List.mem_singleton.mp z
            subst this
            have := okc.1
            rw [List.length_map] at hcn
            exact ⟨by omega, pw⟩
    · rintro H2 ⟨sm2, xs, ls, hD, hx, hl, rel, small⟩
      refine ⟨D, xs, rfl, .inl ⟨.inl (.inl hD), fun r nr => ?_⟩⟩
      have sr := same_upd (o := .tup xs) nr
      exact fin _ r xs ls (s1.trans (sm2.trans sr)) upd_same (hx.mono sr) ⟨by omega, by rw [hcs]; exact rel, small⟩
theorem ok_added {f : Addr} {fd : FuncData} (F : Fun K "added" "added" s_added f fd) (m_gcd : mg "gcd" = some (.builtin "math.gcd")) :
    FnOk P w K mg base CX0 1 f fd ["one", "other"] (spAdd K) := by
  refine F.ok sc_added (fun vs H Q E h => ?_) (fun cdv A outer s H vs Q E hr h => ?_)
  · obtain ⟨_, _, _, _, rfl, _⟩ := h
    rfl
  · obtain ⟨s1, t1, p, q, rfl, h1, h2, lp, lq, bp, bq, fin⟩ := h
    refine ⟨_, (pss_cons (ps_asg (pv 0) (pg_tup rfl (pgs_cons (pg_name (i := 2) sc_added.nd rfl (.inl rfl)) (pgs_cons (pg_name (i := 3) sc_added.nd rfl (.inl rfl)) pgs_nil))))
    (pss_cons (ps_asg (pv 1) (pg_tup rfl (pgs_cons (pg_name (i := 4) sc_added.nd rfl (.inl rfl)) (pgs_cons (pg_name (i := 5) sc_added.nd rfl (.inl rfl)) pgs_nil))))
    (pss_cons (ps_set (i := 6) sc_added.nd rfl (.inl rfl) (pe_callBfun cr_gcd rfl m_gcd (pa_cons (pv 3) (pa_cons (pv 5) pa_nil))))
    (pss_cons (ps_set (i := 7) sc_added.nd rfl (.inl rfl) (pe_op op_fdivW (pv 3) (pv 6)))
    (pss_cons (ps_set (i := 8) sc_added.nd rfl (.inl rfl) (pe_op op_add (pe_op op_mulW (pv 2) (pe_op op_fdivW (pv 5) (pv 6))) (pe_op op_mulW (pv 4) (pv 7))))
    (pss_cons (ps_set (i := 9) sc_added.nd rfl (.inl rfl) (pe_callBfun cr_gcd rfl m_gcd (pa_cons (pv 8) (pa_cons (pv 6) pa_nil))))
    (pss_one (ps_ret (pe_tup (pa_cons (pe_op op_fdivW (pv 8) (pv 9)) (pa_cons (pe_op op_mulW (pv 7) (pe_op op_fdivW (pv 5) (pv 9))) pa_nil))))))))))), ?_⟩
    have hb := lp.1
    have hd := lq.1
    have gp := M2.g_pos (a := p.2) (b := q.2) (by omega)
    have gs : M2.g p.2 q.2 ≤ q.2.natAbs := Nat.gcd_le_right _ (by omega)
    have gb : ((M2.g p.2 q.2 : Nat) : Int).natAbs < 2 ^ 3000 := by
      rw [Int.natAbs_natCast]
      exact Nat.lt_of_le_of_lt gs bq.2
    have W1 : CDivW p.2 ((M2.g p.2 q.2 : Nat) : Int) := wide_div (by omega) gb (by decide) (by decide)
    have W2 : CDivW q.2 ((M2.g p.2 q.2 : Nat) : Int) := wide_div (by omega) gb (by decide) (by decide)
    have l1 : (p.2 / ((M2.g p.2 q.2 : Nat) : Int)).natAbs < 2 ^ 3000 := Nat.lt_of_le_of_lt (M2.natAbs_div_le _ (by omega)) bp.2
    have l2 : (q.2 / ((M2.g p.2 q.2 : Nat) : Int)).natAbs < 2 ^ 3000 := Nat.lt_of_le_of_lt (M2.natAbs_div_le _ (by omega)) bq.2
    refine ⟨_, rfl, s1, _, rfl, h1, rfl, _, _, rfl, _, _, rfl, rfl, ?_⟩
    refine ⟨_, rfl, t1, _, rfl, h2, rfl, _, _, rfl, _, _, rfl, rfl, ?_⟩
    refine ⟨_, rfl, _, rfl, p.2, q.2, rfl, ?_⟩
    refine ⟨_, rfl, _, rfl, _, _, rfl, rfl, W1, ?_⟩
    refine ⟨_, rfl, _, rfl, _, rfl, _, _, rfl, rfl, W2, _, _, rfl, rfl, mulW (up bp.1 (by decide)) (up l2 (by decide)), _, rfl, _, rfl, _, _, rfl, rfl, mulW (up bq.1 (by decide)) (up l1 (by decide)), _, _, rfl, rfl, ?_⟩
    refine ⟨_, rfl, _, rfl, _, _, rfl, ?_⟩
    have kp := M2.g_pos (a := p.1 * (q.2 / ((M2.g p.2 q.2 : Nat) : Int)) + q.1 * (p.2 / ((M2.g p.2 q.2 : Nat) : Int))) (b := ((M2.g p.2 q.2 : Nat) : Int)) (by omega)
    have ks : M2.g (p.1 * (q.2 / ((M2.g p.2 q.2 : Nat) : Int)) + q.1 * (p.2 / ((M2.g p.2 q.2 : Nat) : Int))) ((M2.g p.2 q.2 : Nat) : Int) ≤ ((M2.g p.2 q.2 : Nat) : Int).natAbs := Nat.gcd_le_right _ (by omega)
    have kb : ((M2.g (p.1 * (q.2 / ((M2.g p.2 q.2 : Nat) : Int)) + q.1 * (p.2 / ((M2.g p.2 q.2 : Nat) : Int))) ((M2.g p.2 q.2 : Nat) : Int) : Nat) : Int).natAbs < 2 ^ 3000 := by
      rw [Int.natAbs_natCast]
      exact Nat.lt_of_le_of_lt ks gb
    have W3 : ∀ x : Int, CDivW x ((M2.g (p.1 * (q.2 / ((M2.g p.2 q.2 : Nat) : Int)) + q.1 * (p.2 / ((M2.g p.2 q.2 : Nat) : Int))) ((M2.g p.2 q.2 : Nat) : Int) : Nat) : Int) := fun x => wide_div (by omega) kb (by decide) (by decide)
    have l3 : (q.2 / ((M2.g (p.1 * (q.2 / ((M2.g p.2 q.2 : Nat) : Int)) + q.1 * (p.2 / ((M2.g p.2 q.2 : Nat) : Int))) ((M2.g p.2 q.2 : Nat) : Int) : Nat) : Int)).natAbs < 2 ^ 3000 := Nat.lt_of_le_of_lt (M2.natAbs_div_le _ (by omega)) bq.2
    refine ⟨_, rfl, _, rfl, _, _, rfl, rfl, W3 _, _, rfl, _, rfl, _, rfl, _, _, rfl, rfl, W3 _, _, _, rfl, rfl, mulW (up l1 (by decide)) (up l3 (by decide)), by show 2 ≤ sizeLine; decide, fun u nu => ?_⟩
    exact fin _ u (same_upd nu) nu upd_same
theorem ok_opposite_of {f : Addr} {fd : FuncData} (F : Fun K "opposite_of" "opposite_of" s_opposite_of f fd) :
    FnOk P w K mg base CX0 1 f fd ["one"] (spOpp K) := by
  refine F.ok sc_opposite_of (fun vs H Q E h => ?_) (fun cdv A outer s H vs Q E hr h => ?_)
  · obtain ⟨_, _, rfl, _⟩ := h
    rfl
  · obtain ⟨s1, p, rfl, h1, fin⟩ := h
    refine ⟨_, (pss_cons (ps_asg (pv 0) (pg_tup rfl (pgs_cons (pg_name (i := 1) sc_opposite_of.nd rfl (.inl rfl)) (pgs_cons (pg_name (i := 2) sc_opposite_of.nd rfl (.inl rfl)) pgs_nil))))
    (pss_one (ps_ret (pe_tup (pa_cons (pe_un un_neg (pv 1)) (pa_cons (pv 2) pa_nil)))))), ?_⟩
    refine ⟨_, rfl, s1, _, rfl, h1, rfl, _, _, rfl, _, _, rfl, rfl, ?_⟩
    refine ⟨_, rfl, _, rfl, _, rfl, by show 2 ≤ sizeLine; decide, fun u nu => ?_⟩
    exact fin _ u (same_upd nu) nu upd_same
theorem ok_taken {f : Addr} {fd : FuncData} (F : Fun K "taken" "taken" s_taken f fd) (C_added : Cl P w K mg base 1 "added" (spAdd K)) (C_opposite_of : Cl P w K mg base 1 "opposite_of" (spOpp K)) :
    FnOk P w K mg base CX0 2 f fd ["one", "other"] (spTaken K) := by
  refine F.ok sc_taken (fun vs H Q E h => ?_) (fun cdv A outer s H vs Q E hr h => ?_)
  · obtain ⟨_, _, _, _, rfl, _⟩ := h
    rfl
  · obtain ⟨s1, t1, p, q, rfl, h1, h2, lp, lq, bp, bq, fin⟩ := h
    refine ⟨_, (pss_one (ps_ret (pe_cl C_added hr (by decide) rfl (pa_cons (pv 0) (pa_cons (pe_cl C_opposite_of hr (by decide) rfl (pa_cons (pv 1) pa_nil)) pa_nil))))), ?_⟩
    refine ⟨_, rfl, _, rfl, t1, q, rfl, h2, fun H1 u sm nu hu => ?_⟩
    have lq2 : M2.Low (neg q).1 (neg q).2 := ⟨lq.1, by
      have := lq.2
      unfold M2.g at this ⊢
      show Nat.gcd (-q.1).natAbs q.2.natAbs = 1
      rw [Int.natAbs_neg]
      exact this⟩
    have bq2 : Bt 3000 (neg q) := ⟨by show (-q.1).natAbs < _; rw [Int.natAbs_neg]; exact bq.1, bq.2⟩
    refine ⟨s1, u, p, neg q, rfl, seqT sm h1, .inl (.inl hu), lp, lq2, bp, bq2, fun H2 u2 sm2 nu2 hu2 => ?_⟩
    exact fin H2 u2 (sm.trans sm2) (sm.free nu2) hu2
theorem ok_is_small {f : Addr} {fd : FuncData} (F : Fun K "is_small" "is_small" s_is_small f fd) (z_abs : mg "abs" = none) :
    FnOk P w K mg base CX0 1 f fd ["one"] (spSmall K) := by
  refine F.ok sc_is_small (fun vs H Q E h => ?_) (fun cdv A outer s H vs Q E hr h => ?_)
  · obtain ⟨_, _, rfl, _⟩ := h
    rfl
  · obtain ⟨s1, p, rfl, h1, fin⟩ := h
    refine ⟨_, (pss_one (ps_ret (pe_cmpR op_lt (pe_callB call_abs (by rfl) z_abs (by decide +kernel) (pa_cons (pe_ix ix_tup (pv 0) pe_int (fun _ _ => rfl)) pa_nil)) (pe_ix ix_tup (pv 0) pe_int (fun _ _ => rfl)) (nomark _)))), ?_⟩
    exact ⟨_, rfl, s1, _, _, _, rfl, rfl, h1, at0 _ _, _, rfl, _, rfl, s1, _, _, _, rfl, rfl, h1, at1 _ _, _, _, rfl, rfl, fin⟩
theorem ok_sum_of {f zz : Addr} {fd : FuncData} (F : Fun K "sum_of" "sum_of" s_sum_of f fd) (C_added : Cl P w K mg base 1 "added" (spAdd K)) (m_ZERO : mg "ZERO" = some (.ref zz)) (hz : ∀ H, SqT K H zz (pV (0, 1))) :
    FnOk P w K mg base CX0 2 f fd ["some"] (spSumL K) := by
  refine F.ok sc_sum_of (fun vs H Q E h => ?_) (fun cdv A outer s H vs Q E hr h => ?_)
  · obtain ⟨_, _, _, _, rfl, _⟩ := h
    rfl
  · obtain ⟨s1, xs, ps, ns, rfl, hS, hF, hb, hp, hn, fin⟩ := h
    refine ⟨_, (pss_cons (ps_set (i := 1) sc_sum_of.nd rfl (.inl rfl) (pe_glob (v := .ref zz) rfl m_ZERO rfl))
    (pss_cut (ps_for PassesOwn.never rfl (pi_any (pv 0)) (pg_name (i := 2) sc_sum_of.nd rfl (.inl rfl))
      (pss_one (ps_set (i := 1) sc_sum_of.nd rfl (.inl rfl) (pe_cl C_added hr (by decide) rfl (pa_cons (pv 1) (pa_cons (pv 2) pa_nil))))))
    (pss_one (ps_ret (pv 1))))), ?_⟩
    have lxs := hF.len
    refine ⟨fun σ H' => ∃ (u : Addr) (y : Option V), σ = [some (.ref s1), some (.ref u), y] ∧ Same H H' ∧ SqT K H' u (pV (sumQ ps)), ?_, ?_⟩
    · have go : ∀ (J : It), (Walk J xs.length (fun H' => Same H H') (fun i H v H' => H' = H ∧ xs[i]? = some v)) → ∀ (D : Ends), (∀ σ' H', (∃ (u : Addr) (y : Option V), σ' = [some (.ref s1), some (.ref u), y] ∧ Same H H' ∧ SqT K H' u (pV (sumQ ps))) → D.nx σ' H') →
          ∃ W : Nat → Nat → L2.St → Hp → Prop, (∃ m, W 0 m [some (V.ref s1), some (V.ref zz), none] H) ∧ ∀ i m σ H', W i m σ H' →
            (J.stop i H' ∧ D.nx σ H') ∨ (J.go i H' ∧ ∃ N : L2.St → Hp → Prop, (∀ σ' H'', N σ' H'' → ∃ m', m' < m ∧ W (i + 1) m' σ' H'') ∧ ∀ x H'', J.yld i H' x H'' → gName 2 x σ H'' fun σ2 H2 => tAsg (tCall (spAdd K) [] E0 (tCons (tVar 1) (tCons (tVar 2) tNil))) (gName 1) { D with nx := N, ct := N, bk := D.nx } σ2 H2) := by
        intro J wk D hD
        refine for_it wk (fun i σ H' => ∃ (u : Addr) (y : Option V), σ = [some (.ref s1), some (.ref u), y] ∧ Same H H' ∧ SqT K H' u (pV ((ps.take i).foldl M2.add (0, 1)))) ⟨zz, none, rfl, Same.refl _, hz H⟩ ?_ ?_ ?_
        · rintro i σ H' _ ⟨u, y, _, sm, _⟩
          exact sm
        · rintro i x σ H1 H2 hi ⟨u, y, rfl, sm, hu⟩ ⟨e2, ex⟩
          subst e2
          obtain ⟨t, p, rfl, ep, ht⟩ := hF.get ex
          have hpm := hp p (List.mem_of_getElem? ep)
          obtain ⟨n, en, bn⟩ := hb.get ep
          have so := sumL_ok (ns.take i) (ps.take i) (0, 1) 1 (hb.take i) (fun q hq => hp q (List.mem_of_mem_take hq)) ⟨by decide, by decide⟩ ⟨by decide, by decide⟩
          have b1 := bits_take (e := 1) ns i
          have b2 := bits_get (e := 1) en
          refine ⟨_, rfl, _, rfl, u, t, _, p, rfl, hu, seqT sm ht, so.1, hpm, so.2.mono (by omega), bn.mono (by omega), fun H3 v sm3 nv hv => ?_⟩
          refine ⟨v, _, rfl, sm.trans sm3, .inl (.inl ?_)⟩
          rw [hv, List.take_add_one, ep, List.foldl_append]
          rfl
        · rintro σ H' ⟨u, y, rfl, sm, hu⟩
          refine hD _ _ ⟨u, y, rfl, sm, ?_⟩
          rw [List.take_of_length_le (by rw [lxs]; exact Nat.le_refl _)] at hu
          exact hu
      rcases hS with hS | hS
      · exact ⟨s1, rfl, .inr ⟨⟨_, hS⟩, go _ (walk_tup.mono (fun H' sm => seqT sm hS) (fun i H1 x H2 _ _ h => h)) _ (fun _ _ h => h)⟩⟩
      · exact ⟨s1, rfl, .inl ⟨⟨_, hS⟩, go _ (walk_list.mono (fun H' sm => sm.seq hS) (fun i H1 x H2 _ _ h => h)) _ (fun _ _ h => h)⟩⟩
    · rintro σ H' ⟨u, y, rfl, sm, hu⟩
      exact ⟨_, rfl, fin H' u sm hu⟩
theorem ok_fraction_of {f fi C : Addr} {fd fdi : FuncData} (F : Fun K "fraction_of" "fraction_of" s_fraction_of f fd) (m_gcd : mg "gcd" = some (.builtin "math.gcd")) (e_InvalidNumber : ErrC K mg "InvalidNumber" C fi)
    (i_InvalidNumber : FnOk P w K mg base CX0 1 fi fdi ["self", "word"] (spInitW K C "word")) (b_InvalidNumber : Binds K fdi ["self", "word"] []) :
    FnOk P w K mg base (L2.CX P w) 3 f fd ["top", "bottom"] (spFrac C) := by
  refine F.okX sc_fraction_of (fun vs H Q E h => ?_) (fun cdv A outer s H vs Q E hr h => ?_)
  · obtain ⟨_, _, rfl, _⟩ := h
    rfl
  · obtain ⟨a, b, rfl, sa, sb, fin, err⟩ := h
    refine ⟨_, (pss_cons (ps_if (pt_cmpR op_eq (pv 1) pe_int (nomark _))
      (pss_one (ps_raise rfl (takes_of rfl rfl rfl rfl) (pmk_oex e_InvalidNumber.o e_InvalidNumber.iC e_InvalidNumber.tI i_InvalidNumber hr b_InvalidNumber .nil pass0 rfl e_InvalidNumber.gC (pa_cons pe_str pa_nil))))
      pss_nil)
    (pss_cons (ps_set (i := 2) sc_fraction_of.nd rfl (.inl rfl) (pe_callBfun cr_gcd rfl m_gcd (pa_cons (pv 0) (pa_cons (pv 1) pa_nil))))
    (pss_cut (ps_if (pt_cmpR op_lt (pv 1) pe_int (nomark _))
      (pss_one (ps_set (i := 2) sc_fraction_of.nd rfl (.inl rfl) (pe_un un_neg (pv 2))))
      pss_nil)
    (pss_one (ps_ret (pe_tup (pa_cons (pe_op op_fdivS (pv 0) (pv 2)) (pa_cons (pe_op op_fdivS (pv 1) (pv 2)) pa_nil)))))))), ?_⟩
    refine ⟨_, rfl, rfl, _, rfl, ite2 (fun e => ?_) (fun e => ?_)⟩
    · have hb : b = 0 := V.int.inj (of_decide_eq_true e)
      refine ⟨by decide, fun x nx => ?_⟩
      refine ⟨x, _, rfl, upd_same, fun dx n ne => ⟨rfl, dx, [(("word" : Str), V.str ("bottom" : Str))], upd_same, ?_, ?_, ?_⟩⟩
      · rw [upd_ne ne, upd_same]
      · rw [upd_ne ne] at n
        exact n
      · rw [upd_ne ne] at n
        refine err hb _ dx (fun y o hy => ?_) n upd_same
        have hyd : y ≠ dx := ne_of_none hy n
        have hyx : y ≠ x := ne_of_none hy nx
        rw [upd_ne hyd, del_ne hyx, upd_ne hyx, upd_ne hyd, upd_ne hyx]
        exact hy
    · have hb : b ≠ 0 := fun z => e (decide_eq_true (by rw [z]))
      have gp := M2.g_pos (a := a) (b := b) hb
      have gs : M2.g a b ≤ b.natAbs := Nat.gcd_le_right _ (by omega)
      refine ⟨_, rfl, _, rfl, a, b, rfl, ?_⟩
      refine ⟨fun σ H' => H' = H ∧ σ = [some (.int a), some (.int b), some (.int (if b < 0 then -((M2.g a b : Nat) : Int) else ((M2.g a b : Nat) : Int)))], ?_, ?_⟩
      · refine ⟨_, rfl, _, _, rfl, rfl, _, rfl, ite2 (fun e => ?_) (fun e => ?_)⟩
        · refine ⟨_, rfl, _, rfl, rfl, ?_⟩
          rw [if_pos (of_decide_eq_true e)]
          rfl
        · refine ⟨rfl, ?_⟩
          rw [if_neg (fun z => e (decide_eq_true z))]
          rfl
      · rintro σ H' ⟨rfl, rfl⟩
        have hs : (if b < 0 then -((M2.g a b : Nat) : Int) else ((M2.g a b : Nat) : Int)) ≠ 0 ∧ (if b < 0 then -((M2.g a b : Nat) : Int) else ((M2.g a b : Nat) : Int)).natAbs < 2 ^ 8000 := by
          split
          · rw [Int.natAbs_neg, Int.natAbs_natCast]
            exact ⟨by omega, Nat.lt_of_le_of_lt gs sb⟩
          · rw [Int.natAbs_natCast]
            exact ⟨by omega, Nat.lt_of_le_of_lt gs sb⟩
        have W : ∀ x : Int, CDivS x (if b < 0 then -((M2.g a b : Nat) : Int) else ((M2.g a b : Nat) : Int)) := fun x => wide_divS hs.1 hs.2 (by decide) (by decide)
        refine ⟨_, rfl, _, rfl, _, _, rfl, rfl, W _, _, rfl, _, rfl, _, _, rfl, rfl, W _, by show 2 ≤ sizeLine; decide, fun u nu => ?_⟩
        exact fin hb _ u (same_upd nu) nu upd_same
theorem ok_timed {f C : Addr} {fd : FuncData} (F : Fun K "timed" "timed" s_timed f fd) (C_fraction_of : Cl P w K mg base 3 "fraction_of" (fun vs H Q _ => spFrac C vs H Q E0)) :
    FnOk P w K mg base CX0 4 f fd ["one", "other"] (spTimed K) := by
  refine F.ok sc_timed (fun vs H Q E h => ?_) (fun cdv A outer s H vs Q E hr h => ?_)
  · obtain ⟨_, _, _, _, rfl, _⟩ := h
    rfl
  · obtain ⟨s1, t1, p, q, rfl, h1, h2, pp, pq, bp, bq, fin⟩ := h
    refine ⟨_, (pss_one (ps_ret (pe_cl C_fraction_of hr (by decide) rfl (pa_cons (pe_op op_mulW (pe_ix ix_tup (pv 0) pe_int (fun _ _ => rfl)) (pe_ix ix_tup (pv 1) pe_int (fun _ _ => rfl))) (pa_cons (pe_op op_mulW (pe_ix ix_tup (pv 0) pe_int (fun _ _ => rfl)) (pe_ix ix_tup (pv 1) pe_int (fun _ _ => rfl))) pa_nil))))), ?_⟩
    have m1 := wide_lt bp.1 bq.1
    have m2 := wide_lt bp.2 bq.2
    refine ⟨_, rfl, s1, _, _, _, rfl, rfl, h1, at0 _ _, _, rfl, t1, _, _, _, rfl, rfl, h2, at0 _ _, _, _, rfl, rfl, mulW (up bp.1 (by decide)) (up bq.1 (by decide)), _, rfl, s1, _, _, _, rfl, rfl, h1, at1 _ _, _, rfl, t1, _, _, _, rfl, rfl, h2, at1 _ _, _, _, rfl, rfl, mulW (up bp.2 (by decide)) (up bq.2 (by decide)), ?_⟩
    refine ⟨_, _, rfl, up m1 (by decide), up m2 (by decide), fun _ H' u sm nu hu => fin H' u sm nu hu, fun z => absurd z (mul_low pp pq)⟩
theorem ok_is_less {f : Addr} {fd : FuncData} (F : Fun K "is_less" "is_less" s_is_less f fd) :
    FnOk P w K mg base CX0 1 f fd ["one", "other"] (spLess K) := by
  refine F.ok sc_is_less (fun vs H Q E h => ?_) (fun cdv A outer s H vs Q E hr h => ?_)
  · obtain ⟨_, _, _, _, rfl, _⟩ := h
    rfl
  · obtain ⟨s1, t1, p, q, rfl, h1, h2, bp, bq, fin⟩ := h
    refine ⟨_, (pss_one (ps_ret (pe_cmpR op_lt (pe_op op_mulW (pe_ix ix_tup (pv 0) pe_int (fun _ _ => rfl)) (pe_ix ix_tup (pv 1) pe_int (fun _ _ => rfl))) (pe_op op_mulW (pe_ix ix_tup (pv 1) pe_int (fun _ _ => rfl)) (pe_ix ix_tup (pv 0) pe_int (fun _ _ => rfl))) (nomark _)))), ?_⟩
    refine ⟨_, rfl, s1, _, _, _, rfl, rfl, h1, at0 _ _, _, rfl, t1, _, _, _, rfl, rfl, h2, at1 _ _, _, _, rfl, rfl, mulW (up bp.1 (by decide)) (up bq.2 (by decide)), _, rfl, t1, _, _, _, rfl, rfl, h2, at0 _ _, _, rfl, s1, _, _, _, rfl, rfl, h1, at1 _ _, _, _, rfl, rfl, mulW (up bq.1 (by decide)) (up bp.2 (by decide)), _, _, rfl, rfl, fin⟩
theorem ok_least_of {f : Addr} {fd : FuncData} (F : Fun K "least_of" "least_of" s_least_of f fd) (C_is_less : Cl P w K mg base 1 "is_less" (spLess K)) :
    FnOk P w K mg base CX0 2 f fd ["some"] (spBest K lessQ) := by
  refine F.ok sc_least_of (fun vs H Q E h => ?_) (fun cdv A outer s H vs Q E hr h => ?_)
  · obtain ⟨_, _, _, rfl, _⟩ := h
    rfl
  · obtain ⟨s1, xs, ps, rfl, hS, hF, hb, fin⟩ := h
    refine ⟨_, (pss_cons (ps_set (i := 1) sc_least_of.nd rfl (.inl rfl) pe_non)
    (pss_cut (ps_for PassesOwn.never rfl (pi_tup (pv 0)) (pg_name (i := 2) sc_least_of.nd rfl (.inl rfl))
      (pss_one (ps_if (PW.pt (pw_or (pt_cmpR op_isN (pv 1) pe_non (nomark _)) (pw_or1 (pt_val (pe_cl C_is_less hr (by decide) rfl (pa_cons (pv 2) (pa_cons (pv 1) pa_nil)))))))
        (pss_one (ps_set (i := 1) sc_least_of.nd rfl (.inl rfl) (pv 2)))
        pss_nil)))
    (pss_one (ps_ret (pv 1))))), ?_⟩
    have lxs := hF.len
    refine ⟨fun σ H' => ∃ y : Option V, H' = H ∧ σ = [some (.ref s1), some (bestV (bestF lessQ none (xs.zip ps))), y], ?_, ?_⟩
    · refine ⟨_, rfl, s1, rfl, ⟨_, hS⟩, ?_⟩
      refine for_it (walk_tup (K := K) (a := s1) (xs := xs)) (fun i σ H' => H' = H ∧ ∃ (y : Option V) (b : Option (V × Q2)), σ = [some (.ref s1), some (bestV b), y] ∧ bestF lessQ b ((xs.zip ps).drop i) = bestF lessQ none (xs.zip ps) ∧
        (∀ x, b = some x → (∃ t, x.1 = .ref t ∧ SqT K H t (pV x.2)) ∧ Bt 3000 x.2)) ⟨rfl, none, none, rfl, rfl, fun x z => nomatch z⟩ ?_ ?_ ?_
      · rintro i σ H' _ ⟨rfl, _⟩
        exact hS
      · rintro i v σ H1 H2 hi ⟨rfl, y, b, rfl, hfold, hbb⟩ ⟨e2, ex⟩
        subst e2
        obtain ⟨t, p, rfl, ep, ht⟩ := hF.get ex
        have hp := hb p (List.mem_of_getElem? ep)
        have ez : (xs.zip ps)[i]? = some (.ref t, p) := List.getElem?_zip_eq_some.mpr ⟨ex, ep⟩
        have hd : (xs.zip ps).drop i = (.ref t, p) :: (xs.zip ps).drop (i + 1) := by
          have hiz : i < (xs.zip ps).length := (List.getElem?_eq_some_iff.mp ez).1
          rw [List.drop_eq_getElem_cons hiz]
          congr 1
          exact Option.some.inj ((List.getElem?_eq_getElem hiz).symm.trans ez)
        rw [hd] at hfold
        cases b with
        | none =>
          refine ⟨_, rfl, rfl, _, rfl, ?_⟩
          refine iteT (iteT ⟨_, rfl, rfl, _, some (.ref t, p), rfl, hfold, fun x z => ?_⟩)
          cases z
          exact ⟨⟨t, rfl, ht⟩, hp⟩
        | some x =>
          obtain ⟨⟨u, hxu, hu⟩, hxb⟩ := hbb x rfl
          have e3 : (bestV (some x)) = .ref u := hxu
          refine ⟨_, rfl, rfl, _, rfl, ?_⟩
          have e4 : decide (bestV (some x) = V.non) = false := by
            rw [e3]
            rfl
          rw [e4]
          refine iteF ?_
          refine ⟨_, rfl, _, rfl, t, u, p, x.2, (by rw [e3]; rfl), ht, hu, hp, hxb, ?_⟩
          have hf2 : bestF lessQ (if lessQ p x.2 = true then some (V.ref t, p) else some x) ((xs.zip ps).drop (i + 1)) = bestF lessQ none (xs.zip ps) := hfold
          refine ⟨_, rfl, ?_⟩
          by_cases hl : lessQ p x.2 = true
          · rw [if_pos hl] at hf2
            have hl2 : lessQ p x.2 = true := hl
            rw [hl2]
            refine iteT ⟨_, rfl, rfl, _, some (.ref t, p), rfl, hf2, fun x z => ?_⟩
            cases z
            exact ⟨⟨t, rfl, ht⟩, hp⟩
          · rw [if_neg hl] at hf2
            have hl2 : lessQ p x.2 = false := by
              cases e : lessQ p x.2 with
              | false => rfl
              | true => exact absurd e hl
            rw [hl2]
            exact iteF ⟨rfl, _, some x, rfl, hf2, hbb⟩
      · rintro σ H' ⟨rfl, y, b, rfl, hfold, _⟩
        refine ⟨y, rfl, ?_⟩
        have e5 : (xs.zip ps).drop xs.length = [] := List.drop_eq_nil_of_le (by rw [List.length_zip]; omega)
        rw [e5] at hfold
        rw [← hfold]
        cases b <;> rfl
    · rintro σ H' ⟨y, rfl, rfl⟩
      exact ⟨_, rfl, fin⟩
theorem ok_greatest_of {f : Addr} {fd : FuncData} (F : Fun K "greatest_of" "greatest_of" s_greatest_of f fd) (C_is_less : Cl P w K mg base 1 "is_less" (spLess K)) :
    FnOk P w K mg base CX0 2 f fd ["some"] (spBest K gtQ) := by
  refine F.ok sc_greatest_of (fun vs H Q E h => ?_) (fun cdv A outer s H vs Q E hr h => ?_)
  · obtain ⟨_, _, _, rfl, _⟩ := h
    rfl
  · obtain ⟨s1, xs, ps, rfl, hS, hF, hb, fin⟩ := h
    refine ⟨_, (pss_cons (ps_set (i := 1) sc_greatest_of.nd rfl (.inl rfl) pe_non)
    (pss_cut (ps_for PassesOwn.never rfl (pi_tup (pv 0)) (pg_name (i := 2) sc_greatest_of.nd rfl (.inl rfl))
      (pss_one (ps_if (PW.pt (pw_or (pt_cmpR op_isN (pv 1) pe_non (nomark _)) (pw_or1 (pt_val (pe_cl C_is_less hr (by decide) rfl (pa_cons (pv 1) (pa_cons (pv 2) pa_nil)))))))
        (pss_one (ps_set (i := 1) sc_greatest_of.nd rfl (.inl rfl) (pv 2)))
        pss_nil)))
    (pss_one (ps_ret (pv 1))))), ?_⟩
    have lxs := hF.len
    refine ⟨fun σ H' => ∃ y : Option V, H' = H ∧ σ = [some (.ref s1), some (bestV (bestF gtQ none (xs.zip ps))), y], ?_, ?_⟩
    · refine ⟨_, rfl, s1, rfl, ⟨_, hS⟩, ?_⟩
      refine for_it (walk_tup (K := K) (a := s1) (xs := xs)) (fun i σ H' => H' = H ∧ ∃ (y : Option V) (b : Option (V × Q2)), σ = [some (.ref s1), some (bestV b), y] ∧ bestF gtQ b ((xs.zip ps).drop i) = bestF gtQ none (xs.zip ps) ∧
        (∀ x, b = some x → (∃ t, x.1 = .ref t ∧ SqT K H t (pV x.2)) ∧ Bt 3000 x.2)) ⟨rfl, none, none, rfl, rfl, fun x z => nomatch z⟩ ?_ ?_ ?_
      · rintro i σ H' _ ⟨rfl, _⟩
        exact hS
      · rintro i v σ H1 H2 hi ⟨rfl, y, b, rfl, hfold, hbb⟩ ⟨e2, ex⟩
        subst e2
        obtain ⟨t, p, rfl, ep, ht⟩ := hF.get ex
        have hp := hb p (List.mem_of_getElem? ep)
        have ez : (xs.zip ps)[i]? = some (.ref t, p) := List.getElem?_zip_eq_some.mpr ⟨ex, ep⟩
        have hd : (xs.zip ps).drop i = (.ref t, p) :: (xs.zip ps).drop (i + 1) := by
          have hiz : i < (xs.zip ps).length := (List.getElem?_eq_some_iff.mp ez).1
          rw [List.drop_eq_getElem_cons hiz]
          congr 1
          exact Option.some.inj ((List.getElem?_eq_getElem hiz).symm.trans ez)
        rw [hd] at hfold
        cases b with
        | none =>
          refine ⟨_, rfl, rfl, _, rfl, ?_⟩
          refine iteT (iteT ⟨_, rfl, rfl, _, some (.ref t, p), rfl, hfold, fun x z => ?_⟩)
          cases z
          exact ⟨⟨t, rfl, ht⟩, hp⟩
        | some x =>
          obtain ⟨⟨u, hxu, hu⟩, hxb⟩ := hbb x rfl
          have e3 : (bestV (some x)) = .ref u := hxu
          refine ⟨_, rfl, rfl, _, rfl, ?_⟩
          have e4 : decide (bestV (some x) = V.non) = false := by
            rw [e3]
            rfl
          rw [e4]
          refine iteF ?_
          refine ⟨_, rfl, _, rfl, u, t, x.2, p, (by rw [e3]; rfl), hu, ht, hxb, hp, ?_⟩
          have hf2 : bestF gtQ (if gtQ p x.2 = true then some (V.ref t, p) else some x) ((xs.zip ps).drop (i + 1)) = bestF gtQ none (xs.zip ps) := hfold
          refine ⟨_, rfl, ?_⟩
          by_cases hl : gtQ p x.2 = true
          · rw [if_pos hl] at hf2
            have hl2 : lessQ x.2 p = true := hl
            rw [hl2]
            refine iteT ⟨_, rfl, rfl, _, some (.ref t, p), rfl, hf2, fun x z => ?_⟩
            cases z
            exact ⟨⟨t, rfl, ht⟩, hp⟩
          · rw [if_neg hl] at hf2
            have hl2 : lessQ x.2 p = false := by
              cases e : lessQ x.2 p with
              | false => rfl
              | true => exact absurd e hl
            rw [hl2]
            exact iteF ⟨rfl, _, some x, rfl, hf2, hbb⟩
      · rintro σ H' ⟨rfl, y, b, rfl, hfold, _⟩
        refine ⟨y, rfl, ?_⟩
        have e5 : (xs.zip ps).drop xs.length = [] := List.drop_eq_nil_of_le (by rw [List.length_zip]; omega)
        rw [e5] at hfold
        rw [← hfold]
        cases b <;> rfl
    · rintro σ H' ⟨y, rfl, rfl⟩
      exact ⟨_, rfl, fin⟩
theorem ok_class_errors {f C : Addr} {fd : FuncData} (F : Fun K "class_errors" "class_errors" s_class_errors f fd) (C_classes_of : Cl P w K mg base 2 "classes_of" (spClasses K C)) (C_sum_of : Cl P w K mg base 2 "sum_of" (spSumL K)) (z_tuple : mg "tuple" = none) :
    FnOk P w K mg base CX0 3 f fd ["table", "errors"] (spClassErrs K C) := by
  refine F.ok sc_class_errors (fun vs H Q E h => ?_) (fun cdv A outer s H vs Q E hr h => ?_)
  · obtain ⟨_, _, _, _, _, _, rfl, _⟩ := h
    rfl
  · obtain ⟨a, e, ys, ks, ts, es, rfl, hTab, lt, lk, hE, hF, le, ok, fin⟩ := h
    refine ⟨_, (pss_one (ps_ret (pe_callTy call_tuple_of (by rfl) z_tuple (by decide +kernel) (pa_cons (pe_lc (own := [("kinds", 2)]) (by rfl) sc_class_errors.nd (pi_tup (pe_cl C_classes_of hr (by decide) rfl (pa_cons (pv 0) pa_nil))) (blkOk_by (own := [("kinds", 2)]) (N := N_class_errors) (sc := defScope s_class_errors) (by decide +kernel)) (fun _ _ _ _ _ => (pg_name (i := 2) sc_class_errors.nd rfl (.inl rfl))) (fun _ _ _ _ _ => pts_nil) (fun _ _ _ _ _ => (pe_cl C_sum_of hr (by decide) rfl (pa_cons (pe_lc (own := [("kind", 3)]) (by rfl) sc_class_errors.nd (show PI _ _ _ (iTup K _) from pi_tup (pv 2)) (blkOk_by (own := [("kind", 3)]) (N := N_class_errors) (sc := { kind := .function, names := [((".0" : String), .local), (("kinds" : String), .local), (("sum_of" : String), .globalImplicit), (("errors" : String), .cell)], isGenerator := false, isCoroutine := false }) (by decide +kernel)) (fun _ _ _ _ _ => (pg_name (i := 3) sc_class_errors.nd rfl (.inl rfl))) (fun _ _ _ _ _ => pts_nil) (fun _ _ _ _ _ => (pe_ix (show IxR _ (rIxT K) from ix_tup) (pv 1) (pv 3) (fun _ _ => rfl)))) pa_nil)))) pa_nil)))), ?_⟩
    refine ⟨_, rfl, a, ks, ts, rfl, hTab, lt, by omega, fun H1 u xs s1 nu hu hx => ?_⟩
    have lx := hx.len
    have hE1 := seqT s1 hE
    have hF1 := hF.mono s1
    have ⟨cl1, cl2⟩ := classes_len ts ks.length
    have cb : ∀ c ∈ classesL ts ks.length, ∀ x ∈ c, ∃ j : Nat, j < ks.length ∧ x = (j : Int) := fun c hc x hx => classes_below hc hx
    generalize classesL ts ks.length = cs at hx lx cl1 cl2 cb fin
    refine ⟨u, rfl, ⟨_, sqt hu⟩, fun D nD => ?_⟩
    refine lc_it (walk_tup (K := K) (a := u) (xs := xs)) (fun i H' => Same H1 H' ∧ ∃ zs, H' D = some (.lst zs) ∧ Frs K H' zs ((errsL cs es).take i) ∧ zs.length = i) ⟨same_upd nD, [], upd_same, trivial, rfl⟩ (fun i H' _ h => seqT h.1 (sqt hu)) ?_ ?_
    · rintro i x H2 H3 hi ⟨sm, zs, hD, hz, lz⟩ ⟨rfl, ex⟩
      obtain ⟨tt, c, rfl, ec, ht⟩ := hx.get ex
      have hcm := List.mem_of_getElem? ec
      have hc2 := cl2 c hcm
      have ht3 := seqT sm ht
      have hE3 := seqT sm hE1
      have hF3 := hF1.mono sm
      refine ⟨rfl, _, rfl, tt, rfl, ⟨_, ht3⟩, fun L nL => ?_⟩
      have sL := same_upd (o := .lst []) nL
      refine lc_it (walk_tup (K := K) (a := tt) (xs := c.map V.int)) (fun j H' => Same H3 H' ∧ ∃ ws, H' L = some (.lst ws) ∧ Frs K H' ws ((c.map fun k => es.getD k.toNat (0, 1)).take j) ∧ ws.length = j) ⟨sL, [], upd_same, trivial, rfl⟩ (fun j H' _ h => seqT h.1 ht3) ?_ ?_
      · rintro j x H4 H5 hj ⟨sm4, ws, hL, hw, lw⟩ ⟨rfl, ex2⟩
        rw [List.getElem?_map] at ex2
        obtain ⟨k, ek, rfl⟩ := Option.map_eq_some_iff.mp ex2
        obtain ⟨m, ml, rfl⟩ := cb c hcm k (List.mem_of_getElem? ek)
        have ly := hF.len
        have ey : ys[m]? = some ys[m] := List.getElem?_eq_getElem (by omega)
        obtain ⟨q, p, e1, e2, hq⟩ := (hF3.mono sm4).get ey
        rw [e1] at ey
        have jl : j < c.length := (List.getElem?_eq_some_iff.mp ek).1
        refine ⟨rfl, _, rfl, _, rfl, e, ys, _, _, rfl, rfl, seqT sm4 hE3, atI_nat ey, ws, hL, ?_, HD.same_put sm4 nL, ws ++ [.ref q], upd_same, ?_, by rw [List.length_append, lw]; rfl⟩
        · have : sizeLine = 16777216 := by decide
          omega
        · have e3 : (c.map fun k => es.getD k.toNat (0, 1))[j]? = some p := by
            rw [List.getElem?_map, ek]
            show some (es.getD ((m : Int)).toNat (0, 1)) = some p
            rw [Int.toNat_natCast, List.getD_eq_getElem?_getD, e2]
            rfl
          rw [List.take_add_one, e3]
          exact Frs.upd hL (Frs.snoc hq hw)
      · rintro H4 ⟨sm4, ws, hL, hw, lw⟩
        rw [List.take_of_length_le (by rw [List.length_map, List.length_map]; exact Nat.le_refl _)] at hw
        have pk := picked_bt ok c
        refine ⟨L, ws, _, _, rfl, .inr (.inl (.inl hL)), hw, pk.1, pk.2, by rw [CK.bits_rep]; omega, fun H6 v s6 hv => ?_⟩
        have s36 := sm4.trans s6
        have hD6 := s36 _ _ hD
        have il : i < xs.length := hi
        refine ⟨zs, hD6, by have : sizeLine = 16777216 := by decide
                            omega, HD.same_put (sm.trans s36) nD, zs ++ [.ref v], upd_same, ?_, by rw [List.length_append, lz]; rfl⟩
        have e4 : (errsL cs es)[i]? = some (sumQ (c.map fun k => es.getD k.toNat (0, 1))) := by
          unfold errsL
          rw [List.getElem?_map, ec]
          rfl
        rw [List.take_add_one, e4]
        exact Frs.upd hD6 (Frs.snoc hv (hz.mono s36))
    · rintro H2 ⟨sm, zs, hD, hz, lz⟩
      rw [List.take_of_length_le (by rw [errs_len]; omega)] at hz
      refine ⟨D, zs, rfl, .inl ⟨.inl (.inl hD), fun r nr => ?_⟩⟩
      have sr := same_upd (o := .tup zs) nr
      exact fin _ r zs (s1.trans (sm.trans sr)) upd_same (hz.mono sr)
theorem ok_floor_of {f : Addr} {fd : FuncData} (F : Fun K "floor_of" "floor_of" s_floor_of f fd) :
    FnOk P w K mg base CX0 1 f fd ["one"] (spFloor K) := by
  refine F.ok sc_floor_of (fun vs H Q E h => ?_) (fun cdv A outer s H vs Q E hr h => ?_)
  · obtain ⟨_, _, rfl, _⟩ := h
    rfl
  · obtain ⟨s1, p, rfl, h1, hp, bp, fin⟩ := h
    refine ⟨_, (pss_one (ps_ret (pe_op op_fdivW (pe_ix ix_tup (pv 0) pe_int (fun _ _ => rfl)) (pe_ix ix_tup (pv 0) pe_int (fun _ _ => rfl))))), ?_⟩
    exact ⟨_, rfl, s1, _, _, _, rfl, rfl, h1, at0 _ _, _, rfl, s1, _, _, _, rfl, rfl, h1, at1 _ _, _, _, rfl, rfl, wide_div hp bp.2 (by decide) (by decide), fin⟩
theorem ok_ceiling_of {f : Addr} {fd : FuncData} (F : Fun K "ceiling_of" "ceiling_of" s_ceiling_of f fd) :
    FnOk P w K mg base CX0 1 f fd ["one"] (spCeil K) := by
  refine F.ok sc_ceiling_of (fun vs H Q E h => ?_) (fun cdv A outer s H vs Q E hr h => ?_)
  · obtain ⟨_, _, rfl, _⟩ := h
    rfl
  · obtain ⟨s1, p, rfl, h1, hp, bp, fin⟩ := h
    refine ⟨_, (pss_one (ps_ret (pe_un un_neg (pe_op op_fdivW (pe_un un_neg (pe_ix ix_tup (pv 0) pe_int (fun _ _ => rfl))) (pe_ix ix_tup (pv 0) pe_int (fun _ _ => rfl)))))), ?_⟩
    exact ⟨_, rfl, s1, _, _, _, rfl, rfl, h1, at0 _ _, _, rfl, _, rfl, s1, _, _, _, rfl, rfl, h1, at1 _ _, _, _, rfl, rfl, wide_div hp bp.2 (by decide) (by decide), _, rfl, fin⟩
theorem ok_choices {f : Addr} {fd : FuncData} (F : Fun K "choices" "choices" s_choices f fd) (C_floor_of : Cl P w K mg base 1 "floor_of" (spFloor K)) (C_ceiling_of : Cl P w K mg base 1 "ceiling_of" (spCeil K)) : FnOk P w K mg base CX0 2 f fd ["amount"] (spCho K) := by
  refine F.ok sc_choices (fun vs H Q E h => ?_) (fun cdv A outer s H vs Q E hr h => ?_)
  · obtain ⟨_, _, rfl, _⟩ := h
    rfl
  · obtain ⟨t, p, rfl, hS, hp, hb, fin⟩ := h
    refine ⟨_, (pss_cons (ps_par (i := 1) (j := 2) (by rfl) sc_choices.nd rfl rfl (by decide) rfl rfl (pa_cons (pe_cl C_floor_of hr (by decide) rfl (pa_cons (pv 0) pa_nil)) (pa_cons (pe_cl C_ceiling_of hr (by decide) rfl (pa_cons (pv 0) pa_nil)) pa_nil)) (by rfl))
    (pss_one (ps_ret (pe_ifExp (pt_cmpR op_eq (pv 1) (pv 2) (nomark _)) (pe_tup (pa_cons (pv 1) pa_nil)) (pe_tup (pa_cons (pv 1) (pa_cons (pv 2) pa_nil))))))), ?_⟩
    unfold choQ at fin
    refine ⟨_, rfl, t, p, rfl, hS, hp, hb, _, rfl, t, p, rfl, hS, hp, hb, ?_⟩
    refine ⟨_, _, rfl, _, rfl, _, rfl, rfl, _, rfl, ?_⟩
    by_cases h : p.1 / p.2 = -(-p.1 / p.2)
    · rw [if_pos h] at fin
      rw [decide_eq_true (by rw [← h])]
      refine iteT ⟨_, rfl, by show 1 ≤ sizeLine; decide, fun u nu => ?_⟩
      exact fin _ u (same_upd nu) nu upd_same
    · rw [if_neg h] at fin
      rw [decide_eq_false (fun z => h (V.int.inj z))]
      refine iteF ⟨_, rfl, _, rfl, by show 2 ≤ sizeLine; decide, fun u nu => ?_⟩
      exact fin _ u (same_upd nu) nu upd_same
theorem ok_class_of_kind {f C : Addr} {fd : FuncData} (F : Fun K "class_of_kind" "class_of_kind" s_class_of_kind f fd) (C_class_numbers : Cl P w K mg base 3 "class_numbers" (spNumbers K C)) :
    FnOk P w K mg base CX0 4 f fd ["table", "kind"] (spClassOf K C) := by
  refine F.ok sc_class_of_kind (fun vs H Q E h => ?_) (fun cdv A outer s H vs Q E hr h => ?_)
  · obtain ⟨_, _, _, _, rfl, _⟩ := h
    rfl
  · obtain ⟨a, ks, ts, k, rfl, hTab, lt, lk, hk, fin⟩ := h
    refine ⟨_, (pss_one (ps_ret (pe_ix ix_tup (pe_cl C_class_numbers hr (by decide) rfl (pa_cons (pv 0) pa_nil)) (pv 1) (fun _ _ => rfl)))), ?_⟩
    refine ⟨_, rfl, a, ks, ts, rfl, hTab, lt, lk, fun H1 u s1 nu hu => ?_⟩
    refine ⟨_, rfl, u, _, _, _, rfl, rfl, sqt hu, atI_nat (j := k) ?_, fin H1 s1⟩
    rw [List.getElem?_map, List.getElem?_range hk]
    rfl
end
end K25
namespace CK
open PySem PySem.Spec PyProof.Rows L2 VG FR HD M24
theorem US_floor {s : Int} (hs : 0 < s) (a : Int) : (US s a).1 / (US s a).2 = a / s := by
  have e := US_eq hs a
  have p := (US_low hs a).1
  generalize (US s a).1 = x at *
  generalize (US s a).2 = y at *
  have h1 : x * s / (y * s) = x / y := Int.mul_ediv_mul_of_pos_left x y hs
  have h2 : a * y / (s * y) = a / s := Int.mul_ediv_mul_of_pos_left a s p
  rw [← h1, ← h2, e, Int.mul_comm s y]
/-- the wholes next to an amount -/
def whU (s t : Int) : List Int := if t % s = 0 then [t / s] else [t / s, t / s + 1]
theorem cho_US {s : Int} (hs : 0 < s) (t : Int) : choQ (US s t) = whU s t := by
  unfold choQ whU
  have e1 := US_floor hs t
  have e2 : -(US s t).1 / (US s t).2 = -t / s := by
    have := US_floor hs (-t)
    rw [← neg_US hs] at this
    exact this
  rw [e1, e2]
  have d1 := Int.mul_ediv_add_emod t s
  have m0 := Int.emod_nonneg t (by omega : s ≠ 0)
  have m1 := Int.emod_lt_of_pos t hs
  by_cases h : t % s = 0
  · rw [if_pos h]
    have : -t / s = -(t / s) := Int.neg_ediv_of_dvd (Int.dvd_of_emod_eq_zero h)
    rw [this, if_pos (by omega)]
  · rw [if_neg h]
    have : -t / s = -(t / s) - 1 := by
      have e : -t = (s - t % s) + s * (-(t / s) - 1) := by rw [Int.mul_sub, Int.mul_neg]; omega
      rw [e, Int.add_mul_ediv_left _ _ (by omega), Int.ediv_eq_zero_of_lt (by omega) (by omega), Int.zero_add]
    rw [this, if_neg (by omega)]
    congr 2
    omega
def behS (es : List Int) (k : Nat) (d : Int) : List Int := es.set k (es.getD k 0 + d)
theorem beh_at {es : List Int} {k j : Nat} {d : Int} (hk : k < es.length) : (behS es k d).getD j 0 = es.getD j 0 + (if j = k then d else 0) := by
  unfold behS
  rw [List.getD_eq_getElem?_getD]
  by_cases e : j = k
  · subst e
    rw [List.getElem?_set_self hk, if_pos rfl]
    rfl
  · rw [List.getElem?_set_ne (fun z => e z.symm), if_neg e, Int.add_zero, List.getD_eq_getElem?_getD]
theorem sumC_beh {es : List Int} {k : Nat} {d : Int} (hk : k < es.length) : ∀ {c : List Int}, c.Nodup → (∀ x ∈ c, 0 ≤ x) → sumC (behS es k d) c = sumC es c + (if c.contains (k : Int) = true then d else 0)
  | [], _, _ => rfl
  | x :: c, nd, low => by
    have ⟨n1, n2⟩ := List.nodup_cons.mp nd
    have ih := sumC_beh (c := c) (d := d) hk n2 fun y my => low y (List.mem_cons_of_mem _ my)
    have x0 := low x List.mem_cons_self
    obtain ⟨j, rfl⟩ := Int.eq_ofNat_of_zero_le x0
    have e : ∀ es : List Int, sumC es ((j : Int) :: c) = es.getD j 0 + sumC es c := fun es => by
      unfold sumC
      rw [List.map_cons, List.sum_cons, Int.toNat_natCast]
    rw [e, e, ih, beh_at hk]
    by_cases ej : j = k
    · subst ej
      have nc : c.contains (j : Int) = false := by
        cases q : c.contains (j : Int) with
        | false => rfl
        | true => exact absurd (List.contains_iff_mem.mp q) n1
      rw [if_pos rfl, nc, if_neg Bool.false_ne_true, if_pos (List.contains_iff_mem.mpr List.mem_cons_self)]
      omega
    · rw [if_neg ej]
      have ec : ((j : Int) :: c).contains (k : Int) = c.contains (k : Int) := by
        rw [Bool.eq_iff_iff, List.contains_iff_mem, List.contains_iff_mem, List.mem_cons]
        constructor
        · rintro (z | z)
          · omega
          · exact z
        · exact .inr
      rw [ec]
      omega
theorem cls_nodup {ts : List (List Int)} {n : Nat} : ∀ A ∈ classesL ts n, A.Nodup := fun A mA => by
  rw [classes_eq] at mA
  obtain ⟨key, _, e⟩ := List.mem_map.mp mA
  rw [← e]
  exact pick_nodup _ _
/-- the class of the kind moves, no other -/
theorem row_beh {ts : List (List Int)} {n : Nat} {cs es : List Int} {k a : Nat} {d : Int} {A : List Int} (cl : cs.length = (classesL ts n).length) (hk : k < es.length) (eA : (classesL ts n)[a]? = some A) (mk : (k : Int) ∈ A) : rowS cs (classesL ts n) (behS es k d) = (rowS cs (classesL ts n) es).set a ((rowS cs (classesL ts n) es).getD a 0 + cs.getD a 0 * d) := by
  have la := (List.getElem?_eq_some_iff.mp eA).1
  refine List.ext_getElem? fun i => ?_
  by_cases h : i < (classesL ts n).length
  · have ei : (classesL ts n)[i]? = some (classesL ts n)[i] := List.getElem?_eq_getElem h
    have gi : (classesL ts n).getD i [] = (classesL ts n)[i] := by rw [List.getD_eq_getElem?_getD, ei]; rfl
    have mi := List.mem_of_getElem? ei
    have nd := cls_nodup _ mi
    have low : ∀ x ∈ (classesL ts n)[i], 0 ≤ x := fun x mx => by
      obtain ⟨j, _, rfl⟩ := classes_below mi mx
      omega
    rw [get_getD (by rw [rowS_len cl]; omega), row_at cl _ h, gi, sumC_beh hk nd low]
    by_cases e : a = i
    · subst e
      have : (classesL ts n)[a] = A := by rw [ei] at eA; exact Option.some.inj eA
      rw [List.getElem?_set_self (by rw [rowS_len cl]; omega), row_at cl _ h, gi, this, if_pos (List.contains_iff_mem.mpr mk), Int.mul_add]
    · rw [List.getElem?_set_ne e, get_getD (by rw [rowS_len cl]; omega), row_at cl _ h, gi, if_neg (fun z => e (classes_only eA ei mk (List.contains_iff_mem.mp z))), Int.add_zero]
  · rw [List.getElem?_eq_none (by rw [rowS_len cl]; omega), List.getElem?_eq_none (by rw [List.length_set, rowS_len cl]; omega)]
theorem row_beh0 {ts : List (List Int)} {n : Nat} {cs es : List Int} {k : Nat} {d : Int} (cl : cs.length = (classesL ts n).length) (hk : k < es.length) (no : ∀ A ∈ classesL ts n, (k : Int) ∉ A) : rowS cs (classesL ts n) (behS es k d) = rowS cs (classesL ts n) es := by
  refine List.ext_getElem? fun i => ?_
  by_cases h : i < (classesL ts n).length
  · have ei : (classesL ts n)[i]? = some (classesL ts n)[i] := List.getElem?_eq_getElem h
    have gi : (classesL ts n).getD i [] = (classesL ts n)[i] := by rw [List.getD_eq_getElem?_getD, ei]; rfl
    have mi := List.mem_of_getElem? ei
    have nd := cls_nodup _ mi
    have low : ∀ x ∈ (classesL ts n)[i], 0 ≤ x := fun x mx => by
      obtain ⟨j, _, rfl⟩ := classes_below mi mx
      omega
    rw [get_getD (by rw [rowS_len cl]; omega), row_at cl _ h, gi, sumC_beh hk nd low, if_neg (fun z => no _ mi (List.contains_iff_mem.mp z)), Int.add_zero, get_getD (by rw [rowS_len cl]; omega), row_at cl _ h, gi]
  · rw [List.getElem?_eq_none (by rw [rowS_len cl]; omega), List.getElem?_eq_none (by rw [rowS_len cl]; omega)]
/-- the other points of a class's piece -/
def othS (ls : List (List Int)) (row P : List Int) (a : Int) : List Int := ((P.filter fun x => decide (x ≠ a)).map fun k => row.getD k.toNat 0) ++ (if loneB ls P = true then [0] else [])
/-- the first piece that has a class -/
def pieceOf (Ps : List (List Int)) (a : Int) : List Int := (Ps.filter fun P => P.contains a).headD []
theorem piece_in {Ps : List (List Int)} {a : Int} (h : ∃ P ∈ Ps, a ∈ P) : pieceOf Ps a ∈ Ps ∧ a ∈ pieceOf Ps a := by
  obtain ⟨P, mP, aP⟩ := h
  unfold pieceOf
  have m : P ∈ Ps.filter fun P => P.contains a := List.mem_filter.mpr ⟨mP, List.contains_iff_mem.mpr aP⟩
  cases e : Ps.filter fun P => P.contains a with
  | nil => rw [e] at m; cases m
  | cons R r =>
    have mR : R ∈ Ps.filter fun P => P.contains a := by rw [e]; exact List.mem_cons_self
    have ⟨m1, m2⟩ := List.mem_filter.mp mR
    exact ⟨m1, List.contains_iff_mem.mp m2⟩
/-- how wide some points are, with one more -/
theorem span_more {w oth : List Int} {x s : Int} (ne : oth ≠ []) (mem : ∀ y, y ∈ w ↔ y = x ∨ y ∈ oth) : maxI w - minI w < s ↔ maxI oth - minI oth < s ∧ x - minI oth < s ∧ maxI oth - x < s := by
  have nw : w ≠ [] := fun e => by
    have := (mem x).mpr (.inl rfl)
    rw [e] at this
    cases this
  have ⟨a1, a2⟩ := maxI_ok nw
  have ⟨b1, b2⟩ := minI_ok nw
  have ⟨c1, c2⟩ := maxI_ok ne
  have ⟨d1, d2⟩ := minI_ok ne
  have h1 := a2 x ((mem x).mpr (.inl rfl))
  have h2 := b2 x ((mem x).mpr (.inl rfl))
  have h3 := a2 _ ((mem _).mpr (.inr c1))
  have h4 := b2 _ ((mem _).mpr (.inr d1))
  have h3' := a2 _ ((mem _).mpr (.inr d1))
  have h4' := b2 _ ((mem _).mpr (.inr c1))
  have cd := c2 _ d1
  constructor
  · intro h
    refine ⟨by omega, by omega, by omega⟩
  · rintro ⟨p1, p2, p3⟩
    have q1 : maxI w = x ∨ maxI w ≤ maxI oth := by
      rcases (mem _).mp a1 with e | e
      · exact .inl e
      · exact .inr (c2 _ e)
    have q2 : minI w = x ∨ minI oth ≤ minI w := by
      rcases (mem _).mp b1 with e | e
      · exact .inl e
      · exact .inr (d2 _ e)
    have := a2 _ b1
    rcases q1 with e1 | e1 <;> rcases q2 with e2 | e2 <;> omega
theorem pt_set_mem {ls : List (List Int)} {row P : List Int} {a : Nat} {x : Int} (ha : a < row.length) (low : ∀ y ∈ P, 0 ≤ y) (aP : (a : Int) ∈ P) : ∀ y, y ∈ ptS ls (row.set a x) P ↔ y = x ∨ y ∈ othS ls row P (a : Int) := fun y => by
  unfold ptS othS
  rw [List.mem_append, List.mem_append, List.mem_map, List.mem_map]
  have at_ : (row.set a x).getD a 0 = x := by
    rw [List.getD_eq_getElem?_getD, List.getElem?_set_self ha]
    rfl
  have ne_ : ∀ k : Int, 0 ≤ k → k ≠ (a : Int) → (row.set a x).getD k.toNat 0 = row.getD k.toNat 0 := fun k k0 ne => by
    rw [List.getD_eq_getElem?_getD, List.getElem?_set_ne (by omega), ← List.getD_eq_getElem?_getD]
  constructor
  · rintro (⟨k, mk, rfl⟩ | h)
    · by_cases e : k = (a : Int)
      · rw [e, Int.toNat_natCast]
        exact .inl at_
      · exact .inr (.inl ⟨k, List.mem_filter.mpr ⟨mk, decide_eq_true e⟩, (ne_ k (low k mk) e).symm⟩)
    · exact .inr (.inr h)
  · rintro (rfl | ⟨k, mk, rfl⟩ | h)
    · exact .inl ⟨(a : Int), aP, by rw [Int.toNat_natCast]; exact at_⟩
    · have ⟨m1, m2⟩ := List.mem_filter.mp mk
      exact .inl ⟨k, m1, ne_ k (low k m1) (of_decide_eq_true m2)⟩
    · exact .inr h
theorem pt_set_stay {ls : List (List Int)} {row R : List Int} {a : Nat} {x : Int} (low : ∀ y ∈ R, 0 ≤ y) (aR : (a : Int) ∉ R) : ptS ls (row.set a x) R = ptS ls row R := by
  unfold ptS
  congr 1
  refine List.map_congr_left fun k mk => ?_
  have k0 := low k mk
  rw [List.getD_eq_getElem?_getD, List.getElem?_set_ne (fun e => aR (by rw [show (a : Int) = k from by omega]; exact mk)), ← List.getD_eq_getElem?_getD]
/-- inside again, with a new point of one class -/
theorem inB_set {ls Ps : List (List Int)} {row : List Int} {s x : Int} {a : Nat} (dis : Ps.Pairwise fun P R => ∀ x ∈ P, x ∉ R) (low : ∀ R ∈ Ps, ∀ y ∈ R, 0 ≤ y) (ha : a < row.length) (hP : ∃ P ∈ Ps, (a : Int) ∈ P) (ne : othS ls row (pieceOf Ps (a : Int)) (a : Int) ≠ []) (ins : inB s (ptsS ls row Ps) = true) :
    inB s (ptsS ls (row.set a x) Ps) = decide (x - minI (othS ls row (pieceOf Ps (a : Int)) (a : Int)) < s ∧ maxI (othS ls row (pieceOf Ps (a : Int)) (a : Int)) - x < s) := by
  obtain ⟨mP, aP⟩ := piece_in hP
  generalize pieceOf Ps (a : Int) = P at *
  have old : ∀ R ∈ Ps, maxI (ptS ls row R) - minI (ptS ls row R) < s := fun R mR => of_decide_eq_true (List.all_eq_true.mp ins _ (List.mem_map.mpr ⟨R, mR, rfl⟩))
  have ms := pt_set_mem (ls := ls) (row := row) (x := x) ha (low P mP) aP
  have mo := pt_set_mem (ls := ls) (row := row) (x := row.getD a 0) ha (low P mP) aP
  have same : row.set a (row.getD a 0) = row := by
    refine List.ext_getElem? fun i => ?_
    by_cases e : a = i
    · subst e
      rw [List.getElem?_set_self ha, get_getD ha]
    · rw [List.getElem?_set_ne e]
  rw [same] at mo
  have ⟨o1, _, _⟩ := (span_more ne mo).mp (old P mP)
  rw [Bool.eq_iff_iff, decide_eq_true_eq]
  unfold inB ptsS
  rw [List.all_map, List.all_eq_true]
  constructor
  · intro h
    have := of_decide_eq_true (h P mP)
    exact ((span_more ne ms).mp this).2
  · rintro ⟨h1, h2⟩ R mR
    refine decide_eq_true ?_
    by_cases e : R = P
    · subst e
      exact (span_more ne ms).mpr ⟨o1, h1, h2⟩
    · rw [pt_set_stay (low R mR) (fun z => apart_of dis mP mR e _ z aP)]
      exact old R mR
/-- the gap around a point that is inside -/
theorem gap_in {ls Ps : List (List Int)} {row : List Int} {s : Int} {a : Nat} (low : ∀ R ∈ Ps, ∀ y ∈ R, 0 ≤ y) (ha : a < row.length) (hP : ∃ P ∈ Ps, (a : Int) ∈ P) (ne : othS ls row (pieceOf Ps (a : Int)) (a : Int) ≠ []) (ins : inB s (ptsS ls row Ps) = true) :
    maxI (othS ls row (pieceOf Ps (a : Int)) (a : Int)) - minI (othS ls row (pieceOf Ps (a : Int)) (a : Int)) < s ∧ row.getD a 0 - minI (othS ls row (pieceOf Ps (a : Int)) (a : Int)) < s ∧ maxI (othS ls row (pieceOf Ps (a : Int)) (a : Int)) - row.getD a 0 < s := by
  obtain ⟨mP, aP⟩ := piece_in hP
  generalize pieceOf Ps (a : Int) = P at *
  have old := of_decide_eq_true (List.all_eq_true.mp ins _ (List.mem_map.mpr ⟨P, mP, rfl⟩))
  have mo := pt_set_mem (ls := ls) (row := row) (x := row.getD a 0) ha (low P mP) aP
  have same : row.set a (row.getD a 0) = row := by
    refine List.ext_getElem? fun i => ?_
    by_cases e : a = i
    · subst e
      rw [List.getElem?_set_self ha, get_getD ha]
    · rw [List.getElem?_set_ne e]
  rw [same] at mo
  exact (span_more ne mo).mp old
/-- there are other points -/
theorem oth_ne {ts : List (List Int)} {n : Nat} {cs row : List Int} {Ps : List (List Int)} (cw : CaseW n ts cs Ps) {a : Nat} (ha : a < (classesL ts n).length) : othS (lotsC ts n) row (pieceOf Ps (a : Int)) (a : Int) ≠ [] := by
  have hP := cw.good.one (a : Int) (by omega) (by omega)
  obtain ⟨mP, aP⟩ := piece_in hP
  generalize pieceOf Ps (a : Int) = P at *
  have eA : (classesL ts n)[a]? = some (classesL ts n)[a] := List.getElem?_eq_getElem ha
  obtain ⟨u, e1, e2, e3, e4⟩ := cls_sign eA
  have e5 : pick (fun j => (ts.getD j []).contains (u : Int)) ts.length ≠ [] := e4
  obtain ⟨x, mx⟩ := List.exists_mem_of_ne_nil _ e5
  obtain ⟨y, y1, y2, _⟩ := mem_pick.mp mx
  have ec : ts[y]? = some ts[y] := List.getElem?_eq_getElem y1
  have mc := List.mem_of_getElem? ec
  have y2 : (ts.getD y []).contains (u : Int) = true := y2
  rw [List.getD_eq_getElem?_getD, ec] at y2
  have y2 : ts[y].contains (u : Int) = true := y2
  generalize ts[y] = c at mc y2
  have low := (cw.ok c mc).2.1
  have mt := meet_head (n := n) mc low eA
  rw [e1, y2] at mt
  have gA : (classesL ts n).getD a [] = (classesL ts n)[a] := by rw [List.getD_eq_getElem?_getD, eA]; rfl
  have ml : (a : Int) ∈ rowC (classesL ts n) c (classesL ts n).length := rowC_mem.mpr ⟨a, ha, by rw [gA]; exact mt, rfl⟩
  have mL : rowC (classesL ts n) c (classesL ts n).length ∈ lotsC ts n := List.mem_map.mpr ⟨c, mc, rfl⟩
  have two := cw.good.two _ mL
  have asc := rowC_asc (classesL ts n) c (classesL ts n).length
  have tie := cw.good.tie
  have lowL := (lotsC_low ts cw.n12 _ mL).2
  have rev : ∀ b : Int, [b, (a : Int)] ∈ lotsC ts n → b ∈ P := fun b mb => by
    have hb := (lotsC_low ts cw.n12 _ mb).2 b List.mem_cons_self
    obtain ⟨R, mR, bR⟩ := cw.good.one b hb.1 hb.2
    have ⟨aR, _⟩ := tie b (a : Int) mb R mR bR
    by_cases e : R = P
    · rw [← e]; exact bR
    · exact absurd aP (apart_of cw.good.dis mP mR e _ aR)
  generalize rowC (classesL ts n) c (classesL ts n).length = l at *
  unfold othS
  match l, ml, mL, two, asc with
  | [b], ml, mL, _, _ =>
    have : (a : Int) = b := List.mem_singleton.mp ml
    subst this
    have e : loneB (lotsC ts n) P = true := List.any_eq_true.mpr ⟨[(a : Int)], mL, by
      show (decide ([(a : Int)].length = 1) && P.contains (a : Int)) = true
      rw [List.contains_iff_mem.mpr aP]
      rfl⟩
    rw [e]
    intro z
    exact absurd (List.append_eq_nil_iff.mp z).2 (by simp)
  | [b, d], ml, mL, _, asc =>
    have bd := (List.pairwise_cons.mp asc).1 d List.mem_cons_self
    have key : ∃ o ∈ P, o ≠ (a : Int) := by
      rcases List.mem_cons.mp ml with e | z
      · subst e
        exact ⟨d, (tie _ d mL P mP aP).1, by omega⟩
      · have e := List.mem_singleton.mp z
        subst e
        exact ⟨b, rev b mL, by omega⟩
    obtain ⟨o, oP, one⟩ := key
    intro z
    have := (List.append_eq_nil_iff.mp z).1
    have m : o ∈ P.filter fun x => decide (x ≠ (a : Int)) := List.mem_filter.mpr ⟨oP, decide_eq_true one⟩
    rw [List.map_eq_nil_iff.mp this] at m
    cases m
  | _ :: _ :: _ :: _, _, _, two, _ => exact absurd two (by rw [List.length_cons, List.length_cons, List.length_cons]; omega)
end CK
namespace CK
open PySem PySem.Spec PyProof.Rows L2 VG FR HD M24
def xW (r c s t w : Int) : Int := r + c * (w * s - t)
def okW (r c s t g l w : Int) : Bool := decide (xW r c s t w - l < s ∧ g - xW r c s t w < s)
theorem wh_len (s t : Int) : (whU s t).length = 1 ∨ (whU s t).length = 2 := by
  unfold whU
  split
  · exact .inl rfl
  · exact .inr rfl
theorem gapline_ok {s t r c g l : Int} (hs : 0 < s) (hc : c = 1 ∨ c = -1) (o : g - l < s) (h1 : r - l < s) (h2 : g - r < s) :
    (whU s t).filter (okW r c s t g l) ≠ [] ∧ ((whU s t).length = 2 → decide (((whU s t).filter (okW r c s t g l)).length = 2) = decide (g < maxI ((whU s t).map (xW r c s t)) ∧ maxI ((whU s t).map (xW r c s t)) < l + s)) := by
  have d1 := Int.mul_ediv_add_emod t s
  have m0 := Int.emod_nonneg t (by omega : s ≠ 0)
  have m1 := Int.emod_lt_of_pos t hs
  have e1 : t / s * s - t = -(t % s) := by rw [Int.mul_comm]; omega
  have e2 : (t / s + 1) * s - t = s - t % s := by
    rw [Int.add_mul, Int.one_mul, Int.mul_comm (t / s) s]
    omega
  by_cases h : t % s = 0
  · have ew : whU s t = [t / s] := if_pos h
    rw [ew]
    refine ⟨?_, fun z => absurd z (by show ¬ (1 : Nat) = 2; decide)⟩
    have ok : okW r c s t g l (t / s) = true := by
      refine decide_eq_true ?_
      unfold xW
      rw [e1, h]
      have : c * -0 = 0 := by simp
      rw [this]
      omega
    rw [List.filter_cons, if_pos ok]
    exact List.cons_ne_nil _ _
  · have ew : whU s t = [t / s, t / s + 1] := if_neg h
    rw [ew]
    have x1 : xW r c s t (t / s) = r + c * -(t % s) := by unfold xW; rw [e1]
    have x2 : xW r c s t (t / s + 1) = r + c * (s - t % s) := by unfold xW; rw [e2]
    have hm : maxI ([t / s, t / s + 1].map (xW r c s t)) = max (r + c * -(t % s)) (r + c * (s - t % s)) := by
      show max (xW r c s t (t / s)) (xW r c s t (t / s + 1)) = _
      rw [x1, x2]
    have o1 : okW r c s t g l (t / s) = decide (r + c * -(t % s) - l < s ∧ g - (r + c * -(t % s)) < s) := by unfold okW; rw [x1]
    have o2 : okW r c s t g l (t / s + 1) = decide (r + c * (s - t % s) - l < s ∧ g - (r + c * (s - t % s)) < s) := by unfold okW; rw [x2]
    rw [hm]
    generalize t % s = m at *
    clear hm x1 x2 e1 e2 d1 ew
    have fl : ∀ (a b : Int) (f : Int → Bool), [a, b].filter f = (if f a = true then [a] else []) ++ (if f b = true then [b] else []) := fun a b f => by
      rw [List.filter_cons, List.filter_cons, List.filter_nil]
      cases f a <;> cases f b <;> rfl
    rw [fl, o1, o2]
    have key : (decide (r + c * -m - l < s ∧ g - (r + c * -m) < s) = true ∨ decide (r + c * (s - m) - l < s ∧ g - (r + c * (s - m)) < s) = true) ∧ ((decide (r + c * -m - l < s ∧ g - (r + c * -m) < s) = true ∧ decide (r + c * (s - m) - l < s ∧ g - (r + c * (s - m)) < s) = true) ↔ (g < max (r + c * -m) (r + c * (s - m)) ∧ max (r + c * -m) (r + c * (s - m)) < l + s)) := by
      rw [decide_eq_true_eq, decide_eq_true_eq]
      rcases hc with e | e
      · rw [e, Int.one_mul, Int.one_mul, Int.max_eq_right (by omega)]
        omega
      · rw [e, Int.neg_mul, Int.neg_mul, Int.one_mul, Int.one_mul, Int.max_eq_left (by omega)]
        omega
    obtain ⟨k1, k2⟩ := key
    generalize decide (r + c * -m - l < s ∧ g - (r + c * -m) < s) = p1 at *
    generalize decide (r + c * (s - m) - l < s ∧ g - (r + c * (s - m)) < s) = p2 at *
    cases p1 <;> cases p2
    · exact absurd k1 (by simp)
    · refine ⟨by simp, fun _ => ?_⟩
      have no : ¬ (g < max (r + c * -m) (r + c * (s - m)) ∧ max (r + c * -m) (r + c * (s - m)) < l + s) := fun z => absurd (k2.mpr z).1 Bool.false_ne_true
      rw [decide_eq_false no]
      rfl
    · refine ⟨by simp, fun _ => ?_⟩
      have no : ¬ (g < max (r + c * -m) (r + c * (s - m)) ∧ max (r + c * -m) (r + c * (s - m)) < l + s) := fun z => absurd (k2.mpr z).2 Bool.false_ne_true
      rw [decide_eq_false no]
      rfl
    · refine ⟨by simp, fun _ => ?_⟩
      have yes := k2.mp ⟨rfl, rfl⟩
      rw [decide_eq_true yes]
      rfl
/-- a row that is inside, piece by piece -/
def GoodP (ls : List (List Int)) (row : List Int) (s : Int) (P : List Int) : Prop := ∃ lo, (∀ x ∈ P, lo ≤ row.getD x.toNat 0 ∧ row.getD x.toNat 0 ≤ lo + s - 1) ∧ (loneB ls P = true → lo ≤ 0 ∧ 0 ≤ lo + s - 1)
theorem good_in {ls Ps : List (List Int)} {row : List Int} {s : Int} (ne : ∀ P ∈ Ps, P ≠ []) (h : ∀ P ∈ Ps, GoodP ls row s P) : inB s (ptsS ls row Ps) = true := by
  unfold inB ptsS
  rw [List.all_map, List.all_eq_true]
  intro P mP
  refine decide_eq_true ?_
  obtain ⟨lo, h1, h2⟩ := h P mP
  have all : ∀ y ∈ ptS ls row P, lo ≤ y ∧ y ≤ lo + s - 1 := fun y my => by
    rcases List.mem_append.mp my with m | m
    · obtain ⟨k, mk, rfl⟩ := List.mem_map.mp m
      exact h1 k mk
    · split at m
      · rename_i hl
        rw [List.mem_singleton.mp m]
        exact h2 hl
      · cases m
  have nw := pt_ne (ls := ls) (row := row) (ne P mP)
  have := all _ (maxI_ok nw).1
  have := all _ (minI_ok nw).1
  omega
theorem GoodP.stay {ls : List (List Int)} {row : List Int} {s x : Int} {P : List Int} {k : Nat} (h : GoodP ls row s P) (low : ∀ y ∈ P, 0 ≤ y) (nk : (k : Int) ∉ P) : GoodP ls (row.set k x) s P := by
  obtain ⟨lo, h1, h2⟩ := h
  refine ⟨lo, fun y my => ?_, h2⟩
  have y0 := low y my
  rw [List.getD_eq_getElem?_getD, List.getElem?_set_ne (fun e => nk (by rw [show (k : Int) = y from by omega]; exact my)), ← List.getD_eq_getElem?_getD]
  exact h1 y my
theorem row_of {cs row es : List Int} {cls : List (List Int)} (cl : cs.length = cls.length) (lr : row.length = cls.length) (sgn : ∀ x ∈ cs, x = 1 ∨ x = -1) (h : ∀ a : Nat, a < cls.length → sumC es (cls.getD a []) = cs.getD a 0 * row.getD a 0) : rowS cs cls es = row := by
  refine List.ext_getElem? fun i => ?_
  by_cases hi : i < cls.length
  · rw [get_getD (by rw [rowS_len cl]; omega), get_getD (by omega), row_at cl es hi, h i hi]
    have e1 : cs[i]? = some cs[i] := List.getElem?_eq_getElem (by omega)
    have g : cs.getD i 0 = cs[i] := by rw [List.getD_eq_getElem?_getD, e1]; rfl
    rw [g]
    rcases sgn _ (List.getElem_mem (by omega : i < cs.length)) with e | e
    · rw [e, Int.one_mul, Int.one_mul]
    · rw [e]
      congr 1
      omega
  · rw [List.getElem?_eq_none (by rw [rowS_len cl]; omega), List.getElem?_eq_none (by omega)]
theorem sumC_snoc (es B : List Int) (z : Nat) : sumC es (B ++ [(z : Int)]) = sumC es B + es.getD z 0 := by
  unfold sumC
  rw [List.map_append, List.sum_append, List.map_cons, List.map_nil, List.sum_singleton, Int.toNat_natCast]
theorem set_beh {es : List Int} {k : Nat} {v : Int} : es.set k v = behS es k (v - es.getD k 0) := by
  unfold behS
  congr 1
  omega
end CK
namespace CK
open PySem PySem.Spec PyProof.Rows L2 VG FR HD M24
def spSomeRow25 (K : PySem.W.Frag) : Sp := fun vs H Q _ => ∃ (p q a : Addr) (s : Int) (n : Nat) (ts : List (List Int)) (cs : List Int) (Ps : List (List Int)), vs = [.ref p, .ref a, .int s] ∧ Hd p q H ∧ Cas K (frz p q H) a n ts cs Ps ∧ CaseW n ts cs Ps ∧ 1 ≤ s ∧ s ≤ 100003 ∧
  ∀ (H' : Hp) (u : Addr) (row : List Int), On p q (frz p q H) H' → H' u = some (.lst (row.map V.int)) → (u ≠ p ∧ u ≠ q ∧ frz p q H u = none) → row.length = (classesL ts n).length → (∀ x ∈ row, -(3 * s) ≤ x ∧ x ≤ 3 * s) → inB s (ptsS (lotsC ts n) row Ps) = true → Q (.ref u) H'
def spErrs25 (K : PySem.W.Frag) : Sp := fun vs H Q _ => ∃ (p q a r : Addr) (s : Int) (n : Nat) (ts : List (List Int)) (cs : List Int) (Ps : List (List Int)) (row : List Int), vs = [.ref p, .ref a, .int s, .ref r] ∧ Hd p q H ∧ Cas K (frz p q H) a n ts cs Ps ∧ CaseW n ts cs Ps ∧ 1 ≤ s ∧ s ≤ 100003 ∧ H r = some (.lst (row.map V.int)) ∧ (r ≠ p ∧ r ≠ q) ∧ row.length = (classesL ts n).length ∧ (∀ x ∈ row, -(4 * s) ≤ x ∧ x ≤ 4 * s) ∧
  ∀ (H' : Hp) (u : Addr) (es : List Int), On p q (frz p q H) H' → H' u = some (.lst (es.map V.int)) → (u ≠ p ∧ u ≠ q) → es.length = n → (∀ x ∈ es, x.natAbs < 800100) → rowS cs (classesL ts n) es = row → Q (.ref u) H'
end CK
namespace K25
open PySem PySem.Spec PyProof.Rows L2 VG FR CK HD M24
abbrev s__law_some_row : Stmt := topS 80
abbrev N__law_some_row : List Str := ["heap", "case", "scale", "row", "piece", "is_fixed", "low", "at"]
theorem sc__law_some_row : FnScope N__law_some_row ["heap", "case", "scale"] (defScope s__law_some_row) := ⟨rfl, rfl, rfl, by decide +kernel, rfl, by decide +kernel, by decide +kernel⟩
abbrev s__law_errors : Stmt := topS 81
abbrev N__law_errors : List Str := ["heap", "case", "scale", "row", "errors", "at", "last", "kind"]
theorem sc__law_errors : FnScope N__law_errors ["heap", "case", "scale", "row"] (defScope s__law_errors) := ⟨rfl, rfl, rfl, by decide +kernel, rfl, by decide +kernel, by decide +kernel⟩
section
variable {P : Program} {w : World} {K : PySem.W.Frag} {mg : Str → Option Value} {base : Heap}
theorem ok__law_some_row {f : Addr} {fd : FuncData} (F : Fun K "_law_some_row" "_law_some_row" s__law_some_row f fd) (C__law_draw : Cl P w K mg base 1 "_law_draw" spDraw) (C__law_pick : Cl P w K mg base 2 "_law_pick" (spPick K)) (z_len : mg "len" = none) (z_zip : mg "zip" = none) : FnOk P w K mg base CX0 3 f fd ["heap", "case", "scale"] (spSomeRow25 K) := by
  refine F.ok sc__law_some_row (fun vs H Q E h => ?_) (fun cdv A outer s H vs Q E hr h => ?_)
  · obtain ⟨_, _, _, _, _, _, _, _, rfl, _⟩ := h
    rfl
  · obtain ⟨p, q, a, sc, n, ts, cs, Ps, rfl, hd0, hC, cw, sc1, sc2, fin⟩ := h
    refine ⟨_, (pss_cons (ps_set (i := 3) sc__law_some_row.nd rfl (.inl rfl) (pe_op op_rep (pe_lst (pa_cons pe_int pa_nil)) (pe_callB call_len_seq (by rfl) z_len (by decide +kernel) (pa_cons (pe_ix ix_tup (pv 1) pe_int (fun _ _ => rfl)) pa_nil))))
    (pss_cut (ps_for PassesOwn.never rfl (pi_zipM (by rfl) z_zip (pa_cons (pe_ix ix_tup (pv 1) pe_int (fun _ _ => rfl)) (pa_cons (pe_ix ix_tup (pv 1) pe_int (fun _ _ => rfl)) pa_nil))) (show PG _ _ (gTup K 2 _) from pg_tup rfl (pgs_cons (pg_name (i := 4) sc__law_some_row.nd rfl (.inl rfl)) (pgs_cons (pg_name (i := 5) sc__law_some_row.nd rfl (.inl rfl)) pgs_nil)))
      (pss_cons (ps_set (i := 6) sc__law_some_row.nd rfl (.inl rfl) (pe_meet (pe_ifExp (pt_val (pv 5)) (pe_op op_sub pe_int (pe_cl C__law_draw hr (by decide) rfl (pa_cons (pv 0) (pa_cons (pv 2) pa_nil)))) (pe_op op_sub (pe_cl C__law_draw hr (by decide) rfl (pa_cons (pv 0) (pa_cons (pe_op op_mulW pe_int (pv 2)) pa_nil))) (pe_op op_mulW pe_int (pv 2))))))
      (pss_cons (ps_set (i := 6) sc__law_some_row.nd rfl (.inl rfl) (pe_cl C__law_pick hr (by decide) rfl (pa_cons (pv 0) (pa_cons (pe_lst (pa_cons (pv 6) (pa_cons (pv 6) (pa_cons pe_int (pa_cons (pe_op op_sub pe_int (pv 2)) pa_nil))))) pa_nil))))
      (pss_one (ps_for PassesOwn.never rfl (pi_tup (pv 4)) (pg_name (i := 7) sc__law_some_row.nd rfl (.inl rfl))
        (pss_one (ps_asg (pe_op op_add (pv 6) (pe_cl C__law_pick hr (by decide) rfl (pa_cons (pv 0) (pa_cons (pe_lst (pa_cons pe_int (pa_cons (pe_op op_sub (pv 2) pe_int) (pa_cons (pe_cl C__law_draw hr (by decide) rfl (pa_cons (pv 0) (pa_cons (pv 2) pa_nil))) (pa_cons (pe_cl C__law_draw hr (by decide) rfl (pa_cons (pv 0) (pa_cons (pv 2) pa_nil))) pa_nil))))) pa_nil)))) (pg_sub (pv 3) (pv 7) set_list))))))))
    (pss_one (ps_ret (pv 3))))), ?_⟩
    have big : sizeLine = 16777216 := by decide
    have e17 : (2 : Nat) ^ 17 = 131072 := by decide
    have on0 := On.start hd0
    generalize frz p q H = G at *
    obtain ⟨t, cl, c, pc, f, xs, zs, hA, ht, hX, ⟨cx, hcl, hcx⟩, hc, hp, hZ, hf⟩ := hC
    have lcx := LR.len hcx
    have cok := cw.caseOk
    have cl12 := cok.cl12
    have pok := cw.pok
    have lz := hZ.len
    refine ⟨by show 1 ≤ sizeLine; decide, fun Z nZ => ?_⟩
    generalize eH1 : L2.upd H Z _ = H1
    have sz := same_of nZ eH1
    have kZ := at_of eH1
    clear eH1
    have on1 := on0.same sz
    refine ⟨_, rfl, a, _, _, .ref cl, rfl, rfl, seqT on1.le hA, atI_nat (j := 2) rfl, cl, _, rfl, .inl (seqLs on1.le hcl), Z, _, _, rfl, rfl, kZ, by omega, by omega, by show 1 * _ ≤ sizeLine; omega, fun R nR => ?_⟩
    have fR := on1.free nR
    generalize eH2 : L2.upd H1 R _ = H2
    have s2 := same_of nR eH2
    have kR : H2 R = some (.lst ((List.replicate (classesL ts n).length (0 : Int)).map V.int)) := by
      rw [at_of eH2, ← lcx]
      congr 2
      exact rep_zero _
    clear eH2
    have on2 := on1.same s2
    clear on0 on1 sz s2 kZ nR nZ hd0
    refine ⟨fun σ H' => (∃ y4 y5 y6 y7 : Option V, σ = [some (.ref p), some (.ref a), some (.int sc), some (.ref R), y4, y5, y6, y7]) ∧ On p q G H' ∧ ∃ row : List Int, H' R = some (.lst (row.map V.int)) ∧ row.length = (classesL ts n).length ∧ (∀ x ∈ row, -(3 * sc) ≤ x ∧ x ≤ 3 * sc) ∧ ∀ R1 ∈ Ps, GoodP (lotsC ts n) row sc R1, ?_, ?_⟩
    · refine ⟨_, rfl, a, _, _, .ref pc, rfl, rfl, seqT on2.le hA, atI_nat (j := 4) rfl, _, rfl, a, _, _, .ref f, rfl, rfl, seqT on2.le hA, atI_nat (j := 5) rfl, pc, f, zs, _, rfl, seqT on2.le hp, seqLs on2.le hf, ?_⟩
      refine for_it (walk_zipM (K := K) (a := pc) (b := f) (xs := zs) (ys := (Ps.map (loneB (lotsC ts n))).map V.bl) (by rw [List.length_map, List.length_map]; omega)) (fun i σ H' => (∃ y4 y5 y6 y7 : Option V, σ = [some (.ref p), some (.ref a), some (.int sc), some (.ref R), y4, y5, y6, y7]) ∧ On p q G H' ∧ ∃ row : List Int, H' R = some (.lst (row.map V.int)) ∧ row.length = (classesL ts n).length ∧ (∀ x ∈ row, -(3 * sc) ≤ x ∧ x ≤ 3 * sc) ∧ ∀ (j : Nat) (R1 : List Int), j < i → Ps[j]? = some R1 → GoodP (lotsC ts n) row sc R1) ⟨⟨_, _, _, _, rfl⟩, on2, _, kR, List.length_replicate, fun x mx => by rw [List.eq_of_mem_replicate mx]; omega, fun j R1 hj => absurd hj (Nat.not_lt_zero j)⟩ (fun i σ H' _ h => ⟨seqT h.2.1.le hp, seqLs h.2.1.le hf⟩) ?_ ?_
      · clear on2 kR
        rintro i v σ H3 H4 hi ⟨⟨y4, y5, y6, y7, rfl⟩, on3, row, kR, lr, hr, old⟩ ⟨T, x, y, rfl, nT, rfl, ex, ey⟩
        have ex : zs[i]? = some x := ex
        obtain ⟨u, R1, rfl, eR, hu⟩ := hZ.get ex
        have mR := List.mem_of_getElem? eR
        have low := pok.low R1 mR
        have l12 := pok.len R1 mR
        have ey : ((Ps.map (loneB (lotsC ts n))).map V.bl)[i]? = some y := ey
        rw [List.getElem?_map, List.getElem?_map, eR] at ey
        have ey : V.bl (loneB (lotsC ts n) R1) = y := Option.some.inj ey
        subst ey
        generalize hb : loneB (lotsC ts n) R1 = b
        have fT := on3.free nT
        generalize eH5 : L2.upd H3 T _ = H5
        have s5 := same_of nT eH5
        have kT := at_of eH5
        clear eH5
        have on5 := on3.same s5
        have kR5 := s5 _ _ kR
        show gTup K 2 _ (V.ref T) _ _ _
        refine ⟨T, _, rfl, .inl (.inl kT), rfl, _, _, rfl, _, _, rfl, rfl, ?_⟩
        clear on3 s5 kR
        refine ⟨fun v H' => ∃ lo : Int, v = .int lo ∧ (-(2 * sc) ≤ lo ∧ lo ≤ 2 * sc) ∧ (b = true → -sc < lo ∧ lo ≤ 0) ∧ On p q G H' ∧ H' R = some (.lst (row.map V.int)), ?_, ?_⟩
        · refine ⟨_, rfl, b, rfl, ?_⟩
          cases b with
          | true => exact iteT ⟨_, rfl, _, rfl, p, q, sc, rfl, on5.hd, by omega, by omega, fun H6 r hd6 kp6 r0 r1 => ⟨_, _, rfl, rfl, _, rfl, ⟨by omega, by omega⟩, fun _ => ⟨by omega, by omega⟩, on5.draw hd6 kp6, kp6 _ _ fR.1 fR.2.1 kR5⟩⟩
          | false => exact iteF ⟨_, rfl, _, rfl, _, _, rfl, rfl, mulW (up (n := 3) (by decide) (by decide)) (up (n := 17) (by omega) (by decide)), p, q, 4 * sc, rfl, on5.hd, by omega, by omega, fun H6 r hd6 kp6 r0 r1 => ⟨_, rfl, _, _, rfl, rfl, mulW (up (n := 3) (by decide) (by decide)) (up (n := 17) (by omega) (by decide)), _, _, rfl, rfl, _, rfl, ⟨by omega, by omega⟩, fun z => absurd z Bool.false_ne_true, on5.draw hd6 kp6, kp6 _ _ fR.1 fR.2.1 kR5⟩⟩
        rintro _ H6 ⟨lo, rfl, hlo, hlb, on6, kR6⟩
        clear on5 kR5 kT
        refine ⟨_, rfl, _, rfl, _, rfl, _, rfl, _, _, rfl, rfl, by show 4 ≤ sizeLine; decide, fun L nL => ?_⟩
        have fL := on6.free nL
        generalize eH7 : L2.upd H6 L _ = H7
        have s7 := same_of nL eH7
        have kL := at_of eH7
        clear eH7
        have on7 := on6.same s7
        refine ⟨p, q, L, _, rfl, on7.hd, kL, fL.1, fL.2.1, by simp, by show 4 < 1000000; decide, fun H8 v hd8 kp8 hv => ?_⟩
        obtain ⟨lo2, rfl, hlo2, hb2⟩ : ∃ z : Int, v = .int z ∧ (-(2 * sc) ≤ z ∧ z ≤ 2 * sc) ∧ (b = true → -sc < z ∧ z ≤ 0) := by
          simp only [List.mem_cons, List.not_mem_nil, or_false] at hv
          rcases hv with e | e | e | e
          · exact ⟨lo, e, hlo, hlb⟩
          · exact ⟨lo, e, hlo, hlb⟩
          · exact ⟨0, e, ⟨by omega, by omega⟩, fun _ => ⟨by omega, by omega⟩⟩
          · exact ⟨1 - sc, e, ⟨by omega, by omega⟩, fun _ => ⟨by omega, by omega⟩⟩
        have on8 := on7.draw hd8 kp8
        have kR8 := kp8 _ _ fR.1 fR.2.1 (s7 _ _ kR6)
        clear hv on7 on6 kR6 s7 kL kp8 hd8 nL
        have lcs := cw.cl
        refine ⟨_, rfl, u, rfl, ⟨_, seqT on8.le hu⟩, ?_⟩
        refine for_it (walk_tup (K := K) (a := u) (xs := R1.map V.int)) (fun j σ H' => (∃ y7 : Option V, σ = [some (.ref p), some (.ref a), some (.int sc), some (.ref R), some (.ref u), some (.bl b), some (.int lo2), y7]) ∧ On p q G H' ∧ ∃ row : List Int, H' R = some (.lst (row.map V.int)) ∧ row.length = (classesL ts n).length ∧ (∀ x ∈ row, -(3 * sc) ≤ x ∧ x ≤ 3 * sc) ∧ (∀ (j : Nat) (R1 : List Int), j < i → Ps[j]? = some R1 → GoodP (lotsC ts n) row sc R1) ∧ ∀ (m : Nat) (x : Int), m < j → R1[m]? = some x → lo2 ≤ row.getD x.toNat 0 ∧ row.getD x.toNat 0 ≤ lo2 + sc - 1) ⟨⟨_, rfl⟩, on8, row, kR8, lr, hr, old, fun m x hm => absurd hm (Nat.not_lt_zero m)⟩ (fun j σ H' _ h => seqT h.2.1.le hu) ?_ ?_
        · clear kR8 on8 lr hr old
          clear row
          rintro j v σ H9 Ha hj ⟨⟨y7, rfl⟩, on9, row, kR, lr, hr, old, new⟩ ⟨rfl, ev⟩
          rw [List.getElem?_map] at ev
          obtain ⟨k, ek, rfl⟩ := Option.map_eq_some_iff.mp ev
          have ⟨k0, k1⟩ := low k (List.mem_of_getElem? ek)
          obtain ⟨k, rfl⟩ := Int.eq_ofNat_of_zero_le k0
          show gName 7 _ _ _ _
          refine ⟨_, rfl, _, rfl, _, rfl, _, _, rfl, rfl, _, rfl, _, rfl, p, q, sc, rfl, on9.hd, by omega, by omega, fun Hb r1 hdb kpb b0 b1 => ?_⟩
          have onb := on9.draw hdb kpb
          have kRb := kpb _ _ fR.1 fR.2.1 kR
          clear kpb hdb kR on9
          refine ⟨_, rfl, _, rfl, p, q, sc, rfl, onb.hd, by omega, by omega, fun Hc r2 hdc kpc c0 c1 => ?_⟩
          have onc := onb.draw hdc kpc
          have kRc := kpc _ _ fR.1 fR.2.1 kRb
          clear kpc hdc kRb onb
          refine ⟨by show 4 ≤ sizeLine; decide, fun L nL => ?_⟩
          have fL := onc.free nL
          generalize eHd : L2.upd Hc L _ = Hd
          have sd := same_of nL eHd
          have kL := at_of eHd
          clear eHd
          have ond := onc.same sd
          refine ⟨p, q, L, _, rfl, ond.hd, kL, fL.1, fL.2.1, by simp, by show 4 < 1000000; decide, fun He v hde kpe hv => ?_⟩
          obtain ⟨z, rfl, hz⟩ : ∃ z : Int, v = .int z ∧ 0 ≤ z ∧ z < sc := by
            simp only [List.mem_cons, List.not_mem_nil, or_false] at hv
            rcases hv with e | e | e | e
            · exact ⟨0, e, by omega, by omega⟩
            · exact ⟨sc - 1, e, by omega, by omega⟩
            · exact ⟨r1, e, b0, b1⟩
            · exact ⟨r2, e, c0, c1⟩
          have one := ond.draw hde kpe
          have kRe := kpe _ _ fR.1 fR.2.1 (sd _ _ kRc)
          refine ⟨_, _, rfl, rfl, _, rfl, _, rfl, R, _, _, k, rfl, rfl, kRe, ixN_nat (by rw [List.length_map]; omega), ⟨_, rfl⟩, one.put fR, row.set k (lo2 + z), by rw [upd_same, List.map_set], by rw [List.length_set]; exact lr, fun x mx => ?_, fun j2 R2 hj2 e2 => ?_, fun m x hm em => ?_⟩
          · rcases List.mem_or_eq_of_mem_set mx with m | e
            · exact hr x m
            · rw [e]
              omega
          · have l2 := (List.getElem?_eq_some_iff.mp e2).1
            have li := (List.getElem?_eq_some_iff.mp eR).1
            have ap := List.pairwise_iff_getElem.mp cw.good.dis j2 i l2 li hj2
            have g2 : Ps[j2] = R2 := (List.getElem?_eq_some_iff.mp e2).2
            have g1 : Ps[i] = R1 := (List.getElem?_eq_some_iff.mp eR).2
            rw [g2, g1] at ap
            exact (old j2 R2 hj2 e2).stay (fun y my => (pok.low R2 (List.mem_of_getElem? e2) y my).1) fun mk => ap _ mk (List.mem_of_getElem? ek)
          · have x0 := (low x (List.mem_of_getElem? em)).1
            by_cases e : x = (k : Int)
            · rw [e, Int.toNat_natCast, List.getD_eq_getElem?_getD, List.getElem?_set_self (by omega)]
              show lo2 ≤ lo2 + z ∧ lo2 + z ≤ lo2 + sc - 1
              omega
            · rw [List.getD_eq_getElem?_getD, List.getElem?_set_ne (by omega), ← List.getD_eq_getElem?_getD]
              have nm : m ≠ j := fun q => by
                rw [q, ek] at em
                exact e (Option.some.inj em).symm
              exact new m x (by omega) em
        · rintro σ H9 ⟨⟨y7, rfl⟩, on9, row, kR, lr, hr, old, new⟩
          refine ⟨⟨_, _, _, _, rfl⟩, on9, row, kR, lr, hr, fun j2 R2 hj2 e2 => ?_⟩
          by_cases e : j2 = i
          · rw [e, eR] at e2
            have e2 : R1 = R2 := Option.some.inj e2
            rw [← e2]
            refine ⟨lo2, fun x mx => ?_, fun hl => ?_⟩
            · obtain ⟨m, em⟩ := List.mem_iff_getElem?.mp mx
              exact new m x (by rw [List.length_map]; exact (List.getElem?_eq_some_iff.mp em).1) em
            · rw [hb] at hl
              have := hb2 hl
              omega
          · exact old j2 R2 (by omega) e2
      · rintro σ H3 ⟨y, on3, row, kR, lr, hr, old⟩
        refine ⟨y, on3, row, kR, lr, hr, fun R1 mR => ?_⟩
        obtain ⟨m, em⟩ := List.mem_iff_getElem?.mp mR
        exact old m R1 (by rw [lz]; exact (List.getElem?_eq_some_iff.mp em).1) em
    · rintro σ H3 ⟨⟨y4, y5, y6, y7, rfl⟩, on3, row, kR, lr, hr, all⟩
      exact ⟨_, rfl, fin H3 R row on3 kR fR lr hr (good_in pok.ne all)⟩
theorem ok__law_errors {f : Addr} {fd : FuncData} (F : Fun K "_law_errors" "_law_errors" s__law_errors f fd) (C__law_draw : Cl P w K mg base 1 "_law_draw" spDraw) (z_range : mg "range" = none) (z_len : mg "len" = none) (z_sum : mg "sum" = none) : FnOk P w K mg base CX0 2 f fd ["heap", "case", "scale", "row"] (spErrs25 K) := by
  refine F.ok sc__law_errors (fun vs H Q E h => ?_) (fun cdv A outer s H vs Q E hr h => ?_)
  · obtain ⟨_, _, _, _, _, _, _, _, _, _, rfl, _⟩ := h
    rfl
  · obtain ⟨p, q, a, r, sc, n, ts, cs, Ps, row, rfl, hd0, hC, cw, sc1, sc2, kr, fr, lr, hrw, fin⟩ := h
    refine ⟨_, (pss_cons (ps_set (i := 4) sc__law_errors.nd rfl (.inr rfl) (pe_lc (own := [("kind", 7)]) (by rfl) sc__law_errors.nd (pi_range1 (by rfl) z_range (pa_cons (pe_ix ix_tup (pv 1) pe_int (fun _ _ => rfl)) pa_nil)) (blkOk_by (own := [("kind", 7)]) (N := N__law_errors) (sc := defScope s__law_errors) (by decide +kernel)) (fun _ _ _ _ _ => (pg_name (i := 7) sc__law_errors.nd rfl (.inl rfl))) (fun _ _ _ _ _ => pts_nil) (fun _ _ _ _ _ => (pe_op op_sub (pe_cl C__law_draw hr (by decide) rfl (pa_cons (pv 0) (pa_cons (pe_op op_add (pe_op op_mulW pe_int (pv 2)) pe_int) pa_nil))) (pv 2)))))
    (pss_cut (ps_for PassesOwn.never rfl (pi_range1 (by rfl) z_range (pa_cons (pe_callB call_len_seq (by rfl) z_len (by decide +kernel) (pa_cons (pv 3) pa_nil)) pa_nil)) (pg_name (i := 5) sc__law_errors.nd rfl (.inl rfl))
      (pss_cons (ps_set (i := 6) sc__law_errors.nd rfl (.inl rfl) (pe_ix ix_list (pe_ix ix_list (pe_ix ix_tup (pv 1) pe_int (fun _ _ => rfl)) (pv 5) (fun _ _ => rfl)) (pe_un un_neg pe_int) (fun _ _ => rfl)))
      (pss_one (ps_asg (pe_op op_sub (pe_op op_mulW (pe_ix ix_tup (pe_ix ix_tup (pv 1) pe_int (fun _ _ => rfl)) (pv 5) (fun _ _ => rfl)) (pe_ix ix_list (pv 3) (pv 5) (fun _ _ => rfl))) (pe_callB (show CallR _ (.builtin "sum") (rSum K) from cr_sum rfl) (by rfl) z_sum (by decide +kernel) (pa_cons (pe_lc (own := [("kind", 7)]) (by rfl) sc__law_errors.nd (pi_list (pe_slice sl_list (pe_ix ix_list (pe_ix ix_tup (pv 1) pe_int (fun _ _ => rfl)) (pv 5) (fun _ _ => rfl)) po_none (po_some (pe_un un_neg pe_int)))) (blkOk_by (own := [("kind", 7)]) (N := N__law_errors) (sc := defScope s__law_errors) (by decide +kernel)) (fun _ _ _ _ _ => (pg_name (i := 7) sc__law_errors.nd rfl (.inl rfl))) (fun _ _ _ _ _ => pts_nil) (fun _ _ _ _ _ => (pe_ix (show IxR _ (rIxL K) from ix_list) (pv 4) (pv 7) (fun _ _ => rfl)))) pa_nil))) (pg_sub (pv 4) (pv 6) set_list)))))
    (pss_one (ps_ret (pv 4))))), ?_⟩
    have big : sizeLine = 16777216 := by decide
    have e17 : (2 : Nat) ^ 17 = 131072 := by decide
    have e20 : (2 : Nat) ^ 20 = 1048576 := by decide
    have on0 := On.start hd0
    have gr : frz p q H r = some (.lst (row.map V.int)) := frz_at kr fr
    generalize frz p q H = G at *
    obtain ⟨t, cl, c, pc, f, xs, zs, hA, ht, hX, ⟨cx, hcl, hcx⟩, hc, hp, hZ, hf⟩ := hC
    have lcx := LR.len hcx
    have cok := cw.caseOk
    have cl12 := cok.cl12
    have n12 := cw.n12
    have lcs := cw.cl
    refine ⟨_, rfl, a, _, _, .int n, rfl, rfl, seqT on0.le hA, atI_nat (j := 0) rfl, _, rfl, by omega, by omega, fun E nE => ?_⟩
    have fE := on0.free nE
    refine lc_it (walk_range (lo := 0) (n := ((n : Nat) : Int).toNat)) (fun i H' => On p q G H' ∧ ∃ es : List Int, H' E = some (.lst (es.map V.int)) ∧ es.length = i ∧ ∀ x ∈ es, -sc ≤ x ∧ x ≤ sc) ⟨on0.new nE, [], upd_same, rfl, fun x mx => by cases mx⟩ (fun _ _ _ _ => trivial) ?_ ?_
    · clear on0
      rintro i v H2 H3 hi ⟨on2, es, kE, le, hes⟩ ⟨rfl, rfl⟩
      have hi2 : i < n := by have : i < ((n : Nat) : Int).toNat := hi; omega
      refine ⟨rfl, _, rfl, _, rfl, _, _, rfl, rfl, mulW (up (n := 3) (by decide) (by decide)) (up (n := 17) (by omega) (by decide)), _, _, rfl, rfl, p, q, _, rfl, on2.hd, by omega, by omega, fun H4 x hd4 kp4 x0 x1 => ?_⟩
      refine ⟨_, rfl, _, _, rfl, rfl, _, kp4 _ _ fE.1 fE.2.1 kE, by rw [List.length_map]; omega, (on2.draw hd4 kp4).put fE, es ++ [x - sc], by rw [upd_same, List.map_append]; rfl, by rw [List.length_append, le]; rfl, fun y my => ?_⟩
      rcases List.mem_append.mp my with m | m
      · exact hes y m
      · rw [List.mem_singleton.mp m]
        omega
    rintro H2 ⟨on2, es, kE, le, hes⟩
    rw [Int.toNat_natCast] at le
    clear on0 nE
    refine ⟨fun σ H' => (∃ y5 y6 : Option V, σ = [some (.ref p), some (.ref a), some (.int sc), some (.ref r), some (.ref E), y5, y6, none]) ∧ On p q G H' ∧ ∃ es : List Int, H' E = some (.lst (es.map V.int)) ∧ es.length = n ∧ (∀ x ∈ es, x.natAbs < 800100) ∧ ∀ (j : Nat) (A : List Int), (classesL ts n)[j]? = some A → sumC es A = cs.getD j 0 * row.getD j 0, ?_, ?_⟩
    · refine ⟨_, rfl, r, _, rfl, .inl (.inl (.inl (on2.le _ _ gr))), _, rfl, by rw [List.length_map]; omega, by rw [List.length_map]; omega, ?_⟩
      rw [List.length_map]
      refine for_it (walk_range (lo := 0) (n := ((row.length : Nat) : Int).toNat)) (fun i σ H' => (∃ y5 y6 : Option V, σ = [some (.ref p), some (.ref a), some (.int sc), some (.ref r), some (.ref E), y5, y6, none]) ∧ On p q G H' ∧ ∃ es : List Int, H' E = some (.lst (es.map V.int)) ∧ es.length = n ∧ (∀ x ∈ es, x.natAbs < 800100) ∧ (∀ (j : Nat) (A : List Int), i ≤ j → (classesL ts n)[j]? = some A → ∀ k ∈ A, -sc ≤ es.getD k.toNat 0 ∧ es.getD k.toNat 0 ≤ sc) ∧ ∀ (j : Nat) (A : List Int), j < i → (classesL ts n)[j]? = some A → sumC es A = cs.getD j 0 * row.getD j 0) ⟨⟨_, _, rfl⟩, on2, es, kE, le, fun x mx => by have := hes x mx; omega, fun j A _ _ k _ => ?_, fun j A hj => absurd hj (Nat.not_lt_zero j)⟩ (fun _ _ _ _ _ => trivial) ?_ ?_
      · rw [List.getD_eq_getElem?_getD]
        cases q : es[k.toNat]? with
        | none => exact ⟨by show -sc ≤ 0; omega, by show 0 ≤ sc; omega⟩
        | some x => exact hes x (List.mem_of_getElem? q)
      · clear kE le hes on2
        clear es
        rintro i x σ H3 H4 hi ⟨⟨y5, y6, rfl⟩, on3, es, kE, le, few, left, done⟩ ⟨rfl, rfl⟩
        have hi2 : i < row.length := by have : i < ((row.length : Nat) : Int).toNat := hi; omega
        have z1 : (0 : Int) + (i : Nat) = ((i : Nat) : Int) := Int.zero_add _
        show gName 5 (V.int ((0 : Int) + ((i : Nat) : Int))) _ _ _
        rw [z1]
        have ecx : cx[i]? = some cx[i] := List.getElem?_eq_getElem (by omega)
        obtain ⟨A, eA, tl, et, kt⟩ := LR.get hcx ecx
        rw [et] at ecx
        have mA := List.mem_of_getElem? eA
        obtain ⟨l12, neA, lowA⟩ := cok.clen A mA
        have l4 := cw.four A mA
        have lf := left i A (Nat.le_refl _) eA
        obtain ⟨B, z, rfl⟩ : ∃ B z, A = B ++ [z] := ⟨_, _, (List.dropLast_concat_getLast neA).symm⟩
        have eat : atI ((B ++ [z]).map V.int) (-1) = some (.int z) := by
          rw [List.map_append]
          exact atI_last _ _
        have lz := lowA z (List.mem_append_right _ List.mem_cons_self)
        have ec := ints_at (l := cs) (i := i) (by omega)
        have er := ints_at (l := row) (i := i) (by omega)
        have sg : cs.getD i 0 = 1 ∨ cs.getD i 0 = -1 := by
          have e1 : cs[i]? = some cs[i] := List.getElem?_eq_getElem (by omega)
          rw [List.getD_eq_getElem?_getD, e1]
          exact cw.sgn _ (List.getElem_mem _)
        have rb : -(4 * sc) ≤ row.getD i 0 ∧ row.getD i 0 ≤ 4 * sc := by
          have e1 : row[i]? = some row[i] := List.getElem?_eq_getElem (by omega)
          rw [List.getD_eq_getElem?_getD, e1]
          exact hrw _ (List.getElem_mem _)
        generalize eci : cs.getD i 0 = ci at *
        generalize eri : row.getD i 0 = ri at *
        refine ⟨_, rfl, a, _, _, .ref cl, rfl, rfl, seqT on3.le hA, atI_nat (j := 2) rfl, _, rfl, cl, _, _, .ref tl, rfl, rfl, seqLs on3.le hcl, atI_nat ecx, _, rfl, tl, _, _, .int z, rfl, rfl, seqLs on3.le kt, eat, ?_⟩
        refine ⟨_, rfl, a, _, _, .ref c, rfl, rfl, seqT on3.le hA, atI_nat (j := 3) rfl, _, rfl, c, _, _, .int ci, rfl, rfl, seqT on3.le hc, atI_nat ec, _, rfl, _, rfl, r, _, _, .int ri, rfl, rfl, .inl (.inl (on3.le _ _ gr)), atI_nat er, _, _, rfl, rfl, mulW (up (n := 17) (by omega) (by decide)) (up (n := 20) (by omega) (by decide)), ?_⟩
        refine ⟨_, rfl, a, _, _, .ref cl, rfl, rfl, seqT on3.le hA, atI_nat (j := 2) rfl, _, rfl, cl, _, _, .ref tl, rfl, rfl, seqLs on3.le hcl, atI_nat ecx, ?_⟩
        refine ⟨_, rfl, _, rfl, tl, _, rfl, seqLs on3.le kt, fun D nD => ?_⟩
        have eD : cutV ((B ++ [z]).map V.int) none (some (-1)) = B.map V.int := by
          rw [cut_tail, List.map_append]
          exact List.dropLast_concat
        rw [eD]
        generalize eHa : L2.upd _ D _ = Ha
        have sa := same_of nD eHa
        have kD := at_of eHa
        clear eHa
        refine ⟨D, rfl, ⟨_, .inl (.inl kD)⟩, fun S nS => ?_⟩
        have kEa := sa _ _ kE
        refine lc_it (walk_list (K := K) (a := D) (xs := B.map V.int)) (fun q H' => Same Ha H' ∧ H' S = some (.lst (((B.take q).map fun k => es.getD k.toNat 0).map V.int))) ⟨same_upd nS, upd_same⟩ (fun q H' _ h => .inl (.inl (h.1 _ _ kD))) ?_ ?_
        · rintro q v Hb Hc hq ⟨sb, kS⟩ ⟨rfl, ew⟩
          rw [List.getElem?_map] at ew
          obtain ⟨k, ek, rfl⟩ := Option.map_eq_some_iff.mp ew
          have ⟨k0, k1⟩ := lowA k (List.mem_append_left _ (List.mem_of_getElem? ek))
          obtain ⟨kn, rfl⟩ := Int.eq_ofNat_of_zero_le k0
          have ee := ints_at (l := es) (i := kn) (by omega)
          refine ⟨rfl, _, rfl, _, rfl, E, _, _, _, rfl, rfl, .inl (.inl (sb _ _ kEa)), atI_nat ee, ?_⟩
          rw [List.length_append] at l4
          refine ⟨_, kS, by rw [List.length_map, List.length_map, List.length_take]; omega, HD.same_put sb nS, ?_⟩
          rw [upd_same, List.take_add_one, ek, List.map_append, List.map_append]
          rfl
        rintro Hb ⟨sb, kS⟩
        rw [List.length_map, List.take_length] at kS
        have sab := sa.trans sb
        obtain ⟨zn, rfl⟩ := Int.eq_ofNat_of_zero_le lz.1
        have sm := sum_abs (s := sc) (l := B.map fun k => es.getD k.toNat 0) (fun x mx => by
          obtain ⟨k, mk, rfl⟩ := List.mem_map.mp mx
          exact lf k (List.mem_append_left _ mk))
        rw [List.length_map] at sm
        have b3 : ((B.length : Nat) : Int) * sc ≤ 3 * sc := by
          rw [List.length_append] at l4
          have l4 : B.length + 1 ≤ 4 := l4
          exact Int.mul_le_mul_of_nonneg_right (by omega) (by omega)
        have vb : (ci * ri - (B.map fun k => es.getD k.toNat 0).sum).natAbs < 800100 := by
          generalize (B.map fun k => es.getD k.toNat 0).sum = sm1 at *
          generalize ((B.length : Nat) : Int) * sc = bs at *
          rcases sg with e | e
          · rw [e, Int.one_mul]
            omega
          · rw [e, Int.neg_mul, Int.one_mul]
            omega
        refine ⟨S, _, rfl, .inl (.inl kS), _, _, rfl, rfl, _, rfl, _, rfl, E, _, _, zn, rfl, rfl, sab _ _ kE, ixN_nat (by rw [List.length_map]; omega), ⟨_, _, rfl⟩, (on3.same sab).put fE, es.set zn (ci * ri - (B.map fun k => es.getD k.toNat 0).sum), by rw [upd_same, List.map_set], by rw [List.length_set]; exact le, fun x mx => ?_, fun j A hj eA2 k mk => ?_, fun j A hj eA2 => ?_⟩
        · rcases List.mem_or_eq_of_mem_set mx with m | e
          · exact few x m
          · rw [e]
            exact vb
        · have k0 := ((cok.clen A (List.mem_of_getElem? eA2)).2.2 k mk).1
          have nk : ¬ zn = k.toNat := fun e => by
            have ek : k = ((zn : Nat) : Int) := by omega
            rw [ek] at mk
            have := classes_only eA2 eA mk (List.mem_append_right _ List.mem_cons_self)
            omega
          rw [List.getD_eq_getElem?_getD, List.getElem?_set_ne nk, ← List.getD_eq_getElem?_getD]
          exact left j A (by omega) eA2 k mk
        · rw [set_beh, sumC_beh (by omega) (cls_nodup _ (List.mem_of_getElem? eA2)) fun y my => ((cok.clen A (List.mem_of_getElem? eA2)).2.2 y my).1]
          by_cases ej : j = i
          · rw [ej] at eA2 ⊢
            rw [eA] at eA2
            have eA2 : B ++ [(zn : Int)] = A := Option.some.inj eA2
            rw [← eA2, if_pos (List.contains_iff_mem.mpr (List.mem_append_right _ List.mem_cons_self)), sumC_snoc, eci, eri]
            show sumC es B + es.getD zn 0 + (ci * ri - sumC es B - es.getD zn 0) = ci * ri
            omega
          · rw [if_neg (fun z => ej (classes_only eA2 eA (List.contains_iff_mem.mp z) (List.mem_append_right _ List.mem_cons_self))), Int.add_zero]
            exact done j A (by omega) eA2
      · rintro σ H3 ⟨y, on3, es, kE, le, few, _, done⟩
        rw [Int.toNat_natCast] at done
        exact ⟨y, on3, es, kE, le, few, fun j A eA => done j A (by rw [lr]; exact (List.getElem?_eq_some_iff.mp eA).1) eA⟩
    · clear kE le hes on2
      clear es
      rintro σ H3 ⟨⟨y5, y6, rfl⟩, on3, es, kE, le, few, done⟩
      refine ⟨_, rfl, fin H3 E es on3 kE ⟨fE.1, fE.2.1⟩ le few (row_of lcs lr cw.sgn fun j hj => ?_)⟩
      have ej : (classesL ts n)[j]? = some (classesL ts n)[j] := List.getElem?_eq_getElem hj
      have gj : (classesL ts n).getD j [] = (classesL ts n)[j] := by rw [List.getD_eq_getElem?_getD, ej]; rfl
      rw [gj]
      exact done j _ ej
end
end K25
namespace CK
open PySem PySem.Spec PyProof.Rows L2 VG FR HD M24
def fronts24 : List Str := [("" : String), ("" : String), ("b" : String), ("zz" : String), ("mnopq" : String)]
def lett24 (a j : Nat) : Nat := cABC.cps.toList.getD ((a + 7 * j) % 26) 0
def baseN24 (fr : Str) (a j : Nat) : Str := fr ++ (⟨#[lett24 a j]⟩ : Str)
theorem names24_all : (fronts24.all fun fr => (List.range 26).all fun a => decide ((((List.range 12).map (baseN24 fr a)).map fun z => z.cps.toList).Nodup) && ((List.range 12).map (baseN24 fr a)).all nmB) = true := by decide +kernel
theorem names24_fine {fr : Str} (hf : fr ∈ fronts24) {a : Nat} (ha : a < 26) {m : Nat} (hm : m ≤ 12) : ((List.range m).map (baseN24 fr a)).Nodup ∧ ∀ z ∈ (List.range m).map (baseN24 fr a), NameOk z := by
  have h := List.all_eq_true.mp (List.all_eq_true.mp names24_all fr hf) a (List.mem_range.mpr ha)
  rw [Bool.and_eq_true] at h
  have e : (List.range m).map (baseN24 fr a) = ((List.range 12).map (baseN24 fr a)).take m := by
    rw [← List.map_take, List.take_range, Nat.min_eq_left hm]
  have nd : ((List.range 12).map (baseN24 fr a)).Nodup := List.Pairwise.imp (fun {x y} h e => h (by rw [e])) (List.pairwise_map.mp (of_decide_eq_true h.1))
  rw [e]
  exact ⟨nd.sublist (List.take_sublist _ _), fun z hz => ok_of_B (List.all_eq_true.mp h.2 z (List.mem_of_mem_take hz))⟩
theorem lett24_at (a j : Nat) : cABC.cps.toList[(a + 7 * j) % 26]? = some (lett24 a j) := by
  have all : ∀ i : Fin 26, cABC.cps.toList[i.1]? = some (cABC.cps.toList.getD i.1 0) := by decide +kernel
  exact all ⟨(a + 7 * j) % 26, Nat.mod_lt _ (by decide)⟩
theorem front24_len {fr : Str} (h : fr ∈ fronts24) : fr.length ≤ 5 := by
  have all : (fronts24.all fun z => decide (z.length ≤ 5)) = true := by decide +kernel
  exact of_decide_eq_true (List.all_eq_true.mp all fr h)
end CK
namespace K25
open PySem PySem.Spec PyProof.Rows L2 VG FR CK HD M24
abbrev s__law_mixed : Stmt := topS 66
abbrev N__law_mixed : List Str := ["heap", "some", "left", "found", "turn"]
theorem sc__law_mixed : FnScope N__law_mixed ["heap", "some"] (defScope s__law_mixed) := ⟨rfl, rfl, rfl, by decide +kernel, rfl, by decide +kernel, by decide +kernel⟩
abbrev s_has_lone : Stmt := topS 49
abbrev N_has_lone : List Str := ["table", "piece", "total"]
theorem sc_has_lone : FnScope N_has_lone ["table", "piece"] (defScope s_has_lone) := ⟨rfl, rfl, rfl, by decide +kernel, rfl, by decide +kernel, by decide +kernel⟩
abbrev s_fixed_pieces : Stmt := topS 53
abbrev N_fixed_pieces : List Str := ["table", "blocks", "piece"]
theorem sc_fixed_pieces : FnScope N_fixed_pieces ["table", "blocks"] (defScope s_fixed_pieces) := ⟨rfl, rfl, rfl, by decide +kernel, rfl, by decide +kernel, by decide +kernel⟩
abbrev s_signed_by : Stmt := topS 52
abbrev N_signed_by : List Str := ["table", "colours", "errors", "of_classes", "colour", "error"]
theorem sc_signed_by : FnScope N_signed_by ["table", "colours", "errors"] (defScope s_signed_by) := ⟨rfl, rfl, rfl, by decide +kernel, rfl, by decide +kernel, by decide +kernel⟩
abbrev s_signed_errors : Stmt := topS 51
abbrev N_signed_errors : List Str := ["table", "blocks", "errors"]
theorem sc_signed_errors : FnScope N_signed_errors ["table", "blocks", "errors"] (defScope s_signed_errors) := ⟨rfl, rfl, rfl, by decide +kernel, rfl, by decide +kernel, by decide +kernel⟩
abbrev s_points_of : Stmt := topS 54
abbrev N_points_of : List Str := ["table", "blocks", "errors", "signed", "points", "piece", "fixed", "own", "number"]
theorem sc_points_of : FnScope N_points_of ["table", "blocks", "errors"] (defScope s_points_of) := ⟨rfl, rfl, rfl, by decide +kernel, rfl, by decide +kernel, by decide +kernel⟩
abbrev s_span_of : Stmt := topS 55
abbrev N_span_of : List Str := ["points"]
theorem sc_span_of : FnScope N_span_of ["points"] (defScope s_span_of) := ⟨rfl, rfl, rfl, by decide +kernel, rfl, by decide +kernel, by decide +kernel⟩
abbrev s_are_close : Stmt := topS 56
abbrev N_are_close : List Str := ["points"]
theorem sc_are_close : FnScope N_are_close ["points"] (defScope s_are_close) := ⟨rfl, rfl, rfl, by decide +kernel, rfl, by decide +kernel, by decide +kernel⟩
abbrev s_is_inside : Stmt := topS 57
abbrev N_is_inside : List Str := ["table", "blocks", "errors", "points"]
theorem sc_is_inside : FnScope N_is_inside ["table", "blocks", "errors"] (defScope s_is_inside) := ⟨rfl, rfl, rfl, by decide +kernel, rfl, by decide +kernel, by decide +kernel⟩
abbrev s__law_lowest : Stmt := topS 71
abbrev N__law_lowest : List Str := ["top", "bottom", "one", "other", "turn"]
theorem sc__law_lowest : FnScope N__law_lowest ["top", "bottom"] (defScope s__law_lowest) := ⟨rfl, rfl, rfl, by decide +kernel, rfl, by decide +kernel, by decide +kernel⟩
abbrev s__law_fractions : Stmt := topS 72
abbrev N__law_fractions : List Str := ["values", "scale", "value"]
theorem sc__law_fractions : FnScope N__law_fractions ["values", "scale"] (defScope s__law_fractions) := ⟨rfl, rfl, rfl, by decide +kernel, rfl, by decide +kernel, by decide +kernel⟩
abbrev s__law_row : Stmt := topS 73
abbrev N__law_row : List Str := ["case", "errors", "at", "kind"]
theorem sc__law_row : FnScope N__law_row ["case", "errors"] (defScope s__law_row) := ⟨rfl, rfl, rfl, by decide +kernel, rfl, by decide +kernel, by decide +kernel⟩
abbrev s__law_points : Stmt := topS 74
abbrev N__law_points : List Str := ["case", "row", "piece", "is_fixed", "at"]
theorem sc__law_points : FnScope N__law_points ["case", "row"] (defScope s__law_points) := ⟨rfl, rfl, rfl, by decide +kernel, rfl, by decide +kernel, by decide +kernel⟩
abbrev s__law_inside : Stmt := topS 75
abbrev N__law_inside : List Str := ["case", "row", "scale", "points"]
theorem sc__law_inside : FnScope N__law_inside ["case", "row", "scale"] (defScope s__law_inside) := ⟨rfl, rfl, rfl, by decide +kernel, rfl, by decide +kernel, by decide +kernel⟩
abbrev s__law_classes : Stmt := topS 69
abbrev N__law_classes : List Str := ["many", "totals", "rows", "lots", "kind", "row", "place", "at"]
theorem sc__law_classes : FnScope N__law_classes ["many", "totals"] (defScope s__law_classes) := ⟨rfl, rfl, rfl, by decide +kernel, rfl, by decide +kernel, by decide +kernel⟩
abbrev s__law_names : Stmt := topS 67
abbrev N__law_names : List Str := ["heap", "many", "letters", "front", "first", "at"]
theorem sc__law_names : FnScope N__law_names ["heap", "many"] (defScope s__law_names) := ⟨rfl, rfl, rfl, by decide +kernel, rfl, by decide +kernel, by decide +kernel⟩
abbrev s__law_totals : Stmt := topS 68
abbrev N__law_totals : List Str := ["heap", "most", "groups", "group", "sizes", "many", "order", "sides", "lots", "totals", "alone", "near", "other"]
theorem sc__law_totals : FnScope N__law_totals ["heap", "most"] (defScope s__law_totals) := ⟨rfl, rfl, rfl, by decide +kernel, rfl, by decide +kernel, by decide +kernel⟩
abbrev s__law_case : Stmt := topS 70
abbrev N__law_case : List Str := ["heap", "most", "many", "totals", "classes", "inside", "ties", "colours", "pieces", "start", "piece", "turn", "one", "other", "fixed", "total", "at", "pair", "some"]
theorem sc__law_case : FnScope N__law_case ["heap", "most"] (defScope s__law_case) := ⟨rfl, rfl, rfl, by decide +kernel, rfl, by decide +kernel, by decide +kernel⟩
abbrev i_Blocks : Stmt := inClass (topS 61) 0
theorem sc_i_Blocks : FnScope ["self", "colours", "pieces"] ["self", "colours", "pieces"] (defScope i_Blocks) := ⟨rfl, rfl, rfl, by decide +kernel, rfl, by decide +kernel, by decide +kernel⟩
section
variable {P : Program} {w : World} {K : PySem.W.Frag} {mg : Str → Option Value} {base : Heap}
theorem ok_has_lone {f C : Addr} {fd : FuncData} (F : Fun K "has_lone" "has_lone" s_has_lone f fd) (C_totals_by_classes : Cl P w K mg base 4 "totals_by_classes" (spTBC2 K C)) (z_any : mg "any" = none) (z_len : mg "len" = none) : FnOk P w K mg base CX0 5 f fd ["table", "piece"] (spHasLone K C) := by
  refine F.ok sc_has_lone (fun vs H Q E h => ?_) (fun cdv A outer s H vs Q E hr h => ?_)
  · obtain ⟨_, _, _, _, _, rfl, _⟩ := h
    rfl
  · obtain ⟨a, pa, ks, ts, R, rfl, hTab, ok, hP, fin⟩ := h
    refine ⟨_, (pss_one (ps_ret (pe_callB (cr_any rfl) (by rfl) z_any (by decide +kernel) (pa_cons (pe_lc (own := [("total", 2)]) (by rfl) sc_has_lone.nd (pi_tup (pe_cl C_totals_by_classes hr (by decide) rfl (pa_cons (pv 0) pa_nil))) (blkOk_by (own := [("total", 2)]) (N := N_has_lone) (sc := defScope s_has_lone) (by decide +kernel)) (fun _ _ _ _ _ => (pg_name (i := 2) sc_has_lone.nd rfl (.inl rfl))) (fun _ _ _ _ _ => pts_nil) (fun _ _ _ _ _ => (pe_and (pe_cmpR op_eq (pe_callB (show CallR _ (.builtin "len") (rLenK K) from call_lenK) (by rfl) z_len (by decide +kernel) (pa_cons (pv 2) pa_nil)) pe_int (nomark _)) (pe_one (pe_cmpR (show OpR _ (compareOp .In) (rIn K false) from op_in_seq) (pe_ix (show IxR _ (rIxT K) from ix_tup) (pv 2) pe_int (fun _ _ => rfl)) (pv 1) rfl))))) pa_nil)))), ?_⟩
    have big : sizeLine = 16777216 := by decide
    have k12 := ok.kinds.2.1
    have t12 := ok.len
    refine ⟨_, rfl, a, ks, ts, rfl, hTab, by omega, by omega, ok.low, fun H1 tl xs ls s1 ktl hX by_ => ?_⟩
    have els := byCls_uniq k12 ok.lots by_
    subst els
    have low := lotsC_low ts k12
    have lx := hX.len
    have ll := lotsC_len ts ks.length
    refine ⟨tl, rfl, ⟨_, sqt ktl⟩, fun D nD => ?_⟩
    refine lc_it (walk_tup (K := K) (a := tl) (xs := xs)) (fun i H' => Same H1 H' ∧ H' D = some (.lst ((((lotsC ts ks.length).take i).map fun l => decide (l.length = 1) && R.contains (l.headD 0)).map V.bl))) ⟨same_upd nD, upd_same⟩ (fun i H' _ h => sqt (h.1 _ _ ktl)) ?_ ?_
    · rintro i v H2 H3 hi ⟨s2, kD⟩ ⟨rfl, ev⟩
      obtain ⟨u, l, rfl, el, hu⟩ := hX.get ev
      have hi2 : i < xs.length := hi
      have hu2 := seqT s2 hu
      have add : ∀ b, b = (decide (l.length = 1) && R.contains (l.headD 0)) → ∃ zs, H3 D = some (.lst zs) ∧ zs.length < sizeLine ∧ Same H1 (L2.upd H3 D (.lst (zs ++ [.bl b]))) ∧ (L2.upd H3 D (.lst (zs ++ [.bl b]))) D = some (.lst ((((lotsC ts ks.length).take (i + 1)).map fun l => decide (l.length = 1) && R.contains (l.headD 0)).map V.bl)) := fun b eb => by
        refine ⟨_, kD, by rw [List.length_map, List.length_map, List.length_take]; omega, HD.same_put s2 nD, ?_⟩
        rw [upd_same, List.take_add_one, el, List.map_append, List.map_append, eb]
        rfl
      refine ⟨rfl, _, rfl, u, _, rfl, .inr hu2, rfl, ?_⟩
      by_cases hl : l.length = 1
      · obtain ⟨x, rfl⟩ : ∃ x, l = [x] := by
          match l, hl with
          | [x], _ => exact ⟨x, rfl⟩
        refine ⟨_, rfl, ite_eq true (decide_eq_true rfl) (iteT ?_)⟩
        refine ⟨_, rfl, u, _, _, .int x, rfl, rfl, hu2, at00 _ _, _, rfl, pa, R.map V.int, rfl, .inr (seqT (s1.trans s2) hP), rfl, flat_ints R, ?_⟩
        rw [inV_ints]
        exact add _ rfl
      · refine ⟨_, rfl, ite_eq false (decide_eq_false fun e => hl ?_) (iteF ?_)⟩
        · have := V.int.inj e
          rw [List.length_map] at this
          omega
        · exact add _ (by rw [decide_eq_false hl]; rfl)
    · rintro H2 ⟨s2, kD⟩
      rw [lx, List.take_length] at kD
      refine ⟨D, _, rfl, .inl (.inl kD), ?_⟩
      rw [List.any_map]
      exact fin H2 (s1.trans s2)
theorem ok_fixed_pieces {f C CB : Addr} {fd : FuncData} (F : Fun K "fixed_pieces" "fixed_pieces" s_fixed_pieces f fd) (BC : BlkC K CB) (C_has_lone : Cl P w K mg base 5 "has_lone" (spHasLone K C)) (z_tuple : mg "tuple" = none) : FnOk P w K mg base CX0 6 f fd ["table", "blocks"] (spFixed K C CB) := by
  refine F.ok sc_fixed_pieces (fun vs H Q E h => ?_) (fun cdv A outer s H vs Q E hr h => ?_)
  · obtain ⟨_, _, _, _, _, _, rfl, _⟩ := h
    rfl
  · obtain ⟨a, b, ks, ts, cs, Ps, rfl, hTab, ok, hB, lp, fin⟩ := h
    refine ⟨_, (pss_one (ps_ret (pe_callTy call_tupE (by rfl) z_tuple (by decide +kernel) (pa_cons (pe_lc (own := [("piece", 2)]) (by rfl) sc_fixed_pieces.nd (pi_tup (pe_fld (pv 1) (by rfl))) (blkOk_by (own := [("piece", 2)]) (N := N_fixed_pieces) (sc := defScope s_fixed_pieces) (by decide +kernel)) (fun _ _ _ _ _ => (pg_name (i := 2) sc_fixed_pieces.nd rfl (.inl rfl))) (fun _ _ _ _ _ => pts_nil) (fun _ _ _ _ _ => (pe_cl C_has_lone hr (by decide) rfl (pa_cons (pv 0) (pa_cons (pv 2) pa_nil))))) pa_nil)))), ?_⟩
    have big : sizeLine = 16777216 := by decide
    obtain ⟨dx, c, z, xs, hO, hc, hz, hX⟩ := hB
    have lx := hX.len
    refine ⟨_, rfl, b, CB, dx, _, .ref z, rfl, hO, BC.c, BC.np, rfl, z, rfl, ⟨_, hz⟩, fun D nD => ?_⟩
    refine lc_it (walk_tup (K := K) (a := z) (xs := xs)) (fun i H' => Same H H' ∧ H' D = some (.lst (((Ps.take i).map (loneB (lotsC ts ks.length))).map V.bl))) ⟨same_upd nD, upd_same⟩ (fun i H' _ h => seqT h.1 hz) ?_ ?_
    · rintro i v H2 H3 hi ⟨s2, kD⟩ ⟨rfl, ev⟩
      obtain ⟨u, R, rfl, el, hu⟩ := hX.get ev
      have hi2 : i < xs.length := hi
      refine ⟨rfl, _, rfl, _, rfl, a, u, ks, ts, R, rfl, hTab.mono s2, ok, seqT s2 hu, fun H4 s4 => ?_⟩
      refine ⟨_, s4 _ _ kD, by rw [List.length_map, List.length_map, List.length_take]; omega, HD.same_put (s2.trans s4) nD, ?_⟩
      rw [upd_same, List.take_add_one, el, List.map_append, List.map_append]
      rfl
    · rintro H2 ⟨s2, kD⟩
      rw [lx, List.take_length] at kD
      refine ⟨D, _, rfl, .inl (.inl (.inl kD)), fun H3 u s3 hu => ?_⟩
      exact fin H3 u (s2.trans s3) hu
theorem ok_signed_by {f C : Addr} {fd : FuncData} (F : Fun K "signed_by" "signed_by" s_signed_by f fd) (C_class_errors : Cl P w K mg base 3 "class_errors" (spClassErrs K C)) (C_timed : Cl P w K mg base 4 "timed" (spTimed K)) (z_tuple : mg "tuple" = none) (z_zip : mg "zip" = none) : FnOk P w K mg base CX0 5 f fd ["table", "colours", "errors"] (spSignedBy K C) := by
  refine F.ok sc_signed_by (fun vs H Q E h => ?_) (fun cdv A outer s H vs Q E hr h => ?_)
  · obtain ⟨_, _, _, _, _, _, _, _, rfl, _⟩ := h
    rfl
  · obtain ⟨a, c, e, ks, ts, cs, es, sc, rfl, hTab, ok, hc, lc, sgn, hE, le, eok, fin⟩ := h
    refine ⟨_, (pss_cons (ps_set (i := 3) sc_signed_by.nd rfl (.inl rfl) (pe_cl C_class_errors hr (by decide) rfl (pa_cons (pv 0) (pa_cons (pv 2) pa_nil))))
    (pss_one (ps_ret (pe_callTy call_tupE (by rfl) z_tuple (by decide +kernel) (pa_cons (pe_lc (own := [("colour", 4), ("error", 5)]) (by rfl) sc_signed_by.nd (RZ.pi_zipA (by rfl) z_zip (pa_cons (pv 1) (pa_cons (pv 3) pa_nil))) (blkOk_by (own := [("colour", 4), ("error", 5)]) (N := N_signed_by) (sc := defScope s_signed_by) (by decide +kernel)) (fun _ _ _ _ _ => (show PG _ _ (gTup K 2 _) from pg_tup rfl (pgs_cons (pg_name (i := 4) sc_signed_by.nd rfl (.inl rfl)) (pgs_cons (pg_name (i := 5) sc_signed_by.nd rfl (.inl rfl)) pgs_nil)))) (fun _ _ _ _ _ => pts_nil) (fun _ _ _ _ _ => (pe_cl C_timed hr (by decide) rfl (pa_cons (pe_tup (pa_cons (pv 4) (pa_cons pe_int pa_nil))) (pa_cons (pv 5) pa_nil))))) pa_nil))))), ?_⟩
    have big : sizeLine = 16777216 := by decide
    have k12 := ok.kinds.2.1
    have t12 := ok.len
    have cl := classes_len ts ks.length
    obtain ⟨ys, hy, fy⟩ := hE
    refine ⟨_, rfl, _, rfl, a, e, ys, ks, ts, es.map (US sc), rfl, hTab, by omega, k12, hy, fy, by rw [List.length_map]; exact le, eok.es, fun H1 u xs s1 ku fu => ?_⟩
    rw [errsL_US eok.pos] at fu
    have lx := fu.len
    rw [List.length_map] at lx
    have hc1 := seqT s1 hc
    refine ⟨_, rfl, _, rfl, c, u, cs.map V.int, xs, rfl, .inr ⟨hc1, sqt ku, fun D nD => ?_⟩⟩
    refine lc_it (walk_zipT (K := K) (a := c) (b := u) (xs := cs.map V.int) (ys := xs) (n := cs.length) (by rw [List.length_map]; omega)) (fun i H' => Same H1 H' ∧ ∃ zs, H' D = some (.lst zs) ∧ Frs K H' zs (((rowS cs (classesL ts ks.length) es).take i).map (US sc))) ⟨same_upd nD, [], upd_same, trivial⟩ (fun i H' _ h => ⟨seqT h.1 hc1, sqt (h.1 _ _ ku)⟩) ?_ ?_
    · rintro i v H2 H3 hi ⟨s2, zs, kD, hz⟩ ⟨T, x0, y, rfl, nT, rfl, ex0, ey⟩
      have hi2 : i < cs.length := hi
      have ex0 : (cs.map V.int)[i]? = some x0 := ex0
      rw [List.getElem?_map] at ex0
      obtain ⟨x, ex, e0⟩ := Option.map_eq_some_iff.mp ex0
      subst e0
      have ey : xs[i]? = some y := ey
      obtain ⟨t, p, rfl, ep, ht⟩ := fu.get ey
      rw [List.getElem?_map] at ep
      obtain ⟨cl1, ecl, rfl⟩ := Option.map_eq_some_iff.mp ep
      have er : (rowS cs (classesL ts ks.length) es)[i]? = some (x * sumC es cl1) := by
        unfold rowS
        rw [List.getElem?_zipWith, ex, ecl]
      have lz := hz.len
      rw [List.length_map, List.length_take] at lz
      generalize eH4 : L2.upd H2 T _ = H4
      have s4 := same_of nT eH4
      have kT := at_of eH4
      clear eH4
      have s14 := s2.trans s4
      refine ⟨T, _, rfl, .inl (.inl kT), rfl, _, _, rfl, _, _, rfl, rfl, rfl, ?_⟩
      refine ⟨_, rfl, by show 2 ≤ sizeLine; decide, fun p np => ?_⟩
      generalize eH5 : L2.upd H4 p _ = H5
      have s5 := same_of np eH5
      have kp := at_of eH5
      clear eH5
      have m1 := List.mem_of_getElem? ex
      have m2 := List.mem_of_getElem? ecl
      have sf := sum_few eok.few cl1
      have cl12 := cl.2 cl1 m2
      have e24 : (2 : Nat) ^ 20 = 1048576 := by decide
      have sb : (sumC es cl1).natAbs < 2 ^ 24 := by
        have e25 : (2 : Nat) ^ 24 = 16777216 := by decide
        have : cl1.length * 2 ^ 20 ≤ 12 * 2 ^ 20 := Nat.mul_le_mul_right _ (by omega)
        omega
      have bt1 : Bt 3000 (x, 1) := by
        rcases sgn x m1 with e | e <;> (rw [e]; exact ⟨Nat.lt_of_lt_of_le (by decide : (1 : Nat) < 2 ^ 1) (Nat.pow_le_pow_right (by decide) (by decide)), Nat.lt_of_lt_of_le (by decide : (1 : Nat) < 2 ^ 1) (Nat.pow_le_pow_right (by decide) (by decide))⟩)
      have bt2 : Bt 3000 (US sc (sumC es cl1)) := US_bt eok.pos (Nat.lt_of_lt_of_le sb (Nat.pow_le_pow_right (by decide) (by decide))) (Nat.lt_of_lt_of_le eok.sc (Nat.pow_le_pow_right (by decide) (by decide)))
      refine ⟨_, rfl, p, t, (x, 1), US sc (sumC es cl1), rfl, sqt kp, seqT (s14.trans s5) ht, (by show (0 : Int) < 1; decide), (US_low eok.pos _).1, bt1, bt2, fun H6 u2 s6 _ ku2 => ?_⟩
      rw [time_US eok.pos] at ku2
      have sB := s4.trans (s5.trans s6)
      have kD6 := sB _ _ kD
      refine ⟨_, kD6, by omega, HD.same_put (s2.trans sB) nD, _, upd_same, ?_⟩
      rw [List.take_add_one, er, List.map_append]
      exact Frs.upd kD6 (Frs.snoc (sqt ku2) (hz.mono sB))
    · rintro H2 ⟨s2, zs, kD, hz⟩
      have lr : (rowS cs (classesL ts ks.length) es).length = cs.length := by
        unfold rowS
        rw [List.length_zipWith, lc, Nat.min_self]
      rw [← lr, List.take_length] at hz
      refine ⟨D, _, rfl, .inl (.inl (.inl kD)), fun H3 u3 s3 hu3 => ?_⟩
      exact fin H3 u3 (s1.trans (s2.trans s3)) ⟨_, hu3, hz.mono s3⟩
theorem ok_signed_errors {f C CB : Addr} {fd : FuncData} (F : Fun K "signed_errors" "signed_errors" s_signed_errors f fd) (BC : BlkC K CB) (C_signed_by : Cl P w K mg base 5 "signed_by" (spSignedBy K C)) : FnOk P w K mg base CX0 6 f fd ["table", "blocks", "errors"] (spSigned K C CB) := by
  refine F.ok sc_signed_errors (fun vs H Q E h => ?_) (fun cdv A outer s H vs Q E hr h => ?_)
  · obtain ⟨_, _, _, _, _, _, _, _, _, rfl, _⟩ := h
    rfl
  · obtain ⟨a, b, e, ks, ts, cs, Ps, es, sc, rfl, hTab, ok, hB, lc, sgn, hE, le, eok, fin⟩ := h
    refine ⟨_, (pss_one (ps_ret (pe_cl C_signed_by hr (by decide) rfl (pa_cons (pv 0) (pa_cons (pe_fld (pv 1) (by rfl)) (pa_cons (pv 2) pa_nil)))))), ?_⟩
    obtain ⟨dx, c, z, xs, hO, hc, hz, hX⟩ := hB
    exact ⟨_, rfl, _, rfl, b, CB, dx, _, .ref c, rfl, hO, BC.c, BC.nc, rfl, _, rfl, a, c, e, ks, ts, cs, es, sc, rfl, hTab, ok, hc, lc, sgn, hE, le, eok, fin⟩
theorem ok_points_of {f C CB zz : Addr} {fd : FuncData} (F : Fun K "points_of" "points_of" s_points_of f fd) (BC : BlkC K CB) (C_signed_errors : Cl P w K mg base 6 "signed_errors" (spSigned K C CB)) (C_fixed_pieces : Cl P w K mg base 6 "fixed_pieces" (spFixed K C CB)) (m_ZERO : mg "ZERO" = some (.ref zz)) (hz : ∀ H, SqT K H zz (pV (0, 1))) (z_zip : mg "zip" = none) (z_tuple : mg "tuple" = none) : FnOk P w K mg base CX0 7 f fd ["table", "blocks", "errors"] (spPoints K C CB) := by
  refine F.ok sc_points_of (fun vs H Q E h => ?_) (fun cdv A outer s H vs Q E hr h => ?_)
  · obtain ⟨_, _, _, _, _, _, _, _, _, rfl, _⟩ := h
    rfl
  · obtain ⟨a, b, e, ks, ts, cs, Ps, es, sc, rfl, hTab, ok, hB, lc, sgn, pok, hE, le, eok, fin⟩ := h
    refine ⟨_, (pss_cons (ps_set (i := 3) sc_points_of.nd rfl (.inr rfl) (pe_cl C_signed_errors hr (by decide) rfl (pa_cons (pv 0) (pa_cons (pv 1) (pa_cons (pv 2) pa_nil)))))
    (pss_cons (ps_set (i := 4) sc_points_of.nd rfl (.inl rfl) (pe_lst pa_nil))
    (pss_cut (ps_for PassesOwn.never rfl (RZ.pi_zipA (by rfl) z_zip (pa_cons (pe_fld (pv 1) (by rfl)) (pa_cons (pe_cl C_fixed_pieces hr (by decide) rfl (pa_cons (pv 0) (pa_cons (pv 1) pa_nil))) pa_nil))) (pg_tup rfl (pgs_cons (pg_name (i := 5) sc_points_of.nd rfl (.inl rfl)) (pgs_cons (pg_name (i := 6) sc_points_of.nd rfl (.inl rfl)) pgs_nil)))
      (pss_cons (ps_setLc (i := 7) (own := [("number", 8)]) (by rfl) sc_points_of.nd rfl rfl (sw_true rfl rfl rfl (by decide +kernel)) (pi_tup (pv 5)) (blkOk_by (own := [("number", 8)]) (N := N_points_of) (sc := defScope s_points_of) (by decide +kernel)) (fun _ _ _ _ _ => (pg_name (i := 8) sc_points_of.nd rfl (.inl rfl))) (fun _ _ _ _ _ => pts_nil) (fun _ _ _ _ _ => (pe_ix (show IxR _ (rIxT K) from ix_tup) (pv 3) (pv 8) (fun _ _ => rfl))))
      (pss_one (ps_expr (pe_bm PySem.F.plainAttrs_list PySem.F.slot_list_append PySem.F.type_list_append mt_append (pv 4) (pa_cons (pe_ifExp (pt_val (pv 6)) (pe_callTy call_tupE (by rfl) z_tuple (by decide +kernel) (pa_cons (pe_op op_cat (pv 7) (pe_lst (pa_cons (pe_glob (v := .ref zz) rfl m_ZERO rfl) pa_nil))) pa_nil)) (pe_callTy call_tupE (by rfl) z_tuple (by decide +kernel) (pa_cons (pv 7) pa_nil))) pa_nil))))))
    (pss_one (ps_ret (pv 4)))))), ?_⟩
    have big : sizeLine = 16777216 := by decide
    have k12 := ok.kinds.2.1
    have p12 := pok.few
    refine ⟨_, rfl, _, rfl, _, rfl, a, b, e, ks, ts, cs, Ps, es, sc, rfl, hTab, ok, hB, lc, sgn, hE, le, eok, fun H1 r s1 hr1 => ?_⟩
    have lr : (rowS cs (classesL ts ks.length) es).length = cs.length := by
      unfold rowS
      rw [List.length_zipWith, lc, Nat.min_self]
    generalize rowS cs (classesL ts ks.length) es = row at *
    refine ⟨by show 0 ≤ sizeLine; exact Nat.zero_le _, fun D nD => ?_⟩
    generalize eH2 : L2.upd H1 D _ = H2
    have s2 := same_of nD eH2
    have kD := at_of eH2
    clear eH2
    have s02 := s1.trans s2
    refine ⟨fun σ H' => (∃ y5 y6 y7 : Option V, σ = [some (.ref a), some (.ref b), some (.ref e), some (.ref r), some (.ref D), y5, y6, y7, none]) ∧ Same H1 H' ∧ ∃ ws, H' D = some (.lst ws) ∧ LR (PtV K sc H') ws (ptsS (lotsC ts ks.length) row Ps), ?_, ?_⟩
    · obtain ⟨dx, c, z, xs, hO, hc, hz1, hX1⟩ := id (hB.mono s1)
      have lx := hX1.len
      refine ⟨_, rfl, b, CB, dx, _, .ref z, rfl, s2 _ _ hO, BC.c, BC.np, rfl, ?_⟩
      refine ⟨_, rfl, _, rfl, a, b, ks, ts, cs, Ps, rfl, hTab.mono s02, ok, hB.mono s02, pok.few, fun H3 fx s3 hfx => ?_⟩
      have s13 := s2.trans s3
      have kD3 := s3 _ _ kD
      refine ⟨z, fx, xs, _, rfl, .inr ⟨seqT s13 hz1, hfx, ?_⟩⟩
      refine for_it (walk_zipT (K := K) (a := z) (b := fx) (xs := xs) (ys := (Ps.map (loneB (lotsC ts ks.length))).map V.bl) (n := Ps.length) (by rw [List.length_map, List.length_map]; omega)) (fun i σ H' => (∃ y5 y6 y7 : Option V, σ = [some (.ref a), some (.ref b), some (.ref e), some (.ref r), some (.ref D), y5, y6, y7, none]) ∧ Same H1 H' ∧ SqT K H' fx ((Ps.map (loneB (lotsC ts ks.length))).map V.bl) ∧ ∃ ws, H' D = some (.lst ws) ∧ LR (PtV K sc H') ws ((ptsS (lotsC ts ks.length) row Ps).take i)) ⟨⟨_, _, _, rfl⟩, s13, hfx, [], kD3, trivial⟩ (fun i σ H' _ h => ⟨seqT h.2.1 hz1, h.2.2.1⟩) ?_ ?_
      · rintro i v σ H4 H5 hi ⟨⟨y5, y6, y7, rfl⟩, s4, hfx4, ws, kD4, hw⟩ ⟨T, x, y, rfl, nT, rfl, ex, ey⟩
        have hi2 : i < Ps.length := hi
        have ex : xs[i]? = some x := ex
        obtain ⟨u, R, rfl, eR, hu⟩ := hX1.get ex
        have ey : ((Ps.map (loneB (lotsC ts ks.length))).map V.bl)[i]? = some y := ey
        rw [List.getElem?_map, List.getElem?_map, eR] at ey
        have ey : V.bl (loneB (lotsC ts ks.length) R) = y := Option.some.inj ey
        subst ey
        have mR := List.mem_of_getElem? eR
        have low := pok.low R mR
        have l12 := pok.len R mR
        have epts : (ptsS (lotsC ts ks.length) row Ps)[i]? = some (ptS (lotsC ts ks.length) row R) := by
          unfold ptsS
          rw [List.getElem?_map, eR]
          rfl
        have lw := LR.len hw
        rw [List.length_take] at lw
        generalize eH6 : L2.upd H4 T _ = H6
        have s6 := same_of nT eH6
        have kT := at_of eH6
        clear eH6
        have s36 : Same H1 H6 := s4.trans s6
        obtain ⟨rx, hrx, frx⟩ := hr1.mono s36
        refine ⟨T, _, rfl, .inl (.inl kT), rfl, _, _, rfl, _, _, rfl, rfl, ?_⟩
        refine ⟨_, rfl, u, rfl, ⟨_, seqT s36 hu⟩, fun L nL => ?_⟩
        refine lc_it (walk_tup (K := K) (a := u) (xs := R.map V.int)) (fun q H' => Same H6 H' ∧ ∃ ls, H' L = some (.lst ls) ∧ Frs K H' ls (((R.take q).map fun k => row.getD k.toNat 0).map (US sc))) ⟨same_upd nL, [], upd_same, trivial⟩ (fun q H' _ h => seqT (s36.trans h.1) hu) ?_ ?_
        · rintro q v H7 H8 hq ⟨s7, ls, kL, hl⟩ ⟨rfl, ew⟩
          rw [List.getElem?_map] at ew
          obtain ⟨k, ek, rfl⟩ := Option.map_eq_some_iff.mp ew
          have ⟨k0, k1⟩ := low k (List.mem_of_getElem? ek)
          obtain ⟨kn, rfl⟩ := Int.eq_ofNat_of_zero_le k0
          have er : row[kn]? = some (row.getD kn 0) := by rw [List.getD_eq_getElem?_getD, List.getElem?_eq_getElem (by omega)]; rfl
          obtain ⟨t, et, ht⟩ := frs_get (i := kn) frx (by rw [List.getElem?_map, er]; rfl)
          have ll := hl.len
          rw [List.length_map, List.length_map, List.length_take] at ll
          refine ⟨rfl, _, rfl, _, rfl, r, _, _, _, rfl, rfl, seqT s7 hrx, atI_nat et, ?_⟩
          refine ⟨_, kL, by omega, HD.same_put s7 nL, _, upd_same, ?_⟩
          rw [List.take_add_one, ek, List.map_append, List.map_append]
          exact Frs.upd kL (Frs.snoc (seqT s7 ht) hl)
        · rintro H7 ⟨s7, ls, kL, hl⟩
          rw [List.length_map, List.take_length] at hl
          have ll := hl.len
          rw [List.length_map, List.length_map] at ll
          have kD7 := s7 _ _ (s6 _ _ kD4)
          have hw7 := LR.imp (fun _ _ z => PtV.mono (s6.trans s7) z) hw
          have put : ∀ (H8 : Hp) (t : Addr), Same H7 H8 → ErT K sc H8 t (ptS (lotsC ts ks.length) row R) → Same H1 (L2.upd H8 D (.lst (ws ++ [.ref t]))) ∧ SqT K (L2.upd H8 D (.lst (ws ++ [.ref t]))) fx ((Ps.map (loneB (lotsC ts ks.length))).map V.bl) ∧ ∃ zs, (L2.upd H8 D (.lst (ws ++ [.ref t]))) D = some (.lst zs) ∧ LR (PtV K sc (L2.upd H8 D (.lst (ws ++ [.ref t])))) zs ((ptsS (lotsC ts ks.length) row Ps).take (i + 1)) := fun H8 t s8 ht => by
            have kD8 := s8 _ _ kD7
            refine ⟨HD.same_put (s36.trans (s7.trans s8)) nD, seqT_upd kD8 (seqT (s6.trans (s7.trans s8)) hfx4), _, upd_same, ?_⟩
            rw [List.take_add_one, epts]
            exact LR.imp (fun _ _ z => PtV.upd kD8 z) (LR.snocR (LR.imp (fun _ _ z => PtV.mono s8 z) hw7) ⟨t, rfl, ht⟩)
          refine ⟨_, rfl, .inl ⟨rfl, _, .inl (.inl kD7)⟩, _, rfl, _, rfl, ?_⟩
          cases hb : loneB (lotsC ts ks.length) R with
          | true =>
            have ep : ptS (lotsC ts ks.length) row R = (R.map fun k => row.getD k.toNat 0) ++ [0] := by
              unfold ptS
              rw [hb, if_pos rfl]
            refine iteT ⟨_, rfl, by show 1 ≤ sizeLine; decide, fun z1 nz1 => ?_⟩
            have sz := same_upd (o := .lst [.ref zz]) nz1
            refine ⟨L, z1, _, _, rfl, rfl, sz _ _ kL, upd_same, by show ls.length + 1 ≤ sizeLine; omega, fun z2 nz2 => ?_⟩
            have s2z := same_upd (o := .lst (ls ++ [.ref zz])) nz2
            refine ⟨z2, _, rfl, .inl (.inl (.inl upd_same)), fun H8 t s8 ht => ?_⟩
            have s78 := sz.trans (s2z.trans s8)
            have ⟨p1, p2, p3⟩ := put H8 t s78 ⟨_, ht, by
              rw [ep, List.map_append]
              have h0 := hz H8
              rw [← US_zero eok.pos] at h0
              exact Frs.snoc h0 (hl.mono s78)⟩
            exact ⟨D, _, _, rfl, rfl, s78 _ _ kD7, by omega, ⟨_, _, _, rfl⟩, p1, p2, p3⟩
          | false =>
            have ep : ptS (lotsC ts ks.length) row R = (R.map fun k => row.getD k.toNat 0) := by
              unfold ptS
              rw [hb, if_neg Bool.false_ne_true, List.append_nil]
            refine iteF ⟨_, rfl, L, _, rfl, .inl (.inl (.inl kL)), fun H8 t s8 ht => ?_⟩
            have ⟨p1, p2, p3⟩ := put H8 t s8 ⟨_, ht, by
              rw [ep]
              exact hl.mono s8⟩
            exact ⟨D, _, _, rfl, rfl, s8 _ _ kD7, by omega, ⟨_, _, _, rfl⟩, p1, p2, p3⟩
      · rintro σ H4 ⟨y, s4, _, ws, kD4, hw⟩
        have lp : (ptsS (lotsC ts ks.length) row Ps).length = Ps.length := List.length_map _
        rw [← lp, List.take_length] at hw
        exact ⟨y, s4, ws, kD4, hw⟩
    rintro σ H4 ⟨⟨y5, y6, y7, rfl⟩, s4, ws, kD4, hw⟩
    exact ⟨_, rfl, fin H4 D ws (s1.trans s4) kD4 hw⟩
theorem ok_span_of {f : Addr} {fd : FuncData} (F : Fun K "span_of" "span_of" s_span_of f fd) (C_taken : Cl P w K mg base 2 "taken" (spTaken K)) (C_greatest_of : Cl P w K mg base 2 "greatest_of" (spBest K gtQ)) (C_least_of : Cl P w K mg base 2 "least_of" (spBest K lessQ)) : FnOk P w K mg base CX0 3 f fd ["points"] (spSpan K) := by
  refine F.ok sc_span_of (fun vs H Q E h => ?_) (fun cdv A outer s H vs Q E hr h => ?_)
  · obtain ⟨_, _, _, rfl, _⟩ := h
    rfl
  · obtain ⟨t, w0, sc, rfl, ⟨xs, hx, fx⟩, ne, pos, scf, few, fin⟩ := h
    refine ⟨_, (pss_one (ps_ret (pe_cl C_taken hr (by decide) rfl (pa_cons (pe_cl C_greatest_of hr (by decide) rfl (pa_cons (pv 0) pa_nil)) (pa_cons (pe_cl C_least_of hr (by decide) rfl (pa_cons (pv 0) pa_nil)) pa_nil))))), ?_⟩
    have bt : ∀ p ∈ w0.map (US sc), Bt 3000 p := fun p mp => by
      obtain ⟨x, mx, rfl⟩ := List.mem_map.mp mp
      exact US_bt pos (Nat.lt_of_lt_of_le (few x mx) (Nat.pow_le_pow_right (by decide) (by decide))) (Nat.lt_of_lt_of_le scf (Nat.pow_le_pow_right (by decide) (by decide)))
    have up : ∀ p ∈ w0.map (US sc), 0 < p.2 := fun p mp => by
      obtain ⟨x, mx, rfl⟩ := List.mem_map.mp mp
      exact (US_low pos x).1
    obtain ⟨t1, e1, h1⟩ := best_min pos fx ne
    obtain ⟨t2, e2, h2⟩ := best_max pos fx ne
    refine ⟨_, rfl, t, xs, _, rfl, hx, fx, bt, _, rfl, t, xs, _, rfl, hx, fx, bt, ?_⟩
    rw [e1, e2]
    refine ⟨t2, t1, _, _, rfl, h2, h1, US_low pos _, US_low pos _, bt _ (List.mem_map.mpr ⟨_, (maxI_ok ne).1, rfl⟩), bt _ (List.mem_map.mpr ⟨_, (minI_ok ne).1, rfl⟩), fun H1 u s1 _ ku => ?_⟩
    rw [neg_US pos, add_US pos] at ku
    exact fin H1 u s1 (sqt ku)
theorem ok_are_close {f : Addr} {fd : FuncData} (F : Fun K "are_close" "are_close" s_are_close f fd) (C_span_of : Cl P w K mg base 3 "span_of" (spSpan K)) (C_is_small : Cl P w K mg base 1 "is_small" (spSmall K)) : FnOk P w K mg base CX0 4 f fd ["points"] (spClose K) := by
  refine F.ok sc_are_close (fun vs H Q E h => ?_) (fun cdv A outer s H vs Q E hr h => ?_)
  · obtain ⟨_, _, _, rfl, _⟩ := h
    rfl
  · obtain ⟨t, w0, sc, rfl, hE, ne, pos, scf, few, fin⟩ := h
    refine ⟨_, (pss_one (ps_ret (pe_cl C_is_small hr (by decide) rfl (pa_cons (pe_cl C_span_of hr (by decide) rfl (pa_cons (pv 0) pa_nil)) pa_nil)))), ?_⟩
    refine ⟨_, rfl, t, w0, sc, rfl, hE, ne, pos, scf, few, fun H1 u s1 hu => ?_⟩
    refine ⟨u, _, rfl, hu, ?_⟩
    have e : decide ((if (US sc (maxI w0 - minI w0)).1 < 0 then -(US sc (maxI w0 - minI w0)).1 else (US sc (maxI w0 - minI w0)).1) < (US sc (maxI w0 - minI w0)).2) = decide (maxI w0 - minI w0 < sc) := by
      refine decide_eq_decide.mpr ((US_small pos _).trans ?_)
      have := (maxI_ok ne).2 _ (minI_ok ne).1
      omega
    rw [e]
    exact fin H1 s1
theorem ok_is_inside {f C CB : Addr} {fd : FuncData} (F : Fun K "is_inside" "is_inside" s_is_inside f fd) (C_points_of : Cl P w K mg base 7 "points_of" (spPoints K C CB)) (C_are_close : Cl P w K mg base 4 "are_close" (spClose K)) (z_all : mg "all" = none) : FnOk P w K mg base CX0 8 f fd ["table", "blocks", "errors"] (spInside K C CB) := by
  refine F.ok sc_is_inside (fun vs H Q E h => ?_) (fun cdv A outer s H vs Q E hr h => ?_)
  · obtain ⟨_, _, _, _, _, _, _, _, _, rfl, _⟩ := h
    rfl
  · obtain ⟨a, b, e, ks, ts, cs, Ps, es, sc, rfl, hTab, ok, hB, lc, sgn, pok, hE, le, eok, fin⟩ := h
    refine ⟨_, (pss_one (ps_ret (pe_callB (cr_all rfl) (by rfl) z_all (by decide +kernel) (pa_cons (pe_lc (own := [("points", 3)]) (by rfl) sc_is_inside.nd (pi_list (pe_cl C_points_of hr (by decide) rfl (pa_cons (pv 0) (pa_cons (pv 1) (pa_cons (pv 2) pa_nil))))) (blkOk_by (own := [("points", 3)]) (N := N_is_inside) (sc := defScope s_is_inside) (by decide +kernel)) (fun _ _ _ _ _ => (pg_name (i := 3) sc_is_inside.nd rfl (.inl rfl))) (fun _ _ _ _ _ => pts_nil) (fun _ _ _ _ _ => (pe_cl C_are_close hr (by decide) rfl (pa_cons (pv 3) pa_nil)))) pa_nil)))), ?_⟩
    have big : sizeLine = 16777216 := by decide
    have k12 := ok.kinds.2.1
    have p12 := pok.few
    have rf := row_few eok.few sgn fun c mc => Nat.le_trans ((classes_len ts ks.length).2 c mc) k12
    refine ⟨_, rfl, _, rfl, _, rfl, a, b, e, ks, ts, cs, Ps, es, sc, rfl, hTab, ok, hB, lc, sgn, pok, hE, le, eok, fun H1 D vs s1 kD hv => ?_⟩
    have lp : (ptsS (lotsC ts ks.length) (rowS cs (classesL ts ks.length) es) Ps).length = Ps.length := List.length_map _
    have pne : ∀ w ∈ ptsS (lotsC ts ks.length) (rowS cs (classesL ts ks.length) es) Ps, w ≠ [] ∧ ∀ x ∈ w, x.natAbs < 2 ^ 24 := fun w0 mw => by
      obtain ⟨R, mR, rfl⟩ := List.mem_map.mp mw
      exact ⟨pt_ne (pok.ne R mR), pt_few rf⟩
    generalize ptsS (lotsC ts ks.length) (rowS cs (classesL ts ks.length) es) Ps = pts at *
    have lv := LR.len hv
    refine ⟨D, rfl, ⟨_, .inl (.inl kD)⟩, fun L nL => ?_⟩
    refine lc_it (walk_list (K := K) (a := D) (xs := vs)) (fun i H' => Same H1 H' ∧ H' L = some (.lst (((pts.take i).map fun w => decide (maxI w - minI w < sc)).map V.bl))) ⟨same_upd nL, upd_same⟩ (fun i H' _ h => .inl (.inl (h.1 _ _ kD))) ?_ ?_
    · rintro i v H2 H3 hi ⟨s2, kL⟩ ⟨rfl, ev⟩
      obtain ⟨w0, ew, t, rfl, hE⟩ := LR.get hv ev
      obtain ⟨ne, few⟩ := pne w0 (List.mem_of_getElem? ew)
      have hi2 : i < vs.length := hi
      refine ⟨rfl, _, rfl, t, w0, sc, rfl, hE.mono s2, ne, eok.pos, eok.sc, few, fun H4 s4 => ?_⟩
      refine ⟨_, s4 _ _ kL, by rw [List.length_map, List.length_map, List.length_take]; omega, HD.same_put (s2.trans s4) nL, ?_⟩
      rw [upd_same, List.take_add_one, ew, List.map_append, List.map_append]
      rfl
    · rintro H2 ⟨s2, kL⟩
      rw [lv, List.take_length] at kL
      refine ⟨L, _, rfl, .inl (.inl kL), ?_⟩
      rw [List.all_map]
      exact fin H2 (s1.trans s2)
theorem ok__law_lowest {f : Addr} {fd : FuncData} (F : Fun K "_law_lowest" "_law_lowest" s__law_lowest f fd) (z_int : mg "int" = none) (z_abs : mg "abs" = none) (z_range : mg "range" = none) : FnOk P w K mg base CX0 1 f fd ["top", "bottom"] spLowest := by
  refine F.ok sc__law_lowest (fun vs H Q E h => ?_) (fun cdv A outer s H vs Q E hr h => ?_)
  · obtain ⟨_, _, rfl, _⟩ := h
    rfl
  · obtain ⟨a, b, rfl, b0, sa, sb, fin⟩ := h
    refine ⟨_, (pss_cons (ps_par (i := 2) (j := 3) (by rfl) sc__law_lowest.nd rfl rfl (by decide) rfl rfl (pa_cons (pe_callB call_abs (by rfl) z_abs (by decide +kernel) (pa_cons (pv 0) pa_nil)) (pa_cons (pv 1) pa_nil)) (by rfl))
    (pss_cut (ps_for PassesOwn.never rfl (pi_range1 (by rfl) z_range (pa_cons pe_int pa_nil)) (pg_name (i := 4) sc__law_lowest.nd rfl (.inl rfl))
      (pss_cons (ps_if (pt_cmpR op_eq (pv 3) pe_int (nomark _))
        (pss_one ps_break)
        pss_nil)
      (pss_one (ps_par (i := 2) (j := 3) (by rfl) sc__law_lowest.nd rfl rfl (by decide) rfl rfl (pa_cons (pv 3) (pa_cons (pe_op op_modN (pe_callTy call_int1 (by rfl) z_int (by decide +kernel) (pa_cons (pv 2) pa_nil)) (pv 3)) pa_nil)) (by rfl)))))
    (pss_one (ps_ret (pe_tup (pa_cons (pe_op op_fdivW (pv 0) (pv 2)) (pa_cons (pe_op op_fdivW (pv 1) (pv 2)) pa_nil))))))), ?_⟩
    have ab : (if a < 0 then -a else a) = ((a.natAbs : Nat) : Int) := by split <;> omega
    have bb : b = ((b.natAbs : Nat) : Int) := by omega
    have hP : a.natAbs * b.natAbs < 2 ^ 90 := by
      have := Nat.mul_lt_mul'' sa sb
      exact Nat.lt_of_lt_of_le this (by decide)
    refine ⟨_, rfl, _, rfl, _, rfl, _, _, rfl, ?_⟩
    refine ⟨fun σ H' => H' = H ∧ ∃ y3 y4, σ = [some (.int a), some (.int b), some (.int (M2.g a b : Nat)), y3, y4], ?_, ?_⟩
    · refine ⟨_, rfl, by decide, by decide, ?_⟩
      refine for_it (walk_range (lo := 0) (n := (99 : Int).toNat)) (fun i σ H' => H' = H ∧ ∃ (x y : Nat) (y4 : Option V), σ = [some (.int a), some (.int b), some (.int x), some (.int y), y4] ∧ Nat.gcd x y = M2.g a b ∧ x * y * 2 ^ i ≤ 2 * (a.natAbs * b.natAbs) ∧ ((i = 0 ∧ x * y ≤ a.natAbs * b.natAbs) ∨ y ≤ x)) ⟨rfl, a.natAbs, b.natAbs, none, ?_, rfl, by rw [Nat.pow_zero, Nat.mul_one]; omega, .inl ⟨rfl, Nat.le_refl _⟩⟩ (fun _ _ _ _ _ => trivial) ?_ ?_
      · show [some (V.int a), some (V.int b), some (V.int (if a < 0 then -a else a)), some (V.int b), none] = _
        rw [ab, ← bb]
      · rintro i v σ H1 H2 hi ⟨rfl, x, y, y4, rfl, g, le, or_⟩ ⟨rfl, rfl⟩
        refine ⟨_, rfl, rfl, _, rfl, ite2 (fun z => ?_) (fun z => ?_)⟩
        · have y0 : y = 0 := by
            have := V.int.inj (of_decide_eq_true z)
            omega
          subst y0
          rw [Nat.gcd_zero_right] at g
          exact ⟨rfl, some (V.int ((0 : Nat) : Int)), some (V.int (0 + (i : Int))), by rw [← g]; rfl⟩
        · have y0 : y ≠ 0 := fun e => by subst e; exact z (decide_eq_true rfl)
          refine ⟨_, rfl, _, rfl, .inl ⟨_, rfl, _, rfl, _, _, rfl, rfl, by show ((y : Nat) : Int) ≠ 0; omega, _, _, rfl, rfl, y, x % y, some (V.int (0 + (i : Int))), ?_, ?_, ?_, .inr (Nat.le_of_lt (Nat.mod_lt _ (by omega)))⟩⟩
          · show [some (V.int a), some (V.int b), some (V.int (y : Int)), some (V.int ((x : Int).fmod (y : Int))), some (V.int (0 + (i : Int)))] = _
            rw [fmod_nat x (Nat.pos_of_ne_zero y0)]
          · rw [← g, Nat.gcd_comm y, ← Nat.gcd_rec, Nat.gcd_comm]
          · by_cases o : y ≤ x
            · exact euc_step le o (Nat.pos_of_ne_zero y0)
            · obtain ⟨i0, le9⟩ := or_.resolve_right o
              subst i0
              rw [Nat.mod_eq_of_lt (by omega), Nat.mul_comm y x]
              rw [Nat.pow_zero, Nat.mul_one] at le
              show x * y * 2 ^ (0 + 1) ≤ _
              omega
      · rintro σ H1 ⟨rfl, x, y, y4, rfl, g, le, or_⟩
        have y0 := euc_end99 le (or_.resolve_left (fun q => absurd q.1 (by decide))) hP
        subst y0
        rw [Nat.gcd_zero_right] at g
        exact ⟨rfl, _, _, by rw [← g]⟩
    · rintro σ H1 ⟨rfl, y3, y4, rfl⟩
      have gp := M2.g_pos (a := a) (b := b) (by omega)
      have gl : M2.g a b ≤ b.natAbs := Nat.gcd_le_right _ (by omega)
      have gb : ((M2.g a b : Nat) : Int).natAbs < 2 ^ 45 := by
        rw [Int.natAbs_natCast]
        exact Nat.lt_of_le_of_lt gl sb
      have W1 : ∀ x : Int, CDivW x ((M2.g a b : Nat) : Int) := fun x => wide_div (by omega) gb (by decide) (by decide)
      refine ⟨_, rfl, _, rfl, _, _, rfl, rfl, W1 _, _, rfl, _, rfl, _, _, rfl, rfl, W1 _, by show 2 ≤ sizeLine; decide, fun u nu => ?_⟩
      refine fin _ u (same_upd nu) nu ?_
      unfold US
      rw [upd_same, M2.mk_pos b0]
      rfl
theorem ok__law_fractions {f : Addr} {fd : FuncData} (F : Fun K "_law_fractions" "_law_fractions" s__law_fractions f fd) (C__law_lowest : Cl P w K mg base 1 "_law_lowest" spLowest) (z_tuple : mg "tuple" = none) : FnOk P w K mg base CX0 2 f fd ["values", "scale"] (spLawFrs K) := by
  refine F.ok sc__law_fractions (fun vs H Q E h => ?_) (fun cdv A outer s H vs Q E hr h => ?_)
  · obtain ⟨_, _, _, rfl, _⟩ := h
    rfl
  · obtain ⟨l, ns, sc, rfl, hL, few, pos, scf, nf, fin⟩ := h
    refine ⟨_, (pss_one (ps_ret (pe_callTy call_tupE (by rfl) z_tuple (by decide +kernel) (pa_cons (pe_lc (own := [("value", 2)]) (by rfl) sc__law_fractions.nd (pi_list (pv 0)) (blkOk_by (own := [("value", 2)]) (N := N__law_fractions) (sc := defScope s__law_fractions) (by decide +kernel)) (fun _ _ _ _ _ => (pg_name (i := 2) sc__law_fractions.nd rfl (.inl rfl))) (fun _ _ _ _ _ => pts_nil) (fun _ _ _ _ _ => (pe_cl C__law_lowest hr (by decide) rfl (pa_cons (pv 2) (pa_cons (pv 1) pa_nil))))) pa_nil)))), ?_⟩
    have big : sizeLine = 16777216 := by decide
    refine ⟨_, rfl, l, rfl, ⟨_, hL⟩, fun D nD => ?_⟩
    refine lc_it (walk_list (K := K) (a := l) (xs := ns.map V.int)) (fun i H' => Same H H' ∧ ∃ zs, H' D = some (.lst zs) ∧ Frs K H' zs ((ns.take i).map (US sc))) ⟨same_upd nD, [], upd_same, trivial⟩ (fun i H' _ h => seqLs h.1 hL) ?_ ?_
    · rintro i v H2 H3 hi ⟨s2, zs, kD, hz⟩ ⟨rfl, ev⟩
      rw [List.getElem?_map] at ev
      obtain ⟨x, ex, rfl⟩ := Option.map_eq_some_iff.mp ev
      have lz := hz.len
      rw [List.length_map, List.length_take] at lz
      refine ⟨rfl, _, rfl, _, rfl, x, sc, rfl, pos, nf x (List.mem_of_getElem? ex), scf, fun H4 u s4 _ ku => ?_⟩
      have kD4 := s4 _ _ kD
      refine ⟨_, kD4, by omega, HD.same_put (s2.trans s4) nD, _, upd_same, ?_⟩
      rw [List.take_add_one, ex, List.map_append]
      exact Frs.upd kD4 (Frs.snoc (sqt ku) (hz.mono s4))
    · rintro H2 ⟨s2, zs, kD, hz⟩
      rw [List.length_map, List.take_length] at hz
      refine ⟨D, _, rfl, .inl (.inl (.inl kD)), fun H3 u s3 hu => ?_⟩
      exact fin H3 u (s2.trans s3) ⟨_, hu, hz.mono s3⟩
theorem ok__law_points {f : Addr} {fd : FuncData} (F : Fun K "_law_points" "_law_points" s__law_points f fd) (z_zip : mg "zip" = none) (z_int : mg "int" = none) : FnOk P w K mg base CX0 1 f fd ["case", "row"] (spPts K) := by
  refine F.ok sc__law_points (fun vs H Q E h => ?_) (fun cdv A outer s H vs Q E hr h => ?_)
  · obtain ⟨_, _, _, _, _, _, _, _, _, rfl, _⟩ := h
    rfl
  · obtain ⟨a, r, n, ts, cls, cs, Ps, fx, row, rfl, hC, cok, hR, lr, fin⟩ := h
    refine ⟨_, (pss_one (ps_ret (pe_lc (own := [("piece", 2), ("is_fixed", 3)]) (by rfl) sc__law_points.nd (pi_zipM (by rfl) z_zip (pa_cons (pe_ix ix_tup (pv 0) pe_int (fun _ _ => rfl)) (pa_cons (pe_ix ix_tup (pv 0) pe_int (fun _ _ => rfl)) pa_nil))) (blkOk_by (own := [("piece", 2), ("is_fixed", 3)]) (N := N__law_points) (sc := defScope s__law_points) (by decide +kernel)) (fun _ _ _ _ _ => (show PG _ _ (gTup K 2 _) from pg_tup rfl (pgs_cons (pg_name (i := 2) sc__law_points.nd rfl (.inl rfl)) (pgs_cons (pg_name (i := 3) sc__law_points.nd rfl (.inl rfl)) pgs_nil)))) (fun _ _ _ _ _ => pts_nil) (fun _ _ _ _ _ => (pe_op op_cat (pe_lc (own := [("at", 4)]) (by rfl) sc__law_points.nd (show PI _ _ _ (iTup K _) from pi_tup (pv 2)) (blkOk_by (own := [("at", 4)]) (N := N__law_points) (sc := { kind := .function, names := [((".0" : String), .local), (("piece" : String), .local), (("is_fixed" : String), .local), (("int" : String), .globalImplicit), (("row" : String), .cell)], isGenerator := false, isCoroutine := false }) (by decide +kernel)) (fun _ _ _ _ _ => (pg_name (i := 4) sc__law_points.nd rfl (.inl rfl))) (fun _ _ _ _ _ => pts_nil) (fun _ _ _ _ _ => (pe_ix (show IxR _ (rIxL K) from ix_list) (pv 1) (pv 4) (fun _ _ => rfl)))) (pe_op op_rep (pe_lst (pa_cons pe_int pa_nil)) (pe_callTy call_int1 (by rfl) z_int (by decide +kernel) (pa_cons (pv 3) pa_nil)))))))), ?_⟩
    have big : sizeLine = 16777216 := by decide
    obtain ⟨t, cl, c, p, f, xs, zs, hA, ht, hX, hcl, hc, hp, hZ, hf⟩ := hC
    have lz := hZ.len
    have fl := cok.fl
    have p12 := cok.ps.few
    have lp : (ptsF row Ps fx).length = Ps.length := by
      unfold ptsF
      rw [List.length_zipWith, fl, Nat.min_self]
    refine ⟨_, rfl, a, _, _, .ref p, rfl, rfl, hA, atI_nat (j := 4) rfl, _, rfl, a, _, _, .ref f, rfl, rfl, hA, atI_nat (j := 5) rfl, p, f, zs, _, rfl, hp, hf, fun D nD => ?_⟩
    refine lc_it (walk_zipM (K := K) (a := p) (b := f) (xs := zs) (ys := fx.map V.bl) (by rw [List.length_map]; omega)) (fun i H' => Same H H' ∧ ∃ vs, H' D = some (.lst vs) ∧ LR (IntsN K (fun a => a ≠ D) H') vs ((ptsF row Ps fx).take i)) ⟨same_upd nD, [], upd_same, trivial⟩ (fun i H' _ h => ⟨seqT h.1 hp, seqLs h.1 hf⟩) ?_ ?_
    · rintro i v H2 H3 hi ⟨s2, vs, kD, hv⟩ ⟨T, x, y, rfl, nT, rfl, ex, ey⟩
      have hi2 : i < zs.length := hi
      have ex : zs[i]? = some x := ex
      obtain ⟨u, R, rfl, eR, hu⟩ := hZ.get ex
      have ey : (fx.map V.bl)[i]? = some y := ey
      have ef : fx[i]? = some fx[i] := List.getElem?_eq_getElem (by omega)
      rw [List.getElem?_map, ef] at ey
      have ey : V.bl fx[i] = y := Option.some.inj ey
      subst ey
      generalize fx[i] = b at ef
      have mR := List.mem_of_getElem? eR
      have low := cok.ps.low R mR
      have l12 := cok.ps.len R mR
      have ept : (ptsF row Ps fx)[i]? = some (ptF row R b) := by
        unfold ptsF
        rw [List.getElem?_zipWith, eR, ef]
      have lv := LR.len hv
      rw [List.length_take] at lv
      generalize eH4 : L2.upd H2 T _ = H4
      have s4 := same_of nT eH4
      have kT := at_of eH4
      clear eH4
      have s24 := s2.trans s4
      refine ⟨T, _, rfl, .inl (.inl kT), rfl, _, _, rfl, _, _, rfl, rfl, rfl, ?_⟩
      refine ⟨_, rfl, u, rfl, ⟨_, seqT s24 hu⟩, fun L nL => ?_⟩
      refine lc_it (walk_tup (K := K) (a := u) (xs := R.map V.int)) (fun q H' => Same H4 H' ∧ H' L = some (.lst (((R.take q).map fun k => row.getD k.toNat 0).map V.int))) ⟨same_upd nL, upd_same⟩ (fun q H' _ h => seqT (s24.trans h.1) hu) ?_ ?_
      · rintro q v H5 H6 hq ⟨s5, kL⟩ ⟨rfl, ew⟩
        rw [List.getElem?_map] at ew
        obtain ⟨k, ek, rfl⟩ := Option.map_eq_some_iff.mp ew
        have ⟨k0, k1⟩ := low k (List.mem_of_getElem? ek)
        obtain ⟨kn, rfl⟩ := Int.eq_ofNat_of_zero_le k0
        have ee : row[kn]? = some (row.getD kn 0) := by rw [List.getD_eq_getElem?_getD, List.getElem?_eq_getElem (by omega)]; rfl
        refine ⟨rfl, _, rfl, _, rfl, r, _, _, _, rfl, rfl, seqLs (s24.trans s5) hR, atI_nat (by rw [List.getElem?_map, ee]; rfl), ?_⟩
        refine ⟨_, kL, by rw [List.length_map, List.length_map, List.length_take]; omega, HD.same_put s5 nL, ?_⟩
        rw [upd_same, List.take_add_one, ek, List.map_append, List.map_append]
        rfl
      · rintro H5 ⟨s5, kL⟩
        rw [List.length_map, List.take_length] at kL
        refine ⟨by show 1 ≤ sizeLine; decide, fun z nz => ?_⟩
        have sz := same_upd (o := .lst [.int 0]) nz
        refine ⟨_, rfl, .inr ⟨_, rfl, ?_⟩⟩
        have done : ∀ (m : Nat), m ≤ 1 → (if b = true then (1 : Int) else 0) = (m : Int) → ptF row R b = (R.map fun k => row.getD k.toNat 0) ++ List.replicate m 0 → rRep (.ref z) (.int (if b = true then 1 else 0)) (L2.upd H5 z (.lst [.int 0])) (fun y H2 => rCat (.ref L) y H2 fun y H4 => ∃ acc, H4 D = some (.lst acc) ∧ acc.length < sizeLine ∧ (Same H (L2.upd H4 D (.lst (acc ++ [y]))) ∧ ∃ vs, (L2.upd H4 D (.lst (acc ++ [y]))) D = some (.lst vs) ∧ LR (IntsN K (fun a => a ≠ D) (L2.upd H4 D (.lst (acc ++ [y])))) vs ((ptsF row Ps fx).take (i + 1)))) := fun m m1 em ep => by
          rw [em]
          refine ⟨z, _, _, rfl, rfl, upd_same, by omega, by omega, by show 1 * _ ≤ _; omega, fun z2 nz2 => ?_⟩
          have s2z := same_upd (o := .lst (List.replicate ((m : Nat) : Int).toNat [V.int 0]).flatten) nz2
          refine ⟨L, z2, _, _, rfl, rfl, s2z _ _ (sz _ _ kL), upd_same, ?_, fun z3 nz3 => ?_⟩
          · rw [List.length_map, List.length_map, Int.toNat_natCast, List.length_flatten]
            have : m = 0 ∨ m = 1 := by omega
            rcases this with e | e <;> (subst e; show R.length + _ ≤ sizeLine; simp; omega)
          have s3z := same_upd (o := .lst (((R.map fun k => row.getD k.toNat 0).map V.int) ++ (List.replicate ((m : Nat) : Int).toNat [V.int 0]).flatten)) nz3
          have s5z := sz.trans (s2z.trans s3z)
          have kD' := s5z _ _ (s5 _ _ (s4 _ _ kD))
          have nzD : z3 ≠ D := fun ee => by rw [ee, s2z _ _ (sz _ _ (s5 _ _ (s4 _ _ kD)))] at nz3; cases nz3
          refine ⟨_, kD', by omega, HD.same_put (s24.trans (s5.trans s5z)) nD, _, upd_same, ?_⟩
          rw [List.take_add_one, ept]
          refine LR.imp (fun _ _ q => IntsN.upd (fun _ n => n) q) (LR.snocR (LR.imp (fun _ _ q => IntsN.mono (s4.trans (s5.trans s5z)) q) hv) ⟨z3, rfl, nzD, .inl (.inl ?_)⟩)
          rw [upd_same, ep, List.map_append]
          have : m = 0 ∨ m = 1 := by omega
          rcases this with e | e <;> (subst e; rfl)
        cases b with
        | true => exact done 1 (Nat.le_refl _) rfl rfl
        | false => exact done 0 (Nat.zero_le _) rfl rfl
    · rintro H2 ⟨s2, vs, kD, hv⟩
      rw [lz, ← lp, List.take_length] at hv
      exact fin H2 D s2 ⟨vs, kD, LR.imp (fun _ _ q => IntsN.L q) hv⟩
theorem ok__law_inside {f : Addr} {fd : FuncData} (F : Fun K "_law_inside" "_law_inside" s__law_inside f fd) (C__law_points : Cl P w K mg base 1 "_law_points" (spPts K)) (z_all : mg "all" = none) (z_max : mg "max" = none) (z_min : mg "min" = none) : FnOk P w K mg base CX0 2 f fd ["case", "row", "scale"] (spIns K) := by
  refine F.ok sc__law_inside (fun vs H Q E h => ?_) (fun cdv A outer s H vs Q E hr h => ?_)
  · obtain ⟨_, _, _, _, _, _, _, _, _, _, rfl, _⟩ := h
    rfl
  · obtain ⟨a, r, sc, n, ts, cls, cs, Ps, fx, row, rfl, hC, cok, hR, lr, fin⟩ := h
    refine ⟨_, (pss_one (ps_ret (pe_callB (cr_all rfl) (by rfl) z_all (by decide +kernel) (pa_cons (pe_lc (own := [("points", 3)]) (by rfl) sc__law_inside.nd (pi_list (pe_cl C__law_points hr (by decide) rfl (pa_cons (pv 0) (pa_cons (pv 1) pa_nil)))) (blkOk_by (own := [("points", 3)]) (N := N__law_inside) (sc := defScope s__law_inside) (by decide +kernel)) (fun _ _ _ _ _ => (pg_name (i := 3) sc__law_inside.nd rfl (.inl rfl))) (fun _ _ _ _ _ => pts_nil) (fun _ _ _ _ _ => (pe_cmpR op_lt (pe_op op_sub (pe_callB (show CallR _ (.builtin "max") (rMax K) from cr_max rfl) (by rfl) z_max (by decide +kernel) (pa_cons (pv 3) pa_nil)) (pe_callB (show CallR _ (.builtin "min") (rMin K) from cr_min rfl) (by rfl) z_min (by decide +kernel) (pa_cons (pv 3) pa_nil))) (pv 2) (nomark _)))) pa_nil)))), ?_⟩
    have big : sizeLine = 16777216 := by decide
    refine ⟨_, rfl, _, rfl, a, r, n, ts, cls, cs, Ps, fx, row, rfl, hC, cok, hR, lr, fun H1 D s1 ⟨vs, kD, hv⟩ => ?_⟩
    have lp : (ptsF row Ps fx).length = Ps.length := by
      unfold ptsF
      rw [List.length_zipWith, cok.fl, Nat.min_self]
    have p12 := cok.ps.few
    have pne : ∀ w ∈ ptsF row Ps fx, w ≠ [] := fun w0 mw => by
      obtain ⟨i, ei⟩ := List.mem_iff_getElem?.mp mw
      unfold ptsF at ei
      rw [List.getElem?_zipWith] at ei
      cases e1 : Ps[i]? with
      | none => rw [e1] at ei; cases ei
      | some R =>
        cases e2 : fx[i]? with
        | none => rw [e1, e2] at ei; cases ei
        | some b =>
          rw [e1, e2] at ei
          have ei : ptF row R b = w0 := Option.some.inj ei
          have ne := cok.ps.ne R (List.mem_of_getElem? e1)
          rw [← ei]
          cases R with
          | nil => exact absurd rfl ne
          | cons x R =>
            intro z
            unfold ptF at z
            rw [List.map_cons, List.cons_append] at z
            cases z
    generalize ptsF row Ps fx = pts at *
    have lv := LR.len hv
    refine ⟨D, rfl, ⟨_, .inl (.inl kD)⟩, fun L nL => ?_⟩
    refine lc_it (walk_list (K := K) (a := D) (xs := vs)) (fun i H' => Same H1 H' ∧ H' L = some (.lst (((pts.take i).map fun w => decide (maxI w - minI w < sc)).map V.bl))) ⟨same_upd nL, upd_same⟩ (fun i H' _ h => .inl (.inl (h.1 _ _ kD))) ?_ ?_
    · rintro i v H2 H3 hi ⟨s2, kL⟩ ⟨rfl, ev⟩
      obtain ⟨w0, ew, t, rfl, kt⟩ := LR.get hv ev
      have ne := pne w0 (List.mem_of_getElem? ew)
      have hi2 : i < vs.length := hi
      have l0 : 0 < w0.length := List.length_pos_iff.mpr ne
      refine ⟨rfl, _, rfl, t, w0, rfl, seqLs s2 kt, l0, fun m1 mm1 h1 => ?_⟩
      refine ⟨_, rfl, t, w0, rfl, seqLs s2 kt, l0, fun m2 mm2 h2 => ?_⟩
      rw [maxI_uniq mm1 h1, minI_uniq mm2 h2]
      refine ⟨_, _, rfl, rfl, _, rfl, _, _, rfl, rfl, ?_⟩
      refine ⟨_, kL, by rw [List.length_map, List.length_map, List.length_take]; omega, HD.same_put s2 nL, ?_⟩
      rw [upd_same, List.take_add_one, ew, List.map_append, List.map_append]
      rfl
    · rintro H2 ⟨s2, kL⟩
      rw [lv, List.take_length] at kL
      refine ⟨L, _, rfl, .inl (.inl kL), ?_⟩
      rw [List.all_map]
      exact fin H2 (s1.trans s2)
theorem ok__law_classes {f : Addr} {fd : FuncData} (F : Fun K "_law_classes" "_law_classes" s__law_classes f fd) (z_range : mg "range" = none) (z_len : mg "len" = none) : FnOk P w K mg base CX0 1 f fd ["many", "totals"] (spLawCls24 K) := by
  refine F.ok sc__law_classes (fun vs H Q E h => ?_) (fun cdv A outer s H vs Q E hr h => ?_)
  · obtain ⟨_, _, _, _, rfl, _⟩ := h
    rfl
  · obtain ⟨l, m, xs, ts, rfl, hX, hT, t12, m12, fin⟩ := h
    refine ⟨_, (pss_cons (ps_par (i := 2) (j := 3) (by rfl) sc__law_classes.nd rfl rfl (by decide) rfl rfl (pa_cons (pe_lst pa_nil) (pa_cons (pe_lst pa_nil) pa_nil)) (by rfl))
    (pss_cut (ps_for PassesOwn.never rfl (pi_range1 (by rfl) z_range (pa_cons (pv 0) pa_nil)) (pg_name (i := 4) sc__law_classes.nd rfl (.inr rfl))
      (pss_cons (ps_setLc (i := 5) (own := [("at", 7)]) (by rfl) sc__law_classes.nd rfl rfl (sw_true rfl rfl rfl (by decide +kernel)) (pi_range1 (by rfl) z_range (pa_cons (pe_callB call_len_seq (by rfl) z_len (by decide +kernel) (pa_cons (pv 1) pa_nil)) pa_nil)) (blkOk_by (own := [("at", 7)]) (N := N__law_classes) (sc := defScope s__law_classes) (by decide +kernel)) (fun _ _ _ _ _ => (pg_name (i := 7) sc__law_classes.nd rfl (.inl rfl))) (fun _ _ _ _ _ => (pts_one (pt_cmpR (show OpR _ (compareOp .In) (rIn K false) from op_in_seq) (pv 4) (pe_ix (show IxR _ (rIxL K) from ix_list) (pv 1) (pv 7) (fun _ _ => rfl)) rfl))) (fun _ _ _ _ _ => (pv 7)))
      (pss_one (ps_if (pt_cmpR (op_inD (units65 hr)) (pv 5) (pv 2) rfl)
        (pss_cons (ps_set (i := 6) sc__law_classes.nd rfl (.inl rfl) (pe_bm PySem.F.plainAttrs_list PySem.F.slot_list_index PySem.F.type_list_index (mt_indexD (units65 hr)) (pv 2) (pa_cons (pv 5) pa_nil)))
        (pss_one (ps_asg (pe_op op_cat (pe_ix ix_list (pv 3) (pv 6) (fun _ _ => rfl)) (pe_lst (pa_cons (pv 4) pa_nil))) (pg_sub (pv 3) (pv 6) set_list))))
        (pss_one (ps_if (pt_cmpR (op_neD hr.units) (pv 5) (pe_lst pa_nil) (nomark _))
          (pss_cons (ps_expr (pe_bm PySem.F.plainAttrs_list PySem.F.slot_list_append PySem.F.type_list_append mt_append (pv 2) (pa_cons (pv 5) pa_nil)))
          (pss_one (ps_expr (pe_bm PySem.F.plainAttrs_list PySem.F.slot_list_append PySem.F.type_list_append mt_append (pv 3) (pa_cons (pe_lst (pa_cons (pv 4) pa_nil)) pa_nil)))))
          pss_nil))))))
    (pss_one (ps_ret (pv 3))))), ?_⟩
    have big : sizeLine = 16777216 := by decide
    have lx := hT.len
    refine ⟨by show 0 ≤ sizeLine; exact Nat.zero_le _, fun R nR => ?_⟩
    generalize eH1 : L2.upd H R _ = H1
    have s1 := same_of nR eH1
    have kR := at_of eH1
    clear eH1
    refine ⟨by show 0 ≤ sizeLine; exact Nat.zero_le _, fun Fd nF => ?_⟩
    generalize eH2 : L2.upd H1 Fd _ = H2
    have s2 := same_of nF eH2
    have kF := at_of eH2
    clear eH2
    have s02 := s1.trans s2
    have kR2 := s2 _ _ kR
    have nFR : Fd ≠ R := fun e => by rw [e, kR] at nF; cases nF
    have nF0 : H Fd = none := none_back s1 nF
    refine ⟨_, _, rfl, ?_⟩
    refine ⟨fun σ H' => (∃ y4 y5 y6 : Option V, σ = [some (.int m), some (.ref l), some (.ref R), some (.ref Fd), y4, y5, y6, none]) ∧ Same H H' ∧ ∃ fs, H' Fd = some (.lst fs) ∧ LR (IntsX (fun a => a ≠ R ∧ a ≠ Fd ∧ H a = none) H') fs (classesL ts m), ?_, ?_⟩
    · refine ⟨_, rfl, _, rfl, by omega, by omega, ?_⟩
      refine for_it (walk_range (lo := 0) (n := ((m : Nat) : Int).toNat)) (fun i σ H' => (∃ y4 y5 y6 : Option V, σ = [some (.int m), some (.ref l), some (.ref R), some (.ref Fd), y4, y5, y6, none]) ∧ Same H H' ∧ ∃ rs fs, H' R = some (.lst rs) ∧ LR (IntsX (fun a => a ≠ R ∧ a ≠ Fd ∧ H a = none) H') rs (sgL (fT ts) i) ∧ H' Fd = some (.lst fs) ∧ LR (IntsX (fun a => a ≠ R ∧ a ≠ Fd ∧ H a = none) H') fs (pk (fT ts) i (sgL (fT ts) i))) ⟨⟨_, _, _, rfl⟩, s02, [], [], kR2, trivial, kF, trivial⟩ (fun _ _ _ _ _ => trivial) ?_ ?_
      · rintro i x σ H3 H4 hi ⟨⟨y4, y5, y6, rfl⟩, s3, rs, fs, kR3, hrs, kF3, hfs⟩ ⟨rfl, rfl⟩
        have hi2 : i < m := by have : i < ((m : Nat) : Int).toNat := hi; omega
        have zi : (0 : Int) + (i : Nat) = ((i : Nat) : Int) := Int.zero_add _
        show gName 4 (V.int ((0 : Int) + ((i : Nat) : Int))) _ _ _
        rw [zi]
        have hX3 := seqLs s3 hX
        have hT3 := hT.mono s3
        refine ⟨_, rfl, l, xs, rfl, .inl hX3, _, rfl, by omega, by omega, fun L nL => ?_⟩
        rw [lx]
        have neL : L ≠ R ∧ L ≠ Fd ∧ H L = none := ⟨(fun e => by rw [e, kR3] at nL; cases nL), (fun e => by rw [e, kF3] at nL; cases nL), none_back s3 nL⟩
        refine lc_it (walk_range (lo := 0) (n := ((ts.length : Nat) : Int).toNat)) (fun j H' => Same H4 H' ∧ H' L = some (.lst ((pick (fun j => (ts.getD j []).contains (i : Int)) j).map V.int))) ⟨same_upd nL, upd_same⟩ (fun _ _ _ _ => trivial) ?_ ?_
        · rintro j v H5 H6 hj ⟨s5, kL⟩ ⟨e, rfl⟩
          subst e
          have hj2 : j < ts.length := by have : j < ((ts.length : Nat) : Int).toNat := hj; omega
          have ej : (0 : Int) + (j : Nat) = (j : Nat) := Int.zero_add _
          have ey : xs[j]? = some xs[j] := List.getElem?_eq_getElem (by omega)
          obtain ⟨tl, c, e1, ec, htl⟩ := hT3.get ey
          have eat : atI xs ((0 : Int) + (j : Nat)) = some (.ref tl) := by
            rw [ej]
            exact atI_nat (by rw [ey, e1])
          have eg : ts.getD j [] = c := by rw [List.getD_eq_getElem?_getD, ec]; rfl
          refine ⟨rfl, _, rfl, _, rfl, _, rfl, l, _, _, _, rfl, rfl, seqLs s5 hX3, eat, tl, c.map V.int, rfl, .inr (seqT s5 htl), rfl, flat_ints c, _, rfl, ?_⟩
          rw [inV_ints]
          have pl := pick_len (fun j => (ts.getD j []).contains (i : Int)) j
          cases hc : c.contains (i : Int) with
          | true =>
            refine iteT ⟨_, rfl, _, kL, by rw [List.length_map]; omega, HD.same_put s5 nL, ?_⟩
            rw [upd_same, pick_yes (by rw [eg]; exact hc), List.map_append]
            show some (HO.lst (_ ++ [V.int (0 + (j : Int))])) = _
            rw [ej]
            rfl
          | false =>
            refine iteF ⟨s5, ?_⟩
            rw [pick_no (by rw [eg]; exact hc)]
            exact kL
        rintro H5 ⟨s5, kL⟩
        rw [Int.toNat_natCast] at kL
        have kL : H5 L = some (.lst ((fT ts i).map V.int)) := kL
        have kR5 := s5 _ _ kR3
        have kF5 := s5 _ _ kF3
        have hrs5 := LR.imp (fun _ _ z => IntsX.mono s5 z) hrs
        have hfs5 := LR.imp (fun _ _ z => IntsX.mono s5 z) hfs
        have s05 := s3.trans s5
        have lrs := LR.len hrs
        have lfs := LR.len hfs
        have lpk : (pk (fT ts) i (sgL (fT ts) i)).length = (sgL (fT ts) i).length := List.length_map _
        have lsg : (sgL (fT ts) i).length ≤ i := Nat.le_trans (List.length_filter_le _ _) (keys_len _ _)
        have sgs := sg_succ (fT ts) i
        have snd := sg_nodup (fT ts) i
        clear kR3 kF3 hrs hfs s3 s5 nL hX3 hT3
        show gName 5 (V.ref L) _ _ _
        refine ⟨_, rfl, _, rfl, _, dL (sgL (fT ts) i), HD.dp_ints (K := K) (.inl (.inl kL)), .lst (.inl (.inl kR5)) (lrx_dp hrs5), shaped_ints _, shaped_dL _, _, rfl, ?_⟩
        rw [any_dL]
        by_cases c1 : fT ts i ∈ sgL (fT ts) i
        · rw [decide_eq_true c1]
          obtain ⟨j, ej⟩ := List.mem_iff_getElem?.mp c1
          have ed : (dL (sgL (fT ts) i))[j]? = some (.list ((fT ts i).map PyData.int)) := by unfold dL; rw [List.getElem?_map, ej]; rfl
          have jl := (List.getElem?_eq_some_iff.mp ej).1
          refine iteT ⟨_, rfl, .inl ⟨rfl, _, .inl (.inl kR5)⟩, _, rfl, R, _, .list ((fT ts i).map PyData.int), dL (sgL (fT ts) i), j, _, rfl, rfl, .lst (.inl (.inl kR5)) (lrx_dp hrs5), HD.dp_ints (K := K) (.inl (.inl kL)), shaped_dL _, shaped_ints _, ed, by rw [eqv_ints]; exact decide_eq_true rfl, fun m' z' hm hz => ?_, ?_⟩
          · unfold dL at hz
            rw [List.getElem?_map] at hz
            obtain ⟨d, hd, rfl⟩ := Option.map_eq_some_iff.mp hz
            rw [eqv_ints]
            refine decide_eq_false fun z => ?_
            subst z
            have := nodup_at snd hd ej
            omega
          · have jp : j < (pk (fT ts) i (sgL (fT ts) i)).length := by omega
            have epk := List.getElem?_eq_getElem jp
            have new := pk_new snd ej jp
            have ef : fs[j]? = some fs[j] := List.getElem?_eq_getElem (by omega)
            obtain ⟨b, eb, t, et, nt, kt⟩ := LR.get hfs5 ef
            rw [epk] at eb
            have eb : (pk (fT ts) i (sgL (fT ts) i))[j] = b := Option.some.inj eb
            rw [eb] at new
            rw [et] at ef
            have bl : b.length ≤ i := by
              rw [← eb]
              have mb := List.getElem_mem jp
              unfold pk at mb ⊢
              obtain ⟨d, _, e⟩ := List.mem_map.mp mb
              rw [← e]
              exact pick_len _ _
            refine ⟨_, rfl, _, rfl, Fd, fs, _, _, rfl, rfl, .inl (.inl kF5), atI_nat ef, _, rfl, by show 1 ≤ sizeLine; decide, fun z nz => ?_⟩
            have sz := same_upd (o := .lst [.int (i : Int)]) nz
            refine ⟨t, z, _, _, rfl, rfl, sz _ _ kt, upd_same, by rw [List.length_map]; show b.length + 1 ≤ sizeLine; omega, fun z2 nz2 => ?_⟩
            have s2z := same_upd (o := .lst (b.map V.int ++ [.int (i : Int)])) nz2
            have s52 := sz.trans s2z
            have nz2F : z2 ≠ R ∧ z2 ≠ Fd ∧ H z2 = none := ⟨(fun e => by rw [e, sz _ _ kR5] at nz2; cases nz2), (fun e => by rw [e, sz _ _ kF5] at nz2; cases nz2), none_back (s05.trans sz) nz2⟩
            refine ⟨_, rfl, _, rfl, Fd, fs, _, j, rfl, rfl, s52 _ _ kF5, ixN_nat (by omega), ⟨_, _, _, rfl⟩, ?_⟩
            rw [sgs, if_pos (.inr c1), ← new]
            have kF8 := s52 _ _ kF5
            refine ⟨HD.same_put (s05.trans s52) nF0, rs, _, ?_, LR.imp (fun _ _ z => IntsX.upd (fun _ n => n.2.1) z) (LR.imp (fun _ _ z => IntsX.mono s52 z) hrs5), upd_same, ?_⟩
            · rw [upd_ne nFR.symm]
              exact s52 _ _ kR5
            · refine LR.imp (fun _ _ z => IntsX.upd (fun _ n => n.2.1) z) (LR.set (LR.imp (fun _ _ z => IntsX.mono s52 z) hfs5) ⟨z2, rfl, nz2F, ?_⟩)
              rw [upd_same, List.map_append]
              rfl
        · rw [decide_eq_false c1]
          refine iteF ⟨_, rfl, by show 0 ≤ sizeLine; exact Nat.zero_le _, fun Z nZ => ?_⟩
          generalize eH6 : L2.upd H5 Z _ = H6
          have s6 := same_of nZ eH6
          have kZ := at_of eH6
          clear eH6
          have kL6 := s6 _ _ kL
          have kR6 := s6 _ _ kR5
          have kF6 := s6 _ _ kF5
          have hrs6 := LR.imp (fun _ _ z => IntsX.mono s6 z) hrs5
          have hfs6 := LR.imp (fun _ _ z => IntsX.mono s6 z) hfs5
          have s06 := s05.trans s6
          refine ⟨_, _, HD.dp_ints (K := K) (.inl (.inl kL6)), HD.dp_ints (K := K) (cs := []) (.inl (.inl kZ)), shaped_ints _, shaped_nil, _, rfl, ?_⟩
          rw [show PyData.eqv (.list ((fT ts i).map PyData.int)) (.list (([] : List Int).map PyData.int)) = decide (fT ts i = []) from eqv_nil _]
          have old := pk_old (f := fT ts) (i := i) (sg := sgL (fT ts) i) c1
          by_cases c0 : fT ts i = []
          · rw [decide_eq_true c0]
            refine iteF ⟨⟨_, _, _, rfl⟩, s06, rs, fs, kR6, ?_, kF6, ?_⟩
            · rw [sgs, if_pos (.inl c0)]
              exact hrs6
            · rw [sgs, if_pos (.inl c0), old]
              exact hfs6
          · rw [decide_eq_false c0]
            have e2 : sgL (fT ts) (i + 1) = sgL (fT ts) i ++ [fT ts i] := by rw [sgs, if_neg (fun z => z.elim c0 c1)]
            have epk : pk (fT ts) (i + 1) (sgL (fT ts) (i + 1)) = pk (fT ts) i (sgL (fT ts) i) ++ [[(i : Int)]] := by
              rw [e2]
              unfold pk at old ⊢
              rw [List.map_append, old]
              congr 1
              show [pick (memb (fT ts) (fT ts i)) (i + 1)] = _
              rw [pick_yes (decide_eq_true rfl), pk_fresh c1 c0]
              rfl
            have nR0 : H R = none := nR
            refine iteT ⟨_, rfl, .inl ⟨rfl, _, .inl (.inl kR6)⟩, _, rfl, R, _, _, rfl, rfl, kR6, by omega, ?_⟩
            refine ⟨_, rfl, .inl ⟨rfl, _, .inl (.inl (by rw [upd_ne nFR]; exact kF6))⟩, _, rfl, by show 1 ≤ sizeLine; decide, fun z nz => ?_⟩
            generalize eH7 : L2.upd H6 R _ = H7 at nz
            have kR7 : H7 R = some (.lst (rs ++ [.ref L])) := by rw [← eH7, upd_same]
            have kF7 : H7 Fd = some (.lst fs) := by rw [← eH7, upd_ne nFR]; exact kF6
            have kL7 : H7 L = some (.lst ((fT ts i).map V.int)) := by rw [← eH7, upd_ne neL.1]; exact kL6
            have s07 : Same H H7 := by rw [← eH7]; exact HD.same_put s06 nR0
            have hrs7 : LR (IntsX (fun a => a ≠ R ∧ a ≠ Fd ∧ H a = none) H7) rs (sgL (fT ts) i) := by rw [← eH7]; exact LR.imp (fun _ _ z => IntsX.upd (fun _ n => n.1) z) hrs6
            have hfs7 : LR (IntsX (fun a => a ≠ R ∧ a ≠ Fd ∧ H a = none) H7) fs (pk (fT ts) i (sgL (fT ts) i)) := by rw [← eH7]; exact LR.imp (fun _ _ z => IntsX.upd (fun _ n => n.1) z) hfs6
            clear eH7 hrs6 hfs6 hrs5 hfs5 kR6 kF6 kL6 kR5 kF5
            have nzR : z ≠ R ∧ z ≠ Fd ∧ H z = none := ⟨(fun e => by rw [e, kR7] at nz; cases nz), (fun e => by rw [e, kF7] at nz; cases nz), none_back s07 nz⟩
            have sz := same_upd (o := .lst [.int (i : Int)]) nz
            have kF8 := sz _ _ kF7
            refine ⟨Fd, _, _, rfl, rfl, kF8, by omega, ⟨_, _, _, rfl⟩, HD.same_put (s07.trans sz) nF0, rs ++ [.ref L], fs ++ [.ref z], ?_, ?_, upd_same, ?_⟩
            · rw [upd_ne nFR.symm]
              exact sz _ _ kR7
            · rw [e2]
              exact LR.imp (fun _ _ z => IntsX.upd (fun _ n => n.2.1) z) (LR.snocR (LR.imp (fun _ _ z => IntsX.mono sz z) hrs7) ⟨L, rfl, neL, sz _ _ kL7⟩)
            · rw [epk]
              exact LR.imp (fun _ _ z => IntsX.upd (fun _ n => n.2.1) z) (LR.snocR (LR.imp (fun _ _ z => IntsX.mono sz z) hfs7) ⟨z, rfl, nzR, upd_same⟩)
      · rintro σ H3 ⟨y, s3, rs, fs, kR3, hrs, kF3, hfs⟩
        rw [Int.toNat_natCast] at hfs
        exact ⟨y, s3, fs, kF3, hfs⟩
    · rintro σ H3 ⟨⟨y4, y5, y6, rfl⟩, s3, fs, kF3, hfs⟩
      exact ⟨_, rfl, fin H3 Fd fs s3 nF0 kF3 (LR.imp (fun _ _ z => IntsX.weak (fun _ n => n.2.2) z) hfs)⟩
theorem ok__law_names {f : Addr} {fd : FuncData} (F : Fun K "_law_names" "_law_names" s__law_names f fd) (C__law_draw : Cl P w K mg base 1 "_law_draw" spDraw) (C__law_pick : Cl P w K mg base 2 "_law_pick" (spPick K)) (z_int : mg "int" = none) (z_range : mg "range" = none) (z_tuple : mg "tuple" = none) (z_sorted : mg "sorted" = none) : FnOk P w K mg base CX0 3 f fd ["heap", "many"] (spLawNames K) := by
  refine F.ok sc__law_names (fun vs H Q E h => ?_) (fun cdv A outer s H vs Q E hr h => ?_)
  · obtain ⟨_, _, _, rfl, _⟩ := h
    rfl
  · obtain ⟨p, q, m, rfl, hd, m1, m12, fin⟩ := h
    refine ⟨_, (pss_cons (ps_asg (pe_tup (pa_cons pe_str (pa_cons (pe_cl C__law_pick hr (by decide) rfl (pa_cons (pv 0) (pa_cons (pe_lst (pa_cons pe_str (pa_cons pe_str (pa_cons pe_str (pa_cons pe_str (pa_cons pe_str pa_nil)))))) pa_nil))) pa_nil))) (pg_tup rfl (pgs_cons (pg_name (i := 2) sc__law_names.nd rfl (.inr rfl)) (pgs_cons (pg_name (i := 3) sc__law_names.nd rfl (.inr rfl)) pgs_nil))))
    (pss_cons (ps_set (i := 4) sc__law_names.nd rfl (.inr rfl) (pe_cl C__law_draw hr (by decide) rfl (pa_cons (pv 0) (pa_cons pe_int pa_nil))))
    (pss_one (ps_ret (pe_callTy call_tuple_of (by rfl) z_tuple (by decide +kernel) (pa_cons (pe_callB cr_sortedS (by rfl) z_sorted (by decide +kernel) (pa_cons (pe_lc (own := [("at", 5)]) (by rfl) sc__law_names.nd (pi_range1 (by rfl) z_range (pa_cons (pv 1) pa_nil)) (blkOk_by (own := [("at", 5)]) (N := N__law_names) (sc := defScope s__law_names) (by decide +kernel)) (fun _ _ _ _ _ => (pg_name (i := 5) sc__law_names.nd rfl (.inl rfl))) (fun _ _ _ _ _ => pts_nil) (fun _ _ _ _ _ => (pe_op op_add_str (pv 3) (pe_item_str (pv 2) (pe_op op_modN (pe_callTy call_int1 (by rfl) z_int (by decide +kernel) (pa_cons (pe_op op_add (pv 4) (pe_op op_mulW pe_int (pv 5))) pa_nil)) pe_int) (fun _ _ => rfl))))) pa_nil)) pa_nil)))))), ?_⟩
    have big : sizeLine = 16777216 := by decide
    have on0 := On.start hd
    refine ⟨_, rfl, by show 5 ≤ sizeLine; decide, fun L nL => ?_⟩
    have fL := on0.free nL
    have on1 := on0.new (o := .lst [.str ("" : String), .str ("" : String), .str ("b" : String), .str ("zz" : String), .str ("mnopq" : String)]) nL
    refine ⟨p, q, L, _, rfl, on1.hd, upd_same, fL.1, fL.2.1, by simp, by show 5 < 1000000; decide, fun H2 v hd2 kp2 hv => ?_⟩
    have on2 := on1.draw hd2 kp2
    obtain ⟨fr, hfr, rfl⟩ : ∃ fr ∈ fronts24, v = V.str fr := by
      have e : ([.str ("" : String), .str ("" : String), .str ("b" : String), .str ("zz" : String), .str ("mnopq" : String)] : List V) = fronts24.map V.str := rfl
      rw [e] at hv
      obtain ⟨z, hz, e⟩ := List.mem_map.mp hv
      exact ⟨z, hz, e.symm⟩
    generalize frz p q H = G at *
    have fl5 := front24_len hfr
    clear on0 on1 kp2 hd2 hv nL fL
    refine ⟨by show 2 ≤ sizeLine; decide, fun T nT => ?_⟩
    generalize eH3 : L2.upd H2 T _ = H3
    have s3 := same_of nT eH3
    have kT := at_of eH3
    clear eH3
    refine ⟨T, _, rfl, .inl (.inl kT), rfl, _, _, rfl, _, _, rfl, rfl, ?_⟩
    have on3 := on2.same s3
    refine ⟨_, rfl, p, q, _, rfl, on3.hd, by decide, by decide, fun H4 r hd4 kp4 r0 r1 => ?_⟩
    have on4 := on3.draw hd4 kp4
    obtain ⟨a, rfl⟩ := Int.eq_ofNat_of_zero_le r0
    have ha : a < 26 := by omega
    clear on2 on3 hd4 kp4 s3 kT nT
    refine ⟨_, rfl, _, rfl, by omega, by omega, fun D nD => ?_⟩
    have fD := on4.free nD
    refine lc_it (walk_range (lo := 0) (n := ((m : Nat) : Int).toNat)) (fun i H' => On p q G H' ∧ H' D = some (.lst (((List.range i).map (baseN24 fr a)).map V.str))) ⟨on4.new nD, upd_same⟩ (fun _ _ _ _ => trivial) ?_ ?_
    · rintro i x H5 H6 hi ⟨on5, kD⟩ ⟨rfl, rfl⟩
      have hi2 : i < m := by have : i < ((m : Nat) : Int).toNat := hi; omega
      have e0 : (0 : Int) + (i : Nat) = (i : Nat) := Int.zero_add _
      show gName 5 (V.int ((0 : Int) + ((i : Nat) : Int))) _ _ _
      rw [e0]
      have hmod : ((a : Int) + (7 : Int) * (i : Int)).fmod 26 = (((a + 7 * i) % 26 : Nat) : Int) := by
        have := fmod_nat (a + 7 * i) (m := 26) (by decide)
        rw [← this]
        congr 1
      have hm2 : (a + 7 * i) % 26 < 26 := Nat.mod_lt _ (by decide)
      refine ⟨rfl, _, rfl, _, rfl, _, rfl, _, rfl, _, _, rfl, rfl, mulW (up (n := 40) (by decide) (by decide)) (up (n := 40) (by omega) (by decide)), _, _, rfl, rfl, .inl ⟨_, rfl, _, _, rfl, rfl, by show (26 : Int) ≠ 0; decide, cABC, _, lett24 a i, rfl, rfl, ?_, ?_, ?_, ?_, ?_⟩⟩
      · rw [hmod]; omega
      · rw [hmod, show ((2 : Int) ^ 63) = 9223372036854775808 from by decide]
        omega
      · rw [hmod, show cABC.length = 26 from by decide +kernel]
        omega
      · rw [hmod, Int.toNat_natCast, ← Array.getElem?_toList]
        exact lett24_at a i
      refine ⟨_, _, rfl, rfl, by show fr.length + 1 ≤ sizeLine; omega, _, kD, by rw [List.length_map, List.length_map, List.length_range]; omega, on5.put fD, ?_⟩
      rw [upd_same, List.range_succ, List.map_append, List.map_append]
      rfl
    · rintro H5 ⟨on5, kD⟩
      rw [Int.toNat_natCast] at kD
      have ⟨nd, ok⟩ := names24_fine hfr ha m12
      refine ⟨D, _, rfl, .inl (.inl kD), by rw [List.length_map, List.length_range]; omega, fun ys S pm so nS => ?_⟩
      have on8 := on5.new (o := .lst (ys.map V.str)) nS
      refine ⟨S, _, rfl, .inl ⟨.inl (.inl upd_same), fun u nu => ?_⟩⟩
      have lp := pm.length_eq
      rw [List.length_map, List.length_range] at lp
      exact fin _ u ys (on8.new nu) upd_same ⟨by omega, by omega, fun z hz => ok z (pm.mem_iff.mp hz), ascS_of so (pm.nodup_iff.mpr nd)⟩ lp
theorem ok__law_mixedL {f : Addr} {fd : FuncData} (F : Fun K "_law_mixed" "_law_mixed" s__law_mixed f fd) (C__law_draw : Cl P w K mg base 1 "_law_draw" spDraw) (z_len : mg "len" = none) (z_list : mg "list" = none) (z_range : mg "range" = none) :
    FnOk P w K mg base CX0 2 f fd ["heap", "some"] (spMixedL K) := by
  refine F.ok sc__law_mixed (fun vs H Q E h => ?_) (fun cdv A outer s H vs Q E hr h => ?_)
  · obtain ⟨p, q, l, xs, rfl, _⟩ := h
    rfl
  · obtain ⟨p, q, l, xs, rfl, hd, hl, n1, n2, hx, fin⟩ := h
    refine ⟨_, (pss_cons (ps_par (i := 2) (j := 3) (by rfl) sc__law_mixed.nd rfl rfl (by decide) rfl rfl (pa_cons (pe_callTy call_list_of (by rfl) z_list (by decide +kernel) (pa_cons (pv 1) pa_nil)) (pa_cons (pe_lst pa_nil) pa_nil)) (by rfl))
    (pss_cut (ps_for PassesOwn.never rfl (pi_range1 (by rfl) z_range (pa_cons (pe_callB call_len_seq (by rfl) z_len (by decide +kernel) (pa_cons (pv 1) pa_nil)) pa_nil)) (pg_name (i := 4) sc__law_mixed.nd rfl (.inl rfl))
      (pss_one (ps_expr (pe_bm PySem.F.plainAttrs_list PySem.F.slot_list_append PySem.F.type_list_append mt_append (pv 3) (pa_cons (pe_bm PySem.F.plainAttrs_list PySem.F.slot_list_pop PySem.F.type_list_pop mt_popAt (pv 2) (pa_cons (pe_cl C__law_draw hr (by decide) rfl (pa_cons (pv 0) (pa_cons (pe_callB call_len_seq (by rfl) z_len (by decide +kernel) (pa_cons (pv 2) pa_nil)) pa_nil))) pa_nil)) pa_nil)))))
    (pss_one (ps_ret (pv 3))))), ?_⟩
    have on0 := On.start hd
    refine ⟨_, rfl, l, xs, rfl, .inl hl, fun L nL => ?_⟩
    have fL := on0.free nL
    have on1 := on0.new (o := .lst xs) nL
    have sL := same_upd (o := .lst xs) nL
    have hL := upd_same (H := H) (a := L) (o := .lst xs)
    generalize L2.upd H L (.lst xs) = H1 at on1 sL hL ⊢
    refine ⟨by show 0 ≤ sizeLine; exact Nat.zero_le _, fun D nD => ?_⟩
    have fD := on1.free nD
    have on2 := on1.new (o := .lst []) nD
    have sD := same_upd (o := .lst []) nD
    have hD := upd_same (H := H1) (a := D) (o := .lst [])
    have nLD : L ≠ D := ne_of_none hL nD
    have hDn : H D = none := sL.free nD
    have hL2 := sD _ _ hL
    have hl2 := seqLs sD (seqLs sL hl)
    generalize L2.upd H1 D (.lst []) = H2 at on2 hD hL2 hl2 ⊢
    refine ⟨_, _, rfl, ?_⟩
    refine ⟨fun σ H' => (∃ y : Option V, σ = [some (.ref p), some (.ref l), some (.ref L), some (.ref D), y]) ∧ On p q (frz p q H) H' ∧ ∃ ys : List V, H' D = some (.lst ys) ∧ ys.Perm xs, ?_, ?_⟩
    · refine ⟨_, rfl, l, xs, rfl, .inl hl2, _, rfl, by omega, by omega, ?_⟩
      refine for_it (walk_range (lo := 0) (n := ((xs.length : Nat) : Int).toNat)) (fun i σ H' => (∃ y : Option V, σ = [some (.ref p), some (.ref l), some (.ref L), some (.ref D), y]) ∧ On p q (frz p q H) H' ∧ ∃ ls fs : List V, H' L = some (.lst ls) ∧ H' D = some (.lst fs) ∧ (ls ++ fs).Perm xs ∧ fs.length = i) ⟨⟨_, rfl⟩, on2, xs, [], hL2, hD, by rw [List.append_nil], rfl⟩ (fun _ _ _ _ _ => trivial) ?_ ?_
      · rintro i x σ H3 H4 hi ⟨⟨y, rfl⟩, on3, ls, fs, kL, kD, pm, lf⟩ ⟨rfl, rfl⟩
        have pl := pm.length_eq
        rw [List.length_append] at pl
        have hi2 : i < xs.length := by
          have : i < ((xs.length : Nat) : Int).toNat := hi
          omega
        refine ⟨_, rfl, .inl ⟨rfl, _, .inl (.inl kD)⟩, ?_⟩
        refine ⟨_, rfl, .inl ⟨rfl, _, .inl (.inl kL)⟩, _, rfl, _, rfl, L, ls, rfl, .inl (.inl (.inl kL)), p, q, _, rfl, on3.hd, by omega, by omega, fun H5 r hd5 kp5 r0 r1 => ?_⟩
        have on5 := on3.draw hd5 kp5
        obtain ⟨k, rfl⟩ := Int.eq_ofNat_of_zero_le r0
        have hk : k < ls.length := by omega
        have kL5 := kp5 L _ fL.1 fL.2.1 kL
        have kD5 := kp5 D _ fD.1 fD.2.1 kD
        have ey : ls[k]? = some ls[k] := List.getElem?_eq_getElem hk
        refine ⟨L, ls, _, k, ls[k], rfl, rfl, kL5, by omega, by omega, atN hk, ey, ?_⟩
        have on6 := on5.put (o := .lst (ls.eraseIdx k)) (D := L) ⟨fL.1, fL.2.1, fL.2.2⟩
        have kL6 := upd_same (H := H5) (a := L) (o := .lst (ls.eraseIdx k))
        have kD6 : L2.upd H5 L (.lst (ls.eraseIdx k)) D = some (.lst fs) := by
          rw [upd_ne nLD.symm]
          exact kD5
        refine ⟨D, fs, _, rfl, rfl, kD6, ?_, ?_⟩
        · have : sizeLine = 16777216 := by decide
          omega
        · refine ⟨⟨_, rfl⟩, on6.put ⟨fD.1, fD.2.1, by cases e : frz p q H D with
            | none => rfl
            | some o => have := (frz_cases e).2.2; rw [hDn] at this; cases this⟩, ls.eraseIdx k, fs ++ [ls[k]], ?_, upd_same, perm_move pm ey, by rw [List.length_append, lf]; rfl⟩
          rw [upd_ne nLD]
          exact kL6
      · rintro σ H3 ⟨⟨y, rfl⟩, on3, ls, fs, kL, kD, pm, lf⟩
        have pl := pm.length_eq
        rw [List.length_append] at pl
        have l0 : ls = [] := List.eq_nil_of_length_eq_zero (by omega)
        subst l0
        exact ⟨⟨_, rfl⟩, on3, fs, kD, pm⟩
    · rintro σ H3 ⟨⟨y, rfl⟩, on3, ys, kD, pm⟩
      exact ⟨_, rfl, fin H3 D ys on3 hDn ⟨fD.1, fD.2.1⟩ kD pm⟩
theorem ok__law_totals {f : Addr} {fd : FuncData} (F : Fun K "_law_totals" "_law_totals" s__law_totals f fd) (C__law_draw : Cl P w K mg base 1 "_law_draw" spDraw) (C__law_pick : Cl P w K mg base 2 "_law_pick" (spPick K)) (C__law_mixed : Cl P w K mg base 2 "_law_mixed" (spMixedL K)) (z_max : mg "max" = none) (z_range : mg "range" = none) (z_sum : mg "sum" = none) (z_list : mg "list" = none) (z_tuple : mg "tuple" = none) (z_sorted : mg "sorted" = none) (z_int : mg "int" = none) : FnOk P w K mg base CX0 3 f fd ["heap", "most"] (spTot24 K) := by
  refine F.ok sc__law_totals (fun vs H Q E h => ?_) (fun cdv A outer s H vs Q E hr h => ?_)
  · obtain ⟨_, _, _, rfl, _⟩ := h
    rfl
  · obtain ⟨p, q, most, rfl, hd, m1, m8, fin⟩ := h
    refine ⟨_, (pss_cons (ps_set (i := 2) sc__law_totals.nd rfl (.inr rfl) (pe_op op_add pe_int (pe_callB (call_max2 rfl) (by rfl) z_max (by decide +kernel) (pa_cons (pe_cl C__law_draw hr (by decide) rfl (pa_cons (pv 0) (pa_cons (pv 1) pa_nil))) (pa_cons (pe_cl C__law_draw hr (by decide) rfl (pa_cons (pv 0) (pa_cons (pv 1) pa_nil))) pa_nil)))))
    (pss_cons (ps_setLc (i := 4) (own := [("group", 3)]) (by rfl) sc__law_totals.nd rfl rfl (sw_true rfl rfl rfl (by decide +kernel)) (pi_range1 (by rfl) z_range (pa_cons (pv 2) pa_nil)) (blkOk_by (own := [("group", 3)]) (N := N__law_totals) (sc := defScope s__law_totals) (by decide +kernel)) (fun _ _ _ _ _ => (pg_name (i := 3) sc__law_totals.nd rfl (.inl rfl))) (fun _ _ _ _ _ => pts_nil) (fun _ _ _ _ _ => (pe_ifExp (pt_cmpR op_lt (pv 2) pe_int (nomark _)) (pe_cl C__law_pick hr (by decide) rfl (pa_cons (pv 0) (pa_cons (pe_lst (pa_cons pe_int (pa_cons pe_int (pa_cons pe_int (pa_cons pe_int pa_nil))))) pa_nil))) pe_int)))
    (pss_cons (ps_set (i := 5) sc__law_totals.nd rfl (.inl rfl) (pe_op op_add (pe_callB (show CallR _ (.builtin "sum") (rSum K) from cr_sum rfl) (by rfl) z_sum (by decide +kernel) (pa_cons (pv 4) pa_nil)) (pe_meet (pe_ifExp (pt_cmpR op_lt (pv 2) pe_int (nomark _)) (pe_cl C__law_pick hr (by decide) rfl (pa_cons (pv 0) (pa_cons (pe_lst (pa_cons pe_int (pa_cons pe_int (pa_cons pe_int (pa_cons pe_int pa_nil))))) pa_nil))) pe_int))))
    (pss_cons (ps_asg (pe_tup (pa_cons (pe_cl C__law_mixed hr (by decide) rfl (pa_cons (pv 0) (pa_cons (pe_listRg rfl (by rfl) z_list (prg_1 (by rfl) z_range (pv 5))) pa_nil))) (pa_cons (pe_lst (pa_cons pe_int (pa_cons pe_int pa_nil))) (pa_cons (pe_lst pa_nil) (pa_cons (pe_lst pa_nil) pa_nil))))) (pg_tup rfl (pgs_cons (pg_name (i := 6) sc__law_totals.nd rfl (.inl rfl)) (pgs_cons (pg_name (i := 7) sc__law_totals.nd rfl (.inl rfl)) (pgs_cons (pg_name (i := 8) sc__law_totals.nd rfl (.inl rfl)) (pgs_cons (pg_name (i := 9) sc__law_totals.nd rfl (.inl rfl)) pgs_nil))))))
    (pss_cons (ps_par (i := 10) (j := 11) (by rfl) sc__law_totals.nd rfl rfl (by decide) rfl rfl (pa_cons (pe_cl C__law_pick hr (by decide) rfl (pa_cons (pv 0) (pa_cons (pe_lst (pa_cons pe_int (pa_cons pe_int (pa_cons pe_int (pa_cons pe_int (pa_cons pe_int pa_nil)))))) pa_nil))) (pa_cons (pe_cl C__law_pick hr (by decide) rfl (pa_cons (pv 0) (pa_cons (pe_lst (pa_cons pe_int (pa_cons pe_int (pa_cons pe_int (pa_cons pe_int (pa_cons pe_int pa_nil)))))) pa_nil))) pa_nil)) (by rfl))
    (pss_cut (ps_for PassesOwn.never rfl (pi_range1 (by rfl) z_range (pa_cons (pv 2) pa_nil)) (pg_name (i := 3) sc__law_totals.nd rfl (.inl rfl))
      (pss_cons (ps_expr (pe_bm PySem.F.plainAttrs_list PySem.F.slot_list_append PySem.F.type_list_append mt_append (pv 7) (pa_cons (pe_cl C__law_draw hr (by decide) rfl (pa_cons (pv 0) (pa_cons pe_int pa_nil))) pa_nil)))
      (pss_cons (ps_expr (pe_bm PySem.F.plainAttrs_list PySem.F.slot_list_append PySem.F.type_list_append mt_append (pv 8) (pa_cons (pe_callTy call_tupE (by rfl) z_tuple (by decide +kernel) (pa_cons (pe_callB cr_sorted (by rfl) z_sorted (by decide +kernel) (pa_cons (pe_slice sl_list (pv 6) (po_some (pe_callB (show CallR _ (.builtin "sum") (rSum K) from cr_sum rfl) (by rfl) z_sum (by decide +kernel) (pa_cons (pe_slice sl_list (pv 4) po_none (po_some (pv 3))) pa_nil))) (po_some (pe_callB (show CallR _ (.builtin "sum") (rSum K) from cr_sum rfl) (by rfl) z_sum (by decide +kernel) (pa_cons (pe_slice sl_list (pv 4) po_none (po_some (pe_op op_add (pv 3) pe_int))) pa_nil)))) pa_nil)) pa_nil)) pa_nil)))
      (pss_cut (ps_for PassesOwn.never rfl (pi_range1 (by rfl) z_range (pa_cons (pv 3) pa_nil)) (pg_name (i := 12) sc__law_totals.nd rfl (.inl rfl))
        (pss_one (ps_if (PW.pt (pw_and (pt_cmpR op_ne (pe_ix ix_list (pv 7) (pv 12) (fun _ _ => rfl)) (pe_ix ix_list (pv 7) (pv 3) (fun _ _ => rfl)) (nomark _)) (pw_and1 (pt_cmpR op_eq (pe_cl C__law_draw hr (by decide) rfl (pa_cons (pv 0) (pa_cons (pv 11) pa_nil))) pe_int (nomark _)))))
          (pss_one (ps_expr (pe_bm PySem.F.plainAttrs_list PySem.F.slot_list_append PySem.F.type_list_append mt_append (pv 9) (pa_cons (pe_callTy call_tupE (by rfl) z_tuple (by decide +kernel) (pa_cons (pe_callB cr_sortedTI (by rfl) z_sorted (by decide +kernel) (pa_cons (pe_op op_catT (pe_ix ix_list (pv 8) (pv 3) (fun _ _ => rfl)) (pe_ix ix_list (pv 8) (pv 12) (fun _ _ => rfl))) pa_nil)) pa_nil)) pa_nil))))
          pss_nil)))
      (pss_one (ps_if (pt_cmpR op_eq (pe_cl C__law_draw hr (by decide) rfl (pa_cons (pv 0) (pa_cons (pv 10) pa_nil))) pe_int (nomark _))
        (pss_one (ps_expr (pe_bm PySem.F.plainAttrs_list PySem.F.slot_list_append PySem.F.type_list_append mt_append (pv 9) (pa_cons (pe_ix ix_list (pv 8) (pv 3) (fun _ _ => rfl)) pa_nil))))
        pss_nil))))))
    (pss_cons (ps_set (i := 9) sc__law_totals.nd rfl (.inl rfl) (pe_op op_cat (pe_op op_cat (pv 9) (pe_op op_rep (pe_lst (pa_cons (pe_tup pa_nil) pa_nil)) (pe_callTy call_int1 (by rfl) z_int (by decide +kernel) (pa_cons (pe_cmpR op_eq (pe_cl C__law_draw hr (by decide) rfl (pa_cons (pv 0) (pa_cons pe_int pa_nil))) pe_int (nomark _)) pa_nil)))) (pe_op op_rep (pe_lst (pa_cons (pe_cl C__law_pick hr (by decide) rfl (pa_cons (pv 0) (pa_cons (pe_op op_cat (pv 9) (pe_lst (pa_cons (pe_tup pa_nil) pa_nil))) pa_nil))) pa_nil)) (pe_callTy call_int1 (by rfl) z_int (by decide +kernel) (pa_cons (pe_cmpR op_eq (pe_cl C__law_draw hr (by decide) rfl (pa_cons (pv 0) (pa_cons pe_int pa_nil))) pe_int (nomark _)) pa_nil)))))
    (pss_one (ps_ret (pe_tup (pa_cons (pv 5) (pa_cons (pe_slice sl_list (pe_cl C__law_mixed hr (by decide) rfl (pa_cons (pv 0) (pa_cons (pv 9) pa_nil))) po_none (po_some pe_int)) pa_nil)))))))))))), ?_⟩
    have big : sizeLine = 16777216 := by decide
    have on0 := On.start hd
    generalize frz p q H = G0 at *
    -- how many groups
    refine ⟨_, rfl, _, rfl, p, q, _, rfl, on0.hd, by omega, by omega, fun H1 r1 hd1 kp1 a0 a1 => ?_⟩
    have on1 := on0.draw hd1 kp1
    refine ⟨_, rfl, _, rfl, p, q, _, rfl, on1.hd, by omega, by omega, fun H2 r2 hd2 kp2 b0 b1 => ?_⟩
    have on2 := on1.draw hd2 kp2
    clear on0 on1 hd1 kp1 hd2 kp2
    refine ⟨_, _, rfl, _, _, rfl, rfl, ?_⟩
    obtain ⟨m, em, hm1, hm8⟩ : ∃ m : Nat, (1 : Int) + (if r2 > r1 then r2 else r1) = m ∧ 1 ≤ m ∧ m ≤ 8 := by
      refine ⟨(1 + (if r2 > r1 then r2 else r1)).toNat, ?_, ?_, ?_⟩ <;> (split <;> omega)
    show gName 2 (V.int ((1 : Int) + (if r2 > r1 then r2 else r1))) _ _ _
    rw [em]
    clear em a0 a1 b0 b1
    -- their sizes
    refine ⟨_, rfl, _, rfl, by omega, by omega, fun Z nZ => ?_⟩
    have fZ := on2.free nZ
    refine lc_it (walk_range (lo := 0) (n := ((m : Nat) : Int).toNat)) (fun i H' => On p q G0 H' ∧ ∃ zs : List Nat, H' Z = some (.lst (zs.map fun z => V.int ((z : Nat) : Int))) ∧ zs.length = i ∧ ∀ z ∈ zs, z = 1 ∨ (z = 2 ∧ m < 6)) ⟨on2.new nZ, [], upd_same, rfl, fun z mz => by cases mz⟩ (fun _ _ _ _ => trivial) ?_ ?_
    · clear on2 nZ
      rintro i v H3 H4 hi ⟨on3, zs, kZ, lz, hz⟩ ⟨rfl, rfl⟩
      have hi2 : i < m := by have : i < ((m : Nat) : Int).toNat := hi; omega
      refine ⟨rfl, _, rfl, _, _, rfl, rfl, _, rfl, ?_⟩
      refine ite2 (fun z => ?_) (fun z => ?_)
      · have m6 : m < 6 := by have := of_decide_eq_true z; omega
        refine ⟨_, rfl, by show 4 ≤ sizeLine; decide, fun L nL => ?_⟩
        have fL := on3.free nL
        have on5 := on3.new (o := .lst [.int 1, .int 1, .int 1, .int 2]) nL
        have kZ5 := same_upd (o := .lst [.int 1, .int 1, .int 1, .int 2]) nL _ _ kZ
        refine ⟨p, q, L, _, rfl, on5.hd, upd_same, fL.1, fL.2.1, by simp, by show 4 < 1000000; decide, fun H6 v hd6 kp6 hv => ?_⟩
        have on6 := on5.draw hd6 kp6
        obtain ⟨b, rfl, hb⟩ : ∃ b : Nat, v = .int b ∧ (b = 1 ∨ b = 2) := by
          simp only [List.mem_cons, List.not_mem_nil, or_false] at hv
          rcases hv with e | e | e | e
          · exact ⟨1, e, .inl rfl⟩
          · exact ⟨1, e, .inl rfl⟩
          · exact ⟨1, e, .inl rfl⟩
          · exact ⟨2, e, .inr rfl⟩
        have kZ6 := kp6 _ _ fZ.1 fZ.2.1 kZ5
        refine ⟨_, kZ6, by rw [List.length_map]; omega, on6.put fZ, zs ++ [b], by rw [upd_same, List.map_append]; rfl, by rw [List.length_append, lz]; rfl, fun z mz => ?_⟩
        rcases List.mem_append.mp mz with mz | mz
        · exact hz z mz
        · rw [List.mem_singleton.mp mz]
          exact hb.imp id fun e => ⟨e, m6⟩
      · refine ⟨_, kZ, by rw [List.length_map]; omega, on3.put fZ, zs ++ [1], by rw [upd_same, List.map_append]; rfl, by rw [List.length_append, lz]; rfl, fun z mz => ?_⟩
        rcases List.mem_append.mp mz with mz | mz
        · exact hz z mz
        · rw [List.mem_singleton.mp mz]
          exact .inl rfl
    clear on2 nZ
    rintro H3 ⟨on3, zs, kZ, lz, hz⟩
    rw [Int.toNat_natCast] at lz
    have zsum : zs.sum ≤ 10 ∧ (¬ m < 6 → zs.sum = m) ∧ zs.length ≤ zs.sum := by
      have key : ∀ zs : List Nat, (∀ z ∈ zs, z = 1 ∨ (z = 2 ∧ m < 6)) → zs.length ≤ zs.sum ∧ zs.sum ≤ 2 * zs.length ∧ (¬ m < 6 → zs.sum = zs.length) := by
        intro zs
        induction zs with
        | nil => intro _; exact ⟨Nat.le_refl _, Nat.le_refl _, fun _ => rfl⟩
        | cons z zs ih =>
          intro h
          have ⟨i1, i2, i3⟩ := ih fun y my => h y (List.mem_cons_of_mem _ my)
          rw [List.sum_cons, List.length_cons]
          rcases h z List.mem_cons_self with e | ⟨e, m6⟩
          · exact ⟨by omega, by omega, fun q => by have := i3 q; omega⟩
          · exact ⟨by omega, by omega, fun q => absurd m6 q⟩
      have ⟨k1, k2, k3⟩ := key zs hz
      refine ⟨?_, fun q => by rw [k3 q, lz], k1⟩
      by_cases z : m < 6
      · omega
      · have := k3 z; omega
    -- many
    refine ⟨_, rfl, Z, zs.map fun z => ((z : Nat) : Int), rfl, .inl (.inl (by rw [kZ, List.map_map]; rfl)), ?_⟩
    rw [sum_int]
    refine ⟨fun v H' => ∃ b : Nat, v = .int b ∧ zs.sum + b ≤ 12 ∧ On p q G0 H' ∧ H' Z = some (.lst (zs.map fun z => V.int ((z : Nat) : Int))), ?_, ?_⟩
    · refine ⟨_, rfl, _, _, rfl, rfl, _, rfl, ite2 (fun z => ?_) (fun z => ?_)⟩
      · have m6 : m < 6 := by have := of_decide_eq_true z; omega
        refine ⟨_, rfl, by show 4 ≤ sizeLine; decide, fun L nL => ?_⟩
        have fL := on3.free nL
        have on5 := on3.new (o := .lst [.int 0, .int 0, .int 1, .int 2]) nL
        have kZ5 := same_upd (o := .lst [.int 0, .int 0, .int 1, .int 2]) nL _ _ kZ
        refine ⟨p, q, L, _, rfl, on5.hd, upd_same, fL.1, fL.2.1, by simp, by show 4 < 1000000; decide, fun H6 v hd6 kp6 hv => ?_⟩
        obtain ⟨b, rfl, hb⟩ : ∃ b : Nat, v = .int b ∧ b ≤ 2 := by
          simp only [List.mem_cons, List.not_mem_nil, or_false] at hv
          rcases hv with e | e | e | e
          · exact ⟨0, e, by decide⟩
          · exact ⟨0, e, by decide⟩
          · exact ⟨1, e, by decide⟩
          · exact ⟨2, e, by decide⟩
        exact ⟨b, rfl, by omega, on5.draw hd6 kp6, kp6 _ _ fZ.1 fZ.2.1 kZ5⟩
      · exact ⟨0, rfl, by omega, on3, kZ⟩
    clear on3 kZ
    rintro _ H4 ⟨b, rfl, hb, on4, kZ⟩
    refine ⟨_, _, rfl, rfl, ?_⟩
    have en : ((zs.sum : Nat) : Int) + ((b : Nat) : Int) = ((zs.sum + b : Nat) : Int) := by omega
    show gName 5 (V.int (((zs.sum : Nat) : Int) + ((b : Nat) : Int))) _ _ _
    rw [en]
    have n12 : zs.sum + b ≤ 12 := hb
    have nz : zs.sum ≤ zs.sum + b := by omega
    have n1 : 1 ≤ zs.sum + b := by omega
    generalize zs.sum + b = n at *
    clear en hb
    -- order
    refine ⟨_, rfl, _, rfl, _, rfl, RgOk.of_le (by decide) (by omega) (by decide) (by omega), fun l nl => ?_⟩
    rw [rg_range]
    have fl := on4.free nl
    have on5 := on4.new (o := .lst ((rangeL n).map V.int)) nl
    have kZ5 := same_upd (o := .lst ((rangeL n).map V.int)) nl _ _ kZ
    refine ⟨p, q, l, _, rfl, on5.hd, .inl (.inl upd_same), fl.1, fl.2.1, by rw [List.length_map, range_len]; omega, fun H6 O ys onm _ fO kO pm => ?_⟩
    obtain ⟨ord, rfl, pm2⟩ := perm_ints pm
    have on6 := on5.draw onm.hd onm.keep
    have kZ6 := onm.keep _ _ fZ.1 fZ.2.1 kZ5
    have lo : ord.length = n := by rw [pm2.length_eq, range_len]
    have ndo : ord.Nodup := pm2.nodup_iff.mpr (range_nodup n)
    have olow : ∀ k ∈ ord, 0 ≤ k ∧ k < (n : Int) := fun k mk => mem_range.mp (pm2.mem_iff.mp mk)
    have ⟨on7, g7⟩ := on6.base
    have kZ7 : SqL K (frz p q H6) Z (zs.map fun z => V.int ((z : Nat) : Int)) := .inl (.inl (frz_at kZ6 ⟨fZ.1, fZ.2.1⟩))
    have kO7 : SqL K (frz p q H6) O (ord.map V.int) := .inl (.inl (frz_at kO fO))
    have back : ∀ {H'}, On p q (frz p q H6) H' → On p q G0 H' := fun h => h.drop g7
    clear on4 on5 on6 onm kZ kZ5 kZ6 pm pm2 nl fl fO kO g7
    generalize frz p q H6 = G1 at on7 kZ7 kO7 back
    refine ⟨by show 2 ≤ sizeLine; decide, fun S nS => ?_⟩
    have fS := on7.free nS
    have on8 := on7.new (o := .lst [.int 0, .int 1]) nS
    generalize eH8 : L2.upd H6 S _ = H8 at on8
    have kS8 := at_of eH8
    clear eH8
    refine ⟨by show 0 ≤ sizeLine; exact Nat.zero_le _, fun Lo nLo => ?_⟩
    have fLo := on8.free nLo
    have on9 := on8.new (o := .lst []) nLo
    generalize eH9 : L2.upd H8 Lo _ = H9 at on9
    have s9 := same_of nLo eH9
    have kL9 := at_of eH9
    clear eH9
    refine ⟨by show 0 ≤ sizeLine; exact Nat.zero_le _, fun To nTo => ?_⟩
    have fTo := on9.free nTo
    have on10 := on9.new (o := .lst []) nTo
    generalize eH10 : L2.upd H9 To _ = H10 at on10
    have s10 := same_of nTo eH10
    have kT10 := at_of eH10
    clear eH10
    refine ⟨by show 4 ≤ sizeLine; decide, fun T nT => ?_⟩
    have on11 := on10.new (o := .tup [.ref O, .ref S, .ref Lo, .ref To]) nT
    generalize eH11 : L2.upd H10 T _ = H11 at on11
    have s11 := same_of nT eH11
    have kTT := at_of eH11
    clear eH11
    have nSL : S ≠ Lo := fun e => by rw [← e, kS8] at nLo; cases nLo
    have nST : S ≠ To := fun e => by rw [← e, s9 _ _ kS8] at nTo; cases nTo
    have nLT : Lo ≠ To := fun e => by rw [← e, kL9] at nTo; cases nTo
    refine ⟨T, _, rfl, .inl (.inl kTT), rfl, _, _, rfl, _, _, rfl, _, _, rfl, _, _, rfl, rfl, ?_⟩
    have W0 : LotW K p q G1 H11 S Lo To ord zs n 0 [0, 1] [] [] [] [] := ⟨on11, s11 _ _ (s10 _ _ (s9 _ _ kS8)), fun x mx => by simpa using mx, s11 _ _ (s10 _ _ kL9), trivial, fun g c e => by simp at e, s11 _ _ kT10, trivial, fun c mc => by cases mc⟩
    clear on7 on8 on9 on10 on11 kS8 kL9 kT10 kTT s9 s10 s11 nS nLo nTo nT
    have fS2 : S ≠ p ∧ S ≠ q := ⟨fS.1, fS.2.1⟩
    have fL2 : Lo ≠ p ∧ Lo ≠ q := ⟨fLo.1, fLo.2.1⟩
    have fT2 : To ≠ p ∧ To ≠ q := ⟨fTo.1, fTo.2.1⟩
    -- alone, near
    refine ⟨_, rfl, by show 5 ≤ sizeLine; decide, fun L nL => ?_⟩
    have fL := W0.on.free nL
    have W1 := W0.same (same_upd (o := .lst [.int 2, .int 3, .int 5, .int 30, .int 30]) nL)
    refine ⟨p, q, L, _, rfl, W1.on.hd, upd_same, fL.1, fL.2.1, by simp, by show 5 < 1000000; decide, fun H12 v hd12 kp12 hv => ?_⟩
    have W2 := W1.draw fS2 fL2 fT2 hd12 kp12
    obtain ⟨al, rfl, al1, al2⟩ : ∃ b : Int, v = .int b ∧ 1 ≤ b ∧ b ≤ 30 := by
      simp only [List.mem_cons, List.not_mem_nil, or_false] at hv
      rcases hv with e | e | e | e | e <;> exact ⟨_, e, by decide, by decide⟩
    clear W0 W1 nL fL hd12 kp12 hv
    refine ⟨_, rfl, by show 5 ≤ sizeLine; decide, fun L nL => ?_⟩
    have fL := W2.on.free nL
    have W3 := W2.same (same_upd (o := .lst [.int 1, .int 1, .int 1, .int 2, .int 3]) nL)
    refine ⟨p, q, L, _, rfl, W3.on.hd, upd_same, fL.1, fL.2.1, by simp, by show 5 < 1000000; decide, fun H13 v hd13 kp13 hv => ?_⟩
    have W4 := W3.draw fS2 fL2 fT2 hd13 kp13
    obtain ⟨ne, rfl, ne1, ne2⟩ : ∃ b : Int, v = .int b ∧ 1 ≤ b ∧ b ≤ 3 := by
      simp only [List.mem_cons, List.not_mem_nil, or_false] at hv
      rcases hv with e | e | e | e | e <;> exact ⟨_, e, by decide, by decide⟩
    clear W2 W3 nL fL hd13 kp13 hv
    refine ⟨_, _, rfl, ?_⟩
    have hlen : ∀ i, i ≤ m → SN zs i ≤ ord.length := fun i hi => by
      have := SN_mono (zs := zs) (i := i) (j := zs.length) (by omega)
      rw [SN_all] at this
      omega
    have gne : ∀ g, g < m → ∃ k, k ∈ grp ord zs g := fun g hg => by
      have e := SN_succ (zs := zs) (i := g) (by omega)
      have z1 : 1 ≤ zs.getD g 0 := by
        rw [List.getD_eq_getElem?_getD, List.getElem?_eq_getElem (by omega)]
        rcases hz zs[g] (List.getElem_mem _) with z | ⟨z, _⟩
        · exact Nat.le_of_eq z.symm
        · show 1 ≤ zs[g]
          omega
      have l := hlen (g + 1) hg
      have lt : SN zs g < ord.length := by omega
      exact ⟨ord[SN zs g], (mem_grp l).mpr ⟨SN zs g, Nat.le_refl _, by omega, List.getElem?_eq_getElem lt⟩⟩
    -- group by group
    refine ⟨fun σ H' => (∃ y3 y12 : Option V, σ = [some (.ref p), some (.int most), some (.int m), y3, some (.ref Z), some (.int n), some (.ref O), some (.ref S), some (.ref Lo), some (.ref To), some (.int al), some (.int ne), y12]) ∧ ∃ ss lv gs tv ts, LotW K p q G1 H' S Lo To ord zs n m ss lv gs tv ts ∧ ts.length ≤ 9 * m, ?_, ?_⟩
    · refine ⟨_, rfl, _, rfl, by omega, by omega, ?_⟩
      refine for_it (walk_range (lo := 0) (n := ((m : Nat) : Int).toNat)) (fun i σ H' => (∃ y3 y12 : Option V, σ = [some (.ref p), some (.int most), some (.int m), y3, some (.ref Z), some (.int n), some (.ref O), some (.ref S), some (.ref Lo), some (.ref To), some (.int al), some (.int ne), y12]) ∧ ∃ ss lv gs tv ts, LotW K p q G1 H' S Lo To ord zs n i ss lv gs tv ts ∧ ss.length = 2 + i ∧ gs.length = i ∧ ts.length ≤ 9 * i) ⟨⟨_, _, rfl⟩, _, _, _, _, _, W4, rfl, rfl, Nat.le_refl _⟩ (fun _ _ _ _ _ => trivial) ?_ ?_
      · clear W4
        rintro i x σ H14 H15 hi ⟨⟨y3, y12, rfl⟩, ss, lv, gs, tv, ts, W, lss, lgs, lts⟩ ⟨rfl, rfl⟩
        have hi2 : i < m := by have : i < ((m : Nat) : Int).toNat := hi; omega
        have zi : (0 : Int) + (i : Nat) = ((i : Nat) : Int) := Int.zero_add _
        show gName 3 (V.int ((0 : Int) + ((i : Nat) : Int))) _ _ _
        rw [zi]
        -- its side
        refine ⟨_, rfl, .inl ⟨rfl, _, .inl (.inl W.kS)⟩, _, rfl, p, q, _, rfl, W.on.hd, by decide, by decide, fun H16 r hd16 kp16 r0 r1 => ?_⟩
        have W2 := W.draw fS2 fL2 fT2 hd16 kp16
        refine ⟨S, _, _, rfl, rfl, W2.kS, by rw [List.length_map]; omega, ?_⟩
        have W3 : LotW K p q G1 (L2.upd H16 S (.lst (ss.map V.int ++ [.int r]))) S Lo To ord zs n (i + 1) (ss ++ [r]) lv gs tv ts := ⟨W2.on.put fS, by rw [upd_same, List.map_append]; rfl, fun x mx => by
          rcases List.mem_append.mp mx with z | z
          · exact W.s01 x z
          · rw [List.mem_singleton.mp z]; omega, by rw [upd_ne nSL.symm]; exact W2.kL, Tots.upd W2.kS W2.hL, W.gr, by rw [upd_ne nST.symm]; exact W2.kT, Tots.upd W2.kS W2.hT, fun c mc => (W.tot c mc).next r (by omega)⟩
        have lss2 : (ss ++ [r]).length = 3 + i := by rw [List.length_append, lss]; show 2 + i + 1 = 3 + i; omega
        clear W W2 hd16 kp16
        generalize L2.upd H16 S (.lst (ss.map V.int ++ [.int r])) = H17 at W3
        generalize ss ++ [r] = ss2 at W3 lss2
        -- its kinds
        have hZ3 := seqLs W3.on.le kZ7
        have hO3 := seqLs W3.on.le kO7
        have sn1 : SN zs i ≤ SN zs (i + 1) := SN_mono (by omega)
        have sn2 := hlen (i + 1) hi2
        refine ⟨_, rfl, .inl ⟨rfl, _, .inl (.inl W3.kL)⟩, _, rfl, _, rfl, _, rfl, _, rfl, Z, _, rfl, hZ3, fun b1 nb1 => ?_⟩
        rw [cut_pre]
        have sb1 := same_upd (o := .lst ((zs.map fun z => V.int ((z : Nat) : Int)).take i)) nb1
        refine ⟨b1, (zs.take i).map fun z => ((z : Nat) : Int), rfl, .inl (.inl (by rw [upd_same, List.map_map, List.map_take]; rfl)), _, rfl, ?_⟩
        rw [sum_int]
        refine ⟨_, rfl, _, rfl, _, _, rfl, rfl, _, rfl, Z, _, rfl, seqLs sb1 hZ3, fun b2 nb2 => ?_⟩
        rw [show ((i : Nat) : Int) + 1 = ((i + 1 : Nat) : Int) from rfl, cut_pre]
        have sb2 := same_upd (o := .lst ((zs.map fun z => V.int ((z : Nat) : Int)).take (i + 1))) nb2
        refine ⟨b2, (zs.take (i + 1)).map fun z => ((z : Nat) : Int), rfl, .inl (.inl (by rw [upd_same, List.map_map, List.map_take]; rfl)), _, rfl, ?_⟩
        rw [sum_int]
        have s12 := sb1.trans sb2
        refine ⟨O, _, rfl, seqLs s12 hO3, fun b3 nb3 => ?_⟩
        rw [show ((zs.take i).sum : Nat) = SN zs i from rfl, show ((zs.take (i + 1)).sum : Nat) = SN zs (i + 1) from rfl, cut_mid _ sn1 (by rw [List.length_map]; exact sn2)]
        have eg : ((ord.map V.int).drop (SN zs i)).take (SN zs (i + 1) - SN zs i) = (grp ord zs i).map V.int := by
          unfold grp
          rw [List.map_take, List.map_drop]
        rw [eg]
        have sb3 := same_upd (o := .lst ((grp ord zs i).map V.int)) nb3
        have glen : (grp ord zs i).length ≤ n := by
          unfold grp
          rw [List.length_take, List.length_drop]
          omega
        refine ⟨b3, grp ord zs i, rfl, .inl (.inl upd_same), by omega, fun ns r pm le nr => ?_⟩
        have sr := same_upd (o := .lst (ns.map V.int)) nr
        refine ⟨r, _, rfl, .inl (.inl (.inl upd_same)), fun H18 u s18 hu => ?_⟩
        have s1718 := s12.trans (sb3.trans (sr.trans s18))
        have W4 := W3.same s1718
        have gnd : (grp ord zs i).Nodup := by
          unfold grp
          exact (ndo.sublist (List.drop_sublist _ _)).sublist (List.take_sublist _ _)
        have okG : LotOk (n : Int) ns := by
          refine ⟨by rw [pm.length_eq]; omega, fun x mx => ?_, asc_pw ((List.pairwise_and_iff.mpr ⟨le, pm.nodup_iff.mpr gnd⟩).imp fun ⟨h1, h2⟩ => by omega)⟩
          have mg := pm.mem_iff.mp mx
          unfold grp at mg
          exact olow x (List.mem_of_mem_drop (List.mem_of_mem_take mg))
        have lv8 := W4.hL.len
        refine ⟨Lo, _, _, rfl, rfl, W4.kL, by omega, ?_⟩
        have W5 : LotW K p q G1 (L2.upd H18 Lo (.lst (lv ++ [.ref u]))) S Lo To ord zs n (i + 1) ss2 (lv ++ [.ref u]) (gs ++ [ns]) tv ts := ⟨W4.on.put fLo, by rw [upd_ne nSL]; exact W4.kS, W4.s01, upd_same, Tots.upd W4.kL (Tots.snoc hu W4.hL), fun g c e => by
          by_cases lg : g < gs.length
          · rw [List.getElem?_append_left lg] at e
            exact W4.gr g c e
          · have gl := (List.getElem?_eq_some_iff.mp e).1
            rw [List.length_append] at gl
            have gl : g < gs.length + 1 := gl
            have : g = gs.length := by omega
            subst this
            rw [List.getElem?_append_right (Nat.le_refl _), Nat.sub_self] at e
            have e : ns = c := Option.some.inj e
            subst e
            exact ⟨okG, fun k => by rw [lgs]; exact pm.mem_iff⟩, by rw [upd_ne nLT.symm]; exact W4.kT, Tots.upd W4.kL W4.hT, W4.tot⟩
        have lgs2 : (gs ++ [ns]).length = i + 1 := by rw [List.length_append, lgs]; rfl
        clear W3 W4 s12 sb1 sb2 sb3 sr s18 s1718 hu pm le okG gnd nb1 nb2 nb3 nr hZ3 hO3 eg glen sn1 sn2 lv8
        generalize L2.upd H18 Lo (.lst (lv ++ [.ref u])) = H19 at W5
        generalize lv ++ [.ref u] = lv2 at W5
        generalize gs ++ [ns] = gs2 at W5 lgs2
        -- totals of two groups
        refine ⟨fun σ H' => (∃ y12 : Option V, σ = [some (.ref p), some (.int most), some (.int m), some (.int i), some (.ref Z), some (.int n), some (.ref O), some (.ref S), some (.ref Lo), some (.ref To), some (.int al), some (.int ne), y12]) ∧ ∃ tv ts, LotW K p q G1 H' S Lo To ord zs n (i + 1) ss2 lv2 gs2 tv ts ∧ ts.length ≤ 9 * i + 8, ?_, ?_⟩
        · refine ⟨_, rfl, _, rfl, by omega, by omega, ?_⟩
          refine for_it (walk_range (lo := 0) (n := ((i : Nat) : Int).toNat)) (fun o σ H' => (∃ y12 : Option V, σ = [some (.ref p), some (.int most), some (.int m), some (.int i), some (.ref Z), some (.int n), some (.ref O), some (.ref S), some (.ref Lo), some (.ref To), some (.int al), some (.int ne), y12]) ∧ ∃ tv ts, LotW K p q G1 H' S Lo To ord zs n (i + 1) ss2 lv2 gs2 tv ts ∧ ts.length ≤ 9 * i + o) ⟨⟨_, rfl⟩, _, _, W5, by omega⟩ (fun _ _ _ _ _ => trivial) ?_ ?_
          · clear W5
            rintro o x σ H20 H21 ho ⟨⟨y12, rfl⟩, tv, ts, W, lts⟩ ⟨rfl, rfl⟩
            have ho2 : o < i := by have : o < ((i : Nat) : Int).toNat := ho; omega
            have zo : (0 : Int) + (o : Nat) = ((o : Nat) : Int) := Int.zero_add _
            show gName 12 (V.int ((0 : Int) + ((o : Nat) : Int))) _ _ _
            rw [zo]
            have e1 : ss2[o]? = some (ss2.getD o 0) := by rw [List.getD_eq_getElem?_getD, List.getElem?_eq_getElem (by omega)]; rfl
            have e2 : ss2[i]? = some (ss2.getD i 0) := by rw [List.getD_eq_getElem?_getD, List.getElem?_eq_getElem (by omega)]; rfl
            refine ⟨_, rfl, _, rfl, S, _, _, _, rfl, rfl, .inl (.inl W.kS), atI_nat (by rw [List.getElem?_map, e1]; rfl), _, rfl, _, rfl, S, _, _, _, rfl, rfl, .inl (.inl W.kS), atI_nat (by rw [List.getElem?_map, e2]; rfl), rfl, _, rfl, ?_⟩
            refine ite2 (fun z => ?_) (fun _ => ⟨⟨_, rfl⟩, tv, ts, W, by omega⟩)
            have nsd : ss2.getD i 0 ≠ ss2.getD o 0 := fun e => by
              have z : (!decide (V.int (ss2.getD o 0) = V.int (ss2.getD i 0))) = true := z
              rw [decide_eq_true (by rw [e])] at z
              cases z
            refine ⟨_, rfl, _, rfl, p, q, _, rfl, W.on.hd, by omega, by omega, fun H22 r hd22 kp22 r0 r1 => ?_⟩
            have W2 := W.draw fS2 fL2 fT2 hd22 kp22
            refine ⟨rfl, _, rfl, ite2 (fun _ => ?_) (fun _ => ⟨⟨_, rfl⟩, tv, ts, W2, by omega⟩)⟩
            have llv := W2.hL.len
            have eli : lv2[i]? = some lv2[i] := List.getElem?_eq_getElem (by omega)
            have elo : lv2[o]? = some lv2[o] := List.getElem?_eq_getElem (by omega)
            obtain ⟨ui, ci, ei1, ei2, hui⟩ := W2.hL.get eli
            obtain ⟨uo, co, eo1, eo2, huo⟩ := W2.hL.get elo
            rw [ei1] at eli
            rw [eo1] at elo
            have ⟨oki, memi⟩ := W2.gr i ci ei2
            have ⟨oko, memo⟩ := W2.gr o co eo2
            have li := lot_small oki
            have lo2 := lot_small oko
            refine ⟨_, rfl, .inl ⟨rfl, _, .inl (.inl W2.kT)⟩, _, rfl, _, rfl, Lo, _, _, _, rfl, rfl, .inl (.inl W2.kL), atI_nat eli, _, rfl, _, rfl, Lo, _, _, _, rfl, rfl, .inl (.inl W2.kL), atI_nat elo, ?_⟩
            obtain ⟨ki, mki⟩ := gne i hi2
            obtain ⟨ko, mko⟩ := gne o (by omega)
            have nei : ci ≠ [] := fun e => by have := (memi ki).mpr mki; rw [e] at this; cases this
            have neo : co ≠ [] := fun e => by have := (memo ko).mpr mko; rw [e] at this; cases this
            refine ⟨ui, uo, _, _, rfl, rfl, hui, huo, fun e => nei (List.map_eq_nil_iff.mp e), by rw [List.length_map, List.length_map]; omega, fun e => absurd (List.map_eq_nil_iff.mp e) neo, fun _ w1 nw1 => ?_⟩
            have sw1 := same_upd (o := .tup (ci.map V.int ++ co.map V.int)) nw1
            refine ⟨w1, ci ++ co, rfl, .inl (.inl (by rw [upd_same, List.map_append])), by rw [List.length_append]; omega, fun ns r2 pm le nr => ?_⟩
            have s1 := sw1.trans (same_upd (o := .lst (ns.map V.int)) nr)
            refine ⟨r2, _, rfl, .inl (.inl (.inl upd_same)), fun H23 u s23 hu => ?_⟩
            have hu : SqT K H23 u (ns.map V.int) := hu
            have W3 := W2.same (s1.trans s23)
            have gnd : (ci ++ co).Nodup := List.nodup_append.mpr ⟨asc_nodup oki.2.2, asc_nodup oko.2.2, fun a ma b mb e => by
              subst e
              have := grp_apart ndo (hlen (i + 1) hi2) (hlen (o + 1) (by omega)) ((memi a).mp ma) ((memo a).mp mb)
              omega⟩
            have okU : LotOk (n : Int) ns := by
              refine ⟨by rw [pm.length_eq, List.length_append]; omega, fun x mx => ?_, asc_pw ((List.pairwise_and_iff.mpr ⟨le, pm.nodup_iff.mpr gnd⟩).imp fun ⟨h1, h2⟩ => by omega)⟩
              rcases List.mem_append.mp (pm.mem_iff.mp mx) with z | z
              · exact oki.2.1 x z
              · exact oko.2.1 x z
            have ltv := W3.hT.len
            refine ⟨To, _, _, rfl, rfl, W3.kT, by omega, ⟨_, rfl⟩, tv ++ [.ref u], ts ++ [ns], ⟨W3.on.put fTo, by rw [upd_ne nST]; exact W3.kS, W3.s01, by rw [upd_ne nLT]; exact W3.kL, Tots.upd W3.kT W3.hL, W3.gr, upd_same, Tots.upd W3.kT (Tots.snoc hu W3.hT), fun c mc => ?_⟩, by rw [List.length_append]; show ts.length + 1 ≤ _; omega⟩
            rcases List.mem_append.mp mc with z | z
            · exact W3.tot c z
            · rw [List.mem_singleton.mp z]
              exact ⟨okU, .inr (.inr ⟨i, o, by omega, by omega, nsd, fun k => by rw [pm.mem_iff, List.mem_append, memi k, memo k]⟩)⟩
          · rintro σ H20 ⟨y, tv, ts, W, lts⟩
            rw [Int.toNat_natCast] at lts
            exact ⟨y, tv, ts, W, by omega⟩
        clear W5 ts lts tv
        rintro σ H20 ⟨⟨y12, rfl⟩, tv, ts, W, lts⟩
        refine ⟨_, rfl, _, rfl, p, q, _, rfl, W.on.hd, by omega, by omega, fun H22 r hd22 kp22 r0 r1 => ?_⟩
        have W2 := W.draw fS2 fL2 fT2 hd22 kp22
        refine ⟨rfl, _, rfl, ite2 (fun _ => ?_) (fun _ => ⟨⟨_, _, rfl⟩, _, _, _, _, _, W2, by omega, lgs2, by omega⟩)⟩
        have llv := W2.hL.len
        have eli : lv2[i]? = some lv2[i] := List.getElem?_eq_getElem (by omega)
        obtain ⟨ui, ci, ei1, ei2, hui⟩ := W2.hL.get eli
        rw [ei1] at eli
        have ⟨oki, memi⟩ := W2.gr i ci ei2
        have ltv := W2.hT.len
        refine ⟨_, rfl, .inl ⟨rfl, _, .inl (.inl W2.kT)⟩, _, rfl, _, rfl, Lo, _, _, _, rfl, rfl, .inl (.inl W2.kL), atI_nat eli, ?_⟩
        refine ⟨To, _, _, rfl, rfl, W2.kT, by omega, ⟨_, _, rfl⟩, ss2, lv2, gs2, tv ++ [.ref ui], ts ++ [ci], ⟨W2.on.put fTo, by rw [upd_ne nST]; exact W2.kS, W2.s01, by rw [upd_ne nLT]; exact W2.kL, Tots.upd W2.kT W2.hL, W2.gr, upd_same, Tots.upd W2.kT (Tots.snoc hui W2.hT), fun c mc => ?_⟩, by omega, lgs2, by rw [List.length_append]; show ts.length + 1 ≤ _; omega⟩
        rcases List.mem_append.mp mc with z | z
        · exact W2.tot c z
        · rw [List.mem_singleton.mp z]
          exact ⟨oki, .inr (.inl ⟨i, by omega, memi⟩)⟩
      · rintro σ H14 ⟨y, ss, lv, gs, tv, ts, W, lss, lgs, lts⟩
        rw [Int.toNat_natCast] at W lts
        exact ⟨y, ss, lv, gs, tv, ts, W, lts⟩
    clear W4
    rintro σ H14 ⟨⟨y3, y12, rfl⟩, ss, lv, gs, tv, ts, W, lts⟩
    have s01e := W.s01
    have ltv := W.hT.len
    have tot0 : TotI ord zs ss n m [] := ⟨⟨Nat.zero_le _, (fun x mx => by cases mx), trivial⟩, .inl rfl⟩
    -- perhaps an empty one
    refine ⟨_, rfl, by show 0 ≤ sizeLine; exact Nat.zero_le _, fun z0 nz0 => ?_⟩
    have W1 := W.same (same_upd (o := .tup []) nz0)
    have kz0 : (L2.upd H14 z0 (.tup [])) z0 = some (.tup []) := upd_same
    generalize L2.upd H14 z0 (.tup []) = H15 at W1 kz0
    refine ⟨by show 1 ≤ sizeLine; decide, fun b1 nb1 => ?_⟩
    have fb1 := W1.on.free nb1
    have W2 := W1.same (same_upd (o := .lst [.ref z0]) nb1)
    have kz1 := same_upd (o := .lst [.ref z0]) nb1 _ _ kz0
    have kb1 : (L2.upd H15 b1 (.lst [.ref z0])) b1 = some (.lst [.ref z0]) := upd_same
    generalize L2.upd H15 b1 (.lst [.ref z0]) = H16 at W2 kz1 kb1
    clear W W1 nz0 nb1 kz0
    refine ⟨_, rfl, p, q, _, rfl, W2.on.hd, by decide, by decide, fun H17 r hd17 kp17 r0 r1 => ?_⟩
    have W3 := W2.draw fS2 fL2 fT2 hd17 kp17
    have kz3 := (W2.on.base.1.draw hd17 kp17).le _ _ (frz_at kz1 (W2.on.hd.neOf kz1 (fun ys z => by cases z)))
    have kb3 := kp17 _ _ fb1.1 fb1.2.1 kb1
    clear W2 kz1 kb1 hd17 kp17
    refine ⟨rfl, .inr ⟨_, rfl, ?_⟩⟩
    have rep1 : ∀ (m1 : Nat), m1 ≤ 1 → ∀ (H : Hp) (t : Addr), SqT K H t [] → Tots K H (List.replicate ((m1 : Nat) : Int).toNat [V.ref t]).flatten (List.replicate m1 []) := fun m1 h1 H t ht => by
      have : m1 = 0 ∨ m1 = 1 := by omega
      rcases this with e | e <;> subst e
      · exact trivial
      · exact ⟨⟨t, rfl, ht⟩, trivial⟩
    obtain ⟨m1, em1, hm1⟩ : ∃ m1 : Nat, (if decide (V.int r = V.int 0) = true then (1 : Int) else 0) = (m1 : Int) ∧ m1 ≤ 1 := by
      split
      · exact ⟨1, rfl, Nat.le_refl _⟩
      · exact ⟨0, rfl, Nat.zero_le _⟩
    rw [em1]
    refine ⟨b1, _, _, rfl, rfl, kb3, by omega, by omega, by show 1 * _ ≤ _; omega, fun c1 nc1 => ?_⟩
    have lrep1 : (List.replicate ((m1 : Nat) : Int).toNat [V.ref z0]).flatten.length ≤ 1 := by
      have : m1 = 0 ∨ m1 = 1 := by omega
      rcases this with e | e
      · subst e; exact Nat.zero_le _
      · subst e; exact Nat.le_refl _
    have sc1 := same_upd (o := .lst (List.replicate ((m1 : Nat) : Int).toNat [V.ref z0]).flatten) nc1
    have W4 := W3.same sc1
    have kc1 : (L2.upd H17 c1 (.lst (List.replicate ((m1 : Nat) : Int).toNat [V.ref z0]).flatten)) c1 = some (.lst (List.replicate ((m1 : Nat) : Int).toNat [V.ref z0]).flatten) := upd_same
    have kz4 := sc1 _ _ kz3
    generalize L2.upd H17 c1 _ = H18 at sc1 W4 kc1 kz4
    have hrep := rep1 m1 hm1 H18 z0 (.inl (.inl kz4))
    generalize (List.replicate ((m1 : Nat) : Int).toNat [V.ref z0]).flatten = rv at *
    refine ⟨To, c1, _, _, rfl, rfl, W4.kT, kc1, by omega, fun X nX => ?_⟩
    have fX := W4.on.free nX
    have sX := same_upd (o := .lst (tv ++ rv)) nX
    have W5 := W4.same sX
    have kX : (L2.upd H18 X (.lst (tv ++ rv))) X = some (.lst (tv ++ rv)) := upd_same
    have hXs : Tots K (L2.upd H18 X (.lst (tv ++ rv))) (tv ++ rv) (ts ++ List.replicate m1 []) := Tots.mono sX (tots_app W4.hT hrep)
    have tX : ∀ c ∈ ts ++ List.replicate m1 [], TotI ord zs ss n m c := fun c mc => by
      rcases List.mem_append.mp mc with z | z
      · exact W4.tot c z
      · rw [(List.mem_replicate.mp z).2]; exact tot0
    have lX : (ts ++ List.replicate m1 []).length ≤ 9 * m + 1 := by rw [List.length_append, List.length_replicate]; omega
    generalize L2.upd H18 X (.lst (tv ++ rv)) = H19 at W5 kX hXs
    generalize tv ++ rv = xv at *
    generalize ts ++ List.replicate m1 [] = xt at *
    clear W3 W4 kz3 kb3 kc1 kz4 hrep sc1 sX nc1 nX fb1 rep1 lrep1
    -- perhaps one again
    refine ⟨_, rfl, _, rfl, by show 0 ≤ sizeLine; exact Nat.zero_le _, fun z1 nz1 => ?_⟩
    have W6 := W5.same (same_upd (o := .tup []) nz1)
    have sz1 := same_upd (o := .tup []) nz1
    have kz1 : (L2.upd H19 z1 (.tup [])) z1 = some (.tup []) := upd_same
    have kX6 := sz1 _ _ kX
    have hX6 := Tots.mono sz1 hXs
    generalize L2.upd H19 z1 (.tup []) = H20 at W6 kz1 kX6 hX6
    refine ⟨by show 1 ≤ sizeLine; decide, fun b2 nb2 => ?_⟩
    have sb2 := same_upd (o := .lst [.ref z1]) nb2
    have W7 := W6.same sb2
    have kb2 : (L2.upd H20 b2 (.lst [.ref z1])) b2 = some (.lst [.ref z1]) := upd_same
    have kz2 := sb2 _ _ kz1
    have kX7 := sb2 _ _ kX6
    have hX7 := Tots.mono sb2 hX6
    generalize L2.upd H20 b2 (.lst [.ref z1]) = H21 at W7 kb2 kz2 kX7 hX7
    refine ⟨To, b2, _, _, rfl, rfl, W7.kT, kb2, by show tv.length + 1 ≤ sizeLine; omega, fun b3 nb3 => ?_⟩
    have fb3 := W7.on.free nb3
    have sb3 := same_upd (o := .lst (tv ++ [.ref z1])) nb3
    have W8 := W7.same sb3
    have kb3 : (L2.upd H21 b3 (.lst (tv ++ [.ref z1]))) b3 = some (.lst (tv ++ [.ref z1])) := upd_same
    have kX8 := sb3 _ _ kX7
    have hX8 := Tots.mono sb3 hX7
    have hb8 : Tots K (L2.upd H21 b3 (.lst (tv ++ [.ref z1]))) (tv ++ [.ref z1]) (ts ++ [[]]) := tots_app W8.hT ⟨⟨z1, rfl, .inl (.inl (sb3 _ _ kz2))⟩, trivial⟩
    generalize L2.upd H21 b3 (.lst (tv ++ [.ref z1])) = H22 at W8 kb3 kX8 hX8 hb8
    clear W5 W6 W7 kX kX6 kX7 hXs hX6 hX7 kz1 kz2 kb2 sz1 sb2 sb3 nz1 nb2 nb3
    refine ⟨p, q, b3, _, rfl, W8.on.hd, kb3, fb3.1, fb3.2.1, by simp, by rw [List.length_append]; show tv.length + 1 < 1000000; omega, fun H23 v hd23 kp23 hv => ?_⟩
    have W9 := W8.draw fS2 fL2 fT2 hd23 kp23
    have le9 := (W8.on.base.1.draw hd23 kp23).le
    have kX9 := kp23 _ _ fX.1 fX.2.1 kX8
    have hX9 := (hX8.frz W8.on.hd).mono le9
    have hb9 := (hb8.frz W8.on.hd).mono le9
    obtain ⟨jv, ejv⟩ := List.mem_iff_getElem?.mp hv
    obtain ⟨tl, cl, rfl, ecl, htl⟩ := hb9.get ejv
    have tcl : TotI ord zs ss n m cl := by
      rcases List.mem_append.mp (List.mem_of_getElem? ecl) with z | z
      · exact W9.tot cl z
      · rw [List.mem_singleton.mp z]; exact tot0
    clear W8 kb3 kX8 hX8 hb8 hb9 le9 hd23 kp23 hv ejv ecl
    refine ⟨by show 1 ≤ sizeLine; decide, fun b4 nb4 => ?_⟩
    have fb4 := W9.on.free nb4
    have sb4 := same_upd (o := .lst [.ref tl]) nb4
    have WA := W9.same sb4
    have kb4 : (L2.upd H23 b4 (.lst [.ref tl])) b4 = some (.lst [.ref tl]) := upd_same
    have kXA := sb4 _ _ kX9
    have hXA := Tots.mono sb4 hX9
    have htA := seqT sb4 htl
    generalize L2.upd H23 b4 (.lst [.ref tl]) = H24 at WA kb4 kXA hXA htA
    refine ⟨_, rfl, p, q, _, rfl, WA.on.hd, by decide, by decide, fun H25 r2 hd25 kp25 r20 r21 => ?_⟩
    have WB := WA.draw fS2 fL2 fT2 hd25 kp25
    have leB := (WA.on.base.1.draw hd25 kp25).le
    have kXB := kp25 _ _ fX.1 fX.2.1 kXA
    have kbB := kp25 _ _ fb4.1 fb4.2.1 kb4
    have hXB := (hXA.frz WA.on.hd).mono leB
    have htB : Tots K H25 [.ref tl] [cl] := ((show Tots K H24 [.ref tl] [cl] from ⟨⟨tl, rfl, htA⟩, trivial⟩).frz WA.on.hd).mono leB
    clear W9 WA kX9 hX9 htl kb4 kXA hXA htA leB hd25 kp25 sb4 nb4
    refine ⟨rfl, .inr ⟨_, rfl, ?_⟩⟩
    obtain ⟨m2, em2, hm2⟩ : ∃ m2 : Nat, (if decide (V.int r2 = V.int 0) = true then (1 : Int) else 0) = (m2 : Int) ∧ m2 ≤ 1 := by
      split
      · exact ⟨1, rfl, Nat.le_refl _⟩
      · exact ⟨0, rfl, Nat.zero_le _⟩
    rw [em2]
    refine ⟨b4, _, _, rfl, rfl, kbB, by omega, by omega, by show 1 * _ ≤ _; omega, fun c2 nc2 => ?_⟩
    have hrep2 : ∃ dt : List (List Int), dt.length ≤ 1 ∧ (∀ c ∈ dt, TotI ord zs ss n m c) ∧ Tots K H25 (List.replicate ((m2 : Nat) : Int).toNat [V.ref tl]).flatten dt := by
      have : m2 = 0 ∨ m2 = 1 := by omega
      rcases this with e | e
      · subst e; exact ⟨[], Nat.zero_le _, (fun c mc => by cases mc), trivial⟩
      · subst e; exact ⟨[cl], Nat.le_refl _, fun c mc => (by rw [List.mem_singleton.mp mc]; exact tcl), htB⟩
    obtain ⟨dt, ldt, tdt, hdt⟩ := hrep2
    generalize (List.replicate ((m2 : Nat) : Int).toNat [V.ref tl]).flatten = dv at *
    have ldv := hdt.len
    have sc2 := same_upd (o := .lst dv) nc2
    have WC := WB.same sc2
    have kc2 : (L2.upd H25 c2 (.lst dv)) c2 = some (.lst dv) := upd_same
    have kXC := sc2 _ _ kXB
    have hXC := Tots.mono sc2 hXB
    have hdC := Tots.mono sc2 hdt
    generalize L2.upd H25 c2 (.lst dv) = H26 at WC kc2 kXC hXC hdC
    have lxv := hXC.len
    refine ⟨X, c2, _, _, rfl, rfl, kXC, kc2, by omega, fun Y nY => ?_⟩
    have fY := WC.on.free nY
    have sY := same_upd (o := .lst (xv ++ dv)) nY
    have WD := WC.same sY
    have kY : (L2.upd H26 Y (.lst (xv ++ dv))) Y = some (.lst (xv ++ dv)) := upd_same
    have hY : Tots K (L2.upd H26 Y (.lst (xv ++ dv))) (xv ++ dv) (xt ++ dt) := Tots.mono sY (tots_app hXC hdC)
    generalize L2.upd H26 Y (.lst (xv ++ dv)) = H27 at WD kY hY
    have tY : ∀ c ∈ xt ++ dt, TotI ord zs ss n m c := fun c mc => by
      rcases List.mem_append.mp mc with z | z
      · exact tX c z
      · exact tdt c z
    have lY : (xv ++ dv).length < 1000 := by rw [List.length_append]; omega
    have onE := back WD.on
    clear WB WC kXB hXB htB kbB sc2 kc2 kXC hXC hdC hdt nc2 nY
    -- many, and twelve of them in any sequence
    refine ⟨_, rfl, _, rfl, _, rfl, p, q, Y, _, rfl, WD.on.hd, .inl (.inl kY), fY.1, fY.2.1, lY, fun H28 M ys onm _ fM kM pm => ?_⟩
    have hM : Tots K H28 (xv ++ dv) (xt ++ dt) := (hY.frz WD.on.hd).mono onm.le
    have onF := onE.draw onm.hd onm.keep
    refine ⟨_, rfl, M, ys, rfl, .inl (.inl kM), fun N nN => ?_⟩
    have eN : cutV ys none (some (12 : Int)) = ys.take 12 := cut_pre ys 12
    rw [eN]
    have fN := onF.free nN
    have sN := same_upd (o := .lst (ys.take 12)) nN
    obtain ⟨ds, hds, mds⟩ := tots_in hM (ys := ys.take 12) fun v mv => pm.mem_iff.mp (List.mem_of_mem_take mv)
    have lds := hds.len
    rw [List.length_take] at lds
    refine ⟨by show 2 ≤ sizeLine; decide, fun u nu => ?_⟩
    have su := same_upd (o := .tup [.int (n : Int), .ref N]) nu
    exact fin _ u N n (ys.take 12) ds ((onF.same sN).same su) upd_same (su _ _ upd_same) ⟨fN.1, fN.2.1⟩ (hds.mono (sN.trans su)) (by omega) n12 (by omega) (fun c mc => (tY c (mds c mc)).ok) (gt_of ndo (hlen m (Nat.le_refl _)) s01e (fun c mc => tY c (mds c mc)) fun z mz => by rcases hz z mz with e | ⟨e, _⟩ <;> omega)
theorem ok__law_case {f : Addr} {fd : FuncData} (F : Fun K "_law_case" "_law_case" s__law_case f fd) (C__law_totals : Cl P w K mg base 3 "_law_totals" (spTot24 K)) (C__law_classes : Cl P w K mg base 1 "_law_classes" (spLawCls24 K)) (C__law_pick : Cl P w K mg base 2 "_law_pick" (spPick K)) (z_any : mg "any" = none) (z_len : mg "len" = none) (z_range : mg "range" = none) (z_tuple : mg "tuple" = none) (z_sorted : mg "sorted" = none) : FnOk P w K mg base CX0 4 f fd ["heap", "most"] (spCase24 K) := by
  refine F.ok sc__law_case (fun vs H Q E h => ?_) (fun cdv A outer s H vs Q E hr h => ?_)
  · obtain ⟨_, _, _, rfl, _⟩ := h
    rfl
  · obtain ⟨p, q, most, rfl, hd0, m1, m8, fin⟩ := h
    refine ⟨_, (pss_cons (ps_asg (pe_cl C__law_totals hr (by decide) rfl (pa_cons (pv 0) (pa_cons (pv 1) pa_nil))) (pg_tup rfl (pgs_cons (pg_name (i := 2) sc__law_case.nd rfl (.inl rfl)) (pgs_cons (pg_name (i := 3) sc__law_case.nd rfl (.inl rfl)) pgs_nil))))
    (pss_cons (ps_set (i := 4) sc__law_case.nd rfl (.inr rfl) (pe_cl C__law_classes hr (by decide) rfl (pa_cons (pv 2) (pa_cons (pv 3) pa_nil))))
    (pss_cons (ps_set (i := 5) sc__law_case.nd rfl (.inr rfl) (pe_lc (own := [("total", 15)]) (by rfl) sc__law_case.nd (pi_list (pv 3)) (blkOk_by (own := [("total", 15)]) (N := N__law_case) (sc := defScope s__law_case) (by decide +kernel)) (fun _ _ _ _ _ => (pg_name (i := 15) sc__law_case.nd rfl (.inr rfl))) (fun _ _ _ _ _ => pts_nil) (fun _ _ _ _ _ => (pe_lc (own := [("at", 16)]) (by rfl) sc__law_case.nd (pi_range1 (by rfl) z_range (pa_cons (pe_callB (show CallR _ (.builtin "len") (rLenK K) from call_lenK) (by rfl) z_len (by decide +kernel) (pa_cons (pv 4) pa_nil)) pa_nil)) (blkOk_by (own := [("at", 16)]) (N := N__law_case) (sc := { kind := .function, names := [((".0" : String), .local), (("total" : String), .cell), (("range" : String), .globalImplicit), (("len" : String), .globalImplicit), (("classes" : String), .cell)], isGenerator := false, isCoroutine := false }) (by decide +kernel)) (fun _ _ _ _ _ => (pg_name (i := 16) sc__law_case.nd rfl (.inl rfl))) (fun _ _ _ _ _ => (pts_one (pt_cmpR (show OpR _ (compareOp .In) (rIn K false) from op_in_seq) (pe_ix (show IxR _ (rIxL K) from ix_list) (pe_ix (show IxR _ (rIxL K) from ix_list) (pv 4) (pv 16) (fun _ _ => rfl)) pe_int (fun _ _ => rfl)) (pv 15) rfl))) (fun _ _ _ _ _ => (pv 16))))))
    (pss_cons (ps_par3 (i := 6) (j := 7) (l := 8) (by rfl) sc__law_case.nd rfl rfl rfl (by decide) (by decide) (by decide) rfl rfl rfl (pa_cons (pe_lc (own := [("pair", 17)]) (by rfl) sc__law_case.nd (pi_list (pv 5)) (blkOk_by (own := [("pair", 17)]) (N := N__law_case) (sc := defScope s__law_case) (by decide +kernel)) (fun _ _ _ _ _ => (pg_name (i := 17) sc__law_case.nd rfl (.inl rfl))) (fun _ _ _ _ _ => (pts_one (pt_cmpR op_eq (pe_callB (show CallR _ (.builtin "len") (rLenK K) from call_lenK) (by rfl) z_len (by decide +kernel) (pa_cons (pv 17) pa_nil)) pe_int (nomark _)))) (fun _ _ _ _ _ => (pv 17))) (pa_cons (pe_op op_rep (pe_lst (pa_cons pe_int pa_nil)) (pe_callB call_len_seq (by rfl) z_len (by decide +kernel) (pa_cons (pv 4) pa_nil))) (pa_cons (pe_lst pa_nil) pa_nil))) (by rfl))
    (pss_cut (ps_for PassesOwn.never rfl (pi_range1 (by rfl) z_range (pa_cons (pe_callB call_len_seq (by rfl) z_len (by decide +kernel) (pa_cons (pv 4) pa_nil)) pa_nil)) (pg_name (i := 9) sc__law_case.nd rfl (.inl rfl))
      (pss_one (ps_if (pt_cmpR op_eq (pe_ix ix_list (pv 7) (pv 9) (fun _ _ => rfl)) pe_int (nomark _))
        (pss_cons (ps_set (i := 10) sc__law_case.nd rfl (.inl rfl) (pe_lst (pa_cons (pv 9) pa_nil)))
        (pss_cons (ps_asg (pe_cl C__law_pick hr (by decide) rfl (pa_cons (pv 0) (pa_cons (pe_lst (pa_cons pe_int (pa_cons (pe_op op_sub pe_int pe_int) pa_nil))) pa_nil))) (pg_sub (pv 7) (pv 9) set_list))
        (pss_cut (ps_for PassesOwn.never rfl (pi_range1 (by rfl) z_range (pa_cons (pe_callB call_len_seq (by rfl) z_len (by decide +kernel) (pa_cons (pv 4) pa_nil)) pa_nil)) (pg_name (i := 11) sc__law_case.nd rfl (.inl rfl))
          (pss_one (ps_for PassesOwn.never rfl (pi_list (pe_op op_cat (pv 6) (pe_lc (own := [("pair", 17)]) (by rfl) sc__law_case.nd (pi_list (pv 6)) (blkOk_by (own := [("pair", 17)]) (N := N__law_case) (sc := defScope s__law_case) (by decide +kernel)) (fun _ _ _ _ _ => (pg_name (i := 17) sc__law_case.nd rfl (.inl rfl))) (fun _ _ _ _ _ => pts_nil) (fun _ _ _ _ _ => (show PE _ _ (tRevL K _) from pe_revL (pv 17)))))) (show PG _ _ (gUnl K 2 _) from pg_unl rfl (pgs_cons (pg_name (i := 12) sc__law_case.nd rfl (.inl rfl)) (pgs_cons (pg_name (i := 13) sc__law_case.nd rfl (.inl rfl)) pgs_nil)))
            (pss_one (ps_if (PW.pt (pw_and (pt_cmpR op_in_seq (pv 12) (pv 10) rfl) (pw_and1 (pt_cmpR op_notIn_seq (pv 13) (pv 10) rfl))))
              (pss_cons (ps_expr (pe_bm PySem.F.plainAttrs_list PySem.F.slot_list_append PySem.F.type_list_append mt_append (pv 10) (pa_cons (pv 13) pa_nil)))
              (pss_one (ps_asg (pe_op op_sub pe_int (pe_ix ix_list (pv 7) (pv 12) (fun _ _ => rfl))) (pg_sub (pv 7) (pv 13) set_list))))
              pss_nil)))))
        (pss_one (ps_expr (pe_bm PySem.F.plainAttrs_list PySem.F.slot_list_append PySem.F.type_list_append mt_append (pv 8) (pa_cons (pe_callTy call_tupE (by rfl) z_tuple (by decide +kernel) (pa_cons (pe_callB cr_sorted (by rfl) z_sorted (by decide +kernel) (pa_cons (pv 10) pa_nil)) pa_nil)) pa_nil)))))))
        pss_nil)))
    (pss_cons (ps_setLc (i := 14) (own := [("piece", 10)]) (by rfl) sc__law_case.nd rfl rfl (sw_true rfl rfl rfl (by decide +kernel)) (pi_list (pv 8)) (blkOk_by (own := [("piece", 10)]) (N := N__law_case) (sc := defScope s__law_case) (by decide +kernel)) (fun _ _ _ _ _ => (pg_name (i := 10) sc__law_case.nd rfl (.inr rfl))) (fun _ _ _ _ _ => pts_nil) (fun _ _ _ _ _ => (pe_callB (show CallR _ (.builtin "any") (rAny K) from cr_any rfl) (by rfl) z_any (by decide +kernel) (pa_cons (pe_lc (own := [("some", 18)]) (by rfl) sc__law_case.nd (show PI _ _ _ (iList K _) from pi_list (pv 5)) (blkOk_by (own := [("some", 18)]) (N := N__law_case) (sc := { kind := .function, names := [((".0" : String), .local), (("piece" : String), .cell), (("any" : String), .globalImplicit), (("inside" : String), .cell)], isGenerator := false, isCoroutine := false }) (by decide +kernel)) (fun _ _ _ _ _ => (pg_name (i := 18) sc__law_case.nd rfl (.inl rfl))) (fun _ _ _ _ _ => pts_nil) (fun _ _ _ _ _ => (pe_and (pe_cmpR op_eq (pe_callB (show CallR _ (.builtin "len") (rLenK K) from call_lenK) (by rfl) z_len (by decide +kernel) (pa_cons (pv 18) pa_nil)) pe_int (nomark _)) (pe_one (pe_cmpR (show OpR _ (compareOp .In) (rIn K false) from op_in_seq) (pe_ix (show IxR _ (rIxL K) from ix_list) (pv 18) pe_int (fun _ _ => rfl)) (pv 10) rfl))))) pa_nil))))
    (pss_one (ps_ret (pe_tup (pa_cons (pv 2) (pa_cons (pe_callTy call_tupE (by rfl) z_tuple (by decide +kernel) (pa_cons (pv 3) pa_nil)) (pa_cons (pv 4) (pa_cons (pe_callTy call_tupE (by rfl) z_tuple (by decide +kernel) (pa_cons (pv 7) pa_nil)) (pa_cons (pe_callTy call_tupE (by rfl) z_tuple (by decide +kernel) (pa_cons (pv 8) pa_nil)) (pa_cons (pv 14) pa_nil))))))))))))))), ?_⟩
    have big : sizeLine = 16777216 := by decide
    refine ⟨_, rfl, _, rfl, p, q, most, rfl, hd0, m1, m8, fun H1 u D n xs ts on1 ku kD nD hT n1 n12 t12 ok gt => ?_⟩
    refine ⟨u, _, rfl, .inl (.inl ku), rfl, _, _, rfl, ?_⟩
    refine ⟨_, _, rfl, rfl, ?_⟩
    refine ⟨_, rfl, _, rfl, D, n, xs, ts, rfl, .inl (.inl kD), hT, t12, n12, fun H2 C ys s2 nC kC hC => ?_⟩
    have lx := hT.len
    have ⟨cl12, clen⟩ := classes_len ts n
    have on2 := on1.same s2
    have kD2 := s2 _ _ kD
    have hT2 := hT.mono s2
    have fC := on1.hd.free nC
    have hC2 : LR (IntsX (fun a => a ≠ p ∧ a ≠ q) H2) ys (classesL ts n) := LR.imp (fun _ _ z => IntsX.weak (fun a e => on1.hd.free e) z) hC
    have lys := LR.len hC2
    clear hC hT kD nC ku s2 on1
    -- inside
    refine ⟨_, rfl, D, rfl, ⟨_, .inl (.inl kD2)⟩, fun I nI => ?_⟩
    have fI := on2.free nI
    refine lc_it (walk_list (K := K) (a := D) (xs := xs)) (fun i H' => Same H2 H' ∧ ∃ zs, H' I = some (.lst zs) ∧ LR (IntsX (fun a => a ≠ p ∧ a ≠ q ∧ a ≠ I) H') zs ((lotsC ts n).take i)) ⟨same_upd nI, [], upd_same, trivial⟩ (fun i H' _ h => .inl (.inl (h.1 _ _ kD2))) ?_ ?_
    · rintro i v H3 H4 hi ⟨s3, zs, kI, hz⟩ ⟨rfl, ev⟩
      obtain ⟨tl, c, rfl, ec, htl⟩ := (hT2.mono s3).get ev
      have mc := List.mem_of_getElem? ec
      have okc := ok c mc
      refine ⟨rfl, _, rfl, C, ys, rfl, .inl (.inl (.inl (s3 _ _ kC))), _, rfl, by omega, by omega, fun L nL => ?_⟩
      rw [lys]
      have fL := (on2.same s3).free nL
      have neI : L ≠ I := fun e => by rw [e, kI] at nL; cases nL
      refine lc_it (walk_range (lo := 0) (n := (((classesL ts n).length : Nat) : Int).toNat)) (fun j H' => Same H4 H' ∧ H' L = some (.lst ((rowC (classesL ts n) c j).map V.int))) ⟨same_upd nL, upd_same⟩ (fun _ _ _ _ => trivial) ?_ ?_
      · rintro j v H5 H6 hj ⟨s5, kL⟩ ⟨e, rfl⟩
        subst e
        have hj2 : j < (classesL ts n).length := by have : j < (((classesL ts n).length : Nat) : Int).toNat := hj; omega
        have ej : (0 : Int) + (j : Nat) = (j : Nat) := Int.zero_add _
        have ey : ys[j]? = some ys[j] := List.getElem?_eq_getElem (by omega)
        obtain ⟨A, eA, t, et, _, kt⟩ := LR.get (LR.imp (fun _ _ z => IntsX.mono (s3.trans s5) z) hC2) ey
        rw [et] at ey
        have at0 : atI (A.map V.int) 0 = some (.int (headI A)) := by
          have := cls_ne A (List.mem_of_getElem? eA)
          match A, this with
          | x :: r, _ => exact atI_nat (j := 0) rfl
        refine ⟨rfl, _, rfl, _, rfl, C, ys, _, _, rfl, rfl, .inl (.inl ((s3.trans s5) _ _ kC)), by rw [ej]; exact atI_nat ey, t, _, _, _, rfl, rfl, .inl (.inl kt), at0, _, rfl, tl, c.map V.int, rfl, .inr (seqT s5 htl), rfl, flat_ints c, _, rfl, ?_⟩
        rw [inV_ints, ← meet_head mc okc.2.1 eA]
        have rl := rowC_len (classesL ts n) c j
        cases hm : meet c A with
        | true =>
          refine iteT ⟨_, rfl, _, kL, by rw [List.length_map]; omega, HD.same_put s5 nL, ?_⟩
          rw [upd_same, rowC_yes eA hm, List.map_append]
          show some (HO.lst (_ ++ [V.int (0 + (j : Int))])) = _
          rw [ej]
          rfl
        | false =>
          refine iteF ⟨s5, ?_⟩
          rw [rowC_no eA hm]
          exact kL
      rintro H5 ⟨s5, kL⟩
      rw [Int.toNat_natCast] at kL
      have lz := LR.len hz
      rw [List.length_take] at lz
      refine ⟨_, s5 _ _ kI, by omega, HD.same_put (s3.trans s5) nI, zs ++ [.ref L], upd_same, ?_⟩
      have el : (lotsC ts n)[i]? = some (rowC (classesL ts n) c (classesL ts n).length) := by
        unfold lotsC
        rw [List.getElem?_map, ec]
        rfl
      rw [List.take_add_one, el]
      exact LR.imp (fun _ _ z => IntsX.upd (fun _ g => g.2.2) z) (LR.snocR (LR.imp (fun _ _ z => IntsX.mono s5 z) hz) ⟨L, rfl, ⟨fL.1, fL.2.1, neI⟩, kL⟩)
    rintro H3 ⟨s3, is, kI, hI⟩
    rw [lx, ← lotsC_len ts n, List.take_length] at hI
    have on3 := on2.same s3
    have kD3 := s3 _ _ kD2
    have kC3 := s3 _ _ kC
    have hT3 := hT2.mono s3
    have hC3 := LR.imp (fun _ _ z => IntsX.mono s3 z) hC2
    have lis := LR.len hI
    rw [lotsC_len] at lis
    clear hT2 hC2 kD2 kC on2 s3 nI
    -- ties
    refine ⟨_, rfl, I, rfl, ⟨_, .inl (.inl kI)⟩, fun T nT => ?_⟩
    have fT := on3.free nT
    have nTI : ∀ {a : Addr} {o : HO}, H3 a = some o → a ≠ T := fun {a o} h e => by rw [e, nT] at h; cases h
    refine lc_it (walk_list (K := K) (a := I) (xs := is)) (fun i H' => Same H3 H' ∧ ∃ zs, H' T = some (.lst zs) ∧ zs.length ≤ i ∧ LR (IntsX (fun a => a ≠ p ∧ a ≠ q ∧ a ≠ T) H') zs (tieL ((lotsC ts n).take i))) ⟨same_upd nT, [], upd_same, Nat.le_refl _, trivial⟩ (fun i H' _ h => .inl (.inl (h.1 _ _ kI))) ?_ ?_
    · rintro i v H4 H5 hi ⟨s4, zs, kT, lz, hz⟩ ⟨rfl, ev⟩
      obtain ⟨l, el, t, rfl, ft, kt⟩ := LR.get hI ev
      have kt4 := s4 _ _ kt
      have li := (List.getElem?_eq_some_iff.mp el).1
      rw [lotsC_len] at li
      have tk : tieL ((lotsC ts n).take (i + 1)) = tieL ((lotsC ts n).take i) ++ (if l.length = 2 then [l] else []) := by
        rw [List.take_add_one, el]
        unfold tieL
        rw [List.filter_append]
        congr 1
        show List.filter _ [l] = _
        rw [List.filter_cons, List.filter_nil]
        by_cases z : l.length = 2
        · rw [if_pos z, if_pos (decide_eq_true z)]
        · rw [if_neg z, if_neg (fun q => z (of_decide_eq_true q))]
      refine ⟨rfl, _, rfl, t, _, rfl, .inl (.inl (.inl kt4)), rfl, _, rfl, ?_⟩
      rw [List.length_map]
      refine ite2 (fun z => ?_) (fun z => ?_)
      · have z : l.length = 2 := by have := V.int.inj (of_decide_eq_true z); omega
        refine ⟨_, rfl, _, kT, by omega, HD.same_put s4 nT, zs ++ [.ref t], upd_same, by rw [List.length_append]; show zs.length + 1 ≤ _; omega, ?_⟩
        rw [tk, if_pos z]
        exact LR.imp (fun _ _ z => IntsX.upd (fun _ g => g.2.2) z) (LR.snocR hz ⟨t, rfl, ⟨ft.1, ft.2.1, nTI kt⟩, kt4⟩)
      · have z : ¬ l.length = 2 := fun e => z (decide_eq_true (congrArg V.int (by omega)))
        refine ⟨s4, zs, kT, by omega, ?_⟩
        rw [tk, if_neg z, List.append_nil]
        exact hz
    rintro H4 ⟨s4, tv, kT, _, hTi⟩
    rw [lis, ← lotsC_len ts n, List.take_length] at hTi
    have on4 := on3.same s4
    have ⟨onG, leG⟩ := on4.base
    have gD : frz p q H4 D = some (.lst xs) := frz_at (s4 _ _ kD3) nD
    have gC : frz p q H4 C = some (.lst ys) := frz_at (s4 _ _ kC3) fC
    have gI : frz p q H4 I = some (.lst is) := frz_at (s4 _ _ kI) ⟨fI.1, fI.2.1⟩
    have gT : frz p q H4 T = some (.lst tv) := frz_at kT ⟨fT.1, fT.2.1⟩
    have hTG : Tots K (frz p q H4) xs ts := Tots.frz on4.hd (hT3.mono s4)
    have hCG : LR (IntsL K (frz p q H4)) ys (classesL ts n) := lrx_frz (fun _ g => g) (LR.imp (fun _ _ z => IntsX.mono s4 z) hC3)
    have hIG : LR (IntsL K (frz p q H4)) is (lotsC ts n) := lrx_frz (fun _ g => ⟨g.1, g.2.1⟩) (LR.imp (fun _ _ z => IntsX.mono s4 z) hI)
    have hTiG : LR (IntsL K (frz p q H4)) tv (tieL (lotsC ts n)) := lrx_frz (fun _ g => ⟨g.1, g.2.1⟩) hTi
    clear hTi hT3 hC3 hI kT kI kD3 kC3 s4 on3 on4 nTI fI fT fC nD
    generalize frz p q H4 = G at *
    obtain ⟨β, hβ0⟩ := gt_col n12 ok gt
    have two := gt_two n12 ok gt
    have tE := tieE_of (lotsC_low ts n12)
    have hβ := both_col hβ0
    have lE : (tieL (lotsC ts n)).length ≤ 12 := Nat.le_trans (tie_len _) (by rw [lotsC_len]; exact t12)
    have sub := both_sub (lots := lotsC ts n)
    have four := gt_four (n := n) gt
    -- colours, pieces
    refine ⟨by show 1 ≤ sizeLine; decide, fun Z nZ => ?_⟩
    generalize eH5 : L2.upd H4 Z _ = H5
    have s5 := same_of nZ eH5
    have kZ := at_of eH5
    clear eH5
    have on5 := onG.same s5
    refine ⟨_, rfl, C, ys, rfl, .inl (.inl (.inl (on5.le _ _ gC))), Z, _, _, rfl, rfl, kZ, by omega, by omega, by show 1 * _ ≤ sizeLine; omega, fun CO nCO => ?_⟩
    have fCO := on5.free nCO
    generalize eH6 : L2.upd H5 CO _ = H6
    have s6 := same_of nCO eH6
    have kCO : H6 CO = some (.lst ((List.replicate (classesL ts n).length (0 : Int)).map V.int)) := by
      rw [at_of eH6, ← lys]
      congr 2
      exact rep_zero _
    clear eH6
    have on6 := on5.same s6
    refine ⟨by show 0 ≤ sizeLine; exact Nat.zero_le _, fun PO nPO => ?_⟩
    have fPO := on6.free nPO
    have nCP : PO ≠ CO := fun e => by rw [e, kCO] at nPO; cases nPO
    generalize eH7 : L2.upd H6 PO _ = H7
    have s7 := same_of nPO eH7
    have kPO := at_of eH7
    clear eH7
    have on7 := on6.same s7
    have kCO7 := s7 _ _ kCO
    clear on5 on6 s5 s6 s7 kZ nZ nCO nPO kCO onG
    refine ⟨_, _, _, rfl, ?_⟩
    refine ⟨fun σ H' => (∃ y9 y10 y11 y12 y13 : Option V, σ = [some (.ref p), some (.int most), some (.int n), some (.ref D), some (.ref C), some (.ref I), some (.ref T), some (.ref CO), some (.ref PO), y9, y10, y11, y12, y13, none, none, none, none, none]) ∧ On p q G H' ∧ ∃ cs Ps pv, H' CO = some (.lst (cs.map V.int)) ∧ H' PO = some (.lst pv) ∧ Tots K H' pv Ps ∧ Ps.length ≤ (classesL ts n).length ∧ PcW (bothL (tieL (lotsC ts n))) (classesL ts n).length (classesL ts n).length cs Ps, ?_, ?_⟩
    · refine ⟨_, rfl, C, ys, rfl, .inl (.inl (.inl (on7.le _ _ gC))), _, rfl, by omega, by omega, ?_⟩
      rw [lys]
      refine for_it (walk_range (lo := 0) (n := (((classesL ts n).length : Nat) : Int).toNat)) (fun i σ H' => (∃ y9 y10 y11 y12 y13 : Option V, σ = [some (.ref p), some (.int most), some (.int n), some (.ref D), some (.ref C), some (.ref I), some (.ref T), some (.ref CO), some (.ref PO), y9, y10, y11, y12, y13, none, none, none, none, none]) ∧ On p q G H' ∧ ∃ cs Ps pv, H' CO = some (.lst (cs.map V.int)) ∧ H' PO = some (.lst pv) ∧ Tots K H' pv Ps ∧ Ps.length ≤ i ∧ PcW (bothL (tieL (lotsC ts n))) (classesL ts n).length i cs Ps) ⟨⟨_, _, _, _, _, rfl⟩, on7, _, [], [], kCO7, kPO, trivial, Nat.le_refl _, PcW.start _ _⟩ (fun _ _ _ _ _ => trivial) ?_ ?_
      · rintro i x σ H8 H9 hi ⟨⟨y9, y10, y11, y12, y13, rfl⟩, on8, cs, Ps, pv, kCO, kPO, hP, lP, W⟩ ⟨rfl, rfl⟩
        have hi2 : i < (classesL ts n).length := by have : i < (((classesL ts n).length : Nat) : Int).toNat := hi; omega
        have z1 : (0 : Int) + (i : Nat) = ((i : Nat) : Int) := Int.zero_add _
        show gName 9 (V.int ((0 : Int) + ((i : Nat) : Int))) _ _ _
        rw [z1]
        have lc := W.len
        have ec := ints_at (l := cs) (i := i) (by omega)
        refine ⟨_, rfl, _, rfl, CO, _, _, _, rfl, rfl, .inl (.inl kCO), atI_nat ec, rfl, _, rfl, ?_⟩
        refine ite2 (fun z => ?_) (fun z => ?_)
        · have z : cs.getD i 0 = 0 := V.int.inj (of_decide_eq_true z)
          refine ⟨_, rfl, by show 1 ≤ sizeLine; decide, fun PL nPL => ?_⟩
          have fPL := on8.free nPL
          have nPC : PL ≠ CO := fun e => by rw [e, kCO] at nPL; cases nPL
          have nPP : PL ≠ PO := fun e => by rw [e, kPO] at nPL; cases nPL
          generalize eHa : L2.upd _ PL _ = Ha
          have sa := same_of nPL eHa
          have kPL : Ha PL = some (.lst (([(i : Int)] : List Int).map V.int)) := at_of eHa
          clear eHa
          have ona := on8.same sa
          refine ⟨_, rfl, _, _, rfl, rfl, by show 2 ≤ sizeLine; decide, fun L nL => ?_⟩
          have fL := ona.free nL
          generalize eHb : L2.upd _ L _ = Hb
          have sb := same_of nL eHb
          have kL := at_of eHb
          clear eHb
          have onb := ona.same sb
          refine ⟨p, q, L, _, rfl, onb.hd, kL, fL.1, fL.2.1, by simp, by show 2 < 1000000; decide, fun Hc v hdc kpc hv => ?_⟩
          have onc := onb.draw hdc kpc
          obtain ⟨c0, rfl, hc⟩ : ∃ c0 : Int, v = .int c0 ∧ (c0 = 1 ∨ c0 = -1) := by
            simp only [List.mem_cons, List.not_mem_nil, or_false] at hv
            rcases hv with e | e
            · exact ⟨1, e, .inl rfl⟩
            · exact ⟨0 - 1, e, .inr (by decide)⟩
          have sab := sa.trans sb
          have kCOc := kpc _ _ fCO.1 fCO.2.1 (sab _ _ kCO)
          have kPOc := kpc _ _ fPO.1 fPO.2.1 (sab _ _ kPO)
          have kPLc := kpc _ _ fPL.1 fPL.2.1 (sb _ _ kPL)
          have hPc : Tots K Hc pv Ps := (Tots.frz onb.hd (hP.mono sab)).mono (frz_keep kpc)
          clear hv kpc hdc onb ona kL fL nL sa sb sab kCO kPO kPL hP on8 nPL
          refine ⟨_, rfl, _, rfl, CO, _, _, i, rfl, rfl, kCOc, ixN_nat (by rw [List.length_map]; omega), ?_⟩
          have e0 : (cs.map V.int).set i (.int c0) = (colL cs [(i : Int)] (gam β (i : Int) c0) (classesL ts n).length).map V.int := by
            rw [← List.map_set, col_start lc hi2]
          rw [e0]
          generalize eHd : L2.upd Hc CO _ = Hd
          have kCO : Hd CO = some (.lst ((colL cs [(i : Int)] (gam β (i : Int) c0) (classesL ts n).length).map V.int)) := by rw [← eHd, upd_same]
          have kPL : Hd PL = some (.lst (([(i : Int)] : List Int).map V.int)) := by rw [← eHd, upd_ne nPC]; exact kPLc
          have kPO : Hd PO = some (.lst pv) := by rw [← eHd, upd_ne nCP]; exact kPOc
          have hP : Tots K Hd pv Ps := by rw [← eHd]; exact hPc.upd kCOc
          have ond : On p q G Hd := by rw [← eHd]; exact onc.put fCO
          clear eHd hPc kPOc kPLc kCOc onc e0
          have good0 := goodC_start W hi2 z
          refine ⟨fun σ H' => (∃ y11 y12 y13 : Option V, σ = [some (.ref p), some (.int most), some (.int n), some (.ref D), some (.ref C), some (.ref I), some (.ref T), some (.ref CO), some (.ref PO), some (.int i), some (.ref PL), y11, y12, y13, none, none, none, none, none]) ∧ On p q G H' ∧ H' PO = some (.lst pv) ∧ Tots K H' pv Ps ∧ ∃ S, H' PL = some (.lst (S.map V.int)) ∧ H' CO = some (.lst ((colL cs S (gam β (i : Int) c0) (classesL ts n).length).map V.int)) ∧ GoodC (classesL ts n).length Ps (i : Int) S ∧ ClosC (bothL (tieL (lotsC ts n))) S, ?_, ?_⟩
          · refine ⟨_, rfl, C, ys, rfl, .inl (.inl (.inl (ond.le _ _ gC))), _, rfl, by omega, by omega, ?_⟩
            rw [lys]
            refine for_it (walk_range (lo := 0) (n := (((classesL ts n).length : Nat) : Int).toNat)) (fun k σ H' => (∃ y11 y12 y13 : Option V, σ = [some (.ref p), some (.int most), some (.int n), some (.ref D), some (.ref C), some (.ref I), some (.ref T), some (.ref CO), some (.ref PO), some (.int i), some (.ref PL), y11, y12, y13, none, none, none, none, none]) ∧ On p q G H' ∧ H' PO = some (.lst pv) ∧ Tots K H' pv Ps ∧ ∃ S, H' PL = some (.lst (S.map V.int)) ∧ H' CO = some (.lst ((colL cs S (gam β (i : Int) c0) (classesL ts n).length).map V.int)) ∧ GoodC (classesL ts n).length Ps (i : Int) S ∧ (ClosC (bothL (tieL (lotsC ts n))) S ∨ k + 1 ≤ S.length)) ⟨⟨_, _, _, rfl⟩, ond, kPO, hP, [(i : Int)], kPL, kCO, good0, .inr (Nat.le_refl _)⟩ (fun _ _ _ _ _ => trivial) ?_ ?_
            · clear kPO hP kPL kCO ond
              rintro k x σ He He2 hk ⟨⟨y11, y12, y13, rfl⟩, one, kPO, hP, S, kPL, kCO, good, cl⟩ ⟨rfl, rfl⟩
              show gName 11 _ _ _ _
              refine ⟨_, rfl, _, rfl, T, rfl, ⟨_, .inl (.inl (one.le _ _ gT))⟩, fun R nR => ?_⟩
              have ltv := LR.len hTiG
              have nRC : R ≠ CO := fun e => by rw [e, kCO] at nR; cases nR
              have nRP : R ≠ PL := fun e => by rw [e, kPL] at nR; cases nR
              refine lc_it (walk_list (K := K) (a := T) (xs := tv)) (fun j H' => Same He2 H' ∧ ∃ zs, H' R = some (.lst zs) ∧ LR (IntsX (fun a => a ≠ CO ∧ a ≠ PL ∧ a ≠ R) H') zs (((tieL (lotsC ts n)).take j).map List.reverse)) ⟨same_upd nR, [], upd_same, trivial⟩ (fun j H' _ h => .inl (.inl (h.1 _ _ (one.le _ _ gT)))) ?_ ?_
              · rintro j v Hf Hg hj ⟨sf, zs, kR, hz⟩ ⟨rfl, ev⟩
                obtain ⟨l, el, t, rfl, kt⟩ := LR.get hTiG ev
                have lz := LR.len hz
                rw [List.length_map, List.length_take] at lz
                refine ⟨rfl, _, rfl, t, _, rfl, seqLs (one.le.trans sf) kt, fun u nu => ?_⟩
                have neu : u ≠ CO ∧ u ≠ PL ∧ u ≠ R := ⟨(fun e => by rw [e, sf _ _ kCO] at nu; cases nu), (fun e => by rw [e, sf _ _ kPL] at nu; cases nu), (fun e => by rw [e, kR] at nu; cases nu)⟩
                generalize eHh : L2.upd _ u _ = Hh
                have sh := same_of nu eHh
                have ku := at_of eHh
                clear eHh
                refine ⟨_, sh _ _ kR, by omega, HD.same_put (sf.trans sh) nR, zs ++ [.ref u], upd_same, ?_⟩
                rw [List.take_add_one, el, List.map_append]
                exact LR.imp (fun _ _ z => IntsX.upd (fun _ g => g.2.2) z) (LR.snocR (LR.imp (fun _ _ z => IntsX.mono sh z) hz) ⟨u, rfl, neu, by rw [ku, List.map_reverse]⟩)
              rintro Hf ⟨sf, rv, kR, hR⟩
              rw [ltv, List.take_length] at hR
              have lrv := LR.len hR
              rw [List.length_map] at lrv
              have onf := one.same sf
              refine ⟨T, R, _, _, rfl, rfl, onf.le _ _ gT, kR, by omega, fun EL nEL => ?_⟩
              have nEC : EL ≠ CO := fun e => by rw [e, sf _ _ kCO] at nEL; cases nEL
              have nEP : EL ≠ PL := fun e => by rw [e, sf _ _ kPL] at nEL; cases nEL
              generalize eHg : L2.upd _ EL _ = Hg
              have sg := same_of nEL eHg
              have kEL := at_of eHg
              clear eHg
              have ong := onf.same sg
              have seg := sf.trans sg
              have gG : Same G (frz CO PL Hg) := frz_sub ong.le fCO.2.2 fPL.2.2
              have gEL : frz CO PL Hg EL = some (.lst (tv ++ rv)) := frz_at kEL ⟨nEC, nEP⟩
              have hE : LR (IntsL K (frz CO PL Hg)) (tv ++ rv) (bothL (tieL (lotsC ts n))) := LR.append (LR.imp (fun _ _ z => IntsL.mono gG z) hTiG) (lrx_frz (fun _ g => ⟨g.1, g.2.1⟩) (LR.imp (fun _ _ z => IntsX.mono sg z) hR))
              have kPO := seg _ _ kPO
              have kPL := seg _ _ kPL
              have kCO := seg _ _ kCO
              have hP := hP.mono seg
              refine ⟨EL, rfl, ⟨_, .inl (.inl kEL)⟩, ?_⟩
              have sF : Same (frz CO PL Hg) Hg := frz_le
              have gCO : frz CO PL Hg CO = none := (frz_p CO PL Hg).1
              have gPL : frz CO PL Hg PL = none := (frz_p CO PL Hg).2
              clear kEL hR sf sg seg nEL nEC nEP nRC nRP kR nR onf one gG
              generalize frz CO PL Hg = G2 at *
              have lev := LR.len hE
              refine for_it (walk_list (K := K) (a := EL) (xs := tv ++ rv)) (fun j σ H' => (∃ y11 y12 y13 : Option V, σ = [some (.ref p), some (.int most), some (.int n), some (.ref D), some (.ref C), some (.ref I), some (.ref T), some (.ref CO), some (.ref PO), some (.int i), some (.ref PL), y11, y12, y13, none, none, none, none, none]) ∧ On p q G H' ∧ Same G2 H' ∧ H' PO = some (.lst pv) ∧ Tots K H' pv Ps ∧ H' PL = some (.lst ((((bothL (tieL (lotsC ts n))).take j).foldl stepC S).map V.int)) ∧ H' CO = some (.lst ((colL cs (((bothL (tieL (lotsC ts n))).take j).foldl stepC S) (gam β (i : Int) c0) (classesL ts n).length).map V.int)) ∧ GoodC (classesL ts n).length Ps (i : Int) (((bothL (tieL (lotsC ts n))).take j).foldl stepC S)) ⟨⟨_, _, _, rfl⟩, ong, sF, kPO, hP, kPL, kCO, good⟩ (fun j σ H' _ h => .inl (.inl (h.2.2.1 _ _ gEL))) ?_ ?_
              · clear kPO hP kPL kCO ong good sF cl
                rintro j v σ Hi Hj hj ⟨⟨y11, y12, y13, rfl⟩, oni, si, kPO, hP, kPL, kCO, good⟩ ⟨rfl, ev⟩
                obtain ⟨e, ee, t, rfl, kt⟩ := LR.get hE ev
                have me := List.mem_of_getElem? ee
                have good2 := good.step tE W me
                have e1 : ((bothL (tieL (lotsC ts n))).take (j + 1)).foldl stepC S = stepC (((bothL (tieL (lotsC ts n))).take j).foldl stepC S) e := by
                  rw [List.take_add_one, ee, List.foldl_append]
                  rfl
                obtain ⟨a, b, rfl, la, lb⟩ := tE.two e me
                have hab := hβ _ _ me
                generalize ((bothL (tieL (lotsC ts n))).take j).foldl stepC S = S1 at *
                rw [e1]
                clear e1 ee
                have few := goodC_few good
                obtain ⟨a, rfl⟩ := Int.eq_ofNat_of_zero_le la.1
                obtain ⟨b, rfl⟩ := Int.eq_ofNat_of_zero_le lb.1
                have la : a < (classesL ts n).length := by omega
                have lb : b < (classesL ts n).length := by omega
                show gUnl K 2 _ (V.ref t) _ _ _
                refine ⟨t, _, rfl, seqLs si kt, rfl, _, _, rfl, _, _, rfl, rfl, ?_⟩
                refine ⟨_, rfl, _, rfl, PL, _, rfl, .inl (.inl (.inl kPL)), rfl, flat_ints S1, _, rfl, ?_⟩
                rw [inV_ints]
                cases ha : S1.contains (a : Int) with
                | false =>
                  rw [stepC_no1 ha] at good2 ⊢
                  exact iteF ⟨⟨_, _, _, rfl⟩, oni, si, kPO, hP, kPL, kCO, good2⟩
                | true =>
                  refine iteT ⟨_, rfl, _, rfl, PL, _, rfl, .inl (.inl (.inl kPL)), rfl, flat_ints S1, _, rfl, ?_⟩
                  rw [inV_ints]
                  cases hb : S1.contains (b : Int) with
                  | true =>
                    rw [stepC_no2 hb] at good2 ⊢
                    exact iteF ⟨⟨_, _, _, rfl⟩, oni, si, kPO, hP, kPL, kCO, good2⟩
                  | false =>
                    rw [stepC_yes ha hb] at good2 ⊢
                    have ma := List.contains_iff_mem.mp ha
                    refine iteT ⟨_, rfl, .inl ⟨rfl, _, .inl (.inl kPL)⟩, _, rfl, PL, _, _, rfl, rfl, kPL, by rw [List.length_map]; omega, ?_⟩
                    generalize eHk : L2.upd _ PL _ = Hk
                    have kPL2 : Hk PL = some (.lst ((S1 ++ [(b : Int)]).map V.int)) := by rw [← eHk, upd_same, List.map_append]; rfl
                    have kCO2 := (show Hk CO = Hj CO from by rw [← eHk, upd_ne nPC.symm]).trans kCO
                    have kPO2 := (show Hk PO = Hj PO from by rw [← eHk, upd_ne nPP.symm]).trans kPO
                    have hP2 : Tots K Hk pv Ps := by rw [← eHk]; exact hP.upd kPL
                    have on2 : On p q G Hk := by rw [← eHk]; exact oni.put fPL
                    have s2 : Same G2 Hk := by rw [← eHk]; exact HD.same_put si gPL
                    clear eHk kPL kCO kPO hP oni si
                    refine ⟨_, rfl, _, rfl, CO, _, _, _, rfl, rfl, .inl (.inl kCO2), atI_nat (ints_at (i := a) (by rw [colL_len]; exact la)), _, _, rfl, rfl, _, rfl, _, rfl, CO, _, _, b, rfl, rfl, kCO2, ixN_nat (by rw [List.length_map, colL_len]; exact lb), ?_⟩
                    rw [← List.map_set, col_next hab la lb ma]
                    refine ⟨⟨_, _, _, rfl⟩, on2.put fCO, HD.same_put s2 gCO, ?_, hP2.upd kCO2, ?_, upd_same, good2⟩
                    · rw [upd_ne nCP]; exact kPO2
                    · rw [upd_ne nPC]; exact kPL2
              · rintro σ Hi ⟨⟨y11, y12, y13, rfl⟩, oni, _, kPO, hP, kPL, kCO, good⟩
                rw [lev, List.take_length] at kPL kCO good
                exact ⟨⟨_, _, _, rfl⟩, oni, kPO, hP, _, kPL, kCO, good, roundC cl⟩
            · rintro σ He ⟨⟨y11, y12, y13, rfl⟩, one, kPO, hP, S, kPL, kCO, good, cl⟩
              rw [Int.toNat_natCast] at cl
              refine ⟨⟨_, _, _, rfl⟩, one, kPO, hP, S, kPL, kCO, good, cl.resolve_right fun z => ?_⟩
              have := goodC_few good
              omega
          clear kPO hP kPL kCO ond
          rintro σ Hd ⟨⟨y11, y12, y13, rfl⟩, ond, kPO, hP, S, kPL, kCO, good, clo⟩
          have few := goodC_few good
          refine ⟨_, rfl, .inl ⟨rfl, _, .inl (.inl kPO)⟩, _, rfl, PL, S, rfl, .inl (.inl kPL), by omega, fun ns r pm le nr => ?_⟩
          generalize eHe : L2.upd _ r _ = He
          have se := same_of nr eHe
          have kr := at_of eHe
          clear eHe
          refine ⟨r, _, rfl, .inl (.inl (.inl kr)), fun Hf u sf hu => ?_⟩
          have sdf := se.trans sf
          have kPOf := sdf _ _ kPO
          have lpv := hP.len
          refine ⟨PO, _, _, rfl, rfl, kPOf, by omega, ⟨_, _, _, _, _, rfl⟩, (ond.same sdf).put fPO, colL cs S (gam β (i : Int) c0) (classesL ts n).length, Ps ++ [ns], pv ++ [.ref u], ?_, upd_same, Tots.upd kPOf (show Tots K Hf (pv ++ [V.ref u]) (Ps ++ [ns]) from Tots.snoc hu (hP.mono sdf)), by rw [List.length_append]; show Ps.length + 1 ≤ i + 1; omega, W.add tE hβ hi2 hc good clo pm le⟩
          rw [upd_ne nCP.symm]
          exact sdf _ _ kCO
        · have z : cs.getD i 0 ≠ 0 := fun e => z (decide_eq_true (congrArg V.int e))
          exact ⟨⟨_, _, _, _, _, rfl⟩, on8, cs, Ps, pv, kCO, kPO, hP, by omega, W.skip z⟩
      · rintro σ H8 ⟨y, on8, cs, Ps, pv, kCO, kPO, hP, lP, W⟩
        rw [Int.toNat_natCast] at lP W
        exact ⟨y, on8, cs, Ps, pv, kCO, kPO, hP, lP, W⟩
    clear kCO7 kPO on7
    rintro σ H8 ⟨⟨y9, y10, y11, y12, y13, rfl⟩, on8, cs, Ps, pv, kCO, kPO, hP, lP, W⟩
    have lpv := hP.len
    have lcs := W.len
    -- fixed
    refine ⟨_, rfl, PO, rfl, ⟨_, .inl (.inl kPO)⟩, fun Fx nFx => ?_⟩
    have fFx := on8.free nFx
    refine lc_it (walk_list (K := K) (a := PO) (xs := pv)) (fun j H' => Same H8 H' ∧ H' Fx = some (.lst (((Ps.take j).map (loneB (lotsC ts n))).map V.bl))) ⟨same_upd nFx, upd_same⟩ (fun j H' _ h => .inl (.inl (h.1 _ _ kPO))) ?_ ?_
    · rintro j v H9 Ha hj ⟨s9, kF⟩ ⟨rfl, ev⟩
      obtain ⟨t, P, rfl, eP, ht⟩ := (hP.mono s9).get ev
      have lim := on8.le.trans s9
      have lj := (List.getElem?_eq_some_iff.mp eP).1
      refine ⟨rfl, _, rfl, I, rfl, ⟨_, .inl (.inl (lim _ _ gI))⟩, fun B nB => ?_⟩
      refine lc_it (walk_list (K := K) (a := I) (xs := is)) (fun k H' => Same Ha H' ∧ H' B = some (.lst ((((lotsC ts n).take k).map (fun l => decide (l.length = 1) && P.contains (l.headD 0))).map V.bl))) ⟨same_upd nB, upd_same⟩ (fun k H' _ h => .inl (.inl (h.1 _ _ (lim _ _ gI)))) ?_ ?_
      · rintro k v Hb Hc hk ⟨sb, kB⟩ ⟨rfl, ev⟩
        obtain ⟨l, el, t2, rfl, kt⟩ := LR.get hIG ev
        have kt := seqLs (lim.trans sb) kt
        have lk := (List.getElem?_eq_some_iff.mp el).1
        rw [lotsC_len] at lk
        have put : ∀ b : Bool, b = (decide (l.length = 1) && P.contains (l.headD 0)) → Same Ha (L2.upd Hc B (.lst (((((lotsC ts n).take k).map (fun l => decide (l.length = 1) && P.contains (l.headD 0))).map V.bl) ++ [.bl b]))) ∧ L2.upd Hc B (.lst (((((lotsC ts n).take k).map (fun l => decide (l.length = 1) && P.contains (l.headD 0))).map V.bl) ++ [.bl b])) B = some (.lst ((((lotsC ts n).take (k + 1)).map (fun l => decide (l.length = 1) && P.contains (l.headD 0))).map V.bl)) := fun b eb => ⟨HD.same_put sb nB, by
          rw [upd_same, List.take_add_one, el, List.map_append, List.map_append, eb]
          rfl⟩
        have lB : ((((lotsC ts n).take k).map (fun l => decide (l.length = 1) && P.contains (l.headD 0))).map V.bl).length < sizeLine := by
          rw [List.length_map, List.length_map, List.length_take]
          omega
        refine ⟨rfl, _, rfl, t2, _, rfl, .inl kt, rfl, ?_⟩
        by_cases hl : l.length = 1
        · obtain ⟨x, rfl⟩ : ∃ x, l = [x] := by
            match l, hl with
            | [x], _ => exact ⟨x, rfl⟩
          refine ⟨_, rfl, ite_eq true (decide_eq_true rfl) (iteT ?_)⟩
          refine ⟨_, rfl, t2, _, _, .int x, rfl, rfl, kt, at00 _ _, _, rfl, t, P.map V.int, rfl, .inr (seqT sb (seqT (fun _ _ e => e) ht)), rfl, flat_ints P, ?_⟩
          rw [inV_ints]
          exact ⟨_, kB, lB, put _ rfl⟩
        · refine ⟨_, rfl, ite_eq false (decide_eq_false fun e => hl ?_) (iteF ?_)⟩
          · have := V.int.inj e
            rw [List.length_map] at this
            omega
          · exact ⟨_, kB, lB, put _ (by rw [decide_eq_false hl]; rfl)⟩
      rintro Hb ⟨sb, kB⟩
      rw [lis, ← lotsC_len ts n, List.take_length] at kB
      refine ⟨B, _, rfl, .inl (.inl kB), ?_⟩
      refine ⟨_, sb _ _ kF, by rw [List.length_map, List.length_map, List.length_take]; omega, HD.same_put (s9.trans sb) nFx, ?_⟩
      rw [upd_same, List.take_add_one, eP, List.map_append, List.map_append]
      refine congrArg (fun r => some (HO.lst (List.map V.bl (List.map (loneB (lotsC ts n)) (List.take j Ps)) ++ r))) ?_
      show [V.bl _] = [V.bl (loneB (lotsC ts n) P)]
      unfold loneB
      rw [List.any_map]
      rfl
    rintro H9 ⟨s9, kF⟩
    rw [lpv, List.take_length] at kF
    have on9 := on8.same s9
    have kCO9 := s9 _ _ kCO
    have kPO9 := s9 _ _ kPO
    have hP9 := hP.mono s9
    clear on8 kCO kPO hP s9 nFx
    refine ⟨_, rfl, _, rfl, D, _, rfl, .inl (.inl (.inl (on9.le _ _ gD))), fun Ha ut sa hut => ?_⟩
    refine ⟨_, rfl, _, rfl, CO, _, rfl, .inl (.inl (.inl (sa _ _ kCO9))), fun Hb uc sb huc => ?_⟩
    refine ⟨_, rfl, PO, _, rfl, .inl (.inl (.inl ((sa.trans sb) _ _ kPO9))), fun Hc up sc hup => ?_⟩
    refine ⟨_, rfl, by show 6 ≤ sizeLine; decide, fun u nu => ?_⟩
    have su := same_upd (o := .tup [.int (n : Int), .ref ut, .ref C, .ref uc, .ref up, .ref Fx]) nu
    have ku : L2.upd Hc u _ u = some (.tup [.int (n : Int), .ref ut, .ref C, .ref uc, .ref up, .ref Fx]) := upd_same
    generalize L2.upd Hc u _ = Hd at *
    have s9d := sa.trans (sb.trans (sc.trans su))
    have ond := on9.same s9d
    have cv : ∀ x ∈ cs, x = 1 ∨ x = -1 := fun x mx => by
      obtain ⟨i, ei⟩ := List.mem_iff_getElem?.mp mx
      have li := (List.getElem?_eq_some_iff.mp ei).1
      have h1 := W.seen i (by omega)
      have h2 := W.val i
      rw [List.getD_eq_getElem?_getD, ei] at h1 h2
      exact h2.resolve_left h1
    have pok : PsOk cs.length Ps := ⟨by omega, fun P mP => (W.ps P mP).1, fun P mP => by
      have ⟨_, asc, low⟩ := W.ps P mP
      have := nodup_le P (rangeL (classesL ts n).length) (asc.imp fun z => by omega) fun x mx => mem_range.mpr (low x mx)
      rw [range_len] at this
      omega, fun P mP => by rw [lcs]; exact (W.ps P mP).2.2⟩
    have gk : Same G (frz p q Hd) := ond.base.2
    refine fin Hd u n ts cs Ps (ond.drop leG) ⟨ut, C, uc, up, Fx, xs, pv ++ [], seqTK ond.hd keep_frz (.inl (.inl ku)), ?_, hTG.mono gk, ⟨ys, .inl (.inl (gk _ _ gC)), LR.imp (fun _ _ z => IntsL.mono gk z) hCG⟩, ?_, ?_, ?_, ?_⟩ ⟨n1, n12, t12, ok, four, cv, lcs, pok, W.done two sub⟩
    · exact seqTK ond.hd keep_frz (seqT (sb.trans (sc.trans su)) hut)
    · exact seqTK ond.hd keep_frz (seqT (sc.trans su) huc)
    · rw [List.append_nil]
      exact seqTK ond.hd keep_frz (seqT su hup)
    · rw [List.append_nil]
      exact Tots.frz ond.hd (hP9.mono s9d)
    · exact .inl (.inl (frz_at (s9d _ _ kF) ⟨fFx.1, fFx.2.1⟩))
theorem ok_init_Blocks {f C : Addr} {fd : FuncData} (F : Fun K "__init__" "Blocks.__init__" i_Blocks f fd) (B : BlkC K C) : FnOk P w K mg base CX0 1 f fd ["self", "colours", "pieces"] (spInitB K C) := by
  refine F.ok sc_i_Blocks (fun vs H Q E h => ?_) (fun cdv A outer s H vs Q E hr h => ?_)
  · obtain ⟨_, _, _, _, rfl, _⟩ := h
    rfl
  · obtain ⟨a, dx, c, z, rfl, ha, fin⟩ := h
    refine ⟨_, (pss_cons (ps_fld (pv 0) (pv 1) (by rfl))
      (pss_one (ps_fld (pv 0) (pv 2) (by rfl)))), ?_⟩
    refine ⟨_, rfl, _, rfl, a, C, dx, [], rfl, ha, B.c, B.nc, by decide, ?_⟩
    refine ⟨_, rfl, _, rfl, a, C, dx, _, rfl, upd_same, B.c, B.np, by show 1 < 1000; decide, ?_⟩
    refine fin _ (fun b o nb hb => ?_) ?_
    · rw [upd_ne nb, upd_ne nb]
      exact hb
    · rw [upd_same]
      rfl
end
end K25
namespace CK
open PySem PySem.Spec PyProof.Rows L2 VG FR HD M24
def spLineErr (K : PySem.W.Frag) : Sp := fun vs H Q _ => ∃ (u : Addr) (s t n : Int), vs = [.ref u, .int n] ∧ SqT K H u (pV (US s t)) ∧ 0 < s ∧ s.natAbs < 2 ^ 24 ∧ t.natAbs < 2 ^ 45 ∧ n.natAbs < 2 ^ 45 ∧ ∀ H' v, Same H H' → H v = none → H' v = some (.tup (pV (US s (n * s - t)))) → Q (.ref v) H'
def spBehind25 (K : PySem.W.Frag) : Sp := fun vs H Q _ => ∃ (e u : Addr) (k : Nat) (s t n : Int) (es : List Int), vs = [.ref e, .int k, .ref u, .int n] ∧ ErT K s H e es ∧ k < es.length ∧ es.length ≤ 100 ∧ (∀ x ∈ es, x.natAbs < 2 ^ 45) ∧ SqT K H u (pV (US s t)) ∧ 0 < s ∧ s.natAbs < 2 ^ 24 ∧ t.natAbs < 2 ^ 45 ∧ n.natAbs < 2 ^ 45 ∧ (n * s - t).natAbs < 2 ^ 45 ∧ ∀ H' v, Same H H' → ErT K s H' v (behS es k (n * s - t)) → Q (.ref v) H'
/-- a line's amount over the common bottom -/
structure LineW (s t : Int) : Prop where
  s1 : 1 ≤ s
  s2 : s ≤ 100003
  t1 : t.natAbs < 2 ^ 40
theorem LineW.wh {s t : Int} (h : LineW s t) : ∀ w ∈ whU s t, w.natAbs < 2 ^ 45 ∧ (w * s - t).natAbs < 2 ^ 17 := fun w mw => by
  have e17 : (2 : Nat) ^ 17 = 131072 := by decide
  have e40 : (2 : Nat) ^ 40 = 1099511627776 := by decide
  have e45 : (2 : Nat) ^ 45 = 35184372088832 := by decide
  have s1 := h.s1
  have s2 := h.s2
  have t1 := h.t1
  have d1 := Int.mul_ediv_add_emod t s
  have m0 := Int.emod_nonneg t (by omega : s ≠ 0)
  have m1 := Int.emod_lt_of_pos t (by omega : 0 < s)
  have q : (t / s).natAbs ≤ t.natAbs := Int.natAbs_ediv_le_natAbs t s
  have e1 : t / s * s - t = -(t % s) := by rw [Int.mul_comm]; omega
  have e2 : (t / s + 1) * s - t = s - t % s := by
    rw [Int.add_mul, Int.one_mul, Int.mul_comm (t / s) s]
    omega
  unfold whU at mw
  split at mw
  · rw [List.mem_singleton.mp mw, e1]
    omega
  · rcases List.mem_cons.mp mw with e | mw
    · rw [e, e1]
      omega
    · rw [List.mem_singleton.mp mw, e2]
      omega
/-- what is said to the court: a table, blocks, errors inside, a kind -/
def At25 (K : PySem.W.Frag) (CT CB : Addr) (H : Hp) (a b e : Addr) (ks : List Str) (ts : List (List Int)) (cs : List Int) (Ps : List (List Int)) (s : Int) (es : List Int) : Prop := Tab K CT H a ks ts ∧ BlkO K CB H b cs Ps ∧ ErT K s H e es
theorem At25.mono {K : PySem.W.Frag} {CT CB : Addr} {H H' : Hp} {a b e : Addr} {ks : List Str} {ts : List (List Int)} {cs : List Int} {Ps : List (List Int)} {s : Int} {es : List Int} (z : Same H H') (h : At25 K CT CB H a b e ks ts cs Ps s es) : At25 K CT CB H' a b e ks ts cs Ps s es := ⟨h.1.mono z, h.2.1.mono z, h.2.2.mono z⟩
structure Ok25 (ks : List Str) (ts : List (List Int)) (cs : List Int) (Ps : List (List Int)) (es : List Int) (k : Nat) : Prop where
  tok : TabOk ks ts
  cw : CaseW ks.length ts cs Ps
  le : es.length = ks.length
  few : ∀ x ∈ es, x.natAbs < 800100
  kn : k < ks.length
def dueB (ts : List (List Int)) (n : Nat) (cs : List Int) (Ps : List (List Int)) (s : Int) (es : List Int) (k : Nat) (t w : Int) : Bool := inB s (ptsS (lotsC ts n) (rowS cs (classesL ts n) (behS es k (w * s - t))) Ps)
def spAllowed (K : PySem.W.Frag) (CT CB : Addr) : Sp := fun vs H Q _ => ∃ (a b e u : Addr) (ks : List Str) (ts : List (List Int)) (cs : List Int) (Ps : List (List Int)) (es : List Int) (k : Nat) (s t : Int), vs = [.ref a, .ref b, .ref e, .int k, .ref u] ∧ At25 K CT CB H a b e ks ts cs Ps s es ∧ Ok25 ks ts cs Ps es k ∧ SqT K H u (pV (US s t)) ∧ LineW s t ∧
  ∀ H' v, Same H H' → SqT K H' v (((whU s t).filter (dueB ts ks.length cs Ps s es k t)).map V.int) → Q (.ref v) H'
def gapG (ts : List (List Int)) (n : Nat) (row : List Int) (Ps : List (List Int)) (a : Nat) : Int := maxI (othS (lotsC ts n) row (pieceOf Ps (a : Int)) (a : Int))
def gapL (ts : List (List Int)) (n : Nat) (row : List Int) (Ps : List (List Int)) (a : Nat) : Int := minI (othS (lotsC ts n) row (pieceOf Ps (a : Int)) (a : Int))
def spGap (K : PySem.W.Frag) (CT CB : Addr) : Sp := fun vs H Q _ => ∃ (a b e : Addr) (ks : List Str) (ts : List (List Int)) (cs : List Int) (Ps : List (List Int)) (es : List Int) (k : Nat) (s : Int), vs = [.ref a, .ref b, .ref e, .int k] ∧ At25 K CT CB H a b e ks ts cs Ps s es ∧ Ok25 ks ts cs Ps es k ∧ 1 ≤ s ∧ s ≤ 100003 ∧
  (numV (classesL ts ks.length) k = .non → ∀ H', Same H H' → Q .non H') ∧
  ∀ x : Nat, numV (classesL ts ks.length) k = .int x → ∀ H' v, Same H H' → Dp K H' (.ref v) (.tuple [dQ (US s (gapG ts ks.length (rowS cs (classesL ts ks.length) es) Ps x)), dQ (US s (gapL ts ks.length (rowS cs (classesL ts ks.length) es) Ps x + s))]) → Q (.ref v) H'
theorem beh_few {es : List Int} {k : Nat} {d : Int} {n m : Nat} (hk : k < es.length) (h : ∀ x ∈ es, x.natAbs < n) (hd : d.natAbs < m) : ∀ x ∈ behS es k d, x.natAbs < n + m := fun x mx => by
  rcases List.mem_or_eq_of_mem_set mx with z | e
  · have := h x z
    omega
  · have := h _ (List.mem_of_getElem? (get_getD hk))
    rw [e]
    omega
end CK
namespace K25
open PySem PySem.Spec PyProof.Rows L2 VG FR CK HD M24
abbrev s_error_of_line : Stmt := topS 33
abbrev N_error_of_line : List Str := ["amount", "whole"]
theorem sc_error_of_line : FnScope N_error_of_line ["amount", "whole"] (defScope s_error_of_line) := ⟨rfl, rfl, rfl, by decide +kernel, rfl, by decide +kernel, by decide +kernel⟩
abbrev s_errors_behind : Stmt := topS 34
abbrev N_errors_behind : List Str := ["errors", "kind", "amount", "whole", "behind"]
theorem sc_errors_behind : FnScope N_errors_behind ["errors", "kind", "amount", "whole"] (defScope s_errors_behind) := ⟨rfl, rfl, rfl, by decide +kernel, rfl, by decide +kernel, by decide +kernel⟩
abbrev s_allowed : Stmt := topS 58
abbrev N_allowed : List Str := ["table", "blocks", "errors", "kind", "amount", "found", "whole"]
theorem sc_allowed : FnScope N_allowed ["table", "blocks", "errors", "kind", "amount"] (defScope s_allowed) := ⟨rfl, rfl, rfl, by decide +kernel, rfl, by decide +kernel, by decide +kernel⟩
section
variable {P : Program} {w : World} {K : PySem.W.Frag} {mg : Str → Option Value} {base : Heap}
theorem ok_error_of_line {f : Addr} {fd : FuncData} (F : Fun K "error_of_line" "error_of_line" s_error_of_line f fd) (C_taken : Cl P w K mg base 2 "taken" (spTaken K)) : FnOk P w K mg base CX0 3 f fd ["amount", "whole"] (spLineErr K) := by
  refine F.ok sc_error_of_line (fun vs H Q E h => ?_) (fun cdv A outer s H vs Q E hr h => ?_)
  · obtain ⟨_, _, _, _, rfl, _⟩ := h
    rfl
  · obtain ⟨u, sc, t, n, rfl, hS, pos, s24, t45, n45, fin⟩ := h
    refine ⟨_, (pss_one (ps_ret (pe_cl C_taken hr (by decide) rfl (pa_cons (pe_tup (pa_cons (pv 1) (pa_cons pe_int pa_nil))) (pa_cons (pv 0) pa_nil))))), ?_⟩
    refine ⟨_, rfl, by show 2 ≤ sizeLine; decide, fun w1 nw => ?_⟩
    have s1 := same_upd (o := .tup [.int n, .int 1]) nw
    refine ⟨_, rfl, ?_⟩
    have bt := US_bt (n := 3000) pos (up t45 (by decide)) (up s24 (by decide))
    refine ⟨w1, u, (n, 1), US sc t, rfl, .inl (.inl upd_same), seqT s1 hS, ⟨(by show (0 : Int) < 1; decide), Nat.gcd_one_right _⟩, US_low pos t, ⟨up n45 (by decide), (by show (1 : Int).natAbs < _; decide)⟩, bt, fun H' v s2 nu hu => ?_⟩
    refine fin H' v (s1.trans s2) (s1.free nu) ?_
    have e : M2.add (n, 1) (neg (US sc t)) = US sc (n * sc - t) := by
      rw [show ((n, 1) : Q2) = US sc (n * sc) from US_of pos ⟨(by show (0 : Int) < 1; decide), Nat.gcd_one_right _⟩ (by show n * sc = n * sc * 1; rw [Int.mul_one]), neg_US pos, add_US pos]
      rfl
    rw [hu, e]
theorem ok_errors_behind {f : Addr} {fd : FuncData} (F : Fun K "errors_behind" "errors_behind" s_errors_behind f fd) (C_added : Cl P w K mg base 1 "added" (spAdd K)) (C_error_of_line : Cl P w K mg base 3 "error_of_line" (spLineErr K)) : FnOk P w K mg base CX0 4 f fd ["errors", "kind", "amount", "whole"] (spBehind25 K) := by
  refine F.ok sc_errors_behind (fun vs H Q E h => ?_) (fun cdv A outer s H vs Q E hr h => ?_)
  · obtain ⟨_, _, _, _, _, _, _, rfl, _⟩ := h
    rfl
  · obtain ⟨a, t0, k, sc, t, n, es, rfl, ⟨xs, hA, hF⟩, hk, hl, hw, hS, pos, s24, t45, n45, d45, fin⟩ := h
    refine ⟨_, (pss_cons (ps_set (i := 4) sc_errors_behind.nd rfl (.inl rfl) (pe_cl C_added hr (by decide) rfl (pa_cons (pe_ix ix_tup (pv 0) (pv 1) (fun _ _ => rfl)) (pa_cons (pe_cl C_error_of_line hr (by decide) rfl (pa_cons (pv 2) (pa_cons (pv 3) pa_nil))) pa_nil))))
    (pss_one (ps_ret (pe_op op_catM (pe_op op_catM (pe_slice sl_tupM (pv 0) po_none (po_some (pv 1))) (pe_tup (pa_cons (pv 4) pa_nil))) (pe_slice sl_tupM (pv 0) (po_some (pe_op op_add (pv 1) pe_int)) po_none))))), ?_⟩
    have lx := hF.len
    rw [List.length_map] at lx
    obtain ⟨eb, he⟩ : ∃ e, es[k]? = some e := ⟨_, List.getElem?_eq_getElem hk⟩
    have bt := US_bt (n := 3000) pos (up (hw eb (List.mem_of_getElem? he)) (by decide)) (up s24 (by decide))
    have bd := US_bt (n := 3000) pos (up d45 (by decide)) (up s24 (by decide))
    obtain ⟨u0, hu0, hU0⟩ := frs_get (p := US sc eb) (i := k) hF (by rw [List.getElem?_map, he]; rfl)
    refine ⟨_, rfl, _, rfl, a, _, _, _, rfl, rfl, hA, atI_nat hu0, ?_⟩
    refine ⟨_, rfl, _, rfl, t0, sc, t, n, rfl, hS, pos, s24, t45, n45, fun H1 u1 s1 nu1 hu1 => ?_⟩
    refine ⟨u0, u1, US sc eb, US sc (n * sc - t), rfl, seqT s1 hU0, .inl (.inl hu1), US_low pos _, US_low pos _, bt, bd, fun H2 u2 s2 nu2 hu2 => ?_⟩
    rw [add_US pos] at hu2
    have s12 := s1.trans s2
    refine ⟨_, rfl, _, rfl, _, rfl, a, xs, rfl, seqT s12 hA, fun c1 H3 s3 g3 => ?_⟩
    rw [cut0] at g3
    refine ⟨_, rfl, by show 1 ≤ sizeLine; decide, fun c2 nc2 => ?_⟩
    have s4 := same_upd (o := .tup [.ref u2]) nc2
    have k4 := upd_same (H := H3) (a := c2) (o := .tup [V.ref u2])
    generalize L2.upd H3 c2 (.tup [V.ref u2]) = H4 at s4 k4 ⊢
    have big : sizeLine = 16777216 := by decide
    refine ⟨c1, c2, _, _, rfl, rfl, seqT s4 g3, .inl (.inl k4), by rw [List.length_take]; show _ + 1 ≤ _; omega, fun c3 H5 s5 g5 => ?_⟩
    refine ⟨_, rfl, _, rfl, _, _, rfl, rfl, _, rfl, a, xs, rfl, seqT (s12.trans (s3.trans (s4.trans s5))) hA, fun c4 H6 s6 g6 => ?_⟩
    rw [cutN] at g6
    refine ⟨c3, c4, _, _, rfl, rfl, seqT s6 g5, g6, by rw [List.length_append, List.length_take, List.length_drop]; show _ + 1 + _ ≤ _; omega, fun c5 H7 s7 g7 => ?_⟩
    have sAll := s12.trans (s3.trans (s4.trans (s5.trans (s6.trans s7))))
    refine fin H7 c5 sAll ⟨_, g7, ?_⟩
    have e1 : xs.take k ++ [V.ref u2] ++ xs.drop (k + 1) = xs.set k (.ref u2) := by
      rw [List.set_eq_take_append_cons_drop, if_pos (by omega), List.append_assoc]
      rfl
    have e2 : (behS es k (n * sc - t)).map (US sc) = (es.map (US sc)).set k (US sc (eb + (n * sc - t))) := by
      unfold behS
      rw [List.map_set, List.getD_eq_getElem?_getD, he]
      rfl
    rw [e1, e2]
    exact frs_set (seqT (s3.trans (s4.trans (s5.trans (s6.trans s7)))) (.inl (.inl hu2))) k (hF.mono sAll)
theorem ok_allowed {f CT CB : Addr} {fd : FuncData} (F : Fun K "allowed" "allowed" s_allowed f fd) (C_choices : Cl P w K mg base 2 "choices" (spCho K)) (C_errors_behind : Cl P w K mg base 4 "errors_behind" (spBehind25 K)) (C_is_inside : Cl P w K mg base 8 "is_inside" (spInside K CT CB)) (z_tuple : mg "tuple" = none) : FnOk P w K mg base CX0 9 f fd ["table", "blocks", "errors", "kind", "amount"] (spAllowed K CT CB) := by
  refine F.ok sc_allowed (fun vs H Q E h => ?_) (fun cdv A outer s H vs Q E hr h => ?_)
  · obtain ⟨_, _, _, _, _, _, _, _, _, _, _, _, rfl, _⟩ := h
    rfl
  · obtain ⟨a, b, e, u, ks, ts, cs, Ps, es, k, sc, t, rfl, at_, ok, hS, lw, fin⟩ := h
    refine ⟨_, (pss_cons (ps_set (i := 5) sc_allowed.nd rfl (.inl rfl) (pe_lst pa_nil))
    (pss_cut (ps_for PassesOwn.never rfl (pi_tup (pe_cl C_choices hr (by decide) rfl (pa_cons (pv 4) pa_nil))) (pg_name (i := 6) sc_allowed.nd rfl (.inl rfl))
      (pss_one (ps_if (pt_val (pe_cl C_is_inside hr (by decide) rfl (pa_cons (pv 0) (pa_cons (pv 1) (pa_cons (pe_cl C_errors_behind hr (by decide) rfl (pa_cons (pv 2) (pa_cons (pv 3) (pa_cons (pv 4) (pa_cons (pv 6) pa_nil))))) pa_nil)))))
        (pss_one (ps_expr (pe_bm PySem.F.plainAttrs_list PySem.F.slot_list_append PySem.F.type_list_append mt_append (pv 5) (pa_cons (pv 6) pa_nil))))
        pss_nil)))
    (pss_one (ps_ret (pe_callTy call_tupE (by rfl) z_tuple (by decide +kernel) (pa_cons (pv 5) pa_nil)))))), ?_⟩
    have big : sizeLine = 16777216 := by decide
    have e20 : (2 : Nat) ^ 20 = 1048576 := by decide
    have e24 : (2 : Nat) ^ 24 = 16777216 := by decide
    have e17 : (2 : Nat) ^ 17 = 131072 := by decide
    have s1 := lw.s1
    have s2 := lw.s2
    have pos : 0 < sc := by omega
    have le := ok.le
    have kn := ok.kn
    have cw := ok.cw
    have n12 := cw.n12
    refine ⟨by show 0 ≤ sizeLine; exact Nat.zero_le _, fun D nD => ?_⟩
    generalize eH1 : L2.upd H D _ = H1
    have s01 := same_of nD eH1
    have kD := at_of eH1
    clear eH1
    have bt := US_bt (n := 3000) pos (up lw.t1 (by decide)) (up (n := 24) (by omega) (by decide) : sc.natAbs < 2 ^ 3000)
    refine ⟨fun σ H' => (∃ y6 : Option V, σ = [some (.ref a), some (.ref b), some (.ref e), some (.int k), some (.ref u), some (.ref D), y6]) ∧ Same H H' ∧ H' D = some (.lst (((whU sc t).filter (dueB ts ks.length cs Ps sc es k t)).map V.int)), ?_, ?_⟩
    · refine ⟨_, rfl, u, US sc t, rfl, seqT s01 hS, (US_low pos t).1, bt, fun H2 W s12 nW kW => ?_⟩
      rw [cho_US pos] at kW
      have s02 := s01.trans s12
      have kD2 := s12 _ _ kD
      refine ⟨W, rfl, ⟨_, .inl (.inl kW)⟩, ?_⟩
      have ndW : W ≠ D := fun z => by rw [z, kD2] at kW; cases kW
      refine for_it (walk_tup (K := K) (a := W) (xs := (whU sc t).map V.int)) (fun i σ H' => (∃ y6 : Option V, σ = [some (.ref a), some (.ref b), some (.ref e), some (.int k), some (.ref u), some (.ref D), y6]) ∧ Same H H' ∧ H' W = some (.tup ((whU sc t).map V.int)) ∧ H' D = some (.lst ((((whU sc t).take i).filter (dueB ts ks.length cs Ps sc es k t)).map V.int))) ⟨⟨_, rfl⟩, s02, kW, kD2⟩ (fun i σ H' _ h => .inl (.inl h.2.2.1)) ?_ ?_
      · rintro i v σ H3 H4 hi ⟨⟨y6, rfl⟩, s03, kW3, kD3⟩ ⟨rfl, ev⟩
        rw [List.getElem?_map] at ev
        obtain ⟨w0, ew, rfl⟩ := Option.map_eq_some_iff.mp ev
        obtain ⟨w45, d17⟩ := lw.wh w0 (List.mem_of_getElem? ew)
        show gName 6 _ _ _ _
        refine ⟨_, rfl, _, rfl, _, rfl, _, rfl, _, rfl, _, rfl, e, u, k, sc, t, w0, es, rfl, at_.2.2.mono s03, by omega, by omega, fun x mx => up (n := 20) (by have := ok.few x mx; omega) (by decide), seqT s03 hS, pos, by omega, up lw.t1 (by decide), w45, up d17 (by decide), fun H5 eb s35 hE => ?_⟩
        have s05 := s03.trans s35
        have few := beh_few (k := k) (by omega) ok.few d17
        refine ⟨a, b, eb, ks, ts, cs, Ps, behS es k (w0 * sc - t), sc, rfl, at_.1.mono s05, ok.tok, at_.2.1.mono s05, cw.cl, cw.sgn, cw.pok, hE, by unfold behS; rw [List.length_set]; exact le, ⟨pos, by omega, fun x mx => by have := few x mx; omega⟩, fun H6 s56 => ?_⟩
        have s36 := s35.trans s56
        have tk : ((whU sc t).take (i + 1)).filter (dueB ts ks.length cs Ps sc es k t) = ((whU sc t).take i).filter (dueB ts ks.length cs Ps sc es k t) ++ (if dueB ts ks.length cs Ps sc es k t w0 = true then [w0] else []) := by
          rw [List.take_add_one, ew, List.filter_append]
          congr 1
          show List.filter _ [w0] = _
          rw [List.filter_cons, List.filter_nil]
        have lf : (((whU sc t).take i).filter (dueB ts ks.length cs Ps sc es k t)).length ≤ 2 := Nat.le_trans (List.length_filter_le _ _) (by rw [List.length_take]; rcases wh_len sc t with z | z <;> omega)
        refine ⟨_, rfl, ?_⟩
        show if dueB ts ks.length cs Ps sc es k t w0 = true then _ else _
        cases q : dueB ts ks.length cs Ps sc es k t w0 with
        | true =>
          refine iteT ⟨_, rfl, .inl ⟨rfl, _, .inl (.inl (s36 _ _ kD3))⟩, _, rfl, D, _, _, rfl, rfl, s36 _ _ kD3, by rw [List.length_map]; omega, ⟨_, rfl⟩, HD.same_put (s03.trans s36) nD, ?_, ?_⟩
          · rw [upd_ne ndW]
            exact s36 _ _ kW3
          · rw [upd_same, tk, q, if_pos rfl, List.map_append]
            rfl
        | false =>
          refine iteF ⟨⟨_, rfl⟩, s03.trans s36, s36 _ _ kW3, ?_⟩
          rw [tk, q, if_neg Bool.false_ne_true, List.append_nil]
          exact s36 _ _ kD3
      · rintro σ H3 ⟨y, s03, _, kD3⟩
        rw [List.length_map, List.take_length] at kD3
        exact ⟨y, s03, kD3⟩
    · rintro σ H3 ⟨⟨y6, rfl⟩, s03, kD3⟩
      refine ⟨_, rfl, D, _, rfl, .inl (.inl (.inl kD3)), fun H4 v s34 hv => ?_⟩
      exact fin H4 v (s03.trans s34) hv
end
end K25
namespace CK
open PySem PySem.Spec PyProof.Rows L2 VG FR HD M24
def spPlace (K : PySem.W.Frag) : Sp := fun vs H Q _ => ∃ (c : Addr) (n k : Nat) (ts : List (List Int)) (cs : List Int) (Ps : List (List Int)), vs = [.ref c, .int k] ∧ Cas K H c n ts cs Ps ∧ CaseW n ts cs Ps ∧ ∀ H', Same H H' → Q (numV (classesL ts n) k) H'
def spLawGap (K : PySem.W.Frag) : Sp := fun vs H Q _ => ∃ (c r : Addr) (n a : Nat) (ts : List (List Int)) (cs : List Int) (Ps : List (List Int)) (row : List Int), vs = [.ref c, .ref r, .int a] ∧ Cas K H c n ts cs Ps ∧ CaseW n ts cs Ps ∧ SqL K H r (row.map V.int) ∧ row.length = (classesL ts n).length ∧ a < (classesL ts n).length ∧
  ∀ H' u, Same H H' → SqT K H' u [.int (gapG ts n row Ps a), .int (gapL ts n row Ps a)] → Q (.ref u) H'
def spWholes25 : Sp := fun vs H Q _ => ∃ s t : Int, vs = [.int t, .int s] ∧ 0 < s ∧ s.natAbs < 2 ^ 24 ∧ t.natAbs < 2 ^ 45 ∧ ∀ H' u, Same H H' → H u = none → H' u = some (.lst ((whU s t).map V.int)) → Q (.ref u) H'
def spLBehind (K : PySem.W.Frag) : Sp := fun vs H Q _ => ∃ (e : Addr) (k : Nat) (s t w : Int) (es : List Int), vs = [.ref e, .int k, .int t, .int w, .int s] ∧ SqL K H e (es.map V.int) ∧ k < es.length ∧ es.length ≤ 100 ∧ w.natAbs < 2 ^ 45 ∧ s.natAbs < 2 ^ 24 ∧ ∀ H' u, Same H H' → SqL K H' u ((behS es k (w * s - t)).map V.int) → Q (.ref u) H'
theorem piece_eq {Ps : List (List Int)} {a : Int} {R : List Int} (dis : Ps.Pairwise fun P R => ∀ x ∈ P, x ∉ R) (mR : R ∈ Ps) (aR : a ∈ R) : pieceOf Ps a = R := by
  obtain ⟨mP, aP⟩ := piece_in ⟨R, mR, aR⟩
  by_cases e : pieceOf Ps a = R
  · exact e
  · exact absurd aR (apart_of dis mR mP e _ aP)
theorem wh_py {s t : Int} (hs : 0 < s) : t.fdiv s = t / s ∧ t.fmod s = t % s := ⟨Int.fdiv_eq_ediv_of_nonneg _ (by omega), Int.fmod_eq_emod_of_nonneg _ (by omega)⟩
theorem cut_from (xs : List V) (k : Nat) : cutV xs (some ((k : Int) + 1)) none = xs.drop (k + 1) := cutN k
theorem beh_app {es : List Int} {k : Nat} {d : Int} (h : k < es.length) : es.take k ++ [es.getD k 0 + d] ++ es.drop (k + 1) = behS es k d := by
  unfold behS
  rw [List.set_eq_take_append_cons_drop, if_pos h, List.append_assoc]
  rfl
end CK
namespace K25
open PySem PySem.Spec PyProof.Rows L2 VG FR CK HD M24
abbrev s__law_place : Stmt := topS 82
abbrev N__law_place : List Str := ["case", "kind", "some", "at"]
theorem sc__law_place : FnScope N__law_place ["case", "kind"] (defScope s__law_place) := ⟨rfl, rfl, rfl, by decide +kernel, rfl, by decide +kernel, by decide +kernel⟩
abbrev s__law_gap : Stmt := topS 83
abbrev N__law_gap : List Str := ["case", "row", "at", "piece", "is_fixed", "others", "one"]
theorem sc__law_gap : FnScope N__law_gap ["case", "row", "at"] (defScope s__law_gap) := ⟨rfl, rfl, rfl, by decide +kernel, rfl, by decide +kernel, by decide +kernel⟩
abbrev s__law_wholes : Stmt := topS 78
abbrev N__law_wholes : List Str := ["top", "scale"]
theorem sc__law_wholes : FnScope N__law_wholes ["top", "scale"] (defScope s__law_wholes) := ⟨rfl, rfl, rfl, by decide +kernel, rfl, by decide +kernel, by decide +kernel⟩
abbrev s__law_behind : Stmt := topS 79
abbrev N__law_behind : List Str := ["errors", "kind", "top", "whole", "scale"]
theorem sc__law_behind : FnScope N__law_behind ["errors", "kind", "top", "whole", "scale"] (defScope s__law_behind) := ⟨rfl, rfl, rfl, by decide +kernel, rfl, by decide +kernel, by decide +kernel⟩
section
variable {P : Program} {w : World} {K : PySem.W.Frag} {mg : Str → Option Value} {base : Heap}
theorem ok__law_place {f : Addr} {fd : FuncData} (F : Fun K "_law_place" "_law_place" s__law_place f fd) (z_range : mg "range" = none) (z_len : mg "len" = none) : FnOk P w K mg base CX0 1 f fd ["case", "kind"] (spPlace K) := by
  refine F.ok sc__law_place (fun vs H Q E h => ?_) (fun cdv A outer s H vs Q E hr h => ?_)
  · obtain ⟨_, _, _, _, _, _, rfl, _⟩ := h
    rfl
  · obtain ⟨c, n, k, ts, cs, Ps, rfl, hC, cw, fin⟩ := h
    refine ⟨_, (pss_cons (ps_setLc (i := 2) (own := [("at", 3)]) (by rfl) sc__law_place.nd rfl rfl (sw_true rfl rfl rfl (by decide +kernel)) (pi_range1 (by rfl) z_range (pa_cons (pe_callB call_len_seq (by rfl) z_len (by decide +kernel) (pa_cons (pe_ix ix_tup (pv 0) pe_int (fun _ _ => rfl)) pa_nil)) pa_nil)) (blkOk_by (own := [("at", 3)]) (N := N__law_place) (sc := defScope s__law_place) (by decide +kernel)) (fun _ _ _ _ _ => (pg_name (i := 3) sc__law_place.nd rfl (.inl rfl))) (fun _ _ _ _ _ => (pts_one (pt_cmpR (show OpR _ (compareOp .In) (rIn K false) from op_in_seq) (pv 1) (pe_ix (show IxR _ (rIxL K) from ix_list) (pe_ix (show IxR _ (rIxT K) from ix_tup) (pv 0) pe_int (fun _ _ => rfl)) (pv 3) (fun _ _ => rfl)) rfl))) (fun _ _ _ _ _ => (pv 3)))
    (pss_one (ps_ret (pe_ifExp (pt_cmpR (op_neD hr.units) (pv 2) (pe_lst pa_nil) (nomark _)) (pe_ix ix_list (pv 2) pe_int (fun _ _ => rfl)) pe_non)))), ?_⟩
    have big : sizeLine = 16777216 := by decide
    obtain ⟨t, cl, c3, pc, f5, xs, zs, hA, ht, hX, ⟨cx, hcl, hcx⟩, hc, hp, hZ, hf⟩ := hC
    have lcx := LR.len hcx
    have cok := cw.caseOk
    have cl12 := cok.cl12
    refine ⟨_, rfl, c, _, _, .ref cl, rfl, rfl, hA, atI_nat (j := 2) rfl, cl, _, rfl, .inl hcl, _, rfl, by omega, by omega, fun D nD => ?_⟩
    rw [lcx]
    refine lc_it (walk_range (lo := 0) (n := (((classesL ts n).length : Nat) : Int).toNat)) (fun i H' => Same H H' ∧ H' D = some (.lst ((pick (fun j => ((classesL ts n).getD j []).contains (k : Int)) i).map V.int))) ⟨same_upd nD, upd_same⟩ (fun _ _ _ _ => trivial) ?_ ?_
    · rintro i v H2 H3 hi ⟨s2, kD⟩ ⟨e, rfl⟩
      subst e
      have hi2 : i < (classesL ts n).length := by have : i < (((classesL ts n).length : Nat) : Int).toNat := hi; omega
      have zi : (0 : Int) + (i : Nat) = ((i : Nat) : Int) := Int.zero_add _
      have ecx : cx[i]? = some cx[i] := List.getElem?_eq_getElem (by omega)
      obtain ⟨A1, eA, tl, et, kt⟩ := LR.get hcx ecx
      rw [et] at ecx
      have gA : (classesL ts n).getD i [] = A1 := by rw [List.getD_eq_getElem?_getD, eA]; rfl
      have ai : atI cx ((0 : Int) + (i : Nat)) = some (.ref tl) := by rw [zi]; exact atI_nat ecx
      refine ⟨rfl, _, rfl, _, rfl, c, _, _, .ref cl, rfl, rfl, seqT s2 hA, atI_nat (j := 2) rfl, _, rfl, cl, _, _, .ref tl, rfl, rfl, seqLs s2 hcl, ai, tl, A1.map V.int, rfl, .inl (seqLs s2 kt), rfl, flat_ints A1, _, rfl, ?_⟩
      rw [inV_ints]
      have pl := pick_len (fun j => ((classesL ts n).getD j []).contains (k : Int)) i
      cases hm : A1.contains (k : Int) with
      | true =>
        refine iteT ⟨_, rfl, _, kD, by rw [List.length_map]; omega, HD.same_put s2 nD, ?_⟩
        rw [upd_same, pick_yes (by rw [gA]; exact hm), List.map_append]
        show some (HO.lst (_ ++ [V.int (0 + (i : Int))])) = _
        rw [zi]
        rfl
      | false =>
        refine iteF ⟨s2, ?_⟩
        rw [pick_no (by rw [gA]; exact hm)]
        exact kD
    rintro H2 ⟨s2, kD⟩
    rw [Int.toNat_natCast] at kD
    refine ⟨_, rfl, by show 0 ≤ sizeLine; exact Nat.zero_le _, fun Z nZ => ?_⟩
    generalize eH3 : L2.upd H2 Z _ = H3
    have s3 := same_of nZ eH3
    have kZ := at_of eH3
    clear eH3
    have kD3 := s3 _ _ kD
    refine ⟨_, _, HD.dp_ints (K := K) (.inl (.inl kD3)), HD.dp_ints (K := K) (cs := []) (.inl (.inl kZ)), shaped_ints _, shaped_nil, _, rfl, ?_⟩
    rw [show PyData.eqv (.list ((pick (fun j => ((classesL ts n).getD j []).contains (k : Int)) (classesL ts n).length).map PyData.int)) (.list (([] : List Int).map PyData.int)) = decide (pick (fun j => ((classesL ts n).getD j []).contains (k : Int)) (classesL ts n).length = []) from eqv_nil _]
    rcases num_cases ts n (k : Int) with ⟨en, no⟩ | ⟨a, A1, ea, ma, en⟩
    · have e0 : pick (fun j => ((classesL ts n).getD j []).contains (k : Int)) (classesL ts n).length = [] := by
        refine List.eq_nil_iff_forall_not_mem.mpr fun x mx => ?_
        obtain ⟨j, hj, hm, _⟩ := mem_pick.mp mx
        have ej : (classesL ts n)[j]? = some (classesL ts n)[j] := List.getElem?_eq_getElem hj
        have hm : ((classesL ts n).getD j []).contains (k : Int) = true := hm
        rw [List.getD_eq_getElem?_getD, ej] at hm
        exact no j _ ej (List.contains_iff_mem.mp hm)
      rw [e0, decide_eq_true rfl]
      refine iteF ?_
      have := fin H3 (s2.trans s3)
      rw [en] at this
      exact this
    · have la := (List.getElem?_eq_some_iff.mp ea).1
      have ga : (classesL ts n).getD a [] = A1 := by rw [List.getD_eq_getElem?_getD, ea]; rfl
      have only : ∀ x ∈ pick (fun j => ((classesL ts n).getD j []).contains (k : Int)) (classesL ts n).length, x = (a : Int) := fun x mx => by
        obtain ⟨j, hj, hm, e⟩ := mem_pick.mp mx
        have ej : (classesL ts n)[j]? = some (classesL ts n)[j] := List.getElem?_eq_getElem hj
        have hm : ((classesL ts n).getD j []).contains (k : Int) = true := hm
        rw [List.getD_eq_getElem?_getD, ej] at hm
        have := classes_only ej ea (List.contains_iff_mem.mp hm) ma
        omega
      have ma2 : (a : Int) ∈ pick (fun j => ((classesL ts n).getD j []).contains (k : Int)) (classesL ts n).length := mem_pick.mpr ⟨a, la, by rw [ga]; exact List.contains_iff_mem.mpr ma, rfl⟩
      generalize pick (fun j => ((classesL ts n).getD j []).contains (k : Int)) (classesL ts n).length = L at *
      match L, only, ma2, kD3 with
      | x :: r, only, _, kD3 =>
        have ex := only x List.mem_cons_self
        rw [decide_eq_false (List.cons_ne_nil x r)]
        refine iteT ⟨_, rfl, D, _, _, .int x, rfl, rfl, .inl (.inl kD3), atI_nat (j := 0) rfl, ?_⟩
        have := fin H3 (s2.trans s3)
        rw [en, ← ex] at this
        exact this
theorem ok__law_gap {f : Addr} {fd : FuncData} (F : Fun K "_law_gap" "_law_gap" s__law_gap f fd) (z_zip : mg "zip" = none) (z_int : mg "int" = none) (z_max : mg "max" = none) (z_min : mg "min" = none) : FnOk P w K mg base CX0 1 f fd ["case", "row", "at"] (spLawGap K) := by
  refine F.ok sc__law_gap (fun vs H Q E h => ?_) (fun cdv A outer s H vs Q E hr h => ?_)
  · obtain ⟨_, _, _, _, _, _, _, _, rfl, _⟩ := h
    rfl
  · obtain ⟨c, r, n, a, ts, cs, Ps, row, rfl, hC, cw, hR, lr, ha, fin⟩ := h
    refine ⟨_, (pss_cut (ps_for PassesOwn.never rfl (pi_zipM (by rfl) z_zip (pa_cons (pe_ix ix_tup (pv 0) pe_int (fun _ _ => rfl)) (pa_cons (pe_ix ix_tup (pv 0) pe_int (fun _ _ => rfl)) pa_nil))) (show PG _ _ (gTup K 2 _) from pg_tup rfl (pgs_cons (pg_name (i := 3) sc__law_gap.nd rfl (.inl rfl)) (pgs_cons (pg_name (i := 4) sc__law_gap.nd rfl (.inl rfl)) pgs_nil)))
      (pss_one (ps_if (pt_cmpR op_in_seq (pv 2) (pv 3) rfl)
        (pss_cons (ps_set (i := 5) sc__law_gap.nd rfl (.inl rfl) (pe_op op_cat (pe_lc (own := [("one", 6)]) (by rfl) sc__law_gap.nd (pi_tup (pv 3)) (blkOk_by (own := [("one", 6)]) (N := N__law_gap) (sc := defScope s__law_gap) (by decide +kernel)) (fun _ _ _ _ _ => (pg_name (i := 6) sc__law_gap.nd rfl (.inl rfl))) (fun _ _ _ _ _ => (pts_one (pt_cmpR op_ne (pv 6) (pv 2) (nomark _)))) (fun _ _ _ _ _ => (pe_ix (show IxR _ (rIxL K) from ix_list) (pv 1) (pv 6) (fun _ _ => rfl)))) (pe_op op_rep (pe_lst (pa_cons pe_int pa_nil)) (pe_callTy call_int1 (by rfl) z_int (by decide +kernel) (pa_cons (pv 4) pa_nil)))))
        (pss_one (ps_ret (pe_tup (pa_cons (pe_callB (show CallR _ (.builtin "max") (rMax K) from cr_max rfl) (by rfl) z_max (by decide +kernel) (pa_cons (pv 5) pa_nil)) (pa_cons (pe_callB (show CallR _ (.builtin "min") (rMin K) from cr_min rfl) (by rfl) z_min (by decide +kernel) (pa_cons (pv 5) pa_nil)) pa_nil))))))
        pss_nil)))
    (pss_one (ps_ret pe_non))), ?_⟩
    have big : sizeLine = 16777216 := by decide
    obtain ⟨t, cl, c3, pc, f5, xs, zs, hA, ht, hX, hcl, hc, hp, hZ, hf⟩ := hC
    have lz := hZ.len
    have pok := cw.pok
    have lcs := cw.cl
    refine ⟨fun _ _ => False, ?_, fun _ _ h => h.elim⟩
    refine ⟨_, rfl, c, _, _, .ref pc, rfl, rfl, hA, atI_nat (j := 4) rfl, _, rfl, c, _, _, .ref f5, rfl, rfl, hA, atI_nat (j := 5) rfl, pc, f5, zs, _, rfl, hp, hf, ?_⟩
    refine for_it (walk_zipM (K := K) (a := pc) (b := f5) (xs := zs) (ys := (Ps.map (loneB (lotsC ts n))).map V.bl) (by rw [List.length_map, List.length_map]; omega)) (fun i σ H' => (∃ y3 y4 : Option V, σ = [some (.ref c), some (.ref r), some (.int a), y3, y4, none, none]) ∧ Same H H' ∧ ∀ (j : Nat) (R1 : List Int), j < i → Ps[j]? = some R1 → (a : Int) ∉ R1) ⟨⟨none, none, rfl⟩, fun _ _ h => h, fun j R1 hj => absurd hj (Nat.not_lt_zero j)⟩ (fun i σ H' _ h => ⟨seqT h.2.1 hp, seqLs h.2.1 hf⟩) ?_ ?_
    · rintro i v σ H3 H4 hi ⟨⟨y3, y4, rfl⟩, s3, no⟩ ⟨T, x, y, rfl, nT, rfl, ex, ey⟩
      have ex : zs[i]? = some x := ex
      obtain ⟨u, R1, rfl, eR, hu⟩ := hZ.get ex
      have mR := List.mem_of_getElem? eR
      have low := pok.low R1 mR
      have l12 := pok.len R1 mR
      have ey : ((Ps.map (loneB (lotsC ts n))).map V.bl)[i]? = some y := ey
      rw [List.getElem?_map, List.getElem?_map, eR] at ey
      have ey : V.bl (loneB (lotsC ts n) R1) = y := Option.some.inj ey
      subst ey
      generalize eH5 : L2.upd H3 T _ = H5
      have s5 := same_of nT eH5
      have kT := at_of eH5
      clear eH5
      have s05 := s3.trans s5
      show gTup K 2 _ (V.ref T) _ _ _
      refine ⟨T, _, rfl, .inl (.inl kT), rfl, _, _, rfl, _, _, rfl, rfl, ?_⟩
      refine ⟨_, rfl, _, rfl, u, R1.map V.int, rfl, .inr (seqT s05 hu), rfl, flat_ints R1, _, rfl, ?_⟩
      rw [inV_ints]
      cases hm : R1.contains (a : Int) with
      | false =>
        refine iteF ⟨⟨_, _, rfl⟩, s05, fun j R2 hj e2 => ?_⟩
        by_cases e : j = i
        · rw [e, eR] at e2
          have e2 : R1 = R2 := Option.some.inj e2
          rw [← e2]
          intro z
          rw [List.contains_iff_mem.mpr z] at hm
          cases hm
        · exact no j R2 (by omega) e2
      | true =>
        have ep := piece_eq cw.good.dis mR (List.contains_iff_mem.mp hm)
        have one := oth_ne (row := row) cw ha
        have eG : gapG ts n row Ps a = maxI (othS (lotsC ts n) row R1 (a : Int)) := by unfold gapG; rw [ep]
        have eL : gapL ts n row Ps a = minI (othS (lotsC ts n) row R1 (a : Int)) := by unfold gapL; rw [ep]
        rw [ep] at one
        rw [eG, eL] at fin
        refine iteT ⟨_, rfl, u, rfl, ⟨_, seqT s05 hu⟩, fun L nL => ?_⟩
        refine lc_it (walk_tup (K := K) (a := u) (xs := R1.map V.int)) (fun q H' => Same H5 H' ∧ H' L = some (.lst ((((R1.take q).filter fun x => decide (x ≠ (a : Int))).map fun k => row.getD k.toNat 0).map V.int))) ⟨same_upd nL, upd_same⟩ (fun q H' _ h => seqT (s05.trans h.1) hu) ?_ ?_
        · rintro q v H6 H7 hq ⟨s6, kL⟩ ⟨rfl, ew⟩
          rw [List.getElem?_map] at ew
          obtain ⟨k, ek, rfl⟩ := Option.map_eq_some_iff.mp ew
          have ⟨k0, k1⟩ := low k (List.mem_of_getElem? ek)
          obtain ⟨kn, rfl⟩ := Int.eq_ofNat_of_zero_le k0
          have ee := ints_at (l := row) (i := kn) (by omega)
          have lt : ((((R1.take q).filter fun x => decide (x ≠ (a : Int))).map fun k => row.getD k.toNat 0).map V.int).length < sizeLine := by
            rw [List.length_map, List.length_map]
            have := List.length_filter_le (fun x => decide (x ≠ (a : Int))) (R1.take q)
            rw [List.length_take] at this
            omega
          have tk : (R1.take (q + 1)).filter (fun x => decide (x ≠ (a : Int))) = (R1.take q).filter (fun x => decide (x ≠ (a : Int))) ++ (if (kn : Int) ≠ (a : Int) then [(kn : Int)] else []) := by
            rw [List.take_add_one, ek, List.filter_append]
            congr 1
            show List.filter _ [(kn : Int)] = _
            rw [List.filter_cons, List.filter_nil]
            by_cases z : (kn : Int) ≠ (a : Int)
            · rw [if_pos z, if_pos (decide_eq_true z)]
            · rw [if_neg z, if_neg (fun q => z (of_decide_eq_true q))]
          refine ⟨rfl, _, rfl, _, rfl, rfl, _, rfl, ?_⟩
          by_cases z : (kn : Int) = (a : Int)
          · have e1 : (!decide (V.int (kn : Int) = V.int (a : Int))) = false := by rw [decide_eq_true (congrArg V.int z)]; rfl
            rw [e1]
            refine iteF ⟨s6, ?_⟩
            rw [tk, if_neg (fun q => q z), List.append_nil]
            exact kL
          · have e1 : (!decide (V.int (kn : Int) = V.int (a : Int))) = true := by rw [decide_eq_false (fun q => z (V.int.inj q))]; rfl
            rw [e1]
            refine iteT ⟨_, rfl, _, rfl, r, _, _, _, rfl, rfl, seqLs (s05.trans s6) hR, atI_nat ee, _, kL, lt, HD.same_put s6 nL, ?_⟩
            rw [upd_same, tk, if_pos z, List.map_append, List.map_append]
            rfl
        rintro H6 ⟨s6, kL⟩
        rw [List.length_map, List.take_length] at kL
        refine ⟨by show 1 ≤ sizeLine; decide, fun z nz => ?_⟩
        generalize eH7 : L2.upd H6 z _ = H7
        have s7 := same_of nz eH7
        have kz := at_of eH7
        clear eH7
        refine ⟨_, rfl, .inr ⟨_, rfl, ?_⟩⟩
        obtain ⟨m, m1, em, eo⟩ : ∃ m : Nat, m ≤ 1 ∧ (if loneB (lotsC ts n) R1 = true then (1 : Int) else 0) = (m : Int) ∧ othS (lotsC ts n) row R1 (a : Int) = ((R1.filter fun x => decide (x ≠ (a : Int))).map fun k => row.getD k.toNat 0) ++ List.replicate m 0 := by
          unfold othS
          by_cases q : loneB (lotsC ts n) R1 = true
          · exact ⟨1, Nat.le_refl _, by rw [if_pos q]; rfl, by rw [if_pos q]; rfl⟩
          · exact ⟨0, Nat.zero_le _, by rw [if_neg q]; rfl, by rw [if_neg q]; rfl⟩
        rw [em]
        refine ⟨z, _, _, rfl, rfl, kz, by omega, by omega, by show 1 * _ ≤ _; omega, fun z2 nz2 => ?_⟩
        generalize eH8 : L2.upd H7 z2 _ = H8
        have s8 := same_of nz2 eH8
        have kz2 : H8 z2 = some (.lst ((List.replicate m (0 : Int)).map V.int)) := by rw [at_of eH8]; congr 2; exact rep_zero m
        clear eH8
        have lf := List.length_filter_le (fun x => decide (x ≠ (a : Int))) R1
        refine ⟨L, z2, _, _, rfl, rfl, (s7.trans s8) _ _ kL, kz2, by rw [List.length_map, List.length_map, List.length_map, List.length_replicate]; omega, fun O nO => ?_⟩
        generalize eH9 : L2.upd H8 O _ = H9
        have s9 := same_of nO eH9
        have kO : H9 O = some (.lst ((othS (lotsC ts n) row R1 (a : Int)).map V.int)) := by rw [at_of eH9, eo, List.map_append]
        clear eH9
        generalize othS (lotsC ts n) row R1 (a : Int) = oth at *
        have l0 : 0 < oth.length := List.length_pos_iff.mpr one
        refine ⟨_, rfl, O, oth, rfl, .inl (.inl kO), l0, fun q1 mm1 h1 => ?_⟩
        refine ⟨_, rfl, O, oth, rfl, .inl (.inl kO), l0, fun q2 mm2 h2 => ?_⟩
        rw [maxI_uniq mm1 h1, minI_uniq mm2 h2]
        refine ⟨by show 2 ≤ sizeLine; decide, fun u2 nu2 => ?_⟩
        exact fin _ u2 (s05.trans (s6.trans (s7.trans (s8.trans (s9.trans (same_upd nu2)))))) (.inl (.inl upd_same))
    · rintro σ H3 ⟨_, _, no⟩
      obtain ⟨R1, mR, aR⟩ := cw.good.one (a : Int) (by omega) (by omega)
      obtain ⟨j, ej⟩ := List.mem_iff_getElem?.mp mR
      exact no j R1 (by rw [lz]; exact (List.getElem?_eq_some_iff.mp ej).1) ej aR
theorem ok__law_wholes {f : Addr} {fd : FuncData} (F : Fun K "_law_wholes" "_law_wholes" s__law_wholes f fd) (z_int : mg "int" = none) : FnOk P w K mg base CX0 1 f fd ["top", "scale"] spWholes25 := by
  refine F.ok sc__law_wholes (fun vs H Q E h => ?_) (fun cdv A outer s H vs Q E hr h => ?_)
  · obtain ⟨_, _, rfl, _⟩ := h
    rfl
  · obtain ⟨sc, t, rfl, pos, s24, t45, fin⟩ := h
    refine ⟨_, (pss_one (ps_ret (pe_ifExp (pt_cmpR op_eq (pe_op op_modN (pe_callTy call_int1 (by rfl) z_int (by decide +kernel) (pa_cons (pv 0) pa_nil)) (pv 1)) pe_int (nomark _)) (pe_lst (pa_cons (pe_op op_fdivW (pv 0) (pv 1)) pa_nil)) (pe_lst (pa_cons (pe_op op_fdivW (pv 0) (pv 1)) (pa_cons (pe_op op_add (pe_op op_fdivW (pv 0) (pv 1)) pe_int) pa_nil)))))), ?_⟩
    have W1 : CDivW t sc := wide_div (by omega) s24 (by decide) (by decide)
    have ⟨e1, e2⟩ := wh_py (t := t) pos
    refine ⟨_, rfl, .inl ⟨_, rfl, _, rfl, _, _, rfl, rfl, by omega, rfl, _, rfl, ?_⟩⟩
    refine ite2 (fun z => ?_) (fun z => ?_)
    · have z : t % sc = 0 := by rw [← e2]; exact V.int.inj (of_decide_eq_true z)
      refine ⟨_, rfl, _, rfl, _, _, rfl, rfl, W1, by show 1 ≤ sizeLine; decide, fun u nu => ?_⟩
      refine fin _ u (same_upd nu) nu ?_
      rw [upd_same]
      unfold whU
      rw [if_pos z]
      rfl
    · have z : ¬ t % sc = 0 := fun e => z (decide_eq_true (congrArg V.int (e2.trans e)))
      refine ⟨_, rfl, _, rfl, _, _, rfl, rfl, W1, _, rfl, _, rfl, _, _, rfl, rfl, W1, _, _, rfl, rfl, by show 2 ≤ sizeLine; decide, fun u nu => ?_⟩
      refine fin _ u (same_upd nu) nu ?_
      rw [upd_same]
      unfold whU
      rw [if_neg z]
      rfl
theorem ok__law_behind {f : Addr} {fd : FuncData} (F : Fun K "_law_behind" "_law_behind" s__law_behind f fd) : FnOk P w K mg base CX0 1 f fd ["errors", "kind", "top", "whole", "scale"] (spLBehind K) := by
  refine F.ok sc__law_behind (fun vs H Q E h => ?_) (fun cdv A outer s H vs Q E hr h => ?_)
  · obtain ⟨_, _, _, _, _, _, rfl, _⟩ := h
    rfl
  · obtain ⟨e, k, sc, t, w0, es, rfl, hE, hk, hl, w45, s24, fin⟩ := h
    refine ⟨_, (pss_one (ps_ret (pe_op op_cat (pe_op op_cat (pe_slice sl_list (pv 0) po_none (po_some (pv 1))) (pe_lst (pa_cons (pe_op op_sub (pe_op op_add (pe_ix ix_list (pv 0) (pv 1) (fun _ _ => rfl)) (pe_op op_mulW (pv 3) (pv 4))) (pv 2)) pa_nil))) (pe_slice sl_list (pv 0) (po_some (pe_op op_add (pv 1) pe_int)) po_none)))), ?_⟩
    have big : sizeLine = 16777216 := by decide
    refine ⟨_, rfl, _, rfl, _, rfl, e, _, rfl, hE, fun c1 nc1 => ?_⟩
    rw [cut0]
    generalize eH1 : L2.upd H c1 _ = H1
    have s1 := same_of nc1 eH1
    have k1 := at_of eH1
    clear eH1
    refine ⟨_, rfl, _, rfl, e, _, _, _, rfl, rfl, seqLs s1 hE, atI_nat (ints_at hk), _, rfl, _, rfl, _, _, rfl, rfl, mulW (up w45 (by decide)) (up s24 (by decide)), _, _, rfl, rfl, _, rfl, _, _, rfl, rfl, by show 1 ≤ sizeLine; decide, fun c2 nc2 => ?_⟩
    generalize eH2 : L2.upd H1 c2 _ = H2
    have s2 := same_of nc2 eH2
    have k2 := at_of eH2
    clear eH2
    refine ⟨c1, c2, _, _, rfl, rfl, s2 _ _ k1, k2, by rw [List.length_take, List.length_map]; show _ + 1 ≤ _; omega, fun c3 nc3 => ?_⟩
    generalize eH3 : L2.upd H2 c3 _ = H3
    have s3 := same_of nc3 eH3
    have k3 := at_of eH3
    clear eH3
    refine ⟨_, rfl, _, rfl, _, _, rfl, rfl, _, rfl, e, _, rfl, seqLs (s1.trans (s2.trans s3)) hE, fun c4 nc4 => ?_⟩
    rw [cut_from]
    generalize eH4 : L2.upd H3 c4 _ = H4
    have s4 := same_of nc4 eH4
    have k4 := at_of eH4
    clear eH4
    refine ⟨c3, c4, _, _, rfl, rfl, s4 _ _ k3, k4, by rw [List.length_append, List.length_take, List.length_drop, List.length_map]; show _ + 1 + _ ≤ _; omega, fun c5 nc5 => ?_⟩
    refine fin _ c5 (s1.trans (s2.trans (s3.trans (s4.trans (same_upd nc5))))) (.inl (.inl ?_))
    rw [upd_same, ← beh_app hk, List.map_append, List.map_append, List.map_take, List.map_drop]
    have ed : es.getD k 0 + w0 * sc - t = es.getD k 0 + (w0 * sc - t) := by omega
    rw [← ed]
    rfl
end
end K25
namespace CK
open PySem PySem.Spec PyProof.Rows L2 VG FR HD M24
def spBestL (K : PySem.W.Frag) (lt : Q2 → Q2 → Bool) : Sp := fun vs H Q _ => ∃ (s : Addr) (xs : List V) (ps : List Q2), vs = [.ref s] ∧ SqL K H s xs ∧ Frs K H xs ps ∧ (∀ p ∈ ps, Bt 3000 p) ∧ Q (bestV (bestF lt none (xs.zip ps))) H
def spRow25 (K : PySem.W.Frag) : Sp := fun vs H Q _ => ∃ (a e : Addr) (n : Nat) (ts cls : List (List Int)) (cs : List Int) (Ps : List (List Int)) (fx : List Bool) (es : List Int), vs = [.ref a, .ref e] ∧ CaseT K H a n ts cls cs Ps fx ∧ CaseOk n ts cls cs Ps fx ∧ SqL K H e (es.map V.int) ∧ es.length = n ∧ (∀ x ∈ es, x.natAbs < 2 ^ 20) ∧
  ∀ H' u, Same H H' → H u = none → H' u = some (.lst ((rowS cs cls es).map V.int)) → Q (.ref u) H'
def spAmount25 : Sp := fun vs H Q _ => ∃ (p q : Addr) (s : Int), vs = [.ref p, .int s] ∧ Hd p q H ∧ 1 ≤ s ∧ s ≤ 100003 ∧ ∀ (H' : Hp) (t : Int), On p q (frz p q H) H' → t.natAbs < 2 ^ 40 → Q (.int t) H'
def spNear (K : PySem.W.Frag) : Sp := fun vs H Q _ => ∃ (p q c e : Addr) (s : Int) (n k : Nat) (ts : List (List Int)) (cs : List Int) (Ps : List (List Int)) (es : List Int), vs = [.ref p, .ref c, .int s, .ref e, .int k] ∧ Hd p q H ∧ Cas K (frz p q H) c n ts cs Ps ∧ CaseW n ts cs Ps ∧ 1 ≤ s ∧ s ≤ 100003 ∧ SqL K (frz p q H) e (es.map V.int) ∧ es.length = n ∧ (∀ x ∈ es, x.natAbs < 2 ^ 20) ∧
  ∀ (H' : Hp) (t : Int), On p q (frz p q H) H' → t.natAbs < 2 ^ 40 → Q (.int t) H'
end CK
namespace K25
open PySem PySem.Spec PyProof.Rows L2 VG FR CK HD M24
abbrev s_gap_beside : Stmt := topS 59
abbrev N_gap_beside : List Str := ["table", "blocks", "errors", "kind", "number", "signed", "piece", "others", "other", "one"]
theorem sc_gap_beside : FnScope N_gap_beside ["table", "blocks", "errors", "kind"] (defScope s_gap_beside) := ⟨rfl, rfl, rfl, by decide +kernel, rfl, by decide +kernel, by decide +kernel⟩
abbrev s__law_amount : Stmt := topS 77
abbrev N__law_amount : List Str := ["heap", "scale", "some"]
theorem sc__law_amount : FnScope N__law_amount ["heap", "scale"] (defScope s__law_amount) := ⟨rfl, rfl, rfl, by decide +kernel, rfl, by decide +kernel, by decide +kernel⟩
abbrev s__law_near_amount : Stmt := topS 84
abbrev N__law_near_amount : List Str := ["heap", "case", "scale", "errors", "kind", "at", "row", "greatest", "least", "aim", "part"]
theorem sc__law_near_amount : FnScope N__law_near_amount ["heap", "case", "scale", "errors", "kind"] (defScope s__law_near_amount) := ⟨rfl, rfl, rfl, by decide +kernel, rfl, by decide +kernel, by decide +kernel⟩
section
variable {P : Program} {w : World} {K : PySem.W.Frag} {mg : Str → Option Value} {base : Heap}
theorem ok_least_ofL {f : Addr} {fd : FuncData} (F : Fun K "least_of" "least_of" s_least_of f fd) (C_is_less : Cl P w K mg base 1 "is_less" (spLess K)) :
    FnOk P w K mg base CX0 2 f fd ["some"] (spBestL K lessQ) := by
  refine F.ok sc_least_of (fun vs H Q E h => ?_) (fun cdv A outer s H vs Q E hr h => ?_)
  · obtain ⟨_, _, _, rfl, _⟩ := h
    rfl
  · obtain ⟨s1, xs, ps, rfl, hS, hF, hb, fin⟩ := h
    refine ⟨_, (pss_cons (ps_set (i := 1) sc_least_of.nd rfl (.inl rfl) pe_non)
    (pss_cut (ps_for PassesOwn.never rfl (pi_list (pv 0)) (pg_name (i := 2) sc_least_of.nd rfl (.inl rfl))
      (pss_one (ps_if (PW.pt (pw_or (pt_cmpR op_isN (pv 1) pe_non (nomark _)) (pw_or1 (pt_val (pe_cl C_is_less hr (by decide) rfl (pa_cons (pv 2) (pa_cons (pv 1) pa_nil)))))))
        (pss_one (ps_set (i := 1) sc_least_of.nd rfl (.inl rfl) (pv 2)))
        pss_nil)))
    (pss_one (ps_ret (pv 1))))), ?_⟩
    have lxs := hF.len
    refine ⟨fun σ H' => ∃ y : Option V, H' = H ∧ σ = [some (.ref s1), some (bestV (bestF lessQ none (xs.zip ps))), y], ?_, ?_⟩
    · refine ⟨_, rfl, s1, rfl, ⟨_, hS⟩, ?_⟩
      refine for_it (walk_list (K := K) (a := s1) (xs := xs)) (fun i σ H' => H' = H ∧ ∃ (y : Option V) (b : Option (V × Q2)), σ = [some (.ref s1), some (bestV b), y] ∧ bestF lessQ b ((xs.zip ps).drop i) = bestF lessQ none (xs.zip ps) ∧
        (∀ x, b = some x → (∃ t, x.1 = .ref t ∧ SqT K H t (pV x.2)) ∧ Bt 3000 x.2)) ⟨rfl, none, none, rfl, rfl, fun x z => nomatch z⟩ ?_ ?_ ?_
      · rintro i σ H' _ ⟨rfl, _⟩
        exact hS
      · rintro i v σ H1 H2 hi ⟨rfl, y, b, rfl, hfold, hbb⟩ ⟨e2, ex⟩
        subst e2
        obtain ⟨t, p, rfl, ep, ht⟩ := hF.get ex
        have hp := hb p (List.mem_of_getElem? ep)
        have ez : (xs.zip ps)[i]? = some (.ref t, p) := List.getElem?_zip_eq_some.mpr ⟨ex, ep⟩
        have hd : (xs.zip ps).drop i = (.ref t, p) :: (xs.zip ps).drop (i + 1) := by
          have hiz : i < (xs.zip ps).length := (List.getElem?_eq_some_iff.mp ez).1
          rw [List.drop_eq_getElem_cons hiz]
          congr 1
          exact Option.some.inj ((List.getElem?_eq_getElem hiz).symm.trans ez)
        rw [hd] at hfold
        cases b with
        | none =>
          refine ⟨_, rfl, rfl, _, rfl, ?_⟩
          refine iteT (iteT ⟨_, rfl, rfl, _, some (.ref t, p), rfl, hfold, fun x z => ?_⟩)
          cases z
          exact ⟨⟨t, rfl, ht⟩, hp⟩
        | some x =>
          obtain ⟨⟨u, hxu, hu⟩, hxb⟩ := hbb x rfl
          have e3 : (bestV (some x)) = .ref u := hxu
          refine ⟨_, rfl, rfl, _, rfl, ?_⟩
          have e4 : decide (bestV (some x) = V.non) = false := by
            rw [e3]
            rfl
          rw [e4]
          refine iteF ?_
          refine ⟨_, rfl, _, rfl, t, u, p, x.2, (by rw [e3]; rfl), ht, hu, hp, hxb, ?_⟩
          have hf2 : bestF lessQ (if lessQ p x.2 = true then some (V.ref t, p) else some x) ((xs.zip ps).drop (i + 1)) = bestF lessQ none (xs.zip ps) := hfold
          refine ⟨_, rfl, ?_⟩
          by_cases hl : lessQ p x.2 = true
          · rw [if_pos hl] at hf2
            have hl2 : lessQ p x.2 = true := hl
            rw [hl2]
            refine iteT ⟨_, rfl, rfl, _, some (.ref t, p), rfl, hf2, fun x z => ?_⟩
            cases z
            exact ⟨⟨t, rfl, ht⟩, hp⟩
          · rw [if_neg hl] at hf2
            have hl2 : lessQ p x.2 = false := by
              cases e : lessQ p x.2 with
              | false => rfl
              | true => exact absurd e hl
            rw [hl2]
            exact iteF ⟨rfl, _, some x, rfl, hf2, hbb⟩
      · rintro σ H' ⟨rfl, y, b, rfl, hfold, _⟩
        refine ⟨y, rfl, ?_⟩
        have e5 : (xs.zip ps).drop xs.length = [] := List.drop_eq_nil_of_le (by rw [List.length_zip]; omega)
        rw [e5] at hfold
        rw [← hfold]
        cases b <;> rfl
    · rintro σ H' ⟨y, rfl, rfl⟩
      exact ⟨_, rfl, fin⟩
theorem ok_greatest_ofL {f : Addr} {fd : FuncData} (F : Fun K "greatest_of" "greatest_of" s_greatest_of f fd) (C_is_less : Cl P w K mg base 1 "is_less" (spLess K)) :
    FnOk P w K mg base CX0 2 f fd ["some"] (spBestL K gtQ) := by
  refine F.ok sc_greatest_of (fun vs H Q E h => ?_) (fun cdv A outer s H vs Q E hr h => ?_)
  · obtain ⟨_, _, _, rfl, _⟩ := h
    rfl
  · obtain ⟨s1, xs, ps, rfl, hS, hF, hb, fin⟩ := h
    refine ⟨_, (pss_cons (ps_set (i := 1) sc_greatest_of.nd rfl (.inl rfl) pe_non)
    (pss_cut (ps_for PassesOwn.never rfl (pi_list (pv 0)) (pg_name (i := 2) sc_greatest_of.nd rfl (.inl rfl))
      (pss_one (ps_if (PW.pt (pw_or (pt_cmpR op_isN (pv 1) pe_non (nomark _)) (pw_or1 (pt_val (pe_cl C_is_less hr (by decide) rfl (pa_cons (pv 1) (pa_cons (pv 2) pa_nil)))))))
        (pss_one (ps_set (i := 1) sc_greatest_of.nd rfl (.inl rfl) (pv 2)))
        pss_nil)))
    (pss_one (ps_ret (pv 1))))), ?_⟩
    have lxs := hF.len
    refine ⟨fun σ H' => ∃ y : Option V, H' = H ∧ σ = [some (.ref s1), some (bestV (bestF gtQ none (xs.zip ps))), y], ?_, ?_⟩
    · refine ⟨_, rfl, s1, rfl, ⟨_, hS⟩, ?_⟩
      refine for_it (walk_list (K := K) (a := s1) (xs := xs)) (fun i σ H' => H' = H ∧ ∃ (y : Option V) (b : Option (V × Q2)), σ = [some (.ref s1), some (bestV b), y] ∧ bestF gtQ b ((xs.zip ps).drop i) = bestF gtQ none (xs.zip ps) ∧
        (∀ x, b = some x → (∃ t, x.1 = .ref t ∧ SqT K H t (pV x.2)) ∧ Bt 3000 x.2)) ⟨rfl, none, none, rfl, rfl, fun x z => nomatch z⟩ ?_ ?_ ?_
      · rintro i σ H' _ ⟨rfl, _⟩
        exact hS
      · rintro i v σ H1 H2 hi ⟨rfl, y, b, rfl, hfold, hbb⟩ ⟨e2, ex⟩
        subst e2
        obtain ⟨t, p, rfl, ep, ht⟩ := hF.get ex
        have hp := hb p (List.mem_of_getElem? ep)
        have ez : (xs.zip ps)[i]? = some (.ref t, p) := List.getElem?_zip_eq_some.mpr ⟨ex, ep⟩
        have hd : (xs.zip ps).drop i = (.ref t, p) :: (xs.zip ps).drop (i + 1) := by
          have hiz : i < (xs.zip ps).length := (List.getElem?_eq_some_iff.mp ez).1
          rw [List.drop_eq_getElem_cons hiz]
          congr 1
          exact Option.some.inj ((List.getElem?_eq_getElem hiz).symm.trans ez)
        rw [hd] at hfold
        cases b with
        | none =>
          refine ⟨_, rfl, rfl, _, rfl, ?_⟩
          refine iteT (iteT ⟨_, rfl, rfl, _, some (.ref t, p), rfl, hfold, fun x z => ?_⟩)
          cases z
          exact ⟨⟨t, rfl, ht⟩, hp⟩
        | some x =>
          obtain ⟨⟨u, hxu, hu⟩, hxb⟩ := hbb x rfl
          have e3 : (bestV (some x)) = .ref u := hxu
          refine ⟨_, rfl, rfl, _, rfl, ?_⟩
          have e4 : decide (bestV (some x) = V.non) = false := by
            rw [e3]
            rfl
          rw [e4]
          refine iteF ?_
          refine ⟨_, rfl, _, rfl, u, t, x.2, p, (by rw [e3]; rfl), hu, ht, hxb, hp, ?_⟩
          have hf2 : bestF gtQ (if gtQ p x.2 = true then some (V.ref t, p) else some x) ((xs.zip ps).drop (i + 1)) = bestF gtQ none (xs.zip ps) := hfold
          refine ⟨_, rfl, ?_⟩
          by_cases hl : gtQ p x.2 = true
          · rw [if_pos hl] at hf2
            have hl2 : lessQ x.2 p = true := hl
            rw [hl2]
            refine iteT ⟨_, rfl, rfl, _, some (.ref t, p), rfl, hf2, fun x z => ?_⟩
            cases z
            exact ⟨⟨t, rfl, ht⟩, hp⟩
          · rw [if_neg hl] at hf2
            have hl2 : lessQ x.2 p = false := by
              cases e : lessQ x.2 p with
              | false => rfl
              | true => exact absurd e hl
            rw [hl2]
            exact iteF ⟨rfl, _, some x, rfl, hf2, hbb⟩
      · rintro σ H' ⟨rfl, y, b, rfl, hfold, _⟩
        refine ⟨y, rfl, ?_⟩
        have e5 : (xs.zip ps).drop xs.length = [] := List.drop_eq_nil_of_le (by rw [List.length_zip]; omega)
        rw [e5] at hfold
        rw [← hfold]
        cases b <;> rfl
    · rintro σ H' ⟨y, rfl, rfl⟩
      exact ⟨_, rfl, fin⟩
theorem ok__law_row25 {f : Addr} {fd : FuncData} (F : Fun K "_law_row" "_law_row" s__law_row f fd) (z_range : mg "range" = none) (z_len : mg "len" = none) (z_sum : mg "sum" = none) : FnOk P w K mg base CX0 1 f fd ["case", "errors"] (spRow25 K) := by
  refine F.ok sc__law_row (fun vs H Q E h => ?_) (fun cdv A outer s H vs Q E hr h => ?_)
  · obtain ⟨_, _, _, _, _, _, _, _, _, rfl, _⟩ := h
    rfl
  · obtain ⟨a, e, n, ts, cls, cs, Ps, fx, es, rfl, hC, cok, hE, le, few, fin⟩ := h
    refine ⟨_, (pss_one (ps_ret (pe_lc (own := [("at", 2)]) (by rfl) sc__law_row.nd (pi_range1 (by rfl) z_range (pa_cons (pe_callB call_len_seq (by rfl) z_len (by decide +kernel) (pa_cons (pe_ix ix_tup (pv 0) pe_int (fun _ _ => rfl)) pa_nil)) pa_nil)) (blkOk_by (own := [("at", 2)]) (N := N__law_row) (sc := defScope s__law_row) (by decide +kernel)) (fun _ _ _ _ _ => (pg_name (i := 2) sc__law_row.nd rfl (.inl rfl))) (fun _ _ _ _ _ => pts_nil) (fun _ _ _ _ _ => (pe_op op_mulW (pe_ix (show IxR _ (rIxT K) from ix_tup) (pe_ix (show IxR _ (rIxT K) from ix_tup) (pv 0) pe_int (fun _ _ => rfl)) (pv 2) (fun _ _ => rfl)) (pe_callB (show CallR _ (.builtin "sum") (rSum K) from cr_sum rfl) (by rfl) z_sum (by decide +kernel) (pa_cons (pe_lc (own := [("kind", 3)]) (by rfl) sc__law_row.nd (show PI _ _ _ (iList K _) from pi_list (pe_ix (show IxR _ (rIxL K) from ix_list) (pe_ix (show IxR _ (rIxT K) from ix_tup) (pv 0) pe_int (fun _ _ => rfl)) (pv 2) (fun _ _ => rfl))) (blkOk_by (own := [("kind", 3)]) (N := N__law_row) (sc := { kind := .function, names := [((".0" : String), .local), (("at" : String), .local), (("sum" : String), .globalImplicit), (("case" : String), .cell), (("errors" : String), .cell)], isGenerator := false, isCoroutine := false }) (by decide +kernel)) (fun _ _ _ _ _ => (pg_name (i := 3) sc__law_row.nd rfl (.inl rfl))) (fun _ _ _ _ _ => pts_nil) (fun _ _ _ _ _ => (pe_ix (show IxR _ (rIxL K) from ix_list) (pv 1) (pv 3) (fun _ _ => rfl)))) pa_nil))))))), ?_⟩
    have big : sizeLine = 16777216 := by decide
    obtain ⟨t, cl, c, p, f, xs, zs, hA, ht, hX, ⟨cx, hcl, hcx⟩, hc, hp, hZ, hf⟩ := hC
    have lcx := LR.len hcx
    have c12 := cok.cl12
    have lc := cok.cl
    have er : ∀ j : Nat, (rowS cs cls es)[j]? = match cs[j]?, cls[j]? with | some x, some y => some (x * sumC es y) | _, _ => none := fun j => by
      unfold rowS
      rw [List.getElem?_zipWith]
      cases cs[j]? <;> cases cls[j]? <;> rfl
    have lr : (rowS cs cls es).length = cls.length := by
      unfold rowS
      rw [List.length_zipWith, lc, Nat.min_self]
    refine ⟨_, rfl, a, _, _, .ref cl, rfl, rfl, hA, atI_nat (j := 2) rfl, cl, _, rfl, .inl hcl, _, rfl, by omega, by omega, fun D nD => ?_⟩
    refine lc_it (walk_range (lo := 0) (n := ((cx.length : Nat) : Int).toNat)) (fun i H' => Same H H' ∧ H' D = some (.lst (((rowS cs cls es).take i).map V.int))) ⟨same_upd nD, upd_same⟩ (fun _ _ _ _ => trivial) ?_ ?_
    · rintro i v H2 H3 hi ⟨s2, kD⟩ ⟨rfl, rfl⟩
      have hi2 : i < cx.length := by have : i < ((cx.length : Nat) : Int).toNat := hi; omega
      have zi : (0 : Int) + (i : Nat) = ((i : Nat) : Int) := Int.zero_add _
      have ecx : cx[i]? = some cx[i] := List.getElem?_eq_getElem hi2
      obtain ⟨cl1, ecl, tl, et, kt⟩ := LR.get hcx ecx
      rw [et] at ecx
      have ec : cs[i]? = some cs[i] := List.getElem?_eq_getElem (by omega)
      have eri := er i
      rw [ec, ecl] at eri
      have mcl := List.mem_of_getElem? ecl
      obtain ⟨l12, ne, low⟩ := cok.clen cl1 mcl
      have a1 : atI (cs.map V.int) ((0 : Int) + (i : Nat)) = some (.int cs[i]) := by rw [zi]; exact atI_nat (by rw [List.getElem?_map, ec]; rfl)
      have a2 : atI cx ((0 : Int) + (i : Nat)) = some (.ref tl) := by rw [zi]; exact atI_nat ecx
      refine ⟨rfl, _, rfl, a, _, _, .ref c, rfl, rfl, seqT s2 hA, atI_nat (j := 3) rfl, _, rfl, c, _, _, .int cs[i], rfl, rfl, seqT s2 hc, a1, ?_⟩
      refine ⟨_, rfl, a, _, _, .ref cl, rfl, rfl, seqT s2 hA, atI_nat (j := 2) rfl, _, rfl, cl, _, _, .ref tl, rfl, rfl, seqLs s2 hcl, a2, tl, rfl, ⟨_, seqLs s2 kt⟩, fun B nB => ?_⟩
      refine lc_it (walk_list (K := K) (a := tl) (xs := cl1.map V.int)) (fun q H' => Same H3 H' ∧ H' B = some (.lst (((cl1.take q).map fun k => es.getD k.toNat 0).map V.int))) ⟨same_upd nB, upd_same⟩ (fun q H' _ h => seqLs (s2.trans h.1) kt) ?_ ?_
      · rintro q v H4 H5 hq ⟨s4, kB⟩ ⟨rfl, ew⟩
        rw [List.getElem?_map] at ew
        obtain ⟨k, ek, rfl⟩ := Option.map_eq_some_iff.mp ew
        have ⟨k0, k1⟩ := low k (List.mem_of_getElem? ek)
        obtain ⟨kn, rfl⟩ := Int.eq_ofNat_of_zero_le k0
        have ee : es[kn]? = some (es.getD kn 0) := by rw [List.getD_eq_getElem?_getD, List.getElem?_eq_getElem (by omega)]; rfl
        refine ⟨rfl, _, rfl, _, rfl, e, _, _, _, rfl, rfl, seqLs (s2.trans s4) hE, atI_nat (by rw [List.getElem?_map, ee]; rfl), ?_⟩
        refine ⟨_, kB, by rw [List.length_map, List.length_map, List.length_take]; omega, HD.same_put s4 nB, ?_⟩
        rw [upd_same, List.take_add_one, ek, List.map_append, List.map_append]
        rfl
      · rintro H4 ⟨s4, kB⟩
        rw [List.length_map, List.take_length] at kB
        refine ⟨B, _, rfl, .inl (.inl kB), ?_⟩
        have m1 := cok.sgn cs[i] (List.getElem_mem _)
        have sb := sum_few few cl1
        have e20 : (2 : Nat) ^ 20 = 1048576 := by decide
        have sb2 : (sumC es cl1).natAbs < 2 ^ 24 := by
          have e25 : (2 : Nat) ^ 24 = 16777216 := by decide
          have : cl1.length * 2 ^ 20 ≤ 12 * 2 ^ 20 := Nat.mul_le_mul_right _ l12
          omega
        refine ⟨_, _, rfl, rfl, mulW ?_ (up sb2 (by decide)), ?_⟩
        · rcases m1 with z | z <;> (rw [z]; exact up (n := 1) (by decide) (by decide))
        refine ⟨_, s4 _ _ kD, by rw [List.length_map, List.length_take]; omega, HD.same_put (s2.trans s4) nD, ?_⟩
        rw [upd_same, List.take_add_one, eri, List.map_append]
        rfl
    · rintro H2 ⟨s2, kD⟩
      rw [Int.toNat_natCast, lcx, ← lr, List.take_length] at kD
      exact fin H2 D s2 nD kD
theorem ok_gap_beside {f CT CB zz oo : Addr} {fd : FuncData} (F : Fun K "gap_beside" "gap_beside" s_gap_beside f fd) (BC : BlkC K CB) (C_class_of_kind : Cl P w K mg base 4 "class_of_kind" (spClassOf K CT)) (C_signed_errors : Cl P w K mg base 6 "signed_errors" (spSigned K CT CB)) (C_has_lone : Cl P w K mg base 5 "has_lone" (spHasLone K CT)) (C_greatest_of : Cl P w K mg base 2 "greatest_of" (spBestL K gtQ)) (C_least_of : Cl P w K mg base 2 "least_of" (spBestL K lessQ)) (C_added : Cl P w K mg base 1 "added" (spAdd K))
    (m_ZERO : mg "ZERO" = some (.ref zz)) (hz : ∀ H, SqT K H zz (pV (0, 1))) (m_ONE : mg "ONE" = some (.ref oo)) (ho : ∀ H, SqT K H oo (pV (1, 1))) : FnOk P w K mg base CX0 7 f fd ["table", "blocks", "errors", "kind"] (spGap K CT CB) := by
  refine F.ok sc_gap_beside (fun vs H Q E h => ?_) (fun cdv A outer s H vs Q E hr h => ?_)
  · obtain ⟨_, _, _, _, _, _, _, _, _, _, rfl, _⟩ := h
    rfl
  · obtain ⟨a, b, e, ks, ts, cs, Ps, es, k, sc, rfl, at_, ok, s1, s2, finN, finG⟩ := h
    refine ⟨_, (pss_cons (ps_set (i := 4) sc_gap_beside.nd rfl (.inr rfl) (pe_cl C_class_of_kind hr (by decide) rfl (pa_cons (pv 0) (pa_cons (pv 3) pa_nil))))
    (pss_cons (ps_if (pt_cmpR op_isN (pv 4) pe_non (nomark _))
      (pss_one (ps_ret pe_non))
      pss_nil)
    (pss_cons (ps_set (i := 5) sc_gap_beside.nd rfl (.inr rfl) (pe_cl C_signed_errors hr (by decide) rfl (pa_cons (pv 0) (pa_cons (pv 1) (pa_cons (pv 2) pa_nil)))))
    (pss_cons (ps_set (i := 6) sc_gap_beside.nd rfl (.inl rfl) (pe_ix ix_list (pe_lc (own := [("one", 9)]) (by rfl) sc_gap_beside.nd (pi_tup (pe_fld (pv 1) (by rfl))) (blkOk_by (own := [("one", 9)]) (N := N_gap_beside) (sc := defScope s_gap_beside) (by decide +kernel)) (fun _ _ _ _ _ => (pg_name (i := 9) sc_gap_beside.nd rfl (.inl rfl))) (fun _ _ _ _ _ => (pts_one (pt_cmpR (show OpR _ (compareOp .In) (rIn K false) from op_in_seq) (pv 4) (pv 9) rfl))) (fun _ _ _ _ _ => (pv 9))) pe_int (fun _ _ => rfl)))
    (pss_cons (ps_setLc (i := 7) (own := [("other", 8)]) (by rfl) sc_gap_beside.nd rfl rfl (sw_true rfl rfl rfl (by decide +kernel)) (pi_tup (pv 6)) (blkOk_by (own := [("other", 8)]) (N := N_gap_beside) (sc := defScope s_gap_beside) (by decide +kernel)) (fun _ _ _ _ _ => (pg_name (i := 8) sc_gap_beside.nd rfl (.inl rfl))) (fun _ _ _ _ _ => (pts_one (pt_cmpR op_ne (pv 8) (pv 4) (nomark _)))) (fun _ _ _ _ _ => (pe_ix (show IxR _ (rIxT K) from ix_tup) (pv 5) (pv 8) (fun _ _ => rfl))))
    (pss_cut (ps_if (pt_val (pe_cl C_has_lone hr (by decide) rfl (pa_cons (pv 0) (pa_cons (pv 6) pa_nil))))
      (pss_one (ps_expr (pe_bm PySem.F.plainAttrs_list PySem.F.slot_list_append PySem.F.type_list_append mt_append (pv 7) (pa_cons (pe_glob (v := .ref zz) rfl m_ZERO rfl) pa_nil))))
      pss_nil)
    (pss_one (ps_ret (pe_tup (pa_cons (pe_cl C_greatest_of hr (by decide) rfl (pa_cons (pv 7) pa_nil)) (pa_cons (pe_cl C_added hr (by decide) rfl (pa_cons (pe_cl C_least_of hr (by decide) rfl (pa_cons (pv 7) pa_nil)) (pa_cons (pe_glob (v := .ref oo) rfl m_ONE rfl) pa_nil))) pa_nil))))))))))), ?_⟩
    have big : sizeLine = 16777216 := by decide
    have e20 : (2 : Nat) ^ 20 = 1048576 := by decide
    have e24 : (2 : Nat) ^ 24 = 16777216 := by decide
    have pos : 0 < sc := by omega
    have cw := ok.cw
    have n12 := cw.n12
    have t12 := cw.t12
    have lcs := cw.cl
    have pok := cw.pok
    have few20 : ∀ x ∈ es, x.natAbs < 2 ^ 20 := fun x mx => by have := ok.few x mx; omega
    have rf := row_few few20 cw.sgn fun c mc => (cw.caseOk.clen c mc).1
    have rl := rowS_len cw.cl es
    have bt : ∀ x : Int, x.natAbs < 2 ^ 24 → Bt 3000 (US sc x) := fun x hx => US_bt pos (up hx (by decide)) (up (n := 24) (by omega) (by decide) : sc.natAbs < 2 ^ 3000)
    refine ⟨_, rfl, _, rfl, a, ks, ts, k, rfl, at_.1, by omega, by omega, ok.kn, fun H1 s01 => ?_⟩
    rcases num_cases ts ks.length (k : Int) with ⟨en, no⟩ | ⟨x, A1, ea, ma, en⟩
    · rw [en]
      refine ⟨_, rfl, rfl, _, rfl, ?_⟩
      exact iteT (finN en _ s01)
    · have lx := (List.getElem?_eq_some_iff.mp ea).1
      have fin := finG x en
      rw [en]
      refine ⟨_, rfl, rfl, _, rfl, ?_⟩
      refine iteF ?_
      refine ⟨_, rfl, _, rfl, _, rfl, a, b, e, ks, ts, cs, Ps, es, sc, rfl, at_.1.mono s01, ok.tok, at_.2.1.mono s01, cw.cl, cw.sgn, at_.2.2.mono s01, ok.le, ⟨pos, by omega, few20⟩, fun H2 R s12 hR => ?_⟩
      have s02 := s01.trans s12
      generalize rowS cs (classesL ts ks.length) es = row at *
      obtain ⟨ys, hRy, hFy⟩ := hR
      have lys := hFy.len
      rw [List.length_map] at lys
      obtain ⟨dx, c, z, xs, hO, hc, hz1, hX1⟩ := at_.2.1.mono s02
      have lz := hX1.len
      have hP := cw.good.one (x : Int) (by omega) (by omega)
      obtain ⟨mP, aP⟩ := piece_in hP
      have one := oth_ne (row := row) cw lx
      -- the piece
      refine ⟨_, rfl, b, CB, dx, _, .ref z, rfl, hO, BC.c, BC.np, rfl, z, rfl, ⟨_, hz1⟩, fun L nL => ?_⟩
      refine lc_it (walk_tup (K := K) (a := z) (xs := xs)) (fun i H' => Same H2 H' ∧ ∃ vs, H' L = some (.lst vs) ∧ Tots K H' vs ((Ps.take i).filter fun P => P.contains (x : Int))) ⟨same_upd nL, [], upd_same, trivial⟩ (fun i H' _ h => seqT h.1 hz1) ?_ ?_
      · rintro i v H3 H4 hi ⟨s3, vs, kL, hv⟩ ⟨rfl, ev⟩
        obtain ⟨u, R1, rfl, eR, hu⟩ := (hX1.mono s3).get ev
        have lP := (List.getElem?_eq_some_iff.mp eR).1
        have p12 := pok.few
        have lv := hv.len
        have lf := List.length_filter_le (fun P : List Int => P.contains (x : Int)) (Ps.take i)
        rw [List.length_take] at lf
        have tk : (Ps.take (i + 1)).filter (fun P => P.contains (x : Int)) = (Ps.take i).filter (fun P => P.contains (x : Int)) ++ (if R1.contains (x : Int) = true then [R1] else []) := by
          rw [List.take_add_one, eR, List.filter_append]
          congr 1
          show List.filter _ [R1] = _
          rw [List.filter_cons, List.filter_nil]
        refine ⟨rfl, _, rfl, _, rfl, u, R1.map V.int, rfl, .inr hu, rfl, flat_ints R1, _, rfl, ?_⟩
        rw [inV_ints]
        cases hm : R1.contains (x : Int) with
        | true =>
          refine iteT ⟨_, rfl, _, kL, by omega, HD.same_put s3 nL, vs ++ [.ref u], upd_same, ?_⟩
          rw [tk, hm, if_pos rfl]
          exact Tots.upd kL (Tots.snoc hu hv)
        | false =>
          refine iteF ⟨s3, vs, kL, ?_⟩
          rw [tk, hm, if_neg Bool.false_ne_true, List.append_nil]
          exact hv
      rintro H3 ⟨s3, vs, kL, hv⟩
      rw [lz, List.take_length] at hv
      have ef : ∃ r, (Ps.filter fun P => P.contains (x : Int)) = pieceOf Ps (x : Int) :: r := by
        have m : pieceOf Ps (x : Int) ∈ Ps.filter fun P => P.contains (x : Int) := List.mem_filter.mpr ⟨mP, List.contains_iff_mem.mpr aP⟩
        unfold pieceOf at m ⊢
        cases q : Ps.filter fun P => P.contains (x : Int) with
        | nil => rw [q] at m; cases m
        | cons y r => exact ⟨r, rfl⟩
      obtain ⟨r, ef⟩ := ef
      rw [ef] at hv
      obtain ⟨u, vr, evs, hu⟩ : ∃ u vr, vs = .ref u :: vr ∧ SqT K H3 u ((pieceOf Ps (x : Int)).map V.int) := by
        match vs, hv with
        | _ :: vr, ⟨⟨u, e1, h1⟩, _⟩ => exact ⟨u, vr, by rw [e1], h1⟩
      rw [evs] at kL
      have eG : gapG ts ks.length row Ps x = maxI (othS (lotsC ts ks.length) row (pieceOf Ps (x : Int)) (x : Int)) := rfl
      have eL : gapL ts ks.length row Ps x = minI (othS (lotsC ts ks.length) row (pieceOf Ps (x : Int)) (x : Int)) := rfl
      rw [eG, eL] at fin
      have low := pok.low _ mP
      have l12 := pok.len _ mP
      generalize pieceOf Ps (x : Int) = P1 at *
      refine ⟨L, _, _, .ref u, rfl, rfl, .inl (.inl kL), atI_nat (j := 0) rfl, ?_⟩
      have s23 := s3
      clear hv ef evs kL
      -- the others
      refine ⟨_, rfl, u, rfl, ⟨_, hu⟩, fun O nO => ?_⟩
      refine lc_it (walk_tup (K := K) (a := u) (xs := P1.map V.int)) (fun i H' => Same H3 H' ∧ ∃ vs, H' O = some (.lst vs) ∧ Frs K H' vs ((((P1.take i).filter fun y => decide (y ≠ (x : Int))).map fun k => row.getD k.toNat 0).map (US sc))) ⟨same_upd nO, [], upd_same, trivial⟩ (fun i H' _ h => seqT h.1 hu) ?_ ?_
      · rintro i v H4 H5 hi ⟨s4, vs, kO, hv⟩ ⟨rfl, ev⟩
        rw [List.getElem?_map] at ev
        obtain ⟨y, ey, rfl⟩ := Option.map_eq_some_iff.mp ev
        have ⟨y0, y1⟩ := low y (List.mem_of_getElem? ey)
        obtain ⟨yn, rfl⟩ := Int.eq_ofNat_of_zero_le y0
        have er := get_getD (l := row) (i := yn) (by omega)
        obtain ⟨tv, etv, htv⟩ := frs_get (i := yn) hFy (by rw [List.getElem?_map, er]; rfl)
        have lv := hv.len
        rw [List.length_map, List.length_map] at lv
        have lf := List.length_filter_le (fun y => decide (y ≠ (x : Int))) (P1.take i)
        rw [List.length_take] at lf
        have tk : (P1.take (i + 1)).filter (fun y => decide (y ≠ (x : Int))) = (P1.take i).filter (fun y => decide (y ≠ (x : Int))) ++ (if (yn : Int) ≠ (x : Int) then [(yn : Int)] else []) := by
          rw [List.take_add_one, ey, List.filter_append]
          congr 1
          show List.filter _ [(yn : Int)] = _
          rw [List.filter_cons, List.filter_nil]
          by_cases z : (yn : Int) ≠ (x : Int)
          · rw [if_pos z, if_pos (decide_eq_true z)]
          · rw [if_neg z, if_neg (fun q => z (of_decide_eq_true q))]
        refine ⟨rfl, _, rfl, _, rfl, rfl, _, rfl, ?_⟩
        by_cases z : (yn : Int) = (x : Int)
        · have e1 : (!decide (V.int (yn : Int) = V.int (x : Int))) = false := by rw [decide_eq_true (congrArg V.int z)]; rfl
          rw [e1]
          refine iteF ⟨s4, vs, kO, ?_⟩
          rw [tk, if_neg (fun q => q z), List.append_nil]
          exact hv
        · have e1 : (!decide (V.int (yn : Int) = V.int (x : Int))) = true := by rw [decide_eq_false (fun q => z (V.int.inj q))]; rfl
          rw [e1]
          refine iteT ⟨_, rfl, _, rfl, R, _, _, _, rfl, rfl, seqT (s23.trans s4) hRy, atI_nat etv, _, kO, by omega, HD.same_put s4 nO, vs ++ [.ref tv], upd_same, ?_⟩
          rw [tk, if_pos z, List.map_append, List.map_append]
          exact Frs.upd kO (Frs.snoc (seqT (s23.trans s4) htv) hv)
      rintro H4 ⟨s4, vs, kO, hv⟩
      rw [List.length_map, List.take_length] at hv
      have s24 := s23.trans s4
      have s04 := s02.trans s24
      refine ⟨fun σ H' => σ = [some (.ref a), some (.ref b), some (.ref e), some (.int k), some (.int x), some (.ref R), some (.ref u), some (.ref O), none, none] ∧ Same H2 H' ∧ ∃ vs, H' O = some (.lst vs) ∧ Frs K H' vs ((othS (lotsC ts ks.length) row P1 (x : Int)).map (US sc)), ?_, ?_⟩
      · refine ⟨_, rfl, _, rfl, a, u, ks, ts, P1, rfl, at_.1.mono s04, ok.tok, seqT s4 hu, fun H5 s5 => ?_⟩
        have nO2 : H2 O = none := none_back s23 nO
        have lv := hv.len
        rw [List.length_map, List.length_map] at lv
        have lf := List.length_filter_le (fun y => decide (y ≠ (x : Int))) P1
        refine ⟨_, rfl, ?_⟩
        unfold othS
        cases q : loneB (lotsC ts ks.length) P1 with
        | true =>
          have h0 := hz H5
          have e0 : ((0, 1) : Q2) = US sc 0 := (US_zero pos).symm
          rw [e0] at h0
          refine iteT ⟨_, rfl, .inl ⟨rfl, _, .inl (.inl (s5 _ _ kO))⟩, O, _, _, rfl, rfl, s5 _ _ kO, by omega, rfl, HD.same_put (s24.trans s5) nO2, vs ++ [.ref zz], upd_same, ?_⟩
          rw [if_pos rfl, List.map_append]
          exact Frs.upd (s5 _ _ kO) (Frs.snoc h0 (hv.mono s5))
        | false =>
          refine iteF ⟨rfl, s24.trans s5, vs, s5 _ _ kO, ?_⟩
          rw [if_neg Bool.false_ne_true, List.append_nil]
          exact hv.mono s5
      · clear kO hv
        clear vs
        rintro σ H5 ⟨rfl, s5, vs, kO, hv⟩
        have ofw : ∀ y ∈ othS (lotsC ts ks.length) row P1 (x : Int), y.natAbs < 2 ^ 24 := fun y my => by
          rcases List.mem_append.mp my with m | m
          · obtain ⟨k1, _, rfl⟩ := List.mem_map.mp m
            rw [List.getD_eq_getElem?_getD]
            cases q : row[k1.toNat]? with
            | none => show (0 : Int).natAbs < _; decide
            | some y => exact rf y (List.mem_of_getElem? q)
          · split at m
            · rw [List.mem_singleton.mp m]; decide
            · cases m
        generalize othS (lotsC ts ks.length) row P1 (x : Int) = oth at *
        have btS : ∀ p ∈ oth.map (US sc), Bt 3000 p := fun p mp => by
          obtain ⟨y, my, rfl⟩ := List.mem_map.mp mp
          exact bt y (ofw y my)
        obtain ⟨t2, e2, h2⟩ := best_max pos hv one
        obtain ⟨t1, e1, h1⟩ := best_min pos hv one
        refine ⟨_, rfl, O, vs, _, rfl, .inl (.inl kO), hv, btS, ?_⟩
        rw [e2]
        refine ⟨_, rfl, O, vs, _, rfl, .inl (.inl kO), hv, btS, ?_⟩
        rw [e1]
        have h1o := ho H5
        have eo : ((1, 1) : Q2) = US sc sc := US_of pos ⟨(by show (0 : Int) < 1; decide), Nat.gcd_one_right _⟩ (by show 1 * sc = sc * 1; omega)
        rw [eo] at h1o
        refine ⟨t1, oo, US sc (minI oth), US sc sc, rfl, h1, h1o, US_low pos _, US_low pos _, bt _ (ofw _ (minI_ok one).1), bt _ (by omega), fun H6 t3 s6 n3 k3 => ?_⟩
        rw [add_US pos] at k3
        refine ⟨by show 2 ≤ sizeLine; decide, fun v nv => ?_⟩
        have s7 := same_upd (o := .tup [.ref t2, .ref t3]) nv
        exact fin _ v (s02.trans (s5.trans (s6.trans s7))) (.tup (sqt upd_same) (.cons (dpQ (seqT (s6.trans s7) h2)) (.cons (dpQ (sqt (s7 _ _ k3))) .nil)))
theorem ok__law_amount {f : Addr} {fd : FuncData} (F : Fun K "_law_amount" "_law_amount" s__law_amount f fd) (C__law_draw : Cl P w K mg base 1 "_law_draw" spDraw) (C__law_pick : Cl P w K mg base 2 "_law_pick" (spPick K)) (z_int : mg "int" = none) : FnOk P w K mg base CX0 3 f fd ["heap", "scale"] spAmount25 := by
  refine F.ok sc__law_amount (fun vs H Q E h => ?_) (fun cdv A outer s H vs Q E hr h => ?_)
  · obtain ⟨_, _, _, rfl, _⟩ := h
    rfl
  · obtain ⟨p, q, sc, rfl, hd0, sc1, sc2, fin⟩ := h
    refine ⟨_, (pss_cons (ps_set (i := 2) sc__law_amount.nd rfl (.inl rfl) (pe_lst (pa_cons (pe_cl C__law_draw hr (by decide) rfl (pa_cons (pv 0) (pa_cons (pv 1) pa_nil))) (pa_cons (pe_op op_sub (pe_cl C__law_draw hr (by decide) rfl (pa_cons (pv 0) (pa_cons (pv 1) pa_nil))) (pv 1)) (pa_cons (pe_op op_sub (pe_cl C__law_draw hr (by decide) rfl (pa_cons (pv 0) (pa_cons (pe_op op_mulW pe_int (pv 1)) pa_nil))) (pe_op op_mulW pe_int (pv 1))) pa_nil)))))
    (pss_cons (ps_set (i := 2) sc__law_amount.nd rfl (.inl rfl) (pe_op op_cat (pv 2) (pe_lst (pa_cons (pe_op op_mulW (pv 1) (pe_op op_sub (pe_cl C__law_draw hr (by decide) rfl (pa_cons (pv 0) (pa_cons pe_int pa_nil))) pe_int)) (pa_cons (pe_op op_fdivW (pv 1) pe_int) (pa_cons (pe_callTy call_int1 (by rfl) z_int (by decide +kernel) (pa_cons (pe_op op_sub (pe_cl C__law_pick hr (by decide) rfl (pa_cons (pv 0) (pa_cons (pe_lst (pa_cons pe_int (pa_cons (pe_op op_sub pe_int (pe_op op_pow pe_int pe_int)) pa_nil))) pa_nil))) (pe_cl C__law_draw hr (by decide) rfl (pa_cons (pv 0) (pa_cons pe_int pa_nil)))) pa_nil)) pa_nil))))))
    (pss_one (ps_ret (pe_cl C__law_pick hr (by decide) rfl (pa_cons (pv 0) (pa_cons (pe_op op_cat (pe_slice sl_list (pv 2) po_none (po_some pe_int)) (pv 2)) pa_nil))))))), ?_⟩
    have big : sizeLine = 16777216 := by decide
    have e17 : (2 : Nat) ^ 17 = 131072 := by decide
    have e40 : (2 : Nat) ^ 40 = 1099511627776 := by decide
    have on0 := On.start hd0
    generalize frz p q H = G at *
    have smul : ∀ x : Int, x.natAbs < 100 → CMulW x sc ∧ CMulW sc x := fun x hx => ⟨mulW (up (n := 17) (by omega) (by decide)) (up (n := 17) (by omega) (by decide)), mulW (up (n := 17) (by omega) (by decide)) (up (n := 17) (by omega) (by decide))⟩
    refine ⟨_, rfl, _, rfl, p, q, sc, rfl, on0.hd, by omega, by omega, fun H1 r1 hd1 kp1 a0 a1 => ?_⟩
    have on1 := on0.draw hd1 kp1
    refine ⟨_, rfl, _, rfl, p, q, sc, rfl, on1.hd, by omega, by omega, fun H2 r2 hd2 kp2 b0 b1 => ?_⟩
    have on2 := on1.draw hd2 kp2
    refine ⟨_, rfl, _, _, rfl, rfl, _, rfl, _, rfl, _, _, rfl, rfl, (smul 6 (by decide)).1, p, q, _, rfl, on2.hd, by omega, by omega, fun H3 r3 hd3 kp3 c0 c1 => ?_⟩
    have on3 := on2.draw hd3 kp3
    refine ⟨_, rfl, _, _, rfl, rfl, (smul 3 (by decide)).1, _, _, rfl, rfl, by show 3 ≤ sizeLine; decide, fun L nL => ?_⟩
    have fL := on3.free nL
    generalize eH4 : L2.upd H3 L _ = H4
    have s4 := same_of nL eH4
    have kL := at_of eH4
    clear eH4
    have on4 := on3.same s4
    clear hd1 hd2 hd3 kp1 kp2 kp3 on0 on1 on2 on3 s4 nL
    refine ⟨_, rfl, _, rfl, _, rfl, p, q, 5, rfl, on4.hd, by decide, by decide, fun H5 r4 hd5 kp5 d0 d1 => ?_⟩
    have on5 := on4.draw hd5 kp5
    have kL5 := kp5 _ _ fL.1 fL.2.1 kL
    refine ⟨_, _, rfl, rfl, _, _, rfl, rfl, (smul (r4 - 2) (by omega)).2, ?_⟩
    refine ⟨_, rfl, _, _, rfl, rfl, wide_div (b := 24) (by decide) (by decide) (by decide) (by decide), ?_⟩
    refine ⟨_, rfl, _, _, rfl, rfl, ⟨by decide, by decide, by decide⟩, _, _, rfl, rfl, by show 2 ≤ sizeLine; decide, fun M nM => ?_⟩
    have fM := on5.free nM
    generalize eH6 : L2.upd H5 M _ = H6
    have s6 := same_of nM eH6
    have kM := at_of eH6
    clear eH6
    have on6 := on5.same s6
    refine ⟨p, q, M, _, rfl, on6.hd, kM, fM.1, fM.2.1, by simp, by show 2 < 1000000; decide, fun H7 v hd7 kp7 hv => ?_⟩
    have on7 := on6.draw hd7 kp7
    have kL7 := kp7 _ _ fL.1 fL.2.1 (s6 _ _ kL5)
    obtain ⟨g, rfl, hg⟩ : ∃ g : Int, v = .int g ∧ -1000000 ≤ g ∧ g ≤ 1000000 := by
      simp only [List.mem_cons, List.not_mem_nil, or_false] at hv
      rcases hv with e | e
      · exact ⟨999999, e, by decide, by decide⟩
      · exact ⟨_, e, by decide, by decide⟩
    refine ⟨_, rfl, p, q, 2, rfl, on7.hd, by decide, by decide, fun H8 r5 hd8 kp8 g0 g1 => ?_⟩
    have on8 := on7.draw hd8 kp8
    have kL8 := kp8 _ _ fL.1 fL.2.1 kL7
    clear hd5 kp5 hd7 kp7 hd8 kp8 hv on4 on5 on6 on7 kL kL5 kL7 kM s6 nM fM
    refine ⟨_, _, rfl, rfl, .inl ⟨_, rfl, by show 3 ≤ sizeLine; decide, fun N nN => ?_⟩⟩
    generalize eH9 : L2.upd H8 N _ = H9
    have s9 := same_of nN eH9
    have kN := at_of eH9
    clear eH9
    have on9 := on8.same s9
    refine ⟨L, N, _, _, rfl, rfl, s9 _ _ kL8, kN, by show 3 + 3 ≤ sizeLine; decide, fun S nS => ?_⟩
    generalize eHa : L2.upd H9 S _ = Ha
    have sa := same_of nS eHa
    have kS := at_of eHa
    clear eHa
    have ona := on9.same sa
    have sdiv := Int.natAbs_ediv_le_natAbs sc 2
    have m1 : sc * (r4 - 2) ≤ 2 * sc ∧ -(2 * sc) ≤ sc * (r4 - 2) := by
      have : r4 = 0 ∨ r4 = 1 ∨ r4 = 2 ∨ r4 = 3 ∨ r4 = 4 := by omega
      rcases this with e | e | e | e | e <;> (rw [e]; omega)
    obtain ⟨xs, kS, lx, bnd⟩ : ∃ xs, Ha S = some (.lst xs) ∧ xs.length = 6 ∧ ∀ v ∈ xs, ∃ t : Int, v = .int t ∧ t.natAbs < 2 ^ 40 := ⟨_, kS, rfl, fun v mv => by
      simp only [List.mem_append, List.mem_cons, List.not_mem_nil, or_false] at mv
      rcases mv with (e | e | e) | (e | e | e)
      · exact ⟨_, e, by omega⟩
      · exact ⟨r2 - sc, e, by omega⟩
      · exact ⟨r3 - 3 * sc, e, by omega⟩
      · exact ⟨sc * (r4 - 2), e, by generalize sc * (r4 - 2) = y at *; omega⟩
      · exact ⟨sc / 2, e, by omega⟩
      · exact ⟨_, e, by omega⟩⟩
    refine ⟨_, rfl, _, rfl, _, rfl, S, xs, rfl, .inl (.inl kS), fun c nc => ?_⟩
    rw [show cutV xs none (some 3) = xs.take 3 from cut_pre xs 3]
    generalize eHb : L2.upd Ha c _ = Hb
    have sb := same_of nc eHb
    have kc := at_of eHb
    clear eHb
    have onb := ona.same sb
    have lt3 : (xs.take 3).length = 3 := by rw [List.length_take]; omega
    refine ⟨_, rfl, c, S, _, _, rfl, rfl, kc, sb _ _ kS, by omega, fun u nu => ?_⟩
    have fu := onb.free nu
    generalize eHc : L2.upd Hb u _ = Hc
    have sc_ := same_of nu eHc
    have ku := at_of eHc
    clear eHc
    have onc := onb.same sc_
    refine ⟨p, q, u, _, rfl, onc.hd, ku, fu.1, fu.2.1, (fun e => by have := congrArg List.length e; rw [List.length_append, lt3, lx] at this; cases this), by rw [List.length_append]; omega, fun Hd v hdd kpd hv => ?_⟩
    obtain ⟨t, rfl, ht⟩ : ∃ t : Int, v = .int t ∧ t.natAbs < 2 ^ 40 := by
      rcases List.mem_append.mp hv with m | m
      · exact bnd v (List.mem_of_mem_take m)
      · exact bnd v m
    exact fin Hd t (onc.draw hdd kpd) ht
theorem ok__law_near_amount {f : Addr} {fd : FuncData} (F : Fun K "_law_near_amount" "_law_near_amount" s__law_near_amount f fd) (C__law_draw : Cl P w K mg base 1 "_law_draw" spDraw) (C__law_pick : Cl P w K mg base 2 "_law_pick" (spPick K)) (C__law_place : Cl P w K mg base 1 "_law_place" (spPlace K)) (C__law_row : Cl P w K mg base 1 "_law_row" (spRow25 K)) (C__law_gap : Cl P w K mg base 1 "_law_gap" (spLawGap K)) (C__law_amount : Cl P w K mg base 3 "_law_amount" spAmount25) (z_int : mg "int" = none) : FnOk P w K mg base CX0 4 f fd ["heap", "case", "scale", "errors", "kind"] (spNear K) := by
  refine F.ok sc__law_near_amount (fun vs H Q E h => ?_) (fun cdv A outer s H vs Q E hr h => ?_)
  · obtain ⟨_, _, _, _, _, _, _, _, _, _, _, rfl, _⟩ := h
    rfl
  · obtain ⟨p, q, c, e, sc, n, k, ts, cs, Ps, es, rfl, hd0, hC, cw, sc1, sc2, hE, le, few, fin⟩ := h
    refine ⟨_, (pss_cons (ps_par (i := 5) (j := 6) (by rfl) sc__law_near_amount.nd rfl rfl (by decide) rfl rfl (pa_cons (pe_cl C__law_place hr (by decide) rfl (pa_cons (pv 1) (pa_cons (pv 4) pa_nil))) (pa_cons (pe_cl C__law_row hr (by decide) rfl (pa_cons (pv 1) (pa_cons (pv 3) pa_nil))) pa_nil)) (by rfl))
    (pss_cons (ps_if (PW.pt (pw_or (pt_cmpR op_isN (pv 5) pe_non (nomark _)) (pw_or1 (pt_cmpR op_eq (pe_cl C__law_draw hr (by decide) rfl (pa_cons (pv 0) (pa_cons pe_int pa_nil))) pe_int (nomark _)))))
      (pss_one (ps_ret (pe_cl C__law_amount hr (by decide) rfl (pa_cons (pv 0) (pa_cons (pv 2) pa_nil)))))
      pss_nil)
    (pss_cons (ps_asg (pe_cl C__law_gap hr (by decide) rfl (pa_cons (pv 1) (pa_cons (pv 6) (pa_cons (pv 5) pa_nil)))) (pg_tup rfl (pgs_cons (pg_name (i := 7) sc__law_near_amount.nd rfl (.inl rfl)) (pgs_cons (pg_name (i := 8) sc__law_near_amount.nd rfl (.inl rfl)) pgs_nil))))
    (pss_cons (ps_set (i := 9) sc__law_near_amount.nd rfl (.inl rfl) (pe_cl C__law_pick hr (by decide) rfl (pa_cons (pv 0) (pa_cons (pe_lst (pa_cons (pv 7) (pa_cons (pe_op op_add (pv 7) pe_int) (pa_cons (pe_op op_add (pv 8) (pv 2)) (pa_cons (pe_op op_sub (pe_op op_add (pv 8) (pv 2)) pe_int) (pa_cons (pe_op op_sub (pv 7) pe_int) (pa_cons (pe_op op_add (pe_op op_add (pv 8) (pv 2)) pe_int) pa_nil))))))) pa_nil))))
    (pss_cons (ps_set (i := 10) sc__law_near_amount.nd rfl (.inl rfl) (pe_op op_modN (pe_callTy call_int1 (by rfl) z_int (by decide +kernel) (pa_cons (pe_meet (pe_ifExp (pt_cmpR op_eq (pe_ix ix_tup (pe_ix ix_tup (pv 1) pe_int (fun _ _ => rfl)) (pv 5) (fun _ _ => rfl)) pe_int (nomark _)) (pe_op op_sub (pe_op op_add (pe_ix ix_list (pv 6) (pv 5) (fun _ _ => rfl)) (pv 2)) (pv 9)) (pe_op op_sub (pv 9) (pe_ix ix_list (pv 6) (pv 5) (fun _ _ => rfl))))) pa_nil)) (pv 2)))
    (pss_one (ps_ret (pe_op op_add (pv 10) (pe_op op_mulW (pv 2) (pe_op op_sub (pe_cl C__law_draw hr (by decide) rfl (pa_cons (pv 0) (pa_cons pe_int pa_nil))) pe_int)))))))))), ?_⟩
    have big : sizeLine = 16777216 := by decide
    have e17 : (2 : Nat) ^ 17 = 131072 := by decide
    have e40 : (2 : Nat) ^ 40 = 1099511627776 := by decide
    have cok := cw.caseOk
    have lcs := cw.cl
    have on0 := On.start hd0
    generalize frz p q H = G at *
    have rl := rowS_len cw.cl es
    refine ⟨_, rfl, _, rfl, c, n, k, ts, cs, Ps, rfl, hC.mono on0.le, cw, fun H1 s1 => ?_⟩
    have on1 := on0.same s1
    refine ⟨_, rfl, _, rfl, c, e, _, ts, _, cs, Ps, _, es, rfl, hC.mono on1.le, cok, seqLs on1.le hE, le, few, fun H2 R s2 nR kR => ?_⟩
    have on2 := on1.same s2
    have fR := on1.free nR
    refine ⟨_, _, rfl, ?_⟩
    generalize rowS cs (classesL ts n) es = row at *
    have amount : ∀ H3 : Hp, On p q G H3 → ∃ (p1 q1 : Addr) (s1 : Int), ([.ref p, .int sc] : List V) = [.ref p1, .int s1] ∧ Hd p1 q1 H3 ∧ 1 ≤ s1 ∧ s1 ≤ 100003 ∧ ∀ (H' : Hp) (t : Int), On p1 q1 (frz p1 q1 H3) H' → t.natAbs < 2 ^ 40 → Q (.int t) H' := fun H3 on3 => ⟨p, q, sc, rfl, on3.hd, sc1, sc2, fun H4 t on4 ht => fin H4 t (on4.drop on3.base.2) ht⟩
    rcases num_cases ts n (k : Int) with ⟨en, no⟩ | ⟨x, A1, ea, ma, en⟩
    · rw [en]
      refine ⟨_, rfl, rfl, _, rfl, iteT (iteT ?_)⟩
      exact ⟨_, rfl, _, rfl, amount H2 on2⟩
    · have lx := (List.getElem?_eq_some_iff.mp ea).1
      rw [en]
      refine ⟨_, rfl, rfl, _, rfl, iteF ?_⟩
      refine ⟨_, rfl, p, q, 3, rfl, on2.hd, by decide, by decide, fun H3 r0 hd3 kp3 a0 a1 => ?_⟩
      have on3 := on2.draw hd3 kp3
      refine ⟨rfl, _, rfl, ite2 (fun _ => ?_) (fun _ => ?_)⟩
      · exact ⟨_, rfl, _, rfl, amount H3 on3⟩
      · have kR3 := kp3 _ _ fR.1 fR.2.1 kR
        refine ⟨_, rfl, _, rfl, _, rfl, c, R, n, x, ts, cs, Ps, row, rfl, hC.mono on3.le, cw, .inl (.inl kR3), by omega, lx, fun H4 u s4 hu => ?_⟩
        have on4 := on3.same s4
        have kR4 := s4 _ _ kR3
        generalize gapG ts n row Ps x = g at *
        generalize gapL ts n row Ps x = l at *
        refine ⟨u, _, rfl, hu, rfl, _, _, rfl, _, _, rfl, rfl, ?_⟩
        refine ⟨_, rfl, _, rfl, _, rfl, _, _, rfl, rfl, _, rfl, _, rfl, _, _, rfl, rfl, _, rfl, _, rfl, _, _, rfl, rfl, _, _, rfl, rfl, _, rfl, _, _, rfl, rfl, _, rfl, _, rfl, _, _, rfl, rfl, _, _, rfl, rfl, by show 6 ≤ sizeLine; decide, fun O nO => ?_⟩
        have fO := on4.free nO
        generalize eH5 : L2.upd H4 O _ = H5
        have s5 := same_of nO eH5
        have kO := at_of eH5
        clear eH5
        have on5 := on4.same s5
        refine ⟨p, q, O, _, rfl, on5.hd, kO, fO.1, fO.2.1, by simp, by show 6 < 1000000; decide, fun H6 v hd6 kp6 hv => ?_⟩
        obtain ⟨aim, rfl⟩ : ∃ aim : Int, v = .int aim := by
          simp only [List.mem_cons, List.not_mem_nil, or_false] at hv
          rcases hv with e | e | e | e | e | e <;> exact ⟨_, e⟩
        have on6 := on5.draw hd6 kp6
        have kR6 := kp6 _ _ fR.1 fR.2.1 (s5 _ _ kR4)
        clear hv kp6 hd6 on5 kO s5 fO nO on4 kR4 kR3 hu s4
        obtain ⟨t, cl, c3, pc, f5, xs, zs, hA, ht, hX, hcl, hc, hp, hZ, hf⟩ := id hC
        have ec := ints_at (l := cs) (i := x) (by omega)
        have er := ints_at (l := row) (i := x) (by omega)
        refine ⟨fun v H' => ∃ y : Int, v = .int y ∧ H' = H6, ?_, ?_⟩
        · refine ⟨_, rfl, c, _, _, .ref c3, rfl, rfl, seqT on6.le hA, atI_nat (j := 3) rfl, _, rfl, c3, _, _, _, rfl, rfl, seqT on6.le hc, atI_nat ec, rfl, _, rfl, ite2 (fun _ => ?_) (fun _ => ?_)⟩
          · exact ⟨_, rfl, _, rfl, R, _, _, _, rfl, rfl, .inl (.inl kR6), atI_nat er, _, rfl, _, _, rfl, rfl, _, rfl, _, _, rfl, rfl, _, rfl, rfl⟩
          · exact ⟨_, rfl, _, rfl, _, rfl, R, _, _, _, rfl, rfl, .inl (.inl kR6), atI_nat er, _, _, rfl, rfl, _, rfl, rfl⟩
        rintro _ H7 ⟨y, rfl, rfl⟩
        refine .inl ⟨_, rfl, _, rfl, _, _, rfl, rfl, by omega, ?_⟩
        refine ⟨_, rfl, _, rfl, _, rfl, p, q, 5, rfl, on6.hd, by decide, by decide, fun H8 r4 hd8 kp8 d0 d1 => ?_⟩
        have on8 := on6.draw hd8 kp8
        have m0 := Int.emod_nonneg y (by omega : sc ≠ 0)
        have m1 := Int.emod_lt_of_pos y (by omega : 0 < sc)
        have me : y.fmod sc = y % sc := Int.fmod_eq_emod_of_nonneg _ (by omega)
        have mm : sc * (r4 - 2) ≤ 2 * sc ∧ -(2 * sc) ≤ sc * (r4 - 2) := by
          have : r4 = 0 ∨ r4 = 1 ∨ r4 = 2 ∨ r4 = 3 ∨ r4 = 4 := by omega
          rcases this with e | e | e | e | e <;> (rw [e]; omega)
        refine ⟨_, _, rfl, rfl, _, _, rfl, rfl, mulW (up (n := 17) (by omega) (by decide)) (up (n := 17) (by omega) (by decide)), _, _, rfl, rfl, ?_⟩
        refine fin H8 _ on8 ?_
        show (y.fmod sc + sc * (r4 - 2)).natAbs < 2 ^ 40
        rw [me]
        generalize sc * (r4 - 2) = z at *
        omega
end
end K25
namespace CK
open PySem PySem.Spec PyProof.Rows L2 VG FR HD M24
theorem due_none {n : Nat} {ts : List (List Int)} {cs es : List Int} {Ps : List (List Int)} {k : Nat} {s t : Int} (cw : CaseW n ts cs Ps) (hk : k < es.length) (no : ∀ (b : Nat) (d : List Int), (classesL ts n)[b]? = some d → (k : Int) ∉ d) (ins : inB s (ptsS (lotsC ts n) (rowS cs (classesL ts n) es) Ps) = true) : (whU s t).filter (dueB ts n cs Ps s es k t) = whU s t := by
  refine List.filter_eq_self.mpr fun w _ => ?_
  unfold dueB
  rw [row_beh0 cw.cl hk fun A mA => by
    obtain ⟨b, eb⟩ := List.mem_iff_getElem?.mp mA
    exact no b A eb]
  exact ins
theorem due_class {n : Nat} {ts : List (List Int)} {cs es : List Int} {Ps : List (List Int)} {k x : Nat} {s t : Int} {A : List Int} (cw : CaseW n ts cs Ps) (hk : k < es.length) (ea : (classesL ts n)[x]? = some A) (ma : (k : Int) ∈ A) (ins : inB s (ptsS (lotsC ts n) (rowS cs (classesL ts n) es) Ps) = true) : dueB ts n cs Ps s es k t = okW ((rowS cs (classesL ts n) es).getD x 0) (cs.getD x 0) s t (gapG ts n (rowS cs (classesL ts n) es) Ps x) (gapL ts n (rowS cs (classesL ts n) es) Ps x) := by
  funext w
  have lx := (List.getElem?_eq_some_iff.mp ea).1
  have rl := rowS_len cw.cl es
  have lcs := cw.cl
  unfold dueB
  rw [row_beh cw.cl hk ea ma, inB_set cw.good.dis (fun R mR y my => (cw.pok.low R mR y my).1) (by omega) (cw.good.one (x : Int) (by omega) (by omega)) (oth_ne cw lx) ins]
  rfl
theorem gap_few {n : Nat} {ts : List (List Int)} {cs row : List Int} {Ps : List (List Int)} {x N : Nat} (cw : CaseW n ts cs Ps) (lx : x < (classesL ts n).length) (h : ∀ y ∈ row, y.natAbs < N) (n0 : 0 < N) : (gapG ts n row Ps x).natAbs < N ∧ (gapL ts n row Ps x).natAbs < N := by
  have one := oth_ne (row := row) cw lx
  have all : ∀ y ∈ othS (lotsC ts n) row (pieceOf Ps (x : Int)) (x : Int), y.natAbs < N := fun y my => by
    rcases List.mem_append.mp my with m | m
    · obtain ⟨k1, _, rfl⟩ := List.mem_map.mp m
      rw [List.getD_eq_getElem?_getD]
      cases q : row[k1.toNat]? with
      | none => exact n0
      | some y => exact h y (List.mem_of_getElem? q)
    · split at m
      · rw [List.mem_singleton.mp m]
        exact n0
      · cases m
  exact ⟨all _ (maxI_ok one).1, all _ (minI_ok one).1⟩
/-- the line's law, in one word -/
theorem due_two {n : Nat} {ts : List (List Int)} {cs es : List Int} {Ps : List (List Int)} {k x : Nat} {s t : Int} {A : List Int} (cw : CaseW n ts cs Ps) (hs : 0 < s) (hk : k < es.length) (ea : (classesL ts n)[x]? = some A) (ma : (k : Int) ∈ A) (ins : inB s (ptsS (lotsC ts n) (rowS cs (classesL ts n) es) Ps) = true) :
    (whU s t).filter (dueB ts n cs Ps s es k t) ≠ [] ∧ ((whU s t).length = 2 → decide (((whU s t).filter (dueB ts n cs Ps s es k t)).length = 2) = decide (gapG ts n (rowS cs (classesL ts n) es) Ps x < maxI ((whU s t).map (xW ((rowS cs (classesL ts n) es).getD x 0) (cs.getD x 0) s t)) ∧ maxI ((whU s t).map (xW ((rowS cs (classesL ts n) es).getD x 0) (cs.getD x 0) s t)) < gapL ts n (rowS cs (classesL ts n) es) Ps x + s)) := by
  have lx := (List.getElem?_eq_some_iff.mp ea).1
  have rl := rowS_len cw.cl es
  have lcs := cw.cl
  have ec : cs[x]? = some cs[x] := List.getElem?_eq_getElem (by omega)
  have gc : cs.getD x 0 = cs[x] := by rw [List.getD_eq_getElem?_getD, ec]; rfl
  have hc := cw.sgn cs[x] (List.getElem_mem _)
  rw [← gc] at hc
  have ⟨o1, o2, o3⟩ := gap_in (fun R mR y my => (cw.pok.low R mR y my).1) (by omega : x < (rowS cs (classesL ts n) es).length) (cw.good.one (x : Int) (by omega) (by omega)) (oth_ne cw lx) ins
  rw [due_class cw hk ea ma ins]
  exact gapline_ok hs hc o1 o2 o3
theorem xW_row {n : Nat} {ts : List (List Int)} {cs es : List Int} {k x : Nat} {s t w : Int} {A : List Int} (cl : cs.length = (classesL ts n).length) (hk : k < es.length) (ea : (classesL ts n)[x]? = some A) (ma : (k : Int) ∈ A) : (rowS cs (classesL ts n) (behS es k (w * s - t))).getD x 0 = xW ((rowS cs (classesL ts n) es).getD x 0) (cs.getD x 0) s t w := by
  have lx := (List.getElem?_eq_some_iff.mp ea).1
  rw [row_beh cl hk ea ma, List.getD_eq_getElem?_getD, List.getElem?_set_self (by rw [rowS_len cl]; omega)]
  rfl
theorem shn_wh {l : List Int} (h : ∀ x ∈ l, x.natAbs < 2 ^ 45) (n : l.length ≤ 2) : Shn (dI l) 1 ((46 + 2) * 2 + 2) := shn_tup (k := 0) (B := 46) (fun d hd => by
  obtain ⟨x, mx, rfl⟩ := List.mem_map.mp hd
  exact shn_int (by decide) (h x mx) (by decide)) (by rw [List.length_map]; exact n)
theorem bt30 {s x : Int} (hs : 0 < s) (h2 : s.natAbs < 2 ^ 24) (h : x.natAbs < 2 ^ 30) : Bt 300 (US s x) := by
  have b := US_bt hs h (up h2 (by decide))
  exact ⟨up b.1 (by decide), up b.2 (by decide)⟩
theorem shn_pair {s a b : Int} (hs : 0 < s) (h2 : s.natAbs < 2 ^ 24) (ha : a.natAbs < 2 ^ 30) (hb : b.natAbs < 2 ^ 30) : Shn (.tuple [dQ (US s a), dQ (US s b)]) 2 ((608 + 2) * 2 + 2) := shn_tup (k := 1) (B := 608) (n := 2) (fun x hx => by
  simp only [List.mem_cons, List.not_mem_nil, or_false] at hx
  rcases hx with e | e
  · rw [e]
    exact shn_Q (by decide) (bt30 hs h2 ha) (by decide)
  · rw [e]
    exact shn_Q (by decide) (bt30 hs h2 hb) (by decide)) (Nat.le_refl 2)
theorem eqv_pairQ (p q : Q2) : PyData.eqv (.tuple [dQ p, dQ q]) (.tuple [dQ p, dQ q]) = true ∧ SeqAt.shaped (.tuple [dQ p, dQ q]) = true := by
  have g : Gd 2 (.tuple [dQ p, dQ q]) := gd_tup fun x hx => by
    simp only [List.mem_cons, List.not_mem_nil, or_false] at hx
    rcases hx with e | e <;> (rw [e]; exact gd_dQ _)
  exact ⟨SeqAt.eqv_refl _ g.1, g.shaped (by decide)⟩
end CK
namespace CK
open PySem PySem.Spec PyProof.Rows L2 VG FR HD M24
def spLine25 (K : PySem.W.Frag) (CT CB : Addr) : Sp := fun vs H Q _ => ∃ (a b c e : Addr) (s t : Int) (ks : List Str) (ts : List (List Int)) (cs : List Int) (Ps : List (List Int)) (es : List Int) (k : Nat), vs = [.ref a, .ref b, .ref c, .int s, .ref e, .int k, .int t] ∧ Tab K CT H a ks ts ∧ BlkO K CB H b cs Ps ∧ Cas K H c ks.length ts cs Ps ∧ Ok25 ks ts cs Ps es k ∧ SqL K H e (es.map V.int) ∧ LineW s t ∧ inB s (ptsS (lotsC ts ks.length) (rowS cs (classesL ts ks.length) es) Ps) = true ∧ ∀ H', Same H H' → Q (.bl true) H'
end CK
namespace K25
open PySem PySem.Spec PyProof.Rows L2 VG FR CK HD M24
abbrev s__law_line_right : Stmt := topS 85
abbrev N__law_line_right : List Str := ["table", "blocks", "case", "scale", "errors", "kind", "top", "wholes", "told", "amount", "due", "at", "row", "greatest", "least", "gap", "higher", "whole"]
theorem sc__law_line_right : FnScope N__law_line_right ["table", "blocks", "case", "scale", "errors", "kind", "top"] (defScope s__law_line_right) := ⟨rfl, rfl, rfl, by decide +kernel, rfl, by decide +kernel, by decide +kernel⟩
section
variable {P : Program} {w : World} {K : PySem.W.Frag} {mg : Str → Option Value} {base : Heap}
theorem ok__law_line_right {f CT CB : Addr} {fd : FuncData} (F : Fun K "_law_line_right" "_law_line_right" s__law_line_right f fd)
    (C_allowed : Cl P w K mg base 9 "allowed" (spAllowed K CT CB)) (CR_allowed : ClR P w K mg base 9 "allowed" ["amount", "kind", "errors", "blocks", "table"] (spAllowed K CT CB))
    (C_gap_beside : Cl P w K mg base 7 "gap_beside" (spGap K CT CB)) (CR_gap_beside : ClR P w K mg base 7 "gap_beside" ["kind", "errors", "blocks", "table"] (spGap K CT CB))
    (C__law_wholes : Cl P w K mg base 1 "_law_wholes" spWholes25) (C__law_fractions : Cl P w K mg base 2 "_law_fractions" (spLawFrs K)) (C__law_lowest : Cl P w K mg base 1 "_law_lowest" spLowest) (C__law_inside : Cl P w K mg base 2 "_law_inside" (spIns K)) (C__law_row : Cl P w K mg base 1 "_law_row" (spRow25 K)) (C__law_behind : Cl P w K mg base 1 "_law_behind" (spLBehind K)) (C__law_place : Cl P w K mg base 1 "_law_place" (spPlace K)) (C__law_gap : Cl P w K mg base 1 "_law_gap" (spLawGap K))
    (z_repr : mg "repr" = none) (z_tuple : mg "tuple" = none) (z_len : mg "len" = none) (z_max : mg "max" = none) : FnG P w K mg base 10 f fd ["table", "blocks", "case", "scale", "errors", "kind", "top"] (spLine25 K CT CB) := by
  refine fnG_of F sc__law_line_right (fun vs H Q E h => ?_) (fun cdv A outer s H vs Q E hg hr h => ?_)
  · obtain ⟨_, _, _, _, _, _, _, _, _, _, _, _, rfl, _⟩ := h
    rfl
  · obtain ⟨a, b, c, e, sc, t, ks, ts, cs, Ps, es, k, rfl, hTab, hB, hC, ok, hE, lw, ins, fin⟩ := h
    refine ⟨_, (pss_cons (ps_par3 (i := 7) (j := 8) (l := 9) (by rfl) sc__law_line_right.nd rfl rfl rfl (by decide) (by decide) (by decide) rfl rfl rfl (pa_cons (pe_cl C__law_wholes hr (by decide) rfl (pa_cons (pv 6) (pa_cons (pv 3) pa_nil))) (pa_cons (pe_cl C__law_fractions hr (by decide) rfl (pa_cons (pv 4) (pa_cons (pv 3) pa_nil))) (pa_cons (pe_cl C__law_lowest hr (by decide) rfl (pa_cons (pv 6) (pa_cons (pv 3) pa_nil))) pa_nil))) (by rfl))
    (pss_cons (ps_setLc (i := 10) (own := [("whole", 17)]) (by rfl) sc__law_line_right.nd rfl rfl (sw_true rfl rfl rfl (by decide +kernel)) (pi_list (pv 7)) (blkOk_by (own := [("whole", 17)]) (N := N__law_line_right) (sc := defScope s__law_line_right) (by decide +kernel)) (fun _ _ _ _ _ => (pg_name (i := 17) sc__law_line_right.nd rfl (.inl rfl))) (fun _ _ _ _ _ => (pts_one (pt_val (pe_cl C__law_inside hr (by decide) rfl (pa_cons (pv 2) (pa_cons (pe_cl C__law_row hr (by decide) rfl (pa_cons (pv 2) (pa_cons (pe_cl C__law_behind hr (by decide) rfl (pa_cons (pv 4) (pa_cons (pv 5) (pa_cons (pv 6) (pa_cons (pv 17) (pa_cons (pv 3) pa_nil)))))) pa_nil))) (pa_cons (pv 3) pa_nil))))))) (fun _ _ _ _ _ => (pv 17)))
    (pss_cons (ps_if (PW.pt (pw_or (pt_cmpR op_ne (pe_callB (cr_repr hg hr.units) (by rfl) z_repr (by decide +kernel) (pa_cons (pe_cl C_allowed hr (by decide) rfl (pa_cons (pv 0) (pa_cons (pv 1) (pa_cons (pv 8) (pa_cons (pv 5) (pa_cons (pv 9) pa_nil)))))) pa_nil)) (pe_callB (cr_repr hg hr.units) (by rfl) z_repr (by decide +kernel) (pa_cons (pe_callTy call_tupE (by rfl) z_tuple (by decide +kernel) (pa_cons (pv 10) pa_nil)) pa_nil)) (nomark _)) (pw_or1 (pt_cmpR (op_eqD hr.units) (pv 10) (pe_lst pa_nil) (nomark _)))))
      (pss_one (ps_ret pe_bl))
      pss_nil)
    (pss_cons (ps_if (pt_cmpR (op_neD hr.units) (pe_clr CR_allowed hr (by decide) rfl (pk_cons (pv 9) (pk_cons (pv 5) (pk_cons (pv 8) (pk_cons (pv 1) (pk_cons (pv 0) pk_nil)))))) (pe_callTy call_tupE (by rfl) z_tuple (by decide +kernel) (pa_cons (pv 10) pa_nil)) (nomark _))
      (pss_one (ps_ret pe_bl))
      pss_nil)
    (pss_cut (ps_asg (pe_tup (pa_cons (pe_cl C__law_place hr (by decide) rfl (pa_cons (pv 2) (pa_cons (pv 5) pa_nil))) (pa_cons (pe_cl C__law_row hr (by decide) rfl (pa_cons (pv 2) (pa_cons (pv 4) pa_nil))) pa_nil))) (pg_tup rfl (pgs_cons (pg_name (i := 11) sc__law_line_right.nd rfl (.inr rfl)) (pgs_cons (pg_name (i := 12) sc__law_line_right.nd rfl (.inl rfl)) pgs_nil))))
    (pss_cons (ps_if (pt_cmpR op_isN (pv 11) pe_non (nomark _))
      (pss_one (ps_ret (pe_and (pe_cmpR op_isN (pe_cl C_gap_beside hr (by decide) rfl (pa_cons (pv 0) (pa_cons (pv 1) (pa_cons (pv 8) (pa_cons (pv 5) pa_nil))))) pe_non (nomark _)) (pe_one (pe_cmpR op_eq (pe_callB call_len_seq (by rfl) z_len (by decide +kernel) (pa_cons (pv 10) pa_nil)) (pe_callB call_len_seq (by rfl) z_len (by decide +kernel) (pa_cons (pv 7) pa_nil)) (nomark _))))))
      pss_nil)
    (pss_cons (ps_asg (pe_cl C__law_gap hr (by decide) rfl (pa_cons (pv 2) (pa_cons (pv 12) (pa_cons (pv 11) pa_nil)))) (pg_tup rfl (pgs_cons (pg_name (i := 13) sc__law_line_right.nd rfl (.inl rfl)) (pgs_cons (pg_name (i := 14) sc__law_line_right.nd rfl (.inl rfl)) pgs_nil))))
    (pss_cut (ps_set (i := 15) sc__law_line_right.nd rfl (.inl rfl) (pe_tup (pa_cons (pe_cl C__law_lowest hr (by decide) rfl (pa_cons (pv 13) (pa_cons (pv 3) pa_nil))) (pa_cons (pe_cl C__law_lowest hr (by decide) rfl (pa_cons (pe_op op_add (pv 14) (pv 3)) (pa_cons (pv 3) pa_nil))) pa_nil))))
    (pss_cons (ps_if (PW.pt (pw_or (pt_cmpR op_ne (pe_callB (cr_repr hg hr.units) (by rfl) z_repr (by decide +kernel) (pa_cons (pe_cl C_gap_beside hr (by decide) rfl (pa_cons (pv 0) (pa_cons (pv 1) (pa_cons (pv 8) (pa_cons (pv 5) pa_nil))))) pa_nil)) (pe_callB (cr_repr hg hr.units) (by rfl) z_repr (by decide +kernel) (pa_cons (pv 15) pa_nil)) (nomark _)) (pw_or1 (pt_cmpR (op_neD hr.units) (pe_clr CR_gap_beside hr (by decide) rfl (pk_cons (pv 5) (pk_cons (pv 8) (pk_cons (pv 1) (pk_cons (pv 0) pk_nil))))) (pv 15) (nomark _)))))
      (pss_one (ps_ret pe_bl))
      pss_nil)
    (pss_cons (ps_if (pt_cmpR op_eq (pe_callB call_len_seq (by rfl) z_len (by decide +kernel) (pa_cons (pv 7) pa_nil)) pe_int (nomark _))
      (pss_one (ps_ret pe_bl))
      pss_nil)
    (pss_cons (ps_set (i := 16) sc__law_line_right.nd rfl (.inl rfl) (pe_callB (show CallR _ (.builtin "max") (rMax K) from cr_max rfl) (by rfl) z_max (by decide +kernel) (pa_cons (pe_lc (own := [("whole", 17)]) (by rfl) sc__law_line_right.nd (pi_list (pv 7)) (blkOk_by (own := [("whole", 17)]) (N := N__law_line_right) (sc := defScope s__law_line_right) (by decide +kernel)) (fun _ _ _ _ _ => (pg_name (i := 17) sc__law_line_right.nd rfl (.inl rfl))) (fun _ _ _ _ _ => pts_nil) (fun _ _ _ _ _ => (pe_ix (show IxR _ (rIxL K) from ix_list) (pe_cl C__law_row hr (by decide) rfl (pa_cons (pv 2) (pa_cons (pe_cl C__law_behind hr (by decide) rfl (pa_cons (pv 4) (pa_cons (pv 5) (pa_cons (pv 6) (pa_cons (pv 17) (pa_cons (pv 3) pa_nil)))))) pa_nil))) (pv 11) (fun _ _ => rfl)))) pa_nil)))
    (pss_one (ps_ret (pe_cmpR op_eq (pe_cmpR op_eq (pe_callB call_len_seq (by rfl) z_len (by decide +kernel) (pa_cons (pv 10) pa_nil)) pe_int (nomark _)) (pe_chain op_lt op_lt (pv 13) (pv 16) (pe_op op_add (pv 14) (pv 3))) (nomark _))))))))))))))), ?_⟩
    have big : sizeLine = 16777216 := by decide
    have e17 : (2 : Nat) ^ 17 = 131072 := by decide
    have e20 : (2 : Nat) ^ 20 = 1048576 := by decide
    have e24 : (2 : Nat) ^ 24 = 16777216 := by decide
    have e30 : (2 : Nat) ^ 30 = 1073741824 := by decide
    have e40 : (2 : Nat) ^ 40 = 1099511627776 := by decide
    have e45 : (2 : Nat) ^ 45 = 35184372088832 := by decide
    have s1 := lw.s1
    have s2 := lw.s2
    have t1 := lw.t1
    have pos : 0 < sc := by omega
    have cw := ok.cw
    have cok := cw.caseOk
    have cl12 := cok.cl12
    have n12 := cw.n12
    have lcs := cw.cl
    have le := ok.le
    have kn := ok.kn
    have few20 : ∀ x ∈ es, x.natAbs < 2 ^ 20 := fun x mx => by have := ok.few x mx; omega
    have rf := row_few few20 cw.sgn fun c mc => (cok.clen c mc).1
    have rl := rowS_len cw.cl es
    have wl := wh_len sc t
    have wl2 : (whU sc t).length ≤ 2 := by rcases wl with z | z <;> omega
    have wh := lw.wh
    -- wholes, told, amount
    refine ⟨_, rfl, _, rfl, sc, t, rfl, pos, by omega, by omega, fun H1 W s01 nW kW => ?_⟩
    refine ⟨_, rfl, _, rfl, e, es, sc, rfl, seqLs s01 hE, by omega, pos, by omega, fun x mx => by have := few20 x mx; omega, fun H2 T s12 hT => ?_⟩
    refine ⟨_, rfl, _, rfl, t, sc, rfl, pos, by omega, by omega, fun H3 U s23 nU kU => ?_⟩
    refine ⟨_, _, _, rfl, ?_⟩
    have s03 := s01.trans (s12.trans s23)
    have kW3 := (s12.trans s23) _ _ kW
    have hT3 := hT.mono s23
    have hU3 : SqT K H3 U (pV (US sc t)) := .inl (.inl kU)
    clear s01 s12 s23 kW hT kU nW nU
    have few25 : ∀ w0 ∈ whU sc t, ∀ x ∈ behS es k (w0 * sc - t), x.natAbs < 2 ^ 20 := fun w0 mw x mx => by
      have := beh_few (k := k) (by omega) ok.few (wh w0 mw).2 x mx
      omega
    have lbe : ∀ d : Int, (behS es k d).length = ks.length := fun d => by unfold behS; rw [List.length_set]; exact le
    -- due
    refine ⟨_, rfl, W, rfl, ⟨_, .inl (.inl kW3)⟩, fun D nD => ?_⟩
    refine lc_it (walk_list (K := K) (a := W) (xs := (whU sc t).map V.int)) (fun i H' => Same H3 H' ∧ H' D = some (.lst ((((whU sc t).take i).filter (dueB ts ks.length cs Ps sc es k t)).map V.int))) ⟨same_upd nD, upd_same⟩ (fun i H' _ h => .inl (.inl (h.1 _ _ kW3))) ?_ ?_
    · rintro i v H4 H5 hi ⟨s4, kD⟩ ⟨rfl, ev⟩
      rw [List.getElem?_map] at ev
      obtain ⟨w0, ew, rfl⟩ := Option.map_eq_some_iff.mp ev
      have mw := List.mem_of_getElem? ew
      have s04 := s03.trans s4
      refine ⟨rfl, _, rfl, _, rfl, _, rfl, _, rfl, _, rfl, _, rfl, _, rfl, e, k, sc, t, w0, es, rfl, seqLs s04 hE, by omega, by omega, (wh w0 mw).1, by omega, fun H6 B s6 hB6 => ?_⟩
      have s06 := s04.trans s6
      refine ⟨c, B, _, ts, _, cs, Ps, _, behS es k (w0 * sc - t), rfl, hC.mono s06, cok, hB6, lbe _, few25 w0 mw, fun H7 R s7 nR kR => ?_⟩
      have s07 := s06.trans s7
      have rl2 := rowS_len cw.cl (behS es k (w0 * sc - t))
      refine ⟨_, rfl, c, R, sc, _, ts, _, cs, Ps, _, _, rfl, hC.mono s07, cok, .inl (.inl kR), rl2, fun H8 s8 => ?_⟩
      rw [ptsF_S]
      have s48 := s6.trans (s7.trans s8)
      have tk : ((whU sc t).take (i + 1)).filter (dueB ts ks.length cs Ps sc es k t) = ((whU sc t).take i).filter (dueB ts ks.length cs Ps sc es k t) ++ (if dueB ts ks.length cs Ps sc es k t w0 = true then [w0] else []) := by
        rw [List.take_add_one, ew, List.filter_append]
        congr 1
        show List.filter _ [w0] = _
        rw [List.filter_cons, List.filter_nil]
      have lf : (((whU sc t).take i).filter (dueB ts ks.length cs Ps sc es k t)).length ≤ 2 := Nat.le_trans (List.length_filter_le _ _) (by rw [List.length_take]; omega)
      refine ⟨_, rfl, ?_⟩
      show if dueB ts ks.length cs Ps sc es k t w0 = true then _ else _
      cases q : dueB ts ks.length cs Ps sc es k t w0 with
      | true =>
        refine iteT ⟨_, rfl, _, s48 _ _ kD, by rw [List.length_map]; omega, HD.same_put (s4.trans s48) nD, ?_⟩
        rw [upd_same, tk, q, if_pos rfl, List.map_append]
        rfl
      | false =>
        refine iteF ⟨s4.trans s48, ?_⟩
        rw [tk, q, if_neg Bool.false_ne_true, List.append_nil]
        exact s48 _ _ kD
    rintro H4 ⟨s4, kD⟩
    rw [List.length_map, List.take_length] at kD
    have two := fun x A (ea : (classesL ts ks.length)[x]? = some A) ma => due_two (t := t) cw pos (by omega : k < es.length) ea ma ins
    have dnone := fun no => due_none (t := t) cw (by omega : k < es.length) no ins
    have df : ∀ x ∈ (whU sc t).filter (dueB ts ks.length cs Ps sc es k t), x.natAbs < 2 ^ 45 := fun x mx => (wh x (List.mem_filter.mp mx).1).1
    have dl : ((whU sc t).filter (dueB ts ks.length cs Ps sc es k t)).length ≤ 2 := Nat.le_trans (List.length_filter_le _ _) wl2
    have dne : (whU sc t).filter (dueB ts ks.length cs Ps sc es k t) ≠ [] := by
      rcases num_cases ts ks.length (k : Int) with ⟨en, no⟩ | ⟨x, A1, ea, ma, en⟩
      · rw [dnone no]
        intro z
        rw [z] at wl
        rcases wl with q | q <;> cases q
      · exact (two x A1 ea ma).1
    have shd := shn_wh df dl
    generalize eDue : (whU sc t).filter (dueB ts ks.length cs Ps sc es k t) = due at *
    have s04 := s03.trans s4
    have kW4 := s4 _ _ kW3
    have hT4 := hT3.mono s4
    have hU4 := seqT s4 hU3
    clear kW3 hT3 hU3 s4 s03 nD
    have at4 : At25 K CT CB H4 a b T ks ts cs Ps sc es := ⟨hTab.mono s04, hB.mono s04, hT4⟩
    -- allowed
    refine ⟨_, rfl, _, rfl, _, rfl, _, rfl, _, rfl, a, b, T, U, ks, ts, cs, Ps, es, k, sc, t, rfl, at4, ok, hU4, lw, fun H5 v s5 hv => ?_⟩
    rw [eDue] at hv
    refine ⟨v, _, rfl, dp_I hv, shd.r.1, shd.r.2.1, shd.r.2.2.1, shd.r.2.2.2, ?_⟩
    refine ⟨_, rfl, D, _, rfl, .inl (.inl (.inl (s5 _ _ kD))), fun H6 v6 s6 hv6 => ?_⟩
    refine ⟨v6, _, rfl, dp_I hv6, shd.r.1, shd.r.2.1, shd.r.2.2.1, shd.r.2.2.2, rfl, _, rfl, iteNe rfl ?_⟩
    have s46 := s5.trans s6
    refine ⟨_, rfl, by show 0 ≤ sizeLine; exact Nat.zero_le _, fun Z nZ => ?_⟩
    generalize eH7 : L2.upd H6 Z _ = H7
    have s7 := same_of nZ eH7
    have kZ := at_of eH7
    clear eH7
    have s47 := s46.trans s7
    have kD7 := s47 _ _ kD
    refine ⟨_, _, HD.dp_ints (K := K) (.inl (.inl kD7)), HD.dp_ints (K := K) (cs := []) (.inl (.inl kZ)), shaped_ints _, shaped_nil, _, rfl, ?_⟩
    rw [show PyData.eqv (.list (due.map PyData.int)) (.list (([] : List Int).map PyData.int)) = decide (due = []) from eqv_nil _, decide_eq_false dne]
    refine iteF ?_
    have at7 := at4.mono s47
    have hU7 := seqT s47 hU4
    have kW7 := s47 _ _ kW4
    have s07 := s04.trans s47
    clear hv hv6 kD kW4 hT4 hU4 at4 s5 s6 s7 s46 s47 s04 kZ nZ
    refine ⟨_, rfl, _, rfl, _, rfl, _, rfl, _, rfl, a, b, T, U, ks, ts, cs, Ps, es, k, sc, t, rfl, at7, ok, hU7, lw, fun H8 v8 s8 hv8 => ?_⟩
    rw [eDue] at hv8
    refine ⟨_, rfl, D, _, rfl, .inl (.inl (.inl (s8 _ _ kD7))), fun H9 v9 s9 hv9 => ?_⟩
    refine ⟨dI due, dI due, dp_I (seqT s9 hv8), dp_I hv9, (eqv_I1 due).2, (eqv_I1 due).2, _, rfl, ?_⟩
    rw [(eqv_I1 due).1]
    refine iteF ?_
    have s79 := s8.trans s9
    have s09 := s07.trans s79
    have at9 := at7.mono s79
    have kW9 := s79 _ _ kW7
    have kD9 := s79 _ _ kD7
    clear hv8 hv9 kW7 kD7 hU7 at7 s8 s9 s79 s07
    -- at, row
    refine ⟨fun σ H' => (∃ R : Addr, σ = [some (.ref a), some (.ref b), some (.ref c), some (.int sc), some (.ref e), some (.int k), some (.int t), some (.ref W), some (.ref T), some (.ref U), some (.ref D), some (numV (classesL ts ks.length) (k : Int)), some (.ref R), none, none, none, none, none] ∧ H' R = some (.lst ((rowS cs (classesL ts ks.length) es).map V.int))) ∧ Same H9 H', ?_, ?_⟩
    · refine ⟨_, rfl, _, rfl, c, ks.length, k, ts, cs, Ps, rfl, hC.mono s09, cw, fun Ha sa => ?_⟩
      have s0a := s09.trans sa
      refine ⟨_, rfl, _, rfl, c, e, _, ts, _, cs, Ps, _, es, rfl, hC.mono s0a, cok, seqLs s0a hE, le, few20, fun Hb R sb nR kR => ?_⟩
      refine ⟨by show 2 ≤ sizeLine; decide, fun V1 nV1 => ?_⟩
      generalize eHc : L2.upd Hb V1 _ = Hc
      have sc_ := same_of nV1 eHc
      have kV := at_of eHc
      clear eHc
      refine ⟨V1, _, rfl, .inl (.inl kV), rfl, _, _, rfl, _, _, rfl, rfl, ⟨R, rfl, sc_ _ _ kR⟩, sa.trans (sb.trans sc_)⟩
    rintro σ Hc ⟨⟨R, rfl, kR10⟩, s9c⟩
    have s0c := s09.trans s9c
    have at10 := at9.mono s9c
    have kW10 := s9c _ _ kW9
    have kD10 := s9c _ _ kD9
    clear kW9 kD9 at9 s9c s09
    rcases num_cases ts ks.length (k : Int) with ⟨en, no⟩ | ⟨x, A1, ea, ma, en⟩
    · rw [en]
      refine ⟨_, rfl, rfl, _, rfl, iteT ?_⟩
      refine ⟨_, rfl, _, rfl, _, rfl, _, rfl, a, b, T, ks, ts, cs, Ps, es, k, sc, rfl, at10, ok, s1, s2, fun _ Hd sd => ?_, fun x hx => by rw [en] at hx; cases hx⟩
      refine ⟨rfl, true, congrArg V.bl (decide_eq_true rfl), iteT ?_⟩
      refine ⟨_, rfl, D, _, rfl, .inl (.inl (.inl (sd _ _ kD10))), _, rfl, W, _, rfl, .inl (.inl (.inl (sd _ _ kW10))), rfl, ?_⟩
      have e1 := dnone no
      rw [e1, decide_eq_true rfl]
      exact fin Hd (s0c.trans sd)
    · have lx := (List.getElem?_eq_some_iff.mp ea).1
      have ⟨_, t2⟩ := two x A1 ea ma
      have ⟨gf, lf⟩ := gap_few (x := x) cw lx rf (by decide)
      have xr := fun w0 => xW_row (s := sc) (t := t) (w := w0) cw.cl (by omega : k < es.length) ea ma
      rw [en]
      refine ⟨_, rfl, rfl, _, rfl, iteF ?_⟩
      generalize eRow : rowS cs (classesL ts ks.length) es = row at *
      -- the gap
      refine ⟨_, rfl, _, rfl, _, rfl, c, R, ks.length, x, ts, cs, Ps, row, rfl, hC.mono s0c, cw, .inl (.inl kR10), by omega, lx, fun Hd u sd hu => ?_⟩
      generalize eG : gapG ts ks.length row Ps x = g at *
      generalize eL : gapL ts ks.length row Ps x = l at *
      refine ⟨u, _, rfl, hu, rfl, _, _, rfl, _, _, rfl, rfl, ?_⟩
      obtain ⟨dp, edp⟩ : ∃ d : PyData, d = .tuple [dQ (US sc g), dQ (US sc (l + sc))] := ⟨_, rfl⟩
      refine ⟨fun σ H' => (∃ v3 : Addr, σ = [some (.ref a), some (.ref b), some (.ref c), some (.int sc), some (.ref e), some (.int k), some (.int t), some (.ref W), some (.ref T), some (.ref U), some (.ref D), some (.int x), some (.ref R), some (.int g), some (.int l), some (.ref v3), none, none] ∧ Dp K H' (.ref v3) dp) ∧ Same Hd H', ?_, ?_⟩
      · refine ⟨_, rfl, _, rfl, g, sc, rfl, pos, by omega, by omega, fun He v1 se n1 k1 => ?_⟩
        refine ⟨_, rfl, _, rfl, _, _, rfl, rfl, _, rfl, l + sc, sc, rfl, pos, by omega, by omega, fun Hf v2 sf n2 k2 => ?_⟩
        refine ⟨by show 2 ≤ sizeLine; decide, fun v3 n3 => ?_⟩
        generalize eHg : L2.upd Hf v3 _ = Hg
        have sg := same_of n3 eHg
        have k3 := at_of eHg
        clear eHg
        refine ⟨⟨v3, rfl, ?_⟩, se.trans (sf.trans sg)⟩
        rw [edp]
        exact .tup (sqt k3) (.cons (dpQ (sqt ((sf.trans sg) _ _ k1))) (.cons (dpQ (sqt (sg _ _ k2))) .nil))
      rintro σ Hg ⟨⟨v3, rfl, dG⟩, sdg⟩
      have scg := sd.trans sdg
      have s0g := s0c.trans scg
      have at11 := at10.mono scg
      have kW11 := scg _ _ kW10
      have kD11 := scg _ _ kD10
      have shp := shn_pair (a := g) (b := l + sc) pos (by omega) (by omega) (by omega)
      have eqp := eqv_pairQ (US sc g) (US sc (l + sc))
      rw [← edp] at shp eqp
      clear hu kW10 kD10 at10 sd sdg scg s0c kR10
      have xx : ∀ x2 : Nat, numV (classesL ts ks.length) (k : Int) = .int x2 → x2 = x := fun x2 h2 => by
        rw [en] at h2
        have := V.int.inj h2
        omega
      refine ⟨_, rfl, _, rfl, _, rfl, _, rfl, a, b, T, ks, ts, cs, Ps, es, k, sc, rfl, at11, ok, s1, s2, (fun z => by rw [en] at z; cases z), fun x2 h2 Hh vh sh hvh => ?_⟩
      rw [xx x2 h2, eRow, eG, eL, ← edp] at hvh
      refine ⟨vh, _, rfl, hvh, shp.r.1, shp.r.2.1, shp.r.2.2.1, shp.r.2.2.2, _, rfl, v3, _, rfl, dp_mono sh dG, shp.r.1, shp.r.2.1, shp.r.2.2.1, shp.r.2.2.2, rfl, _, rfl, iteNe rfl ?_⟩
      refine ⟨_, rfl, _, rfl, _, rfl, _, rfl, a, b, T, ks, ts, cs, Ps, es, k, sc, rfl, at11.mono sh, ok, s1, s2, (fun z => by rw [en] at z; cases z), fun x3 h3 Hi vi si hvi => ?_⟩
      rw [xx x3 h3, eRow, eG, eL, ← edp] at hvi
      refine ⟨_, rfl, dp, dp, hvi, dp_mono (sh.trans si) dG, eqp.2, eqp.2, _, rfl, ?_⟩
      rw [eqp.1]
      refine iteF ?_
      have sgi := sh.trans si
      have s0i := s0g.trans sgi
      have kW12 := sgi _ _ kW11
      have kD12 := sgi _ _ kD11
      clear hvh hvi dG kW11 kD11 at11 sh si sgi s0g
      refine ⟨_, rfl, W, _, rfl, .inl (.inl (.inl kW12)), rfl, _, rfl, ite2 (fun _ => ?_) (fun z => ?_)⟩
      · exact fin Hi s0i
      · have l2 : (whU sc t).length = 2 := by
          rcases wl with q | q
          · exact absurd (decide_eq_true (congrArg V.int (by rw [List.length_map, q]; rfl))) z
          · exact q
        -- the higher point
        refine ⟨_, rfl, W, rfl, ⟨_, .inl (.inl kW12)⟩, fun M nM => ?_⟩
        refine lc_it (walk_list (K := K) (a := W) (xs := (whU sc t).map V.int)) (fun i H' => Same Hi H' ∧ H' M = some (.lst ((((whU sc t).take i).map (xW (row.getD x 0) (cs.getD x 0) sc t)).map V.int))) ⟨same_upd nM, upd_same⟩ (fun i H' _ h => .inl (.inl (h.1 _ _ kW12))) ?_ ?_
        · rintro i v Hj Hk hi ⟨sj, kM⟩ ⟨rfl, ev⟩
          rw [List.getElem?_map] at ev
          obtain ⟨w0, ew, rfl⟩ := Option.map_eq_some_iff.mp ev
          have mw := List.mem_of_getElem? ew
          have s0j := s0i.trans sj
          refine ⟨rfl, _, rfl, _, rfl, _, rfl, _, rfl, _, rfl, _, rfl, e, k, sc, t, w0, es, rfl, seqLs s0j hE, by omega, by omega, (wh w0 mw).1, by omega, fun H6 B s6 hB6 => ?_⟩
          have s06 := s0j.trans s6
          refine ⟨c, B, _, ts, _, cs, Ps, _, behS es k (w0 * sc - t), rfl, hC.mono s06, cok, hB6, lbe _, few25 w0 mw, fun H7 R7 s7 nR kR => ?_⟩
          have rl2 := rowS_len cw.cl (behS es k (w0 * sc - t))
          have er := ints_at (l := rowS cs (classesL ts ks.length) (behS es k (w0 * sc - t))) (i := x) (by omega)
          rw [xr w0] at er
          have sj7 := s6.trans s7
          refine ⟨_, rfl, R7, _, _, _, rfl, rfl, .inl (.inl kR), atI_nat er, _, sj7 _ _ kM, by rw [List.length_map, List.length_map, List.length_take]; omega, HD.same_put (sj.trans sj7) nM, ?_⟩
          rw [upd_same, List.take_add_one, ew, List.map_append, List.map_append]
          rfl
        rintro Hj ⟨sj, kM⟩
        rw [List.length_map, List.take_length] at kM
        have l0 : 0 < ((whU sc t).map (xW (row.getD x 0) (cs.getD x 0) sc t)).length := by rw [List.length_map]; omega
        refine ⟨M, _, rfl, .inl (.inl kM), l0, fun m mm hm => ?_⟩
        rw [maxI_uniq mm hm]
        have t3 := t2 l2
        refine ⟨_, rfl, D, _, rfl, .inl (.inl (.inl (sj _ _ kD12))), rfl, ?_⟩
        generalize maxI ((whU sc t).map (xW (row.getD x 0) (cs.getD x 0) sc t)) = hp at *
        have eA : decide (V.int ((due.map V.int).length : Nat) = V.int 2) = decide (g < hp ∧ hp < l + sc) := by
          rw [← t3, List.length_map]
          refine decide_eq_decide.mpr ⟨fun q => ?_, fun q => by rw [q]; rfl⟩
          have := V.int.inj q
          omega
        refine ⟨_, rfl, _, rfl, _, _, rfl, rfl, _, rfl, ite2 (fun z => ?_) (fun z => ?_)⟩
        · have z : g < hp := of_decide_eq_true z
          refine ⟨_, rfl, _, rfl, _, _, rfl, rfl, _, _, rfl, rfl, rfl, ?_⟩
          have eB : decide (V.int ((due.map V.int).length : Nat) = V.int 2) = decide (hp < l + sc) := by
            rw [eA]
            exact decide_eq_decide.mpr ⟨fun q => q.2, fun q => ⟨z, q⟩⟩
          rw [decide_eq_true (congrArg V.bl eB)]
          exact fin Hj (s0i.trans sj)
        · have z : ¬ g < hp := fun q => z (decide_eq_true q)
          refine ⟨rfl, ?_⟩
          have eB : decide (V.int ((due.map V.int).length : Nat) = V.int 2) = false := by
            rw [eA]
            exact decide_eq_false fun q => z q.1
          rw [decide_eq_true (congrArg V.bl eB)]
          exact fin Hj (s0i.trans sj)
end
end K25
namespace CK
open PySem PySem.Spec PyProof.Rows L2 VG FR HD M24
theorem at_par3 {i j l : Nat} {ta : TA} {u : TS} {D : Ends} {σ : L2.St} {H : Hp} (h : ta σ H fun vs H1 => ∃ v w z, vs = [v, w, z] ∧ u D (((σ.set i (some v)).set j (some w)).set l (some z)) H1) : tSeq (tPar3 i j l ta) u D σ H := h
theorem caseW1 : CaseW kW1.length tW1 [1, -1] [[0, 1]] := by
  have el : lotsC tW1 kW1.length = [[0], [1], [0, 1]] := by decide +kernel
  have ec : classesL tW1 kW1.length = [[0], [1]] := by decide +kernel
  refine ⟨by decide, by decide, by decide, okW1.lots, by rw [ec]; decide, by decide, by rw [ec]; decide, ⟨by decide, by decide, by decide, by decide⟩, ⟨by rw [el]; decide, fun a a0 a1 => ⟨[0, 1], List.mem_cons_self, ?_⟩, fun a b h P mP aP => ?_, List.pairwise_singleton _ _⟩⟩
  · rw [ec] at a1
    have a1 : a < 2 := a1
    have : a = 0 ∨ a = 1 := by omega
    rcases this with e | e <;> (rw [e]; decide)
  · rw [el] at h
    rw [List.mem_singleton.mp mP]
    simp only [List.mem_cons, List.not_mem_nil, or_false, List.cons.injEq, and_true, reduceCtorEq, and_false, false_or] at h
    rw [h.1, h.2]
    decide
def kN : List Str := ["a"]
theorem okN : TabOk kN [] := ⟨kinds_dec (by decide) (by decide +kernel) (by decide +kernel), by decide, fun c hc => by cases hc⟩
theorem caseN : CaseW kN.length [] [] [] := by
  have ec : classesL [] kN.length = [] := by decide +kernel
  refine ⟨by decide, by decide, by decide, fun c hc => (by cases hc), by rw [ec]; decide, by decide, by rw [ec]; rfl, ⟨by decide, by decide, by decide, by decide⟩, ⟨by decide, fun a a0 a1 => ?_, (fun a b h => by cases h), List.Pairwise.nil⟩⟩
  rw [ec] at a1
  have a1 : a < 0 := a1
  omega
theorem ok25W {es : List Int} {k : Nat} (le : es.length = 2) (few : ∀ x ∈ es, x.natAbs < 800100) (kn : k < 2) : Ok25 kW1 tW1 [1, -1] [[0, 1]] es k := ⟨okW1, caseW1, le, few, kn⟩
end CK
namespace K25
open PySem PySem.Spec PyProof.Rows L2 VG FR CK HD M24
abbrev s_law : Stmt := topS 86
abbrev N_law : List Str := ["script", "heap", "turn", "case", "scale", "table", "blocks", "again", "errors", "line", "kind", "top", "none", "no_blocks"]
theorem sc_law : FnScope N_law ["script"] (defScope s_law) := ⟨rfl, rfl, rfl, by decide +kernel, rfl, by decide +kernel, by decide +kernel⟩
section
variable {P : Program} {w : World} {K : PySem.W.Frag} {mg : Str → Option Value} {base : Heap}
theorem ok_law {f CT CB : Addr} {fd : FuncData} (F : Fun K "law" "law" s_law f fd) (T_Table : MkT P w K mg base 7 "Table" CT (spInitT K CT)) (T_Blocks : MkT P w K mg base 1 "Blocks" CB (spInitB K CB))
    (C__law_heap : Cl P w K mg base 1 "_law_heap" (spHeapF K)) (C__law_draw : Cl P w K mg base 1 "_law_draw" spDraw) (C__law_pick : Cl P w K mg base 2 "_law_pick" (spPick K)) (C__law_case : Cl P w K mg base 4 "_law_case" (spCase24 K)) (C__law_names : Cl P w K mg base 3 "_law_names" (spLawNames K)) (C__law_some_row : Cl P w K mg base 3 "_law_some_row" (spSomeRow25 K)) (C__law_errors : Cl P w K mg base 2 "_law_errors" (spErrs25 K)) (C__law_near_amount : Cl P w K mg base 4 "_law_near_amount" (spNear K))
    (G__law_line_right : ClG P w K mg base 10 "_law_line_right" (spLine25 K CT CB)) (C_allowed : Cl P w K mg base 9 "allowed" (spAllowed K CT CB)) (C_gap_beside : Cl P w K mg base 7 "gap_beside" (spGap K CT CB))
    (z_range : mg "range" = none) (z_int : mg "int" = none) (z_len : mg "len" = none) : FnG P w K mg base 12 f fd ["script"] (spLaw K) := by
  refine fnG_of F sc_law (fun vs H Q E h => ?_) (fun cdv A outer s H vs Q E hg hr h => ?_)
  · obtain ⟨a, ns, rfl, _⟩ := h
    rfl
  · obtain ⟨a, ns, rfl, hS, hn, fin⟩ := h
    refine ⟨_, (pss_cons (ps_set (i := 1) sc_law.nd rfl (.inl rfl) (pe_cl C__law_heap hr (by decide) rfl (pa_cons (pv 0) pa_nil)))
    (pss_cut (ps_for PassesOwn.never rfl (pi_range1 (by rfl) z_range (pa_cons (pe_op op_add pe_int (pe_callTy call_int1 (by rfl) z_int (by decide +kernel) (pa_cons (pe_cmpR op_gt (pe_callB call_len_seq (by rfl) z_len (by decide +kernel) (pa_cons (pv 0) pa_nil)) pe_int (nomark _)) pa_nil))) pa_nil)) (pg_name (i := 2) sc_law.nd rfl (.inl rfl))
      (pss_cons (ps_par (i := 3) (j := 4) (by rfl) sc_law.nd rfl rfl (by decide) rfl rfl (pa_cons (pe_cl C__law_case hr (by decide) rfl (pa_cons (pv 1) (pa_cons (pe_cl C__law_pick hr (by decide) rfl (pa_cons (pv 1) (pa_cons (pe_lst (pa_cons pe_int (pa_cons pe_int (pa_cons pe_int (pa_cons pe_int pa_nil))))) pa_nil))) pa_nil))) (pa_cons (pe_cl C__law_pick hr (by decide) rfl (pa_cons (pv 1) (pa_cons (pe_lst (pa_cons pe_int (pa_cons pe_int (pa_cons pe_int (pa_cons pe_int (pa_cons pe_int (pa_cons pe_int (pa_cons pe_int (pa_cons pe_int pa_nil))))))))) pa_nil))) pa_nil)) (by rfl))
      (pss_cons (ps_par (i := 5) (j := 6) (by rfl) sc_law.nd rfl rfl (by decide) rfl rfl (pa_cons (pe_mt T_Table hr (by decide) rfl (pa_cons (pe_cl C__law_names hr (by decide) rfl (pa_cons (pv 1) (pa_cons (pe_ix ix_tup (pv 3) pe_int (fun _ _ => rfl)) pa_nil))) (pa_cons (pe_ix ix_tup (pv 3) pe_int (fun _ _ => rfl)) pa_nil))) (pa_cons (pe_mt T_Blocks hr (by decide) rfl (pa_cons (pe_ix ix_tup (pv 3) pe_int (fun _ _ => rfl)) (pa_cons (pe_ix ix_tup (pv 3) pe_int (fun _ _ => rfl)) pa_nil))) pa_nil)) (by rfl))
      (pss_one (ps_for PassesOwn.never rfl (pi_range1 (by rfl) z_range (pa_cons pe_int pa_nil)) (pg_name (i := 7) sc_law.nd rfl (.inl rfl))
        (pss_cons (ps_set (i := 8) sc_law.nd rfl (.inl rfl) (pe_cl C__law_errors hr (by decide) rfl (pa_cons (pv 1) (pa_cons (pv 3) (pa_cons (pv 4) (pa_cons (pe_cl C__law_some_row hr (by decide) rfl (pa_cons (pv 1) (pa_cons (pv 3) (pa_cons (pv 4) pa_nil)))) pa_nil))))))
        (pss_one (ps_for PassesOwn.never rfl (pi_range1 (by rfl) z_range (pa_cons pe_int pa_nil)) (pg_name (i := 9) sc_law.nd rfl (.inl rfl))
          (pss_cons (ps_set (i := 10) sc_law.nd rfl (.inl rfl) (pe_cl C__law_draw hr (by decide) rfl (pa_cons (pv 1) (pa_cons (pe_ix ix_tup (pv 3) pe_int (fun _ _ => rfl)) pa_nil))))
          (pss_cons (ps_set (i := 11) sc_law.nd rfl (.inl rfl) (pe_cl C__law_near_amount hr (by decide) rfl (pa_cons (pv 1) (pa_cons (pv 3) (pa_cons (pv 4) (pa_cons (pv 8) (pa_cons (pv 10) pa_nil)))))))
          (pss_one (ps_if (pt_not (pt_val (pe_clg G__law_line_right hg hr (by decide) rfl (pa_cons (pv 5) (pa_cons (pv 6) (pa_cons (pv 3) (pa_cons (pv 4) (pa_cons (pv 8) (pa_cons (pv 10) (pa_cons (pv 11) pa_nil))))))))))
            (pss_one (ps_ret pe_bl))
            pss_nil))))))))))))
    (pss_cons (ps_par3 (i := 5) (j := 6) (l := 8) (by rfl) sc_law.nd rfl rfl rfl (by decide) (by decide) (by decide) rfl rfl rfl (pa_cons (pe_mt T_Table hr (by decide) rfl (pa_cons (pe_tup (pa_cons pe_str (pa_cons pe_str pa_nil))) (pa_cons (pe_tup (pa_cons (pe_tup (pa_cons pe_int pa_nil)) (pa_cons (pe_tup (pa_cons pe_int pa_nil)) (pa_cons (pe_tup (pa_cons pe_int (pa_cons pe_int pa_nil))) pa_nil)))) pa_nil))) (pa_cons (pe_mt T_Blocks hr (by decide) rfl (pa_cons (pe_tup (pa_cons pe_int (pa_cons (pe_op op_sub pe_int pe_int) pa_nil))) (pa_cons (pe_tup (pa_cons (pe_tup (pa_cons pe_int (pa_cons pe_int pa_nil))) pa_nil)) pa_nil))) (pa_cons (pe_tup (pa_cons (pe_tup (pa_cons pe_int (pa_cons pe_int pa_nil))) (pa_cons (pe_tup (pa_cons pe_int (pa_cons pe_int pa_nil))) pa_nil))) pa_nil))) (by rfl))
    (pss_cons (ps_if (PW.pt (pw_or (pt_cmpR (op_neD hr.units) (pe_cl C_gap_beside hr (by decide) rfl (pa_cons (pv 5) (pa_cons (pv 6) (pa_cons (pv 8) (pa_cons pe_int pa_nil))))) (pe_tup (pa_cons (pe_tup (pa_cons pe_int (pa_cons pe_int pa_nil))) (pa_cons (pe_tup (pa_cons pe_int (pa_cons pe_int pa_nil))) pa_nil))) (nomark _)) (pw_or1 (pt_cmpR (op_neD hr.units) (pe_cl C_allowed hr (by decide) rfl (pa_cons (pv 5) (pa_cons (pv 6) (pa_cons (pv 8) (pa_cons pe_int (pa_cons (pe_tup (pa_cons pe_int (pa_cons pe_int pa_nil))) pa_nil)))))) (pe_tup (pa_cons pe_int pa_nil)) (nomark _)))))
      (pss_one (ps_ret pe_bl))
      pss_nil)
    (pss_cons (ps_if (PW.pt (pw_or (pt_cmpR (op_neD hr.units) (pe_cl C_allowed hr (by decide) rfl (pa_cons (pv 5) (pa_cons (pv 6) (pa_cons (pv 8) (pa_cons pe_int (pa_cons (pe_tup (pa_cons pe_int (pa_cons pe_int pa_nil))) pa_nil)))))) (pe_tup (pa_cons pe_int (pa_cons pe_int pa_nil))) (nomark _)) (pw_or1 (pt_cmpR (op_neD hr.units) (pe_cl C_allowed hr (by decide) rfl (pa_cons (pv 5) (pa_cons (pv 6) (pa_cons (pv 8) (pa_cons pe_int (pa_cons (pe_tup (pa_cons pe_int (pa_cons pe_int pa_nil))) pa_nil)))))) (pe_tup (pa_cons pe_int pa_nil)) (nomark _)))))
      (pss_one (ps_ret pe_bl))
      pss_nil)
    (pss_cons (ps_if (PW.pt (pw_or (pt_cmpR (op_neD hr.units) (pe_cl C_allowed hr (by decide) rfl (pa_cons (pv 5) (pa_cons (pv 6) (pa_cons (pv 8) (pa_cons pe_int (pa_cons (pe_tup (pa_cons (pe_op op_sub pe_int pe_int) (pa_cons pe_int pa_nil))) pa_nil)))))) (pe_tup (pa_cons (pe_op op_sub pe_int pe_int) (pa_cons (pe_op op_sub pe_int pe_int) pa_nil))) (nomark _)) (pw_or1 (pt_cmpR (op_neD hr.units) (pe_cl C_allowed hr (by decide) rfl (pa_cons (pv 5) (pa_cons (pv 6) (pa_cons (pv 8) (pa_cons pe_int (pa_cons (pe_tup (pa_cons (pe_op op_sub pe_int pe_int) (pa_cons pe_int pa_nil))) pa_nil)))))) (pe_tup (pa_cons (pe_op op_sub pe_int pe_int) pa_nil)) (nomark _)))))
      (pss_one (ps_ret pe_bl))
      pss_nil)
    (pss_cons (ps_par (i := 12) (j := 13) (by rfl) sc_law.nd rfl rfl (by decide) rfl rfl (pa_cons (pe_mt T_Table hr (by decide) rfl (pa_cons (pe_tup (pa_cons pe_str pa_nil)) (pa_cons (pe_tup pa_nil) pa_nil))) (pa_cons (pe_mt T_Blocks hr (by decide) rfl (pa_cons (pe_tup pa_nil) (pa_cons (pe_tup pa_nil) pa_nil))) pa_nil)) (by rfl))
    (pss_one (ps_ret (pe_and (pe_cmpR (op_eqD hr.units) (pe_cl C_allowed hr (by decide) rfl (pa_cons (pv 12) (pa_cons (pv 13) (pa_cons (pe_tup (pa_cons (pe_tup (pa_cons pe_int (pa_cons pe_int pa_nil))) pa_nil)) (pa_cons pe_int (pa_cons (pe_tup (pa_cons pe_int (pa_cons pe_int pa_nil))) pa_nil)))))) (pe_tup (pa_cons pe_int (pa_cons pe_int pa_nil))) (nomark _)) (pe_one (pe_cmpR op_isN (pe_cl C_gap_beside hr (by decide) rfl (pa_cons (pv 12) (pa_cons (pv 13) (pa_cons (pe_tup (pa_cons (pe_tup (pa_cons pe_int (pa_cons pe_int pa_nil))) pa_nil)) (pa_cons pe_int pa_nil))))) pe_non (nomark _))))))))))))), ?_⟩
    have big : sizeLine = 16777216 := by decide
    refine ⟨_, rfl, a, ns, rfl, hS, hn, fun Hh p q hd sm np nq => ?_⟩
    have on0 := On.start hd
    have sG : Same H (frz p q Hh) := fun b o e => frz_at (sm b o e) ⟨ne_of_none e np, ne_of_none e nq⟩
    have hS := sG.seq hS
    clear sm np nq sG hd
    generalize frz p q Hh = G at on0 hS
    refine ⟨fun σ H' => (∃ y2 y3 y4 y5 y6 y7 y8 y9 y10 y11 : Option V, σ = [some (.ref a), some (.ref p), y2, y3, y4, y5, y6, y7, y8, y9, y10, y11, none, none]) ∧ On p q G H', ?_, ?_⟩
    · refine ⟨_, rfl, a, _, rfl, .inl (on0.le.seq hS), _, _, rfl, rfl, .inr ⟨_, rfl, _, _, rfl, rfl, _, rfl, ?_, ?_, ?_⟩⟩
      · split <;> decide
      · split <;> decide
      refine for_it walk_range (fun i σ H' => (∃ y2 y3 y4 y5 y6 y7 y8 y9 y10 y11 : Option V, σ = [some (.ref a), some (.ref p), y2, y3, y4, y5, y6, y7, y8, y9, y10, y11, none, none]) ∧ On p q G H') ⟨⟨_, _, _, _, _, _, _, _, _, _, rfl⟩, on0⟩ (fun _ _ _ _ _ => trivial) ?_ (fun _ _ h => h)
      clear on0
      rintro i x σ Ha Hb hi ⟨⟨y2, y3, y4, y5, y6, y7, y8, y9, y10, y11, rfl⟩, on1⟩ ⟨e, rfl⟩
      subst e
      show gName 2 _ _ _ _
      -- the case
      refine ⟨_, rfl, _, rfl, by show 4 ≤ sizeLine; decide, fun O nO => ?_⟩
      have fO := on1.free nO
      generalize eH2 : L2.upd _ O _ = H2
      have s2 := same_of nO eH2
      have kO := at_of eH2
      clear eH2
      have on2 := on1.same s2
      refine ⟨p, q, O, _, rfl, on2.hd, kO, fO.1, fO.2.1, by simp, by show 4 < 1000000; decide, fun H3 v hd3 kp3 hv => ?_⟩
      have on3 := on2.draw hd3 kp3
      obtain ⟨most, rfl, m1, m8⟩ : ∃ m : Int, v = .int m ∧ 1 ≤ m ∧ m ≤ 8 := by
        simp only [List.mem_cons, List.not_mem_nil, or_false] at hv
        rcases hv with e | e | e | e
        · exact ⟨5, e, by decide, by decide⟩
        · exact ⟨4, e, by decide, by decide⟩
        · exact ⟨5, e, by decide, by decide⟩
        · exact ⟨8, e, by decide, by decide⟩
      clear hv kp3 hd3 on2 on1 kO s2 fO nO
      refine ⟨p, q, most, rfl, on3.hd, m1, m8, fun H4 u n ts cs Ps on4 hC cw => ?_⟩
      have on4' := on4.drop on3.base.2
      have ⟨on5, g5⟩ := on4'.base
      have back1 : ∀ {H'}, On p q (frz p q H4) H' → On p q G H' := fun h => h.drop g5
      clear on3 on4 on4' g5
      generalize frz p q H4 = G1 at *
      -- the scale
      refine ⟨_, rfl, by show 8 ≤ sizeLine; decide, fun O nO => ?_⟩
      have fO := on5.free nO
      generalize eH5 : L2.upd _ O _ = H5
      have s5 := same_of nO eH5
      have kO := at_of eH5
      clear eH5
      have on6 := on5.same s5
      refine ⟨p, q, O, _, rfl, on6.hd, kO, fO.1, fO.2.1, by simp, by show 8 < 1000000; decide, fun H6 v hd6 kp6 hv => ?_⟩
      have on7 := on6.draw hd6 kp6
      obtain ⟨sc, rfl, sc1, sc2⟩ : ∃ m : Int, v = .int m ∧ 1 ≤ m ∧ m ≤ 100003 := by
        simp only [List.mem_cons, List.not_mem_nil, or_false] at hv
        rcases hv with e | e | e | e | e | e | e | e
        · exact ⟨60, e, by decide, by decide⟩
        · exact ⟨12, e, by decide, by decide⟩
        · exact ⟨7, e, by decide, by decide⟩
        · exact ⟨97, e, by decide, by decide⟩
        · exact ⟨840, e, by decide, by decide⟩
        · exact ⟨2, e, by decide, by decide⟩
        · exact ⟨3, e, by decide, by decide⟩
        · exact ⟨100003, e, by decide, by decide⟩
      clear hv kp6 hd6 on6 on5 kO s5 fO nO
      refine ⟨_, _, rfl, ?_⟩
      obtain ⟨t, cl, c3, pc, f5, xs, zs, hA, ht, hX, hcl, hc, hp, hZ, hf⟩ := id hC
      -- table, blocks
      refine ⟨_, rfl, _, rfl, u, _, _, .int n, rfl, rfl, seqT on7.le hA, atI_nat (j := 0) rfl, p, q, n, rfl, on7.hd, cw.n1, cw.n12, fun H8 nu ks on8' kn okK lk => ?_⟩
      subst lk
      have on8 := on8'.drop on7.base.2
      refine ⟨_, rfl, u, _, _, .ref t, rfl, rfl, seqT on8.le hA, atI_nat (j := 1) rfl, fun x dx nx nd ne => ?_⟩
      refine tab_made (sqt kn) okK (seqT on8.le ht) (hX.mono on8.le) cw.t12 cw.ok nx nd ne fun H9 s9 tab _ => ?_
      have on9 := on8.same s9
      have tok : TabOk ks ts := ⟨okK, cw.t12, cw.ok⟩
      refine ⟨_, rfl, u, _, _, .ref c3, rfl, rfl, seqT on9.le hA, atI_nat (j := 3) rfl, _, rfl, u, _, _, .ref pc, rfl, rfl, seqT on9.le hA, atI_nat (j := 4) rfl, fun bx bd bnx bnd bne => ?_⟩
      refine blk_made (seqT on9.le hc) (seqT on9.le hp) (hZ.mono on9.le) bnx bnd bne fun H10 s10 blk _ => ?_
      refine ⟨_, _, rfl, ?_⟩
      have on10 := on9.same s10
      have tab10 := Tab.frz on10.hd (tab.mono s10)
      have blk10 := BlkO.frz on10.hd blk
      have ⟨on11, g11⟩ := on10.base
      have back2 : ∀ {H'}, On p q (frz p q H10) H' → On p q G H' := fun h => back1 (h.drop g11)
      have hC := hC.mono g11
      have hA := seqT g11 hA
      have hp := seqT g11 hp
      have hf := seqLs g11 hf
      have hZ := hZ.mono g11
      clear on7 on8 on8' on9 on10 s9 s10 tab blk kn nx nd bnx bnd back1 g11 ht hX hcl hc
      generalize frz p q H10 = G2 at *
      -- errors
      refine ⟨_, rfl, by decide, by decide, ?_⟩
      refine for_it walk_range (fun i σ H' => (∃ y2 y7 y8 y9 y10 y11 : Option V, σ = [some (.ref a), some (.ref p), y2, some (.ref u), some (.int sc), some (.ref x), some (.ref bx), y7, y8, y9, y10, y11, none, none]) ∧ On p q G2 H') ⟨⟨_, _, _, _, _, _, rfl⟩, on11⟩ (fun _ _ _ _ _ => trivial) ?_ ?_
      · clear on11
        rintro j v σ Hc Hd hj ⟨⟨y2, y7, y8, y9, y10, y11, rfl⟩, on1⟩ ⟨e, rfl⟩
        subst e
        show gName 7 _ _ _ _
        refine ⟨_, rfl, _, rfl, _, rfl, _, rfl, _, rfl, _, rfl, p, q, u, sc, ks.length, ts, cs, Ps, rfl, on1.hd, hC.mono on1.base.2, cw, sc1, sc2, fun He R row on2 kR fR lr hrw ins => ?_⟩
        have on3 := on2.drop on1.base.2
        refine ⟨p, q, u, R, sc, ks.length, ts, cs, Ps, row, rfl, on3.hd, hC.mono on3.base.2, cw, sc1, sc2, kR, ⟨fR.1, fR.2.1⟩, lr, fun x mx => by have := hrw x mx; omega, fun Hf eu es on4' ke fe le few er => ?_⟩
        have on4 := on4'.drop on3.base.2
        rw [← er] at ins
        have ⟨on5, g5⟩ := on4.base
        have kE := frz_at ke fe
        have back3 : ∀ {H'}, On p q (frz p q Hf) H' → On p q G2 H' := fun h => h.drop g5
        have hC3 := hC.mono g5
        have hA3 := seqT g5 hA
        have tab3 := tab10.mono g5
        have blk3 := blk10.mono g5
        have few20 : ∀ x ∈ es, x.natAbs < 2 ^ 20 := fun x mx => by
          have := few x mx
          have e20 : (2 : Nat) ^ 20 = 1048576 := by decide
          omega
        clear on1 on2 on3 on4 on4' ke g5 kR fR lr hrw er
        clear row
        generalize frz p q Hf = G3 at *
        refine ⟨_, rfl, by decide, by decide, ?_⟩
        refine for_it walk_range (fun i σ H' => (∃ y2 y7 y9 y10 y11 : Option V, σ = [some (.ref a), some (.ref p), y2, some (.ref u), some (.int sc), some (.ref x), some (.ref bx), y7, some (.ref eu), y9, y10, y11, none, none]) ∧ On p q G3 H') ⟨⟨_, _, _, _, _, rfl⟩, on5⟩ (fun _ _ _ _ _ => trivial) ?_ ?_
        · clear on5
          rintro m v σ Hg Hh hm ⟨⟨y2, y7, y9, y10, y11, rfl⟩, on1⟩ ⟨e, rfl⟩
          subst e
          show gName 9 _ _ _ _
          have n1 := cw.n1
          have n12 := cw.n12
          refine ⟨_, rfl, _, rfl, u, _, _, .int ks.length, rfl, rfl, seqT on1.le hA3, atI_nat (j := 0) rfl, p, q, _, rfl, on1.hd, by omega, by omega, fun Hi k hdi kpi k0 k1 => ?_⟩
          have on2 := on1.draw hdi kpi
          obtain ⟨k, rfl⟩ := Int.eq_ofNat_of_zero_le k0
          refine ⟨_, rfl, _, rfl, _, rfl, _, rfl, _, rfl, p, q, u, eu, sc, ks.length, k, ts, cs, Ps, es, rfl, on2.hd, hC3.mono on2.base.2, cw, sc1, sc2, .inl (.inl (on2.base.2 _ _ kE)), le, few20, fun Hj t on3' ht => ?_⟩
          have on3 := on3'.drop on2.base.2
          refine ⟨_, rfl, _, rfl, _, rfl, _, rfl, _, rfl, _, rfl, _, rfl, x, bx, u, eu, sc, t, ks, ts, cs, Ps, es, k, rfl, tab3.mono on3.le, blk3.mono on3.le, hC3.mono on3.le, ⟨tok, cw, le, few, by omega⟩, .inl (.inl (on3.le _ _ kE)), ⟨sc1, sc2, ht⟩, ins, fun Hk sk => ⟨_, rfl, iteF ?_⟩⟩
          exact ⟨⟨_, _, _, _, _, rfl⟩, on3.same sk⟩
        · rintro σ Hg ⟨⟨y2, y7, y9, y10, y11, rfl⟩, on1⟩
          exact ⟨⟨_, _, _, _, _, _, rfl⟩, back3 on1⟩
      · rintro σ Hc ⟨⟨y2, y7, y8, y9, y10, y11, rfl⟩, on1⟩
        exact ⟨⟨_, _, _, _, _, _, _, _, _, _, rfl⟩, back2 on1⟩
    clear on0
    rintro σ Ha ⟨⟨y2, y3, y4, y5, y6, y7, y8, y9, y10, y11, rfl⟩, on1⟩
    clear on1 hS
    -- the first
    refine at_par3 (at_cons (at_make (at_cons (lit_strs (cs := kW1) (by decide) fun H1 ku s1 kku => ?_))))
    refine at_cons (lit_tots (K := K) (cs := tW1) ⟨by decide, by decide⟩ fun H2 kt xs s2 kkt hX => ?_)
    refine fun x dx nx nd ne => tab_made (sqt (s2 _ _ kku)) okW1.kinds (sqt kkt) hX okW1.len okW1.lots nx nd ne fun H3 s3 tab _ => ?_
    clear nx nd ne kku kkt hX s1 s2 s3
    refine at_cons (at_make (at_cons ?_))
    refine ⟨_, _, rfl, rfl, by show 2 ≤ sizeLine; decide, fun c nc => ?_⟩
    generalize eH4 : L2.upd H3 c _ = H4
    have s4 := same_of nc eH4
    have kc : H4 c = some (.tup (([1, -1] : List Int).map V.int)) := at_of eH4
    clear eH4
    refine at_cons (lit_tots (K := K) (cs := [[0, 1]]) ⟨by decide, by decide⟩ fun H5 z zs s5 kz hZ => ?_)
    refine fun bx bd bnx bnd bne => blk_made (cs := [1, -1]) (Ps := [[0, 1]]) (sqt (s5 _ _ kc)) (sqt kz) hZ bnx bnd bne fun H6 s6 blk _ => ?_
    have tab := tab.mono (s4.trans (s5.trans s6))
    clear bnx bnd bne kc kz hZ s4 s5 s6 nc
    refine at_cons (lit_tots (K := K) (cs := [[1, 4], [0, 1]]) ⟨by decide, by decide⟩ fun H7 e xs s7 ke hX => ?_)
    refine ⟨_, _, _, rfl, ?_⟩
    have tab := tab.mono s7
    have blk := blk.mono s7
    clear s7
    -- its gap
    have en : numV (classesL tW1 kW1.length) ((1 : Nat) : Int) = .int ((1 : Nat) : Int) := by decide +kernel
    refine ⟨_, rfl, _, rfl, _, rfl, x, bx, e, kW1, tW1, [1, -1], [[0, 1]], [1, 0], 1, 4, rfl, ⟨tab, blk, erT_lit ke hX (by decide +kernel)⟩, ok25W rfl (by decide) (by decide), by decide, by decide, (fun z => by rw [en] at z; cases z), fun x2 h2 H8 v8 s8 hv8 => ?_⟩
    have ex2 : x2 = 1 := by
      rw [en] at h2
      have := V.int.inj h2
      omega
    subst ex2
    rw [show US 4 (gapG tW1 kW1.length (rowS [1, -1] (classesL tW1 kW1.length) [1, 0]) [[0, 1]] 1) = (1, 4) from by decide +kernel, show US 4 (gapL tW1 kW1.length (rowS [1, -1] (classesL tW1 kW1.length) [1, 0]) [[0, 1]] 1 + 4) = (1, 1) from by decide +kernel] at hv8
    refine lit_tots (K := K) (cs := [[1, 4], [1, 1]]) ⟨by decide, by decide⟩ fun H9 e9 ys s9 k9 hY => ?_
    refine ⟨.tuple [dQ (1, 4), dQ (1, 1)], .tuple [dQ (1, 4), dQ (1, 1)], dp_mono s9 hv8, .tup (sqt k9) (dpAll_ps (frs_tots (ps := [(1, 4), (1, 1)]) rfl hY)), (eqv_pairQ _ _).2, (eqv_pairQ _ _).2, _, rfl, ?_⟩
    rw [(eqv_pairQ (1, 4) (1, 1)).1]
    refine iteF ?_
    have q0 : Same H7 H9 := s8.trans s9
    clear hv8 k9 hY s8 s9 h2 en
    refine ⟨_, rfl, _, rfl, _, rfl, ?_⟩
    refine ⟨Nat.le_of_ble_eq_true rfl, fun am1 nam1 => ?_⟩
    generalize eha1 : L2.upd _ am1 _ = Ha1
    have sa1 := same_of nam1 eha1
    have ka1 : Ha1 am1 = some (.tup [.int 1, .int 8]) := at_of eha1
    clear eha1 nam1
    have hU1 : SqT K Ha1 am1 (pV (US 8 (1))) := by
      rw [show US 8 (1) = (1, 8) from by decide +kernel]
      exact sqt ka1
    have qa1 := q0.trans sa1
    refine ⟨x, bx, e, am1, kW1, tW1, [1, -1], [[0, 1]], [2, 0], 1, 8, 1, rfl, ⟨tab.mono qa1, blk.mono qa1, erT_lit (qa1 _ _ ke) (hX.mono qa1) (by decide +kernel)⟩, ok25W rfl (by decide) (by decide), hU1, ⟨by decide, by decide, by decide⟩, fun Hb1 v1 sb1 hv1 => ?_⟩
    rw [show (whU 8 (1)).filter (dueB tW1 kW1.length [1, -1] [[0, 1]] 8 [2, 0] 1 (1)) = [0] from by decide +kernel] at hv1
    refine lit_ints (cs := [0]) (by decide) fun Hc1 li1 sc1 kl1 => ?_
    refine ⟨dI [0], dI [0], dp_I (seqT sc1 hv1), dp_I (sqt kl1), (eqv_I1 [0]).2, (eqv_I1 [0]).2, _, rfl, ?_⟩
    rw [(eqv_I1 [0]).1]
    refine iteF ?_
    have q1 := qa1.trans (sb1.trans sc1)
    clear hU1 hv1 kl1 ka1 sa1
    refine ⟨_, rfl, _, rfl, _, rfl, ?_⟩
    refine ⟨Nat.le_of_ble_eq_true rfl, fun am2 nam2 => ?_⟩
    generalize eha2 : L2.upd _ am2 _ = Ha2
    have sa2 := same_of nam2 eha2
    have ka2 : Ha2 am2 = some (.tup [.int 3, .int 4]) := at_of eha2
    clear eha2 nam2
    have hU2 : SqT K Ha2 am2 (pV (US 4 (3))) := by
      rw [show US 4 (3) = (3, 4) from by decide +kernel]
      exact sqt ka2
    have qa2 := q1.trans sa2
    refine ⟨x, bx, e, am2, kW1, tW1, [1, -1], [[0, 1]], [1, 0], 1, 4, 3, rfl, ⟨tab.mono qa2, blk.mono qa2, erT_lit (qa2 _ _ ke) (hX.mono qa2) (by decide +kernel)⟩, ok25W rfl (by decide) (by decide), hU2, ⟨by decide, by decide, by decide⟩, fun Hb2 v2 sb2 hv2 => ?_⟩
    rw [show (whU 4 (3)).filter (dueB tW1 kW1.length [1, -1] [[0, 1]] 4 [1, 0] 1 (3)) = [0, 1] from by decide +kernel] at hv2
    refine lit_ints (cs := [0, 1]) (by decide) fun Hc2 li2 sc2 kl2 => ?_
    refine ⟨dI [0, 1], dI [0, 1], dp_I (seqT sc2 hv2), dp_I (sqt kl2), (eqv_I1 [0, 1]).2, (eqv_I1 [0, 1]).2, _, rfl, ?_⟩
    rw [(eqv_I1 [0, 1]).1]
    refine iteF ?_
    have q2 := qa2.trans (sb2.trans sc2)
    clear hU2 hv2 kl2 ka2 sa2
    refine ⟨_, rfl, _, rfl, _, rfl, ?_⟩
    refine ⟨Nat.le_of_ble_eq_true rfl, fun am3 nam3 => ?_⟩
    generalize eha3 : L2.upd _ am3 _ = Ha3
    have sa3 := same_of nam3 eha3
    have ka3 : Ha3 am3 = some (.tup [.int 1, .int 4]) := at_of eha3
    clear eha3 nam3
    have hU3 : SqT K Ha3 am3 (pV (US 4 (1))) := by
      rw [show US 4 (1) = (1, 4) from by decide +kernel]
      exact sqt ka3
    have qa3 := q2.trans sa3
    refine ⟨x, bx, e, am3, kW1, tW1, [1, -1], [[0, 1]], [1, 0], 1, 4, 1, rfl, ⟨tab.mono qa3, blk.mono qa3, erT_lit (qa3 _ _ ke) (hX.mono qa3) (by decide +kernel)⟩, ok25W rfl (by decide) (by decide), hU3, ⟨by decide, by decide, by decide⟩, fun Hb3 v3 sb3 hv3 => ?_⟩
    rw [show (whU 4 (1)).filter (dueB tW1 kW1.length [1, -1] [[0, 1]] 4 [1, 0] 1 (1)) = [0] from by decide +kernel] at hv3
    refine lit_ints (cs := [0]) (by decide) fun Hc3 li3 sc3 kl3 => ?_
    refine ⟨dI [0], dI [0], dp_I (seqT sc3 hv3), dp_I (sqt kl3), (eqv_I1 [0]).2, (eqv_I1 [0]).2, _, rfl, ?_⟩
    rw [(eqv_I1 [0]).1]
    refine iteF ?_
    have q3 := qa3.trans (sb3.trans sc3)
    clear hU3 hv3 kl3 ka3 sa3
    refine ⟨_, rfl, _, rfl, _, rfl, ?_⟩
    refine ⟨_, _, rfl, rfl, Nat.le_of_ble_eq_true rfl, fun am4 nam4 => ?_⟩
    generalize eham4 : L2.upd _ am4 _ = Ham4
    have sam4 := same_of nam4 eham4
    have kam4 := at_of eham4
    clear eham4
    have sa4 := sam4
    have ka4 : Ham4 am4 = some (.tup ([.int (-7), .int 2])) := kam4
    clear sam4
    clear nam4
    have hU4 : SqT K Ham4 am4 (pV (US 4 (-14))) := by
      rw [show US 4 (-14) = (-7, 2) from by decide +kernel]
      exact sqt ka4
    have qa4 := q3.trans sa4
    refine ⟨x, bx, e, am4, kW1, tW1, [1, -1], [[0, 1]], [1, 0], 0, 4, -14, rfl, ⟨tab.mono qa4, blk.mono qa4, erT_lit (qa4 _ _ ke) (hX.mono qa4) (by decide +kernel)⟩, ok25W rfl (by decide) (by decide), hU4, ⟨by decide, by decide, by decide⟩, fun Hb4 v4 sb4 hv4 => ?_⟩
    rw [show (whU 4 (-14)).filter (dueB tW1 kW1.length [1, -1] [[0, 1]] 4 [1, 0] 0 (-14)) = [-4, -3] from by decide +kernel] at hv4
    refine ⟨_, _, rfl, rfl, _, _, rfl, rfl, Nat.le_of_ble_eq_true rfl, fun li4 nli4 => ?_⟩
    generalize ehli4 : L2.upd _ li4 _ = Hli4
    have sli4 := same_of nli4 ehli4
    have kli4 := at_of ehli4
    clear ehli4
    have kl4 : Hli4 li4 = some (.tup (([-4, -3] : List Int).map V.int)) := kli4
    have sc4 := sli4
    refine ⟨dI [-4, -3], dI [-4, -3], dp_I (seqT sc4 hv4), dp_I (sqt kl4), (eqv_I1 [-4, -3]).2, (eqv_I1 [-4, -3]).2, _, rfl, ?_⟩
    rw [(eqv_I1 [-4, -3]).1]
    refine iteF ?_
    have q4 := qa4.trans (sb4.trans sc4)
    clear hU4 hv4 kl4 ka4 sa4
    refine ⟨_, rfl, _, rfl, _, rfl, ?_⟩
    refine ⟨_, _, rfl, rfl, Nat.le_of_ble_eq_true rfl, fun am5 nam5 => ?_⟩
    generalize eham5 : L2.upd _ am5 _ = Ham5
    have sam5 := same_of nam5 eham5
    have kam5 := at_of eham5
    clear eham5
    have sa5 := sam5
    have ka5 : Ham5 am5 = some (.tup ([.int (-3), .int 1])) := kam5
    clear sam5
    clear nam5
    have hU5 : SqT K Ham5 am5 (pV (US 4 (-12))) := by
      rw [show US 4 (-12) = (-3, 1) from by decide +kernel]
      exact sqt ka5
    have qa5 := q4.trans sa5
    refine ⟨x, bx, e, am5, kW1, tW1, [1, -1], [[0, 1]], [1, 0], 0, 4, -12, rfl, ⟨tab.mono qa5, blk.mono qa5, erT_lit (qa5 _ _ ke) (hX.mono qa5) (by decide +kernel)⟩, ok25W rfl (by decide) (by decide), hU5, ⟨by decide, by decide, by decide⟩, fun Hb5 v5 sb5 hv5 => ?_⟩
    rw [show (whU 4 (-12)).filter (dueB tW1 kW1.length [1, -1] [[0, 1]] 4 [1, 0] 0 (-12)) = [-3] from by decide +kernel] at hv5
    refine ⟨_, _, rfl, rfl, Nat.le_of_ble_eq_true rfl, fun li5 nli5 => ?_⟩
    generalize ehli5 : L2.upd _ li5 _ = Hli5
    have sli5 := same_of nli5 ehli5
    have kli5 := at_of ehli5
    clear ehli5
    have kl5 : Hli5 li5 = some (.tup (([-3] : List Int).map V.int)) := kli5
    have sc5 := sli5
    refine ⟨dI [-3], dI [-3], dp_I (seqT sc5 hv5), dp_I (sqt kl5), (eqv_I1 [-3]).2, (eqv_I1 [-3]).2, _, rfl, ?_⟩
    rw [(eqv_I1 [-3]).1]
    refine iteF ?_
    have q5 := qa5.trans (sb5.trans sc5)
    clear hU5 hv5 kl5 ka5 sa5
    clear tab blk ke hX
    -- none
    refine at_par (at_cons (at_make (at_cons (lit_strs (cs := kN) (by decide) fun H1 ku s1 kku => ?_))))
    refine at_cons (lit_tots (K := K) (cs := []) ⟨by decide, by decide⟩ fun H2 kt xs s2 kkt hX => ?_)
    refine fun x dx nx nd ne => tab_made (sqt (s2 _ _ kku)) okN.kinds (sqt kkt) hX okN.len okN.lots nx nd ne fun H3 s3 tab _ => ?_
    clear nx nd ne kku kkt hX s1 s2 s3
    refine at_cons (at_make (at_cons (lit_ints (cs := []) (by decide) fun H4 c s4 kc => ?_)))
    refine at_cons (lit_tots (K := K) (cs := []) ⟨by decide, by decide⟩ fun H5 z zs s5 kz hZ => ?_)
    refine fun bx bd bnx bnd bne => blk_made (cs := []) (Ps := []) (sqt (s5 _ _ kc)) (sqt kz) hZ bnx bnd bne fun H6 s6 blk _ => ?_
    have tab := tab.mono (s4.trans (s5.trans s6))
    clear bnx bnd bne kc kz hZ s4 s5 s6
    refine ⟨_, _, rfl, ?_⟩
    refine ⟨_, rfl, _, rfl, ?_⟩
    refine at_cons (lit_tots (K := K) (cs := [[9, 2]]) ⟨by decide, by decide⟩ fun H7 e xs s7 ke hX => ?_)
    refine ⟨Nat.le_of_ble_eq_true rfl, fun am nam => ?_⟩
    generalize eh8 : L2.upd _ am _ = H8
    have s8 := same_of nam eh8
    have kam : H8 am = some (.tup [.int 1, .int 3]) := at_of eh8
    clear eh8 nam
    have hU : SqT K H8 am (pV (US 6 2)) := by
      rw [show US 6 2 = (1, 3) from by decide +kernel]
      exact sqt kam
    have q8 := s7.trans s8
    refine ⟨x, bx, e, am, kN, [], [], [], [27], 0, 6, 2, rfl, ⟨tab.mono q8, blk.mono q8, erT_lit (s8 _ _ ke) (hX.mono s8) (by decide +kernel)⟩, ⟨okN, caseN, rfl, by decide, by decide⟩, hU, ⟨by decide, by decide, by decide⟩, fun H9 v9 s9 hv9 => ?_⟩
    rw [show (whU 6 2).filter (dueB [] kN.length [] [] 6 [27] 0 2) = [0, 1] from by decide +kernel] at hv9
    refine lit_ints (cs := [0, 1]) (by decide) fun H10 li s10 kl => ?_
    refine ⟨dI [0, 1], dI [0, 1], dp_I (seqT s10 hv9), dp_I (sqt kl), (eqv_I1 [0, 1]).2, (eqv_I1 [0, 1]).2, true, congrArg V.bl (eqv_I1 [0, 1]).1, iteT ?_⟩
    have q10 := q8.trans (s9.trans s10)
    have tab := tab.mono q10
    have blk := blk.mono q10
    clear hv9 kl hU kam ke hX s7 s8 s9 s10 q8 q10
    have en : numV (classesL [] kN.length) ((0 : Nat) : Int) = .non := by decide +kernel
    refine ⟨_, rfl, _, rfl, ?_⟩
    refine at_cons (lit_tots (K := K) (cs := [[9, 2]]) ⟨by decide, by decide⟩ fun H11 e xs s11 ke hX => ?_)
    refine ⟨x, bx, e, kN, [], [], [], [9], 0, 2, rfl, ⟨tab.mono s11, blk.mono s11, erT_lit ke hX (by decide +kernel)⟩, ⟨okN, caseN, rfl, by decide, by decide⟩, by decide, by decide, fun _ H12 s12 => ⟨rfl, ?_⟩, fun x2 h2 => by rw [en] at h2; cases h2⟩
    rw [decide_eq_true rfl]
    exact fin _
end
end K25
namespace VG
open PySem PySem.Spec PyProof.Rows L2
end VG
namespace VG
open PySem PySem.Spec PyProof.Rows L2
theorem kbinds_rev5 {K : PySem.W.Frag} {x qual p1 p2 p3 p4 p5 : Str} {st : Stmt} {f : Addr} {fd : FuncData} (F : Fun K x qual st f fd)
    (h : ∀ (kV doc pm : Value) (an : Option Addr) (cdv ct u v w z y : Value) (i : Nat), bindArgs (PySem.W.fnOf x qual (defArgs st) (defBody st) (defScope st) .none kV doc pm an cdv ct)
      (match i with
        | 0 => ⟨[], [(p5, y), (p4, z), (p3, w), (p2, v), (p1, u)]⟩
        | 1 => ⟨[u], [(p5, y), (p4, z), (p3, w), (p2, v)]⟩
        | 2 => ⟨[u, v], [(p5, y), (p4, z), (p3, w)]⟩
        | 3 => ⟨[u, v, w], [(p5, y), (p4, z)]⟩
        | 4 => ⟨[u, v, w, z], [(p5, y)]⟩
        | _ => ⟨[u, v, w, z, y], []⟩) = pure [(p1, u), (p2, v), (p3, w), (p4, z), (p5, y)]) :
    KBinds K fd [p1, p2, p3, p4, p5] [p5, p4, p3, p2, p1] (fun us ws => us ++ ws.reverse) (fun vs zs => vs ++ zs.reverse) := by
  obtain ⟨oc, od, kV, doc, pm, an, cdv, ct, osl, rfl, lk, hcd⟩ := F.ex
  constructor
  · intro s us ws _ hl
    have hl : us.length + ws.length = 5 := by
      rw [List.length_append, List.length_reverse] at hl
      exact hl
    match us, ws, hl with
    | [], [y, z, w, v, u], _ => exact .of_eq (h kV doc pm an cdv ct u v w z y 0)
    | [u], [y, z, w, v], _ => exact .of_eq (h kV doc pm an cdv ct u v w z y 1)
    | [u, v], [y, z, w], _ => exact .of_eq (h kV doc pm an cdv ct u v w z y 2)
    | [u, v, w], [y, z], _ => exact .of_eq (h kV doc pm an cdv ct u v w z y 3)
    | [u, v, w, z], [y], _ => exact .of_eq (h kV doc pm an cdv ct u v w z y 4)
    | [u, v, w, z, y], [], _ => exact .of_eq (h kV doc pm an cdv ct u v w z y 5)
    | [], [], hl => cases hl
    | [], [_], hl => cases hl
    | [], [_, _], hl => cases hl
    | [], [_, _, _], hl => cases hl
    | [], [_, _, _, _], hl => cases hl
    | [], _ :: _ :: _ :: _ :: _ :: _ :: _, hl => first | (simp at hl; done) | (simp at hl; omega)
    | [_], [], hl => cases hl
    | [_], [_], hl => cases hl
    | [_], [_, _], hl => cases hl
    | [_], [_, _, _], hl => cases hl
    | [_], _ :: _ :: _ :: _ :: _ :: _, hl => first | (simp at hl; done) | (simp at hl; omega)
    | [_, _], [], hl => cases hl
    | [_, _], [_], hl => cases hl
    | [_, _], [_, _], hl => cases hl
    | [_, _], _ :: _ :: _ :: _ :: _, hl => first | (simp at hl; done) | (simp at hl; omega)
    | [_, _, _], [], hl => cases hl
    | [_, _, _], [_], hl => cases hl
    | [_, _, _], _ :: _ :: _ :: _, hl => first | (simp at hl; done) | (simp at hl; omega)
    | [_, _, _, _], [], hl => cases hl
    | [_, _, _, _], _ :: _ :: _, hl => first | (simp at hl; done) | (simp at hl; omega)
    | [_, _, _, _, _], _ :: _, hl => first | (simp at hl; done) | (simp at hl; omega)
    | _ :: _ :: _ :: _ :: _ :: _ :: _, ws, hl => first | (simp at hl; done) | (simp at hl; omega)
  · intro vs us zs ws r1 r2
    exact r1.append (vals_rev r2)
end VG
namespace K25
open PySem PySem.Spec PyProof.Rows L2 VG FR CK HD M24
abbrev i_InvalidTable : Stmt := inClass (topS 14) 0
abbrev i_InvalidNumber : Stmt := inClass (topS 15) 0
theorem sc_initA : FnScope ["self", "at"] ["self", "at"] (defScope i_InvalidTable) := ⟨rfl, rfl, rfl, by decide +kernel, rfl, by decide +kernel, by decide +kernel⟩
theorem sc_initN : FnScope ["self", "word"] ["self", "word"] (defScope i_InvalidNumber) := ⟨rfl, rfl, rfl, by decide +kernel, rfl, by decide +kernel, by decide +kernel⟩
section
variable {P : Program} {w : World} {K : PySem.W.Frag} {mg : Str → Option Value} {base : Heap}
theorem ok_initA {f C : Addr} {fd : FuncData} (F : Fun K "__init__" "InvalidTable.__init__" i_InvalidTable f fd) (o : OexC K C) (hw : PySem.W.findIn K (.ref C) "at" = some none) :
    FnOk P w K mg base CX0 1 f fd ["self", "at"] (spInitW K C "at") := by
  refine F.ok sc_initA (fun vs H Q E h => ?_) (fun cdv A outer s H vs Q E hr h => ?_)
  · obtain ⟨_, _, rfl, _⟩ := h
    rfl
  · obtain ⟨a, v, rfl, ha, fin⟩ := h
    refine ⟨_, pss_one (ps_ost (pv 0) (pv 1)), ?_⟩
    exact ⟨_, rfl, _, rfl, a, C, rfl, o, hw, .inl ⟨ha, fun dx n ne => fin dx n ne⟩⟩
theorem ok_initN {f C : Addr} {fd : FuncData} (F : Fun K "__init__" "InvalidNumber.__init__" i_InvalidNumber f fd) (o : OexC K C) (hw : PySem.W.findIn K (.ref C) "word" = some none) :
    FnOk P w K mg base CX0 1 f fd ["self", "word"] (spInitW K C "word") := by
  refine F.ok sc_initN (fun vs H Q E h => ?_) (fun cdv A outer s H vs Q E hr h => ?_)
  · obtain ⟨_, _, rfl, _⟩ := h
    rfl
  · obtain ⟨a, v, rfl, ha, fin⟩ := h
    refine ⟨_, pss_one (ps_ost (pv 0) (pv 1)), ?_⟩
    exact ⟨_, rfl, _, rfl, a, C, rfl, o, hw, .inl ⟨ha, fun dx n ne => fin dx n ne⟩⟩
end
theorem all_mk {l : PySem.W.OpenLaw} {w : World} {K : PySem.W.Frag} {h : Heap} {mg : Str → Option Value} {fa : Addr} (X : K.In h) (G : h.Ns mainGlobals mg) (hfa : mg "law" = some (.ref fa))
    {f0 f1 f2 f3 f4 f5 f6 f7 f8 f9 f10 f11 f12 f13 f14 f15 f16 f17 f18 f19 f20 f21 f22 f23 f24 f25 f26 f27 f28 f29 f30 f31 f32 f33 f34 f35 f36 f37 f38 f39 f40 f41 f42 f43 f44 f45 f46 f47 f48 f49 f50 f51 f52 f53 f54 f55 f56 f57 f58 f59 f60 f61 f62 f63 : Addr}
    {od0 an0 od1 an1 od2 an2 od3 an3 od4 an4 od5 an5 od6 an6 od7 an7 od8 an8 od9 an9 od10 an10 od11 an11 od12 an12 od13 an13 od14 an14 od15 an15 od16 an16 od17 an17 od18 an18 od19 an19 od20 an20 od21 an21 od22 an22 od23 an23 od24 an24 od25 an25 od26 an26 od27 an27 od28 an28 od29 an29 od30 an30 od31 an31 od32 an32 od33 an33 od34 an34 od35 an35 od36 an36 od37 an37 od38 an38 od39 an39 od40 an40 od41 an41 od42 an42 od43 an43 od44 an44 od45 an45 od46 an46 od47 an47 od48 an48 od49 an49 od50 an50 od51 an51 od52 an52 od53 an53 od54 an54 od55 an55 od56 an56 od57 an57 od58 an58 od59 an59 od60 an60 od61 an61 od62 an62 od63 an63 : Option Addr} {sl0 sl1 sl2 sl3 sl4 sl5 sl6 sl7 sl8 sl9 sl10 sl11 sl12 sl13 sl14 sl15 sl16 sl17 sl18 sl19 sl20 sl21 sl22 sl23 sl24 sl25 sl26 sl27 sl28 sl29 sl30 sl31 sl32 sl33 sl34 sl35 sl36 sl37 sl38 sl39 sl40 sl41 sl42 sl43 sl44 sl45 sl46 sl47 sl48 sl49 sl50 sl51 sl52 sl53 sl54 sl55 sl56 sl57 sl58 sl59 sl60 sl61 sl62 sl63 : Array (Option Value)}
    {oc0 kV0 dc0 pm0 cd0 ct0 oc1 kV1 dc1 pm1 cd1 ct1 oc2 kV2 dc2 pm2 cd2 ct2 oc3 kV3 dc3 pm3 cd3 ct3 oc4 kV4 dc4 pm4 cd4 ct4 oc5 kV5 dc5 pm5 cd5 ct5 oc6 kV6 dc6 pm6 cd6 ct6 oc7 kV7 dc7 pm7 cd7 ct7 oc8 kV8 dc8 pm8 cd8 ct8 oc9 kV9 dc9 pm9 cd9 ct9 oc10 kV10 dc10 pm10 cd10 ct10 oc11 kV11 dc11 pm11 cd11 ct11 oc12 kV12 dc12 pm12 cd12 ct12 oc13 kV13 dc13 pm13 cd13 ct13 oc14 kV14 dc14 pm14 cd14 ct14 oc15 kV15 dc15 pm15 cd15 ct15 oc16 kV16 dc16 pm16 cd16 ct16 oc17 kV17 dc17 pm17 cd17 ct17 oc18 kV18 dc18 pm18 cd18 ct18 oc19 kV19 dc19 pm19 cd19 ct19 oc20 kV20 dc20 pm20 cd20 ct20 oc21 kV21 dc21 pm21 cd21 ct21 oc22 kV22 dc22 pm22 cd22 ct22 oc23 kV23 dc23 pm23 cd23 ct23 oc24 kV24 dc24 pm24 cd24 ct24 oc25 kV25 dc25 pm25 cd25 ct25 oc26 kV26 dc26 pm26 cd26 ct26 oc27 kV27 dc27 pm27 cd27 ct27 oc28 kV28 dc28 pm28 cd28 ct28 oc29 kV29 dc29 pm29 cd29 ct29 oc30 kV30 dc30 pm30 cd30 ct30 oc31 kV31 dc31 pm31 cd31 ct31 oc32 kV32 dc32 pm32 cd32 ct32 oc33 kV33 dc33 pm33 cd33 ct33 oc34 kV34 dc34 pm34 cd34 ct34 oc35 kV35 dc35 pm35 cd35 ct35 oc36 kV36 dc36 pm36 cd36 ct36 oc37 kV37 dc37 pm37 cd37 ct37 oc38 kV38 dc38 pm38 cd38 ct38 oc39 kV39 dc39 pm39 cd39 ct39 oc40 kV40 dc40 pm40 cd40 ct40 oc41 kV41 dc41 pm41 cd41 ct41 oc42 kV42 dc42 pm42 cd42 ct42 oc43 kV43 dc43 pm43 cd43 ct43 oc44 kV44 dc44 pm44 cd44 ct44 oc45 kV45 dc45 pm45 cd45 ct45 oc46 kV46 dc46 pm46 cd46 ct46 oc47 kV47 dc47 pm47 cd47 ct47 oc48 kV48 dc48 pm48 cd48 ct48 oc49 kV49 dc49 pm49 cd49 ct49 oc50 kV50 dc50 pm50 cd50 ct50 oc51 kV51 dc51 pm51 cd51 ct51 oc52 kV52 dc52 pm52 cd52 ct52 oc53 kV53 dc53 pm53 cd53 ct53 oc54 kV54 dc54 pm54 cd54 ct54 oc55 kV55 dc55 pm55 cd55 ct55 oc56 kV56 dc56 pm56 cd56 ct56 oc57 kV57 dc57 pm57 cd57 ct57 oc58 kV58 dc58 pm58 cd58 ct58 oc59 kV59 dc59 pm59 cd59 ct59 oc60 kV60 dc60 pm60 cd60 ct60 oc61 kV61 dc61 pm61 cd61 ct61 oc62 kV62 dc62 pm62 cd62 ct62 oc63 kV63 dc63 pm63 cd63 ct63 : Value}
    (a0 : PySem.W.nsIn K mainGlobals "is_an_integer" = some (some (.ref f0)))
    (l0 : K.lookup f0 = some ⟨oc0, od0, .func (PySem.W.fnOf "is_an_integer" "is_an_integer" (defArgs s_is_an_integer) (defBody s_is_an_integer) (defScope s_is_an_integer) .none kV0 dc0 pm0 an0 cd0 ct0), sl0⟩)
    (c0 : PySem.W.codeIn K cd0 "is_an_integer" = true) (k0 : PySem.W.keepIn K (.ref f0) = true)
    (a1 : PySem.W.nsIn K mainGlobals "is_number" = some (some (.ref f1)))
    (l1 : K.lookup f1 = some ⟨oc1, od1, .func (PySem.W.fnOf "is_number" "is_number" (defArgs s_is_number) (defBody s_is_number) (defScope s_is_number) .none kV1 dc1 pm1 an1 cd1 ct1), sl1⟩)
    (c1 : PySem.W.codeIn K cd1 "is_number" = true) (k1 : PySem.W.keepIn K (.ref f1) = true)
    (a2 : PySem.W.nsIn K mainGlobals "is_number_below" = some (some (.ref f2)))
    (l2 : K.lookup f2 = some ⟨oc2, od2, .func (PySem.W.fnOf "is_number_below" "is_number_below" (defArgs s_is_number_below) (defBody s_is_number_below) (defScope s_is_number_below) .none kV2 dc2 pm2 an2 cd2 ct2), sl2⟩)
    (c2 : PySem.W.codeIn K cd2 "is_number_below" = true) (k2 : PySem.W.keepIn K (.ref f2) = true)
    (a3 : PySem.W.nsIn K mainGlobals "is_name" = some (some (.ref f3)))
    (l3 : K.lookup f3 = some ⟨oc3, od3, .func (PySem.W.fnOf "is_name" "is_name" (defArgs s_is_name) (defBody s_is_name) (defScope s_is_name) .none kV3 dc3 pm3 an3 cd3 ct3), sl3⟩)
    (c3 : PySem.W.codeIn K cd3 "is_name" = true) (k3 : PySem.W.keepIn K (.ref f3) = true)
    (a4 : PySem.W.nsIn K mainGlobals "are_names" = some (some (.ref f4)))
    (l4 : K.lookup f4 = some ⟨oc4, od4, .func (PySem.W.fnOf "are_names" "are_names" (defArgs s_are_names) (defBody s_are_names) (defScope s_are_names) .none kV4 dc4 pm4 an4 cd4 ct4), sl4⟩)
    (c4 : PySem.W.codeIn K cd4 "are_names" = true) (k4 : PySem.W.keepIn K (.ref f4) = true)
    (a5 : PySem.W.nsIn K mainGlobals "are_numbers_below" = some (some (.ref f5)))
    (l5 : K.lookup f5 = some ⟨oc5, od5, .func (PySem.W.fnOf "are_numbers_below" "are_numbers_below" (defArgs s_are_numbers_below) (defBody s_are_numbers_below) (defScope s_are_numbers_below) .none kV5 dc5 pm5 an5 cd5 ct5), sl5⟩)
    (c5 : PySem.W.codeIn K cd5 "are_numbers_below" = true) (k5 : PySem.W.keepIn K (.ref f5) = true)
    (a6 : PySem.W.nsIn K mainGlobals "is_ascending" = some (some (.ref f6)))
    (l6 : K.lookup f6 = some ⟨oc6, od6, .func (PySem.W.fnOf "is_ascending" "is_ascending" (defArgs s_is_ascending) (defBody s_is_ascending) (defScope s_is_ascending) .none kV6 dc6 pm6 an6 cd6 ct6), sl6⟩)
    (c6 : PySem.W.codeIn K cd6 "is_ascending" = true) (k6 : PySem.W.keepIn K (.ref f6) = true)
    (a7 : PySem.W.nsIn K mainGlobals "is_lot_below" = some (some (.ref f7)))
    (l7 : K.lookup f7 = some ⟨oc7, od7, .func (PySem.W.fnOf "is_lot_below" "is_lot_below" (defArgs s_is_lot_below) (defBody s_is_lot_below) (defScope s_is_lot_below) .none kV7 dc7 pm7 an7 cd7 ct7), sl7⟩)
    (c7 : PySem.W.codeIn K cd7 "is_lot_below" = true) (k7 : PySem.W.keepIn K (.ref f7) = true)
    (a8 : PySem.W.nsIn K mainGlobals "fraction_of" = some (some (.ref f8)))
    (l8 : K.lookup f8 = some ⟨oc8, od8, .func (PySem.W.fnOf "fraction_of" "fraction_of" (defArgs s_fraction_of) (defBody s_fraction_of) (defScope s_fraction_of) .none kV8 dc8 pm8 an8 cd8 ct8), sl8⟩)
    (c8 : PySem.W.codeIn K cd8 "fraction_of" = true) (k8 : PySem.W.keepIn K (.ref f8) = true)
    (a9 : PySem.W.nsIn K mainGlobals "added" = some (some (.ref f9)))
    (l9 : K.lookup f9 = some ⟨oc9, od9, .func (PySem.W.fnOf "added" "added" (defArgs s_added) (defBody s_added) (defScope s_added) .none kV9 dc9 pm9 an9 cd9 ct9), sl9⟩)
    (c9 : PySem.W.codeIn K cd9 "added" = true) (k9 : PySem.W.keepIn K (.ref f9) = true)
    (a10 : PySem.W.nsIn K mainGlobals "opposite_of" = some (some (.ref f10)))
    (l10 : K.lookup f10 = some ⟨oc10, od10, .func (PySem.W.fnOf "opposite_of" "opposite_of" (defArgs s_opposite_of) (defBody s_opposite_of) (defScope s_opposite_of) .none kV10 dc10 pm10 an10 cd10 ct10), sl10⟩)
    (c10 : PySem.W.codeIn K cd10 "opposite_of" = true) (k10 : PySem.W.keepIn K (.ref f10) = true)
    (a11 : PySem.W.nsIn K mainGlobals "taken" = some (some (.ref f11)))
    (l11 : K.lookup f11 = some ⟨oc11, od11, .func (PySem.W.fnOf "taken" "taken" (defArgs s_taken) (defBody s_taken) (defScope s_taken) .none kV11 dc11 pm11 an11 cd11 ct11), sl11⟩)
    (c11 : PySem.W.codeIn K cd11 "taken" = true) (k11 : PySem.W.keepIn K (.ref f11) = true)
    (a12 : PySem.W.nsIn K mainGlobals "timed" = some (some (.ref f12)))
    (l12 : K.lookup f12 = some ⟨oc12, od12, .func (PySem.W.fnOf "timed" "timed" (defArgs s_timed) (defBody s_timed) (defScope s_timed) .none kV12 dc12 pm12 an12 cd12 ct12), sl12⟩)
    (c12 : PySem.W.codeIn K cd12 "timed" = true) (k12 : PySem.W.keepIn K (.ref f12) = true)
    (a13 : PySem.W.nsIn K mainGlobals "is_less" = some (some (.ref f13)))
    (l13 : K.lookup f13 = some ⟨oc13, od13, .func (PySem.W.fnOf "is_less" "is_less" (defArgs s_is_less) (defBody s_is_less) (defScope s_is_less) .none kV13 dc13 pm13 an13 cd13 ct13), sl13⟩)
    (c13 : PySem.W.codeIn K cd13 "is_less" = true) (k13 : PySem.W.keepIn K (.ref f13) = true)
    (a14 : PySem.W.nsIn K mainGlobals "is_small" = some (some (.ref f14)))
    (l14 : K.lookup f14 = some ⟨oc14, od14, .func (PySem.W.fnOf "is_small" "is_small" (defArgs s_is_small) (defBody s_is_small) (defScope s_is_small) .none kV14 dc14 pm14 an14 cd14 ct14), sl14⟩)
    (c14 : PySem.W.codeIn K cd14 "is_small" = true) (k14 : PySem.W.keepIn K (.ref f14) = true)
    (a15 : PySem.W.nsIn K mainGlobals "floor_of" = some (some (.ref f15)))
    (l15 : K.lookup f15 = some ⟨oc15, od15, .func (PySem.W.fnOf "floor_of" "floor_of" (defArgs s_floor_of) (defBody s_floor_of) (defScope s_floor_of) .none kV15 dc15 pm15 an15 cd15 ct15), sl15⟩)
    (c15 : PySem.W.codeIn K cd15 "floor_of" = true) (k15 : PySem.W.keepIn K (.ref f15) = true)
    (a16 : PySem.W.nsIn K mainGlobals "ceiling_of" = some (some (.ref f16)))
    (l16 : K.lookup f16 = some ⟨oc16, od16, .func (PySem.W.fnOf "ceiling_of" "ceiling_of" (defArgs s_ceiling_of) (defBody s_ceiling_of) (defScope s_ceiling_of) .none kV16 dc16 pm16 an16 cd16 ct16), sl16⟩)
    (c16 : PySem.W.codeIn K cd16 "ceiling_of" = true) (k16 : PySem.W.keepIn K (.ref f16) = true)
    (a17 : PySem.W.nsIn K mainGlobals "sum_of" = some (some (.ref f17)))
    (l17 : K.lookup f17 = some ⟨oc17, od17, .func (PySem.W.fnOf "sum_of" "sum_of" (defArgs s_sum_of) (defBody s_sum_of) (defScope s_sum_of) .none kV17 dc17 pm17 an17 cd17 ct17), sl17⟩)
    (c17 : PySem.W.codeIn K cd17 "sum_of" = true) (k17 : PySem.W.keepIn K (.ref f17) = true)
    (a18 : PySem.W.nsIn K mainGlobals "least_of" = some (some (.ref f18)))
    (l18 : K.lookup f18 = some ⟨oc18, od18, .func (PySem.W.fnOf "least_of" "least_of" (defArgs s_least_of) (defBody s_least_of) (defScope s_least_of) .none kV18 dc18 pm18 an18 cd18 ct18), sl18⟩)
    (c18 : PySem.W.codeIn K cd18 "least_of" = true) (k18 : PySem.W.keepIn K (.ref f18) = true)
    (a19 : PySem.W.nsIn K mainGlobals "greatest_of" = some (some (.ref f19)))
    (l19 : K.lookup f19 = some ⟨oc19, od19, .func (PySem.W.fnOf "greatest_of" "greatest_of" (defArgs s_greatest_of) (defBody s_greatest_of) (defScope s_greatest_of) .none kV19 dc19 pm19 an19 cd19 ct19), sl19⟩)
    (c19 : PySem.W.codeIn K cd19 "greatest_of" = true) (k19 : PySem.W.keepIn K (.ref f19) = true)
    (a20 : PySem.W.nsIn K mainGlobals "choices" = some (some (.ref f20)))
    (l20 : K.lookup f20 = some ⟨oc20, od20, .func (PySem.W.fnOf "choices" "choices" (defArgs s_choices) (defBody s_choices) (defScope s_choices) .none kV20 dc20 pm20 an20 cd20 ct20), sl20⟩)
    (c20 : PySem.W.codeIn K cd20 "choices" = true) (k20 : PySem.W.keepIn K (.ref f20) = true)
    (a21 : PySem.W.nsIn K mainGlobals "error_of_line" = some (some (.ref f21)))
    (l21 : K.lookup f21 = some ⟨oc21, od21, .func (PySem.W.fnOf "error_of_line" "error_of_line" (defArgs s_error_of_line) (defBody s_error_of_line) (defScope s_error_of_line) .none kV21 dc21 pm21 an21 cd21 ct21), sl21⟩)
    (c21 : PySem.W.codeIn K cd21 "error_of_line" = true) (k21 : PySem.W.keepIn K (.ref f21) = true)
    (a22 : PySem.W.nsIn K mainGlobals "errors_behind" = some (some (.ref f22)))
    (l22 : K.lookup f22 = some ⟨oc22, od22, .func (PySem.W.fnOf "errors_behind" "errors_behind" (defArgs s_errors_behind) (defBody s_errors_behind) (defScope s_errors_behind) .none kV22 dc22 pm22 an22 cd22 ct22), sl22⟩)
    (c22 : PySem.W.codeIn K cd22 "errors_behind" = true) (k22 : PySem.W.keepIn K (.ref f22) = true)
    (a23 : PySem.W.nsIn K mainGlobals "check_kinds" = some (some (.ref f23)))
    (l23 : K.lookup f23 = some ⟨oc23, od23, .func (PySem.W.fnOf "check_kinds" "check_kinds" (defArgs s_check_kinds) (defBody s_check_kinds) (defScope s_check_kinds) .none kV23 dc23 pm23 an23 cd23 ct23), sl23⟩)
    (c23 : PySem.W.codeIn K cd23 "check_kinds" = true) (k23 : PySem.W.keepIn K (.ref f23) = true)
    (a24 : PySem.W.nsIn K mainGlobals "check_totals" = some (some (.ref f24)))
    (l24 : K.lookup f24 = some ⟨oc24, od24, .func (PySem.W.fnOf "check_totals" "check_totals" (defArgs s_check_totals) (defBody s_check_totals) (defScope s_check_totals) .none kV24 dc24 pm24 an24 cd24 ct24), sl24⟩)
    (c24 : PySem.W.codeIn K cd24 "check_totals" = true) (k24 : PySem.W.keepIn K (.ref f24) = true)
    (a25 : PySem.W.nsIn K mainGlobals "totals_with" = some (some (.ref f25)))
    (l25 : K.lookup f25 = some ⟨oc25, od25, .func (PySem.W.fnOf "totals_with" "totals_with" (defArgs s_totals_with) (defBody s_totals_with) (defScope s_totals_with) .none kV25 dc25 pm25 an25 cd25 ct25), sl25⟩)
    (c25 : PySem.W.codeIn K cd25 "totals_with" = true) (k25 : PySem.W.keepIn K (.ref f25) = true)
    (a26 : PySem.W.nsIn K mainGlobals "classes_of" = some (some (.ref f26)))
    (l26 : K.lookup f26 = some ⟨oc26, od26, .func (PySem.W.fnOf "classes_of" "classes_of" (defArgs s_classes_of) (defBody s_classes_of) (defScope s_classes_of) .none kV26 dc26 pm26 an26 cd26 ct26), sl26⟩)
    (c26 : PySem.W.codeIn K cd26 "classes_of" = true) (k26 : PySem.W.keepIn K (.ref f26) = true)
    (a27 : PySem.W.nsIn K mainGlobals "class_numbers" = some (some (.ref f27)))
    (l27 : K.lookup f27 = some ⟨oc27, od27, .func (PySem.W.fnOf "class_numbers" "class_numbers" (defArgs s_class_numbers) (defBody s_class_numbers) (defScope s_class_numbers) .none kV27 dc27 pm27 an27 cd27 ct27), sl27⟩)
    (c27 : PySem.W.codeIn K cd27 "class_numbers" = true) (k27 : PySem.W.keepIn K (.ref f27) = true)
    (a28 : PySem.W.nsIn K mainGlobals "class_of_kind" = some (some (.ref f28)))
    (l28 : K.lookup f28 = some ⟨oc28, od28, .func (PySem.W.fnOf "class_of_kind" "class_of_kind" (defArgs s_class_of_kind) (defBody s_class_of_kind) (defScope s_class_of_kind) .none kV28 dc28 pm28 an28 cd28 ct28), sl28⟩)
    (c28 : PySem.W.codeIn K cd28 "class_of_kind" = true) (k28 : PySem.W.keepIn K (.ref f28) = true)
    (a29 : PySem.W.nsIn K mainGlobals "totals_by_classes" = some (some (.ref f29)))
    (l29 : K.lookup f29 = some ⟨oc29, od29, .func (PySem.W.fnOf "totals_by_classes" "totals_by_classes" (defArgs s_totals_by_classes) (defBody s_totals_by_classes) (defScope s_totals_by_classes) .none kV29 dc29 pm29 an29 cd29 ct29), sl29⟩)
    (c29 : PySem.W.codeIn K cd29 "totals_by_classes" = true) (k29 : PySem.W.keepIn K (.ref f29) = true)
    (a30 : PySem.W.nsIn K mainGlobals "class_errors" = some (some (.ref f30)))
    (l30 : K.lookup f30 = some ⟨oc30, od30, .func (PySem.W.fnOf "class_errors" "class_errors" (defArgs s_class_errors) (defBody s_class_errors) (defScope s_class_errors) .none kV30 dc30 pm30 an30 cd30 ct30), sl30⟩)
    (c30 : PySem.W.codeIn K cd30 "class_errors" = true) (k30 : PySem.W.keepIn K (.ref f30) = true)
    (a31 : PySem.W.nsIn K mainGlobals "has_lone" = some (some (.ref f31)))
    (l31 : K.lookup f31 = some ⟨oc31, od31, .func (PySem.W.fnOf "has_lone" "has_lone" (defArgs s_has_lone) (defBody s_has_lone) (defScope s_has_lone) .none kV31 dc31 pm31 an31 cd31 ct31), sl31⟩)
    (c31 : PySem.W.codeIn K cd31 "has_lone" = true) (k31 : PySem.W.keepIn K (.ref f31) = true)
    (a32 : PySem.W.nsIn K mainGlobals "signed_errors" = some (some (.ref f32)))
    (l32 : K.lookup f32 = some ⟨oc32, od32, .func (PySem.W.fnOf "signed_errors" "signed_errors" (defArgs s_signed_errors) (defBody s_signed_errors) (defScope s_signed_errors) .none kV32 dc32 pm32 an32 cd32 ct32), sl32⟩)
    (c32 : PySem.W.codeIn K cd32 "signed_errors" = true) (k32 : PySem.W.keepIn K (.ref f32) = true)
    (a33 : PySem.W.nsIn K mainGlobals "signed_by" = some (some (.ref f33)))
    (l33 : K.lookup f33 = some ⟨oc33, od33, .func (PySem.W.fnOf "signed_by" "signed_by" (defArgs s_signed_by) (defBody s_signed_by) (defScope s_signed_by) .none kV33 dc33 pm33 an33 cd33 ct33), sl33⟩)
    (c33 : PySem.W.codeIn K cd33 "signed_by" = true) (k33 : PySem.W.keepIn K (.ref f33) = true)
    (a34 : PySem.W.nsIn K mainGlobals "fixed_pieces" = some (some (.ref f34)))
    (l34 : K.lookup f34 = some ⟨oc34, od34, .func (PySem.W.fnOf "fixed_pieces" "fixed_pieces" (defArgs s_fixed_pieces) (defBody s_fixed_pieces) (defScope s_fixed_pieces) .none kV34 dc34 pm34 an34 cd34 ct34), sl34⟩)
    (c34 : PySem.W.codeIn K cd34 "fixed_pieces" = true) (k34 : PySem.W.keepIn K (.ref f34) = true)
    (a35 : PySem.W.nsIn K mainGlobals "points_of" = some (some (.ref f35)))
    (l35 : K.lookup f35 = some ⟨oc35, od35, .func (PySem.W.fnOf "points_of" "points_of" (defArgs s_points_of) (defBody s_points_of) (defScope s_points_of) .none kV35 dc35 pm35 an35 cd35 ct35), sl35⟩)
    (c35 : PySem.W.codeIn K cd35 "points_of" = true) (k35 : PySem.W.keepIn K (.ref f35) = true)
    (a36 : PySem.W.nsIn K mainGlobals "span_of" = some (some (.ref f36)))
    (l36 : K.lookup f36 = some ⟨oc36, od36, .func (PySem.W.fnOf "span_of" "span_of" (defArgs s_span_of) (defBody s_span_of) (defScope s_span_of) .none kV36 dc36 pm36 an36 cd36 ct36), sl36⟩)
    (c36 : PySem.W.codeIn K cd36 "span_of" = true) (k36 : PySem.W.keepIn K (.ref f36) = true)
    (a37 : PySem.W.nsIn K mainGlobals "are_close" = some (some (.ref f37)))
    (l37 : K.lookup f37 = some ⟨oc37, od37, .func (PySem.W.fnOf "are_close" "are_close" (defArgs s_are_close) (defBody s_are_close) (defScope s_are_close) .none kV37 dc37 pm37 an37 cd37 ct37), sl37⟩)
    (c37 : PySem.W.codeIn K cd37 "are_close" = true) (k37 : PySem.W.keepIn K (.ref f37) = true)
    (a38 : PySem.W.nsIn K mainGlobals "is_inside" = some (some (.ref f38)))
    (l38 : K.lookup f38 = some ⟨oc38, od38, .func (PySem.W.fnOf "is_inside" "is_inside" (defArgs s_is_inside) (defBody s_is_inside) (defScope s_is_inside) .none kV38 dc38 pm38 an38 cd38 ct38), sl38⟩)
    (c38 : PySem.W.codeIn K cd38 "is_inside" = true) (k38 : PySem.W.keepIn K (.ref f38) = true)
    (a39 : PySem.W.nsIn K mainGlobals "allowed" = some (some (.ref f39)))
    (l39 : K.lookup f39 = some ⟨oc39, od39, .func (PySem.W.fnOf "allowed" "allowed" (defArgs s_allowed) (defBody s_allowed) (defScope s_allowed) .none kV39 dc39 pm39 an39 cd39 ct39), sl39⟩)
    (c39 : PySem.W.codeIn K cd39 "allowed" = true) (k39 : PySem.W.keepIn K (.ref f39) = true)
    (a40 : PySem.W.nsIn K mainGlobals "gap_beside" = some (some (.ref f40)))
    (l40 : K.lookup f40 = some ⟨oc40, od40, .func (PySem.W.fnOf "gap_beside" "gap_beside" (defArgs s_gap_beside) (defBody s_gap_beside) (defScope s_gap_beside) .none kV40 dc40 pm40 an40 cd40 ct40), sl40⟩)
    (c40 : PySem.W.codeIn K cd40 "gap_beside" = true) (k40 : PySem.W.keepIn K (.ref f40) = true)
    (a41 : PySem.W.nsIn K mainGlobals "_law_heap" = some (some (.ref f41)))
    (l41 : K.lookup f41 = some ⟨oc41, od41, .func (PySem.W.fnOf "_law_heap" "_law_heap" (defArgs s__law_heap) (defBody s__law_heap) (defScope s__law_heap) .none kV41 dc41 pm41 an41 cd41 ct41), sl41⟩)
    (c41 : PySem.W.codeIn K cd41 "_law_heap" = true) (k41 : PySem.W.keepIn K (.ref f41) = true)
    (a42 : PySem.W.nsIn K mainGlobals "_law_draw" = some (some (.ref f42)))
    (l42 : K.lookup f42 = some ⟨oc42, od42, .func (PySem.W.fnOf "_law_draw" "_law_draw" (defArgs s__law_draw) (defBody s__law_draw) (defScope s__law_draw) .none kV42 dc42 pm42 an42 cd42 ct42), sl42⟩)
    (c42 : PySem.W.codeIn K cd42 "_law_draw" = true) (k42 : PySem.W.keepIn K (.ref f42) = true)
    (a43 : PySem.W.nsIn K mainGlobals "_law_pick" = some (some (.ref f43)))
    (l43 : K.lookup f43 = some ⟨oc43, od43, .func (PySem.W.fnOf "_law_pick" "_law_pick" (defArgs s__law_pick) (defBody s__law_pick) (defScope s__law_pick) .none kV43 dc43 pm43 an43 cd43 ct43), sl43⟩)
    (c43 : PySem.W.codeIn K cd43 "_law_pick" = true) (k43 : PySem.W.keepIn K (.ref f43) = true)
    (a44 : PySem.W.nsIn K mainGlobals "_law_mixed" = some (some (.ref f44)))
    (l44 : K.lookup f44 = some ⟨oc44, od44, .func (PySem.W.fnOf "_law_mixed" "_law_mixed" (defArgs s__law_mixed) (defBody s__law_mixed) (defScope s__law_mixed) .none kV44 dc44 pm44 an44 cd44 ct44), sl44⟩)
    (c44 : PySem.W.codeIn K cd44 "_law_mixed" = true) (k44 : PySem.W.keepIn K (.ref f44) = true)
    (a45 : PySem.W.nsIn K mainGlobals "_law_names" = some (some (.ref f45)))
    (l45 : K.lookup f45 = some ⟨oc45, od45, .func (PySem.W.fnOf "_law_names" "_law_names" (defArgs s__law_names) (defBody s__law_names) (defScope s__law_names) .none kV45 dc45 pm45 an45 cd45 ct45), sl45⟩)
    (c45 : PySem.W.codeIn K cd45 "_law_names" = true) (k45 : PySem.W.keepIn K (.ref f45) = true)
    (a46 : PySem.W.nsIn K mainGlobals "_law_totals" = some (some (.ref f46)))
    (l46 : K.lookup f46 = some ⟨oc46, od46, .func (PySem.W.fnOf "_law_totals" "_law_totals" (defArgs s__law_totals) (defBody s__law_totals) (defScope s__law_totals) .none kV46 dc46 pm46 an46 cd46 ct46), sl46⟩)
    (c46 : PySem.W.codeIn K cd46 "_law_totals" = true) (k46 : PySem.W.keepIn K (.ref f46) = true)
    (a47 : PySem.W.nsIn K mainGlobals "_law_classes" = some (some (.ref f47)))
    (l47 : K.lookup f47 = some ⟨oc47, od47, .func (PySem.W.fnOf "_law_classes" "_law_classes" (defArgs s__law_classes) (defBody s__law_classes) (defScope s__law_classes) .none kV47 dc47 pm47 an47 cd47 ct47), sl47⟩)
    (c47 : PySem.W.codeIn K cd47 "_law_classes" = true) (k47 : PySem.W.keepIn K (.ref f47) = true)
    (a48 : PySem.W.nsIn K mainGlobals "_law_case" = some (some (.ref f48)))
    (l48 : K.lookup f48 = some ⟨oc48, od48, .func (PySem.W.fnOf "_law_case" "_law_case" (defArgs s__law_case) (defBody s__law_case) (defScope s__law_case) .none kV48 dc48 pm48 an48 cd48 ct48), sl48⟩)
    (c48 : PySem.W.codeIn K cd48 "_law_case" = true) (k48 : PySem.W.keepIn K (.ref f48) = true)
    (a49 : PySem.W.nsIn K mainGlobals "_law_lowest" = some (some (.ref f49)))
    (l49 : K.lookup f49 = some ⟨oc49, od49, .func (PySem.W.fnOf "_law_lowest" "_law_lowest" (defArgs s__law_lowest) (defBody s__law_lowest) (defScope s__law_lowest) .none kV49 dc49 pm49 an49 cd49 ct49), sl49⟩)
    (c49 : PySem.W.codeIn K cd49 "_law_lowest" = true) (k49 : PySem.W.keepIn K (.ref f49) = true)
    (a50 : PySem.W.nsIn K mainGlobals "_law_fractions" = some (some (.ref f50)))
    (l50 : K.lookup f50 = some ⟨oc50, od50, .func (PySem.W.fnOf "_law_fractions" "_law_fractions" (defArgs s__law_fractions) (defBody s__law_fractions) (defScope s__law_fractions) .none kV50 dc50 pm50 an50 cd50 ct50), sl50⟩)
    (c50 : PySem.W.codeIn K cd50 "_law_fractions" = true) (k50 : PySem.W.keepIn K (.ref f50) = true)
    (a51 : PySem.W.nsIn K mainGlobals "_law_row" = some (some (.ref f51)))
    (l51 : K.lookup f51 = some ⟨oc51, od51, .func (PySem.W.fnOf "_law_row" "_law_row" (defArgs s__law_row) (defBody s__law_row) (defScope s__law_row) .none kV51 dc51 pm51 an51 cd51 ct51), sl51⟩)
    (c51 : PySem.W.codeIn K cd51 "_law_row" = true) (k51 : PySem.W.keepIn K (.ref f51) = true)
    (a52 : PySem.W.nsIn K mainGlobals "_law_points" = some (some (.ref f52)))
    (l52 : K.lookup f52 = some ⟨oc52, od52, .func (PySem.W.fnOf "_law_points" "_law_points" (defArgs s__law_points) (defBody s__law_points) (defScope s__law_points) .none kV52 dc52 pm52 an52 cd52 ct52), sl52⟩)
    (c52 : PySem.W.codeIn K cd52 "_law_points" = true) (k52 : PySem.W.keepIn K (.ref f52) = true)
    (a53 : PySem.W.nsIn K mainGlobals "_law_inside" = some (some (.ref f53)))
    (l53 : K.lookup f53 = some ⟨oc53, od53, .func (PySem.W.fnOf "_law_inside" "_law_inside" (defArgs s__law_inside) (defBody s__law_inside) (defScope s__law_inside) .none kV53 dc53 pm53 an53 cd53 ct53), sl53⟩)
    (c53 : PySem.W.codeIn K cd53 "_law_inside" = true) (k53 : PySem.W.keepIn K (.ref f53) = true)
    (a54 : PySem.W.nsIn K mainGlobals "_law_amount" = some (some (.ref f54)))
    (l54 : K.lookup f54 = some ⟨oc54, od54, .func (PySem.W.fnOf "_law_amount" "_law_amount" (defArgs s__law_amount) (defBody s__law_amount) (defScope s__law_amount) .none kV54 dc54 pm54 an54 cd54 ct54), sl54⟩)
    (c54 : PySem.W.codeIn K cd54 "_law_amount" = true) (k54 : PySem.W.keepIn K (.ref f54) = true)
    (a55 : PySem.W.nsIn K mainGlobals "_law_wholes" = some (some (.ref f55)))
    (l55 : K.lookup f55 = some ⟨oc55, od55, .func (PySem.W.fnOf "_law_wholes" "_law_wholes" (defArgs s__law_wholes) (defBody s__law_wholes) (defScope s__law_wholes) .none kV55 dc55 pm55 an55 cd55 ct55), sl55⟩)
    (c55 : PySem.W.codeIn K cd55 "_law_wholes" = true) (k55 : PySem.W.keepIn K (.ref f55) = true)
    (a56 : PySem.W.nsIn K mainGlobals "_law_behind" = some (some (.ref f56)))
    (l56 : K.lookup f56 = some ⟨oc56, od56, .func (PySem.W.fnOf "_law_behind" "_law_behind" (defArgs s__law_behind) (defBody s__law_behind) (defScope s__law_behind) .none kV56 dc56 pm56 an56 cd56 ct56), sl56⟩)
    (c56 : PySem.W.codeIn K cd56 "_law_behind" = true) (k56 : PySem.W.keepIn K (.ref f56) = true)
    (a57 : PySem.W.nsIn K mainGlobals "_law_some_row" = some (some (.ref f57)))
    (l57 : K.lookup f57 = some ⟨oc57, od57, .func (PySem.W.fnOf "_law_some_row" "_law_some_row" (defArgs s__law_some_row) (defBody s__law_some_row) (defScope s__law_some_row) .none kV57 dc57 pm57 an57 cd57 ct57), sl57⟩)
    (c57 : PySem.W.codeIn K cd57 "_law_some_row" = true) (k57 : PySem.W.keepIn K (.ref f57) = true)
    (a58 : PySem.W.nsIn K mainGlobals "_law_errors" = some (some (.ref f58)))
    (l58 : K.lookup f58 = some ⟨oc58, od58, .func (PySem.W.fnOf "_law_errors" "_law_errors" (defArgs s__law_errors) (defBody s__law_errors) (defScope s__law_errors) .none kV58 dc58 pm58 an58 cd58 ct58), sl58⟩)
    (c58 : PySem.W.codeIn K cd58 "_law_errors" = true) (k58 : PySem.W.keepIn K (.ref f58) = true)
    (a59 : PySem.W.nsIn K mainGlobals "_law_place" = some (some (.ref f59)))
    (l59 : K.lookup f59 = some ⟨oc59, od59, .func (PySem.W.fnOf "_law_place" "_law_place" (defArgs s__law_place) (defBody s__law_place) (defScope s__law_place) .none kV59 dc59 pm59 an59 cd59 ct59), sl59⟩)
    (c59 : PySem.W.codeIn K cd59 "_law_place" = true) (k59 : PySem.W.keepIn K (.ref f59) = true)
    (a60 : PySem.W.nsIn K mainGlobals "_law_gap" = some (some (.ref f60)))
    (l60 : K.lookup f60 = some ⟨oc60, od60, .func (PySem.W.fnOf "_law_gap" "_law_gap" (defArgs s__law_gap) (defBody s__law_gap) (defScope s__law_gap) .none kV60 dc60 pm60 an60 cd60 ct60), sl60⟩)
    (c60 : PySem.W.codeIn K cd60 "_law_gap" = true) (k60 : PySem.W.keepIn K (.ref f60) = true)
    (a61 : PySem.W.nsIn K mainGlobals "_law_near_amount" = some (some (.ref f61)))
    (l61 : K.lookup f61 = some ⟨oc61, od61, .func (PySem.W.fnOf "_law_near_amount" "_law_near_amount" (defArgs s__law_near_amount) (defBody s__law_near_amount) (defScope s__law_near_amount) .none kV61 dc61 pm61 an61 cd61 ct61), sl61⟩)
    (c61 : PySem.W.codeIn K cd61 "_law_near_amount" = true) (k61 : PySem.W.keepIn K (.ref f61) = true)
    (a62 : PySem.W.nsIn K mainGlobals "_law_line_right" = some (some (.ref f62)))
    (l62 : K.lookup f62 = some ⟨oc62, od62, .func (PySem.W.fnOf "_law_line_right" "_law_line_right" (defArgs s__law_line_right) (defBody s__law_line_right) (defScope s__law_line_right) .none kV62 dc62 pm62 an62 cd62 ct62), sl62⟩)
    (c62 : PySem.W.codeIn K cd62 "_law_line_right" = true) (k62 : PySem.W.keepIn K (.ref f62) = true)
    (a63 : PySem.W.nsIn K mainGlobals "law" = some (some (.ref f63)))
    (l63 : K.lookup f63 = some ⟨oc63, od63, .func (PySem.W.fnOf "law" "law" (defArgs s_law) (defBody s_law) (defScope s_law) .none kV63 dc63 pm63 an63 cd63 ct63), sl63⟩)
    (c63 : PySem.W.codeIn K cd63 "law" = true) (k63 : PySem.W.keepIn K (.ref f63) = true)
    {Ct CA EA fIA : Addr} {nmA qA : Str} {bsA : List Value} {snA : List Str} {subA : List Value} {abA : Bool} {colA : Option Bool} {ddA : Option Addr} {m0A m1A m2A m3A m5A : Option Value}
    {odIA anIA : Option Addr} {slIA : Array (Option Value)} {ocIA kVIA dcIA pmIA cdIA ctIA : Value}
    (aCA : PySem.W.nsIn K mainGlobals "InvalidTable" = some (some (.ref CA)))
    (xLA : K.lookup CA = some (excClassObj nmA qA CA EA bsA [.ref Ct, .type "ValueError", .type "Exception", .type "BaseException", .type "object"] true snA subA abA colA ddA m0A m1A m2A m3A m5A "ValueError.__new__"))
    (saA : PySem.W.findIn K (.ref CA) "__setattr__" = some (some (.builtin "object.__setattr__"))) (nwA : PySem.W.findIn K (.ref CA) "at" = some none)
    (iIA : PySem.W.findIn K (.ref CA) "__init__" = some (some (.ref fIA))) (tIA : PySem.W.typeIn K (.ref fIA) = some (.type "function"))
    (lIA : K.lookup fIA = some ⟨ocIA, odIA, .func (PySem.W.fnOf "__init__" "InvalidTable.__init__" (defArgs i_InvalidTable) (defBody i_InvalidTable) (defScope i_InvalidTable) .none kVIA dcIA pmIA anIA cdIA ctIA), slIA⟩) (cIA : PySem.W.codeIn K cdIA "InvalidTable.__init__" = true) (kIA : PySem.W.keepIn K (.ref fIA) = true)
    (kCA : PySem.W.keepIn K (.ref CA) = true) (eCA : PySem.W.subIn K (.ref CA) (.type "BaseException") = some true) (tCA : PySem.W.typeIn K (.ref CA) = some (.type "type"))
    {CN EN fIN : Addr} {nmN qN : Str} {bsN : List Value} {snN : List Str} {subN : List Value} {abN : Bool} {colN : Option Bool} {ddN : Option Addr} {m0N m1N m2N m3N m5N : Option Value}
    {odIN anIN : Option Addr} {slIN : Array (Option Value)} {ocIN kVIN dcIN pmIN cdIN ctIN : Value}
    (aCN : PySem.W.nsIn K mainGlobals "InvalidNumber" = some (some (.ref CN)))
    (xLN : K.lookup CN = some (excClassObj nmN qN CN EN bsN [.ref Ct, .type "ValueError", .type "Exception", .type "BaseException", .type "object"] true snN subN abN colN ddN m0N m1N m2N m3N m5N "ValueError.__new__"))
    (saN : PySem.W.findIn K (.ref CN) "__setattr__" = some (some (.builtin "object.__setattr__"))) (nwN : PySem.W.findIn K (.ref CN) "word" = some none)
    (iIN : PySem.W.findIn K (.ref CN) "__init__" = some (some (.ref fIN))) (tIN : PySem.W.typeIn K (.ref fIN) = some (.type "function"))
    (lIN : K.lookup fIN = some ⟨ocIN, odIN, .func (PySem.W.fnOf "__init__" "InvalidNumber.__init__" (defArgs i_InvalidNumber) (defBody i_InvalidNumber) (defScope i_InvalidNumber) .none kVIN dcIN pmIN anIN cdIN ctIN), slIN⟩) (cIN : PySem.W.codeIn K cdIN "InvalidNumber.__init__" = true) (kIN : PySem.W.keepIn K (.ref fIN) = true)
    (kCN : PySem.W.keepIn K (.ref CN) = true) (eCN : PySem.W.subIn K (.ref CN) (.type "BaseException") = some true) (tCN : PySem.W.typeIn K (.ref CN) = some (.type "type"))
    {CT fT zz oo : Addr} {odT anT : Option Addr} {slT : Array (Option Value)} {ocT kVT dcT pmT cdT ctT : Value} {zd qd : Option Addr} {qt1 qt2 zt1 zt2 tk1 tk2 tk3 tkL : Tok} {zn qn : Nat} {qsl zsl : Array (Option Value)}
    (aT : PySem.W.nsIn K mainGlobals "Table" = some (some (.ref CT)))
    (iT : PySem.W.findIn K (.ref CT) "__init__" = some (some (.ref fT))) (jT : PySem.W.isFn K (.ref fT) = true)
    (lT : K.lookup fT = some ⟨ocT, odT, .func (PySem.W.fnOf "__init__" "Table.__init__" (defArgs i_Table) (defBody i_Table) (defScope i_Table) .none kVT dcT pmT anT cdT ctT), slT⟩) (cT : PySem.W.codeIn K cdT "Table.__init__" = true) (kT : PySem.W.keepIn K (.ref fT) = true)
    (pgT : PySem.W.plainGet K CT Str.empty = true) (hdT : PySem.W.hasDictIn K CT = true) (poT : PySem.W.plainOver K CT = true) (saT : PySem.W.findIn K (.ref CT) "__setattr__" = some (some (.builtin "object.__setattr__"))) (mkT : PySem.W.makesIn K CT = true) (kcT : PySem.W.keepIn K (.ref CT) = true)
    (nkT : PySem.W.findIn K (.ref CT) "kinds" = some none) (ntT : PySem.W.findIn K (.ref CT) "totals" = some none)
    {CB fB : Addr} {odB anB : Option Addr} {slB : Array (Option Value)} {ocB kVB dcB pmB cdB ctB : Value}
    (aB : PySem.W.nsIn K mainGlobals "Blocks" = some (some (.ref CB)))
    (iB : PySem.W.findIn K (.ref CB) "__init__" = some (some (.ref fB))) (jB : PySem.W.isFn K (.ref fB) = true)
    (lB : K.lookup fB = some ⟨ocB, odB, .func (PySem.W.fnOf "__init__" "Blocks.__init__" (defArgs i_Blocks) (defBody i_Blocks) (defScope i_Blocks) .none kVB dcB pmB anB cdB ctB), slB⟩) (cB : PySem.W.codeIn K cdB "Blocks.__init__" = true) (kB : PySem.W.keepIn K (.ref fB) = true)
    (pgB : PySem.W.plainGet K CB Str.empty = true) (hdB : PySem.W.hasDictIn K CB = true) (poB : PySem.W.plainOver K CB = true) (saB : PySem.W.findIn K (.ref CB) "__setattr__" = some (some (.builtin "object.__setattr__"))) (mkB : PySem.W.makesIn K CB = true) (kcB : PySem.W.keepIn K (.ref CB) = true)
    (ncB : PySem.W.findIn K (.ref CB) "colours" = some none) (npB : PySem.W.findIn K (.ref CB) "pieces" = some none)
    (mL : PySem.W.nsIn K mainGlobals "LETTERS" = some (some (.str cLETTERS tkL))) (m1 : PySem.W.nsIn K mainGlobals "LONGEST_NAME" = some (some (.int 6 tk1)))
    (m2 : PySem.W.nsIn K mainGlobals "MOST_KINDS" = some (some (.int 12 tk2))) (m3 : PySem.W.nsIn K mainGlobals "MOST_TOTALS" = some (some (.int 12 tk3)))
    (aZ : PySem.W.nsIn K mainGlobals "ZERO" = some (some (.ref zz))) (zL : K.lookup zz = some ⟨.type "tuple", zd, .seq #[.int 0 zt1, .int 1 zt2] zn, zsl⟩)
    (aO : PySem.W.nsIn K mainGlobals "ONE" = some (some (.ref oo))) (oL : K.lookup oo = some ⟨.type "tuple", qd, .seq #[.int 1 qt1, .int 1 qt2] qn, qsl⟩)
    (aG : PySem.W.nsIn K mainGlobals "gcd" = some (some (.builtin "math.gcd")))
    (z_isinstance : PySem.W.nsIn K mainGlobals "isinstance" = some none)
    (z_int : PySem.W.nsIn K mainGlobals "int" = some none)
    (z_bool : PySem.W.nsIn K mainGlobals "bool" = some none)
    (z_str : PySem.W.nsIn K mainGlobals "str" = some none)
    (z_tuple : PySem.W.nsIn K mainGlobals "tuple" = some none)
    (z_list : PySem.W.nsIn K mainGlobals "list" = some none)
    (z_len : PySem.W.nsIn K mainGlobals "len" = some none)
    (z_abs : PySem.W.nsIn K mainGlobals "abs" = some none)
    (z_range : PySem.W.nsIn K mainGlobals "range" = some none)
    (z_zip : PySem.W.nsIn K mainGlobals "zip" = some none)
    (z_all : PySem.W.nsIn K mainGlobals "all" = some none)
    (z_any : PySem.W.nsIn K mainGlobals "any" = some none)
    (z_sum : PySem.W.nsIn K mainGlobals "sum" = some none)
    (z_repr : PySem.W.nsIn K mainGlobals "repr" = some none)
    (z_enumerate : PySem.W.nsIn K mainGlobals "enumerate" = some none)
    (z_sorted : PySem.W.nsIn K mainGlobals "sorted" = some none)
    (z_set : PySem.W.nsIn K mainGlobals "set" = some none)
    (z_max : PySem.W.nsIn K mainGlobals "max" = some none)
    (z_min : PySem.W.nsIn K mainGlobals "min" = some none)
    : ∃ fd : FuncData, (∀ (s : Shared) (v : Value), BindsTo s fd ⟨[v], []⟩ [("script", v)]) ∧ ∀ base : Heap, K.In base → base.Ns mainGlobals mg → FnG l.prog w K mg base 12 fa fd ["script"] (spLaw K) := by
  have e := hfa.symm.trans (PySem.W.mg_of X G a63)
  cases e
  have F0 := fun_mk (st := s_is_an_integer) l0 c0 k0
  have F1 := fun_mk (st := s_is_number) l1 c1 k1
  have F2 := fun_mk (st := s_is_number_below) l2 c2 k2
  have F3 := fun_mk (st := s_is_name) l3 c3 k3
  have F4 := fun_mk (st := s_are_names) l4 c4 k4
  have F5 := fun_mk (st := s_are_numbers_below) l5 c5 k5
  have F6 := fun_mk (st := s_is_ascending) l6 c6 k6
  have F7 := fun_mk (st := s_is_lot_below) l7 c7 k7
  have F8 := fun_mk (st := s_fraction_of) l8 c8 k8
  have F9 := fun_mk (st := s_added) l9 c9 k9
  have F10 := fun_mk (st := s_opposite_of) l10 c10 k10
  have F11 := fun_mk (st := s_taken) l11 c11 k11
  have F12 := fun_mk (st := s_timed) l12 c12 k12
  have F13 := fun_mk (st := s_is_less) l13 c13 k13
  have F14 := fun_mk (st := s_is_small) l14 c14 k14
  have F15 := fun_mk (st := s_floor_of) l15 c15 k15
  have F16 := fun_mk (st := s_ceiling_of) l16 c16 k16
  have F17 := fun_mk (st := s_sum_of) l17 c17 k17
  have F18 := fun_mk (st := s_least_of) l18 c18 k18
  have F19 := fun_mk (st := s_greatest_of) l19 c19 k19
  have F20 := fun_mk (st := s_choices) l20 c20 k20
  have F21 := fun_mk (st := s_error_of_line) l21 c21 k21
  have F22 := fun_mk (st := s_errors_behind) l22 c22 k22
  have F23 := fun_mk (st := s_check_kinds) l23 c23 k23
  have F24 := fun_mk (st := s_check_totals) l24 c24 k24
  have F25 := fun_mk (st := s_totals_with) l25 c25 k25
  have F26 := fun_mk (st := s_classes_of) l26 c26 k26
  have F27 := fun_mk (st := s_class_numbers) l27 c27 k27
  have F28 := fun_mk (st := s_class_of_kind) l28 c28 k28
  have F29 := fun_mk (st := s_totals_by_classes) l29 c29 k29
  have F30 := fun_mk (st := s_class_errors) l30 c30 k30
  have F31 := fun_mk (st := s_has_lone) l31 c31 k31
  have F32 := fun_mk (st := s_signed_errors) l32 c32 k32
  have F33 := fun_mk (st := s_signed_by) l33 c33 k33
  have F34 := fun_mk (st := s_fixed_pieces) l34 c34 k34
  have F35 := fun_mk (st := s_points_of) l35 c35 k35
  have F36 := fun_mk (st := s_span_of) l36 c36 k36
  have F37 := fun_mk (st := s_are_close) l37 c37 k37
  have F38 := fun_mk (st := s_is_inside) l38 c38 k38
  have F39 := fun_mk (st := s_allowed) l39 c39 k39
  have F40 := fun_mk (st := s_gap_beside) l40 c40 k40
  have F41 := fun_mk (st := s__law_heap) l41 c41 k41
  have F42 := fun_mk (st := s__law_draw) l42 c42 k42
  have F43 := fun_mk (st := s__law_pick) l43 c43 k43
  have F44 := fun_mk (st := s__law_mixed) l44 c44 k44
  have F45 := fun_mk (st := s__law_names) l45 c45 k45
  have F46 := fun_mk (st := s__law_totals) l46 c46 k46
  have F47 := fun_mk (st := s__law_classes) l47 c47 k47
  have F48 := fun_mk (st := s__law_case) l48 c48 k48
  have F49 := fun_mk (st := s__law_lowest) l49 c49 k49
  have F50 := fun_mk (st := s__law_fractions) l50 c50 k50
  have F51 := fun_mk (st := s__law_row) l51 c51 k51
  have F52 := fun_mk (st := s__law_points) l52 c52 k52
  have F53 := fun_mk (st := s__law_inside) l53 c53 k53
  have F54 := fun_mk (st := s__law_amount) l54 c54 k54
  have F55 := fun_mk (st := s__law_wholes) l55 c55 k55
  have F56 := fun_mk (st := s__law_behind) l56 c56 k56
  have F57 := fun_mk (st := s__law_some_row) l57 c57 k57
  have F58 := fun_mk (st := s__law_errors) l58 c58 k58
  have F59 := fun_mk (st := s__law_place) l59 c59 k59
  have F60 := fun_mk (st := s__law_gap) l60 c60 k60
  have F61 := fun_mk (st := s__law_near_amount) l61 c61 k61
  have F62 := fun_mk (st := s__law_line_right) l62 c62 k62
  have F63 := fun_mk (st := s_law) l63 c63 k63
  have FIA := fun_mk (st := i_InvalidTable) lIA cIA kIA
  have FIN := fun_mk (st := i_InvalidNumber) lIN cIN kIN
  have FT := fun_mk (st := i_Table) lT cT kT
  have FB := fun_mk (st := i_Blocks) lB cB kB
  have b0 := F0.binds (ps := ["value"]) fun _ _ _ _ _ _ us hl => match us, hl with | [_], _ => rfl
  have g0 := PySem.W.mg_of X G a0
  have b1 := F1.binds (ps := ["value"]) fun _ _ _ _ _ _ us hl => match us, hl with | [_], _ => rfl
  have g1 := PySem.W.mg_of X G a1
  have b2 := F2.binds (ps := ["value", "many"]) fun _ _ _ _ _ _ us hl => match us, hl with | [_, _], _ => rfl
  have g2 := PySem.W.mg_of X G a2
  have b3 := F3.binds (ps := ["value"]) fun _ _ _ _ _ _ us hl => match us, hl with | [_], _ => rfl
  have g3 := PySem.W.mg_of X G a3
  have b4 := F4.binds (ps := ["value"]) fun _ _ _ _ _ _ us hl => match us, hl with | [_], _ => rfl
  have g4 := PySem.W.mg_of X G a4
  have b5 := F5.binds (ps := ["value", "many"]) fun _ _ _ _ _ _ us hl => match us, hl with | [_, _], _ => rfl
  have g5 := PySem.W.mg_of X G a5
  have b6 := F6.binds (ps := ["some"]) fun _ _ _ _ _ _ us hl => match us, hl with | [_], _ => rfl
  have g6 := PySem.W.mg_of X G a6
  have b7 := F7.binds (ps := ["value", "many"]) fun _ _ _ _ _ _ us hl => match us, hl with | [_, _], _ => rfl
  have g7 := PySem.W.mg_of X G a7
  have b8 := F8.binds (ps := ["top", "bottom"]) fun _ _ _ _ _ _ us hl => match us, hl with | [_, _], _ => rfl
  have g8 := PySem.W.mg_of X G a8
  have b9 := F9.binds (ps := ["one", "other"]) fun _ _ _ _ _ _ us hl => match us, hl with | [_, _], _ => rfl
  have g9 := PySem.W.mg_of X G a9
  have b10 := F10.binds (ps := ["one"]) fun _ _ _ _ _ _ us hl => match us, hl with | [_], _ => rfl
  have g10 := PySem.W.mg_of X G a10
  have b11 := F11.binds (ps := ["one", "other"]) fun _ _ _ _ _ _ us hl => match us, hl with | [_, _], _ => rfl
  have g11 := PySem.W.mg_of X G a11
  have b12 := F12.binds (ps := ["one", "other"]) fun _ _ _ _ _ _ us hl => match us, hl with | [_, _], _ => rfl
  have g12 := PySem.W.mg_of X G a12
  have b13 := F13.binds (ps := ["one", "other"]) fun _ _ _ _ _ _ us hl => match us, hl with | [_, _], _ => rfl
  have g13 := PySem.W.mg_of X G a13
  have b14 := F14.binds (ps := ["one"]) fun _ _ _ _ _ _ us hl => match us, hl with | [_], _ => rfl
  have g14 := PySem.W.mg_of X G a14
  have b15 := F15.binds (ps := ["one"]) fun _ _ _ _ _ _ us hl => match us, hl with | [_], _ => rfl
  have g15 := PySem.W.mg_of X G a15
  have b16 := F16.binds (ps := ["one"]) fun _ _ _ _ _ _ us hl => match us, hl with | [_], _ => rfl
  have g16 := PySem.W.mg_of X G a16
  have b17 := F17.binds (ps := ["some"]) fun _ _ _ _ _ _ us hl => match us, hl with | [_], _ => rfl
  have g17 := PySem.W.mg_of X G a17
  have b18 := F18.binds (ps := ["some"]) fun _ _ _ _ _ _ us hl => match us, hl with | [_], _ => rfl
  have g18 := PySem.W.mg_of X G a18
  have b19 := F19.binds (ps := ["some"]) fun _ _ _ _ _ _ us hl => match us, hl with | [_], _ => rfl
  have g19 := PySem.W.mg_of X G a19
  have b20 := F20.binds (ps := ["amount"]) fun _ _ _ _ _ _ us hl => match us, hl with | [_], _ => rfl
  have g20 := PySem.W.mg_of X G a20
  have b21 := F21.binds (ps := ["amount", "whole"]) fun _ _ _ _ _ _ us hl => match us, hl with | [_, _], _ => rfl
  have g21 := PySem.W.mg_of X G a21
  have b22 := F22.binds (ps := ["errors", "kind", "amount", "whole"]) fun _ _ _ _ _ _ us hl => match us, hl with | [_, _, _, _], _ => rfl
  have g22 := PySem.W.mg_of X G a22
  have b23 := F23.binds (ps := ["kinds"]) fun _ _ _ _ _ _ us hl => match us, hl with | [_], _ => rfl
  have g23 := PySem.W.mg_of X G a23
  have b24 := F24.binds (ps := ["totals", "many"]) fun _ _ _ _ _ _ us hl => match us, hl with | [_, _], _ => rfl
  have g24 := PySem.W.mg_of X G a24
  have b25 := F25.binds (ps := ["table", "kind"]) fun _ _ _ _ _ _ us hl => match us, hl with | [_, _], _ => rfl
  have g25 := PySem.W.mg_of X G a25
  have b26 := F26.binds (ps := ["table"]) fun _ _ _ _ _ _ us hl => match us, hl with | [_], _ => rfl
  have g26 := PySem.W.mg_of X G a26
  have b27 := F27.binds (ps := ["table"]) fun _ _ _ _ _ _ us hl => match us, hl with | [_], _ => rfl
  have g27 := PySem.W.mg_of X G a27
  have b28 := F28.binds (ps := ["table", "kind"]) fun _ _ _ _ _ _ us hl => match us, hl with | [_, _], _ => rfl
  have g28 := PySem.W.mg_of X G a28
  have b29 := F29.binds (ps := ["table"]) fun _ _ _ _ _ _ us hl => match us, hl with | [_], _ => rfl
  have g29 := PySem.W.mg_of X G a29
  have b30 := F30.binds (ps := ["table", "errors"]) fun _ _ _ _ _ _ us hl => match us, hl with | [_, _], _ => rfl
  have g30 := PySem.W.mg_of X G a30
  have b31 := F31.binds (ps := ["table", "piece"]) fun _ _ _ _ _ _ us hl => match us, hl with | [_, _], _ => rfl
  have g31 := PySem.W.mg_of X G a31
  have b32 := F32.binds (ps := ["table", "blocks", "errors"]) fun _ _ _ _ _ _ us hl => match us, hl with | [_, _, _], _ => rfl
  have g32 := PySem.W.mg_of X G a32
  have b33 := F33.binds (ps := ["table", "colours", "errors"]) fun _ _ _ _ _ _ us hl => match us, hl with | [_, _, _], _ => rfl
  have g33 := PySem.W.mg_of X G a33
  have b34 := F34.binds (ps := ["table", "blocks"]) fun _ _ _ _ _ _ us hl => match us, hl with | [_, _], _ => rfl
  have g34 := PySem.W.mg_of X G a34
  have b35 := F35.binds (ps := ["table", "blocks", "errors"]) fun _ _ _ _ _ _ us hl => match us, hl with | [_, _, _], _ => rfl
  have g35 := PySem.W.mg_of X G a35
  have b36 := F36.binds (ps := ["points"]) fun _ _ _ _ _ _ us hl => match us, hl with | [_], _ => rfl
  have g36 := PySem.W.mg_of X G a36
  have b37 := F37.binds (ps := ["points"]) fun _ _ _ _ _ _ us hl => match us, hl with | [_], _ => rfl
  have g37 := PySem.W.mg_of X G a37
  have b38 := F38.binds (ps := ["table", "blocks", "errors"]) fun _ _ _ _ _ _ us hl => match us, hl with | [_, _, _], _ => rfl
  have g38 := PySem.W.mg_of X G a38
  have b39 := F39.binds (ps := ["table", "blocks", "errors", "kind", "amount"]) fun _ _ _ _ _ _ us hl => match us, hl with | [_, _, _, _, _], _ => rfl
  have g39 := PySem.W.mg_of X G a39
  have b40 := F40.binds (ps := ["table", "blocks", "errors", "kind"]) fun _ _ _ _ _ _ us hl => match us, hl with | [_, _, _, _], _ => rfl
  have g40 := PySem.W.mg_of X G a40
  have b41 := F41.binds (ps := ["script"]) fun _ _ _ _ _ _ us hl => match us, hl with | [_], _ => rfl
  have g41 := PySem.W.mg_of X G a41
  have b42 := F42.binds (ps := ["heap", "many"]) fun _ _ _ _ _ _ us hl => match us, hl with | [_, _], _ => rfl
  have g42 := PySem.W.mg_of X G a42
  have b43 := F43.binds (ps := ["heap", "some"]) fun _ _ _ _ _ _ us hl => match us, hl with | [_, _], _ => rfl
  have g43 := PySem.W.mg_of X G a43
  have b44 := F44.binds (ps := ["heap", "some"]) fun _ _ _ _ _ _ us hl => match us, hl with | [_, _], _ => rfl
  have g44 := PySem.W.mg_of X G a44
  have b45 := F45.binds (ps := ["heap", "many"]) fun _ _ _ _ _ _ us hl => match us, hl with | [_, _], _ => rfl
  have g45 := PySem.W.mg_of X G a45
  have b46 := F46.binds (ps := ["heap", "most"]) fun _ _ _ _ _ _ us hl => match us, hl with | [_, _], _ => rfl
  have g46 := PySem.W.mg_of X G a46
  have b47 := F47.binds (ps := ["many", "totals"]) fun _ _ _ _ _ _ us hl => match us, hl with | [_, _], _ => rfl
  have g47 := PySem.W.mg_of X G a47
  have b48 := F48.binds (ps := ["heap", "most"]) fun _ _ _ _ _ _ us hl => match us, hl with | [_, _], _ => rfl
  have g48 := PySem.W.mg_of X G a48
  have b49 := F49.binds (ps := ["top", "bottom"]) fun _ _ _ _ _ _ us hl => match us, hl with | [_, _], _ => rfl
  have g49 := PySem.W.mg_of X G a49
  have b50 := F50.binds (ps := ["values", "scale"]) fun _ _ _ _ _ _ us hl => match us, hl with | [_, _], _ => rfl
  have g50 := PySem.W.mg_of X G a50
  have b51 := F51.binds (ps := ["case", "errors"]) fun _ _ _ _ _ _ us hl => match us, hl with | [_, _], _ => rfl
  have g51 := PySem.W.mg_of X G a51
  have b52 := F52.binds (ps := ["case", "row"]) fun _ _ _ _ _ _ us hl => match us, hl with | [_, _], _ => rfl
  have g52 := PySem.W.mg_of X G a52
  have b53 := F53.binds (ps := ["case", "row", "scale"]) fun _ _ _ _ _ _ us hl => match us, hl with | [_, _, _], _ => rfl
  have g53 := PySem.W.mg_of X G a53
  have b54 := F54.binds (ps := ["heap", "scale"]) fun _ _ _ _ _ _ us hl => match us, hl with | [_, _], _ => rfl
  have g54 := PySem.W.mg_of X G a54
  have b55 := F55.binds (ps := ["top", "scale"]) fun _ _ _ _ _ _ us hl => match us, hl with | [_, _], _ => rfl
  have g55 := PySem.W.mg_of X G a55
  have b56 := F56.binds (ps := ["errors", "kind", "top", "whole", "scale"]) fun _ _ _ _ _ _ us hl => match us, hl with | [_, _, _, _, _], _ => rfl
  have g56 := PySem.W.mg_of X G a56
  have b57 := F57.binds (ps := ["heap", "case", "scale"]) fun _ _ _ _ _ _ us hl => match us, hl with | [_, _, _], _ => rfl
  have g57 := PySem.W.mg_of X G a57
  have b58 := F58.binds (ps := ["heap", "case", "scale", "row"]) fun _ _ _ _ _ _ us hl => match us, hl with | [_, _, _, _], _ => rfl
  have g58 := PySem.W.mg_of X G a58
  have b59 := F59.binds (ps := ["case", "kind"]) fun _ _ _ _ _ _ us hl => match us, hl with | [_, _], _ => rfl
  have g59 := PySem.W.mg_of X G a59
  have b60 := F60.binds (ps := ["case", "row", "at"]) fun _ _ _ _ _ _ us hl => match us, hl with | [_, _, _], _ => rfl
  have g60 := PySem.W.mg_of X G a60
  have b61 := F61.binds (ps := ["heap", "case", "scale", "errors", "kind"]) fun _ _ _ _ _ _ us hl => match us, hl with | [_, _, _, _, _], _ => rfl
  have g61 := PySem.W.mg_of X G a61
  have b62 := F62.binds (ps := ["table", "blocks", "case", "scale", "errors", "kind", "top"]) fun _ _ _ _ _ _ us hl => match us, hl with | [_, _, _, _, _, _, _], _ => rfl
  have g62 := PySem.W.mg_of X G a62
  have bIA := FIA.binds (ps := ["self", "at"]) fun _ _ _ _ _ _ us hl => match us, hl with | [_, _], _ => rfl
  have bIN := FIN.binds (ps := ["self", "word"]) fun _ _ _ _ _ _ us hl => match us, hl with | [_, _], _ => rfl
  have bT := FT.binds (ps := ["self", "kinds", "totals"]) fun _ _ _ _ _ _ us hl => match us, hl with | [_, _, _], _ => rfl
  have bB := FB.binds (ps := ["self", "colours", "pieces"]) fun _ _ _ _ _ _ us hl => match us, hl with | [_, _, _], _ => rfl
  have kr40 := kbinds_rev4 (p1 := "table") (p2 := "blocks") (p3 := "errors") (p4 := "kind") F40 (fun _ _ _ _ _ _ _ _ _ _ i => match i with | 0 => rfl | 1 => rfl | 2 => rfl | 3 => rfl | _ + 4 => rfl)
  have kr39 := kbinds_rev5 (p1 := "table") (p2 := "blocks") (p3 := "errors") (p4 := "kind") (p5 := "amount") F39 (fun _ _ _ _ _ _ _ _ _ _ _ i => match i with | 0 => rfl | 1 => rfl | 2 => rfl | 3 => rfl | 4 => rfl | _ + 5 => rfl)
  have y_isinstance := PySem.W.mg_none_of X G z_isinstance
  have y_int := PySem.W.mg_none_of X G z_int
  have y_bool := PySem.W.mg_none_of X G z_bool
  have y_str := PySem.W.mg_none_of X G z_str
  have y_tuple := PySem.W.mg_none_of X G z_tuple
  have y_list := PySem.W.mg_none_of X G z_list
  have y_len := PySem.W.mg_none_of X G z_len
  have y_abs := PySem.W.mg_none_of X G z_abs
  have y_range := PySem.W.mg_none_of X G z_range
  have y_zip := PySem.W.mg_none_of X G z_zip
  have y_all := PySem.W.mg_none_of X G z_all
  have y_any := PySem.W.mg_none_of X G z_any
  have y_sum := PySem.W.mg_none_of X G z_sum
  have y_repr := PySem.W.mg_none_of X G z_repr
  have y_enumerate := PySem.W.mg_none_of X G z_enumerate
  have y_sorted := PySem.W.mg_none_of X G z_sorted
  have y_set := PySem.W.mg_none_of X G z_set
  have y_max := PySem.W.mg_none_of X G z_max
  have y_min := PySem.W.mg_none_of X G z_min
  have gZ := PySem.W.mg_of X G aZ
  have gG := PySem.W.mg_of X G aG
  have gO := PySem.W.mg_of X G aO
  have ho : ∀ H, SqT K H oo (pV (1, 1)) := fun H => .inr ⟨_, _, _, oL, rfl, rfl, by show 2 ≤ sizeLine; decide, .cons ⟨_, rfl⟩ (.cons ⟨_, rfl⟩ .nil)⟩
  have gL := PySem.W.mg_of X G mL
  have gm1 := PySem.W.mg_of X G m1
  have gm2 := PySem.W.mg_of X G m2
  have gm3 := PySem.W.mg_of X G m3
  have hz : ∀ H, SqT K H zz (pV (0, 1)) := fun H => .inr ⟨_, _, _, zL, rfl, rfl, by show 2 ≤ sizeLine; decide, .cons ⟨_, rfl⟩ (.cons ⟨_, rfl⟩ .nil)⟩
  have oA : OexC K CA := ⟨⟨nmA, qA, EA, bsA, _, snA, subA, abA, colA, ddA, m0A, m1A, m2A, m3A, m5A, xLA, rfl⟩, saA, eCA, tCA, kCA⟩
  have oN : OexC K CN := ⟨⟨nmN, qN, EN, bsN, _, snN, subN, abN, colN, ddN, m0N, m1N, m2N, m3N, m5N, xLN, rfl⟩, saN, eCN, tCN, kCN⟩
  have eA : ErrC K mg "InvalidTable" CA fIA := ⟨PySem.W.mg_of X G aCA, oA, iIA, tIA⟩
  have eN : ErrC K mg "InvalidNumber" CN fIN := ⟨PySem.W.mg_of X G aCN, oN, iIN, tIN⟩
  have TC : TabC K CT := ⟨⟨pgT, hdT, poT, saT⟩, nkT, ntT⟩
  have gT := PySem.W.mg_of X G aT
  have BC : BlkC K CB := ⟨⟨pgB, hdB, poB, saB⟩, ncB, npB⟩
  have gB := PySem.W.mg_of X G aB
  refine ⟨PySem.W.fnOf "law" "law" (defArgs s_law) (defBody s_law) (defScope s_law) .none kV63 dc63 pm63 an63 cd63 ct63, fun s v => .of_eq rfl, fun base _ _ => ?_⟩
  have T_is_an_integer := (ok_is_an_integer F0 y_isinstance y_int y_bool : FnOk l.prog w K mg base CX0 1 _ _ _ (spInt K))
  have C_is_an_integer : Cl l.prog w K mg base 1 "is_an_integer" (spInt K) := ⟨⟨f0, _, _, T_is_an_integer, g0, F0.kp, b0⟩⟩
  have T_is_number := (ok_is_number F1 C_is_an_integer : FnOk l.prog w K mg base CX0 2 _ _ _ (spNum K))
  have C_is_number : Cl l.prog w K mg base 2 "is_number" (spNum K) := ⟨⟨f1, _, _, T_is_number, g1, F1.kp, b1⟩⟩
  have T_is_number_below := (ok_is_number_below F2 C_is_number : FnOk l.prog w K mg base CX0 3 _ _ _ spBelow)
  have C_is_number_below : Cl l.prog w K mg base 3 "is_number_below" spBelow := ⟨⟨f2, _, _, T_is_number_below, g2, F2.kp, b2⟩⟩
  have T_are_numbers_below := (ok_are_numbers_below F5 C_is_number_below y_isinstance y_tuple y_all : FnOk l.prog w K mg base CX0 4 _ _ _ (spNumsBelow K))
  have C_are_numbers_below : Cl l.prog w K mg base 4 "are_numbers_below" (spNumsBelow K) := ⟨⟨f5, _, _, T_are_numbers_below, g5, F5.kp, b5⟩⟩
  have T_is_ascending := (ok_is_ascending F6 y_all y_zip : FnOk l.prog w K mg base CX0 1 _ _ _ (spAsc K))
  have C_is_ascending : Cl l.prog w K mg base 1 "is_ascending" (spAsc K) := ⟨⟨f6, _, _, T_is_ascending, g6, F6.kp, b6⟩⟩
  have T_is_lot_below := (ok_is_lot_below F7 C_are_numbers_below C_is_ascending : FnOk l.prog w K mg base CX0 5 _ _ _ (spLot K))
  have C_is_lot_below : Cl l.prog w K mg base 5 "is_lot_below" (spLot K) := ⟨⟨f7, _, _, T_is_lot_below, g7, F7.kp, b7⟩⟩
  have T_totals_with := (ok_totals_with F25 TC y_enumerate y_tuple : FnOk l.prog w K mg base CX0 1 _ _ _ (spTotalsWith K CT))
  have C_totals_with : Cl l.prog w K mg base 1 "totals_with" (spTotalsWith K CT) := ⟨⟨f25, _, _, T_totals_with, g25, F25.kp, b25⟩⟩
  have TXt : FnOk l.prog w K mg base (L2.CX l.prog w) 6 _ _ _ (spCheckTotals K) := ok_check_totals F24 C_is_lot_below gm3 eA (ok_initA FIA oA nwA) bIA y_isinstance y_tuple y_len y_enumerate
  have T_check_totals := (fn_calm TXt : FnOk l.prog w K mg base CX0 6 _ _ _ (fun vs H Q _ => spCheckTotals K vs H Q E0))
  have C_check_totals : Cl l.prog w K mg base 6 "check_totals" (fun vs H Q _ => spCheckTotals K vs H Q E0) := ⟨⟨f24, _, _, T_check_totals, g24, F24.kp, b24⟩⟩
  have T_is_name := (ok_is_name F3 ⟨_, gL⟩ gm1 y_isinstance y_str y_len y_all : FnOk l.prog w K mg base CX0 1 _ _ _ spName)
  have C_is_name : Cl l.prog w K mg base 1 "is_name" spName := ⟨⟨f3, _, _, T_is_name, g3, F3.kp, b3⟩⟩
  have T_are_names := (ok_are_names F4 C_is_name y_isinstance y_tuple y_all : FnOk l.prog w K mg base CX0 2 _ _ _ (spNames K))
  have C_are_names : Cl l.prog w K mg base 2 "are_names" (spNames K) := ⟨⟨f4, _, _, T_are_names, g4, F4.kp, b4⟩⟩
  have TXk : FnOk l.prog w K mg base (L2.CX l.prog w) 3 _ _ _ (spCheckKinds K) := ok_check_kinds F23 C_are_names C_is_ascending gm2 eA (ok_initA FIA oA nwA) bIA y_isinstance y_tuple y_len
  have T_check_kinds := (fn_calm TXk : FnOk l.prog w K mg base CX0 3 _ _ _ (fun vs H Q _ => spCheckKinds K vs H Q E0))
  have C_check_kinds : Cl l.prog w K mg base 3 "check_kinds" (fun vs H Q _ => spCheckKinds K vs H Q E0) := ⟨⟨f23, _, _, T_check_kinds, g23, F23.kp, b23⟩⟩
  have T_Table : MkT l.prog w K mg base 7 "Table" CT (spInitT K CT) := ⟨⟨fT, _, _, ⟨mkT, iT, jT, kcT⟩, ok_init_Table FT TC C_check_kinds C_check_totals y_len, gT, bT⟩⟩
  have T_Blocks : MkT l.prog w K mg base 1 "Blocks" CB (spInitB K CB) := ⟨⟨fB, _, _, ⟨mkB, iB, jB, kcB⟩, ok_init_Blocks FB BC, gB, bB⟩⟩
  have T_classes_of := (ok_classes_of F26 TC C_totals_with y_range y_len y_tuple : FnOk l.prog w K mg base CX0 2 _ _ _ (spClasses K CT))
  have C_classes_of : Cl l.prog w K mg base 2 "classes_of" (spClasses K CT) := ⟨⟨f26, _, _, T_classes_of, g26, F26.kp, b26⟩⟩
  have T_class_numbers := (ok_class_numbers F27 TC C_classes_of y_enumerate y_range y_len y_tuple : FnOk l.prog w K mg base CX0 3 _ _ _ (spNumbers K CT))
  have C_class_numbers : Cl l.prog w K mg base 3 "class_numbers" (spNumbers K CT) := ⟨⟨f27, _, _, T_class_numbers, g27, F27.kp, b27⟩⟩
  have T_totals_by_classes := (ok_totals_by_classes2 F29 TC C_class_numbers y_tuple y_sorted y_set : FnOk l.prog w K mg base CX0 4 _ _ _ (spTBC2 K CT))
  have C_totals_by_classes : Cl l.prog w K mg base 4 "totals_by_classes" (spTBC2 K CT) := ⟨⟨f29, _, _, T_totals_by_classes, g29, F29.kp, b29⟩⟩
  have T_added := (ok_added F9 gG : FnOk l.prog w K mg base CX0 1 _ _ _ (spAdd K))
  have C_added : Cl l.prog w K mg base 1 "added" (spAdd K) := ⟨⟨f9, _, _, T_added, g9, F9.kp, b9⟩⟩
  have T_opposite_of := (ok_opposite_of F10  : FnOk l.prog w K mg base CX0 1 _ _ _ (spOpp K))
  have C_opposite_of : Cl l.prog w K mg base 1 "opposite_of" (spOpp K) := ⟨⟨f10, _, _, T_opposite_of, g10, F10.kp, b10⟩⟩
  have T_taken := (ok_taken F11 C_added C_opposite_of : FnOk l.prog w K mg base CX0 2 _ _ _ (spTaken K))
  have C_taken : Cl l.prog w K mg base 2 "taken" (spTaken K) := ⟨⟨f11, _, _, T_taken, g11, F11.kp, b11⟩⟩
  have T_is_small := (ok_is_small F14 y_abs : FnOk l.prog w K mg base CX0 1 _ _ _ (spSmall K))
  have C_is_small : Cl l.prog w K mg base 1 "is_small" (spSmall K) := ⟨⟨f14, _, _, T_is_small, g14, F14.kp, b14⟩⟩
  have T_sum_of := (ok_sum_of F17 C_added gZ hz : FnOk l.prog w K mg base CX0 2 _ _ _ (spSumL K))
  have C_sum_of : Cl l.prog w K mg base 2 "sum_of" (spSumL K) := ⟨⟨f17, _, _, T_sum_of, g17, F17.kp, b17⟩⟩
  have TXf : FnOk l.prog w K mg base (L2.CX l.prog w) 3 _ _ _ (spFrac CN) := ok_fraction_of F8 gG eN (ok_initN FIN oN nwN) bIN
  have T_fraction_of := (fn_calm TXf : FnOk l.prog w K mg base CX0 3 _ _ _ (fun vs H Q _ => spFrac CN vs H Q E0))
  have C_fraction_of : Cl l.prog w K mg base 3 "fraction_of" (fun vs H Q _ => spFrac CN vs H Q E0) := ⟨⟨f8, _, _, T_fraction_of, g8, F8.kp, b8⟩⟩
  have T_timed := (ok_timed F12 C_fraction_of : FnOk l.prog w K mg base CX0 4 _ _ _ (spTimed K))
  have C_timed : Cl l.prog w K mg base 4 "timed" (spTimed K) := ⟨⟨f12, _, _, T_timed, g12, F12.kp, b12⟩⟩
  have T_is_less := (ok_is_less F13  : FnOk l.prog w K mg base CX0 1 _ _ _ (spLess K))
  have C_is_less : Cl l.prog w K mg base 1 "is_less" (spLess K) := ⟨⟨f13, _, _, T_is_less, g13, F13.kp, b13⟩⟩
  have T_least_of := (ok_least_of F18 C_is_less : FnOk l.prog w K mg base CX0 2 _ _ _ (spBest K lessQ))
  have C_least_of : Cl l.prog w K mg base 2 "least_of" (spBest K lessQ) := ⟨⟨f18, _, _, T_least_of, g18, F18.kp, b18⟩⟩
  have T_greatest_of := (ok_greatest_of F19 C_is_less : FnOk l.prog w K mg base CX0 2 _ _ _ (spBest K gtQ))
  have C_greatest_of : Cl l.prog w K mg base 2 "greatest_of" (spBest K gtQ) := ⟨⟨f19, _, _, T_greatest_of, g19, F19.kp, b19⟩⟩
  have T_class_errors := (ok_class_errors F30 C_classes_of C_sum_of y_tuple : FnOk l.prog w K mg base CX0 3 _ _ _ (spClassErrs K CT))
  have C_class_errors : Cl l.prog w K mg base 3 "class_errors" (spClassErrs K CT) := ⟨⟨f30, _, _, T_class_errors, g30, F30.kp, b30⟩⟩
  have T_has_lone := (ok_has_lone F31 C_totals_by_classes y_any y_len : FnOk l.prog w K mg base CX0 5 _ _ _ (spHasLone K CT))
  have C_has_lone : Cl l.prog w K mg base 5 "has_lone" (spHasLone K CT) := ⟨⟨f31, _, _, T_has_lone, g31, F31.kp, b31⟩⟩
  have T_fixed_pieces := (ok_fixed_pieces F34 BC C_has_lone y_tuple : FnOk l.prog w K mg base CX0 6 _ _ _ (spFixed K CT CB))
  have C_fixed_pieces : Cl l.prog w K mg base 6 "fixed_pieces" (spFixed K CT CB) := ⟨⟨f34, _, _, T_fixed_pieces, g34, F34.kp, b34⟩⟩
  have T_signed_by := (ok_signed_by F33 C_class_errors C_timed y_tuple y_zip : FnOk l.prog w K mg base CX0 5 _ _ _ (spSignedBy K CT))
  have C_signed_by : Cl l.prog w K mg base 5 "signed_by" (spSignedBy K CT) := ⟨⟨f33, _, _, T_signed_by, g33, F33.kp, b33⟩⟩
  have T_signed_errors := (ok_signed_errors F32 BC C_signed_by : FnOk l.prog w K mg base CX0 6 _ _ _ (spSigned K CT CB))
  have C_signed_errors : Cl l.prog w K mg base 6 "signed_errors" (spSigned K CT CB) := ⟨⟨f32, _, _, T_signed_errors, g32, F32.kp, b32⟩⟩
  have T_points_of := (ok_points_of F35 BC C_signed_errors C_fixed_pieces gZ hz y_zip y_tuple : FnOk l.prog w K mg base CX0 7 _ _ _ (spPoints K CT CB))
  have C_points_of : Cl l.prog w K mg base 7 "points_of" (spPoints K CT CB) := ⟨⟨f35, _, _, T_points_of, g35, F35.kp, b35⟩⟩
  have T_span_of := (ok_span_of F36 C_taken C_greatest_of C_least_of : FnOk l.prog w K mg base CX0 3 _ _ _ (spSpan K))
  have C_span_of : Cl l.prog w K mg base 3 "span_of" (spSpan K) := ⟨⟨f36, _, _, T_span_of, g36, F36.kp, b36⟩⟩
  have T_are_close := (ok_are_close F37 C_span_of C_is_small : FnOk l.prog w K mg base CX0 4 _ _ _ (spClose K))
  have C_are_close : Cl l.prog w K mg base 4 "are_close" (spClose K) := ⟨⟨f37, _, _, T_are_close, g37, F37.kp, b37⟩⟩
  have T_is_inside := (ok_is_inside F38 C_points_of C_are_close y_all : FnOk l.prog w K mg base CX0 8 _ _ _ (spInside K CT CB))
  have C_is_inside : Cl l.prog w K mg base 8 "is_inside" (spInside K CT CB) := ⟨⟨f38, _, _, T_is_inside, g38, F38.kp, b38⟩⟩
  have T_floor_of := (ok_floor_of F15  : FnOk l.prog w K mg base CX0 1 _ _ _ (spFloor K))
  have C_floor_of : Cl l.prog w K mg base 1 "floor_of" (spFloor K) := ⟨⟨f15, _, _, T_floor_of, g15, F15.kp, b15⟩⟩
  have T_ceiling_of := (ok_ceiling_of F16  : FnOk l.prog w K mg base CX0 1 _ _ _ (spCeil K))
  have C_ceiling_of : Cl l.prog w K mg base 1 "ceiling_of" (spCeil K) := ⟨⟨f16, _, _, T_ceiling_of, g16, F16.kp, b16⟩⟩
  have T_choices := (ok_choices F20 C_floor_of C_ceiling_of : FnOk l.prog w K mg base CX0 2 _ _ _ (spCho K))
  have C_choices : Cl l.prog w K mg base 2 "choices" (spCho K) := ⟨⟨f20, _, _, T_choices, g20, F20.kp, b20⟩⟩
  have T_error_of_line := (ok_error_of_line F21 C_taken : FnOk l.prog w K mg base CX0 3 _ _ _ (spLineErr K))
  have C_error_of_line : Cl l.prog w K mg base 3 "error_of_line" (spLineErr K) := ⟨⟨f21, _, _, T_error_of_line, g21, F21.kp, b21⟩⟩
  have T_errors_behind := (ok_errors_behind F22 C_added C_error_of_line : FnOk l.prog w K mg base CX0 4 _ _ _ (spBehind25 K))
  have C_errors_behind : Cl l.prog w K mg base 4 "errors_behind" (spBehind25 K) := ⟨⟨f22, _, _, T_errors_behind, g22, F22.kp, b22⟩⟩
  have T_class_of_kind := (ok_class_of_kind F28 C_class_numbers : FnOk l.prog w K mg base CX0 4 _ _ _ (spClassOf K CT))
  have C_class_of_kind : Cl l.prog w K mg base 4 "class_of_kind" (spClassOf K CT) := ⟨⟨f28, _, _, T_class_of_kind, g28, F28.kp, b28⟩⟩
  have T_allowed := (ok_allowed F39 C_choices C_errors_behind C_is_inside y_tuple : FnOk l.prog w K mg base CX0 9 _ _ _ (spAllowed K CT CB))
  have C_allowed : Cl l.prog w K mg base 9 "allowed" (spAllowed K CT CB) := ⟨⟨f39, _, _, T_allowed, g39, F39.kp, b39⟩⟩
  have CR_allowed : ClR l.prog w K mg base 9 "allowed" ["amount", "kind", "errors", "blocks", "table"] (spAllowed K CT CB) := ⟨⟨f39, _, _, T_allowed, g39, F39.kp, kr39⟩⟩
  have TL_least_of := (ok_least_ofL F18 C_is_less : FnOk l.prog w K mg base CX0 2 _ _ _ (spBestL K lessQ))
  have CL_least_of : Cl l.prog w K mg base 2 "least_of" (spBestL K lessQ) := ⟨⟨f18, _, _, TL_least_of, g18, F18.kp, b18⟩⟩
  have TL_greatest_of := (ok_greatest_ofL F19 C_is_less : FnOk l.prog w K mg base CX0 2 _ _ _ (spBestL K gtQ))
  have CL_greatest_of : Cl l.prog w K mg base 2 "greatest_of" (spBestL K gtQ) := ⟨⟨f19, _, _, TL_greatest_of, g19, F19.kp, b19⟩⟩
  have T_gap_beside := (ok_gap_beside F40 BC C_class_of_kind C_signed_errors C_has_lone CL_greatest_of CL_least_of C_added gZ hz gO ho : FnOk l.prog w K mg base CX0 7 _ _ _ (spGap K CT CB))
  have C_gap_beside : Cl l.prog w K mg base 7 "gap_beside" (spGap K CT CB) := ⟨⟨f40, _, _, T_gap_beside, g40, F40.kp, b40⟩⟩
  have CR_gap_beside : ClR l.prog w K mg base 7 "gap_beside" ["kind", "errors", "blocks", "table"] (spGap K CT CB) := ⟨⟨f40, _, _, T_gap_beside, g40, F40.kp, kr40⟩⟩
  have T__law_heap := (ok__law_heapF F41 y_int y_abs : FnOk l.prog w K mg base CX0 1 _ _ _ (spHeapF K))
  have C__law_heap : Cl l.prog w K mg base 1 "_law_heap" (spHeapF K) := ⟨⟨f41, _, _, T__law_heap, g41, F41.kp, b41⟩⟩
  have T__law_draw := (ok__law_draw F42 y_int : FnOk l.prog w K mg base CX0 1 _ _ _ spDraw)
  have C__law_draw : Cl l.prog w K mg base 1 "_law_draw" spDraw := ⟨⟨f42, _, _, T__law_draw, g42, F42.kp, b42⟩⟩
  have T__law_pick := (ok__law_pick F43 C__law_draw y_len : FnOk l.prog w K mg base CX0 2 _ _ _ (spPick K))
  have C__law_pick : Cl l.prog w K mg base 2 "_law_pick" (spPick K) := ⟨⟨f43, _, _, T__law_pick, g43, F43.kp, b43⟩⟩
  have T__law_mixed := (ok__law_mixedL F44 C__law_draw y_len y_list y_range : FnOk l.prog w K mg base CX0 2 _ _ _ (spMixedL K))
  have C__law_mixed : Cl l.prog w K mg base 2 "_law_mixed" (spMixedL K) := ⟨⟨f44, _, _, T__law_mixed, g44, F44.kp, b44⟩⟩
  have T__law_names := (ok__law_names F45 C__law_draw C__law_pick y_int y_range y_tuple y_sorted : FnOk l.prog w K mg base CX0 3 _ _ _ (spLawNames K))
  have C__law_names : Cl l.prog w K mg base 3 "_law_names" (spLawNames K) := ⟨⟨f45, _, _, T__law_names, g45, F45.kp, b45⟩⟩
  have T__law_totals := (ok__law_totals F46 C__law_draw C__law_pick C__law_mixed y_max y_range y_sum y_list y_tuple y_sorted y_int : FnOk l.prog w K mg base CX0 3 _ _ _ (spTot24 K))
  have C__law_totals : Cl l.prog w K mg base 3 "_law_totals" (spTot24 K) := ⟨⟨f46, _, _, T__law_totals, g46, F46.kp, b46⟩⟩
  have T__law_classes := (ok__law_classes F47 y_range y_len : FnOk l.prog w K mg base CX0 1 _ _ _ (spLawCls24 K))
  have C__law_classes : Cl l.prog w K mg base 1 "_law_classes" (spLawCls24 K) := ⟨⟨f47, _, _, T__law_classes, g47, F47.kp, b47⟩⟩
  have T__law_case := (ok__law_case F48 C__law_totals C__law_classes C__law_pick y_any y_len y_range y_tuple y_sorted : FnOk l.prog w K mg base CX0 4 _ _ _ (spCase24 K))
  have C__law_case : Cl l.prog w K mg base 4 "_law_case" (spCase24 K) := ⟨⟨f48, _, _, T__law_case, g48, F48.kp, b48⟩⟩
  have T__law_lowest := (ok__law_lowest F49 y_int y_abs y_range : FnOk l.prog w K mg base CX0 1 _ _ _ spLowest)
  have C__law_lowest : Cl l.prog w K mg base 1 "_law_lowest" spLowest := ⟨⟨f49, _, _, T__law_lowest, g49, F49.kp, b49⟩⟩
  have T__law_fractions := (ok__law_fractions F50 C__law_lowest y_tuple : FnOk l.prog w K mg base CX0 2 _ _ _ (spLawFrs K))
  have C__law_fractions : Cl l.prog w K mg base 2 "_law_fractions" (spLawFrs K) := ⟨⟨f50, _, _, T__law_fractions, g50, F50.kp, b50⟩⟩
  have T__law_row := (ok__law_row25 F51 y_range y_len y_sum : FnOk l.prog w K mg base CX0 1 _ _ _ (spRow25 K))
  have C__law_row : Cl l.prog w K mg base 1 "_law_row" (spRow25 K) := ⟨⟨f51, _, _, T__law_row, g51, F51.kp, b51⟩⟩
  have T__law_points := (ok__law_points F52 y_zip y_int : FnOk l.prog w K mg base CX0 1 _ _ _ (spPts K))
  have C__law_points : Cl l.prog w K mg base 1 "_law_points" (spPts K) := ⟨⟨f52, _, _, T__law_points, g52, F52.kp, b52⟩⟩
  have T__law_inside := (ok__law_inside F53 C__law_points y_all y_max y_min : FnOk l.prog w K mg base CX0 2 _ _ _ (spIns K))
  have C__law_inside : Cl l.prog w K mg base 2 "_law_inside" (spIns K) := ⟨⟨f53, _, _, T__law_inside, g53, F53.kp, b53⟩⟩
  have T__law_some_row := (ok__law_some_row F57 C__law_draw C__law_pick y_len y_zip : FnOk l.prog w K mg base CX0 3 _ _ _ (spSomeRow25 K))
  have C__law_some_row : Cl l.prog w K mg base 3 "_law_some_row" (spSomeRow25 K) := ⟨⟨f57, _, _, T__law_some_row, g57, F57.kp, b57⟩⟩
  have T__law_errors := (ok__law_errors F58 C__law_draw y_range y_len y_sum : FnOk l.prog w K mg base CX0 2 _ _ _ (spErrs25 K))
  have C__law_errors : Cl l.prog w K mg base 2 "_law_errors" (spErrs25 K) := ⟨⟨f58, _, _, T__law_errors, g58, F58.kp, b58⟩⟩
  have T__law_amount := (ok__law_amount F54 C__law_draw C__law_pick y_int : FnOk l.prog w K mg base CX0 3 _ _ _ spAmount25)
  have C__law_amount : Cl l.prog w K mg base 3 "_law_amount" spAmount25 := ⟨⟨f54, _, _, T__law_amount, g54, F54.kp, b54⟩⟩
  have T__law_wholes := (ok__law_wholes F55 y_int : FnOk l.prog w K mg base CX0 1 _ _ _ spWholes25)
  have C__law_wholes : Cl l.prog w K mg base 1 "_law_wholes" spWholes25 := ⟨⟨f55, _, _, T__law_wholes, g55, F55.kp, b55⟩⟩
  have T__law_behind := (ok__law_behind F56  : FnOk l.prog w K mg base CX0 1 _ _ _ (spLBehind K))
  have C__law_behind : Cl l.prog w K mg base 1 "_law_behind" (spLBehind K) := ⟨⟨f56, _, _, T__law_behind, g56, F56.kp, b56⟩⟩
  have T__law_place := (ok__law_place F59 y_range y_len : FnOk l.prog w K mg base CX0 1 _ _ _ (spPlace K))
  have C__law_place : Cl l.prog w K mg base 1 "_law_place" (spPlace K) := ⟨⟨f59, _, _, T__law_place, g59, F59.kp, b59⟩⟩
  have T__law_gap := (ok__law_gap F60 y_zip y_int y_max y_min : FnOk l.prog w K mg base CX0 1 _ _ _ (spLawGap K))
  have C__law_gap : Cl l.prog w K mg base 1 "_law_gap" (spLawGap K) := ⟨⟨f60, _, _, T__law_gap, g60, F60.kp, b60⟩⟩
  have T__law_near_amount := (ok__law_near_amount F61 C__law_draw C__law_pick C__law_place C__law_row C__law_gap C__law_amount y_int : FnOk l.prog w K mg base CX0 4 _ _ _ (spNear K))
  have C__law_near_amount : Cl l.prog w K mg base 4 "_law_near_amount" (spNear K) := ⟨⟨f61, _, _, T__law_near_amount, g61, F61.kp, b61⟩⟩
  have G__law_line_right : ClG l.prog w K mg base 10 "_law_line_right" (spLine25 K CT CB) := ⟨⟨f62, _, _, ok__law_line_right F62 C_allowed CR_allowed C_gap_beside CR_gap_beside C__law_wholes C__law_fractions C__law_lowest C__law_inside C__law_row C__law_behind C__law_place C__law_gap y_repr y_tuple y_len y_max, g62, F62.kp, b62⟩⟩
  exact ok_law F63 T_Table T_Blocks C__law_heap C__law_draw C__law_pick C__law_case C__law_names C__law_some_row C__law_errors C__law_near_amount G__law_line_right C_allowed C_gap_beside y_range y_int y_len
end K25
open PySem PySem.W PyProof.Rows
set_option maxHeartbeats 0 in
theorem PySem.Challenge.cw_centsatonce_k25_whole_one_whole_is_alway_holds : PySem.Challenge.rw_centsatonce_k25_whole_one_whole_is_alway.Holds := by
  w_on; o_law; k_head; (case hw => w_witness2)
  k_fill
  refine VG.walk_G (l := PySem.Challenge.rw_centsatonce_k25_whole_one_whole_is_alway) (n := 63) (k := 12) (x := "script") (sp := fun w => FR.spLaw _) rfl (by decide) rfl ⟨rfl, by decide, by decide⟩ (fun w h Y => PySem.W.kIn_of Y) ?F (fun _ _ a ns hl _ _ hS => ⟨a, ns, rfl, hS, hl, fun _ => rfl⟩)
  case F =>
    intro w mg fa h KX G hmg
    refine' K25.all_mk KX G hmg ?a0 ?l0 ?c0 ?k0 ?a1 ?l1 ?c1 ?k1 ?a2 ?l2 ?c2 ?k2 ?a3 ?l3 ?c3 ?k3 ?a4 ?l4 ?c4 ?k4 ?a5 ?l5 ?c5 ?k5 ?a6 ?l6 ?c6 ?k6 ?a7 ?l7 ?c7 ?k7 ?a8 ?l8 ?c8 ?k8 ?a9 ?l9 ?c9 ?k9 ?a10 ?l10 ?c10 ?k10 ?a11 ?l11 ?c11 ?k11 ?a12 ?l12 ?c12 ?k12 ?a13 ?l13 ?c13 ?k13 ?a14 ?l14 ?c14 ?k14 ?a15 ?l15 ?c15 ?k15 ?a16 ?l16 ?c16 ?k16 ?a17 ?l17 ?c17 ?k17 ?a18 ?l18 ?c18 ?k18 ?a19 ?l19 ?c19 ?k19 ?a20 ?l20 ?c20 ?k20 ?a21 ?l21 ?c21 ?k21 ?a22 ?l22 ?c22 ?k22 ?a23 ?l23 ?c23 ?k23 ?a24 ?l24 ?c24 ?k24 ?a25 ?l25 ?c25 ?k25 ?a26 ?l26 ?c26 ?k26 ?a27 ?l27 ?c27 ?k27 ?a28 ?l28 ?c28 ?k28 ?a29 ?l29 ?c29 ?k29 ?a30 ?l30 ?c30 ?k30 ?a31 ?l31 ?c31 ?k31 ?a32 ?l32 ?c32 ?k32 ?a33 ?l33 ?c33 ?k33 ?a34 ?l34 ?c34 ?k34 ?a35 ?l35 ?c35 ?k35 ?a36 ?l36 ?c36 ?k36 ?a37 ?l37 ?c37 ?k37 ?a38 ?l38 ?c38 ?k38 ?a39 ?l39 ?c39 ?k39 ?a40 ?l40 ?c40 ?k40 ?a41 ?l41 ?c41 ?k41 ?a42 ?l42 ?c42 ?k42 ?a43 ?l43 ?c43 ?k43 ?a44 ?l44 ?c44 ?k44 ?a45 ?l45 ?c45 ?k45 ?a46 ?l46 ?c46 ?k46 ?a47 ?l47 ?c47 ?k47 ?a48 ?l48 ?c48 ?k48 ?a49 ?l49 ?c49 ?k49 ?a50 ?l50 ?c50 ?k50 ?a51 ?l51 ?c51 ?k51 ?a52 ?l52 ?c52 ?k52 ?a53 ?l53 ?c53 ?k53 ?a54 ?l54 ?c54 ?k54 ?a55 ?l55 ?c55 ?k55 ?a56 ?l56 ?c56 ?k56 ?a57 ?l57 ?c57 ?k57 ?a58 ?l58 ?c58 ?k58 ?a59 ?l59 ?c59 ?k59 ?a60 ?l60 ?c60 ?k60 ?a61 ?l61 ?c61 ?k61 ?a62 ?l62 ?c62 ?k62 ?a63 ?l63 ?c63 ?k63 ?aCA ?xLA ?saA ?nwA ?iIA ?tIA ?lIA ?cIA ?kIA ?kCA ?eCA ?tCA ?aCN ?xLN ?saN ?nwN ?iIN ?tIN ?lIN ?cIN ?kIN ?kCN ?eCN ?tCN ?aT ?iT ?jT ?lT ?cT ?kT ?pgT ?hdT ?poT ?saT ?mkT ?kcT ?nkT ?ntT ?aB ?iB ?jB ?lB ?cB ?kB ?pgB ?hdB ?poB ?saB ?mkB ?kcB ?ncB ?npB ?mL ?m1 ?m2 ?m3 ?aZ ?zL ?aO ?oL ?aG ?z_isinstance ?z_int ?z_bool ?z_str ?z_tuple ?z_list ?z_len ?z_abs ?z_range ?z_zip ?z_all ?z_any ?z_sum ?z_repr ?z_enumerate ?z_sorted ?z_set ?z_max ?z_min
    (case a0 => k_is); (case l0 => k_is); (case c0 => k_is); (case k0 => k_is); (case a1 => k_is); (case l1 => k_is); (case c1 => k_is); (case k1 => k_is); (case a2 => k_is); (case l2 => k_is); (case c2 => k_is); (case k2 => k_is); (case a3 => k_is); (case l3 => k_is); (case c3 => k_is); (case k3 => k_is); (case a4 => k_is); (case l4 => k_is); (case c4 => k_is); (case k4 => k_is); (case a5 => k_is); (case l5 => k_is); (case c5 => k_is); (case k5 => k_is); (case a6 => k_is); (case l6 => k_is); (case c6 => k_is); (case k6 => k_is); (case a7 => k_is); (case l7 => k_is); (case c7 => k_is); (case k7 => k_is); (case a8 => k_is); (case l8 => k_is); (case c8 => k_is); (case k8 => k_is); (case a9 => k_is); (case l9 => k_is); (case c9 => k_is); (case k9 => k_is); (case a10 => k_is); (case l10 => k_is); (case c10 => k_is); (case k10 => k_is); (case a11 => k_is); (case l11 => k_is); (case c11 => k_is); (case k11 => k_is); (case a12 => k_is); (case l12 => k_is); (case c12 => k_is); (case k12 => k_is); (case a13 => k_is); (case l13 => k_is); (case c13 => k_is); (case k13 => k_is); (case a14 => k_is); (case l14 => k_is); (case c14 => k_is); (case k14 => k_is); (case a15 => k_is); (case l15 => k_is); (case c15 => k_is); (case k15 => k_is); (case a16 => k_is); (case l16 => k_is); (case c16 => k_is); (case k16 => k_is); (case a17 => k_is); (case l17 => k_is); (case c17 => k_is); (case k17 => k_is); (case a18 => k_is); (case l18 => k_is); (case c18 => k_is); (case k18 => k_is); (case a19 => k_is); (case l19 => k_is); (case c19 => k_is); (case k19 => k_is); (case a20 => k_is); (case l20 => k_is); (case c20 => k_is); (case k20 => k_is); (case a21 => k_is); (case l21 => k_is); (case c21 => k_is); (case k21 => k_is); (case a22 => k_is); (case l22 => k_is); (case c22 => k_is); (case k22 => k_is); (case a23 => k_is); (case l23 => k_is); (case c23 => k_is); (case k23 => k_is); (case a24 => k_is); (case l24 => k_is); (case c24 => k_is); (case k24 => k_is); (case a25 => k_is); (case l25 => k_is); (case c25 => k_is); (case k25 => k_is); (case a26 => k_is); (case l26 => k_is); (case c26 => k_is); (case k26 => k_is); (case a27 => k_is); (case l27 => k_is); (case c27 => k_is); (case k27 => k_is); (case a28 => k_is); (case l28 => k_is); (case c28 => k_is); (case k28 => k_is); (case a29 => k_is); (case l29 => k_is); (case c29 => k_is); (case k29 => k_is); (case a30 => k_is); (case l30 => k_is); (case c30 => k_is); (case k30 => k_is); (case a31 => k_is); (case l31 => k_is); (case c31 => k_is); (case k31 => k_is); (case a32 => k_is); (case l32 => k_is); (case c32 => k_is); (case k32 => k_is); (case a33 => k_is); (case l33 => k_is); (case c33 => k_is); (case k33 => k_is); (case a34 => k_is); (case l34 => k_is); (case c34 => k_is); (case k34 => k_is); (case a35 => k_is); (case l35 => k_is); (case c35 => k_is); (case k35 => k_is); (case a36 => k_is); (case l36 => k_is); (case c36 => k_is); (case k36 => k_is); (case a37 => k_is); (case l37 => k_is); (case c37 => k_is); (case k37 => k_is); (case a38 => k_is); (case l38 => k_is); (case c38 => k_is); (case k38 => k_is); (case a39 => k_is); (case l39 => k_is); (case c39 => k_is); (case k39 => k_is); (case a40 => k_is); (case l40 => k_is); (case c40 => k_is); (case k40 => k_is); (case a41 => k_is); (case l41 => k_is); (case c41 => k_is); (case k41 => k_is); (case a42 => k_is); (case l42 => k_is); (case c42 => k_is); (case k42 => k_is); (case a43 => k_is); (case l43 => k_is); (case c43 => k_is); (case k43 => k_is); (case a44 => k_is); (case l44 => k_is); (case c44 => k_is); (case k44 => k_is); (case a45 => k_is); (case l45 => k_is); (case c45 => k_is); (case k45 => k_is); (case a46 => k_is); (case l46 => k_is); (case c46 => k_is); (case k46 => k_is); (case a47 => k_is); (case l47 => k_is); (case c47 => k_is); (case k47 => k_is); (case a48 => k_is); (case l48 => k_is); (case c48 => k_is); (case k48 => k_is); (case a49 => k_is); (case l49 => k_is); (case c49 => k_is); (case k49 => k_is); (case a50 => k_is); (case l50 => k_is); (case c50 => k_is); (case k50 => k_is); (case a51 => k_is); (case l51 => k_is); (case c51 => k_is); (case k51 => k_is); (case a52 => k_is); (case l52 => k_is); (case c52 => k_is); (case k52 => k_is); (case a53 => k_is); (case l53 => k_is); (case c53 => k_is); (case k53 => k_is); (case a54 => k_is); (case l54 => k_is); (case c54 => k_is); (case k54 => k_is); (case a55 => k_is); (case l55 => k_is); (case c55 => k_is); (case k55 => k_is); (case a56 => k_is); (case l56 => k_is); (case c56 => k_is); (case k56 => k_is); (case a57 => k_is); (case l57 => k_is); (case c57 => k_is); (case k57 => k_is); (case a58 => k_is); (case l58 => k_is); (case c58 => k_is); (case k58 => k_is); (case a59 => k_is); (case l59 => k_is); (case c59 => k_is); (case k59 => k_is); (case a60 => k_is); (case l60 => k_is); (case c60 => k_is); (case k60 => k_is); (case a61 => k_is); (case l61 => k_is); (case c61 => k_is); (case k61 => k_is); (case a62 => k_is); (case l62 => k_is); (case c62 => k_is); (case k62 => k_is); (case a63 => k_is); (case l63 => k_is); (case c63 => k_is); (case k63 => k_is); (case aCA => k_is); (case xLA => k_is); (case saA => k_is); (case nwA => k_is); (case iIA => k_is); (case tIA => k_is); (case lIA => k_is); (case cIA => k_is); (case kIA => k_is); (case kCA => k_is); (case eCA => k_is); (case tCA => k_is); (case aCN => k_is); (case xLN => k_is); (case saN => k_is); (case nwN => k_is); (case iIN => k_is); (case tIN => k_is); (case lIN => k_is); (case cIN => k_is); (case kIN => k_is); (case kCN => k_is); (case eCN => k_is); (case tCN => k_is); (case aT => k_is); (case iT => k_is); (case jT => k_is); (case lT => k_is); (case cT => k_is); (case kT => k_is); (case pgT => k_is); (case hdT => k_is); (case poT => k_is); (case saT => k_is); (case mkT => k_is); (case kcT => k_is); (case nkT => k_is); (case ntT => k_is); (case aB => k_is); (case iB => k_is); (case jB => k_is); (case lB => k_is); (case cB => k_is); (case kB => k_is); (case pgB => k_is); (case hdB => k_is); (case poB => k_is); (case saB => k_is); (case mkB => k_is); (case kcB => k_is); (case ncB => k_is); (case npB => k_is); (case mL => k_is); (case m1 => k_is); (case m2 => k_is); (case m3 => k_is); (case aZ => k_is); (case zL => k_is); (case aO => k_is); (case oL => k_is); (case aG => k_is); (case z_isinstance => k_is); (case z_int => k_is); (case z_bool => k_is); (case z_str => k_is); (case z_tuple => k_is); (case z_list => k_is); (case z_len => k_is); (case z_abs => k_is); (case z_range => k_is); (case z_zip => k_is); (case z_all => k_is); (case z_any => k_is); (case z_sum => k_is); (case z_repr => k_is); (case z_enumerate => k_is); (case z_sorted => k_is); (case z_set => k_is); (case z_max => k_is); (case z_min => k_is)
