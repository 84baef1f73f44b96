import PyProof.Rows.All
import Wide.All
import OpenK.AllK
import Wide.FinOn
import HandS.ForMost
import HandS.ForExc
import HandS.Wide
import HandS.TupAny
import HandS.TupMul
import KE.GoesMore
import HandS.Style
import HandS.More
import HandS.Deep
import HandS.IsInst
import HandS.Conv
import HandS.ExcIs
import HandS.ExcValue
import KE.KRevSl
import HandS.Strs
import HandS.SetFor
import KE.SortData
import KE.KExcSuper
import KE.KExcIs
import HandS.ExcInit
import HandS.ExcField
import PySem.Challenge.RW_selfsort_k03_errors
import PyProof.ReprBulk
section
set_option Elab.async false
set_option linter.all false
set_option maxRecDepth 100000
set_option maxHeartbeats 4100000
/-! New tuples, tracked with the very object that they are (which has no dict). -/
namespace Mach
open L2 PySem PySem.Spec PyProof.Rows HT
/-- what is wished of a new tuple -/
def NT (H : Hp) (Q : VK) (xs : List V) : Prop := ∀ (p : Addr) (b : Obj), H p = none → b.dict = none → Q (.ref p) (upd H p (.frz b (.tup xs)))
section
variable {H : Hp} {s : Shared} {X : Cx} {pins : List (Addr × Obj)} {σ : L2.St}
theorem laidT {xs : List V} {row : List Value} {tk : Nat} (I : Inv X pins σ H s) (rv : Vals xs row) (hz : xs.length ≤ sizeLine) :
    Inv X pins σ (upd H s.heap.objs.size (.frz { cls := .type "tuple", data := .seq row.toArray } (.tup xs))) { s with heap := s.heap.push { cls := .type "tuple", data := .seq row.toArray }, toks := tk } :=
  I.laid (t' := tk) (fun b u e => Heap.get?_push_of_some _ e) (Nat.le_refl _) ⟨Heap.get?_push_size _ rfl, hz, row, rv, IsTup.new _ _⟩
theorem NT.give {xs : List V} {row : List Value} {Q : VK} {tk : Nat} (I : Inv X pins σ H s) (rv : Vals xs row) (hz : xs.length ≤ sizeLine) (q : NT H Q xs) :
    EP X pins σ Q (.ref s.heap.objs.size) { s with heap := s.heap.push { cls := .type "tuple", data := .seq row.toArray }, toks := tk } :=
  ⟨.ref s.heap.objs.size, _, laidT I rv hz, rfl, q _ _ (I.hok.fresh (Nat.le_refl _)) rfl⟩
end
section
variable {X : Cx} {es : List Expr} {t : TA} {pos : Pos}
def tTupZ (t : TA) : TE := fun σ H Q => t σ H fun xs H1 => xs.length ≤ sizeLine ∧ NT H1 Q xs
theorem pe_tupZ {x1} (h : PA X es t) : PE X (.Tuple es x1 pos) (tTupZ t) := by
  refine ⟨fun pins s σ H Q I hq => wpAny_Tuple_spliced (thn (h.run pos pins s σ H _ I hq) fun us s1 z => ?_)⟩
  obtain ⟨xs, H1, I1, rv, hz, q⟩ := z
  exact ⟨by rw [← rv.length]; exact hz, NT.give (tk := s1.toks) I1 rv hz q⟩
/-- t + u -/
def rCatZ (K : PySem.W.Frag) : R2 := fun x y H Q => ∃ a b xs ys, x = .ref a ∧ y = .ref b ∧ SqT K H a xs ∧ SqT K H b ys ∧ xs.length + ys.length ≤ sizeLine ∧ (xs = [] → Q (.ref b) H) ∧ (xs ≠ [] → ys = [] → Q (.ref a) H) ∧ NT H Q (xs ++ ys)
theorem op_catZ : OpR X (binaryOp .Add) (rCatZ X.K) := by
  intro pins s σ H x y v u Q I rx ry w
  obtain ⟨a, b, xs, ys, rfl, rfl, ta, tb, hz, q0, q1, q2⟩ := w
  cases rx
  cases ry
  obtain ⟨row, rv, pa, _⟩ := I.tuple ta
  obtain ⟨row2, rv2, pb, _⟩ := I.tuple tb
  by_cases hx : xs = []
  · subst hx
    cases rv
    exact cat_tup0 pa pb ⟨.ref b, H, I, rfl, q0 rfl⟩
  · have total : row.length + row2.length ≤ sizeLine := by rw [← rv.length, ← rv2.length]; exact hz
    have all : Vals (xs ++ ys) (row ++ row2) := rv.append rv2
    have allz : (xs ++ ys).length ≤ sizeLine := by rw [List.length_append]; exact hz
    exact HT.cat_tup pa pb (fun z => hx (rv.nil_iff.mp z)) (fun z => ⟨.ref a, H, I, rfl, q1 hx (rv2.nil_iff.mp z)⟩) (fun _ => NT.give (tk := s.toks) I all allz q2) total
/-- t * k -/
def rRepZ (K : PySem.W.Frag) : R2 := fun x y H Q => ∃ l k xs, x = .ref l ∧ y = .int k ∧ SqT K H l xs ∧ xs ≠ [] ∧ 2 ≤ k ∧ k ≤ 1000 ∧ xs.length ≤ 1000 ∧ NT H Q (List.replicate k.toNat xs).flatten
theorem op_repZ : OpR X (binaryOp .Mult) (rRepZ X.K) := by
  intro pins s σ H x y v u Q I rx ry w
  obtain ⟨l, k, xs, rfl, rfl, tl, some_, lo, hi, hz, q⟩ := w
  cases rx
  obtain ⟨tk, rfl⟩ := ry
  obtain ⟨row, rv, ⟨⟨cls, dd, data, sl⟩, ho, hc, n, hdt⟩, hs⟩ := I.tuple tl
  simp only at hc hdt
  subst hc hdt
  have same : row.length = xs.length := rv.length.symm
  have size : row.toArray.size = xs.length := by rw [List.size_toArray, same]
  have full : row.toArray.isEmpty = false := by
    cases row with
    | nil => exact absurd (List.eq_nil_of_length_eq_zero same.symm) some_
    | cons a b => rfl
  have most : ((row.toArray.size : Nat) : Int) * k ≤ 1000000 := by
    rw [size]
    have : ((xs.length : Nat) : Int) * k ≤ 1000 * k := Int.mul_le_mul_of_nonneg_right (by omega) (by omega)
    omega
  have bound : k.toNat * xs.length ≤ 1000 * 1000 := Nat.mul_le_mul (by omega) hz
  have b0 : (decide (k < -(2 ^ 63)) || decide (k ≥ 2 ^ 63)) = false := by simp; omega
  have b1 : (row.toArray.isEmpty || k == 1) = false := by
    rw [full]
    simp
    omega
  have b2 : (decide (k ≤ 0) || row.toArray.isEmpty) = false := by
    rw [full]
    simp
    omega
  have b4 : Builtin.Tuple.tupleTooMany (((row.toArray.size : Nat) : Int) * k) = false := by
    unfold Builtin.Tuple.tupleTooMany; rw [sizeLine_eq]
    exact decide_eq_false (fun z => by omega)
  have flat : (List.replicate k.toNat row).flatten.length ≤ sizeLine := by rw [PyProof.Rows.lm_len_rep_flat, same, sizeLine_eq]; omega
  have flatx : (List.replicate k.toNat xs).flatten.length ≤ sizeLine := by rw [PyProof.Rows.lm_len_rep_flat, sizeLine_eq]; omega
  have isT : Shared.TypeIs s (.ref l) "tuple" := ⟨_, ho, rfl⟩
  refine wpAny_binaryOp_repeat_ref (T := "tuple") (U := "int") (by decide) isT (fun s' => typeIs_int s' k tk) noFill_tuple_mul F.fills_int_mul F.slot_int_rmul repeat_tuple F.slot_int_index.lookup
    (call_meets F.slot_int_rmul (typeIs_int s k tk) F.entry_int_rmul (F.args_int_rmul_2 _ _) (int_rmul_tuple k tk l row.toArray n dd sl)
      ⟨ho, rfl, isT, call_meets F.slot_tuple_mul isT F.entry_tuple_mul (F.args_tuple_mul_2 _ _) (tuple_mulW l row.toArray n dd sl k tk b0 b1 b2 (by omega) b4 (by rw [size_rep, List.size_toArray]; exact flat)) ⟨ho, ?_⟩⟩)
  rw [size_rep]
  exact NT.give (tk := s.toks) I (rv.rep k.toNat) flatx q
/-- t[lo:hi] -/
def rSlZ (K : PySem.W.Frag) : V → Option Int → Option Int → Hp → VK → Prop := fun x lo hi H Q => ∃ a xs, x = .ref a ∧ SqT K H a xs ∧
  (HT.sIx xs.length 0 lo = 0 ∧ HT.sIx xs.length xs.length hi = xs.length → Q (.ref a) H) ∧ NT H Q (cutV xs lo hi)
theorem sl_tupZ : SlR X (rSlZ X.K) := by
  intro pins s σ H x v vl vu lo hi sl Q I rx hs pl pu w
  obtain ⟨a, xs, rfl, tx, q1, q2⟩ := w
  cases rx
  obtain ⟨row, rv, pt, hz⟩ := I.tuple tx
  have size : row.toArray.size = xs.length := by rw [List.size_toArray]; exact rv.length.symm
  refine ⟨"tuple", _, PyProof.Rows.slot_tuple_getitem.lookup, pt.typeIs, ?_⟩
  by_cases whole : HT.sIx xs.length 0 lo = 0 ∧ HT.sIx xs.length xs.length hi = xs.length
  · exact getItem_tuple_whole pt hs pl pu (by rw [size]; exact whole) ⟨.ref a, H, I, rfl, q1 whole⟩
  · refine HT.getItem_tuple_cut pt hs pl pu (by rw [size]; exact whole) ?_ (by rw [size]; exact hz)
    rw [size]
    exact NT.give (tk := s.toks) I ((rv.drop (HT.sIx xs.length 0 lo)).take (HT.sIx xs.length xs.length hi - HT.sIx xs.length 0 lo)) (Nat.le_trans (cutV_length xs lo hi) hz) q2
/-- tuple(x) -/
theorem call_tupleZ : CallR X (.type "tuple") (fun xs H Q => ∃ p ys, xs = [.ref p] ∧ ((SqL X.K H p ys ∧ NT H Q ys) ∨ (SqT X.K H p ys ∧ Q (.ref p) H))) := by
  intro pins s σ H xs us Q I rr w
  obtain ⟨p, ys, rfl, w⟩ := w
  obtain ⟨u, rfl, rx⟩ := vals1 rr
  cases rx
  rcases w with ⟨hx, q⟩ | ⟨hx, q⟩
  · obtain ⟨row, rv, pl, hz⟩ := I.list hx
    have same := rv.length
    exact call_tuple_list pl.isList (fun h' kp => NT.give (tk := s.toks) (I.kept (t' := s.toks) kp) rv hz q) (by simp only [List.size_toArray] <;> omega)
  · obtain ⟨row, rv, pt, hz⟩ := I.tuple hx
    exact call_tuple_same pt ⟨.ref p, H, I, rfl, q⟩
end
end Mach
end

section
set_option Elab.async false
set_option linter.all false
set_option maxRecDepth 100000
set_option maxHeartbeats 4100000
/-! enumerate(list), each pair tracked with the very object that it is. -/
namespace Mach
open PySem PySem.Spec L2
/-- a pair made for a walk -/
def pairO (i : Int) (tk : Tok) (u : Value) : Obj := { cls := .type "tuple", data := .seq #[.int i tk, u] }
/-- what a walk by enumerate hands out at turn i -/
def YldE (known : (List V → Prop)) (i : Nat) (H : Hp) (v : V) (H' : Hp) : Prop :=
  ∃ (T : Addr) (b : Obj) (x : V), v = .ref T ∧ H T = none ∧ b.dict = none ∧ H' = upd H T (.frz b (.tup [.int (i : Nat), x])) ∧ ∀ xs, known xs → xs[i]? = some x
section
variable {X : Cx} {pins : List (Addr × Obj)} {σ : L2.St} {H : Hp} {s : Shared} {e it : Addr} {i : Nat} {u : Value} {tk : Nat}
theorem pair_ok {P : Program} {w : World} {H0 : Hp} {h2 : Heap} {a : Addr} {tt : Tok} {x : V} (hg : h2.get? a = some (pairO (i : Int) tt u)) (ru : RelV x u) : ObjOk P w H0 h2 a (.frz (pairO (i : Int) tt u) (.tup [.int (i : Nat), x])) :=
  ⟨hg, by show 2 ≤ sizeLine; decide, [.int i tt, u], .cons ⟨_, rfl⟩ (.cons ru .nil), ⟨_, hg, rfl, _, rfl⟩⟩
end
def IteZ (K : PySem.W.Frag) (a : Addr) : It :=
  ⟨fun i H => ∃ (xs : List V) (x : V), SqL K H a xs ∧ xs[i]? = some x, fun i H v H' => YldE (SqL K H a) i H v H', fun i H => ∃ xs : List V, SqL K H a xs ∧ xs.length ≤ i⟩
theorem turn_enumZ {P : Program} {w : World} {K : PySem.W.Frag} {elts : List Expr} {kk : Nat} {tpos : Pos} (a e it : Addr) :
    Turn P w K (.Tuple elts kk tpos) (IteZ K a) [e, it] e (fun i h => (∃ was, IsEnum h e it ((i : Nat) : Int) was) ∧ h.IsListIter it a i ∧ e ≠ it) where
  mem := List.mem_cons_self
  obj := fun i h stt b hMem => by
    obtain ⟨⟨was, hEn⟩, ⟨ob, hIt, hCl, hDat⟩, _⟩ := stt
    rcases (show b = e ∨ b = it by simpa using hMem) with zz | zz
    · rw [zz]; exact ⟨_, hEn, fun v qv => by cases qv⟩
    · rw [zz]; exact ⟨ob, hIt, fun v qv => nomatch (hDat ▸ qv)⟩
  keep := fun i h h' stt kp => by
    obtain ⟨⟨was, hEn⟩, hItr, hDis⟩ := stt
    exact ⟨⟨was, kp e (by simp) _ hEn⟩, hItr.at fun ob qv => kp it (by simp) ob qv, hDis⟩
  item := by
    intro X eP eW eK calm i pins s σ H E I hFp stt hg
    subst eP eW eK
    obtain ⟨⟨was, hEn⟩, hItr, hDis⟩ := stt
    obtain ⟨xs, x, hSq, hx⟩ := hg
    obtain ⟨row, rv, pl, _⟩ := I.list hSq
    obtain ⟨u, hAtI, ru⟩ := rv.get hx
    have under : ∀ b, b = e ∨ b = it → b < s.heap.objs.size := fun b hb => by
      rcases hb with rfl | rfl
      · exact Heap.lt_size hEn
      · obtain ⟨_, qv, _⟩ := hItr; exact Heap.lt_size qv
    refine wpAny_pyNext_enum_item hEn hItr pl.isList (x := u) (by simpa using hAtI) hDis fun h1 en1 it1 pair size1 keep1 => ?_
    refine ⟨_, rfl, wpAny_letOwnedTupleGo_enum (s := { s with heap := h1, toks := s.toks + 1 }) en1 fun h2 en2 but => ?_⟩
    have pair2 : h2.get? s.heap.objs.size = some (pairO (i : Int) s.toks u) := (but.2 _ (Nat.ne_of_gt (under e (.inl rfl)))).trans pair
    have old : ∀ b ob, b ∉ [e, it] → s.heap.get? b = some ob → h2.get? b = some ob := fun b ob hb qv => by
      have b1 : b ≠ e := fun zz => hb (by simp [zz])
      have b2 : b ≠ it := fun zz => hb (by simp [zz])
      exact (but.2 b b1).trans (keep1 b ob b1 b2 qv)
    have J := I.turnedNew (ch := [e, it]) (t' := s.toks + 1) old hFp (Nat.le_refl _) (pair_ok (P := X.prog) (w := X.w) (H0 := upd H s.heap.objs.size (.frz (pairO (i : Int) s.toks u) (.tup [.int (i : Nat), x]))) pair2 ru)
    refine ⟨.ref s.heap.objs.size, _, J, rfl, ⟨_, _, x, rfl, I.hok.fresh (Nat.le_refl _), rfl, rfl, fun ys hy => by rw [I.list_inj hy hSq]; exact hx⟩, ⟨⟨u, ?_⟩, it1.at fun ob qv => (but.2 it (Ne.symm hDis)).trans qv, hDis⟩, fun b hb => ?_⟩
    · rw [show ((i + 1 : Nat) : Int) = (i : Int) + 1 by omega]; exact en2
    · rw [upd_ne (fun zz => absurd (under b (by simpa using hb)) (by rw [zz]; exact Nat.lt_irrefl _))]
      exact (hFp b hb).1
  done := by
    intro X eP eW eK calm i pins s σ H E I hFp stt hg
    subst eP eW eK
    obtain ⟨⟨was, hEn⟩, hItr, hDis⟩ := stt
    obtain ⟨xs, hSq, hx⟩ := hg
    obtain ⟨row, rv, pl, _⟩ := I.list hSq
    obtain ⟨g0, g1, g2, g3, g4, g5⟩ := hFp it (by simp)
    have same := rv.length
    exact wpAny_pyNext_enum_end (I.ok.hd calm) hEn hItr pl.isList (by simp; omega) fun h1 eb => ⟨rfl, I.turned (t' := s.toks) (fun b ob hb qv => eb b ob hb qv) g0 g1 g3 g4 g5⟩
  self := fun A i s Q E stt h => wpAny_pyIter_enum stt.1.choose_spec h
def iEnumZ (K : PySem.W.Frag) (ta : TA) : TI := fun σ H R => ta σ H fun vs H1 => ∃ a xs, vs = [.ref a] ∧ SqL K H1 a xs ∧ R (IteZ K a) H1
theorem pi_enumZ {X : Cx} {e : Expr} {ta : TA} {p pos tpos : Pos} {elts : List Expr} {kk : Nat} (hg : Gl X "enumerate") (hm : X.mg "enumerate" = none) (ha : PA X [e] ta) (hs : starEach [e] X.env = [(false, eval e X.env)] := by rfl) :
    PI X (.Tuple elts kk tpos) (.Call (.Name "enumerate" p) [e] [] pos) (iEnumZ X.K ta) := by
  refine ⟨fun pins s σ H R I hyp => ?_⟩
  refine PyProof.Rows.Call_ (ld_blt I hg hm PyProof.Rows.boot_enumerate (PyProof.Rows.callWith_type1 (thn (ha.run pos pins s σ H _ I hyp) fun us s1 zz => ?_) hs rfl))
  obtain ⟨vs, H1, I1, rv1, a, xs, rfl, hSq, q⟩ := zz
  cases rv1 with
  | cons r rr =>
    cases rr
    cases r
    obtain ⟨row, rv, pl, _⟩ := I1.list hSq
    refine PySem.call_enumerate_list pl.isList fun h1 en it1 size1 kp => wpAny_pyIter_enum en ?_
    have above : ∀ b ∈ [s1.heap.objs.size + 1, s1.heap.objs.size], s1.heap.objs.size ≤ b := by simp
    exact ⟨s1.heap.objs.size + 1, [s1.heap.objs.size + 1, s1.heap.objs.size], _, _, H1, rfl, I1.kept (t' := s1.toks) kp, turn_enumZ a (s1.heap.objs.size + 1) s1.heap.objs.size, ⟨⟨.none, en⟩, it1, Nat.succ_ne_self _⟩, fun b hb => I1.fpOk (above b hb) (I1.hok.fresh (above b hb)), q⟩
end Mach
end

section
set_option Elab.async false
set_option linter.all false
set_option maxRecDepth 100000
/-! Denotations: a def's body as a plain function of data, locals and a list of objects. -/
namespace Mach
open L2 PySem PySem.Spec PyProof.Rows

inductive D where
  | non | bl (b : Bool) | int (i : Int) | str (x : Str) | ty (n : String) | cls (c : Str) | ref (r : Nat) | rol (ds : List D) | tup (ds : List D)

inductive Ob where
  | lst (ds : List D)
  | exc (c : Str) (fs : List (Str × D))
  | ins (c : Str) (fs : List (Str × D))
  | dct (kvs : List (Key × D))

abbrev Lo := List (Option D)
abbrev Hq := List Ob
inductive R (α : Type) where
  | ok (a : α) (h : Hq) | ex (c : Str) (fs : List (Str × D)) (h : Hq) | bad

def R.bind {α β : Type} (x : R α) (f : α → Hq → R β) : R β := match x with
  | .ok a h => f a h
  | .ex c fs h => .ex c fs h
  | .bad => .bad

/-- a list that is never written -/
def FzL (K : PySem.W.Frag) (H : Hp) (a : Addr) (xs : List V) : Prop :=
  (∃ o, H a = some (.frz o (.lst xs))) ∨
    ∃ (b : Obj) (row : Array Value) (n : Nat), K.lookup a = some b ∧ b.cls = .type "list" ∧ b.dict = none ∧ b.data = .seq row n ∧ row.size ≤ sizeLine ∧ Vals xs row.toList
theorem FzL.sq {K : PySem.W.Frag} {H : Hp} {a : Addr} {xs : List V} (h : FzL K H a xs) : SqL K H a xs := by
  rcases h with h | h
  · exact .inl (.inr h)
  · exact .inr h

/-- a tuple without a dict -/
def TpL (K : PySem.W.Frag) (H : Hp) (a : Addr) (xs : List V) : Prop :=
  (∃ b : Obj, b.dict = none ∧ H a = some (.frz b (.tup xs))) ∨
    ∃ (b : Obj) (row : Array Value) (n : Nat), K.lookup a = some b ∧ b.cls = .type "tuple" ∧ b.dict = none ∧ b.data = .seq row n ∧ row.size ≤ sizeLine ∧ Vals xs row.toList
theorem TpL.sq {K : PySem.W.Frag} {H : Hp} {a : Addr} {xs : List V} (h : TpL K H a xs) : SqT K H a xs := by
  rcases h with ⟨o, _, h⟩ | ⟨b, row, n, e1, e2, _, e3, e4, e5⟩
  · exact .inl (.inr ⟨o, h⟩)
  · exact .inr ⟨b, row, n, e1, e2, e3, e4, e5⟩
theorem TpL.new {K : PySem.W.Frag} {H : Hp} {a : Addr} {xs : List V} {b : Obj} (e : b.dict = none) : TpL K (upd H a (.frz b (.tup xs))) a xs := .inl ⟨b, e, upd_same⟩

mutual
inductive Rel (K : PySem.W.Frag) (cm : Str → Option Addr) (al : List Addr) (H : Hp) : D → V → Prop
  | non : Rel K cm al H .non .non
  | bl (b : Bool) : Rel K cm al H (.bl b) (.bl b)
  | int (i : Int) : Rel K cm al H (.int i) (.int i)
  | str (x : Str) : Rel K cm al H (.str x) (.str x)
  | ty (n : String) : Rel K cm al H (.ty n) (.ty n)
  | cls {c : Str} {a : Addr} (h : cm c = some a) : Rel K cm al H (.cls c) (.ref a)
  | ref {r : Nat} {a : Addr} (h : al[r]? = some a) : Rel K cm al H (.ref r) (.ref a)
  | rol {ds : List D} {vs : List V} {a : Addr} (h : FzL K H a vs) (t : Rels K cm al H ds vs) : Rel K cm al H (.rol ds) (.ref a)
  | tup {ds : List D} {vs : List V} {a : Addr} (h : TpL K H a vs) (t : Rels K cm al H ds vs) : Rel K cm al H (.tup ds) (.ref a)
inductive Rels (K : PySem.W.Frag) (cm : Str → Option Addr) (al : List Addr) (H : Hp) : List D → List V → Prop
  | nil : Rels K cm al H [] []
  | cons {d : D} {ds : List D} {v : V} {vs : List V} (h : Rel K cm al H d v) (t : Rels K cm al H ds vs) : Rels K cm al H (d :: ds) (v :: vs)
end

/-- what never changes -/
def still : HO → Bool
  | .tup _ => true | .frz _ _ => true | .xd _ => true | .ext _ => true | .own _ => true
  | _ => false
structure Keep (H H' : Hp) : Prop where
  all : ∀ a o, still o = true → H a = some o → H' a = some o
theorem Keep.tup {H H' : Hp} (k : Keep H H') : ∀ a vs, H a = some (.tup vs) → H' a = some (.tup vs) := fun a vs h => k.all a _ rfl h
theorem Keep.frz {H H' : Hp} (k : Keep H H') : ∀ a o u, H a = some (.frz o u) → H' a = some (.frz o u) := fun a o u h => k.all a _ rfl h
theorem Keep.refl (H : Hp) : Keep H H := ⟨fun _ _ _ h => h⟩
theorem Keep.trans {H H1 H2 : Hp} (a : Keep H H1) (b : Keep H1 H2) : Keep H H2 := ⟨fun x v s h => b.all x v s (a.all x v s h)⟩
theorem Keep.new {H : Hp} {p : Addr} {o : HO} (h : H p = none) : Keep H (upd H p o) := ⟨fun a vs _ e => by
  rw [upd_ne (ne_of_none e h)]; exact e⟩
theorem Keep.over {H : Hp} {p : Addr} {u o : HO} (h : H p = some u) (hu : still u = false) : Keep H (upd H p o) := ⟨fun a vs s e => by
  rw [upd_ne (ne_of e h (fun q => by rw [q, hu] at s; cases s))]; exact e⟩
theorem Keep.lst {H : Hp} {p : Addr} {xs : List V} {o : HO} (h : H p = some (.lst xs)) : Keep H (upd H p o) := Keep.over h rfl
theorem Keep.rd {H H' : Hp} (k : Keep H H') {a : Addr} {vs : List V} (h : Rd H a (.tup vs)) : Rd H' a (.tup vs) := by
  rcases h with h | ⟨o, h⟩
  · exact .inl (k.tup _ _ h)
  · exact .inr ⟨o, k.frz _ _ _ h⟩
theorem Keep.sqT {K : PySem.W.Frag} {H H' : Hp} (k : Keep H H') {a : Addr} {vs : List V} (h : SqT K H a vs) : SqT K H' a vs := by
  rcases h with h | h
  · exact .inl (k.rd h)
  · exact .inr h
theorem Keep.tpL {K : PySem.W.Frag} {H H' : Hp} (k : Keep H H') {a : Addr} {vs : List V} (h : TpL K H a vs) : TpL K H' a vs := by
  rcases h with ⟨o, e, h⟩ | h
  · exact .inl ⟨o, e, k.frz _ _ _ h⟩
  · exact .inr h
theorem Keep.fzL {K : PySem.W.Frag} {H H' : Hp} (k : Keep H H') {a : Addr} {vs : List V} (h : FzL K H a vs) : FzL K H' a vs := by
  rcases h with ⟨o, h⟩ | h
  · exact .inl ⟨o, k.frz _ _ _ h⟩
  · exact .inr h

section
variable {K : PySem.W.Frag} {cm : Str → Option Addr} {al al' : List Addr} {H H' : Hp}

theorem pre_get {α : Type} {l l' : List α} (p : l <+: l') {r : Nat} {a : α} (h : l[r]? = some a) : l'[r]? = some a := by
  obtain ⟨t, rfl⟩ := p
  have hr : r < l.length := (List.getElem?_eq_some_iff.mp h).1
  rw [List.getElem?_append_left hr]
  exact h

theorem Rels.mono (p : al <+: al') (k : Keep H H') {ds : List D} {vs : List V} (h : Rels K cm al H ds vs) : Rels K cm al' H' ds vs :=
  Rels.rec (motive_1 := fun d v _ => Rel K cm al' H' d v) (motive_2 := fun ds vs _ => Rels K cm al' H' ds vs)
    .non .bl .int .str .ty (fun h => .cls h) (fun h => .ref (pre_get p h)) (fun h _ ih => .rol (k.fzL h) ih) (fun h _ ih => .tup (k.tpL h) ih) .nil (fun _ _ a b => .cons a b) h
theorem Rel.mono (p : al <+: al') (k : Keep H H') {d : D} {v : V} (h : Rel K cm al H d v) : Rel K cm al' H' d v :=
  Rel.rec (motive_1 := fun d v _ => Rel K cm al' H' d v) (motive_2 := fun ds vs _ => Rels K cm al' H' ds vs)
    .non .bl .int .str .ty (fun h => .cls h) (fun h => .ref (pre_get p h)) (fun h _ ih => .rol (k.fzL h) ih) (fun h _ ih => .tup (k.tpL h) ih) .nil (fun _ _ a b => .cons a b) h

theorem Rels.length {ds : List D} {vs : List V} : Rels K cm al H ds vs → ds.length = vs.length := by
  induction ds generalizing vs with
  | nil => intro h; cases h; rfl
  | cons d ds ih => intro h; cases h with | cons a b => simp [ih b]
theorem Rels.get {ds : List D} {vs : List V} {i : Nat} {d : D} : Rels K cm al H ds vs → ds[i]? = some d → ∃ v, vs[i]? = some v ∧ Rel K cm al H d v := by
  induction ds generalizing vs i with
  | nil => intro _ e; simp at e
  | cons x ds ih =>
    intro h e
    cases h with
    | cons a b =>
      cases i with
      | zero => simp at e; subst e; exact ⟨_, rfl, a⟩
      | succ i => simp at e; obtain ⟨v, h1, h2⟩ := ih b e; exact ⟨v, by simpa using h1, h2⟩
theorem Rels.append {ds es : List D} {vs ws : List V} (a : Rels K cm al H ds vs) (b : Rels K cm al H es ws) : Rels K cm al H (ds ++ es) (vs ++ ws) := by
  induction ds generalizing vs with
  | nil => cases a; exact b
  | cons d ds ih => cases a with | cons x y => exact .cons x (ih y)
theorem Rels.set {ds : List D} {vs : List V} {d : D} {v : V} (i : Nat) (a : Rels K cm al H ds vs) (b : Rel K cm al H d v) : Rels K cm al H (ds.set i d) (vs.set i v) := by
  induction ds generalizing vs i with
  | nil => cases a; exact .nil
  | cons x ds ih =>
    cases a with
    | cons p q =>
      cases i with
      | zero => exact .cons b q
      | succ i => exact .cons p (ih i q)
theorem Rels.take {ds : List D} {vs : List V} (n : Nat) (a : Rels K cm al H ds vs) : Rels K cm al H (ds.take n) (vs.take n) := by
  induction n generalizing ds vs with
  | zero => exact .nil
  | succ n ih => cases a with
    | nil => exact .nil
    | cons p q => exact .cons p (ih q)
theorem Rels.drop {ds : List D} {vs : List V} (n : Nat) (a : Rels K cm al H ds vs) : Rels K cm al H (ds.drop n) (vs.drop n) := by
  induction n generalizing ds vs with
  | zero => exact a
  | succ n ih => cases a with
    | nil => exact .nil
    | cons p q => exact ih q
theorem Rels.erase {ds : List D} {vs : List V} (n : Nat) (a : Rels K cm al H ds vs) : Rels K cm al H (ds.eraseIdx n) (vs.eraseIdx n) := by
  induction n generalizing ds vs with
  | zero => cases a with
    | nil => exact .nil
    | cons p q => exact q
  | succ n ih => cases a with
    | nil => exact .nil
    | cons p q => exact .cons p (ih q)
theorem Rels.rev {ds : List D} {vs : List V} (a : Rels K cm al H ds vs) : Rels K cm al H ds.reverse vs.reverse := by
  induction ds generalizing vs with
  | nil => cases a; exact .nil
  | cons d ds ih => cases a with
    | cons p q => rw [List.reverse_cons, List.reverse_cons]; exact (ih q).append (.cons p .nil)
theorem Rels.rep {ds : List D} {vs : List V} (a : Rels K cm al H ds vs) : ∀ n : Nat, Rels K cm al H (List.replicate n ds).flatten (List.replicate n vs).flatten
  | 0 => .nil
  | n + 1 => by
    rw [List.replicate_succ, List.replicate_succ]; rw [List.flatten_cons, List.flatten_cons]
    exact a.append (Rels.rep a n)
end

/-- an exception object of the class at C, its dict d -/
def XO (C : Addr) (d : Option Addr) (a : Addr) : HO := .ext fun h => ∃ (oe : Obj) (vs : Array Value), h.get? a = some oe ∧ Zc (.ref C) d oe ∧ oe.data = .fields vs
/-- fields of an exception, as its dict has them -/
def FsR (K : PySem.W.Frag) (cm : Str → Option Addr) (al : List Addr) (H : Hp) (fs : List (Str × D)) : Option Addr → Prop
  | none => fs = []
  | some d => fs ≠ [] ∧ ∃ vs, H d = some (.xd vs) ∧ vs.map (·.1) = fs.map (·.1) ∧ Rels K cm al H (fs.map (·.2)) (vs.map (·.2))
/-- how an object lies -/
def ObR (K : PySem.W.Frag) (cm : Str → Option Addr) (al : List Addr) (H : Hp) (a : Addr) : Ob → Prop
  | .lst ds => ∃ vs, H a = some (.lst vs) ∧ Rels K cm al H ds vs
  | .exc c fs => ∃ C d, cm c = some C ∧ H a = some (XO C d a) ∧ FsR K cm al H fs d
  | .ins c fs => ∃ C dx vs, cm c = some C ∧ H a = some (.ins C dx vs) ∧ H dx = some (.own a) ∧ vs.map (·.1) = fs.map (·.1) ∧ Rels K cm al H (fs.map (·.2)) (vs.map (·.2))
  | .dct kvs => ∃ vs, H a = some (.dK vs) ∧ vs.map (·.1) = kvs.map (·.1) ∧ Rels K cm al H (kvs.map (·.2)) (vs.map (·.2))
theorem FsR.mono {K : PySem.W.Frag} {cm : Str → Option Addr} {al al' : List Addr} {H H' : Hp} {fs : List (Str × D)} {d : Option Addr} (p : al <+: al') (k : Keep H H') (h : FsR K cm al H fs d) : FsR K cm al' H' fs d := by
  cases d with
  | none => exact h
  | some d => obtain ⟨ne, vs, e, n, t⟩ := h; exact ⟨ne, vs, k.all _ _ rfl e, n, t.mono p k⟩
/-- all but the lists and instances of ours: what was known of it stands -/
theorem ObR.mono {K : PySem.W.Frag} {cm : Str → Option Addr} {al al' : List Addr} {H H' : Hp} {a : Addr} {o : Ob} (p : al <+: al') (k : Keep H H') (e : H' a = H a) (h : ObR K cm al H a o) : ObR K cm al' H' a o := by
  cases o with
  | lst ds =>
    obtain ⟨vs, q, t⟩ := h
    exact ⟨vs, by rw [e]; exact q, t.mono p k⟩
  | exc c fs =>
    obtain ⟨C, d, hc, q, t⟩ := h
    exact ⟨C, d, hc, by rw [e]; exact q, t.mono p k⟩
  | ins c fs =>
    obtain ⟨C, dx, vs, hc, q, ho, n, t⟩ := h
    exact ⟨C, dx, vs, hc, by rw [e]; exact q, k.all _ _ rfl ho, n, t.mono p k⟩
  | dct kvs =>
    obtain ⟨vs, q, n, t⟩ := h
    exact ⟨vs, by rw [e]; exact q, n, t.mono p k⟩
theorem ObR.has {K : PySem.W.Frag} {cm : Str → Option Addr} {al : List Addr} {H : Hp} {a : Addr} {o : Ob} (h : ObR K cm al H a o) : ∃ u, H a = some u := by
  cases o with
  | lst ds => obtain ⟨vs, q, _⟩ := h; exact ⟨_, q⟩
  | exc c fs => obtain ⟨C, d, _, q, _⟩ := h; exact ⟨_, q⟩
  | ins c fs => obtain ⟨C, dx, vs, _, q, _⟩ := h; exact ⟨_, q⟩
  | dct kvs => obtain ⟨vs, q, _⟩ := h; exact ⟨_, q⟩

structure Sim (K : PySem.W.Frag) (cm : Str → Option Addr) (al : List Addr) (h : Hq) (H : Hp) : Prop where
  len : al.length = h.length
  nd : al.Nodup
  obs : ∀ (r : Nat) (a : Addr) (o : Ob), al[r]? = some a → h[r]? = some o → ObR K cm al H a o

section
variable {K : PySem.W.Frag} {cm : Str → Option Addr} {al al' : List Addr} {h h' : Hq} {H H' : Hp}

theorem Sim.at (S : Sim K cm al h H) {r : Nat} {o : Ob} (e : h[r]? = some o) : ∃ a, al[r]? = some a ∧ ObR K cm al H a o := by
  have hr : r < h.length := (List.getElem?_eq_some_iff.mp e).1
  have hr' : r < al.length := by rw [S.len]; exact hr
  exact ⟨al[r], List.getElem?_eq_getElem hr', S.obs r _ o (List.getElem?_eq_getElem hr') e⟩
theorem Sim.lstOf (S : Sim K cm al h H) {r : Nat} {ds : List D} {a : Addr} (e : h[r]? = some (.lst ds)) (ea : al[r]? = some a) : ∃ vs, H a = some (.lst vs) ∧ Rels K cm al H ds vs :=
  S.obs r a _ ea e
/-- nothing that is tracked by us is changed -/
theorem Sim.keep (S : Sim K cm al h H) (k : Keep H H') (hs : ∀ a ∈ al, H' a = H a) : Sim K cm al h H' :=
  ⟨S.len, S.nd, fun r a o ea eo => (S.obs r a o ea eo).mono (List.prefix_refl al) k (hs a (List.mem_of_getElem? ea))⟩
theorem Sim.has (S : Sim K cm al h H) {a : Addr} (ha : a ∈ al) : ∃ o, H a = some o := by
  obtain ⟨r, hr, e⟩ := List.mem_iff_getElem.mp ha
  have hr' : r < h.length := by rw [← S.len]; exact hr
  exact (S.obs r a h[r] (by rw [← e]; exact List.getElem?_eq_getElem hr) (List.getElem?_eq_getElem hr')).has
/-- a new thing that we don't track (a tuple) -/
theorem Sim.other (S : Sim K cm al h H) {p : Addr} {o : HO} (hp : H p = none) : Sim K cm al h (upd H p o) :=
  S.keep (Keep.new hp) fun a ha => by
    obtain ⟨u, e⟩ := S.has ha
    rw [upd_ne (ne_of_none e hp)]
theorem Sim.newO (S : Sim K cm al h H) {p : Addr} (hp : H p = none) {o : Ob} {u : HO} (t : ObR K cm (al ++ [p]) (upd H p u) p o) : Sim K cm (al ++ [p]) (h ++ [o]) (upd H p u) := by
  have S' : Sim K cm al h (upd H p u) := S.other hp
  have pf : al <+: al ++ [p] := List.prefix_append al [p]
  refine ⟨by simp [S.len], ?_, fun r a o ea eo => ?_⟩
  · rw [List.nodup_append]
    refine ⟨S.nd, by simp, fun a ha b hb => ?_⟩
    simp at hb
    subst hb
    obtain ⟨u, e⟩ := S.has ha
    exact ne_of_none e hp
  · by_cases hr : r < al.length
    · rw [List.getElem?_append_left hr] at ea
      rw [List.getElem?_append_left (by rw [← S.len]; exact hr)] at eo
      exact (S'.obs r a o ea eo).mono pf (Keep.refl _) rfl
    · have hr' : r = al.length := by
        have := (List.getElem?_eq_some_iff.mp ea).1
        simp at this
        omega
      subst hr'
      rw [List.getElem?_append_right (Nat.le_refl _)] at ea
      rw [S.len, List.getElem?_append_right (Nat.le_refl _)] at eo
      simp at ea eo
      subst ea eo
      exact t
theorem Sim.new (S : Sim K cm al h H) {p : Addr} (hp : H p = none) {ds : List D} {vs : List V} (t : Rels K cm al H ds vs) : Sim K cm (al ++ [p]) (h ++ [.lst ds]) (upd H p (.lst vs)) :=
  S.newO hp ⟨vs, upd_same, t.mono (List.prefix_append al [p]) (Keep.new hp)⟩
theorem Sim.ext_get (S : Sim K cm al h H) (p : Addr) : (al ++ [p])[h.length]? = some p := by
  rw [← S.len, List.getElem?_append_right (Nat.le_refl _)]
  simp
/-- a list is written -/
theorem Sim.write (S : Sim K cm al h H) {r : Nat} {a : Addr} {ds es : List D} {vs ws : List V} (ea : al[r]? = some a) (eo : h[r]? = some (.lst ds)) (ev : H a = some (.lst vs)) (t : Rels K cm al H es ws) :
    Sim K cm al (h.set r (.lst es)) (upd H a (.lst ws)) := by
  have kk : Keep H (upd H a (.lst ws)) := Keep.lst ev
  refine ⟨by simp [S.len], S.nd, fun q b o eb e => ?_⟩
  by_cases hq : q = r
  · subst hq
    have hl : q < h.length := (List.getElem?_eq_some_iff.mp eo).1
    rw [List.getElem?_set_self hl] at e
    rw [ea] at eb
    cases eb
    cases e
    exact ⟨ws, upd_same, t.mono (List.prefix_refl al) kk⟩
  · rw [List.getElem?_set_ne (fun z => hq z.symm)] at e
    have hb : b ≠ a := fun same => by
      have z := same
      subst z
      exact hq ((List.getElem?_inj (List.getElem?_eq_some_iff.mp eb).1 S.nd).mp (eb.trans ea.symm))
    exact (S.obs q b o eb e).mono (List.prefix_refl al) kk (upd_ne hb)
end
end Mach
end

section
set_option Elab.async false
set_option linter.all false
set_option maxRecDepth 100000
namespace Mach
open PySem PySem.Spec L2

/-! ### states and outcomes -/
def LoR (K : PySem.W.Frag) (cm : Str → Option Addr) (al : List Addr) (H : Hp) (lo : Lo) (σ : St) : Prop :=
  lo.length = σ.length ∧ ∀ (i : Nat) (d : D), lo[i]? = some (some d) → ∃ v, σ[i]? = some (some v) ∧ Rel K cm al H d v
theorem LoR.mono {K : PySem.W.Frag} {cm : Str → Option Addr} {al al' : List Addr} {H H' : Hp} {lo : Lo} {σ : St} (p : al <+: al') (k : Keep H H') (h : LoR K cm al H lo σ) : LoR K cm al' H' lo σ :=
  ⟨h.1, fun i d e => let ⟨v, q, r⟩ := h.2 i d e; ⟨v, q, r.mono p k⟩⟩
theorem LoR.set {K : PySem.W.Frag} {cm : Str → Option Addr} {al : List Addr} {H : Hp} {lo : Lo} {σ : St} {d : D} {v : V} (h : LoR K cm al H lo σ) (r : Rel K cm al H d v) (i : Nat) : LoR K cm al H (lo.set i (some d)) (σ.set i (some v)) := by
  refine ⟨by simp [h.1], fun j x e => ?_⟩
  by_cases hj : i = j
  · subst hj
    by_cases hl : i < lo.length
    · rw [List.getElem?_set_self hl] at e
      cases e
      exact ⟨v, by rw [List.getElem?_set_self (by rw [← h.1]; exact hl)], r⟩
    · rw [List.getElem?_eq_none (by simpa using hl)] at e
      cases e
  · rw [List.getElem?_set_ne hj] at e
    rw [List.getElem?_set_ne hj]
    exact h.2 j x e
theorem LoR.drop {K : PySem.W.Frag} {cm : Str → Option Addr} {al : List Addr} {H : Hp} {lo : Lo} {σ : St} (h : LoR K cm al H lo σ) (i : Nat) (v : Option V) : LoR K cm al H (lo.set i none) (σ.set i v) := by
  refine ⟨by simp [h.1], fun j x e => ?_⟩
  by_cases hj : i = j
  · subst hj
    by_cases hl : i < lo.length
    · rw [List.getElem?_set_self hl] at e
      cases e
    · rw [List.getElem?_eq_none (by simpa using hl)] at e
      cases e
  · rw [List.getElem?_set_ne hj] at e
    rw [List.getElem?_set_ne hj]
    exact h.2 j x e

structure Ext (al : List Addr) (H : Hp) (al' : List Addr) (H' : Hp) : Prop where
  pre : al <+: al'
  keep : Keep H H'
theorem Ext.refl (al : List Addr) (H : Hp) : Ext al H al H := ⟨List.prefix_refl al, Keep.refl H⟩
theorem Ext.trans {a b c : List Addr} {H1 H2 H3 : Hp} (x : Ext a H1 b H2) (y : Ext b H2 c H3) : Ext a H1 c H3 := ⟨x.pre.trans y.pre, x.keep.trans y.keep⟩

/-- an exception's class and dict -/
def ExR (K : PySem.W.Frag) (cm : Str → Option Addr) (al : List Addr) (H : Hp) (c : Str) (fs : List (Str × D)) (cls : Value) (d : Option Addr) : Prop :=
  ∃ C, cm c = some C ∧ cls = .ref C ∧ FsR K cm al H fs d

section
variable (K : PySem.W.Frag) (cm : Str → Option Addr)
/-- what is asked behind an outcome: T of the answer's data and its shadow; W of an exception -/
def Post {α β : Type} (rel : List Addr → Hp → α → β → Prop) (al : List Addr) (H : Hp) (Q : β → Hp → Prop) (E : XK) : R α → Prop
  | .ok a h' => ∀ al' H' b, Ext al H al' H' → Sim K cm al' h' H' → rel al' H' a b → Q b H'
  | .ex c fs h' => ∀ al' H' cls d, Ext al H al' H' → Sim K cm al' h' H' → ExR K cm al' H' c fs cls d → E cls d H'
  | .bad => False
end
theorem Post.bind {K : PySem.W.Frag} {cm : Str → Option Addr} {α β γ δ : Type} {rel : List Addr → Hp → α → β → Prop} {rel' : List Addr → Hp → γ → δ → Prop} {al : List Addr} {H : Hp} {Q : δ → Hp → Prop} {E : XK} {x : R α} {f : α → Hq → R γ}
    (h : Post K cm rel' al H Q E (x.bind f)) :
    Post K cm rel al H (fun b H' => ∃ al' h' a, Ext al H al' H' ∧ Sim K cm al' h' H' ∧ rel al' H' a b ∧ Post K cm rel' al' H' Q E (f a h')) E x := by
  cases x with
  | ok a h' =>
    intro al' H' b e s r
    refine ⟨al', h', a, e, s, r, ?_⟩
    have h : Post K cm rel' al H Q E (f a h') := h
    cases hf : f a h' with
    | ok c h2 => rw [hf] at h; exact fun al2 H2 b2 e2 => h al2 H2 b2 (e.trans e2)
    | ex c fs h2 => rw [hf] at h; exact fun al2 H2 b2 d2 e2 => h al2 H2 b2 d2 (e.trans e2)
    | bad => rw [hf] at h; exact h
  | ex c fs h' => exact h
  | bad => exact h
theorem Post.imp {K : PySem.W.Frag} {cm : Str → Option Addr} {α β : Type} {rel : List Addr → Hp → α → β → Prop} {al : List Addr} {H : Hp} {Q Q' : β → Hp → Prop} {E E' : XK} {x : R α}
    (h : Post K cm rel al H Q E x) (hq : ∀ b H', Q b H' → Q' b H') (he : ∀ c d H', E c d H' → E' c d H') : Post K cm rel al H Q' E' x := by
  cases x with
  | ok a h' => exact fun al' H' b e s r => hq _ _ (h al' H' b e s r)
  | ex c fs h' => exact fun al' H' cls d e s r => he _ _ _ (h al' H' cls d e s r)
  | bad => exact h
/-- moved on to a later state -/
theorem Post.later {K : PySem.W.Frag} {cm : Str → Option Addr} {α β : Type} {rel : List Addr → Hp → α → β → Prop} {al al1 : List Addr} {H H1 : Hp} {Q : β → Hp → Prop} {E : XK} {x : R α}
    (e1 : Ext al H al1 H1) (h : Post K cm rel al H Q E x) : Post K cm rel al1 H1 Q E x := by
  cases x with
  | ok a h' => exact fun al' H' b e s r => h al' H' b (e1.trans e) s r
  | ex c fs h' => exact fun al' H' cls d e s r => h al' H' cls d (e1.trans e) s r
  | bad => exact h

/-- nothing is raised -/
def R.calm {α : Type} : R α → R α
  | .ok a h => .ok a h
  | _ => .bad
theorem Post.calm {K : PySem.W.Frag} {cm : Str → Option Addr} {α β : Type} {rel : List Addr → Hp → α → β → Prop} {al : List Addr} {H : Hp} {Q : β → Hp → Prop} {E E' : XK} {x : R α} (h : Post K cm rel al H Q E x.calm) : Post K cm rel al H Q E' x := by
  cases x with
  | ok a h' => exact h
  | ex c fs h' => exact h.elim
  | bad => exact h.elim

/-! ### expressions -/
abbrev GE := Lo → Hq → R D
abbrev GA := Lo → Hq → R (List D)
abbrev GT := Lo → Hq → R Bool
section
variable (K : PySem.W.Frag) (cm : Str → Option Addr)
abbrev relD : List Addr → Hp → D → V → Prop := fun al H d v => Rel K cm al H d v
abbrev relA : List Addr → Hp → List D → List V → Prop := fun al H d v => Rels K cm al H d v
abbrev relB : List Addr → Hp → Bool → Bool → Prop := fun _ _ a b => a = b
def tE (W : WX) (g : GE) : TE := fun σ H Q => ∃ al lo h, LoR K cm al H lo σ ∧ Sim K cm al h H ∧ Post K cm (relD K cm) al H Q (fun c d H' => W c d σ H') (g lo h)
def tAr (W : WX) (g : GA) : TA := fun σ H Q => ∃ al lo h, LoR K cm al H lo σ ∧ Sim K cm al h H ∧ Post K cm (relA K cm) al H Q (fun c d H' => W c d σ H') (g lo h)
def tTe (W : WX) (g : GT) : TT := fun σ H Q => ∃ al lo h, LoR K cm al H lo σ ∧ Sim K cm al h H ∧ Post K cm relB al H Q (fun c d H' => W c d σ H') (g lo h)
end

theorem _root_.L2.PE.imp {X : Cx} {e : Expr} {t t' : TE} (p : PE X e t) (h : ∀ σ H Q, t' σ H Q → t σ H Q) : PE X e t' := ⟨fun pins s σ H Q I hw => p.run pins s σ H Q I (h σ H Q hw)⟩
theorem _root_.L2.PT.imp {X : Cx} {e : Expr} {t t' : TT} (p : PT X e t) (h : ∀ σ H Q, t' σ H Q → t σ H Q) : PT X e t' := ⟨fun pins s σ H Q I hw => p.run pins s σ H Q I (h σ H Q hw)⟩
theorem _root_.L2.PW.imp {X : Cx} {e : Expr} {t t' : TT} (p : PW X e t) (h : ∀ σ H Q, t' σ H Q → t σ H Q) : PW X e t' := ⟨fun wh pins s σ H Q I hw => p.run wh pins s σ H Q I (h σ H Q hw)⟩
theorem _root_.L2.PA.imp {X : Cx} {e : List Expr} {t t' : TA} (p : PA X e t) (h : ∀ σ H Q, t' σ H Q → t σ H Q) : PA X e t' := ⟨fun pos pins s σ H Q I hw => p.run pos pins s σ H Q I (h σ H Q hw)⟩
theorem _root_.L2.PS.imp {X : Cx} {e : Stmt} {t t' : TS} (p : PS X e t) (h : ∀ D σ H, t' D σ H → t D σ H) : PS X e t' := ⟨fun pins s σ H D I hw => p.run pins s σ H D I (h D σ H hw)⟩
theorem _root_.L2.PSs.imp {X : Cx} {e : List Stmt} {t t' : TS} (p : PSs X e t) (h : ∀ D σ H, t' D σ H → t D σ H) : PSs X e t' := ⟨fun pins s σ H D I hw => p.run pins s σ H D I (h D σ H hw)⟩

/-- the context: its written part, the classes, what is wished of an exception -/
structure Ctx (X : Cx) (K : PySem.W.Frag) (cm : Str → Option Addr) (W : WX) : Prop where
  hk : X.K = K
  tk : Takes X W

/-- e is g -/
def ME (X : Cx) (cm : Str → Option Addr) (W : WX) (e : Expr) (g : GE) : Prop := PE X e (tE X.K cm W g)
def MA (X : Cx) (cm : Str → Option Addr) (W : WX) (e : List Expr) (g : GA) : Prop := PA X e (tAr X.K cm W g)
def MT (X : Cx) (cm : Str → Option Addr) (W : WX) (e : Expr) (g : GT) : Prop := PT X e (tTe X.K cm W g)
def MW (X : Cx) (cm : Str → Option Addr) (W : WX) (e : Expr) (g : GT) : Prop := PW X e (tTe X.K cm W g)

def gV (i : Nat) : GE := fun lo h => match lo[i]? with
  | some (some d) => .ok d h
  | _ => .bad
def gK (d : D) : GE := fun _ h => .ok d h
def gNil : GA := fun _ h => .ok [] h
def gCons (a : GE) (b : GA) : GA := fun lo h => (a lo h).bind fun d h1 => (b lo h1).bind fun ds h2 => .ok (d :: ds) h2
def gOp (f : D → D → Hq → R D) (a b : GE) : GE := fun lo h => (a lo h).bind fun x h1 => (b lo h1).bind fun y h2 => (f x y h2).calm
def gUn (f : D → Hq → R D) (a : GE) : GE := fun lo h => (a lo h).bind fun x h1 => (f x h1).calm
def gBi (f : List D → Hq → R D) (a : GA) : GE := fun lo h => (a lo h).bind fun ds h1 => (f ds h1).calm
def gCall (f : List D → Hq → R D) (a : GA) : GE := fun lo h => (a lo h).bind fun ds h1 => f ds h1
def gTup (a : GA) : GE := fun lo h => (a lo h).bind fun ds h1 => if ds.length ≤ 4096 then .ok (.tup ds) h1 else .bad
def gLst (a : GA) : GE := fun lo h => (a lo h).bind fun ds h1 => if ds.length ≤ 4096 then .ok (.ref h1.length) (h1 ++ [.lst ds]) else .bad
/-- a test by its truth value True or False -/
def gTst (a : GE) : GT := fun lo h => (a lo h).bind fun x h1 => match x with
  | .bl b => .ok b h1
  | _ => .bad
def gAnd (a b : GT) : GT := fun lo h => (a lo h).bind fun x h1 => if x = true then b lo h1 else .ok false h1
def gOr (a b : GT) : GT := fun lo h => (a lo h).bind fun x h1 => if x = true then .ok true h1 else b lo h1
def gNot (a : GT) : GT := fun lo h => (a lo h).bind fun x h1 => .ok (!x) h1
def gIf (c : GT) (a b : GE) : GE := fun lo h => (c lo h).bind fun x h1 => if x = true then a lo h1 else b lo h1
def gAndV (a b : GE) : GE := fun lo h => (a lo h).bind fun x h1 => match x with
  | .bl true => b lo h1
  | .bl false => .ok (.bl false) h1
  | _ => .bad
def gOrV (a b : GE) : GE := fun lo h => (a lo h).bind fun x h1 => match x with
  | .bl true => .ok (.bl true) h1
  | .bl false => b lo h1
  | _ => .bad
def gNotV (a : GE) : GE := fun lo h => (a lo h).bind fun x h1 => match x with
  | .bl b => .ok (.bl (!b)) h1
  | _ => .bad

section
variable {X : Cx} {cm : Str → Option Addr} {W : WX} {a b c e : Expr} {es : List Expr} {ga gb gc : GE} {gs : GA} {pos : Pos}

theorem me_v {i : Nat} {x : Str} (hN : X.N[i]? = some x) (hv : Vis X.env.scope x) (hd : (x == ("__debug__" : Str)) = false := by decide) (hcd : (x == ("__classdict__" : Str)) = false := by decide) : ME X cm W (.Name x pos) (gV i) := by
  refine (pe_var hN hv hd hcd).imp fun σ H Q h => ?_
  obtain ⟨al, lo, h, L, S, q⟩ := h
  unfold gV at q
  split at q
  · rename_i d e
    obtain ⟨v, ev, r⟩ := L.2 i d e
    exact ⟨v, ev, q al H v (Ext.refl _ _) S r⟩
  · exact q.elim
theorem mk_imp {v : V} {d : D} (r : ∀ al H, Rel X.K cm al H d v) (p : PE X e (tC v)) : ME X cm W e (gK d) := by
  refine p.imp fun σ H Q h => ?_
  obtain ⟨al, lo, h, L, S, q⟩ := h
  exact q al H v (Ext.refl _ _) S (r al H)
theorem me_int {i j} : ME X cm W (.Constant (.int i) j pos) (gK (.int i)) := mk_imp (fun _ _ => .int i) pe_int
theorem me_bl {b j} : ME X cm W (.Constant (.bool b) j pos) (gK (.bl b)) := mk_imp (fun _ _ => .bl b) pe_bl
theorem me_non {j} : ME X cm W (.Constant .none j pos) (gK .non) := mk_imp (fun _ _ => .non) pe_non
theorem me_str {x j} : ME X cm W (.Constant (.str x) j pos) (gK (.str x)) := mk_imp (fun _ _ => .str x) pe_str

/-- composition: the parts' outcomes, then the rule's -/
theorem tE_bind {α β : Type} {rel : List Addr → Hp → α → β → Prop} {γ δ : Type} {rel' : List Addr → Hp → γ → δ → Prop} {K : PySem.W.Frag} {al : List Addr} {H : Hp} {Q : δ → Hp → Prop} {E : XK} {x : R α} {f : α → Hq → R γ} {T : β → Hp → Prop}
    (h : Post K cm rel' al H Q E (x.bind f)) (k : ∀ al' h' a b H', Ext al H al' H' → Sim K cm al' h' H' → rel al' H' a b → Post K cm rel' al' H' Q E (f a h') → T b H') : Post K cm rel al H T E x :=
  h.bind.imp (fun b H' ⟨al', h', a, e, s, r, q⟩ => k al' h' a b H' e s r q) fun _ _ _ z => z

theorem ma_nil : MA X cm W [] gNil := by
  refine pa_nil.imp fun σ H Q h => ?_
  obtain ⟨al, lo, h, L, S, q⟩ := h
  exact q al H [] (Ext.refl _ _) S .nil
theorem ma_cons (ha : ME X cm W e ga) (hr : MA X cm W es gs) (hs : starEach (e :: es) X.env = (false, eval e X.env) :: starEach es X.env := by rfl) : MA X cm W (e :: es) (gCons ga gs) := by
  refine (pa_cons ha hr hs).imp fun σ H Q h => ?_
  obtain ⟨al, lo, h, L, S, q⟩ := h
  refine ⟨al, lo, h, L, S, tE_bind (rel := relD X.K cm) q fun al1 h1 d v H1 e1 S1 r1 q1 => ?_⟩
  refine ⟨al1, lo, h1, L.mono e1.pre e1.keep, S1, tE_bind (rel := relA X.K cm) q1 fun al2 h2 ds vs H2 e2 S2 r2 q2 => ?_⟩
  exact q2 al2 H2 (v :: vs) (Ext.refl _ _) S2 (.cons (r1.mono e2.pre e2.keep) r2)

/-- a two-place operation on data is what the rule r asks -/
def R2ok (X : Cx) (cm : Str → Option Addr) (r : R2) (f : D → D → Hq → R D) : Prop :=
  ∀ al h H x y dx dy (Q : VK), Sim X.K cm al h H → Rel X.K cm al H dx x → Rel X.K cm al H dy y → Post X.K cm (relD X.K cm) al H Q (fun _ _ _ => False) (f dx dy h) → r x y H Q
def R1ok (X : Cx) (cm : Str → Option Addr) (r : V → Hp → VK → Prop) (f : D → Hq → R D) : Prop :=
  ∀ al h H x dx (Q : VK), Sim X.K cm al h H → Rel X.K cm al H dx x → Post X.K cm (relD X.K cm) al H Q (fun _ _ _ => False) (f dx h) → r x H Q
def RCok (X : Cx) (cm : Str → Option Addr) (r : List V → Hp → VK → Prop) (f : List D → Hq → R D) : Prop :=
  ∀ al h H xs ds (Q : VK), Sim X.K cm al h H → Rels X.K cm al H ds xs → Post X.K cm (relD X.K cm) al H Q (fun _ _ _ => False) (f ds h) → r xs H Q
theorem op_imp {r : R2} {f : D → D → Hq → R D} (hr : R2ok X cm r f) {ta tb : TE} {σ : St} {H : Hp} {Q : VK} (ha : ta = tE X.K cm W ga) (hb : tb = tE X.K cm W gb) (h : tE X.K cm W (gOp f ga gb) σ H Q) : tOp r ta tb σ H Q := by
  subst ha hb
  obtain ⟨al, lo, h, L, S, q⟩ := h
  refine ⟨al, lo, h, L, S, tE_bind (rel := relD X.K cm) q fun al1 h1 d v H1 e1 S1 r1 q1 => ?_⟩
  refine ⟨al1, lo, h1, L.mono e1.pre e1.keep, S1, tE_bind (rel := relD X.K cm) q1 fun al2 h2 d2 v2 H2 e2 S2 r2 q2 => ?_⟩
  exact hr al2 h2 H2 v v2 d d2 Q S2 (r1.mono e2.pre e2.keep) r2 q2.calm
theorem me_op {op : Operator} {r : R2} {f : D → D → Hq → R D} (ho : OpR X (binaryOp op) r) (hr : R2ok X cm r f) (ha : ME X cm W a ga) (hb : ME X cm W b gb) : ME X cm W (.BinOp a op b pos) (gOp f ga gb) :=
  (pe_op ho ha hb).imp fun _ _ _ h => op_imp hr rfl rfl h
theorem me_cmp {op : CmpOp} {r : R2} {f : D → D → Hq → R D} (ho : OpR X (compareOp op) r) (hr : R2ok X cm r f) (ha : ME X cm W a ga) (hb : ME X cm W b gb) (hm : behindInMarks op b = false) : ME X cm W (.Compare a [op] [b] pos) (gOp f ga gb) :=
  (pe_cmpR ho ha hb hm).imp fun _ _ _ h => op_imp hr rfl rfl h
theorem tst_imp {t : TE} {σ : St} {H : Hp} {Q : Bool → Hp → Prop} (ht : t = tE X.K cm W ga) (h : tTe X.K cm W (gTst ga) σ H Q) : tTest t σ H Q := by
  subst ht
  obtain ⟨al, lo, h, L, S, q⟩ := h
  refine ⟨al, lo, h, L, S, tE_bind (rel := relD X.K cm) q fun al1 h1 d v H1 e1 S1 r1 q1 => ?_⟩
  cases r1 with
  | bl b => exact ⟨b, rfl, q1 al1 H1 b (Ext.refl _ _) S1 rfl⟩
  | _ => exact q1.elim
theorem mt_cmp {op : CmpOp} {r : R2} {f : D → D → Hq → R D} (ho : OpR X (compareOp op) r) (hr : R2ok X cm r f) (ha : ME X cm W a ga) (hb : ME X cm W b gb) (hm : behindInMarks op b = false) : MT X cm W (.Compare a [op] [b] pos) (gTst (gOp f ga gb)) := by
  refine (pt_cmpR ho ha hb hm).imp fun σ H Q h => ?_
  obtain ⟨al, lo, h, L, S, q⟩ := h
  refine op_imp (W := W) (ga := ga) (gb := gb) hr rfl rfl ⟨al, lo, h, L, S, ?_⟩
  refine tE_bind (rel := relD X.K cm) q fun al1 h1 d v H1 e1 S1 r1 q1 => ?_
  cases r1 with
  | bl b => exact ⟨b, rfl, q1 al1 H1 b (Ext.refl _ _) S1 rfl⟩
  | _ => exact q1.elim
theorem mt_val (ha : ME X cm W a ga) (he : ∀ whole, isTrue a X.env whole = (do let v ← whole; standAt a.pos; holding [v] (truthy v)) := by intro _; rfl) : MT X cm W a (gTst ga) :=
  (pt_val ha he).imp fun σ H Q h => tst_imp rfl h
theorem me_un {op : UnaryOp} {r : V → Hp → VK → Prop} {f : D → Hq → R D} (ho : UnR X (unaryOp op) r) (hr : R1ok X cm r f) (ha : ME X cm W a ga) : ME X cm W (.UnaryOp op a pos) (gUn f ga) := by
  refine (pe_un ho ha).imp fun σ H Q h => ?_
  obtain ⟨al, lo, h, L, S, q⟩ := h
  refine ⟨al, lo, h, L, S, tE_bind (rel := relD X.K cm) q fun al1 h1 d v H1 e1 S1 r1 q1 => ?_⟩
  exact hr al1 h1 H1 v d Q S1 r1 q1.calm
theorem me_tup {x1} (h : MA X cm W es gs) : ME X cm W (.Tuple es x1 pos) (gTup gs) := by
  refine (pe_tupZ h).imp fun σ H Q h => ?_
  obtain ⟨al, lo, h, L, S, q⟩ := h
  refine ⟨al, lo, h, L, S, tE_bind (rel := relA X.K cm) q fun al1 h1 ds vs H1 e1 S1 r1 q1 => ?_⟩
  split at q1
  · rename_i hl
    refine ⟨by rw [← r1.length]; exact Nat.le_trans hl (by decide), fun p b hp eb => ?_⟩
    refine q1 al1 _ _ ⟨List.prefix_refl _, Keep.new hp⟩ (S1.other hp) (.tup (TpL.new eb) (r1.mono (List.prefix_refl _) (Keep.new hp)))
  · exact q1.elim
theorem me_lst (h : MA X cm W es gs) : ME X cm W (.List es pos) (gLst gs) := by
  refine (pe_lst h).imp fun σ H Q h => ?_
  obtain ⟨al, lo, h, L, S, q⟩ := h
  refine ⟨al, lo, h, L, S, tE_bind (rel := relA X.K cm) q fun al1 h1 ds vs H1 e1 S1 r1 q1 => ?_⟩
  split at q1
  · rename_i hl
    refine ⟨by rw [← r1.length]; exact Nat.le_trans hl (by decide), fun p hp => ?_⟩
    refine q1 (al1 ++ [p]) _ _ ⟨List.prefix_append _ _, Keep.new hp⟩ (S1.new hp r1) (.ref (S1.ext_get p))
  · exact q1.elim

/-! ### tests -/
variable {ta tb : GT} {rest : List Expr}
theorem mw_and1 (ha : MT X cm W a ta) : MW X cm W (.BoolOp .And [a] pos) ta := pw_and1 ha
theorem mw_or1 (ha : MT X cm W a ta) : MW X cm W (.BoolOp .Or [a] pos) ta := pw_or1 ha
theorem mw_and (ha : MT X cm W a ta) (hb : MW X cm W (.BoolOp .And (b :: rest) pos) tb) : MW X cm W (.BoolOp .And (a :: b :: rest) pos) (gAnd ta tb) := by
  refine (pw_and ha hb).imp fun σ H Q h => ?_
  obtain ⟨al, lo, h, L, S, q⟩ := h
  refine ⟨al, lo, h, L, S, tE_bind (rel := relB) q fun al1 h1 d v H1 e1 S1 r1 q1 => ?_⟩
  cases r1
  cases d with
  | true => exact ⟨al1, lo, h1, L.mono e1.pre e1.keep, S1, q1⟩
  | false => exact q1 al1 H1 false (Ext.refl _ _) S1 rfl
theorem mw_or (ha : MT X cm W a ta) (hb : MW X cm W (.BoolOp .Or (b :: rest) pos) tb) : MW X cm W (.BoolOp .Or (a :: b :: rest) pos) (gOr ta tb) := by
  refine (pw_or ha hb).imp fun σ H Q h => ?_
  obtain ⟨al, lo, h, L, S, q⟩ := h
  refine ⟨al, lo, h, L, S, tE_bind (rel := relB) q fun al1 h1 d v H1 e1 S1 r1 q1 => ?_⟩
  cases r1
  cases d with
  | true => exact q1 al1 H1 true (Ext.refl _ _) S1 rfl
  | false => exact ⟨al1, lo, h1, L.mono e1.pre e1.keep, S1, q1⟩
theorem MW.mt (h : MW X cm W a ta) : MT X cm W a ta := PW.pt h
theorem mt_not (ha : MT X cm W a ta) : MT X cm W (.UnaryOp .Not a pos) (gNot ta) := by
  refine (pt_not ha).imp fun σ H Q h => ?_
  obtain ⟨al, lo, h, L, S, q⟩ := h
  refine ⟨al, lo, h, L, S, tE_bind (rel := relB) q fun al1 h1 d v H1 e1 S1 r1 q1 => ?_⟩
  cases r1
  exact q1 al1 H1 (!d) (Ext.refl _ _) S1 rfl
theorem me_ifExp {c : Expr} {tc : GT} (hc : MT X cm W c tc) (ha : ME X cm W a ga) (hb : ME X cm W b gb) : ME X cm W (.IfExp c a b pos) (gIf tc ga gb) := by
  refine (pe_ifExp hc ha hb).imp fun σ H Q h => ?_
  obtain ⟨al, lo, h, L, S, q⟩ := h
  refine ⟨al, lo, h, L, S, tE_bind (rel := relB) q fun al1 h1 d v H1 e1 S1 r1 q1 => ?_⟩
  cases r1
  cases d with
  | true => exact ⟨al1, lo, h1, L.mono e1.pre e1.keep, S1, q1⟩
  | false => exact ⟨al1, lo, h1, L.mono e1.pre e1.keep, S1, q1⟩
theorem me_one {op} (h : ME X cm W a ga) : ME X cm W (.BoolOp op [a] pos) ga := pe_one h
theorem me_and (ha : ME X cm W a ga) (hb : ME X cm W (.BoolOp .And (b :: rest) pos) gb) : ME X cm W (.BoolOp .And (a :: b :: rest) pos) (gAndV ga gb) := by
  refine (pe_and ha hb).imp fun σ H Q h => ?_
  obtain ⟨al, lo, h, L, S, q⟩ := h
  refine ⟨al, lo, h, L, S, tE_bind (rel := relD X.K cm) q fun al1 h1 d v H1 e1 S1 r1 q1 => ?_⟩
  cases r1 with
  | bl b =>
    refine ⟨b, rfl, ?_⟩
    cases b with
    | true => exact ⟨al1, lo, h1, L.mono e1.pre e1.keep, S1, q1⟩
    | false => exact q1 al1 H1 _ (Ext.refl _ _) S1 (.bl false)
  | _ => exact q1.elim
theorem me_or (ha : ME X cm W a ga) (hb : ME X cm W (.BoolOp .Or (b :: rest) pos) gb) : ME X cm W (.BoolOp .Or (a :: b :: rest) pos) (gOrV ga gb) := by
  refine (pe_or ha hb).imp fun σ H Q h => ?_
  obtain ⟨al, lo, h, L, S, q⟩ := h
  refine ⟨al, lo, h, L, S, tE_bind (rel := relD X.K cm) q fun al1 h1 d v H1 e1 S1 r1 q1 => ?_⟩
  cases r1 with
  | bl b =>
    refine ⟨b, rfl, ?_⟩
    cases b with
    | true => exact q1 al1 H1 _ (Ext.refl _ _) S1 (.bl true)
    | false => exact ⟨al1, lo, h1, L.mono e1.pre e1.keep, S1, q1⟩
  | _ => exact q1.elim
theorem me_not (ha : ME X cm W a ga) : ME X cm W (.UnaryOp .Not a pos) (gNotV ga) := by
  refine (pe_not ha).imp fun σ H Q h => ?_
  obtain ⟨al, lo, h, L, S, q⟩ := h
  refine ⟨al, lo, h, L, S, tE_bind (rel := relD X.K cm) q fun al1 h1 d v H1 e1 S1 r1 q1 => ?_⟩
  cases r1 with
  | bl b => exact ⟨b, rfl, q1 al1 H1 _ (Ext.refl _ _) S1 (.bl (!b))⟩
  | _ => exact q1.elim
end
end Mach
end

section
set_option Elab.async false
set_option linter.all false
set_option maxRecDepth 100000
namespace Mach
open PySem PySem.Spec L2

/-! ### operations on data -/
theorem big_line {n : Nat} (h : n ≤ 1000000) : n ≤ sizeLine := Nat.le_trans h (by decide)
theorem big_lt {n : Nat} (h : n < 1000000) : n < sizeLine := Nat.lt_of_lt_of_le h (by decide)

def newL (ds : List D) (h : Hq) : R D := if ds.length ≤ 1000000 then .ok (.ref h.length) (h ++ [.lst ds]) else .bad
def newT (ds : List D) (h : Hq) : R D := if ds.length ≤ 1000000 then .ok (.tup ds) h else .bad

def dAdd : D → D → Hq → R D
  | .int i, .int j, h => .ok (.int (i + j)) h
  | .tup xs, .tup ys, h => newT (xs ++ ys) h
  | .ref r, .ref s, h => match h[r]?, h[s]? with
    | some (.lst xs), some (.lst ys) => newL (xs ++ ys) h
    | _, _ => .bad
  | _, _, _ => .bad
def dSub : D → D → Hq → R D
  | .int i, .int j, h => .ok (.int (i - j)) h
  | _, _, _ => .bad
def dMul : D → D → Hq → R D
  | .int i, .int j, h => if (-(2 ^ 64) < i ∧ i < 2 ^ 64) ∨ (-(2 ^ 64) < j ∧ j < 2 ^ 64) then .ok (.int (i * j)) h else .bad
  | .ref r, .int k, h => match h[r]? with
    | some (.lst xs) => if k ≤ 1000 ∧ -1000 ≤ k ∧ xs.length ≤ 1000 then newL (List.replicate k.toNat xs).flatten h else .bad
    | _ => .bad
  | .tup xs, .int k, h => if xs ≠ [] ∧ 2 ≤ k ∧ k ≤ 1000 ∧ xs.length ≤ 1000 then .ok (.tup (List.replicate k.toNat xs).flatten) h else .bad
  | _, _, _ => .bad
def dDiv : D → D → Hq → R D
  | .int i, .int j, h => if 0 < j ∧ j < 1073741824 then .ok (.int (i / j)) h else .bad
  | _, _, _ => .bad
def dMod : D → D → Hq → R D
  | .int i, .int j, h => if 0 < j then .ok (.int (i % j)) h else .bad
  | _, _, _ => .bad
def dPow : D → D → Hq → R D
  | .int i, .int j, h => if 0 ≤ j ∧ j ≤ 1000000 ∧ i.natAbs < 2 ^ 64 then .ok (.int (i ^ j.toNat)) h else .bad
  | _, _, _ => .bad
def dNeg : D → Hq → R D
  | .int i, h => .ok (.int (-i)) h
  | _, _ => .bad
def dLt : D → D → Hq → R D
  | .int i, .int j, h => .ok (.bl (decide (i < j))) h
  | _, _, _ => .bad
def dLe : D → D → Hq → R D
  | .int i, .int j, h => .ok (.bl (decide (i ≤ j))) h
  | _, _, _ => .bad
def dGt : D → D → Hq → R D
  | .int i, .int j, h => .ok (.bl (decide (j < i))) h
  | _, _, _ => .bad
def dGe : D → D → Hq → R D
  | .int i, .int j, h => .ok (.bl (decide (j ≤ i))) h
  | _, _, _ => .bad
def dIs : D → D → Hq → R D
  | .bl a, .bl b, h => .ok (.bl (decide (a = b))) h
  | .ty a, .ty b, h => .ok (.bl (decide (a = b))) h
  | _, _, _ => .bad
def dIsNot : D → D → Hq → R D
  | .bl a, .bl b, h => .ok (.bl (!decide (a = b))) h
  | .ty a, .ty b, h => .ok (.bl (!decide (a = b))) h
  | _, _, _ => .bad
def isNonD : D → Bool
  | .non => true
  | _ => false
def dIsNone : D → D → Hq → R D
  | x, .non, h => .ok (.bl (isNonD x)) h
  | _, _, _ => .bad
def dNotNone : D → D → Hq → R D
  | x, .non, h => .ok (.bl (!isNonD x)) h
  | _, _, _ => .bad

/-- data as the library has it -/
def toP (h : Hq) : Nat → D → Option PyData
  | _, .non => some .none
  | _, .bl b => some (.bool b)
  | _, .int i => some (.int i)
  | _, .str x => if PyData.strOk x = true then some (.str x) else none
  | n + 1, .tup ds => (ds.mapM (toP h n)).map .tuple
  | n + 1, .rol ds => (ds.mapM (toP h n)).map .list
  | n + 1, .ref r => match h[r]? with
    | some (.lst ds) => (ds.mapM (toP h n)).map .list
    | _ => none
  | _, _ => none
def dEq (x y : D) (h : Hq) : R D := match toP h 60 x, toP h 60 y with
  | some p, some q => .ok (.bl (PyData.eqv p q)) h
  | _, _ => .bad
def dNe (x y : D) (h : Hq) : R D := match toP h 60 x, toP h 60 y with
  | some p, some q => .ok (.bl (!PyData.eqv p q)) h
  | _, _ => .bad

theorem mapM_len {α β : Type} {f : α → Option β} : ∀ {l : List α} {m : List β}, l.mapM f = some m → m.length = l.length
  | [], m, e => by simp at e; subst e; rfl
  | x :: l, m, e => by
    rw [List.mapM_cons] at e
    cases hx : f x with
    | none => rw [hx] at e; simp at e
    | some y =>
      rw [hx] at e
      cases hl : l.mapM f with
      | none => rw [hl] at e; simp at e
      | some m' => rw [hl] at e; simp at e; subst e; simp [mapM_len hl]

section
variable {K : PySem.W.Frag} {cm : Str → Option Addr} {al : List Addr} {h : Hq} {H : Hp}
theorem dpAll_of (n : Nat) (ih : ∀ (d : D) (v : V) (p : PyData), toP h n d = some p → Rel K cm al H d v → Dp K H v p ∧ p.canLay0 = true ∧ p.depth ≤ n) :
    ∀ (ds : List D) (vs : List V) (ps : List PyData), ds.mapM (toP h n) = some ps → Rels K cm al H ds vs → DpAll K H vs ps ∧ PyData.canLayAll0 ps = true ∧ PyData.depthAll ps ≤ n
  | [], _, ps, e, r => by
    cases r
    simp at e
    subst e
    exact ⟨.nil, rfl, Nat.zero_le _⟩
  | d :: ds, _, ps, e, r => by
    cases r with
    | cons a b =>
      rw [List.mapM_cons] at e
      cases hx : toP h n d with
      | none => rw [hx] at e; simp at e
      | some y =>
        rw [hx] at e
        cases hl : ds.mapM (toP h n) with
        | none => rw [hl] at e; simp at e
        | some m' =>
          rw [hl] at e
          simp at e
          subst e
          obtain ⟨h1, h2, h3⟩ := ih d _ y hx a
          obtain ⟨g1, g2, g3⟩ := dpAll_of n ih ds _ m' hl b
          exact ⟨.cons h1 g1, by simp [PyData.canLayAll0, h2, g2], by simp only [PyData.depthAll]; omega⟩
theorem dp_of (S : Sim K cm al h H) : ∀ (n : Nat) (d : D) (v : V) (p : PyData), toP h n d = some p → Rel K cm al H d v → Dp K H v p ∧ p.canLay0 = true ∧ p.depth ≤ n
  | n, .non, v, p, e, r => by
    cases r
    cases n <;> (simp only [toP] at e; cases e; exact ⟨.non, rfl, Nat.zero_le _⟩)
  | n, .bl b, v, p, e, r => by
    cases r
    cases n <;> (simp only [toP] at e; cases e; exact ⟨.bl b, rfl, Nat.zero_le _⟩)
  | n, .int i, v, p, e, r => by
    cases r
    cases n <;> (simp only [toP] at e; cases e; exact ⟨.int i, rfl, Nat.zero_le _⟩)
  | n, .str x, v, p, e, r => by
    cases r
    have e' : (if PyData.strOk x = true then some (PyData.str x) else none) = some p := by
      cases n <;> (simp only [toP] at e; exact e)
    by_cases hs : PyData.strOk x = true
    · rw [if_pos hs] at e'
      cases e'
      exact ⟨.str x, hs, Nat.zero_le _⟩
    · rw [if_neg hs] at e'
      cases e'
  | 0, .ty m, v, p, e, r => by simp [toP] at e
  | n + 1, .ty m, v, p, e, r => by simp [toP] at e
  | 0, .cls m, v, p, e, r => by simp [toP] at e
  | n + 1, .cls m, v, p, e, r => by simp [toP] at e
  | 0, .tup m, v, p, e, r => by simp [toP] at e
  | 0, .rol m, v, p, e, r => by simp [toP] at e
  | 0, .ref m, v, p, e, r => by simp [toP] at e
  | n + 1, .tup ds, v, p, e, r => by
    cases r with
    | tup hq hr =>
      simp only [toP] at e
      cases hl : ds.mapM (toP h n) with
      | none => rw [hl] at e; simp at e
      | some ps =>
        rw [hl] at e
        simp at e
        subst e
        obtain ⟨g1, g2, g3⟩ := dpAll_of n (fun d v p => dp_of S n d v p) ds _ ps hl hr
        exact ⟨.tup hq.sq g1, by simpa [PyData.canLay0] using g2, by simp only [PyData.depth]; omega⟩
  | n + 1, .rol ds, v, p, e, r => by
    cases r with
    | rol hq hr =>
      simp only [toP] at e
      cases hl : ds.mapM (toP h n) with
      | none => rw [hl] at e; simp at e
      | some ps =>
        rw [hl] at e
        simp at e
        subst e
        obtain ⟨g1, g2, g3⟩ := dpAll_of n (fun d v p => dp_of S n d v p) ds _ ps hl hr
        exact ⟨.lst hq.sq g1, by simpa [PyData.canLay0] using g2, by simp only [PyData.depth]; omega⟩
  | n + 1, .ref k, v, p, e, r => by
    cases r with
    | ref ha =>
      simp only [toP] at e
      cases ho : h[k]? with
      | none => rw [ho] at e; simp at e
      | some o =>
        rw [ho] at e
        cases o with
        | lst ds =>
          cases hl : ds.mapM (toP h n) with
          | none => simp only [hl] at e; simp at e
          | some ps =>
            simp only [hl] at e
            simp at e
            subst e
            obtain ⟨vs, hv, hr⟩ := S.lstOf ho ha
            obtain ⟨g1, g2, g3⟩ := dpAll_of n (fun d v p => dp_of S n d v p) ds _ ps hl hr
            exact ⟨.lst (SqL.of hv) g1, by simpa [PyData.canLay0] using g2, by simp only [PyData.depth]; omega⟩
        | exc c fs => simp at e
        | ins c fs => simp at e
        | dct kvs => simp at e
theorem shaped_of {n : Nat} {p : PyData} (hn : n ≤ 64) (h1 : p.canLay0 = true) (h2 : p.depth ≤ n) : SeqAt.shaped p = true := by
  unfold SeqAt.shaped
  rw [h1, decide_eq_true (Nat.le_trans h2 hn)]
  rfl
end

section
variable {X : Cx} {cm : Str → Option Addr}
/-- how an answer is handed on where nothing is laid -/
theorem Post.here {K : PySem.W.Frag} {α β : Type} {rel : List Addr → Hp → α → β → Prop} {al : List Addr} {H : Hp} {Q : β → Hp → Prop} {E : XK} {a : α} {h : Hq} {b : β} (q : Post K cm rel al H Q E (.ok a h)) (S : Sim K cm al h H) (r : rel al H a b) : Q b H := q al H b (Ext.refl _ _) S r
theorem Post.newL {K : PySem.W.Frag} {al : List Addr} {H : Hp} {Q : VK} {E : XK} {ds : List D} {vs : List V} {h : Hq} (q : Post K cm (relD K cm) al H Q E (newL ds h)) (S : Sim K cm al h H) (r : Rels K cm al H ds vs) :
    vs.length ≤ sizeLine ∧ ∀ p, H p = none → Q (.ref p) (upd H p (.lst vs)) := by
  unfold Mach.newL at q
  split at q
  · rename_i hl
    exact ⟨by rw [← r.length]; exact big_line hl, fun p hp => q (al ++ [p]) _ _ ⟨List.prefix_append _ _, Keep.new hp⟩ (S.new hp r) (.ref (S.ext_get p))⟩
  · exact q.elim
theorem Post.newT {K : PySem.W.Frag} {al : List Addr} {H : Hp} {Q : VK} {E : XK} {ds : List D} {h : Hq} (q : Post K cm (relD K cm) al H Q E (newT ds h)) : ds.length ≤ 1000000 ∧ Post K cm (relD K cm) al H Q E (.ok (.tup ds) h) := by
  unfold Mach.newT at q
  split at q
  · rename_i hl
    exact ⟨hl, q⟩
  · exact q.elim
/-- a new tuple -/
theorem Post.tupN {K : PySem.W.Frag} {al : List Addr} {H : Hp} {Q : VK} {E : XK} {ds : List D} {vs : List V} {h : Hq} (q : Post K cm (relD K cm) al H Q E (.ok (.tup ds) h)) (S : Sim K cm al h H) (r : Rels K cm al H ds vs) :
    NT H Q vs := fun p b hp eb => q al _ _ ⟨List.prefix_refl _, Keep.new hp⟩ (S.other hp) (.tup (TpL.new eb) (r.mono (List.prefix_refl _) (Keep.new hp)))

def rAdd3 (K : PySem.W.Frag) : R2 := fun x y H Q => (fun x y H Q => (rI0 (fun i j => .int (i + j)) x y H Q ∨ rCatZ K x y H Q)) x y H Q ∨ rCat x y H Q
theorem op_add3 : OpR X (binaryOp .Add) (rAdd3 X.K) := (op_add.or op_catZ).or op_cat
theorem ok_add : R2ok X cm (rAdd3 X.K) dAdd := by
  intro al h H x y dx dy Q S rx ry q
  cases rx with
  | int i =>
    cases ry with
    | int j => exact .inl (.inl ⟨i, j, rfl, rfl, q.here S (.int _)⟩)
    | _ => exact q.elim
  | tup hx tx =>
    cases ry with
    | tup hy ty =>
      rename_i xs vs a ys ws b
      obtain ⟨hl, q⟩ := Post.newT q
      refine .inl (.inr ⟨a, b, vs, ws, rfl, rfl, hx.sq, hy.sq, ?_, fun e => ?_, fun _ e => ?_, ?_⟩)
      · rw [← tx.length, ← ty.length, ← List.length_append]
        exact big_line hl
      · subst e
        cases tx
        exact q.here S (.tup hy ty)
      · subst e
        cases ty
        rw [List.append_nil] at q
        exact q.here S (.tup hx tx)
      · exact q.tupN S (tx.append ty)
    | _ => exact q.elim
  | ref hx =>
    cases ry with
    | ref hy =>
      rename_i r a s b
      simp only [dAdd] at q
      cases e1 : h[r]? with
      | none => rw [e1] at q; exact q.elim
      | some o1 =>
        cases e2 : h[s]? with
        | none => rw [e1, e2] at q; cases o1 <;> exact q.elim
        | some o2 =>
          rw [e1, e2] at q
          cases o1 with
          | lst xs =>
            cases o2 with
            | lst ys =>
              obtain ⟨vs, hv, tv⟩ := S.lstOf e1 hx
              obtain ⟨ws, hw, tw⟩ := S.lstOf e2 hy
              obtain ⟨hl, q⟩ := Post.newL q S (tv.append tw)
              exact .inr ⟨a, b, vs, ws, rfl, rfl, hv, hw, by rw [← List.length_append]; exact hl, q⟩
            | exc c fs => exact q.elim
            | _ => exact q.elim
          | exc c fs => exact q.elim
          | _ => exact q.elim
    | _ => exact q.elim
  | _ => exact q.elim

theorem ok_sub : R2ok X cm (rI0 fun i j => .int (i - j)) dSub := by
  intro al h H x y dx dy Q S rx ry q
  cases rx with
  | int i => cases ry with
    | int j => exact ⟨i, j, rfl, rfl, q.here S (.int _)⟩
    | _ => exact q.elim
  | _ => exact q.elim

def rMul3 (K : PySem.W.Frag) : R2 := fun x y H Q => (fun x y H Q => (rI CMul (fun i j => .int (i * j)) x y H Q ∨ rRepZ K x y H Q)) x y H Q ∨ rRep x y H Q
theorem op_mul3 : OpR X (binaryOp .Mult) (rMul3 X.K) := (op_mul.or op_repZ).or op_rep
theorem flat_len {α : Type} (xs : List α) : ∀ k : Nat, (List.replicate k xs).flatten.length = k * xs.length
  | 0 => by simp
  | k + 1 => by rw [List.replicate_succ, List.flatten_cons, List.length_append, flat_len xs k, Nat.succ_mul, Nat.add_comm]
theorem ok_mul : R2ok X cm (rMul3 X.K) dMul := by
  intro al h H x y dx dy Q S rx ry q
  cases rx with
  | int i => cases ry with
    | int j =>
      simp only [dMul] at q
      split at q
      · rename_i hc
        exact .inl (.inl ⟨i, j, rfl, rfl, hc, q.here S (.int _)⟩)
      · exact q.elim
    | _ => exact q.elim
  | ref hx => cases ry with
    | int k =>
      rename_i r a
      simp only [dMul] at q
      cases e1 : h[r]? with
      | none => rw [e1] at q; exact q.elim
      | some o1 =>
        rw [e1] at q
        cases o1 with
        | lst xs =>
          simp only at q
          split at q
          · rename_i hc
            obtain ⟨vs, hv, tv⟩ := S.lstOf e1 hx
            obtain ⟨hl, q⟩ := Post.newL q S (tv.rep k.toNat)
            rw [flat_len] at hl
            refine .inr ⟨a, k, vs, rfl, rfl, hv, by omega, by omega, by rw [Nat.mul_comm]; exact hl, q⟩
          · exact q.elim
        | exc c fs => exact q.elim
        | _ => exact q.elim
    | _ => exact q.elim
  | tup hx tx => cases ry with
    | int k =>
      rename_i xs vs a
      simp only [dMul] at q
      split at q
      · rename_i hc
        obtain ⟨h1, h2, h3, h4⟩ := hc
        refine .inl (.inr ⟨a, k, vs, rfl, rfl, hx.sq, fun z => h1 ?_, h2, h3, by rw [← tx.length]; exact h4, q.tupN S (tx.rep _)⟩)
        subst z
        cases tx
        rfl
      · exact q.elim
    | _ => exact q.elim
  | _ => exact q.elim

theorem ok_div : R2ok X cm (rI CDiv fun i j => .int (i / j)) dDiv := by
  intro al h H x y dx dy Q S rx ry q
  cases rx with
  | int i => cases ry with
    | int j =>
      simp only [dDiv] at q
      split at q
      · rename_i hc
        exact ⟨i, j, rfl, rfl, hc, q.here S (.int _)⟩
      · exact q.elim
    | _ => exact q.elim
  | _ => exact q.elim
theorem ok_mod : R2ok X cm (rI (fun _ j => 0 < j) fun i j => .int (i % j)) dMod := by
  intro al h H x y dx dy Q S rx ry q
  cases rx with
  | int i => cases ry with
    | int j =>
      simp only [dMod] at q
      split at q
      · rename_i hc
        exact ⟨i, j, rfl, rfl, hc, q.here S (.int _)⟩
      · exact q.elim
    | _ => exact q.elim
  | _ => exact q.elim
theorem ok_pow : R2ok X cm (rI CPow fun i j => .int (i ^ j.toNat)) dPow := by
  intro al h H x y dx dy Q S rx ry q
  cases rx with
  | int i => cases ry with
    | int j =>
      simp only [dPow] at q
      split at q
      · rename_i hc
        exact ⟨i, j, rfl, rfl, hc, q.here S (.int _)⟩
      · exact q.elim
    | _ => exact q.elim
  | _ => exact q.elim
theorem ok_neg : R1ok X cm (rU fun i => .int (-i)) dNeg := by
  intro al h H x dx Q S rx q
  cases rx with
  | int i => exact ⟨i, rfl, q.here S (.int _)⟩
  | _ => exact q.elim
theorem ok_lt : R2ok X cm (rI0 fun i j => .bl (decide (i < j))) dLt := by
  intro al h H x y dx dy Q S rx ry q
  cases rx with
  | int i => cases ry with
    | int j => exact ⟨i, j, rfl, rfl, q.here S (.bl _)⟩
    | _ => exact q.elim
  | _ => exact q.elim
theorem ok_le : R2ok X cm (rI0 fun i j => .bl (decide (i ≤ j))) dLe := by
  intro al h H x y dx dy Q S rx ry q
  cases rx with
  | int i => cases ry with
    | int j => exact ⟨i, j, rfl, rfl, q.here S (.bl _)⟩
    | _ => exact q.elim
  | _ => exact q.elim
theorem ok_gt : R2ok X cm (rI0 fun i j => .bl (decide (j < i))) dGt := by
  intro al h H x y dx dy Q S rx ry q
  cases rx with
  | int i => cases ry with
    | int j => exact ⟨i, j, rfl, rfl, q.here S (.bl _)⟩
    | _ => exact q.elim
  | _ => exact q.elim
theorem ok_ge : R2ok X cm (rI0 fun i j => .bl (decide (j ≤ i))) dGe := by
  intro al h H x y dx dy Q S rx ry q
  cases rx with
  | int i => cases ry with
    | int j => exact ⟨i, j, rfl, rfl, q.here S (.bl _)⟩
    | _ => exact q.elim
  | _ => exact q.elim

def rIs2 : R2 := fun x y H Q => rIsB x y H Q ∨ (fun x y (H : Hp) (Q : VK) => ∃ m n, x = .ty m ∧ y = .ty n ∧ Q (.bl (decide (m = n))) H) x y H Q
theorem op_is2 : OpR X (compareOp .Is) rIs2 := op_isBl.or op_isTy
theorem ok_is : R2ok X cm rIs2 dIs := by
  intro al h H x y dx dy Q S rx ry q
  cases rx with
  | bl a => cases ry with
    | bl b => exact .inl ⟨a, b, rfl, rfl, q.here S (.bl _)⟩
    | _ => exact q.elim
  | ty a => cases ry with
    | ty b => exact .inr ⟨a, b, rfl, rfl, q.here S (.bl _)⟩
    | _ => exact q.elim
  | _ => exact q.elim
def rIsNot2 : R2 := fun x y H Q => rNotB x y H Q ∨ (fun x y (H : Hp) (Q : VK) => ∃ m n, x = .ty m ∧ y = .ty n ∧ Q (.bl (!decide (m = n))) H) x y H Q
theorem op_isNot2 : OpR X (compareOp .IsNot) rIsNot2 := op_notBl.or op_isNotTy
theorem ok_isNot : R2ok X cm rIsNot2 dIsNot := by
  intro al h H x y dx dy Q S rx ry q
  cases rx with
  | bl a => cases ry with
    | bl b => exact .inl ⟨a, b, rfl, rfl, q.here S (.bl _)⟩
    | _ => exact q.elim
  | ty a => cases ry with
    | ty b => exact .inr ⟨a, b, rfl, rfl, q.here S (.bl _)⟩
    | _ => exact q.elim
  | _ => exact q.elim
theorem isNonD_of {K : PySem.W.Frag} {al : List Addr} {H : Hp} {d : D} {v : V} (r : Rel K cm al H d v) : isNonD d = decide (v = .non) := by
  cases r <;> simp [isNonD]
theorem ok_isNone : R2ok X cm (fun x y H Q => y = .non ∧ Q (.bl (decide (x = .non))) H) dIsNone := by
  intro al h H x y dx dy Q S rx ry q
  cases ry with
  | non => exact ⟨rfl, q.here S (by rw [isNonD_of rx]; exact .bl _)⟩
  | _ => exact q.elim
theorem ok_notNone : R2ok X cm (fun x y H Q => y = .non ∧ Q (.bl (!decide (x = .non))) H) dNotNone := by
  intro al h H x y dx dy Q S rx ry q
  cases ry with
  | non => exact ⟨rfl, q.here S (by rw [isNonD_of rx]; exact .bl _)⟩
  | _ => exact q.elim
theorem ok_eq : R2ok X cm (rEqD X.K) dEq := by
  intro al h H x y dx dy Q S rx ry q
  unfold dEq at q
  cases e1 : toP h 60 dx with
  | none => rw [e1] at q; exact q.elim
  | some p1 =>
    cases e2 : toP h 60 dy with
    | none => rw [e1, e2] at q; exact q.elim
    | some p2 =>
      rw [e1, e2] at q
      obtain ⟨a1, a2, a3⟩ := dp_of S 60 dx x p1 e1 rx
      obtain ⟨b1, b2, b3⟩ := dp_of S 60 dy y p2 e2 ry
      exact ⟨p1, p2, a1, b1, shaped_of (by decide) a2 a3, shaped_of (by decide) b2 b3, q.here S (.bl _)⟩
theorem ok_ne : R2ok X cm (rNeD X.K) dNe := by
  intro al h H x y dx dy Q S rx ry q
  unfold dNe at q
  cases e1 : toP h 60 dx with
  | none => rw [e1] at q; exact q.elim
  | some p1 =>
    cases e2 : toP h 60 dy with
    | none => rw [e1, e2] at q; exact q.elim
    | some p2 =>
      rw [e1, e2] at q
      obtain ⟨a1, a2, a3⟩ := dp_of S 60 dx x p1 e1 rx
      obtain ⟨b1, b2, b3⟩ := dp_of S 60 dy y p2 e2 ry
      exact ⟨p1, p2, a1, b1, shaped_of (by decide) a2 a3, shaped_of (by decide) b2 b3, q.here S (.bl _)⟩
end
end Mach
end

section
set_option Elab.async false
set_option linter.all false
set_option maxRecDepth 100000
namespace Mach
open PySem PySem.Spec L2

/-! ### subscripts and slices -/
def dIx : D → D → Hq → R D
  | .tup ds, .int i, h => match atI ds i with
    | some d => .ok d h
    | none => .bad
  | .rol ds, .int i, h => match atI ds i with
    | some d => .ok d h
    | none => .bad
  | .ref r, .int i, h => match h[r]? with
    | some (.lst ds) => match atI ds i with
      | some d => .ok d h
      | none => .bad
    | _ => .bad
  | _, _, _ => .bad
def cut {α : Type} (xs : List α) (lo hi : Option Int) : List α := (xs.drop (HT.sIx xs.length 0 lo)).take (HT.sIx xs.length xs.length hi - HT.sIx xs.length 0 lo)
def dSl : D → Option Int → Option Int → Hq → R D
  | .tup ds, lo, hi, h => .ok (.tup (cut ds lo hi)) h
  | .rol ds, lo, hi, h => newL (cut ds lo hi) h
  | .ref r, lo, hi, h => match h[r]? with
    | some (.lst ds) => newL (cut ds lo hi) h
    | _ => .bad
  | _, _, _, _ => .bad
abbrev GO := Lo → Hq → R (Option Int)
def gNo : GO := fun _ h => .ok none h
def gPart (a : GE) : GO := fun lo h => (a lo h).bind fun x h1 => match x with
  | .int i => .ok (some i) h1
  | _ => .bad
def gSl (a : GE) (lo hi : GO) : GE := fun l h => (a l h).bind fun x h1 => (lo l h1).bind fun i h2 => (hi l h2).bind fun j h3 => (dSl x i j h3).calm
abbrev relO : List Addr → Hp → Option Int → Option Int → Prop := fun _ _ a b => a = b
section
variable (K : PySem.W.Frag) (cm : Str → Option Addr)
def tOe (W : WX) (g : GO) : TO := fun σ H Q => ∃ al lo h, LoR K cm al H lo σ ∧ Sim K cm al h H ∧ Post K cm relO al H Q (fun c d H' => W c d σ H') (g lo h)
end
theorem _root_.L2.PO.imp {X : Cx} {e : Option Expr} {t t' : TO} (p : PO X e t) (h : ∀ σ H Q, t' σ H Q → t σ H Q) : PO X e t' := ⟨fun pins s σ H Q I hw => p.run pins s σ H Q I (h σ H Q hw)⟩
def MO (X : Cx) (cm : Str → Option Addr) (W : WX) (e : Option Expr) (g : GO) : Prop := PO X e (tOe X.K cm W g)

section
variable {X : Cx} {cm : Str → Option Addr} {W : WX} {a b c e : Expr} {es : List Expr} {ga gb gc : GE} {gs : GA} {pos : Pos} {K : PySem.W.Frag} {al : List Addr} {H : Hp}
theorem Rels.atI {ds : List D} {vs : List V} {i : Int} {d : D} (t : Rels K cm al H ds vs) (e : atI ds i = some d) : ∃ v, L2.atI vs i = some v ∧ Rel K cm al H d v := by
  unfold L2.atI at e ⊢
  rw [← t.length]
  cases hx : ixN ds.length i with
  | none => rw [hx] at e; cases e
  | some j =>
    rw [hx] at e
    exact t.get e
theorem ok_ix : R2ok X cm (rIx X.K) dIx := by
  intro al h H x y dx dy Q S rx ry q
  cases ry with
  | int i =>
    cases rx with
    | tup hx tx =>
      rename_i ds vs a
      simp only [dIx] at q
      cases e1 : atI ds i with
      | none => rw [e1] at q; exact q.elim
      | some d =>
        rw [e1] at q
        obtain ⟨v, ev, rv⟩ := tx.atI e1
        exact .inr (.inl ⟨a, vs, i, v, rfl, rfl, hx.sq, ev, q.here S rv⟩)
    | rol hx tx =>
      rename_i ds vs a
      simp only [dIx] at q
      cases e1 : atI ds i with
      | none => rw [e1] at q; exact q.elim
      | some d =>
        rw [e1] at q
        obtain ⟨v, ev, rv⟩ := tx.atI e1
        exact .inl ⟨a, vs, i, v, rfl, rfl, hx.sq, ev, q.here S rv⟩
    | ref hx =>
      rename_i r a
      simp only [dIx] at q
      cases e0 : h[r]? with
      | none => rw [e0] at q; exact q.elim
      | some o =>
        rw [e0] at q
        cases o with
        | lst ds =>
          simp only at q
          obtain ⟨vs, hv, tv⟩ := S.lstOf e0 hx
          cases e1 : atI ds i with
          | none => rw [e1] at q; exact q.elim
          | some d =>
            rw [e1] at q
            obtain ⟨v, ev, rv⟩ := tv.atI e1
            exact .inl ⟨a, vs, i, v, rfl, rfl, SqL.of hv, ev, q.here S rv⟩
        | exc c fs => exact q.elim
        | _ => exact q.elim
    | _ => exact q.elim
  | _ => cases rx <;> exact q.elim
theorem me_ix (ha : ME X cm W a ga) (hb : ME X cm W b gb) (hs : PlainIx b) : ME X cm W (.Subscript a b pos) (gOp dIx ga gb) :=
  (pe_ix ix_seq ha hb hs).imp fun _ _ _ h => op_imp ok_ix rfl rfl h

theorem cutV_eq (xs : List V) (lo hi : Option Int) : cutV xs lo hi = cut xs lo hi := rfl
theorem Rels.cut {ds : List D} {vs : List V} (t : Rels K cm al H ds vs) (lo hi : Option Int) : Rels K cm al H (Mach.cut ds lo hi) (cutV vs lo hi) := by
  unfold Mach.cut cutV
  rw [← t.length]
  exact (t.drop _).take _
theorem cut_whole {α : Type} {xs : List α} {lo hi : Option Int} (h : HT.sIx xs.length 0 lo = 0 ∧ HT.sIx xs.length xs.length hi = xs.length) : cut xs lo hi = xs := by
  unfold cut
  rw [h.1, h.2]
  simp
def rSl3 (K : PySem.W.Frag) : V → Option Int → Option Int → Hp → VK → Prop := fun x lo hi H Q => rSlZ K x lo hi H Q ∨ rSlL K x lo hi H Q
theorem sl3 : SlR X (rSl3 X.K) := sl_tupZ.or sl_list
theorem ok_sl {al : List Addr} {h : Hq} {H : Hp} {x : V} {dx : D} {lo hi : Option Int} {Q : VK} {E : XK} (S : Sim X.K cm al h H) (rx : Rel X.K cm al H dx x) (q : Post X.K cm (relD X.K cm) al H Q E (dSl dx lo hi h)) : rSl3 X.K x lo hi H Q := by
  cases rx with
  | tup hx tx =>
    rename_i ds vs a
    have q : Post X.K cm (relD X.K cm) al H Q E (.ok (.tup (Mach.cut ds lo hi)) h) := q
    refine .inl ⟨a, vs, rfl, hx.sq, fun hw => ?_, q.tupN S (tx.cut lo hi)⟩
    rw [← tx.length] at hw
    rw [cut_whole hw] at q
    exact q.here S (.tup hx tx)
  | rol hx tx =>
    rename_i ds vs a
    obtain ⟨hl, q⟩ := Post.newL q S (tx.cut lo hi)
    exact .inr ⟨a, vs, rfl, hx.sq, q⟩
  | ref hx =>
    rename_i r a
    simp only [dSl] at q
    cases e0 : h[r]? with
    | none => rw [e0] at q; exact q.elim
    | some o =>
      rw [e0] at q
      cases o with
      | lst ds =>
        obtain ⟨vs, hv, tv⟩ := S.lstOf e0 hx
        obtain ⟨hl, q⟩ := Post.newL q S (tv.cut lo hi)
        exact .inr ⟨a, vs, rfl, SqL.of hv, q⟩
      | exc c fs => exact q.elim
      | _ => exact q.elim
  | _ => exact q.elim
theorem mo_none : MO X cm W none gNo := po_none.imp fun σ H Q h => by
  obtain ⟨al, lo, h, L, S, q⟩ := h
  exact q.here S rfl
theorem mo_some (ha : ME X cm W a ga) : MO X cm W (some a) (gPart ga) := by
  refine (po_some ha).imp fun σ H Q h => ?_
  obtain ⟨al, lo, h, L, S, q⟩ := h
  refine ⟨al, lo, h, L, S, tE_bind (rel := relD X.K cm) q fun al1 h1 d v H1 e1 S1 r1 q1 => ?_⟩
  cases r1 with
  | int i => exact ⟨i, rfl, q1.here S1 rfl⟩
  | _ => exact q1.elim
theorem me_sl {lo hi : Option Expr} {gl gh : GO} {p2 : Pos} (ha : ME X cm W a ga) (hl : MO X cm W lo gl) (hh : MO X cm W hi gh) : ME X cm W (.Subscript a (.Slice lo hi none p2) pos) (gSl ga gl gh) := by
  refine (pe_slice sl3 ha hl hh).imp fun σ H Q h => ?_
  obtain ⟨al, lo, h, L, S, q⟩ := h
  refine ⟨al, lo, h, L, S, tE_bind (rel := relD X.K cm) q fun al1 h1 d v H1 e1 S1 r1 q1 => ?_⟩
  refine ⟨al1, lo, h1, L.mono e1.pre e1.keep, S1, tE_bind (rel := relO) q1 fun al2 h2 i i' H2 e2 S2 r2 q2 => ?_⟩
  cases r2
  refine ⟨al2, lo, h2, L.mono (e1.trans e2).pre (e1.trans e2).keep, S2, tE_bind (rel := relO) q2 fun al3 h3 j j' H3 e3 S3 r3 q3 => ?_⟩
  cases r3
  exact ok_sl S3 (r1.mono (e2.trans e3).pre (e2.trans e3).keep) (Post.calm (E' := fun _ _ _ => False) q3)

/-! ### built-ins by name -/
theorem bi_imp {r : List V → Hp → VK → Prop} {f : List D → Hq → R D} (hr : RCok X cm r f) {ta : TA} {σ : L2.St} {H : Hp} {Q : VK} (ha : ta = tAr X.K cm W gs) (h : tE X.K cm W (gBi f gs) σ H Q) : tCB r ta σ H Q := by
  subst ha
  obtain ⟨al, lo, h, L, S, q⟩ := h
  refine ⟨al, lo, h, L, S, tE_bind (rel := relA X.K cm) q fun al1 h1 ds vs H1 e1 S1 r1 q1 => ?_⟩
  exact hr al1 h1 H1 vs ds Q S1 r1 q1.calm
theorem me_bi {x : Str} {p : Pos} {id : String} {r : List V → Hp → VK → Prop} {f : List D → Hq → R D} (hr : RCok X cm r f) (hc : CallR X (.builtin id) r) (hg : Gl X x) (hm : X.mg x = none) (hv : bootBuiltins x = some (.builtin id)) (ha : MA X cm W (e :: es) gs)
    (hn : x ≠ "__name__" := by decide) (hdb : (x == ("__debug__" : Str)) = false := by decide) (he : starEach (e :: es) X.env = (false, eval e X.env) :: starEach es X.env := by rfl) (hpl : (backTo pos (starEach es X.env)).any (·.1) = false := by rfl) :
    ME X cm W (.Call (.Name x p) (e :: es) [] pos) (gBi f gs) := (pe_callB hc hg hm hv ha hn hdb he hpl).imp fun _ _ _ h => bi_imp hr rfl h
theorem me_ty {x : Str} {p : Pos} {T : String} {r : List V → Hp → VK → Prop} {f : List D → Hq → R D} (hr : RCok X cm r f) (hc : CallR X (.type T) r) (hg : Gl X x) (hm : X.mg x = none) (hv : bootBuiltins x = some (.type T)) (ha : MA X cm W (e :: es) gs)
    (hn : x ≠ "__name__" := by decide) (hdb : (x == ("__debug__" : Str)) = false := by decide) (he : starEach (e :: es) X.env = (false, eval e X.env) :: starEach es X.env := by rfl) (hpl : (backTo pos (starEach es X.env)).any (·.1) = false := by rfl) :
    ME X cm W (.Call (.Name x p) (e :: es) [] pos) (gBi f gs) := (pe_callTy hc hg hm hv ha hn hdb he hpl).imp fun _ _ _ h => bi_imp hr rfl h

/-- the items of a list or tuple -/
def itemsD (h : Hq) : D → Option (List D)
  | .tup ds => some ds
  | .rol ds => some ds
  | .ref r => match h[r]? with
    | some (.lst ds) => some ds
    | _ => none
  | _ => none
theorem itemsD_of {h : Hq} {d : D} {v : V} {ds : List D} (S : Sim K cm al h H) (r : Rel K cm al H d v) (e : itemsD h d = some ds) : ∃ a vs, v = .ref a ∧ (SqL K H a vs ∨ TpL K H a vs) ∧ Rels K cm al H ds vs := by
  cases r with
  | tup hx tx => cases e; exact ⟨_, _, rfl, .inr hx, tx⟩
  | rol hx tx => cases e; exact ⟨_, _, rfl, .inl hx.sq, tx⟩
  | ref hx =>
    simp only [itemsD] at e
    split at e
    · rename_i ds' e0
      cases e
      obtain ⟨vs, hv, tv⟩ := S.lstOf e0 hx
      exact ⟨_, _, rfl, .inl (SqL.of hv), tv⟩
    · cases e
  | _ => cases e
def dLen : List D → Hq → R D
  | [x], h => match itemsD h x with
    | some ds => .ok (.int ds.length) h
    | none => match x with
      | .str z => if z.length ≤ 1000000 then .ok (.int z.length) h else .bad
      | _ => .bad
  | _, _ => .bad
def rLen2 (K : PySem.W.Frag) : List V → Hp → VK → Prop := fun xs H Q => (∃ p ys, xs = [.ref p] ∧ (SqL K H p ys ∨ SqT K H p ys) ∧ Q (.int ys.length) H) ∨ ∃ z, xs = [.str z] ∧ z.length ≤ sizeLine ∧ Q (.int z.length) H
theorem c_len : CallR X (.builtin "len") (rLen2 X.K) := call_len_seq.or call_len_str
theorem ok_len : RCok X cm (rLen2 X.K) dLen := by
  intro al h H xs ds Q S rs q
  cases rs with
  | nil => exact q.elim
  | cons r1 rr =>
    cases rr with
    | cons _ _ => exact q.elim
    | nil =>
      rename_i d v
      simp only [dLen] at q
      cases e : itemsD h d with
      | some es =>
        rw [e] at q
        obtain ⟨a, vs, rfl, hs, t⟩ := itemsD_of S r1 e
        exact .inl ⟨a, vs, rfl, hs.imp id TpL.sq, by rw [← t.length]; exact q.here S (.int _)⟩
      | none =>
        rw [e] at q
        cases r1 with
        | str z =>
          simp only at q
          split at q
          · rename_i hl
            exact .inr ⟨z, rfl, big_line hl, q.here S (.int _)⟩
          · exact q.elim
        | _ => exact q.elim
def dInt : List D → Hq → R D
  | [.int i], h => .ok (.int i) h
  | [.bl b], h => .ok (.int (if b then 1 else 0)) h
  | _, _ => .bad
theorem ok_int : RCok X cm (fun xs H Q => (∃ i, xs = [.int i] ∧ Q (.int i) H) ∨ ∃ k, xs = [.bl k] ∧ Q (.int (if k then 1 else 0)) H) dInt := by
  intro al h H xs ds Q S rs q
  cases rs with
  | nil => exact q.elim
  | cons r1 rr =>
    cases rr with
    | cons _ _ => cases r1 <;> exact q.elim
    | nil =>
      cases r1 with
      | int i => exact .inl ⟨i, rfl, q.here S (.int _)⟩
      | bl b => exact .inr ⟨b, rfl, q.here S (.int _)⟩
      | _ => exact q.elim
def dList : List D → Hq → R D
  | [x], h => match itemsD h x with
    | some ds => newL ds h
    | none => .bad
  | _, _ => .bad
theorem ok_list : RCok X cm (fun xs H Q => ∃ p ys, xs = [.ref p] ∧ (SqL X.K H p ys ∨ SqT X.K H p ys) ∧ ∀ l, H l = none → Q (.ref l) (upd H l (.lst ys))) dList := by
  intro al h H xs ds Q S rs q
  cases rs with
  | nil => exact q.elim
  | cons r1 rr =>
    cases rr with
    | cons _ _ => exact q.elim
    | nil =>
      rename_i d v
      simp only [dList] at q
      cases e : itemsD h d with
      | some es =>
        rw [e] at q
        obtain ⟨a, vs, rfl, hs, t⟩ := itemsD_of S r1 e
        obtain ⟨_, q⟩ := Post.newL q S t
        exact ⟨a, vs, rfl, hs.imp id TpL.sq, q⟩
      | none => rw [e] at q; exact q.elim
def dTuple : List D → Hq → R D
  | [x], h => match itemsD h x with
    | some ds => .ok (.tup ds) h
    | none => .bad
  | _, _ => .bad
theorem ok_tuple : RCok X cm (fun xs H Q => ∃ p ys, xs = [.ref p] ∧ ((SqL X.K H p ys ∧ NT H Q ys) ∨ (SqT X.K H p ys ∧ Q (.ref p) H))) dTuple := by
  intro al h H xs ds Q S rs q
  cases rs with
  | nil => exact q.elim
  | cons r1 rr =>
    cases rr with
    | cons _ _ => exact q.elim
    | nil =>
      rename_i d v
      simp only [dTuple] at q
      cases e : itemsD h d with
      | some es =>
        rw [e] at q
        obtain ⟨a, vs, rfl, hs, t⟩ := itemsD_of S r1 e
        rcases hs with hs | hs
        · exact ⟨a, vs, rfl, .inl ⟨hs, q.tupN S t⟩⟩
        · exact ⟨a, vs, rfl, .inr ⟨hs.sq, q.here S (.tup hs t)⟩⟩
      | none => rw [e] at q; exact q.elim
/-- the type's name -/
def tyOf (h : Hq) : D → Option String
  | .non => some "NoneType"
  | .bl _ => some "bool"
  | .int _ => some "int"
  | .str _ => some "str"
  | .tup _ => some "tuple"
  | .rol _ => some "list"
  | .ref r => match h[r]? with
    | some (Ob.lst _) => some "list"
    | _ => none
  | _ => none
def dType : List D → Hq → R D
  | [x], h => match tyOf h x with
    | some t => .ok (.ty t) h
    | none => .bad
  | _, _ => .bad
theorem tyB_of {h : Hq} {d : D} {v : V} {t : String} (S : Sim K cm al h H) (r : Rel K cm al H d v) (e : tyOf h d = some t) : TyB K H v t := by
  cases r with
  | non => cases e; exact .non
  | bl b => cases e; exact .bl b
  | int i => cases e; exact .int i
  | str x => cases e; exact .str x
  | tup hx tx => cases e; exact .tup hx.sq
  | rol hx tx => cases e; exact .lst hx.sq
  | ref hx =>
    simp only [tyOf] at e
    split at e
    · rename_i ds' e0
      cases e
      obtain ⟨vs, hv, tv⟩ := S.lstOf e0 hx
      exact .lst (SqL.of hv)
    · cases e
  | _ => cases e
theorem ok_type : RCok X cm (rTyp X.K) dType := by
  intro al h H xs ds Q S rs q
  cases rs with
  | nil => exact q.elim
  | cons r1 rr =>
    cases rr with
    | cons _ _ => exact q.elim
    | nil =>
      rename_i d v
      simp only [dType] at q
      cases e : tyOf h d with
      | some t => rw [e] at q; exact ⟨v, t, rfl, tyB_of S r1 e, q.here S (.ty t)⟩
      | none => rw [e] at q; exact q.elim
theorem tyX_of {h : Hq} {d : D} {v : V} {t : String} (S : Sim K cm al h H) (r : Rel K cm al H d v) (e : tyOf h d = some t) : TyX K H v (.type t) := by
  cases r with
  | non => cases e; exact .base .non
  | bl b => cases e; exact .base (.bl b)
  | int i => cases e; exact .base (.int i)
  | str x => cases e; exact .base (.str x)
  | tup hx tx =>
    cases e
    rcases hx with ⟨o, _, hx⟩ | ⟨o, its, n, h1, h2, _⟩
    · exact .fTuple hx
    · exact .kTuple h1 h2
  | rol hx tx =>
    cases e
    rcases hx with ⟨o, hx⟩ | ⟨o, its, n, h1, h2, _⟩
    · exact .base (.frz hx)
    · exact .kList h1 h2
  | ref hx =>
    simp only [tyOf] at e
    split at e
    · rename_i ds' e0
      cases e
      obtain ⟨vs, hv, tv⟩ := S.lstOf e0 hx
      exact .base (.lst hv)
    · cases e
  | _ => cases e
/-- isinstance(x, T), x no object of a class, T a built-in type -/
def dIsi : List D → Hq → R D
  | [x, .ty n], h => match tyOf h x with
    | some t => match kitB t n with
      | some b => .ok (.bl b) h
      | none => .bad
    | none => .bad
  | _, _ => .bad
theorem ok_isi : RCok X cm (rIsi X.K) dIsi := by
  intro al h H xs ds Q S rs q
  cases rs with
  | nil => exact q.elim
  | cons r1 rr =>
    cases rr with
    | nil => exact q.elim
    | cons r2 rr =>
      cases rr with
      | cons _ _ => cases r2 <;> exact q.elim
      | nil =>
        cases r2 with
        | ty n =>
          rename_i d v
          simp only [dIsi] at q
          cases e : tyOf h d with
          | none => rw [e] at q; exact q.elim
          | some t =>
            rw [e] at q
            simp only at q
            cases eb : kitB t n with
            | none => rw [eb] at q; exact q.elim
            | some b =>
              rw [eb] at q
              exact ⟨v, .ty n, .type t, .type n, b, rfl, .ty n, tyX_of S r1 e, kit_ty eb, q.here S (.bl b)⟩
        | _ => exact q.elim
def blD : D → Option Bool
  | .bl b => some b
  | _ => none
def intD : D → Option Int
  | .int i => some i
  | _ => none
theorem bls_of : ∀ {ds : List D} {vs : List V} {bs : List Bool}, Rels K cm al H ds vs → ds.mapM blD = some bs → vs = bs.map V.bl
  | [], _, bs, r, e => by cases r; simp at e; subst e; rfl
  | d :: ds, _, bs, r, e => by
    cases r with
    | cons a b =>
      rw [List.mapM_cons] at e
      cases hd : blD d with
      | none => rw [hd] at e; simp at e
      | some k =>
        rw [hd] at e
        cases hl : ds.mapM blD with
        | none => rw [hl] at e; simp at e
        | some ks =>
          rw [hl] at e
          simp at e
          subst e
          rw [bls_of b hl]
          cases a <;> first | (cases hd; rfl) | cases hd
theorem ints_of : ∀ {ds : List D} {vs : List V} {bs : List Int}, Rels K cm al H ds vs → ds.mapM intD = some bs → vs = bs.map V.int
  | [], _, bs, r, e => by cases r; simp at e; subst e; rfl
  | d :: ds, _, bs, r, e => by
    cases r with
    | cons a b =>
      rw [List.mapM_cons] at e
      cases hd : intD d with
      | none => rw [hd] at e; simp at e
      | some k =>
        rw [hd] at e
        cases hl : ds.mapM intD with
        | none => rw [hl] at e; simp at e
        | some ks =>
          rw [hl] at e
          simp at e
          subst e
          rw [ints_of b hl]
          cases a <;> first | (cases hd; rfl) | cases hd
/-- the items of a list -/
def listD (h : Hq) : D → Option (List D)
  | .rol ds => some ds
  | .ref r => match h[r]? with
    | some (.lst ds) => some ds
    | _ => none
  | _ => none
theorem listD_of {h : Hq} {d : D} {v : V} {ds : List D} (S : Sim K cm al h H) (r : Rel K cm al H d v) (e : listD h d = some ds) : ∃ a vs, v = .ref a ∧ SqL K H a vs ∧ Rels K cm al H ds vs := by
  cases r with
  | rol hx tx => cases e; exact ⟨_, _, rfl, hx.sq, tx⟩
  | ref hx =>
    simp only [listD] at e
    split at e
    · rename_i ds' e0
      cases e
      obtain ⟨vs, hv, tv⟩ := S.lstOf e0 hx
      exact ⟨_, _, rfl, SqL.of hv, tv⟩
    · cases e
  | _ => cases e
def dAll : List D → Hq → R D
  | [x], h => match (listD h x).bind (·.mapM blD) with
    | some bs => .ok (.bl (bs.all id)) h
    | none => .bad
  | _, _ => .bad
theorem ok_all : RCok X cm (rAll X.K) dAll := by
  intro al h H xs ds Q S rs q
  cases rs with
  | nil => exact q.elim
  | cons r1 rr =>
    cases rr with
    | cons _ _ => exact q.elim
    | nil =>
      rename_i d v
      simp only [dAll] at q
      cases e : listD h d with
      | none => rw [e] at q; exact q.elim
      | some es =>
        rw [e] at q
        simp only [Option.bind_some] at q
        cases eb : es.mapM blD with
        | none => rw [eb] at q; exact q.elim
        | some bs =>
          rw [eb] at q
          obtain ⟨a, vs, rfl, hs, t⟩ := listD_of S r1 e
          have ev := bls_of t eb
          subst ev
          exact ⟨a, bs, rfl, hs, q.here S (.bl _)⟩
def dAny : List D → Hq → R D
  | [x], h => match (listD h x).bind (·.mapM blD) with
    | some bs => .ok (.bl (bs.any id)) h
    | none => .bad
  | _, _ => .bad
theorem ok_any : RCok X cm (rAny X.K) dAny := by
  intro al h H xs ds Q S rs q
  cases rs with
  | nil => exact q.elim
  | cons r1 rr =>
    cases rr with
    | cons _ _ => exact q.elim
    | nil =>
      rename_i d v
      simp only [dAny] at q
      cases e : listD h d with
      | none => rw [e] at q; exact q.elim
      | some es =>
        rw [e] at q
        simp only [Option.bind_some] at q
        cases eb : es.mapM blD with
        | none => rw [eb] at q; exact q.elim
        | some bs =>
          rw [eb] at q
          obtain ⟨a, vs, rfl, hs, t⟩ := listD_of S r1 e
          have ev := bls_of t eb
          subst ev
          exact ⟨a, bs, rfl, hs, q.here S (.bl _)⟩
def dMax2 : List D → Hq → R D
  | [.int i, .int j], h => .ok (.int (if j > i then j else i)) h
  | _, _ => .bad
theorem ok_max2 : RCok X cm (fun xs H Q => ∃ i j, xs = [.int i, .int j] ∧ Q (.int (if j > i then j else i)) H) dMax2 := by
  intro al h H xs ds Q S rs q
  cases rs with
  | nil => exact q.elim
  | cons r1 rr =>
    cases rr with
    | nil => cases r1 <;> exact q.elim
    | cons r2 rr =>
      cases rr with
      | cons _ _ => cases r1 <;> cases r2 <;> exact q.elim
      | nil =>
        cases r1 with
        | int i => cases r2 with
          | int j => exact ⟨i, j, rfl, q.here S (.int _)⟩
          | _ => exact q.elim
        | _ => exact q.elim
end
end Mach
end

section
set_option Elab.async false
set_option linter.all false
set_option maxRecDepth 100000
namespace Mach
open PySem PySem.Spec L2

/-! ### methods of lists -/
def gMt (f : D → List D → Hq → R D) (a : GE) (as : GA) : GE := fun lo h => (a lo h).bind fun x h1 => match listD h1 x with
  | none => .bad
  | some _ => (as lo h1).bind fun ds h2 => (f x ds h2).calm
def RMok (X : Cx) (cm : Str → Option Addr) (r : V → List V → Hp → VK → Prop) (f : D → List D → Hq → R D) : Prop :=
  ∀ al h H x xs dx ds (Q : VK), Sim X.K cm al h H → Rel X.K cm al H dx x → Rels X.K cm al H ds xs → Post X.K cm (relD X.K cm) al H Q (fun _ _ _ => False) (f dx ds h) → r x xs H Q
section
variable {X : Cx} {cm : Str → Option Addr} {W : WX} {a b c e o : Expr} {es : List Expr} {ga gb gc : GE} {gs : GA} {pos apos cpos : Pos} {K : PySem.W.Frag} {al : List Addr} {H : Hp} {name : Str} {id : String} {r : V → List V → Hp → VK → Prop} {f : D → List D → Hq → R D}
theorem mt_imp {to : TE} {t : TA} {σ : L2.St} {H : Hp} {Q : VK} (hr : RMok X cm r f) (ho : to = tE X.K cm W ga) (ha : t = tAr X.K cm W gs) (h : tE X.K cm W (gMt f ga gs) σ H Q) : tBM X.K "list" r to t σ H Q := by
  subst ho ha
  obtain ⟨al, lo, h, L, S, q⟩ := h
  refine ⟨al, lo, h, L, S, tE_bind (rel := relD X.K cm) q fun al1 h1 d v H1 e1 S1 r1 q1 => ?_⟩
  cases el : listD h1 d with
  | none => rw [el] at q1; exact q1.elim
  | some es =>
    rw [el] at q1
    refine ⟨?_, al1, lo, h1, L.mono e1.pre e1.keep, S1, tE_bind (rel := relA X.K cm) q1 fun al2 h2 ds vs H2 e2 S2 r2 q2 => ?_⟩
    · obtain ⟨p, vs, rfl, hs, _⟩ := listD_of S1 r1 el
      exact .inl ⟨rfl, vs, hs⟩
    · exact hr al2 h2 H2 v vs d ds Q S2 (r1.mono e2.pre e2.keep) r2 q2.calm
theorem me_mt (hr : RMok X cm r f) (slot : Slot "list" name id) (hty : typeOf (.builtin id) = pure (.type "method_descriptor")) (hm : MtR X id r) (ho : ME X cm W o ga) (ha : MA X cm W (e :: es) gs)
    (hBase : attributeBase o name X.env (eval o X.env) = eval o X.env := by rfl)
    (hFew : ((backTo cpos (starEach (e :: es) X.env)).all (fun x => !x.1) && (backToKw cpos (keywordEach [] X.env)).all (fun x => x.1.isSome) && decide ((e :: es).length + ([] : List Keyword).length + (if ([] : List Keyword).isEmpty then 0 else 1) < 30)) = true := by rfl)
    (hLine : (apos.endLine == cpos.line) = true := by rfl) (hs : starEach (e :: es) X.env = (false, eval e X.env) :: starEach es X.env := by rfl) (hPlain : (backTo cpos (starEach es X.env)).any (·.1) = false := by rfl) :
    ME X cm W (.Call (.Attribute o name apos) (e :: es) [] cpos) (gMt f ga gs) :=
  (pe_bm PySem.F.plainAttrs_list slot hty hm ho ha hBase hFew hLine hs hPlain).imp fun _ _ _ h => mt_imp hr rfl rfl h
theorem me_mt0 (hr : RMok X cm r f) (slot : Slot "list" name id) (hty : typeOf (.builtin id) = pure (.type "method_descriptor")) (hm : MtR X id r) (ho : ME X cm W o ga)
    (hBase : attributeBase o name X.env (eval o X.env) = eval o X.env := by rfl) (hLine : (apos.endLine == cpos.line) = true := by rfl) : ME X cm W (.Call (.Attribute o name apos) [] [] cpos) (gMt f ga gNil) := by
  refine (pe_bm0 PySem.F.plainAttrs_list slot hty hm ho hBase hLine).imp fun σ H Q h => ?_
  obtain ⟨al, lo, h, L, S, q⟩ := h
  refine ⟨al, lo, h, L, S, tE_bind (rel := relD X.K cm) q fun al1 h1 d v H1 e1 S1 r1 q1 => ?_⟩
  cases el : listD h1 d with
  | none => rw [el] at q1; exact q1.elim
  | some es =>
    rw [el] at q1
    refine ⟨?_, ?_⟩
    · obtain ⟨p, vs, rfl, hs, _⟩ := listD_of S1 r1 el
      exact .inl ⟨rfl, vs, hs⟩
    · exact hr al1 h1 H1 v [] d [] Q S1 r1 .nil (Post.calm q1)

def dAppend : D → List D → Hq → R D
  | .ref r, [d], h => match h[r]? with
    | some (.lst ds) => if ds.length < 1000000 then .ok .non (h.set r (.lst (ds ++ [d]))) else .bad
    | _ => .bad
  | _, _, _ => .bad
/-- a list of ours is written -/
theorem Post.wr {K : PySem.W.Frag} {α : Type} {al : List Addr} {H : Hp} {Q : VK} {E : XK} {d : D} {v : V} {h : Hq} {r : Nat} {p : Addr} {ds es : List D} {vs ws : List V} (q : Post K cm (relD K cm) al H Q E (.ok d (h.set r (.lst es)))) (S : Sim K cm al h H) (ea : al[r]? = some p) (eo : h[r]? = some (.lst ds)) (ev : H p = some (.lst vs))
    (t : Rels K cm al H es ws) (rd : Rel K cm al H d v) : Q v (upd H p (.lst ws)) :=
  q al _ v ⟨List.prefix_refl _, Keep.lst ev⟩ (S.write ea eo ev t) (rd.mono (List.prefix_refl _) (Keep.lst ev))
theorem ok_append : RMok X cm rAppend dAppend := by
  intro al h H x xs dx ds Q S rx rs q
  cases rx with
  | ref hx =>
    rename_i r p
    cases rs with
    | nil => exact q.elim
    | cons r1 rr =>
      cases rr with
      | cons _ _ => exact q.elim
      | nil =>
        simp only [dAppend] at q
        cases e : h[r]? with
        | none => rw [e] at q; exact q.elim
        | some ob =>
          rw [e] at q
          cases ob with
          | lst es =>
            simp only at q
            split at q
            · rename_i hl
              obtain ⟨vs, hv, tv⟩ := S.lstOf e hx
              exact ⟨p, vs, _, rfl, rfl, hv, by rw [← tv.length]; exact big_lt hl, q.wr (α := Unit) S hx e hv (tv.append (.cons r1 .nil)) .non⟩
            · exact q.elim
          | exc c fs => exact q.elim
          | _ => exact q.elim
  | _ => cases rs <;> exact q.elim
def dPopAt : D → List D → Hq → R D
  | .ref r, [.int i], h => match h[r]? with
    | some (.lst ds) => if -(2 ^ 62) ≤ i ∧ i < 2 ^ 62 then match seqIndex? i ds.length with
      | some k => match ds[k]? with
        | some d => .ok d (h.set r (.lst (ds.eraseIdx k)))
        | none => .bad
      | none => .bad
      else .bad
    | _ => .bad
  | _, _, _ => .bad
theorem ok_popAt : RMok X cm rPopAt dPopAt := by
  intro al h H x xs dx ds Q S rx rs q
  cases rx with
  | ref hx =>
    rename_i r p
    cases rs with
    | nil => exact q.elim
    | cons r1 rr =>
      cases rr with
      | cons _ _ => cases r1 <;> exact q.elim
      | nil =>
        cases r1 with
        | int i =>
          simp only [dPopAt] at q
          cases e : h[r]? with
          | none => rw [e] at q; exact q.elim
          | some ob =>
            rw [e] at q
            cases ob with
            | lst es =>
              simp only at q
              split at q
              · rename_i hl
                obtain ⟨vs, hv, tv⟩ := S.lstOf e hx
                cases ek : seqIndex? i es.length with
                | none => rw [ek] at q; exact q.elim
                | some k =>
                  rw [ek] at q
                  simp only at q
                  cases ed : es[k]? with
                  | none => rw [ed] at q; exact q.elim
                  | some d =>
                    rw [ed] at q
                    obtain ⟨v, ev, rv⟩ := tv.get ed
                    exact ⟨p, vs, i, k, v, rfl, rfl, hv, by omega, by omega, by rw [← tv.length]; exact ek, ev, q.wr (α := Unit) S hx e hv (tv.erase k) rv⟩
              · exact q.elim
            | exc c fs => exact q.elim
            | _ => exact q.elim
        | _ => exact q.elim
  | _ => cases rs <;> exact q.elim
def dInsert : D → List D → Hq → R D
  | .ref r, [.int i, d], h => match h[r]? with
    | some (.lst ds) => if ds.length < 1000000 ∧ 0 ≤ i ∧ i < 2 ^ 62 then .ok .non (h.set r (.lst (ds.take i.toNat ++ [d] ++ ds.drop i.toNat))) else .bad
    | _ => .bad
  | _, _, _ => .bad
def rInsert : V → List V → Hp → VK → Prop := fun x vs H Q => ∃ (l : Addr) (xs : List V) (i : Int) (y : V), x = .ref l ∧ vs = [.int i, y] ∧ H l = some (.lst xs) ∧ xs.length < sizeLine ∧ 0 ≤ i ∧ i < 2 ^ 63 ∧
    Q .non (upd H l (.lst (xs.take i.toNat ++ [y] ++ xs.drop i.toNat)))
theorem m_insert : MtR X "list.insert" rInsert := mt_insert
theorem ok_insert : RMok X cm rInsert dInsert := by
  intro al h H x xs dx ds Q S rx rs q
  cases rx with
  | ref hx =>
    rename_i r p
    cases rs with
    | nil => exact q.elim
    | cons r1 rr =>
      cases rr with
      | nil => cases r1 <;> exact q.elim
      | cons r2 rr =>
        cases rr with
        | cons _ _ => cases r1 <;> exact q.elim
        | nil =>
          cases r1 with
          | int i =>
            simp only [dInsert] at q
            cases e : h[r]? with
            | none => rw [e] at q; exact q.elim
            | some ob =>
              rw [e] at q
              cases ob with
              | lst es =>
                simp only at q
                split at q
                · rename_i hl
                  obtain ⟨vs, hv, tv⟩ := S.lstOf e hx
                  exact ⟨p, vs, i, _, rfl, rfl, hv, by rw [← tv.length]; exact big_lt hl.1, hl.2.1, by omega, q.wr (α := Unit) S hx e hv (((tv.take _).append (.cons r2 .nil)).append (tv.drop _)) .non⟩
                · exact q.elim
              | exc c fs => exact q.elim
              | _ => exact q.elim
          | _ => exact q.elim
  | _ => cases rs <;> exact q.elim
end

/-! ### statements -/
inductive SR where
  | nx (lo : Lo) (h : Hq) | rt (d : D) (h : Hq) | bk (lo : Lo) (h : Hq) | ct (lo : Lo) (h : Hq) | ex (c : Str) (fs : List (Str × D)) (lo : Lo) (h : Hq) | bad
abbrev GS := Lo → Hq → SR
def SR.seq (x : SR) (f : Lo → Hq → SR) : SR := match x with
  | .nx lo h => f lo h
  | y => y
def R.stm {α : Type} (x : R α) (lo : Lo) (f : α → Hq → SR) : SR := match x with
  | .ok a h => f a h
  | .ex c fs h => .ex c fs lo h
  | .bad => .bad
section
variable (K : PySem.W.Frag) (cm : Str → Option Addr)
def PostS (W : WX) (al : List Addr) (H : Hp) (D : Ends) : SR → Prop
  | .nx lo h => ∀ al' H' σ', Ext al H al' H' → Sim K cm al' h H' → LoR K cm al' H' lo σ' → D.nx σ' H'
  | .rt d h => ∀ al' H' v, Ext al H al' H' → Sim K cm al' h H' → Rel K cm al' H' d v → D.rt v H'
  | .bk lo h => ∀ al' H' σ', Ext al H al' H' → Sim K cm al' h H' → LoR K cm al' H' lo σ' → D.bk σ' H'
  | .ct lo h => ∀ al' H' σ', Ext al H al' H' → Sim K cm al' h H' → LoR K cm al' H' lo σ' → D.ct σ' H'
  | .ex c fs lo h => ∀ al' H' cls d σ', Ext al H al' H' → Sim K cm al' h H' → ExR K cm al' H' c fs cls d → LoR K cm al' H' lo σ' → W cls d σ' H'
  | .bad => False
def tS (W : WX) (g : GS) : TS := fun D σ H => ∃ al lo h, LoR K cm al H lo σ ∧ Sim K cm al h H ∧ PostS K cm W al H D (g lo h)
end
def MS (X : Cx) (cm : Str → Option Addr) (W : WX) (s : Stmt) (g : GS) : Prop := PS X s (tS X.K cm W g)
def MSs (X : Cx) (cm : Str → Option Addr) (W : WX) (s : List Stmt) (g : GS) : Prop := PSs X s (tS X.K cm W g)
section
variable {K : PySem.W.Frag} {cm : Str → Option Addr} {W : WX} {al al1 : List Addr} {H H1 : Hp} {Dn : Ends} {σ : L2.St} {lo : Lo}
theorem PostS.later {x : SR} (e1 : Ext al H al1 H1) (h : PostS K cm W al H Dn x) : PostS K cm W al1 H1 Dn x := by
  cases x with
  | nx lo h' => exact fun al' H' s e => h al' H' s (e1.trans e)
  | rt d h' => exact fun al' H' s e => h al' H' s (e1.trans e)
  | bk lo h' => exact fun al' H' s e => h al' H' s (e1.trans e)
  | ct lo h' => exact fun al' H' s e => h al' H' s (e1.trans e)
  | ex c fs lo h' => exact fun al' H' c d s e => h al' H' c d s (e1.trans e)
  | bad => exact h
theorem PostS.stm {α β : Type} {rel : List Addr → Hp → α → β → Prop} {x : R α} {f : α → Hq → SR} {T : β → Hp → Prop} (L : LoR K cm al H lo σ) (h : PostS K cm W al H Dn (x.stm lo f))
    (k : ∀ al' h' a b H', Ext al H al' H' → Sim K cm al' h' H' → rel al' H' a b → LoR K cm al' H' lo σ → PostS K cm W al' H' Dn (f a h') → T b H') : Post K cm rel al H T (fun c d H' => W c d σ H') x := by
  cases x with
  | ok a h' => exact fun al' H' b e s r => k al' h' a b H' e s r (L.mono e.pre e.keep) (PostS.later e h)
  | ex c fs h' => exact fun al' H' cls d e s r => h al' H' cls d σ e s r (L.mono e.pre e.keep)
  | bad => exact h
theorem PostS.nx (q : PostS K cm W al H Dn (.nx lo h')) (S : Sim K cm al h' H) (L : LoR K cm al H lo σ) : Dn.nx σ H := q al H σ (Ext.refl _ _) S L
end

def sNil : GS := fun lo h => .nx lo h
def sSeq (a b : GS) : GS := fun lo h => (a lo h).seq b
def sExpr (a : GE) : GS := fun lo h => (a lo h).stm lo fun _ h1 => .nx lo h1
def sRet (a : GE) : GS := fun lo h => (a lo h).stm lo fun d h1 => .rt d h1
def sRetN : GS := fun _ h => .rt .non h
def sIf (c : GT) (a b : GS) : GS := fun lo h => (c lo h).stm lo fun x h1 => if x = true then a lo h1 else b lo h1
def sAsg (a : GE) (t : D → Lo → Option Lo) : GS := fun lo h => (a lo h).stm lo fun d h1 => match t d lo with
  | some lo' => .nx lo' h1
  | none => .bad
def sBk : GS := fun lo h => .bk lo h
def sCt : GS := fun lo h => .ct lo h
/-- o[i] = e: first e, then o, then i -/
def sSetIx (o i e : GE) : GS := fun lo h => (e lo h).stm lo fun d h1 => (o lo h1).stm lo fun x h2 => (i lo h2).stm lo fun k h3 => match x, k with
  | .ref r, .int n => match h3[r]? with
    | some (.lst ds) => match ixN ds.length n with
      | some j => .nx lo (h3.set r (.lst (ds.set j d)))
      | none => .bad
    | _ => .bad
  | _, _ => .bad
/-- where a value goes: a name's slot, or the names of a tuple -/
inductive Tg where
  | nm (i : Nat) | tp (is : List Nat)
def setAll : List Nat → List D → Lo → Option Lo
  | [], [], lo => some lo
  | i :: is, d :: ds, lo => setAll is ds (lo.set i (some d))
  | _, _, _ => none
def Tg.f : Tg → D → Lo → Option Lo
  | .nm i, d, lo => some (lo.set i (some d))
  | .tp is, .tup ds, lo => setAll is ds lo
  | .tp _, _, _ => none
def gAll : List Nat → TGs
  | [] => L2.gNil
  | i :: is => L2.gCons (gName i) (gAll is)
def Tg.g (K : PySem.W.Frag) : Tg → TG
  | .nm i => gName i
  | .tp is => L2.gTup K is.length (gAll is)
def Tg.vs : Tg → List Nat
  | .nm i => [i]
  | .tp is => is
def MG (X : Cx) (e : Expr) (t : Tg) : Prop := PG X e (t.g X.K)
section
variable {X : Cx} {cm : Str → Option Addr} {W : WX} {e : Expr} {pos : Pos}
theorem mg_nm {i : Nat} {x : Str} (hN : X.N.Nodup) (hi : X.N[i]? = some x) (hx : Loc X.env.scope x) (hf : X.fn x = true ∨ X.env.scope.names.lookup x = some .local := by first | exact .inl rfl | exact .inr rfl | assumption) : MG X (.Name x pos) (.nm i) := pg_name hN hi hx hf
def MGs (X : Cx) (es : List Expr) (is : List Nat) : Prop := PGs X es (gAll is)
theorem mgs_nil : MGs X [] [] := pgs_nil
theorem mgs_cons {es : List Expr} {i : Nat} {is : List Nat} {x : Str} {p : Pos} (hN : X.N.Nodup) (hi : X.N[i]? = some x) (hx : Loc X.env.scope x) (h2 : MGs X es is) (hf : X.fn x = true ∨ X.env.scope.names.lookup x = some .local := by first | exact .inl rfl | exact .inr rfl | assumption)
   (hs : (assignEach (.Name x p :: es) X.env).map (·.2) = assign (.Name x p) X.env :: (assignEach es X.env).map (·.2) := by rfl) : MGs X (.Name x p :: es) (i :: is) := pgs_cons (pg_name hN hi hx hf) h2 hs
theorem mg_tp {es : List Expr} {k : Nat} {is : List Nat} (hc : X.calm = true) (h : MGs X es is) (hn : (assignEach es X.env).length = is.length := by rfl) (hst : (assignEach es X.env).findIdx? (·.1) = none := by rfl) : MG X (.Tuple es k pos) (.tp is) := pg_tup hc h hn hst

theorem gAll_ok {K : PySem.W.Frag} {al : List Addr} {H : Hp} : ∀ {is : List Nat} {ds : List D} {vs : List V} {lo lo' : Lo} {σ : L2.St} {Q : L2.St → Hp → Prop}, Rels K cm al H ds vs → LoR K cm al H lo σ → setAll is ds lo = some lo' →
    (∀ σ', LoR K cm al H lo' σ' → (∀ j, j ∉ is → σ'[j]? = σ[j]?) → σ'.length = σ.length → Q σ' H) → gAll is vs σ H Q
  | [], ds, vs, lo, lo', σ, Q, r, L, e, q => by
    cases r with
    | nil => cases e; exact ⟨rfl, q σ L (fun _ _ => rfl) rfl⟩
    | cons _ _ => cases e
  | i :: is, ds, vs, lo, lo', σ, Q, r, L, e, q => by
    cases r with
    | nil => cases e
    | cons r1 rr =>
      refine ⟨_, _, rfl, ?_⟩
      refine gAll_ok rr (L.set r1 i) e fun σ' L' hj hl => q σ' L' (fun j hn => ?_) (by rw [hl]; simp)
      rw [hj j (fun z => hn (List.mem_cons_of_mem _ z)), List.getElem?_set_ne (fun z => hn (by rw [z]; exact List.mem_cons_self))]
theorem setAll_len : ∀ {is : List Nat} {ds : List D} {lo lo' : Lo}, setAll is ds lo = some lo' → ds.length = is.length
  | [], [], _, _, _ => rfl
  | [], _ :: _, _, _, e => nomatch e
  | _ :: _, [], _, _, e => nomatch e
  | i :: is, d :: ds, lo, lo', e => by
    have e : setAll is ds (lo.set i (some d)) = some lo' := e
    simp [setAll_len e]
theorem tg_ok {K : PySem.W.Frag} {al : List Addr} {H : Hp} {t : Tg} {d : D} {v : V} {lo lo' : Lo} {σ : L2.St} {Q : L2.St → Hp → Prop} (r : Rel K cm al H d v) (L : LoR K cm al H lo σ) (e : t.f d lo = some lo')
    (q : ∀ σ', LoR K cm al H lo' σ' → (∀ j, j ∉ t.vs → σ'[j]? = σ[j]?) → σ'.length = σ.length → Q σ' H) : t.g K v σ H Q := by
  cases t with
  | nm i =>
    cases e
    exact q _ (L.set r i) (fun j hj => List.getElem?_set_ne (fun z => hj (by rw [z]; exact List.mem_singleton.mpr rfl))) (by simp)
  | tp is =>
    cases r with
    | tup hx tx =>
      rename_i ds vs a
      refine ⟨a, vs, rfl, hx.sq, ?_, gAll_ok tx L e q⟩
      rw [← tx.length]
      exact setAll_len e
    | _ => cases e

variable {st : Stmt} {rest : List Stmt} {g1 g2 : GS} {ga gb gc go gi : GE} {gt : GT}
theorem mss_nil : MSs X cm W [] sNil := pss_nil.imp fun D σ H h => by
  obtain ⟨al, lo, h, L, S, q⟩ := h
  exact q.nx S L
theorem mss_cons (h1 : MS X cm W st g1) (h2 : MSs X cm W rest g2) : MSs X cm W (st :: rest) (sSeq g1 g2) := by
  refine (pss_cons h1 h2).imp fun D σ H h => ?_
  obtain ⟨al, lo, h, L, S, q⟩ := h
  refine ⟨al, lo, h, L, S, ?_⟩
  unfold sSeq at q
  cases hx : g1 lo h with
  | nx lo' h' =>
    rw [hx] at q
    exact fun al' H' σ' e s l => ⟨al', lo', h', l, s, PostS.later e q⟩
  | rt d h' => rw [hx] at q; exact q
  | bk lo' h' => rw [hx] at q; exact q
  | ct lo' h' => rw [hx] at q; exact q
  | ex c fs lo' h' => rw [hx] at q; exact q
  | bad => rw [hx] at q; exact q
theorem mss_one (h1 : MS X cm W st g1) : MSs X cm W [st] g1 := pss_one h1
theorem ms_pass : MS X cm W (.Pass pos) sNil := ps_pass.imp fun D σ H h => by
  obtain ⟨al, lo, h, L, S, q⟩ := h
  exact q.nx S L
theorem ms_bk : MS X cm W (.Break pos) sBk := ps_break.imp fun D σ H h => by
  obtain ⟨al, lo, h, L, S, q⟩ := h
  exact q al H σ (Ext.refl _ _) S L
theorem ms_ct : MS X cm W (.Continue pos) sCt := ps_continue.imp fun D σ H h => by
  obtain ⟨al, lo, h, L, S, q⟩ := h
  exact q al H σ (Ext.refl _ _) S L
theorem ms_doc {x j p} : MS X cm W (.Expr (.Constant (.str x) j p) pos) sNil := ps_doc.imp fun D σ H h => by
  obtain ⟨al, lo, h, L, S, q⟩ := h
  exact q.nx S L
theorem ms_expr (he : ME X cm W e ga) (hs : swapsWith e none pos.line X.env = pure false := by rfl) : MS X cm W (.Expr e pos) (sExpr ga) := by
  refine (ps_expr he hs).imp fun D σ H h => ?_
  obtain ⟨al, lo, h, L, S, q⟩ := h
  exact ⟨al, lo, h, L, S, PostS.stm (rel := relD X.K cm) L q fun al1 h1 d v H1 e1 S1 r1 L1 q1 => q1.nx S1 L1⟩
theorem ms_ret (he : ME X cm W e ga) : MS X cm W (.Return (some e) pos) (sRet ga) := by
  refine (ps_ret he).imp fun D σ H h => ?_
  obtain ⟨al, lo, h, L, S, q⟩ := h
  exact ⟨al, lo, h, L, S, PostS.stm (rel := relD X.K cm) L q fun al1 h1 d v H1 e1 S1 r1 L1 q1 => q1 al1 H1 v (Ext.refl _ _) S1 r1⟩
theorem ms_retN : MS X cm W (.Return none pos) sRetN := ps_retN.imp fun D σ H h => by
  obtain ⟨al, lo, h, L, S, q⟩ := h
  exact q al H _ (Ext.refl _ _) S .non
theorem ms_if {c : Expr} {a b : List Stmt} (hc : MT X cm W c gt) (ha : MSs X cm W a g1) (hb : MSs X cm W b g2) : MS X cm W (.If c a b pos) (sIf gt g1 g2) := by
  refine (ps_if hc ha hb).imp fun D σ H h => ?_
  obtain ⟨al, lo, h, L, S, q⟩ := h
  refine ⟨al, lo, h, L, S, PostS.stm (rel := relB) L q fun al1 h1 d v H1 e1 S1 r1 L1 q1 => ?_⟩
  cases r1
  cases d with
  | true => exact ⟨al1, lo, h1, L1, S1, q1⟩
  | false => exact ⟨al1, lo, h1, L1, S1, q1⟩
theorem ms_asg {tg : Expr} {t : Tg} (he : ME X cm W e ga) (hg : MG X tg t) (hs : swapsWithSole [tg] e pos.line X.env = pure false := by rfl) (hw : swappedStores [tg] e X.env = pure none := by rfl)
    (h1 : (assignEach [tg] X.env).map (·.2) = [assign tg X.env] := by rfl) : MS X cm W (.Assign [tg] e pos) (sAsg ga t.f) := by
  refine (ps_asg he hg hs hw h1).imp fun D σ H h => ?_
  obtain ⟨al, lo, h, L, S, q⟩ := h
  refine ⟨al, lo, h, L, S, PostS.stm (rel := relD X.K cm) L q fun al1 h1 d v H1 e1 S1 r1 L1 q1 => ?_⟩
  cases et : t.f d lo with
  | none => rw [et] at q1; exact q1.elim
  | some lo' =>
    rw [et] at q1
    exact tg_ok r1 L1 et fun σ' L' _ _ => q1.nx S1 L'
theorem ms_setIx {o i : Expr} {tpos : Pos} (ho : ME X cm W o go) (hi : ME X cm W i gi) (he : ME X cm W e ga)
    (hs : swapsWithSole [.Subscript o i tpos] e pos.line X.env = pure false := by rfl) (hw : swappedStores [.Subscript o i tpos] e X.env = pure none := by rfl) (hx : PSet X rSetL := by exact set_list)
    (hg : ∀ (to ti : TE), PE X o to → PE X i ti → PG X (.Subscript o i tpos) (gSub to ti rSetL) := by intro to ti ho hi; exact pg_sub ho hi set_list) :
    MS X cm W (.Assign [.Subscript o i tpos] e pos) (sSetIx go gi ga) := by
  refine (ps_asg he (hg _ _ ho hi) hs hw).imp fun D σ H h => ?_
  obtain ⟨al, lo, h, L, S, q⟩ := h
  refine ⟨al, lo, h, L, S, PostS.stm (rel := relD X.K cm) L q fun al1 h1 d v H1 e1 S1 r1 L1 q1 => ?_⟩
  refine ⟨al1, lo, h1, L1, S1, PostS.stm (rel := relD X.K cm) L1 q1 fun al2 h2 x xv H2 e2 S2 r2 L2' q2 => ?_⟩
  refine ⟨al2, lo, h2, L2', S2, PostS.stm (rel := relD X.K cm) L2' q2 fun al3 h3 k kv H3 e3 S3 r3 L3 q3 => ?_⟩
  have r2' := r2.mono e3.pre e3.keep
  cases r2' with
  | ref hx =>
    cases r3 with
    | int n =>
      rename_i r p
      simp only at q3
      cases e0 : h3[r]? with
      | none => rw [e0] at q3; exact q3.elim
      | some ob =>
        rw [e0] at q3
        cases ob with
        | lst ds =>
          simp only at q3
          cases ej : ixN ds.length n with
          | none => rw [ej] at q3; exact q3.elim
          | some j =>
            rw [ej] at q3
            obtain ⟨vs, hv, tv⟩ := S3.lstOf e0 hx
            have rd := r1.mono (e2.trans e3).pre (e2.trans e3).keep
            refine ⟨p, vs, n, j, rfl, rfl, hv, by rw [← tv.length]; exact ej, ?_⟩
            exact q3 al3 _ σ ⟨List.prefix_refl _, Keep.lst hv⟩ (S3.write hx e0 hv (tv.set j rd)) (L3.mono (List.prefix_refl _) (Keep.lst hv))
        | exc c fs => exact q3.elim
        | _ => exact q3.elim
    | _ => exact q3.elim
  | _ => exact q3.elim
end
end Mach
end

section
set_option Elab.async false
set_option linter.all false
set_option maxRecDepth 100000
namespace Mach
open PySem PySem.Spec L2

/-! ### what is walked -/
inductive Src where
  | fix (ds : List D) | lst (r : Nat) | enl (r : Nat) | zpl (ds : List D) (r : Nat)
def Src.at : Src → Nat → Hq → Option (Option D)
  | .fix ds, i, _ => some ds[i]?
  | .lst r, i, h => match h[r]? with
    | some (.lst es) => some es[i]?
    | _ => none
  | .enl r, i, h => match h[r]? with
    | some (.lst es) => some (es[i]?.map fun d => .tup [.int i, d])
    | _ => none
  | .zpl ds r, i, h => match h[r]? with
    | some (.lst es) => if i ≤ ds.length ∧ i ≤ es.length then some (ds[i]?.bind fun a => es[i]?.map fun b => .tup [a, b]) else none
    | _ => none
def Src.cnt : Src → Hq → Nat
  | .fix ds, _ => ds.length
  | .lst r, h => match h[r]? with
    | some (.lst es) => es.length
    | _ => 0
  | .enl r, h => match h[r]? with
    | some (.lst es) => es.length
    | _ => 0
  | .zpl ds _, _ => ds.length
abbrev GI := Lo → Hq → R Src
section
variable (K : PySem.W.Frag) (cm : Str → Option Addr)
def ItR (al : List Addr) (H : Hp) (src : Src) (J : It) : Prop := ∀ al1 H1 h1 i, Ext al H al1 H1 → Sim K cm al1 h1 H1 →
  (src.at i h1 = some none → J.stop i H1) ∧ ∀ d, src.at i h1 = some (some d) → J.go i H1 ∧ ∀ x H2, J.yld i H1 x H2 → Keep H1 H2 ∧ (∀ a ∈ al1, H2 a = H1 a) ∧ Rel K cm al1 H2 d x
def tI (W : WX) (g : GI) : TI := fun σ H R => ∃ al lo h, LoR K cm al H lo σ ∧ Sim K cm al h H ∧ Post K cm (ItR K cm) al H R (fun c d H' => W c d σ H') (g lo h)
end
def MI (X : Cx) (cm : Str → Option Addr) (W : WX) (tg e : Expr) (g : GI) : Prop := PI X tg e (tI X.K cm W g)
theorem _root_.L2.PI.imp {X : Cx} {tg e : Expr} {t t' : TI} (p : PI X tg e t) (h : ∀ σ H Q, t' σ H Q → t σ H Q) : PI X tg e t' := ⟨fun pins s σ H Q I hw => p.run pins s σ H Q I (h σ H Q hw)⟩
theorem ItR.later {K : PySem.W.Frag} {cm : Str → Option Addr} {al al1 : List Addr} {H H1 : Hp} {src : Src} {J : It} (h : ItR K cm al H src J) (e : Ext al H al1 H1) : ItR K cm al1 H1 src J := fun a b c i x => h a b c i (e.trans x)

def forL (src : Src) (t : Tg) (body : GS) : Nat → Nat → Lo → Hq → SR
  | 0, i, lo, h => match src.at i h with
    | some none => .nx lo h
    | _ => .bad
  | n + 1, i, lo, h => match src.at i h with
    | some none => .nx lo h
    | some (some d) => match t.f d lo with
      | none => .bad
      | some lo1 => match body lo1 h with
        | .nx lo2 h2 => forL src t body n (i + 1) lo2 h2
        | .ct lo2 h2 => forL src t body n (i + 1) lo2 h2
        | .bk lo2 h2 => .nx lo2 h2
        | .rt d h2 => .rt d h2
        | .ex c fs lo2 h2 => .ex c fs lo2 h2
        | .bad => .bad
    | none => .bad
def sFor (gi : GI) (t : Tg) (body : GS) : GS := fun lo h => (gi lo h).stm lo fun src h1 => forL src t body (src.cnt h1) 0 lo h1

section
variable {X : Cx} {cm : Str → Option Addr} {W : WX} {tg iter : Expr} {pos : Pos} {gi : GI} {t : Tg} {body : List Stmt} {gb : GS}
theorem ms_for (hp : PassesOwn (model X.prog X.w) X.A X.env X.xe) (hc : X.calm = true) (hi : MI X cm W tg iter gi) (hg : MG X tg t) (hb : MSs X cm W body gb) (hst : ∀ x, foldedSetIterable iter X.env x = pure x := by intro _; rfl) : MS X cm W (.For tg iter body [] pos) (sFor gi t gb) := by
  refine (ps_for hp hc hi hg hb hst).imp fun D σ H h => ?_
  obtain ⟨al, lo, h, L, S, q⟩ := h
  refine ⟨al, lo, h, L, S, PostS.stm (rel := ItR X.K cm) L q fun al1 h1 src J H1 e1 S1 r1 L1 q1 => ?_⟩
  refine ⟨fun i m σ H => ∃ al lo h, ItR X.K cm al H src J ∧ LoR X.K cm al H lo σ ∧ Sim X.K cm al h H ∧ PostS X.K cm W al H D (forL src t gb m i lo h), ⟨_, al1, lo, h1, r1, L1, S1, q1⟩, ?_⟩
  intro i m σ H hw
  obtain ⟨al, lo, h, r, L, S, q⟩ := hw
  have J1 := r al H h i (Ext.refl _ _) S
  have stop : src.at i h = some none → PostS X.K cm W al H D (.nx lo h) → (J.stop i H ∧ D.nx σ H) := fun e q => ⟨J1.1 e, q.nx S L⟩
  cases m with
  | zero =>
    unfold forL at q
    cases e : src.at i h with
    | none => rw [e] at q; exact q.elim
    | some o =>
      rw [e] at q
      cases o with
      | none => exact .inl (stop e q)
      | some d => exact q.elim
  | succ m =>
    unfold forL at q
    cases e : src.at i h with
    | none => rw [e] at q; exact q.elim
    | some o =>
      rw [e] at q
      cases o with
      | none => exact .inl (stop e q)
      | some d =>
        obtain ⟨hgo, hy⟩ := J1.2 d e
        refine .inr ⟨hgo, fun σ' H' => ∃ al lo h, ItR X.K cm al H' src J ∧ LoR X.K cm al H' lo σ' ∧ Sim X.K cm al h H' ∧ PostS X.K cm W al H' D (forL src t gb m (i + 1) lo h), fun σ' H' hn => ⟨m, Nat.lt_succ_self m, hn⟩, fun x H' y => ?_⟩
        obtain ⟨k, same, rx⟩ := hy x H' y
        have e2 : Ext al H al H' := ⟨List.prefix_refl _, k⟩
        have S2 : Sim X.K cm al h H' := S.keep k same
        have L2' := L.mono e2.pre e2.keep
        simp only at q
        cases et : t.f d lo with
        | none => rw [et] at q; exact q.elim
        | some lo1 =>
          rw [et] at q
          refine tg_ok rx L2' et fun σ' L3 _ _ => ⟨al, lo1, h, L3, S2, ?_⟩
          have q := PostS.later e2 q
          simp only at q
          cases eb : gb lo1 h with
          | nx lo2 h2 =>
            rw [eb] at q
            exact fun al' H2 σ2 e S' L' => ⟨al', lo2, h2, (r.later e2).later e, L', S', PostS.later e q⟩
          | ct lo2 h2 =>
            rw [eb] at q
            exact fun al' H2 σ2 e S' L' => ⟨al', lo2, h2, (r.later e2).later e, L', S', PostS.later e q⟩
          | bk lo2 h2 => rw [eb] at q; exact q
          | rt d2 h2 => rw [eb] at q; exact q
          | ex c fs lo2 h2 => rw [eb] at q; exact q
          | bad => rw [eb] at q; exact q

/-! ### while -/
def whL (c : GT) (body : GS) : Nat → Lo → Hq → SR
  | 0, _, _ => .bad
  | n + 1, lo, h => (c lo h).stm lo fun b h1 => if b = true then (match body lo h1 with
      | .nx lo2 h2 => whL c body n lo2 h2
      | .ct lo2 h2 => whL c body n lo2 h2
      | .bk lo2 h2 => .nx lo2 h2
      | .rt d h2 => .rt d h2
      | .ex c fs lo2 h2 => .ex c fs lo2 h2
      | .bad => .bad) else .nx lo h1
def sWh (n : Nat) (c : GT) (body : GS) : GS := fun lo h => whL c body n lo h
theorem ms_wh {n : Nat} {c : Expr} {gt : GT} (hp : PassesOwn (model X.prog X.w) X.A X.env X.xe) (hc : MT X cm W c gt) (hb : MSs X cm W body gb) : MS X cm W (.While c body [] pos) (sWh n gt gb) := by
  refine (ps_while hp hc hb).imp fun D σ H h => ?_
  obtain ⟨al, lo, h, L, S, q⟩ := h
  refine ⟨fun m σ H => ∃ al lo h, LoR X.K cm al H lo σ ∧ Sim X.K cm al h H ∧ PostS X.K cm W al H D (whL gt gb m lo h), ⟨n, al, lo, h, L, S, q⟩, ?_⟩
  intro m σ H hw
  obtain ⟨al, lo, h, L, S, q⟩ := hw
  cases m with
  | zero => exact q.elim
  | succ m =>
    unfold whL at q
    refine ⟨al, lo, h, L, S, PostS.stm (rel := relB) L q fun al1 h1 d v H1 e1 S1 r1 L1 q1 => ?_⟩
    cases r1
    cases d with
    | false => exact q1.nx S1 L1
    | true =>
      refine ⟨fun σ' H' => ∃ al lo h, LoR X.K cm al H' lo σ' ∧ Sim X.K cm al h H' ∧ PostS X.K cm W al H' D (whL gt gb m lo h), fun σ' H' hn => ⟨m, Nat.lt_succ_self m, hn⟩, al1, lo, h1, L1, S1, ?_⟩
      simp only [if_true] at q1
      cases eb : gb lo h1 with
      | nx lo2 h2 =>
        rw [eb] at q1
        exact fun al' H2 σ2 e S' L' => ⟨al', lo2, h2, L', S', PostS.later e q1⟩
      | ct lo2 h2 =>
        rw [eb] at q1
        exact fun al' H2 σ2 e S' L' => ⟨al', lo2, h2, L', S', PostS.later e q1⟩
      | bk lo2 h2 => rw [eb] at q1; exact q1
      | rt d2 h2 => rw [eb] at q1; exact q1
      | ex c fs lo2 h2 => rw [eb] at q1; exact q1
      | bad => rw [eb] at q1; exact q1

/-! ### what may be walked -/
def iFix (f : D → Option (List D)) (a : GE) : GI := fun lo h => (a lo h).bind fun x h1 => match x with
  | .tup ds => .ok (.fix ds) h1
  | _ => .bad
/-- a tuple -/
def iTupG (a : GE) : GI := fun lo h => (a lo h).bind fun x h1 => match x with
  | .tup ds => .ok (.fix ds) h1
  | _ => .bad
/-- a list -/
def iLstG (a : GE) : GI := fun lo h => (a lo h).bind fun x h1 => match x with
  | .rol ds => .ok (.fix ds) h1
  | .ref r => match h1[r]? with
    | some (.lst _) => .ok (.lst r) h1
    | _ => .bad
  | _ => .bad
def rngD (lo : Int) (n : Nat) : List D := (List.range n).map fun i : Nat => .int (lo + i)
def iRngG1 (a : GA) : GI := fun lo h => (a lo h).bind fun x h1 => match x with
  | [.int j] => if -(2 ^ 62) ≤ j ∧ j < 2 ^ 62 then .ok (.fix (rngD 0 j.toNat)) h1 else .bad
  | _ => .bad
def iRngG2 (a : GA) : GI := fun lo h => (a lo h).bind fun x h1 => match x with
  | [.int i, .int j] => if -(2 ^ 62) ≤ i ∧ i < 2 ^ 62 ∧ -(2 ^ 62) ≤ j ∧ j < 2 ^ 62 then .ok (.fix (rngD i (j - i).toNat)) h1 else .bad
  | _ => .bad
/-- enumerate of a list -/
def enuD (ds : List D) : List D := (List.range ds.length).map fun i : Nat => .tup [.int i, ds.getD i .non]
def iEnuG (a : GA) : GI := fun lo h => (a lo h).bind fun x h1 => match x with
  | [.rol ds] => .ok (.fix (enuD ds)) h1
  | [.ref r] => match h1[r]? with
    | some (.lst _) => .ok (.enl r) h1
    | _ => .bad
  | _ => .bad
variable {e : Expr} {es : List Expr} {ga : GE} {gs : GA} {K : PySem.W.Frag} {al : List Addr} {H : Hp}
theorem Rels.none {ds : List D} {vs : List V} {i : Nat} (t : Rels K cm al H ds vs) (e : ds[i]? = none) : vs.length ≤ i := by
  rw [← t.length]
  exact List.getElem?_eq_none_iff.mp e
theorem sqT_inj {X : Cx} {pins : List (Addr × Obj)} {σ : L2.St} {H : Hp} {s : Shared} (I : Inv X pins σ H s) {a : Addr} {xs ys : List V} (h : SqT X.K H a xs) (h' : SqT X.K H a ys) : xs = ys := I.tuple_inj h h'
/-- the tuple at a is walked; two readings of it agree, as the item tells -/
theorem itR_tup {ds : List D} {vs : List V} {a : Addr} (hx : SqT K H a vs) (t : Rels K cm al H ds vs) : ItR K cm al H (.fix ds) (Itt K a) := by
  intro al1 H1 h1 i e S
  refine ⟨fun q => ?_, fun d q => ?_⟩
  · have q : ds[i]? = none := Option.some.inj q
    exact ⟨vs, e.keep.sqT hx, t.none q⟩
  · have q : ds[i]? = some d := Option.some.inj q
    obtain ⟨v, ev, rv⟩ := t.get q
    refine ⟨⟨vs, v, e.keep.sqT hx, ev⟩, fun x H2 y => ?_⟩
    obtain ⟨rfl, y⟩ := y
    have z := y vs (e.keep.sqT hx)
    rw [ev] at z
    cases z
    exact ⟨Keep.refl _, fun _ _ => rfl, rv.mono e.pre e.keep⟩
theorem itR_rol {ds : List D} {vs : List V} {a : Addr} (hx : FzL K H a vs) (t : Rels K cm al H ds vs) : ItR K cm al H (.fix ds) (Itl K a) := by
  intro al1 H1 h1 i e S
  have hq := (e.keep.fzL hx).sq
  refine ⟨fun q => ?_, fun d q => ?_⟩
  · have q : ds[i]? = none := Option.some.inj q
    exact ⟨vs, hq, t.none q⟩
  · have q : ds[i]? = some d := Option.some.inj q
    obtain ⟨v, ev, rv⟩ := t.get q
    refine ⟨⟨vs, v, hq, ev⟩, fun x H2 y => ?_⟩
    obtain ⟨rfl, y⟩ := y
    have z := y vs hq
    rw [ev] at z
    cases z
    exact ⟨Keep.refl _, fun _ _ => rfl, rv.mono e.pre e.keep⟩
theorem itR_lst {r : Nat} {a : Addr} (ha : al[r]? = some a) : ItR K cm al H (.lst r) (Itl K a) := by
  intro al1 H1 h1 i e S
  have ha1 := pre_get e.pre ha
  refine ⟨fun q => ?_, fun d q => ?_⟩
  · simp only [Src.at] at q
    split at q
    · rename_i es eh
      have q : es[i]? = none := Option.some.inj q
      obtain ⟨vs, hv, t⟩ := S.lstOf eh ha1
      exact ⟨vs, SqL.of hv, t.none q⟩
    · cases q
  · simp only [Src.at] at q
    split at q
    · rename_i es eh
      have q : es[i]? = some d := Option.some.inj q
      obtain ⟨vs, hv, t⟩ := S.lstOf eh ha1
      obtain ⟨v, ev, rv⟩ := t.get q
      refine ⟨⟨vs, v, SqL.of hv, ev⟩, fun x H2 y => ?_⟩
      obtain ⟨rfl, y⟩ := y
      have z := y vs (SqL.of hv)
      rw [ev] at z
      cases z
      exact ⟨Keep.refl _, fun _ _ => rfl, rv⟩
    · cases q
theorem rngD_at {lo : Int} {n i : Nat} : (rngD lo n)[i]? = if i < n then some (.int (lo + i)) else none := by
  unfold rngD
  rw [List.getElem?_map]
  by_cases h : i < n
  · rw [if_pos h, List.getElem?_range h]; rfl
  · rw [if_neg h, List.getElem?_eq_none (by simpa using Nat.le_of_not_lt h)]; rfl
theorem itR_rng {lo : Int} {n : Nat} : ItR K cm al H (.fix (rngD lo n)) (Itr lo n) := by
  intro al1 H1 h1 i e S
  refine ⟨fun q => ?_, fun d q => ?_⟩
  · have q : (rngD lo n)[i]? = none := Option.some.inj q
    rw [rngD_at] at q
    split at q
    · cases q
    · rename_i hn
      exact Nat.le_of_not_lt hn
  · have q : (rngD lo n)[i]? = some d := Option.some.inj q
    rw [rngD_at] at q
    split at q
    · rename_i hn
      cases q
      refine ⟨hn, fun x H2 y => ?_⟩
      obtain ⟨rfl, rfl⟩ := y
      exact ⟨Keep.refl _, fun _ _ => rfl, .int _⟩
    · cases q
theorem mi_tup (he : ME X cm W e ga) : MI X cm W tg e (iTupG ga) := by
  refine (pi_tup he).imp fun σ H R h => ?_
  obtain ⟨al, lo, h, L, S, q⟩ := h
  refine ⟨al, lo, h, L, S, tE_bind (rel := relD X.K cm) q fun al1 h1 d v H1 e1 S1 r1 q1 => ?_⟩
  cases r1 with
  | tup hx t => exact ⟨_, rfl, ⟨_, hx.sq⟩, q1.here S1 (itR_tup hx.sq t)⟩
  | _ => exact q1.elim
theorem mi_lst (he : ME X cm W e ga) : MI X cm W tg e (iLstG ga) := by
  refine (pi_list he).imp fun σ H R h => ?_
  obtain ⟨al, lo, h, L, S, q⟩ := h
  refine ⟨al, lo, h, L, S, tE_bind (rel := relD X.K cm) q fun al1 h1 d v H1 e1 S1 r1 q1 => ?_⟩
  cases r1 with
  | rol hx t => exact ⟨_, rfl, ⟨_, hx.sq⟩, q1.here S1 (itR_rol hx t)⟩
  | ref hx =>
    rename_i r a
    simp only at q1
    split at q1
    · rename_i es eh
      obtain ⟨vs, hv, t⟩ := S1.lstOf eh hx
      exact ⟨_, rfl, ⟨vs, SqL.of hv⟩, q1.here S1 (itR_lst hx)⟩
    · exact q1.elim
  | _ => exact q1.elim
theorem mi_rng1 {a : Expr} {p : Pos} (hg : Gl X "range") (hm : X.mg "range" = none) (ha : MA X cm W [a] gs) (hs : starEach [a] X.env = [(false, eval a X.env)] := by rfl) : MI X cm W tg (.Call (.Name "range" p) [a] [] pos) (iRngG1 gs) := by
  refine (pi_range1 hg hm ha hs).imp fun σ H R h => ?_
  obtain ⟨al, lo, h, L, S, q⟩ := h
  refine ⟨al, lo, h, L, S, tE_bind (rel := relA X.K cm) q fun al1 h1 ds vs H1 e1 S1 r1 q1 => ?_⟩
  cases r1 with
  | nil => exact q1.elim
  | cons ra rr =>
    cases rr with
    | cons _ _ => cases ra <;> exact q1.elim
    | nil =>
      cases ra with
      | int j =>
        simp only at q1
        split at q1
        · rename_i hc
          exact ⟨j, rfl, hc.1, hc.2, q1.here S1 itR_rng⟩
        · exact q1.elim
      | _ => exact q1.elim
theorem mi_rng2 {a b : Expr} {p : Pos} (hg : Gl X "range") (hm : X.mg "range" = none) (ha : MA X cm W [a, b] gs) (hs : starEach [a, b] X.env = [(false, eval a X.env), (false, eval b X.env)] := by rfl) (hs2 : starEach [b] X.env = [(false, eval b X.env)] := by rfl) : MI X cm W tg (.Call (.Name "range" p) [a, b] [] pos) (iRngG2 gs) := by
  refine (pi_range2 hg hm ha hs hs2).imp fun σ H R h => ?_
  obtain ⟨al, lo, h, L, S, q⟩ := h
  refine ⟨al, lo, h, L, S, tE_bind (rel := relA X.K cm) q fun al1 h1 ds vs H1 e1 S1 r1 q1 => ?_⟩
  cases r1 with
  | nil => exact q1.elim
  | cons ra rr =>
    cases rr with
    | nil => cases ra <;> exact q1.elim
    | cons rb rr =>
      cases rr with
      | cons _ _ => cases ra <;> cases rb <;> exact q1.elim
      | nil =>
        cases ra with
        | int i =>
          cases rb with
          | int j =>
            simp only at q1
            split at q1
            · rename_i hc
              exact ⟨i, j, rfl, hc, q1.here S1 itR_rng⟩
            · exact q1.elim
          | _ => exact q1.elim
        | _ => exact q1.elim
theorem keep_yld {H1 : Hp} {al1 : List Addr} {h1 : Hq} (S : Sim K cm al1 h1 H1) {T : Addr} {o : HO} (hT : H1 T = none) : ∀ a ∈ al1, upd H1 T o a = H1 a := fun a ha => by
  obtain ⟨u, e⟩ := S.has ha
  exact upd_ne (ne_of_none e hT)
theorem itR_enl {r : Nat} {a : Addr} (ha : al[r]? = some a) : ItR K cm al H (.enl r) (IteZ K a) := by
  intro al1 H1 h1 i e S
  have ha1 := pre_get e.pre ha
  refine ⟨fun q => ?_, fun d q => ?_⟩
  · simp only [Src.at] at q
    split at q
    · rename_i es eh
      have q : es[i]?.map _ = none := Option.some.inj q
      rw [Option.map_eq_none_iff] at q
      obtain ⟨vs, hv, t⟩ := S.lstOf eh ha1
      exact ⟨vs, SqL.of hv, t.none q⟩
    · cases q
  · simp only [Src.at] at q
    split at q
    · rename_i es eh
      have q : es[i]?.map _ = some d := Option.some.inj q
      obtain ⟨d0, e0, rfl⟩ := Option.map_eq_some_iff.mp q
      obtain ⟨vs, hv, t⟩ := S.lstOf eh ha1
      obtain ⟨v, ev, rv⟩ := t.get e0
      refine ⟨⟨vs, v, SqL.of hv, ev⟩, fun x H2 y => ?_⟩
      obtain ⟨T, b, x0, rfl, hT, eb, rfl, y⟩ := y
      have z := y vs (SqL.of hv)
      rw [ev] at z
      cases z
      exact ⟨Keep.new hT, keep_yld S hT, .tup (TpL.new eb) (.cons (.int _) (.cons (rv.mono (List.prefix_refl _) (Keep.new hT)) .nil))⟩
    · cases q
theorem enuD_at {ds : List D} {i : Nat} : (enuD ds)[i]? = ds[i]?.map fun d => .tup [.int i, d] := by
  unfold enuD
  rw [List.getElem?_map]
  by_cases h : i < ds.length
  · rw [List.getElem?_range h, List.getElem?_eq_getElem h]
    simp [h]
  · rw [List.getElem?_eq_none (by simpa using Nat.le_of_not_lt h), List.getElem?_eq_none (by simpa using Nat.le_of_not_lt h)]; rfl
theorem itR_enr {ds : List D} {vs : List V} {a : Addr} (hx : FzL K H a vs) (t : Rels K cm al H ds vs) : ItR K cm al H (.fix (enuD ds)) (IteZ K a) := by
  intro al1 H1 h1 i e S
  have hq := (e.keep.fzL hx).sq
  refine ⟨fun q => ?_, fun d q => ?_⟩
  · have q : (enuD ds)[i]? = none := Option.some.inj q
    rw [enuD_at, Option.map_eq_none_iff] at q
    exact ⟨vs, hq, t.none q⟩
  · have q : (enuD ds)[i]? = some d := Option.some.inj q
    rw [enuD_at] at q
    obtain ⟨d0, e0, rfl⟩ := Option.map_eq_some_iff.mp q
    obtain ⟨v, ev, rv⟩ := t.get e0
    refine ⟨⟨vs, v, hq, ev⟩, fun x H2 y => ?_⟩
    obtain ⟨T, b, x0, rfl, hT, eb, rfl, y⟩ := y
    have z := y vs hq
    rw [ev] at z
    cases z
    exact ⟨Keep.new hT, keep_yld S hT, .tup (TpL.new eb) (.cons (.int _) (.cons ((rv.mono e.pre e.keep).mono (List.prefix_refl _) (Keep.new hT)) .nil))⟩
theorem mi_enu {p tpos : Pos} {elts : List Expr} {kk : Nat} (hg : Gl X "enumerate") (hm : X.mg "enumerate" = none) (ha : MA X cm W [e] gs) (hs : starEach [e] X.env = [(false, eval e X.env)] := by rfl) : MI X cm W (.Tuple elts kk tpos) (.Call (.Name "enumerate" p) [e] [] pos) (iEnuG gs) := by
  refine (pi_enumZ hg hm ha hs).imp fun σ H R h => ?_
  obtain ⟨al, lo, h, L, S, q⟩ := h
  refine ⟨al, lo, h, L, S, tE_bind (rel := relA X.K cm) q fun al1 h1 ds vs H1 e1 S1 r1 q1 => ?_⟩
  cases r1 with
  | nil => exact q1.elim
  | cons ra rr =>
    cases rr with
    | cons _ _ => cases ra <;> exact q1.elim
    | nil =>
      cases ra with
      | rol hx t => exact ⟨_, _, rfl, hx.sq, q1.here S1 (itR_enr hx t)⟩
      | ref hx =>
        simp only at q1
        split at q1
        · rename_i es eh
          obtain ⟨vs, hv, t⟩ := S1.lstOf eh hx
          exact ⟨_, vs, rfl, SqL.of hv, q1.here S1 (itR_enl hx)⟩
        · exact q1.elim
      | _ => exact q1.elim
end
end Mach
end

section
set_option Elab.async false
set_option linter.all false
set_option maxRecDepth 100000
namespace Mach
open PySem PySem.Spec L2

/-! ### comprehensions -/
def wipeLo (lo : Lo) : List Nat → Lo
  | [] => lo
  | v :: vs => (wipeLo lo vs).set v none
theorem LoR.wipe {K : PySem.W.Frag} {cm : Str → Option Addr} {al : List Addr} {H : Hp} {lo : Lo} {σ : L2.St} (L : LoR K cm al H lo σ) : ∀ vs : List Nat, LoR K cm al H (wipeLo lo vs) (L2.wipe σ vs)
  | [] => L
  | v :: vs => (LoR.wipe L vs).drop v none
theorem wipe_at (σ : L2.St) (j : Nat) : ∀ vs : List Nat, (L2.wipe σ vs)[j]? = if j ∈ vs then (if j < σ.length then some none else none) else σ[j]?
  | [] => by simp [L2.wipe]
  | v :: vs => by
    unfold L2.wipe
    have ih := wipe_at σ j vs
    by_cases hv : v = j
    · subst hv
      rw [if_pos List.mem_cons_self]
      by_cases hl : v < σ.length
      · rw [if_pos hl, List.getElem?_set_self (by rw [wipe_length]; exact hl)]
      · rw [if_neg hl, List.getElem?_eq_none (by rw [List.length_set, wipe_length]; omega)]
    · rw [List.getElem?_set_ne hv, ih]
      by_cases hj : j ∈ vs
      · rw [if_pos hj, if_pos (List.mem_cons_of_mem _ hj)]
      · rw [if_neg hj, if_neg (by simp only [List.mem_cons, not_or]; exact ⟨fun z => hv z.symm, hj⟩)]
theorem wipe_same {σ σ2 : L2.St} {vs ws : List Nat} (hs : ∀ j ∈ ws, j ∈ vs) (h : ∀ j, j ∉ ws → σ2[j]? = (L2.wipe σ vs)[j]?) (hl : σ2.length = (L2.wipe σ vs).length) : L2.wipe σ2 vs = L2.wipe σ vs := by
  refine List.ext_getElem? (fun j => ?_)
  rw [wipe_length] at hl
  rw [wipe_at, wipe_at]
  by_cases hj : j ∈ vs
  · rw [if_pos hj, if_pos hj, hl]
  · rw [if_neg hj, if_neg hj, h j (fun z => hj (hs j z)), wipe_at, if_neg hj]

def compL (src : Src) (t : Tg) (cs : GT) (elt : GE) (r : Nat) : Nat → Nat → Lo → Hq → R Unit
  | 0, i, _, h => match src.at i h with
    | some none => .ok () h
    | _ => .bad
  | n + 1, i, lo, h => match src.at i h with
    | some none => .ok () h
    | some (some d) => match t.f d lo with
      | none => .bad
      | some lo1 => (cs lo1 h).calm.bind fun b h1 => if b = true then ((elt lo1 h1).calm.bind fun y h2 => match h2[r]? with
          | some (.lst acc) => if acc.length < 1000000 then compL src t cs elt r n (i + 1) lo (h2.set r (.lst (acc ++ [y]))) else .bad
          | _ => .bad)
        else compL src t cs elt r n (i + 1) lo h1
    | none => .bad
def gComp (gi : GI) (t : Tg) (vs : List Nat) (cs : GT) (elt : GE) : GE := fun lo h => (gi lo h).bind fun src h1 =>
  (compL src t cs elt h1.length (src.cnt h1) 0 (wipeLo lo vs) (h1 ++ [.lst []])).bind fun _ h2 => .ok (.ref h1.length) h2
def gYes : GT := fun _ h => .ok true h
abbrev W0 : WX := fun _ _ _ _ => False
def MTs (X : Cx) (cm : Str → Option Addr) (W : WX) (e : List Expr) (g : GT) : Prop := PTs X e (tTe X.K cm W g)
theorem _root_.L2.PTs.imp {X : Cx} {e : List Expr} {t t' : TT} (p : PTs X e t) (h : ∀ σ H Q, t' σ H Q → t σ H Q) : PTs X e t' := ⟨fun pins s σ H Q I hw => p.run pins s σ H Q I (h σ H Q hw)⟩
section
variable {X : Cx} {cm : Str → Option Addr} {W : WX} {elt tg iter : Expr} {pos : Pos} {gi : GI} {t : Tg} {ifs : List Expr} {cs : GT} {ge : GE} {scope : Scope} {own : List (Str × Nat)}
theorem mts_nil : MTs X cm W [] gYes := pts_nil.imp fun σ H Q h => by
  obtain ⟨al, lo, h, L, S, q⟩ := h
  exact q.here S rfl
theorem mts_one {c : Expr} (h : MT X cm W c cs) : MTs X cm W [c] cs := pts_one h
theorem comp_imp {σ : L2.St} {H : Hp} {Q : VK} (hv : ∀ j ∈ t.vs, j ∈ own.map (·.2)) (h : tE X.K cm W (gComp gi t (own.map (·.2)) cs ge) σ H Q) :
    tLc (tI X.K cm W gi) (t.g X.K) (tTe X.K cm W0 cs) (tE X.K cm W0 ge) (own.map (·.2)) σ H Q := by
  obtain ⟨al, lo, h, L, S, q⟩ := h
  refine ⟨al, lo, h, L, S, tE_bind (rel := ItR X.K cm) q fun al1 h1 src J H1 e1 S1 r1 q1 => fun Dl hD => ?_⟩
  have eN : Ext al1 H1 (al1 ++ [Dl]) (upd H1 Dl (.lst [])) := ⟨List.prefix_append _ _, Keep.new hD⟩
  refine ⟨fun i m H => ∃ al h, ItR X.K cm al H src J ∧ LoR X.K cm al H (wipeLo lo (own.map (·.2))) (L2.wipe σ (own.map (·.2))) ∧ Sim X.K cm al h H ∧ al[h1.length]? = some Dl ∧
    Post X.K cm (relD X.K cm) al H Q (fun c d H' => W c d σ H') ((compL src t cs ge h1.length m i (wipeLo lo (own.map (·.2))) h).bind fun _ h2 => .ok (.ref h1.length) h2),
    ⟨_, al1 ++ [Dl], _, r1.later eN, ((L.mono e1.pre e1.keep).mono eN.pre eN.keep).wipe _, S1.new hD .nil, S1.ext_get Dl, Post.later eN q1⟩, ?_⟩
  intro i m H hw
  obtain ⟨al, h, r, L, S, ea, q⟩ := hw
  have J1 := r al H h i (Ext.refl _ _) S
  cases m with
  | zero =>
    unfold compL at q
    cases e : src.at i h with
    | none => rw [e] at q; exact q.elim
    | some o =>
      rw [e] at q
      cases o with
      | none => exact .inl ⟨J1.1 e, q.here S (.ref ea)⟩
      | some d => exact q.elim
  | succ m =>
    unfold compL at q
    cases e : src.at i h with
    | none => rw [e] at q; exact q.elim
    | some o =>
      rw [e] at q
      cases o with
      | none => exact .inl ⟨J1.1 e, q.here S (.ref ea)⟩
      | some d =>
        obtain ⟨hgo, hy⟩ := J1.2 d e
        refine .inr ⟨hgo, fun H' => ∃ al h, ItR X.K cm al H' src J ∧ LoR X.K cm al H' (wipeLo lo (own.map (·.2))) (L2.wipe σ (own.map (·.2))) ∧ Sim X.K cm al h H' ∧ al[h1.length]? = some Dl ∧
          Post X.K cm (relD X.K cm) al H' Q (fun c d H' => W c d σ H') ((compL src t cs ge h1.length m (i + 1) (wipeLo lo (own.map (·.2))) h).bind fun _ h2 => .ok (.ref h1.length) h2), fun H' hn => ⟨m, Nat.lt_succ_self m, hn⟩, fun x H' y => ?_⟩
        obtain ⟨k, same, rx⟩ := hy x H' y
        have e2 : Ext al H al H' := ⟨List.prefix_refl _, k⟩
        have S2 : Sim X.K cm al h H' := S.keep k same
        have L2' := L.mono e2.pre e2.keep
        simp only at q
        cases et : t.f d (wipeLo lo (own.map (·.2))) with
        | none => rw [et] at q; exact q.elim
        | some lo1 =>
          rw [et] at q
          have q := Post.later e2 q
          refine tg_ok rx L2' et fun σ2 L3 fr hl => ⟨wipe_same hv fr hl, al, lo1, h, L3, S2, ?_⟩
          simp only at q
          have q : Post X.K cm (relD X.K cm) al H' Q (fun c d H' => W c d σ H') ((cs lo1 h).calm.bind fun b h1' => ((if b = true then ((ge lo1 h1').calm.bind fun y h2 => match h2[h1.length]? with
            | some (.lst acc) => if acc.length < 1000000 then compL src t cs ge h1.length m (i + 1) (wipeLo lo (own.map (·.2))) (h2.set h1.length (.lst (acc ++ [y]))) else .bad
            | _ => .bad) else compL src t cs ge h1.length m (i + 1) (wipeLo lo (own.map (·.2))) h1').bind fun _ h2 => .ok (.ref h1.length) h2)) := by
            cases hc : (cs lo1 h).calm <;> (rw [hc] at q; exact q)
          refine Post.calm (E := fun c d H' => W c d σ H') (tE_bind (rel := relB) q fun al3 h3 b b' H3 e3 S3 r3 q3 => ?_)
          cases r3
          cases b with
          | false => exact ⟨al3, h3, (r.later e2).later e3, L2'.mono e3.pre e3.keep, S3, pre_get e3.pre ea, q3⟩
          | true =>
            simp only [if_true] at q3
            have q3 : Post X.K cm (relD X.K cm) al3 H3 Q (fun c d H' => W c d σ H') ((ge lo1 h3).calm.bind fun y h2 => ((match h2[h1.length]? with
              | some (.lst acc) => if acc.length < 1000000 then compL src t cs ge h1.length m (i + 1) (wipeLo lo (own.map (·.2))) (h2.set h1.length (.lst (acc ++ [y]))) else .bad
              | _ => .bad) : R Unit).bind fun _ h2 => .ok (.ref h1.length) h2) := by
              cases hc : (ge lo1 h3).calm <;> (rw [hc] at q3; exact q3)
            refine ⟨al3, lo1, h3, L3.mono e3.pre e3.keep, S3, Post.calm (E := fun c d H' => W c d σ H') (tE_bind (rel := relD X.K cm) q3 fun al4 h4 y v H4 e4 S4 r4 q4 => ?_)⟩
            have ea4 := pre_get e4.pre (pre_get e3.pre ea)
            cases eo : h4[h1.length]? with
            | none => rw [eo] at q4; exact q4.elim
            | some ob =>
              rw [eo] at q4
              cases ob with
              | lst acc =>
                simp only at q4
                split at q4
                · rename_i hacc
                  obtain ⟨vs, hvs, tv⟩ := S4.lstOf eo ea4
                  have e5 : Ext al4 H4 al4 (upd H4 Dl (.lst (vs ++ [v]))) := ⟨List.prefix_refl _, Keep.lst hvs⟩
                  refine ⟨vs, hvs, by rw [← tv.length]; exact big_lt hacc, al4, _, (((r.later e2).later e3).later e4).later e5, ((L2'.mono e3.pre e3.keep).mono e4.pre e4.keep).mono e5.pre e5.keep, S4.write ea4 eo hvs (tv.append (.cons r4 .nil)), ea4, Post.later e5 q4⟩
                · exact q4.elim
              | exc c fs => exact q4.elim
              | _ => exact q4.elim
theorem me_comp (hc : X.calm = true) (hN : X.N.Nodup) (hv : ∀ j ∈ t.vs, j ∈ own.map (·.2)) (hi : MI X cm W tg iter gi) (ok : blkC X.N X.env.scope scope own = true)
    (hg : ∀ (s : Shared) (H : Hp) (C : Addr) (cl : List (Str × Addr)) (fp : List Addr), MG (X.blk s H scope (compEnvC scope cl C X.env) fp) tg t)
    (ht : ∀ (s : Shared) (H : Hp) (C : Addr) (cl : List (Str × Addr)) (fp : List Addr), MTs (X.blk s H scope (compEnvC scope cl C X.env) fp) cm W0 ifs cs)
    (he : ∀ (s : Shared) (H : Hp) (C : Addr) (cl : List (Str × Addr)) (fp : List Addr), ME (X.blk s H scope (compEnvC scope cl C X.env) fp) cm W0 elt ge) (hs : ∀ x, foldedSetIterable iter X.env x = pure x := by intro _; rfl) :
    ME X cm W (.ListComp elt [⟨tg, iter, ifs, 0⟩] scope pos) (gComp gi t (own.map (·.2)) cs ge) :=
  (pe_lc (g := t.g X.K) (tt := tTe X.K cm W0 cs) (te := tE X.K cm W0 ge) hc hN hi (blkOk_by ok) hg ht he hs).imp fun _ _ _ h => comp_imp hv h
theorem ms_setLc {i : Nat} {y : Str} {py spos : Pos} (hc : X.calm = true) (hN : X.N.Nodup) (hy : X.N[i]? = some y) (hyl : X.env.scope.names.lookup y = some .local)
    (hsw : swapsWith (.ListComp elt [⟨tg, iter, ifs, 0⟩] scope pos) (some (.Name y py)) spos.line X.env = pure true) (hv : ∀ j ∈ t.vs, j ∈ own.map (·.2)) (hi : MI X cm W tg iter gi) (ok : blkC X.N X.env.scope scope own = true)
    (hg : ∀ (s : Shared) (H : Hp) (C : Addr) (cl : List (Str × Addr)) (fp : List Addr), MG (X.blk s H scope (compEnvC scope cl C X.env) fp) tg t)
    (ht : ∀ (s : Shared) (H : Hp) (C : Addr) (cl : List (Str × Addr)) (fp : List Addr), MTs (X.blk s H scope (compEnvC scope cl C X.env) fp) cm W0 ifs cs)
    (he : ∀ (s : Shared) (H : Hp) (C : Addr) (cl : List (Str × Addr)) (fp : List Addr), ME (X.blk s H scope (compEnvC scope cl C X.env) fp) cm W0 elt ge) (hs : ∀ x, foldedSetIterable iter X.env x = pure x := by intro _; rfl) :
    MS X cm W (.Assign [.Name y py] (.ListComp elt [⟨tg, iter, ifs, 0⟩] scope pos) spos) (sAsg (gComp gi t (own.map (·.2)) cs ge) (Tg.nm i).f) := by
  refine (ps_setLc (g := t.g X.K) (tt := tTe X.K cm W0 cs) (te := tE X.K cm W0 ge) hc hN hy hyl hsw hi (blkOk_by ok) hg ht he hs).imp fun D σ H h => ?_
  obtain ⟨al, lo, h, L, S, q⟩ := h
  refine comp_imp hv ⟨al, lo, h, L, S, ?_⟩
  refine PostS.stm (rel := relD X.K cm) L q fun al1 h1 d v H1 e1 S1 r1 L1 q1 => ?_
  exact q1.nx S1 (L1.set r1 i)
end

/-! ### equality of objects, things without objects of ours -/
mutual
def D.beq : D → D → Bool
  | .non, .non => true
  | .bl a, .bl b => a == b
  | .int a, .int b => a == b
  | .str a, .str b => decide (a = b)
  | .ty a, .ty b => a == b
  | .cls a, .cls b => decide (a = b)
  | .ref a, .ref b => a == b
  | .rol a, .rol b => D.beqs a b
  | .tup a, .tup b => D.beqs a b
  | _, _ => false
def D.beqs : List D → List D → Bool
  | [], [] => true
  | a :: as, b :: bs => D.beq a b && D.beqs as bs
  | _, _ => false
end
mutual
theorem D.beq_eq : ∀ (a b : D), D.beq a b = true → a = b
  | .non, b, h => by cases b <;> first | rfl | (simp [D.beq] at h)
  | .bl a, b, h => by cases b <;> simp [D.beq] at h; rw [h]
  | .int a, b, h => by cases b <;> simp [D.beq] at h; rw [h]
  | .str a, b, h => by cases b <;> simp [D.beq] at h; rw [h]
  | .ty a, b, h => by cases b <;> simp [D.beq] at h; rw [h]
  | .cls a, b, h => by cases b <;> simp [D.beq] at h; rw [h]
  | .ref a, b, h => by cases b <;> simp [D.beq] at h; rw [h]
  | .rol a, b, h => by
    cases b with
    | rol b => rw [D.beqs_eq a b (by simpa [D.beq] using h)]
    | _ => simp [D.beq] at h
  | .tup a, b, h => by
    cases b with
    | tup b => rw [D.beqs_eq a b (by simpa [D.beq] using h)]
    | _ => simp [D.beq] at h
theorem D.beqs_eq : ∀ (a b : List D), D.beqs a b = true → a = b
  | [], b, h => by cases b <;> first | rfl | (simp [D.beqs] at h)
  | x :: xs, b, h => by
    cases b with
    | nil => simp [D.beqs] at h
    | cons y ys =>
      simp only [D.beqs, Bool.and_eq_true] at h
      rw [D.beq_eq x y h.1, D.beqs_eq xs ys h.2]
end
mutual
theorem D.beq_self : ∀ a : D, D.beq a a = true
  | .non => rfl
  | .bl a => by simp [D.beq]
  | .int a => by simp [D.beq]
  | .str a => by simp [D.beq]
  | .ty a => by simp [D.beq]
  | .cls a => by simp [D.beq]
  | .ref a => by simp [D.beq]
  | .rol a => by simpa [D.beq] using D.beqs_self a
  | .tup a => by simpa [D.beq] using D.beqs_self a
theorem D.beqs_self : ∀ a : List D, D.beqs a a = true
  | [] => rfl
  | x :: xs => by simp [D.beqs, D.beq_self x, D.beqs_self xs]
end
def Ob.beq : Ob → Ob → Bool
  | .lst a, .lst b => D.beqs a b
  | .exc c fs, .exc c' gs => decide (c = c') && decide (fs.map (·.1) = gs.map (·.1)) && D.beqs (fs.map (·.2)) (gs.map (·.2))
  | .ins c fs, .ins c' gs => decide (c = c') && decide (fs.map (·.1) = gs.map (·.1)) && D.beqs (fs.map (·.2)) (gs.map (·.2))
  | .dct fs, .dct gs => decide (fs.map (·.1) = gs.map (·.1)) && D.beqs (fs.map (·.2)) (gs.map (·.2))
  | _, _ => false
theorem zip_eq {α : Type} : ∀ {fs gs : List (α × D)}, fs.map (·.1) = gs.map (·.1) → fs.map (·.2) = gs.map (·.2) → fs = gs
  | [], [], _, _ => rfl
  | [], _ :: _, hq, _ => by simp at hq
  | _ :: _, [], hq, _ => by simp at hq
  | (a, b) :: fs, (c, d) :: gs, h, g => by
    simp at h g
    rw [h.1, g.1, zip_eq h.2 g.2]
theorem Ob.beq_eq (a b : Ob) (h : Ob.beq a b = true) : a = b := by
  cases a <;> cases b <;> simp only [Ob.beq, Bool.and_eq_true, decide_eq_true_eq, Bool.false_eq_true] at h
  · rw [D.beqs_eq _ _ h]
  · rw [h.1.1, zip_eq h.1.2 (D.beqs_eq _ _ h.2)]
  · rw [h.1.1, zip_eq h.1.2 (D.beqs_eq _ _ h.2)]
  · rw [zip_eq h.1 (D.beqs_eq _ _ h.2)]
theorem Ob.beq_self (a : Ob) : Ob.beq a a = true := by
  cases a <;> simp [Ob.beq, D.beqs_self]
/-- h begins with h0 -/
def pre : Hq → Hq → Bool
  | [], _ => true
  | a :: as, b :: bs => Ob.beq a b && pre as bs
  | _ :: _, [] => false
theorem pre_take : ∀ {h0 h : Hq}, pre h0 h = true → h.take h0.length = h0
  | [], _, _ => rfl
  | _ :: _, [], e => nomatch e
  | a :: as, b :: bs, e => by
    simp only [pre, Bool.and_eq_true] at e
    rw [List.length_cons, List.take_succ_cons, pre_take e.2, Ob.beq_eq a b e.1]
theorem pre_app : ∀ (h0 g : Hq), pre h0 (h0 ++ g) = true
  | [], _ => rfl
  | a :: as, g => by
    show (Ob.beq a a && pre as (as ++ g)) = true
    rw [Ob.beq_self, pre_app as g]
    rfl
theorem pre_self (h0 : Hq) : pre h0 h0 = true := by
  have := pre_app h0 []
  rwa [List.append_nil] at this
mutual
def D.pure : D → Bool
  | .ref _ => false
  | .rol ds => D.pures ds
  | .tup ds => D.pures ds
  | _ => true
def D.pures : List D → Bool
  | [] => true
  | d :: ds => D.pure d && D.pures ds
end
section
variable {K : PySem.W.Frag} {cm : Str → Option Addr} {al al' : List Addr} {H H' : Hp}
mutual
theorem Rel.ofPure : ∀ {d : D} {v : V}, d.pure = true → Rel K cm al' H d v → Rel K cm al H d v
  | .non, _, _, r => by cases r; exact .non
  | .bl b, _, _, r => by cases r; exact .bl b
  | .int b, _, _, r => by cases r; exact .int b
  | .str b, _, _, r => by cases r; exact .str b
  | .ty b, _, _, r => by cases r; exact .ty b
  | .cls b, _, _, r => by cases r with | cls h => exact .cls h
  | .ref b, _, e, r => by simp [D.pure] at e
  | .rol ds, _, e, r => by cases r with | rol h t => exact .rol h (Rels.ofPure (by simpa [D.pure] using e) t)
  | .tup ds, _, e, r => by cases r with | tup h t => exact .tup h (Rels.ofPure (by simpa [D.pure] using e) t)
theorem Rels.ofPure : ∀ {d : List D} {v : List V}, D.pures d = true → Rels K cm al' H d v → Rels K cm al H d v
  | [], _, _, rr => by cases rr; exact .nil
  | d :: ds, _, e, r => by
    simp only [D.pures, Bool.and_eq_true] at e
    cases r with | cons a b => exact .cons (Rel.ofPure e.1 a) (Rels.ofPure e.2 b)
end
mutual
theorem Rel.down (p : al <+: al') : ∀ {d : D} {v0 v : V}, Rel K cm al H d v0 → Rel K cm al' H' d v → Rel K cm al H' d v
  | .non, _, _, _, r => by cases r; exact .non
  | .bl b, _, _, _, r => by cases r; exact .bl b
  | .int b, _, _, _, r => by cases r; exact .int b
  | .str b, _, _, _, r => by cases r; exact .str b
  | .ty b, _, _, _, r => by cases r; exact .ty b
  | .cls b, _, _, _, r => by cases r with | cls h => exact .cls h
  | .ref b, _, _, r0, r => by
    cases r0 with
    | ref h0 => cases r with
      | ref h => rw [pre_get p h0] at h; cases h; exact .ref h0
  | .rol ds, _, _, r0, r => by
    cases r0 with
    | rol h0 t0 => cases r with
      | rol h t => exact .rol h (Rels.down p t0 t)
  | .tup ds, _, _, r0, r => by
    cases r0 with
    | tup h0 t0 => cases r with
      | tup h t => exact .tup h (Rels.down p t0 t)
theorem Rels.down (p : al <+: al') : ∀ {d : List D} {v0 v : List V}, Rels K cm al H d v0 → Rels K cm al' H' d v → Rels K cm al H' d v
  | [], _, _, _, r => by cases r; exact .nil
  | d :: ds, _, _, r0, r => by
    cases r0 with
    | cons a0 b0 => cases r with
      | cons a b => exact .cons (Rel.down p a0 a) (Rels.down p b0 b)
end
theorem xo_inj {C C' : Addr} {d d' : Option Addr} {a : Addr} (h : XO C d a = XO C' d' a) : True := True.intro
theorem Sim.down {h0 h' : Hq} (S0 : Sim K cm al h0 H) (e : Ext al H al' H') (S : Sim K cm al' h' H') (hp : h'.take h0.length = h0) : Sim K cm al h0 H' := by
  refine ⟨S0.len, S0.nd, fun r a o ea eo => ?_⟩
  have ho : h'[r]? = some o := by
    have hr : r < h0.length := (List.getElem?_eq_some_iff.mp eo).1
    rw [← hp, List.getElem?_take_of_lt (by rw [hp] at *; first | exact hr | simpa using hr)] at eo
    exact eo
  have z0 := S0.obs r a o ea eo
  have z := S.obs r a o (pre_get e.pre ea) ho
  cases o with
  | lst ds =>
    obtain ⟨vs0, _, t0⟩ := z0
    obtain ⟨vs, q, t⟩ := z
    exact ⟨vs, q, Rels.down e.pre t0 t⟩
  | exc c fs =>
    obtain ⟨C, d, hc, q, t⟩ := z0
    exact ⟨C, d, hc, e.keep.all _ _ rfl q, t.mono (List.prefix_refl _) e.keep⟩
  | ins c fs =>
    obtain ⟨_, _, vs0, _, _, _, _, t0⟩ := z0
    obtain ⟨C, dx, vs, hc, q, ho, n, t⟩ := z
    exact ⟨C, dx, vs, hc, q, ho, n, Rels.down e.pre t0 t⟩
  | dct kvs =>
    obtain ⟨vs0, _, _, t0⟩ := z0
    obtain ⟨vs, q, n, t⟩ := z
    exact ⟨vs, q, n, Rels.down e.pre t0 t⟩
end

/-- what a def leaves: objects that no one can reach go -/
def trim (h0 : Hq) : R D → R D
  | .ok d h' => if pre h0 h' = true then (match d with
    | .ref r => if r < h0.length then .ok (.ref r) h0 else match h'[r]? with
      | some (.lst ds) => if D.pures ds = true then .ok (.ref h0.length) (h0 ++ [.lst ds]) else .ok (.ref r) h'
      | _ => .ok (.ref r) h'
    | d => if d.pure = true then .ok d h0 else .ok d h') else .ok d h'
  | .ex c fs h' => if pre h0 h' = true ∧ D.pures (fs.map (·.2)) = true then .ex c fs h0 else .ex c fs h'
  | .bad => .bad
section
variable {K : PySem.W.Frag} {cm : Str → Option Addr} {al : List Addr} {H : Hp} {Q : VK} {E : XK} {h0 : Hq}
theorem FsR.ofPure {al' : List Addr} {fs : List (Str × D)} {d : Option Addr} (p : D.pures (fs.map (·.2)) = true) (h : FsR K cm al' H fs d) : FsR K cm al H fs d := by
  cases d with
  | none => exact h
  | some d => obtain ⟨ne, vs, e, n, t⟩ := h; exact ⟨ne, vs, e, n, t.ofPure p⟩
theorem trim_ok (S0 : Sim K cm al h0 H) {x : R D} (q : Post K cm (relD K cm) al H Q E (trim h0 x)) : Post K cm (relD K cm) al H Q E x := by
  cases x with
  | bad => exact q
  | ex c fs h' =>
    simp only [trim] at q
    split at q
    · rename_i hp
      intro al' H' cls d e S r
      obtain ⟨C, hc, rfl, t⟩ := r
      exact q al H' (.ref C) d ⟨List.prefix_refl _, e.keep⟩ (S0.down e S (pre_take hp.1)) ⟨C, hc, rfl, t.ofPure hp.2⟩
    · exact q
  | ok d h' =>
    simp only [trim] at q
    split at q
    · rename_i hp
      have pt := pre_take hp
      split at q
      · rename_i r
        split at q
        · rename_i hr
          intro al' H' v e S rv
          cases rv with
          | ref ha =>
            have hr' : r < al.length := by rw [S0.len]; exact hr
            have ea : al[r]? = some al[r] := List.getElem?_eq_getElem hr'
            rw [pre_get e.pre ea] at ha
            cases ha
            exact q al H' _ ⟨List.prefix_refl _, e.keep⟩ (S0.down e S pt) (.ref ea)
        · rename_i hr
          split at q
          · rename_i ds eo
            split at q
            · rename_i hpu
              intro al' H' v e S rv
              cases rv with
              | @ref _ a ha =>
                obtain ⟨vs, hv, t⟩ := S.lstOf eo ha
                have S1 := S0.down e S pt
                have pf : al <+: al ++ [a] := List.prefix_append _ _
                have hna : a ∉ al := fun hm => by
                  obtain ⟨j, hj, ej⟩ := List.mem_iff_getElem.mp hm
                  have e1 : al'[j]? = some a := by rw [← ej]; exact pre_get e.pre (List.getElem?_eq_getElem hj)
                  have e2 := (List.getElem?_inj (List.getElem?_eq_some_iff.mp e1).1 S.nd).mp (e1.trans ha.symm)
                  have := S0.len
                  omega
                refine q (al ++ [a]) H' _ ⟨pf, e.keep⟩ ⟨by simp [S0.len], ?_, fun k b o eb eo' => ?_⟩ (.ref (S0.ext_get a))
                · rw [List.nodup_append]
                  refine ⟨S0.nd, by simp, fun x hx y hy => ?_⟩
                  simp at hy
                  subst hy
                  exact fun z => hna (z ▸ hx)
                · by_cases hk : k < al.length
                  · rw [List.getElem?_append_left hk] at eb
                    rw [List.getElem?_append_left (by rw [← S0.len]; exact hk)] at eo'
                    exact (S1.obs k b o eb eo').mono pf (Keep.refl _) rfl
                  · have hk' : k = al.length := by
                      have := (List.getElem?_eq_some_iff.mp eb).1
                      simp at this
                      omega
                    subst hk'
                    rw [List.getElem?_append_right (Nat.le_refl _)] at eb
                    rw [S0.len, List.getElem?_append_right (Nat.le_refl _)] at eo'
                    simp at eb eo'
                    subst eb eo'
                    exact ⟨vs, hv, t.ofPure hpu⟩
            · exact q
          · exact q
      · rename_i d hd
        split at q
        · rename_i hpu
          exact fun al' H' v e S rv => q al H' v ⟨List.prefix_refl _, e.keep⟩ (S0.down e S pt) (rv.ofPure hpu)
        · exact q
    · exact q
end
end Mach
end

section
set_option Elab.async false
set_option linter.all false
set_option maxRecDepth 100000
namespace Mach
open PySem PySem.Spec L2
open PyProof.Rows (envOfC)

/-! ### a def -/
def endOf : SR → R D
  | .nx _ h => .ok .non h
  | .rt d h => .ok d h
  | .ex c fs _ h => .ex c fs h
  | _ => .bad
/-- a def whose frame has n slots -/
def fnOf (n : Nat) (body : GS) : List D → Hq → R D := fun ds h => trim h (endOf (body (ds.map some ++ List.replicate (n - ds.length) none) h))
def SpG (K : PySem.W.Frag) (cm : Str → Option Addr) (fn : List D → Hq → R D) (vs : List V) (H : Hp) (Q : VK) (E : XK) : Prop :=
  ∃ al h ds, Sim K cm al h H ∧ Rels K cm al H ds vs ∧ Post K cm (relD K cm) al H Q E (fn ds h)
structure FnG (P : Program) (w : World) (K : PySem.W.Frag) (mg : Str → Option Value) (base : Heap) (cm : Str → Option Addr) (k : Nat) (f : Addr) (fd : FuncData) (ps : List Str) (fn : List D → Hq → R D) : Prop where
  run : ∀ (A : Around) (outer : List Env) (s : Shared) (H : Hp) (args : Args) (us : List Value) (vs : List V) (Q : VK) (E : XK), Room k A → A.guards = some [] → Env0 P w K mg base A outer s H →
    BindsTo s fd args (ps.zip us) → Vals vs us → vs.length = ps.length → SpG K cm fn vs H Q E → codeAny (model P w) A (.call (.ref f) args) (CR (L2.CX P w) outer P w H s Q E) s
theorem FnG.mono {P : Program} {w : World} {K : PySem.W.Frag} {mg : Str → Option Value} {base : Heap} {cm : Str → Option Addr} {j k : Nat} {f : Addr} {fd : FuncData} {ps : List Str} {fn : List D → Hq → R D} (F : FnG P w K mg base cm j f fd ps fn) (h : j ≤ k) :
    FnG P w K mg base cm k f fd ps fn := ⟨fun A outer s H args us vs Q E hr => F.run A outer s H args us vs Q E (hr.mono h)⟩

theorem lo_start {K : PySem.W.Frag} {cm : Str → Option Addr} {al : List Addr} {H : Hp} {ds : List D} {vs : List V} (N : List Str) (r : Rels K cm al H ds vs) : LoR K cm al H (ds.map some ++ List.replicate (N.length - ds.length) none) (L2.start N vs) := by
  have hl := r.length
  refine ⟨by unfold L2.start; simp [hl], fun i d e => ?_⟩
  by_cases hi : i < ds.length
  · rw [List.getElem?_append_left (by simpa using hi), List.getElem?_map, List.getElem?_eq_getElem hi] at e
    have e' : ds[i] = d := by simpa using e
    obtain ⟨v, ev, rv⟩ := r.get (List.getElem?_eq_getElem hi)
    refine ⟨v, ?_, e' ▸ rv⟩
    unfold L2.start
    rw [List.getElem?_append_left (by simpa using hl ▸ hi), List.getElem?_map, ev]
    rfl
  · rw [List.getElem?_append_right (by simpa using Nat.le_of_not_lt hi), List.getElem?_replicate] at e
    split at e <;> cases e
theorem post_end {K : PySem.W.Frag} {cm : Str → Option Addr} {al : List Addr} {H : Hp} {Q : VK} {E : XK} {x : SR} (q : Post K cm (relD K cm) al H Q E (endOf x)) :
    PostS K cm (fun c d _ H' => E c d H') al H { nx := fun _ H' => Q .non H', rt := Q } x := by
  cases x with
  | nx lo h => exact fun al' H' σ' e s l => q al' H' .non e s .non
  | rt d h => exact q
  | bk lo h => exact q.elim
  | ct lo h => exact q.elim
  | ex c fs lo h => exact fun al' H' cls d σ' e s r l => q al' H' cls d e s r
  | bad => exact q.elim

section
variable {P : Program} {w : World} {K : PySem.W.Frag} {mg : Str → Option Value} {base : Heap} {cm : Str → Option Addr}
/-- a def's contract by its body -/
theorem fnG_of {x qual : Str} {st : Stmt} {f : Addr} {fd : FuncData} {N ps : List Str} {k : Nat} {body : GS} (F : Fun K x qual st f fd) (S : FnScope N ps (defScope st))
    (hbody : ∀ (cdv : Value) (A : Around) (outer : List Env) (s : Shared) (H : Hp) (E : XK), Room k (A.deeper (envOfC qual (defScope st) s.heap.objs.size f cdv)) → A.guards = some [] →
      MSs (cxOf (L2.CX P w) P w K mg base N qual (defScope st) f cdv A outer s H E) cm (fun c d _ H' => E c d H') (defBody st) body) : FnG P w K mg base cm (k + 1) f fd ps (fnOf N.length body) := by
  obtain ⟨cls0, dict0, kw0, doc0, par0, ann0, cdv, ct0, slots0, e0, look, hcode⟩ := F.ex
  subst e0
  refine ⟨fun A outer s H args us vs Q E room guard env bind vals hlen hsp => ?_⟩
  have inK : K.In s.heap := env.mod.kin.keeps fun b o q => (env.bs b o q).1
  have lim : s.heap.NoLimit := env.mod.nolimit.keeps fun b o q => (env.bs b o q).1
  have kinds : ∀ y ∈ ps.zip us, (defScope st).names.lookup y.1 = some .local ∨ ((defScope st).names.lookup y.1 = some .cell ∧ ((cellsFrom (s.heap.objs.size + 1) (defScope st).names []).lookup y.1).isSome = true) := by
    intro y hy
    rcases S.par y.1 (List.of_mem_zip (a := y.1) (b := y.2) hy).1 with z | z
    · exact Or.inl z
    · exact Or.inr ⟨z, PySem.W.cellsFrom_some _ _ _ (Or.inl z)⟩
  refine codeAny_call_function room.depth (inK _ _ look) rfl S.co S.gen rfl (PySem.W.codeRec_of inK hcode) (bind _ _ _ _ (wpAny_newFunctionEnv_cells S.kind kinds fun envN envE s1 toIn => ?_))
  subst envE
  refine ⟨lim.keeps toIn.toInCall.keep, codeAny_func ?_⟩
  have body1 := hbody cdv A outer s H E (room.deeper _) guard
  have inv : Inv (cxOf (L2.CX P w) P w K mg base N qual (defScope st) f cdv A outer s H E) [] (L2.start N vs) H s1 := inv_start S room.hd env hlen vals toIn
  obtain ⟨al, h, ds, sim, rels, q⟩ := hsp
  have q1 := post_end (trim_ok sim q)
  refine wpAny_mono (body1.run [] s1 (L2.start N vs) H { nx := fun _ H' => Q .non H', rt := Q } inv ⟨al, _, h, lo_start N rels, sim, q1⟩) (fun flow s2 post => ?_) fun e s2 post => post
  have close : ∀ {σ2 : L2.St} {H2 : Hp} {v : V} {u : Value}, Inv (cxOf (L2.CX P w) P w K mg base N qual (defScope st) f cdv A outer s H E) [] σ2 H2 s2 → RelV v u → Q v H2 → CE outer P w H s Q u s2 :=
    fun {σ2 H2 v u} J rv z => ⟨v, H2, J.os, J.bare, J.base, J.hok, rv, z⟩
  cases flow with
  | next =>
    obtain ⟨σ2, H2, J, z⟩ := post
    exact close (v := V.non) (u := Value.none) J rfl z
  | ret u =>
    obtain ⟨v, σ2, H2, J, rv, z⟩ := post
    exact close J rv z
  | brk => exact post.elim fun _ p => p.elim fun _ p => p.2.elim
  | cont => exact post.elim fun _ p => p.elim fun _ p => p.2.elim
end

section
variable {X : Cx} {cm : Str → Option Addr} {W : WX} {e : Expr} {es : List Expr} {gs : GA} {pos p : Pos} {k : Nat} {f : Addr} {fd : FuncData} {ps : List Str} {fn : List D → Hq → R D} {x : Str}
/-- f(e, ..) -/
theorem me_call (F : FnG X.prog X.w X.K X.mg X.base cm k f fd ps fn) (room : Room k X.A) (guard : X.A.guards = some []) (hg : Gl X x) (hm : X.mg x = some (.ref f)) (hk : PySem.W.keepIn X.K (.ref f) = true) (hb : Binds X.K fd ps []) (tk : Takes X W) (hn : (e :: es).length = ps.length)
    (ha : MA X cm W (e :: es) gs) (harg : ∀ lo h ds h', gs lo h = .ok ds h' → ds.length = (e :: es).length) (hdb : (x == ("__debug__" : Str)) = false := by decide) (he : starEach (e :: es) X.env = (false, eval e X.env) :: starEach es X.env := by rfl) (hpl : (backTo pos (starEach es X.env)).any (·.1) = false := by rfl) :
    ME X cm W (.Call (.Name x p) (e :: es) [] pos) (gCall fn gs) := by
  refine ⟨fun pins s σ H Q I0 h0 => wpAny_Call_Name_kw (ld_glob I0 hg hm ?_ hdb)⟩
  obtain ⟨al, lo, h, L, S, q⟩ := h0
  have hargs : tAr X.K cm W gs σ H (fun vs H1 => vs.length = ps.length ∧ SpG X.K cm fn vs H1 Q (fun c d H' => W c d σ H')) := by
    refine ⟨al, lo, h, L, S, ?_⟩
    have q : Post X.K cm (relD X.K cm) al H Q (fun c d H' => W c d σ H') ((gs lo h).bind fun ds h1 => fn ds h1) := q
    have hlen := harg lo h
    cases hx : gs lo h with
    | bad => rw [hx] at q; exact q
    | ex c fs h1 => rw [hx] at q; exact q
    | ok ds h1 =>
      rw [hx] at q
      intro al1 H1 vs e1 S1 r1
      exact ⟨by rw [← r1.length, hlen ds h1 hx, hn], al1, h1, ds, S1, r1, Post.later e1 q⟩
  refine PySem.W.callWith_K (h₀ := X.base) I0.ok.mod.kin hk (wpAny_mono (ha.run pos pins s σ H _ I0 hargs) (fun us s1 hr => ?_) fun _ _ z => z) he hpl
  obtain ⟨vs, H1, I1, rv, hl, sp⟩ := hr
  refine ⟨I1.kIn, ?_⟩
  have hul : us.length = ps.length := by rw [← rv.length]; exact hl
  have bind := hb s1 us I1.kIn (by rw [List.append_nil]; exact hul)
  rw [List.append_nil] at bind
  refine wpAny_call (codeAny_mono (F.run X.A X.stack s1 H1 ⟨us, []⟩ us vs Q _ room guard I1.env0 bind rv hl sp) fun res s2 hc => ?_)
  cases res with
  | error ex => exact passAt tk σ pins H1 s1 ex s2 I1 hc
  | ok fl =>
    cases fl with
    | ret u => exact I1.after hc
    | next => exact hc.elim
    | brk => exact hc.elim
    | cont => exact hc.elim
theorem arg_nil : ∀ (lo : Lo) (h : Hq) (ds : List D) (h' : Hq), gNil lo h = .ok ds h' → ds.length = ([] : List Expr).length := fun lo h ds h' e => by cases e; rfl
theorem arg_cons {ga : GE} (ih : ∀ (lo : Lo) (h : Hq) (ds : List D) (h' : Hq), gs lo h = .ok ds h' → ds.length = es.length) : ∀ (lo : Lo) (h : Hq) (ds : List D) (h' : Hq), gCons ga gs lo h = .ok ds h' → ds.length = (e :: es).length := fun lo h ds h' z => by
  unfold gCons at z
  cases h1 : ga lo h with
  | bad => rw [h1] at z; cases z
  | ex c fs h2 => rw [h1] at z; cases z
  | ok d h2 =>
    rw [h1] at z
    simp only [R.bind] at z
    cases h3 : gs lo h2 with
    | bad => rw [h3] at z; cases z
    | ex c fs h4 => rw [h3] at z; cases z
    | ok ds2 h4 =>
      rw [h3] at z
      have el := ih lo h2 ds2 h4 h3
      cases z
      rw [List.length_cons, List.length_cons, el]

end
end Mach
end

section
set_option Elab.async false
set_option linter.all false
set_option maxRecDepth 100000
namespace Mach
open PySem PySem.Spec L2
open PyProof.Rows (AllBare IntsAre)

/-! ### the law's own call, at the heap that the top leaves -/
section
variable {P : Program} {w : World} {K : PySem.W.Frag} {mg mb : Str → Option Value} {cm : Str → Option Addr} {k : Nat} {fa a : Addr} {fd : FuncData} {x : Str} {fn : List D → Hq → R D} {s1 : Shared} {vs : List Value} {ns : List Int}
theorem rels_ints {al : List Addr} {H : Hp} : ∀ ns : List Int, Rels K cm al H (ns.map D.int) (ns.map V.int)
  | [] => .nil
  | n :: ns => .cons (.int n) (rels_ints ns)
/-- the run from an abstract heap that tracks the script alone, or nothing -/
theorem law_from (H : Hp) (inK : K.In s1.heap) (glob : s1.heap.Ns mainGlobals mg) (blt : s1.heap.Ns builtinsNs mb) (same : ∀ x : Str, x ≠ "__name__" → mb x = bootBuiltins x) (lim : s1.heap.NoLimit) (gens : s1.gens = #[]) (room : Room k callerA)
    (script : s1.heap.get? a = some { cls := .type "list", data := .seq vs.toArray })
    (F : ∀ base : Heap, K.In base → base.Ns mainGlobals mg → FnG P w K mg base cm k fa fd [x] fn) (bind : ∀ (s : Shared) (u : Value), BindsTo s fd ⟨[u], []⟩ [(x, u)])
    (frozen : FzL K H a (ns.map V.int)) (only : ∀ b, H b = none ∨ ∃ o xs, H b = some (.frz o (.lst xs))) (ok : HOk P w H s1.heap) (atA : ∀ b, H b ≠ none → b = a) (notK : H a ≠ none → K.lookup a = none)
    (hfn : ∃ h', fn [.rol (ns.map D.int)] [] = .ok (.bl true) h') :
    codeAny (model P w) callerA (.call (.ref fa) ⟨[.ref a], []⟩) (fun r s2 => r = .ok (.ret (.bool true)) ∧ OldK s1.heap s2.heap ∧ s2.os = s1.os ∧ AllBare s2.gens) s1 := by
  have under : ∀ {b : Addr} {o : Obj}, s1.heap.get? b = some o → H b = none → (hidT s1.heap H).get? b = some o := fun e n => hidT_get e n
  have untracked : ∀ {b : Addr} {o : Obj}, s1.heap.get? b = some o → o.cls ≠ .type "list" → H b = none := fun {b o} e d => by
    rcases hq : H b with _ | u
    · rfl
    · have eb := atA b (by rw [hq]; exact fun z => nomatch z)
      subst eb
      rw [script] at e
      cases e
      exact (d rfl).elim
  have noDict : ∀ {b : Addr} {o : Obj} {es : Array DictEntry} {ep : Nat}, s1.heap.get? b = some o → o.data = .dict es ep → H b = none := fun {b o es ep} e d => by
    rcases hq : H b with _ | u
    · rfl
    · have eb := atA b (by rw [hq]; exact fun z => nomatch z)
      subst eb
      rw [script] at e
      cases e
      exact nomatch (show Data.seq vs.toArray _ = Data.dict es ep from d)
  have nsOf : ∀ {b : Addr} {m : Str → Option Value}, s1.heap.Ns b m → (hidT s1.heap H).Ns b m := fun {b m} ⟨o, es, ep, e, d, r⟩ => ⟨o, es, ep, under e (noDict e d), d, r⟩
  have inK2 : K.In (hidT s1.heap H) := fun b o e => under (inK b o e) (by
    rcases hq : H b with _ | u
    · rfl
    · have eb := atA b (by rw [hq]; exact fun z => nomatch z)
      subst eb
      have := notK (by rw [hq]; exact fun z => nomatch z)
      rw [this] at e
      cases e)
  have module : Mod K mg (hidT s1.heap H) := ⟨inK2, nsOf glob, ⟨mb, nsOf blt, same⟩, let ⟨mc, h1, h2⟩ := lim; ⟨mc, nsOf h1, h2⟩⟩
  have env : Env0 P w K mg (hidT s1.heap H) callerA [] s1 H := ⟨rfl, module, fun b o e => of_hidT e, Nat.le_of_eq (hidT_size _ _), trivial, fun b hb => absurd (show b ∈ ([] : List Addr) from hb) (by simp), ok, .of_eq gens⟩
  obtain ⟨h', efn⟩ := hfn
  have sp : SpG K cm fn [.ref a] H (fun v _ => v = .bl true) (fun _ _ _ => False) := by
    refine ⟨[], [], [.rol (ns.map D.int)], ⟨rfl, List.nodup_nil, fun r b o e => by simp at e⟩, .cons (.rol frozen (rels_ints ns)) .nil, ?_⟩
    rw [efn]
    intro al' H' v _ _ rv
    cases rv
    rfl
  refine codeAny_mono ((F _ inK2 (nsOf glob)).run callerA [] s1 H ⟨[.ref a], []⟩ [.ref a] [.ref a] _ _ room rfl env (bind s1 (.ref a)) (.cons rfl .nil) rfl sp) fun r s2 h => ?_
  rcases r with e | fl
  · exact absurd h fun z => by
      obtain ⟨_, _, _, _, _, _, _, _, _, _, _, _, z⟩ := (show L2.CX P w [] H s1 (fun _ _ _ => False) e s2 from z)
      exact z.elim
  · rcases fl with _ | _ | _ | u
    · exact h.elim
    · exact h.elim
    · exact h.elim
    · obtain ⟨v, H2, os, bare, un, ok2, rv, ev⟩ := (show CE [] P w H s1 (fun v _ => v = .bl true) u s2 from h)
      subst ev
      have eu : u = Value.bool true := rv
      subst eu
      refine ⟨rfl, OldK.of_keep (fun b o e => ?_), os, bare⟩
      rcases only b with q | ⟨ob, xs, q⟩
      · exact un.keep b o e q (fun z => absurd (show b ∈ ([] : List Addr) from z) (by simp)) (by simp)
      · obtain ⟨e1, _⟩ := ok b _ q
        obtain ⟨e2, _⟩ := ok2 b _ (un.frzs b ob _ q)
        rw [e] at e1
        cases e1
        exact e2
theorem law_run (inK : K.In s1.heap) (glob : s1.heap.Ns mainGlobals mg) (blt : s1.heap.Ns builtinsNs mb) (same : ∀ x : Str, x ≠ "__name__" → mb x = bootBuiltins x) (lim : s1.heap.NoLimit) (gens : s1.gens = #[]) (room : Room k callerA)
    (script : s1.heap.get? a = some { cls := .type "list", data := .seq vs.toArray }) (hints : IntsAre vs ns) (size : ns.length ≤ sizeLine)
    (F : ∀ base : Heap, K.In base → base.Ns mainGlobals mg → FnG P w K mg base cm k fa fd [x] fn) (bind : ∀ (s : Shared) (u : Value), BindsTo s fd ⟨[u], []⟩ [(x, u)])
    (hfn : ∃ h', fn [.rol (ns.map D.int)] [] = .ok (.bl true) h') :
    codeAny (model P w) callerA (.call (.ref fa) ⟨[.ref a], []⟩) (fun r s2 => r = .ok (.ret (.bool true)) ∧ OldK s1.heap s2.heap ∧ s2.os = s1.os ∧ AllBare s2.gens) s1 := by
  have vals := vals_ints hints
  have len := hints.length
  rcases hk : K.lookup a with _ | o
  · refine law_from (fun b => if b = a then some (.frz { cls := .type "list", data := .seq vs.toArray } (.lst (ns.map V.int))) else none) inK glob blt same lim gens room script F bind (.inl ⟨_, if_pos rfl⟩) (fun b => ?_) (fun b u z => ?_) (fun b z => ?_) (fun _ => hk) hfn
    · rcases Nat.decEq b a with hb | hb
      · exact .inl (if_neg hb)
      · exact Or.inr ⟨_, _, if_pos hb⟩
    · rcases Nat.decEq b a with hb | hb
      · exact nomatch (if_neg hb).symm.trans z
      · have z := (if_pos hb).symm.trans z
        cases z
        subst hb
        exact ⟨script, by rw [List.length_map]; exact size, vs, _, vals, script⟩
    · rcases Nat.decEq b a with hb | hb
      · exact absurd (if_neg hb) z
      · exact hb
  · have e := inK a o hk
    rw [script] at e
    cases e
    exact law_from (fun _ => none) inK glob blt same lim gens room script F bind (.inr ⟨_, vs.toArray, _, hk, rfl, rfl, rfl, by rw [List.size_toArray, len]; exact size, by simpa using vals⟩) (fun _ => .inl rfl)
      (fun b u z => nomatch (show (none : Option HO) = some u from z)) (fun b z => absurd rfl z) (fun z => absurd rfl z) hfn
end
/-- the goal that the head leaves, from the law's function -/
theorem walk_G {l : PySem.W.OpenLaw} {n k : Nat} {q : Program} {loose : List Str} {XP : (Str → Option Value) → Heap → Prop} {YP : World → Heap → Prop} {d : DefRec} {K : Params → PySem.W.Frag} {fn : List D → Hq → R D} {x : Str}
    (hn : l.most = some n) (hn2 : n ≤ sizeLine) (hdf : d.params.defaults = []) (room : Room k callerA)
    (hY : ∀ (v : World) (hp : Heap), YP v hp → (K v.params).In hp)
    (F : ∀ (w : World) (mg : Str → Option Value) (fa : Addr) (hp : Heap), (K w.params).In hp → hp.Ns mainGlobals mg → mg d.name = some (.ref fa) →
      ∃ (fd : FuncData) (cm : Str → Option Addr), (∀ (s : Shared) (u : Value), BindsTo s fd ⟨[u], []⟩ [(x, u)]) ∧
        ∀ base : Heap, (K w.params).In base → base.Ns mainGlobals mg → FnG l.prog w (K w.params) mg base cm k fa fd [x] fn)
    (hfn : ∀ ns : List Int, ns.length ≤ n → ∃ h', fn [.rol (ns.map D.int)] [] = .ok (.bl true) h') :
    PySem.W.WalkO q loose XP YP l.row.toRowW d [] (fun g vs => PySem.call g vs) := by
  refine Att.attach_call hn hdf fun w s0 s1 mg mb fa o pm cd doc a vs ns G Y ho hd hcd hmg hobj hints hlen hg => ?_
  have KX := hY w _ Y
  obtain ⟨fd, cm, hb, hF⟩ := F w mg fa _ KX G.T.g hmg
  exact law_run KX G.T.g G.T.b G.T.builtins G.T.nolimit hg room hobj hints (Nat.le_trans hlen hn2) hF hb (hfn ns hlen)
end Mach
end

section
set_option Elab.async false
set_option linter.all false
set_option maxRecDepth 100000
namespace Mach
open PySem PySem.Spec L2

/-! ### chains, several targets -/
def gChain (f f' : D → D → Hq → R D) (a b c : GE) : GE := fun lo h => (a lo h).bind fun x h1 => (b lo h1).bind fun y h2 => (f x y h2).calm.bind fun z h3 => match z with
  | .bl true => (c lo h3).bind fun w h4 => (f' y w h4).calm
  | .bl false => .ok (.bl false) h3
  | _ => .bad
def sPar2 (i j : Nat) (a b : GE) : GS := fun lo h => (a lo h).stm lo fun x h1 => (b lo h1).stm lo fun y h2 => .nx ((lo.set i (some x)).set j (some y)) h2
def sPar3 (i j l : Nat) (a b c : GE) : GS := fun lo h => (a lo h).stm lo fun x h1 => (b lo h1).stm lo fun y h2 => (c lo h2).stm lo fun z h3 => .nx (((lo.set i (some x)).set j (some y)).set l (some z)) h3
section
variable {X : Cx} {cm : Str → Option Addr} {W : WX} {a b c e : Expr} {es : List Expr} {ga gb gc : GE} {gs : GA} {pos : Pos} {K : PySem.W.Frag} {al : List Addr} {H : Hp}
theorem R2ok.post {r : R2} {f : D → D → Hq → R D} (hr : R2ok X cm r f) {al : List Addr} {h : Hq} {H : Hp} {x y : V} {dx dy : D} {T : VK} {E : XK} (S : Sim X.K cm al h H) (rx : Rel X.K cm al H dx x) (ry : Rel X.K cm al H dy y)
    (q : Post X.K cm (relD X.K cm) al H T E (f dx dy h).calm) : r x y H T := hr al h H x y dx dy T S rx ry q.calm
theorem chain_imp {r r' : R2} {f f' : D → D → Hq → R D} (hr : R2ok X cm r f) (hr' : R2ok X cm r' f') {ta tb tc : TE} {σ : L2.St} {H : Hp} {Q : VK} (ha : ta = tE X.K cm W ga) (hb : tb = tE X.K cm W gb) (hc : tc = tE X.K cm W gc) (h : tE X.K cm W (gChain f f' ga gb gc) σ H Q) : tChain r r' ta tb tc σ H Q := by
  subst ha hb hc
  obtain ⟨al, lo, h, L, S, q⟩ := h
  refine ⟨al, lo, h, L, S, tE_bind (rel := relD X.K cm) q fun al1 h1 d v H1 e1 S1 r1 q1 => ?_⟩
  refine ⟨al1, lo, h1, L.mono e1.pre e1.keep, S1, tE_bind (rel := relD X.K cm) q1 fun al2 h2 d2 v2 H2 e2 S2 r2 q2 => ?_⟩
  refine hr.post (E := fun c d H' => W c d σ H') S2 (r1.mono e2.pre e2.keep) r2 (tE_bind (rel := relD X.K cm) q2 fun al3 h3 d3 v3 H3 e3 S3 r3 q3 => ?_)
  cases r3 with
  | bl k =>
    refine ⟨k, rfl, ?_⟩
    cases k with
    | false => exact q3.here S3 (.bl false)
    | true =>
      refine ⟨al3, lo, h3, ((L.mono e1.pre e1.keep).mono e2.pre e2.keep).mono e3.pre e3.keep, S3, tE_bind (rel := relD X.K cm) q3 fun al4 h4 d4 v4 H4 e4 S4 r4 q4 => ?_⟩
      exact hr'.post S4 ((r2.mono e3.pre e3.keep).mono e4.pre e4.keep) r4 q4
  | _ => exact q3.elim
theorem me_chain {op op' : CmpOp} {r r' : R2} {f f' : D → D → Hq → R D} (ho : OpR X (compareOp op) r) (ho' : OpR X (compareOp op') r') (hr : R2ok X cm r f) (hr' : R2ok X cm r' f') (ha : ME X cm W a ga) (hb : ME X cm W b gb) (hc : ME X cm W c gc)
    (hm : lastMarks [op, op'] [b, c] = false := by with_unfolding_all rfl) : ME X cm W (.Compare a [op, op'] [b, c] pos) (gChain f f' ga gb gc) :=
  (pe_chain ho ho' ha hb hc hm).imp fun _ _ _ h => chain_imp hr hr' rfl rfl rfl h
theorem mt_chain {op op' : CmpOp} {r r' : R2} {f f' : D → D → Hq → R D} (ho : OpR X (compareOp op) r) (ho' : OpR X (compareOp op') r') (hr : R2ok X cm r f) (hr' : R2ok X cm r' f') (ha : ME X cm W a ga) (hb : ME X cm W b gb) (hc : ME X cm W c gc)
    (hm : lastMarks [op, op'] [b, c] = false := by with_unfolding_all rfl) : MT X cm W (.Compare a [op, op'] [b, c] pos) (gTst (gChain f f' ga gb gc)) := by
  refine (pt_chain ho ho' ha hb hc hm).imp fun σ H Q h => ?_
  obtain ⟨al, lo, h, L, S, q⟩ := h
  refine chain_imp (W := W) (ga := ga) (gb := gb) (gc := gc) hr hr' rfl rfl rfl ⟨al, lo, h, L, S, ?_⟩
  refine tE_bind (rel := relD X.K cm) q fun al1 h1 d v H1 e1 S1 r1 q1 => ?_
  cases r1 with
  | bl b => exact ⟨b, rfl, q1 al1 H1 b (Ext.refl _ _) S1 rfl⟩
  | _ => exact q1.elim
theorem ms_par2 {i j : Nat} {x y : Str} {px py pt : Pos} {kt k2 ptR} (hc : X.calm = true) (hN : X.N.Nodup) (hi : X.N[i]? = some x) (hj : X.N[j]? = some y) (hij : i ≠ j)
    (hx : X.env.scope.names.lookup x = some .local) (hy : X.env.scope.names.lookup y = some .local) (ha : ME X cm W a ga) (hb : ME X cm W b gb) (sa : starEach [a, b] X.env = (false, eval a X.env) :: starEach [b] X.env) (sb : starEach [b] X.env = (false, eval b X.env) :: starEach [] X.env)
    (hw : swappedStores [.Tuple [.Name x px, .Name y py] kt pt] (.Tuple [a, b] k2 ptR) X.env = pure (some [x, y]))
    (hs : swapsWithSole [.Tuple [.Name x px, .Name y py] kt pt] (.Tuple [a, b] k2 ptR) pos.line X.env = pure false := by rfl) :
    MS X cm W (.Assign [.Tuple [.Name x px, .Name y py] kt pt] (.Tuple [a, b] k2 ptR) pos) (sPar2 i j ga gb) := by
  refine (ps_par hc hN hi hj hij hx hy (pa_cons ha (pa_cons hb pa_nil sb) sa) hw hs).imp fun D σ H h => ?_
  obtain ⟨al, lo, h, L, S, q⟩ := h
  refine ⟨al, lo, h, L, S, PostS.stm (rel := relD X.K cm) L q fun al1 h1 d v H1 e1 S1 r1 L1 q1 => ?_⟩
  refine ⟨al1, lo, h1, L1, S1, PostS.stm (rel := relD X.K cm) L1 q1 fun al2 h2 d2 v2 H2 e2 S2 r2 L2' q2 => ?_⟩
  exact ⟨v, v2, rfl, q2.nx S2 ((L2'.set (r1.mono e2.pre e2.keep) i).set r2 j)⟩
theorem ms_par3 {i j l : Nat} {x y z : Str} {px py pz pt : Pos} {kt k2 ptR} (hc : X.calm = true) (hN : X.N.Nodup) (hi : X.N[i]? = some x) (hj : X.N[j]? = some y) (hl : X.N[l]? = some z) (hij : i ≠ j) (hil : i ≠ l) (hjl : j ≠ l)
    (hx : X.env.scope.names.lookup x = some .local) (hy : X.env.scope.names.lookup y = some .local) (hz : X.env.scope.names.lookup z = some .local) (ha : ME X cm W a ga) (hb : ME X cm W b gb) (hcc : ME X cm W c gc)
    (sa : starEach [a, b, c] X.env = (false, eval a X.env) :: starEach [b, c] X.env) (sb : starEach [b, c] X.env = (false, eval b X.env) :: starEach [c] X.env) (sc : starEach [c] X.env = (false, eval c X.env) :: starEach [] X.env)
    (hw : swappedStores [.Tuple [.Name x px, .Name y py, .Name z pz] kt pt] (.Tuple [a, b, c] k2 ptR) X.env = pure (some [x, y, z]))
    (hs : swapsWithSole [.Tuple [.Name x px, .Name y py, .Name z pz] kt pt] (.Tuple [a, b, c] k2 ptR) pos.line X.env = pure false := by rfl) :
    MS X cm W (.Assign [.Tuple [.Name x px, .Name y py, .Name z pz] kt pt] (.Tuple [a, b, c] k2 ptR) pos) (sPar3 i j l ga gb gc) := by
  refine (ps_par3 hc hN hi hj hl hij hil hjl hx hy hz (pa_cons ha (pa_cons hb (pa_cons hcc pa_nil sc) sb) sa) hw hs).imp fun D σ H h => ?_
  obtain ⟨al, lo, h, L, S, q⟩ := h
  refine ⟨al, lo, h, L, S, PostS.stm (rel := relD X.K cm) L q fun al1 h1 d v H1 e1 S1 r1 L1 q1 => ?_⟩
  refine ⟨al1, lo, h1, L1, S1, PostS.stm (rel := relD X.K cm) L1 q1 fun al2 h2 d2 v2 H2 e2 S2 r2 L2' q2 => ?_⟩
  refine ⟨al2, lo, h2, L2', S2, PostS.stm (rel := relD X.K cm) L2' q2 fun al3 h3 d3 v3 H3 e3 S3 r3 L3 q3 => ?_⟩
  exact ⟨v, v2, v3, rfl, q3.nx S3 (((L3.set ((r1.mono e2.pre e2.keep).mono e3.pre e3.keep) i).set (r2.mono e3.pre e3.keep) j).set r3 l)⟩

/-! ### names of the module -/
theorem me_glob {x : Str} {v : V} {u : Value} {d : D} (hg : Gl X x) (hm : X.mg x = some u) (r : RelV v u) (hr : ∀ al H, Rel X.K cm al H d v) (hd : (x == ("__debug__" : Str)) = false := by decide) : ME X cm W (.Name x pos) (gK d) := mk_imp hr (pe_glob hg hm r hd)
theorem me_cls {x : Str} {C : Addr} (hg : Gl X x) (hm : X.mg x = some (.ref C)) (hc : cm x = some C) (hd : (x == ("__debug__" : Str)) = false := by decide) : ME X cm W (.Name x pos) (gK (.cls x)) := me_glob (v := .ref C) hg hm rfl (fun _ _ => .cls hc) hd
theorem me_tyn {x : Str} {T : String} (hg : Gl X x) (hm : X.mg x = none) (hv : bootBuiltins x = some (.type T)) (hn : x ≠ "__name__" := by decide) (hd : (x == ("__debug__" : Str)) = false := by decide) : ME X cm W (.Name x pos) (gK (.ty T)) := mk_imp (fun _ _ => .ty T) (pe_bltn (v := .ty T) hg hm hv rfl hn hd)

/-! ### in, of data at any depth -/
def dIn (x y : D) (h : Hq) : R D := match toP h 60 x, toP h 60 y with
  | some p, some (.list qs) => .ok (.bl (qs.any fun z => PyData.eqv z p)) h
  | _, _ => .bad
def dNotIn (x y : D) (h : Hq) : R D := match toP h 60 x, toP h 60 y with
  | some p, some (.list qs) => .ok (.bl (!qs.any fun z => PyData.eqv z p)) h
  | _, _ => .bad
theorem ok_in : R2ok X cm (rInD X.K) dIn := by
  intro al h H x y dx dy Q S rx ry q
  unfold dIn at q
  cases e1 : toP h 60 dx with
  | none => rw [e1] at q; exact q.elim
  | some p1 =>
    cases e2 : toP h 60 dy with
    | none => rw [e1, e2] at q; exact q.elim
    | some p2 =>
      rw [e1, e2] at q
      obtain ⟨a1, a2, a3⟩ := dp_of S 60 dx x p1 e1 rx
      obtain ⟨b1, b2, b3⟩ := dp_of S 60 dy y p2 e2 ry
      cases p2 with
      | list qs => exact ⟨p1, qs, a1, b1, shaped_of (by decide) a2 a3, shaped_of (by decide) b2 b3, q.here S (.bl _)⟩
      | _ => exact q.elim
theorem ok_notIn : R2ok X cm (rNotInD X.K) dNotIn := by
  intro al h H x y dx dy Q S rx ry q
  unfold dNotIn at q
  cases e1 : toP h 60 dx with
  | none => rw [e1] at q; exact q.elim
  | some p1 =>
    cases e2 : toP h 60 dy with
    | none => rw [e1, e2] at q; exact q.elim
    | some p2 =>
      rw [e1, e2] at q
      obtain ⟨a1, a2, a3⟩ := dp_of S 60 dx x p1 e1 rx
      obtain ⟨b1, b2, b3⟩ := dp_of S 60 dy y p2 e2 ry
      cases p2 with
      | list qs => exact ⟨p1, qs, a1, b1, shaped_of (by decide) a2 a3, shaped_of (by decide) b2 b3, q.here S (.bl _)⟩
      | _ => exact q.elim
theorem units65 {k : Nat} {A : Around} (r : Room k A) : A.units + 65 < cLine := by have := r.un; omega
theorem op_inR {k : Nat} (r : Room k X.A) : OpR X (compareOp .In) (rInD X.K) := op_inD (units65 r)
theorem op_notInR {k : Nat} (r : Room k X.A) : OpR X (compareOp .NotIn) (rNotInD X.K) := op_notInD (units65 r)
theorem op_eqR {k : Nat} (r : Room k X.A) : OpR X (compareOp .Eq) (rEqD X.K) := op_eqD r.units
theorem op_neR {k : Nat} (r : Room k X.A) : OpR X (compareOp .NotEq) (rNeD X.K) := op_neD r.units

/-! ### repr -/
def dRepr : List D → Hq → R D
  | [x], h => match toP h 60 x with
    | some p => if p.showable = true ∧ p.shown.length ≤ 1000000 then .ok (.str p.shown) h else .bad
    | none => .bad
  | _, _ => .bad
def rRepr (K : PySem.W.Frag) : List V → Hp → VK → Prop := fun xs H Q => ∃ x p, xs = [x] ∧ Dp K H x p ∧ p.canLay0 = true ∧ p.depth ≤ 60 ∧ p.showable = true ∧ p.shown.length ≤ 1000000 ∧ Q (.str p.shown) H
theorem c_repr (guard : X.A.guards = some []) (hu : X.A.units + 64 < cLine) : CallR X (.builtin "repr") (rRepr X.K) := by
  intro pins s σ H xs us Q I rs hyp; have h := hyp
  obtain ⟨x, p, rfl, hd, lay, dep, sho, len, q⟩ := h
  obtain ⟨u, rfl, rx⟩ := vals1 rs
  obtain ⟨as, rd⟩ := Dp.reads I p x u hd rx
  have keep : ∀ {h' : Heap} {tk : Nat}, (∀ b o, s.heap.get? b = some o → h'.get? b = some o) → Inv X pins σ H { s with heap := h', toks := tk } := fun k => I.kept k
  cases rd with
  | none => exact PySem.P.repr_of_none ⟨.str _, H, I.tok _, ⟨_, rfl⟩, q⟩
  | bool b => exact PySem.P.repr_of_bool ⟨.str _, H, I.tok _, ⟨_, rfl⟩, q⟩
  | int i t =>
    have hi : i.natAbs.log2 < 1920 := of_decide_eq_true (by simpa [PyData.showable] using sho)
    exact PySem.P.repr_of_int hi ⟨.str _, H, I.tok _, ⟨_, rfl⟩, q⟩
  | str y t => exact PySem.P.repr_of_str ⟨.str _, H, I.tok _, ⟨_, rfl⟩, q⟩ (big_line len)
  | list h1 h2 h3 h4 => exact repr_of_reads' (.list h1 h2 h3 h4) sho (PyData.noDict_hsm (PyData.hasDict_of_canLay _ lay)) guard (by omega) (fun _ _ z => z) (fun h' u tk k => ⟨.str _, H, keep k, ⟨_, rfl⟩, q⟩) (big_line len)
  | tuple h1 h2 h3 h4 => exact repr_of_reads' (.tuple h1 h2 h3 h4) sho (PyData.noDict_hsm (PyData.hasDict_of_canLay _ lay)) guard (by omega) (fun _ _ z => z) (fun h' u tk k => ⟨.str _, H, keep k, ⟨_, rfl⟩, q⟩) (big_line len)
  | dict h1 h2 h3 h4 h5 => simp [PyData.canLay0] at lay
theorem ok_repr : RCok X cm (rRepr X.K) dRepr := by
  intro al h H xs ds Q S rs q
  cases rs with
  | nil => exact q.elim
  | cons r1 rr =>
    cases rr with
    | cons _ _ => exact q.elim
    | nil =>
      rename_i d v
      simp only [dRepr] at q
      cases e : toP h 60 d with
      | none => rw [e] at q; exact q.elim
      | some p =>
        rw [e] at q
        simp only at q
        split at q
        · rename_i hc
          obtain ⟨a1, a2, a3⟩ := dp_of S 60 d v p e r1
          exact ⟨v, p, rfl, a1, a2, a3, hc.1, hc.2, q.here S (.str _)⟩
        · exact q.elim

/-! ### list(range(n)) -/
def gLstRng (a : GE) : GE := fun lo h => (a lo h).bind fun x h1 => match x with
  | .int j => if 0 ≤ j ∧ j ≤ 100000 then newL (rngD 0 j.toNat) h1 else .bad
  | _ => .bad
end
end Mach
end

section
set_option Elab.async false
set_option linter.all false
set_option maxRecDepth 100000
namespace Mach
open PySem PySem.Spec L2
open PyProof.Rows (envOfC)

/-- the built-in names that the module leaves alone -/
structure Blt (mg : Str → Option Value) : Prop where
  len : mg "len" = none
  int : mg "int" = none
  list : mg "list" = none
  tuple : mg "tuple" = none
  range : mg "range" = none
  enumerate : mg "enumerate" = none
  isinstance : mg "isinstance" = none
  repr : mg "repr" = none
  type : mg "type" = none
  all : mg "all" = none
  any : mg "any" = none
  max : mg "max" = none
  min : mg "min" = none
  set : mg "set" = none
  sorted : mg "sorted" = none
  sum : mg "sum" = none
  str : mg "str" = none
  bool : mg "bool" = none
  zip : mg "zip" = none

structure DefOk (P : Program) (w : World) (K : PySem.W.Frag) (mg : Str → Option Value) (base : Heap) (cm : Str → Option Addr) (k : Nat) (x : Str) (ps : List Str) (fn : List D → Hq → R D) : Prop where
  ex : ∃ (f : Addr) (fd : FuncData), FnG P w K mg base cm k f fd ps fn ∧ mg x = some (.ref f) ∧ PySem.W.keepIn K (.ref f) = true ∧ Binds K fd ps []
/-- where a def of the text stands -/
structure At (K : PySem.W.Frag) (mg : Str → Option Value) (x : Str) (st : Stmt) (ps : List Str) : Prop where
  ex : ∃ (f : Addr) (fd : FuncData), Fun K x x st f fd ∧ mg x = some (.ref f) ∧ Binds K fd ps []

section
variable {P : Program} {w : World} {K : PySem.W.Frag} {mg : Str → Option Value} {base : Heap} {cm : Str → Option Addr}
theorem def_of {x : Str} {st : Stmt} {N ps : List Str} {k : Nat} {body : GS} (T : At K mg x st ps) (S : FnScope N ps (defScope st))
    (hbody : ∀ (f : Addr) (cdv : Value) (A : Around) (outer : List Env) (s : Shared) (H : Hp) (E : XK), Room k (A.deeper (envOfC x (defScope st) s.heap.objs.size f cdv)) → A.guards = some [] →
      MSs (cxOf (L2.CX P w) P w K mg base N x (defScope st) f cdv A outer s H E) cm (fun c d _ H' => E c d H') (defBody st) body) : DefOk P w K mg base cm (k + 1) x ps (fnOf N.length body) := by
  obtain ⟨f, fd, F, hm, hb⟩ := T.ex
  exact ⟨f, fd, fnG_of F S (fun cdv A outer s H E => hbody f cdv A outer s H E), hm, F.kp, hb⟩
end
section
variable {X : Cx} {cm : Str → Option Addr} {W : WX} {a e : Expr} {es : List Expr} {ga : GE} {gs : GA} {pos p : Pos} {k j : Nat} {ps : List Str} {fn : List D → Hq → R D} {x : Str}
theorem me_callD (F : DefOk X.prog X.w X.K X.mg X.base cm j x ps fn) (room : Room k X.A) (hjk : j ≤ k) (guard : X.A.guards = some []) (hg : Gl X x) (tk : Takes X W) (hn : (e :: es).length = ps.length)
    (ha : MA X cm W (e :: es) gs) (harg : ∀ lo h ds h', gs lo h = .ok ds h' → ds.length = (e :: es).length) (hdb : (x == ("__debug__" : Str)) = false := by decide) (he : starEach (e :: es) X.env = (false, eval e X.env) :: starEach es X.env := by rfl) (hpl : (backTo pos (starEach es X.env)).any (·.1) = false := by rfl) :
    ME X cm W (.Call (.Name x p) (e :: es) [] pos) (gCall fn gs) := by
  obtain ⟨f, fd, F, hm, hk, hb⟩ := F.ex
  exact me_call F (room.mono hjk) guard hg hm hk hb tk hn ha harg hdb he hpl
theorem me_lstRng {p2 pos2 : Pos} (hc : X.calm = true) (hg : Gl X "list") (hm : X.mg "list" = none) (hg2 : Gl X "range") (hm2 : X.mg "range" = none) (ha : ME X cm W a ga) (na : starEach [a] X.env = (false, eval a X.env) :: starEach [] X.env := by rfl)
    (nb : starEach [.Call (.Name "range" p2) [a] [] pos2] X.env = (false, eval (.Call (.Name "range" p2) [a] [] pos2) X.env) :: starEach [] X.env := by rfl) : ME X cm W (.Call (.Name "list" p) [.Call (.Name "range" p2) [a] [] pos2] [] pos) (gLstRng ga) := by
  refine (pe_listRg hc hg hm (prg_1 hg2 hm2 ha na) nb).imp fun σ H Q h => ?_
  obtain ⟨al, lo, h, L, S, q⟩ := h
  refine ⟨al, lo, h, L, S, tE_bind (rel := relD X.K cm) q fun al1 h1 d v H1 e1 S1 r1 q1 => ?_⟩
  cases r1 with
  | int n =>
    simp only at q1
    split at q1
    · rename_i hb
      refine ⟨n, rfl, RgOk.of_le (Int.le_refl 0) (by omega) (by decide) hb.1, ?_⟩
      have e0 : rgV 0 n = (List.range n.toNat).map fun i : Nat => V.int (0 + i) := by unfold rgV; rw [Int.sub_zero]
      have rr : Rels X.K cm al1 H1 (rngD 0 n.toNat) (rgV 0 n) := by
        rw [e0]
        unfold rngD
        generalize List.range n.toNat = l
        induction l with
        | nil => exact .nil
        | cons x l ih => exact .cons (.int _) ih
      exact (Post.newL q1 S1 rr).2
    · exact q1.elim
  | _ => exact q1.elim
end
end Mach
end

section
set_option Elab.async false
set_option linter.all false
set_option maxRecDepth 100000
set_option maxHeartbeats 1100000
namespace Mach
open PySem PySem.Spec L2

/-! ### exceptions of the program's own classes -/
structure ExcK (K : PySem.W.Frag) (mg : Str → Option Value) (cm : Str → Option Addr) (c : Str) (C : Addr) : Prop where
  g : mg c = some (.ref C)
  c : cm c = some C
  q : PySem.W.excIn K C [.type "ValueError", .type "Exception", .type "BaseException", .type "object"] "ValueError.__new__" = true
  (kp : PySem.W.keepIn K (.ref C) = true)
  sb : PySem.W.subIn K (.ref C) (.type "BaseException") = some true
  ty : PySem.W.typeIn K (.ref C) = some (.type "type")
  (ga : PySem.W.findIn K (.ref C) "__getattribute__" = some (some (.builtin "BaseException.__getattribute__")))
  (gg : PySem.W.findIn K (.ref C) "__getattr__" = some none)
  (hd : PySem.W.hasDictIn K C = true)
  cl : PySem.W.findIn K (.ref C) "__class__" = some (some (.builtin "object.__class__"))
  mo : PySem.W.mroIn K C (.type "object") = some true
structure ExcA (K : PySem.W.Frag) (mg : Str → Option Value) (cm : Str → Option Addr) (c : Str) : Prop where
  ex : ∃ C, ExcK K mg cm c C
def sRaise (c : Str) : GS := fun lo h => .ex c [] lo h
section
variable {X : Cx} {cm : Str → Option Addr} {W : WX} {x m : Str} {pos p p2 p3 : Pos} {j : Nat}
theorem ms_raise (T : ExcA X.K X.mg cm x) (hg : Gl X x) (tk : Takes X W) (hc : X.calm = true := by rfl) (hdb : (x == ("__debug__" : Str)) = false := by decide) : MS X cm W (.Raise (some (.Call (.Name x p) [.Constant (.str m) j p2] [] p3)) none pos) (sRaise x) := by
  obtain ⟨C, T⟩ := T.ex
  refine (ps_raise hc tk (pmk_own PySem.F.excBase_ValueError T.q T.g T.kp (raises_own T.sb T.ty) hg hdb)).imp fun D σ H h => ?_
  obtain ⟨al, lo, h, L, S, q⟩ := h
  exact q al H (.ref C) none σ (Ext.refl _ _) S ⟨C, T.c, rfl, rfl⟩ L
end

/-! ### try: body except X as n: suite -/
def SR.after (i : Nat) : SR → SR
  | .nx lo h => .nx (lo.set i none) h
  | .rt d h => .rt d h
  | .bk lo h => .bk (lo.set i none) h
  | .ct lo h => .ct (lo.set i none) h
  | _ => .bad
def sTry (sup : Str → Bool) (i : Nat) (body suite : GS) : GS := fun lo h => match body lo h with
  | .ex c fs lo1 h1 => if sup c = true then (suite (lo1.set i (some (.ref h1.length))) (h1 ++ [.exc c fs])).after i else .bad
  | o => o
section
variable {s : Shared} {X : Cx} {pins : List (Addr × Obj)} {σ : L2.St} {H : Hp}
theorem ghost (I : Inv X pins σ H s) (hex : X.ex = []) {a C : Addr} {d : Option Addr} {oe : Obj} {vs : Array Value} (e : s.heap.get? a = some oe) (z : Zc (.ref C) d oe) (hd : oe.data = .fields vs) (na : H a = none) (n0 : X.s_0.heap.get? a = none)
    (nL : a ≠ X.env.locals) (np : ∀ p ∈ X.pn ++ pins, p.1 ≠ a) : Inv X pins σ (upd H a (XO C d a)) s := by
  have ne0 : ∀ {b : Addr} {o : Obj}, X.s_0.heap.get? b = some o → b ≠ a := fun {b o} q w => by rw [w, n0] at q; cases q
  have neH : ∀ {b : Addr} {u : HO}, H b = some u → b ≠ a := fun {b u} q w => by rw [w, na] at q; cases q
  have neC : ∀ y c, X.env.cells.lookup y = some c → c ≠ a := fun y c q w => by
    obtain ⟨v, o, ho, hv⟩ := I.cell y c q
    rw [w, e] at ho
    cases ho
    rw [hd] at hv
    cases hv
  have obj : ObjOk X.prog X.w (upd H a (XO C d a)) s.heap a (XO C d a) := ⟨⟨oe, vs, e, z, hd⟩, ⟨oe, e⟩, fun h1 h2 ⟨o, v, q, r⟩ k => ⟨o, v, k o q, r⟩⟩
  exact {
    ok := I.ok
    os := I.os
    bare := I.bare
    base := {
      keep := I.base.keep
      slot := I.base.slot
      free := fun b o q n hb => by rw [upd_ne (ne0 q)]; exact I.base.free b o q n hb
      there := I.base.there
      tups := fun b xs q => by have w := I.base.tups b xs q; rw [upd_ne (neH w)]; exact w
      frzs := fun b o u q => by have w := I.base.frzs b o u q; rw [upd_ne (neH w)]; exact w
      tbls := fun b ps q => by obtain ⟨more, w⟩ := I.base.tbls b ps q; exact ⟨more, by rw [upd_ne (neH w)]; exact w⟩ }
    loc := I.loc
    cell := I.cell
    free := by rw [upd_ne (fun w => nL w.symm)]; exact I.free
    freeC := fun y c q => by rw [upd_ne (neC y c q)]; exact I.freeC y c q
    pin := fun p hp => by
      obtain ⟨p1, p2, p3⟩ := I.pin p hp
      exact ⟨p1, by rw [upd_ne (np p hp)]; exact p2, p3⟩
    hok := HOk.laidN I.hok (fun _ _ q => q) na obj
    len := I.len }
theorem intoSuite (I : Inv X pins σ H s) (a : Addr) : Inv (X.suite a (X.pn ++ pins)) [] σ H s :=
  { ok := I.ok.suite _ _, os := I.os, bare := I.bare, base := I.base, loc := I.loc, cell := I.cell, free := I.free, freeC := I.freeC, pin := fun p hp => I.pin p (by rw [List.append_nil] at hp; exact hp), hok := I.hok, len := I.len }
theorem offSuite {a : Addr} {pn' : List (Addr × Obj)} (I : Inv (X.suite a (X.pn ++ pins)) pn' σ H s) (ok : X.Ok) : Inv X pins σ H s :=
  { ok := ok, os := I.os, bare := I.bare, base := I.base, loc := I.loc, cell := I.cell, free := I.free, freeC := I.freeC, pin := fun p hp => I.pin p (List.mem_append_left _ hp), hok := I.hok, len := I.len }
end
section
variable {X : Cx} {cm : Str → Option Addr} {W : WX} {x n : Str} {cv : Value} {i : Nat} {body suite : List Stmt} {b0 : Stmt} {np pos pos2 : Pos} {gb gsu : GS} {sup : Str → Bool}
/-- what is wished of an exception of the body -/
def wTry (X : Cx) (cm : Str → Option Addr) (W : WX) (sup : Str → Bool) (i : Nat) (gsu : GS) (D : Ends) : WX := fun cls d σ H =>
  ∃ al lo h c fs, LoR X.K cm al H lo σ ∧ Sim X.K cm al h H ∧ ExR X.K cm al H c fs cls d ∧ sup c = true ∧ PostS X.K cm W al H D ((gsu (lo.set i (some (.ref h.length))) (h ++ [.exc c fs])).after i)
theorem ms_try (hs : X.stack = X.env :: X.outer) (hf : X.env.frame = some X.env.locals) (hex : X.ex = []) (hN : X.N.Nodup) (hi : X.N[i]? = some n) (hln : X.env.kindOf n = some .local) (hc : Names X x cv)
    (hsup : ∀ c C, sup c = true → cm c = some C → PySem.W.exmOne X.K (.ref C) cv = some true)
    (hb : ∀ (W' : WX) (pn : List (Addr × Obj)) (xe : Value → Shared → Prop), Takes (X.tr pn xe) W' → PassesOwn (model X.prog X.w) X.A X.env xe → MSs (X.tr pn xe) cm W' body gb)
    (hsu : ∀ (a : Addr) (pn : List (Addr × Obj)), MSs (X.suite a pn) cm W0 (b0 :: suite) gsu) :
    MS X cm W (.Try body [.ExceptHandler (some (.Name x np)) (some n) (b0 :: suite) pos2] [] [] pos) (sTry sup i gb gsu) := by
  refine ⟨fun pins s σ H D I0 h0 => ?_⟩
  obtain ⟨al, lo, h, L, S, q⟩ := h0
  have ok := I0.ok
  have frs0 : X.A.frames = some (X.env :: X.outer) := ok.frames.trans (congrArg some hs)
  have bodyPost : tS X.K cm (wTry X cm W sup i gsu D) gb D σ H := by
    refine ⟨al, lo, h, L, S, ?_⟩
    unfold sTry at q
    cases eb : gb lo h with
    | nx lo1 h1 => rw [eb] at q; exact q
    | rt d h1 => rw [eb] at q; exact q
    | bk lo1 h1 => rw [eb] at q; exact q
    | ct lo1 h1 => rw [eb] at q; exact q
    | bad => rw [eb] at q; exact q
    | ex c fs lo1 h1 =>
      rw [eb] at q
      simp only at q
      split at q
      · rename_i hsc
        exact fun al1 H1 cls d σ1 e1 S1 r1 L1 => ⟨al1, lo1, h1, c, fs, L1, S1, r1, hsc, PostS.later e1 q⟩
      · exact q.elim
  refine wpAny_Try_except (wpAny_mono ((hb (wTry X cm W sup i gsu D) (X.pn ++ pins) (fun e s1 => wpAny (model X.prog X.w) X.A (noteFrame e X.env) (fun _ s2 => wpAny (model X.prog X.w) X.A (setFlight e none) (fun _ s3 =>
    wpAny (model X.prog X.w) X.A (handleBy e X.env [.ExceptHandler (some (.Name x np)) (some n) (b0 :: suite) pos2]) (SP X pins D) X.xe s3) X.xe s2) X.xe s1) (fun u s1 air => ?_) PassesOwn.looking).run [] s σ H D (I0.toTry _) bodyPost) (fun flow s1 post => ?_) (fun _ _ z => z))
  · obtain ⟨a, B, sI, pins1, σ1, H1, cls, d, rfl, J0, nb, up, sky, na, os, ag, al1, lo1, h1, c, fs, L1, S1, ⟨C, hC, rfl, hfs⟩, hsc, q1⟩ := air
    have J : Inv X pins σ1 H1 sI := J0.ofTry ok
    show wpAny _ X.A (noteFrame (.ref a) X.env) _ _ _
    refine Sky.land Zc.steady frs0 hf (show Sky B (X.env :: X.outer) a (Zc (.ref C) d) X.env.locals s1.heap by rw [← hs]; exact sky) fun h3 fly3 up3 => ?_
    have J3 : Inv X pins σ1 H1 { s1 with heap := h3 } := J.landed nb fly3.1 (up.trans up3) os ag
    obtain ⟨oe3, vs3, he3, hz3, hd3⟩ := fly3.there
    have notFrame : a ∉ frs (X.env :: X.outer) := fun hm => by
      obtain ⟨_, o', e', hnf⟩ := fly3.2.2.1.mem hm
      rw [he3] at e'
      cases e'
      exact hnf _ hd3
    have nL : a ≠ X.env.locals := fun w => notFrame (List.mem_filterMap.mpr ⟨X.env, List.mem_cons_self, by rw [hf, w]⟩)
    have newI : sI.heap.get? a = none := by
      rcases hq : sI.heap.get? a with _ | o
      · rfl
      · have w := nb a o hq (by rw [hs]; exact notFrame)
        rw [fly3.2.1] at w
        cases w
    have new0 : X.s_0.heap.get? a = none := by
      rcases hq : X.s_0.heap.get? a with _ | o
      · rfl
      · obtain ⟨o', w⟩ := J.base.there a o hq (by rw [hex]; exact fun z => nomatch z)
        rw [newI] at w
        cases w
    have noPin : ∀ p ∈ X.pn ++ pins, p.1 ≠ a := fun p hp w => by
      have z := (J.pin p hp).1
      rw [w, newI] at z
      cases z
    have T3 := intoSuite J3 a
    have look : PySem.W.Looks (model X.prog X.w) h3 (typeOf (.ref a)) (.ref C) := fun A Q E s k z => wpAny_typeOf_ref (k _ _ he3) (by rw [hz3.1]; exact z)
    have caught := PySem.W.exm_one (M := model X.prog X.w) J3.kIn look (hsup c C hsc hC)
    have named : ∀ {Q : Value → Shared → Prop} {E : Value → Shared → Prop}, Q cv { s1 with heap := h3 } → wpAny (model X.prog X.w) (X.A.mark (some (.ref a))) (eval (.Name x np) X.env) Q E { s1 with heap := h3 } := by
      intro Q E z
      rcases hc with ⟨hg, hdbg, hm | ⟨hm, hv, hnn⟩⟩
      · exact ld_glob (X := X.suite a (X.pn ++ pins)) T3 hg hm z hdbg
      · exact ld_blt (X := X.suite a (X.pn ++ pins)) T3 hg hm hv z hnn hdbg
    refine wpAny_handleBy_cons (codeAny_handlers_test (named (caught.here (codeAny_handlers_suite_as (HandSPX.lands_againZ fly3 fun h4 fly4 up4 => ?_))))) (by intro w; cases w)
    have J4 : Inv X pins σ1 H1 { s1 with heap := h4 } := J.landed nb fly4.1 ((up.trans up3).trans up4) os ag
    obtain ⟨oe4, vs4, he4, hz4, hd4⟩ := fly4.there
    have G4 := intoSuite (ghost J4 hex he4 hz4 hd4 na new0 nL noPin) a
    refine store_ok (X := X.suite a (X.pn ++ pins)) (v := .ref a) G4 hN hi (Or.inl hln) rfl (fun s5 G5 => ?_) (Or.inr hln)
    have ext : Ext al1 H1 (al1 ++ [a]) (upd H1 a (XO C d a)) := ⟨List.prefix_append _ _, Keep.new na⟩
    have sim5 : Sim X.K cm (al1 ++ [a]) (h1 ++ [.exc c fs]) (upd H1 a (XO C d a)) := S1.newO na ⟨C, d, hC, upd_same, hfs.mono ext.pre ext.keep⟩
    have lo5 := (L1.mono ext.pre ext.keep).set (d := .ref h1.length) (v := .ref a) (.ref (S1.ext_get a)) i
    have q5 := PostS.later ext q1
    -- the suite's ends, its name gone
    let D2 : Ends := { nx := fun σ' H' => D.nx (σ'.set i none) H', rt := D.rt, bk := fun σ' H' => D.bk (σ'.set i none) H', ct := fun σ' H' => D.ct (σ'.set i none) H' }
    have q6 : PostS X.K cm W0 (al1 ++ [a]) (upd H1 a (XO C d a)) D2 (gsu (lo1.set i (some (.ref h1.length))) (h1 ++ [.exc c fs])) := by
      cases eg : gsu (lo1.set i (some (.ref h1.length))) (h1 ++ [.exc c fs]) with
      | nx lo2 h2 => rw [eg] at q5; exact fun al' H' σ' e s l => q5 al' H' _ e s (l.drop i none)
      | rt d2 h2 => rw [eg] at q5; exact q5
      | bk lo2 h2 => rw [eg] at q5; exact fun al' H' σ' e s l => q5 al' H' _ e s (l.drop i none)
      | ct lo2 h2 => rw [eg] at q5; exact fun al' H' σ' e s l => q5 al' H' _ e s (l.drop i none)
      | ex c2 fs2 lo2 h2 => rw [eg] at q5; exact q5.elim
      | bad => rw [eg] at q5; exact q5.elim
    refine wpAny_mono ((hsu a (X.pn ++ pins)).run [] s5 _ _ D2 G5 ⟨_, _, _, lo5, sim5, q6⟩) (fun flow s6 post => ?_) (fun _ _ w => False.elim w)
    have ending : ∀ {σ6 : L2.St} {H6 : Hp} {Q : Shared → Prop}, Inv (X.suite a (X.pn ++ pins)) [] σ6 H6 s6 → (∀ s7, Inv X pins (σ6.set i none) H6 s7 → Q s7) →
        wpAny (model X.prog X.w) X.A (do bindName X.env n .none; unbindBehindTheSuite X.env n pos2) (fun _ s7 => Q s7) X.xe s6 := fun G6 hq => gone_ok (offSuite G6 ok) hN hi hln hq
    rcases flow with _ | _ | _ | u
    · obtain ⟨σ6, H6, G6, z⟩ := post
      exact ending G6 fun s7 J7 => ⟨_, _, J7, z⟩
    · obtain ⟨σ6, H6, G6, z⟩ := post
      exact ending G6 fun s7 J7 => ⟨_, _, J7, z⟩
    · obtain ⟨σ6, H6, G6, z⟩ := post
      exact ending G6 fun s7 J7 => ⟨_, _, J7, z⟩
    · obtain ⟨v6, σ6, H6, G6, r6, z⟩ := post
      exact ending G6 fun s7 J7 => ⟨_, _, _, J7, r6, z⟩
  · rcases flow with _ | _ | _ | u
    · obtain ⟨σ1, H1, J, z⟩ := post
      exact wpAny_execs_nil ⟨σ1, H1, J.ofTry ok, z⟩
    · obtain ⟨σ1, H1, J, z⟩ := post
      exact ⟨σ1, H1, J.ofTry ok, z⟩
    · obtain ⟨σ1, H1, J, z⟩ := post
      exact ⟨σ1, H1, J.ofTry ok, z⟩
    · obtain ⟨v, σ1, H1, J, r, z⟩ := post
      exact ⟨v, σ1, H1, J.ofTry ok, r, z⟩
end
end Mach
end

section
set_option Elab.async false
set_option linter.all false
set_option maxRecDepth 100000
set_option maxHeartbeats 2100000
namespace Mach
open PySem PySem.Spec L2
open PyProof.Rows (IsTup)

/-! ### isinstance(x, C), x an exception that is held, C an own class -/
/-- sup c t: the class c is t or under it (a table of the program's own) -/
structure SupK (K : PySem.W.Frag) (cm : Str → Option Addr) (sup : Str → Str → Option Bool) : Prop where
  own : ∀ c C t T b, sup c t = some b → cm c = some C → cm t = some T → PySem.W.kitOne K (.ref C) (.ref T) = some b
  (hn : PySem.W.specialIn K (.builtin "object.__class__") "__get__" = some (some (.builtin "getset_descriptor.__get__")))
  (ht : PySem.W.takesIn K (.builtin "object.__class__") = some true)
  ga : ∀ c C t b, sup c t = some b → cm c = some C → PySem.W.findIn K (.ref C) "__getattribute__" = some (some (.builtin "BaseException.__getattribute__"))
  gg : ∀ c C t b, sup c t = some b → cm c = some C → PySem.W.findIn K (.ref C) "__getattr__" = some none
  sb : ∀ c C t b, sup c t = some b → cm c = some C → PySem.W.subIn K (.ref C) (.type "BaseException") = some true
  hd : ∀ c C t b, sup c t = some b → cm c = some C → PySem.W.hasDictIn K C = true
  cl : ∀ c C t b, sup c t = some b → cm c = some C → PySem.W.findIn K (.ref C) "__class__" = some (some (.builtin "object.__class__"))
  mo : ∀ c C t b, sup c t = some b → cm c = some C → PySem.W.mroIn K C (.type "object") = some true
def rIsX (K : PySem.W.Frag) (cm : Str → Option Addr) : List V → Hp → VK → Prop := fun xs H Q => ∃ a C T b, xs = [.ref a, .ref T] ∧ H a = some (XO C none a) ∧ PySem.W.kitOne K (.ref C) (.ref T) = some b ∧
  PySem.W.findIn K (.ref C) "__getattribute__" = some (some (.builtin "BaseException.__getattribute__")) ∧ PySem.W.findIn K (.ref C) "__getattr__" = some none ∧ PySem.W.subIn K (.ref C) (.type "BaseException") = some true ∧ PySem.W.hasDictIn K C = true ∧
  PySem.W.findIn K (.ref C) "__class__" = some (some (.builtin "object.__class__")) ∧ PySem.W.mroIn K C (.type "object") = some true ∧
  PySem.W.specialIn K (.builtin "object.__class__") "__get__" = some (some (.builtin "getset_descriptor.__get__")) ∧ PySem.W.takesIn K (.builtin "object.__class__") = some true ∧ Q (.bl b) H
def dIsX (sup : Str → Str → Option Bool) : List D → Hq → R D
  | [.ref r, .cls t], h => match h[r]? with
    | some (.exc c []) => match sup c t with
      | some b => .ok (.bl b) h
      | none => .bad
    | _ => .bad
  | _, _ => .bad
section
variable {X : Cx} {cm : Str → Option Addr} {W : WX} {a b c e : Expr} {es : List Expr} {ga gb gc : GE} {gs : GA} {pos : Pos} {K : PySem.W.Frag} {al : List Addr} {H : Hp}
theorem c_isX : CallR X (.builtin "isinstance") (rIsX X.K cm) := by
  intro pins s σ H xs ws Q I r h
  obtain ⟨a, C, T, b, rfl, ho, hk, g1, g2, g3, g4, g5, g6, g7, g8, q⟩ := h
  obtain ⟨w1, w2, rfl, r1, r2⟩ := vals2 r
  have e1 : w1 = Value.ref a := r1
  have e2 : w2 = Value.ref T := r2
  subst e1 e2
  obtain ⟨⟨oe, vs, hget, hz, hd⟩, _, _⟩ := I.hok a _ ho
  have J : PySem.W.InstAt s.heap a oe C none := by
    obtain ⟨oc, od, odata, osl⟩ := oe
    obtain ⟨h1, h2⟩ := hz
    dsimp only at h1 h2 hd
    subst h1 h2 hd
    exact ⟨hget, rfl, rfl, True.intro⟩
  exact PySem.W.kia_one (PySem.W.handS_kitx_exc g1 g2 g3 g4 g5 g7 g8 g6) I.kIn J hk (fun z => nomatch z) fun tk => ⟨.bl b, H, I.kept (t' := tk) fun _ _ z => z, rfl, q⟩
theorem ok_isX {sup : Str → Str → Option Bool} (T : SupK X.K cm sup) : RCok X cm (rIsX X.K cm) (dIsX sup) := by
  intro al h H xs ds Q S rs q
  cases rs with
  | nil => exact q.elim
  | cons r1 rr =>
    cases rr with
    | nil => cases r1 <;> exact q.elim
    | cons r2 rr =>
      cases rr with
      | cons _ _ => cases r1 <;> cases r2 <;> exact q.elim
      | nil =>
        cases r1 with
        | ref hx =>
          cases r2 with
          | cls ht =>
            rename_i r p t C2
            simp only [dIsX] at q
            split at q
            · rename_i c eo
              cases es : sup c t with
              | none => rw [es] at q; exact q.elim
              | some b =>
                rw [es] at q
                obtain ⟨C, d, hc, ho, hf⟩ := S.obs r p _ hx eo
                cases d with
                | none => exact ⟨p, C, C2, b, rfl, ho, T.own c C t C2 b es hc ht, T.ga c C t b es hc, T.gg c C t b es hc, T.sb c C t b es hc, T.hd c C t b es hc, T.cl c C t b es hc, T.mo c C t b es hc, T.hn, T.ht, q.here S (.bl b)⟩
                | some dx => exact (hf.1 rfl).elim
            · exact q.elim
          | _ => exact q.elim
        | _ => cases r2 <;> exact q.elim
end
end Mach
end

section
set_option Elab.async false
set_option linter.all false
set_option maxRecDepth 100000
set_option maxHeartbeats 2100000
namespace Mach
open PySem PySem.Spec L2
open PyProof.Rows (IsTup)

/-! ### in, over lists and tuples of data -/
def dInA (x y : D) (h : Hq) : R D := match toP h 60 x, toP h 60 y with
  | some p, some (.list qs) => .ok (.bl (qs.any fun z => PyData.eqv z p)) h
  | some p, some (.tuple qs) => .ok (.bl (qs.any fun z => PyData.eqv z p)) h
  | _, _ => .bad
def dNotInA (x y : D) (h : Hq) : R D := match toP h 60 x, toP h 60 y with
  | some p, some (.list qs) => .ok (.bl (!qs.any fun z => PyData.eqv z p)) h
  | some p, some (.tuple qs) => .ok (.bl (!qs.any fun z => PyData.eqv z p)) h
  | _, _ => .bad
def rInTD (K : PySem.W.Frag) (neg : Bool) : R2 := fun x y H Q => ∃ d ds, Dp K H x d ∧ Dp K H y (.tuple ds) ∧ SeqAt.shaped d = true ∧ SeqAt.shaped (.tuple ds) = true ∧ Q (.bl (if neg = true then !ds.any fun z => PyData.eqv z d else ds.any fun z => PyData.eqv z d)) H
section
variable {X : Cx} {cm : Str → Option Addr} {W : WX} {a b c e : Expr} {es : List Expr} {ga gb gc : GE} {gs : GA} {pos : Pos} {K : PySem.W.Frag} {al : List Addr} {H : Hp}
theorem roomT {A : Around} {ds : List PyData} {d : PyData} (sd : SeqAt.shaped d = true) (hu : A.units + 65 < cLine) : A.units + 1 + min (PyData.depthAll ds) d.depth < cLine := by
  have := SeqAt.depth_of_shaped sd
  omega
theorem op_inTD (hu : X.A.units + 65 < cLine) : OpR X (compareOp .In) (rInTD X.K false) := by
  intro pins s σ H x y v u Q I rx ry hw
  obtain ⟨d, ds, hd, he, sd, se, q⟩ := hw
  obtain ⟨ks, r1⟩ := Dp.reads I d x v hd rx
  obtain ⟨bs, r2⟩ := Dp.reads I (.tuple ds) y u he ry
  exact SeqAt.in_tuple_reads r2 r1 (SeqAt.canLay_of_shaped se) (SeqAt.canLay_of_shaped sd) (roomT sd hu) ⟨.bl _, H, I, rfl, q⟩
theorem op_notInTD (hu : X.A.units + 65 < cLine) : OpR X (compareOp .NotIn) (rInTD X.K true) := by
  intro pins s σ H x y v u Q I rx ry hw
  obtain ⟨d, ds, hd, he, sd, se, q⟩ := hw
  obtain ⟨ks, r1⟩ := Dp.reads I d x v hd rx
  obtain ⟨bs, r2⟩ := Dp.reads I (.tuple ds) y u he ry
  exact SeqAt.notIn_tuple_reads r2 r1 (SeqAt.canLay_of_shaped se) (SeqAt.canLay_of_shaped sd) (roomT sd hu) ⟨.bl _, H, I, rfl, q⟩
def rInA (K : PySem.W.Frag) : R2 := fun x y H Q => rInD K x y H Q ∨ rInTD K false x y H Q
def rNotInA (K : PySem.W.Frag) : R2 := fun x y H Q => rNotInD K x y H Q ∨ rInTD K true x y H Q
theorem op_inA {k : Nat} (r : Room k X.A) : OpR X (compareOp .In) (rInA X.K) := (op_inR r).or (op_inTD (units65 r))
theorem op_notInA {k : Nat} (r : Room k X.A) : OpR X (compareOp .NotIn) (rNotInA X.K) := (op_notInR r).or (op_notInTD (units65 r))
theorem ok_inA : R2ok X cm (rInA X.K) dInA := by
  intro al h H x y dx dy Q S rx ry q
  unfold dInA at q
  cases e1 : toP h 60 dx with
  | none => rw [e1] at q; exact q.elim
  | some p1 =>
    cases e2 : toP h 60 dy with
    | none => rw [e1, e2] at q; exact q.elim
    | some p2 =>
      rw [e1, e2] at q
      obtain ⟨a1, a2, a3⟩ := dp_of S 60 dx x p1 e1 rx
      obtain ⟨b1, b2, b3⟩ := dp_of S 60 dy y p2 e2 ry
      cases p2 with
      | list qs => exact .inl ⟨p1, qs, a1, b1, shaped_of (by decide) a2 a3, shaped_of (by decide) b2 b3, q.here S (.bl _)⟩
      | tuple qs => exact .inr ⟨p1, qs, a1, b1, shaped_of (by decide) a2 a3, shaped_of (by decide) b2 b3, q.here S (.bl _)⟩
      | _ => exact q.elim
theorem ok_notInA : R2ok X cm (rNotInA X.K) dNotInA := by
  intro al h H x y dx dy Q S rx ry q
  unfold dNotInA at q
  cases e1 : toP h 60 dx with
  | none => rw [e1] at q; exact q.elim
  | some p1 =>
    cases e2 : toP h 60 dy with
    | none => rw [e1, e2] at q; exact q.elim
    | some p2 =>
      rw [e1, e2] at q
      obtain ⟨a1, a2, a3⟩ := dp_of S 60 dx x p1 e1 rx
      obtain ⟨b1, b2, b3⟩ := dp_of S 60 dy y p2 e2 ry
      cases p2 with
      | list qs => exact .inl ⟨p1, qs, a1, b1, shaped_of (by decide) a2 a3, shaped_of (by decide) b2 b3, q.here S (.bl _)⟩
      | tuple qs => exact .inr ⟨p1, qs, a1, b1, shaped_of (by decide) a2 a3, shaped_of (by decide) b2 b3, q.here S (.bl _)⟩
      | _ => exact q.elim

/-! ### t[::-1] -/
theorem pick_rev (xs : Array Value) : ((List.range xs.size).filterMap fun (k : Nat) => xs[(((xs.size : Int) - 1) + (k : Int) * (-1)).toNat]?).toArray = xs.toList.reverse.toArray := by
  have e1 : ((List.range xs.size).filterMap fun (k : Nat) => xs[(((xs.size : Int) - 1) + (k : Int) * (-1)).toNat]?) = ((List.range xs.size).map (fun k => xs.size - 1 - k)).filterMap (fun j => xs[j]?) := by
    rw [List.filterMap_map]
    refine congrFun (congrArg List.filterMap (funext fun k => ?_)) _
    have : (((xs.size : Int) - 1) + (k : Int) * (-1)).toNat = xs.size - 1 - k := by omega
    show xs[_]? = xs[_]?
    rw [this]
  rw [e1, PySem.W.krv_range, List.filterMap_reverse, PySem.W.krv_all]
theorem applied_rev {prog : Program} {w : World} {A : Around} {E : Value → Shared → Prop} {s : Shared} {sl : Addr} {t : Tok} {n : Nat} {Q : Int × Int × Nat → Shared → Prop} (hs : s.heap.IsSliceOf sl .none .none (.int (-1) t))
    (hq : Q ((n : Int) - 1, -1, n) s) : wpAny (model prog w) A (Builtin.Slice.sliceApplied (.ref sl) (pure (n : Int))) Q E s := by
  obtain ⟨ob, hob, hcl, hdt⟩ := id hs
  unfold Builtin.Slice.sliceApplied; unfold Builtin.Slice.sliceFields
  refine wpAny_bind (wpAny_bind (wpAny_field hob hdt (x := .none) rfl (wpAny_bind (wpAny_field hob hdt (x := .none) rfl (wpAny_bind (wpAny_field hob hdt (x := .int (-1) t) rfl (wpAny_pure ?_)))))))
  refine wpAny_bind (PyProof.Rows.slicePart_int ?_)
  show wpAny _ _ (if ((-1 : Int) == 0) = true then _ else _) _ _ s
  rw [if_neg (by decide)]
  refine wpAny_bind (PyProof.Rows.slicePart_none (wpAny_bind (PyProof.Rows.slicePart_none (wpAny_bind (wpAny_pure ?_)))))
  have e1 : Builtin.Slice.sliceAdjust none none (-1) (n : Int) = ((n : Int) - 1, -1) := rfl
  have e2 : Builtin.Slice.slicePlaces ((n : Int) - 1) (-1) (-1) = n := by
    show (Builtin.Slice.slicePlaces _ _ _ : Nat) = n; unfold Builtin.Slice.slicePlaces
    rw [if_neg (by decide)]
    have : (-(-1) : Int) = 1 := by decide
    rw [this, Int.ediv_one]
    split <;> omega
  show wpAny _ _ (match Builtin.Slice.sliceAdjust none none (-1) (n : Int) with | (lo, hi) => pure (lo, (-1 : Int), Builtin.Slice.slicePlaces lo hi (-1))) _ _ s
  rw [e1]
  show wpAny _ _ (pure ((n : Int) - 1, (-1 : Int), Builtin.Slice.slicePlaces ((n : Int) - 1) (-1) (-1))) _ _ s
  rw [e2]
  exact wpAny_pure hq
theorem item_rev {prog : Program} {w : World} {A : Around} {E : Value → Shared → Prop} {s : Shared} {t sl : Addr} {items : Array Value} {tk : Tok} {Q : Value → Shared → Prop} (ht : IsTup s.heap t items) (hs : s.heap.IsSliceOf sl .none .none (.int (-1) tk))
    (hq : Q (.ref s.heap.objs.size) { s with heap := s.heap.push { cls := .type "tuple", data := .seq items.toList.reverse.toArray } }) (hsz : items.size ≤ sizeLine) : wpAny (model prog w) A (getItem (.ref t) (.ref sl)) Q E s := by
  have small : sizeOk (.seq items.toList.reverse.toArray) := by
    show items.toList.reverse.toArray.size ≤ sizeLine
    simpa using hsz
  obtain ⟨ob, hob, hcl, hdt⟩ := id hs
  have isSlice : s.TypeIs (.ref sl) "slice" := ⟨ob, hob, hcl⟩
  unfold getItem
  try (with_reducible refine wpAny_holding ?_)
  try (refine wpAny_bind (wpAny_pure ?_))
  refine wpAny_bind (wpAny_sequenceKey (T := "tuple") ht.typeIs (by decide) ?_)
  refine wpAny_bind (wpAny_callSpecial?_slot (name := Str.ofString "__getitem__") ht.typeIs PyProof.Rows.slot_tuple_getitem (wpAny_call_entry PyProof.Rows.slot_tuple_getitem ht.typeIs PyProof.Rows.entry_tuple_getitem ?_ (PyProof.Rows.args_tuple_getitem _ _)))
  show wpAny (model prog w) _ (Builtin.Tuple.tupleItemsOf (.ref t) >>= _) _ _ s
  refine wpAny_bind (PyProof.Rows.tupleItemsOf_ ht (wpAny_bind (wpAny_typeOf isSlice ?_)))
  rw [if_pos (by decide)]
  refine wpAny_bind (applied_rev hs ?_)
  show wpAny _ _ (if (((items.size : Int) - 1) == 0 && (-1 : Int) == 1 && items.size == items.size) = true then _ else _) _ _ s
  rw [if_neg (by rw [show ((-1 : Int) == 1) = false from by decide]; simp), pick_rev]
  first
    | exact wpAny_bind (m := Builtin.Tuple.tupleExact _) (wpAny_newObj_type (wpAny_pure ⟨_, rfl, wpAny_pure hq⟩) small)
    | exact wpAny_bind (m := Builtin.Tuple.tupleExact _) (wpAny_newObj_type (wpAny_bind (wpAny_pure (wpAny_pure ⟨_, rfl, wpAny_pure hq⟩))) small)
    | exact wpAny_bind (wpAny_bind (m := Builtin.Tuple.tupleExact _) (wpAny_newObj_type (wpAny_pure (wpAny_pure ⟨_, rfl, wpAny_pure hq⟩)) small))
    | exact wpAny_bind (wpAny_bind (m := Builtin.Tuple.tupleExact _) (wpAny_newObj_type (wpAny_pure ⟨_, rfl, wpAny_pure hq⟩) small))

/-- e[::-1], e a list or a tuple -/
def tRev (K : PySem.W.Frag) (te : TE) : TE := fun σ H Q => te σ H fun x H1 => ∃ a xs, x = .ref a ∧ ((SqL K H1 a xs ∧ ∀ p, H1 p = none → Q (.ref p) (upd H1 p (.lst xs.reverse))) ∨ (SqT K H1 a xs ∧ NT H1 Q xs.reverse))
theorem pe_rev {te : TE} {k : Nat} {p1 p2 p3 : Pos} (he : PE X e te) : PE X (.Subscript e (.Slice none none (some (.UnaryOp .USub (.Constant (.int 1) k p1) p2)) p3) pos) (tRev X.K te) := by
  refine ⟨fun pins s σ H Q I0 hw => PyProof.Rows.Subscript_ (thn (he.run pins s σ H _ I0 hw) fun v s1 ⟨x, H1, I1, r1, a, xs, ex, q⟩ => ?_)⟩
  subst ex
  cases r1
  have minus : PO X (some (.UnaryOp .USub (.Constant (.int 1) k p1) p2)) (tPart (tUn (rU fun i => .int (-i)) (tC (.int 1)))) := po_some (pe_un un_neg pe_int)
  refine wpAny_Slice (thn (po_none.run pins s1 σ H1 (fun o H2 => o = none ∧ H2 = H1) I1 ⟨rfl, rfl⟩) fun v1 s2 ⟨o1, H2, I2, part1, eo1, eh2⟩ => ?_)
  subst eo1 eh2
  refine thn (po_none.run pins s2 σ H2 (fun o H3 => o = none ∧ H3 = H2) I2 ⟨rfl, rfl⟩) fun v2 s3 ⟨o2, H3, I3, part2, eo2, eh3⟩ => ?_
  subst eo2 eh3
  refine thn (minus.run pins s3 σ H3 (fun o H4 => o = some (-1) ∧ H4 = H3) I3 ⟨1, rfl, -1, rfl, rfl, rfl⟩) fun v3 s4 ⟨o3, H4, I4, part3, eo3, eh4⟩ => ?_
  subst eo3 eh4
  cases part1
  cases part2
  cases part3 with
  | int i tk =>
    have I5 : Inv X pins σ H4 { s4 with heap := s4.heap.push { cls := .type "slice", data := .fields #[.none, .none, .int (-1) tk] } } := I4.kept (t' := s4.toks) fun b ob w => Heap.get?_push_of_some _ w
    have isNew := Heap.IsSliceOf.new s4.heap .none .none (.int (-1) tk)
    rcases q with ⟨hx, q⟩ | ⟨hx, q⟩
    · obtain ⟨its, rv, ht, hz⟩ := I5.list hx
      have hl := rv.length
      show wpAny (model X.prog X.w) X.A (PyProof.Rows.subscriptTail e (.Slice none none (some (.UnaryOp .USub (.Constant (.int 1) k p1) p2)) p3) (.ref a) (.ref s4.heap.objs.size)) (EP X pins σ Q) X.xe { s4 with heap := s4.heap.push { cls := .type "slice", data := .fields #[.none, .none, .int (-1) tk] } }
      refine PyProof.Rows.tail_any (ops := [.ref a, .ref s4.heap.objs.size]) ht.isList.typeIs PySem.slot_list_getitem.lookup ?_ (by with_unfolding_all rfl)
      refine wpAny_getItem_list_slice ht.isList isNew .none .none (.int (-1) tk) (by decide) ?_ (by rw [List.size_toArray]; omega)
      rw [PySem.W.krv_pick]
      exact ⟨.ref _, _, I5.laid (t' := s4.toks) (o := .lst xs.reverse) (fun b ob w => Heap.get?_push_of_some _ w) (Nat.le_refl _) ⟨by rw [List.length_reverse]; exact hz, _, 0, rv.reverse, Heap.get?_push_size _ rfl⟩, rfl, q _ (I5.hok.fresh (Nat.le_refl _))⟩
    · obtain ⟨its, rv, ht, hz⟩ := I5.tuple hx
      have hl := rv.length
      show wpAny (model X.prog X.w) X.A (PyProof.Rows.subscriptTail e (.Slice none none (some (.UnaryOp .USub (.Constant (.int 1) k p1) p2)) p3) (.ref a) (.ref s4.heap.objs.size)) (EP X pins σ Q) X.xe { s4 with heap := s4.heap.push { cls := .type "slice", data := .fields #[.none, .none, .int (-1) tk] } }
      refine PyProof.Rows.tail_any (ops := [.ref a, .ref s4.heap.objs.size]) ht.typeIs PyProof.Rows.slot_tuple_getitem.lookup ?_ (by with_unfolding_all rfl)
      refine item_rev ht isNew ?_ (by rw [List.size_toArray]; omega)
      exact NT.give (tk := s4.toks) I5 rv.reverse (by rw [List.length_reverse]; exact hz) q
def dRev : D → Hq → R D
  | .tup ds, h => .ok (.tup ds.reverse) h
  | .rol ds, h => newL ds.reverse h
  | .ref r, h => match h[r]? with
    | some (.lst ds) => newL ds.reverse h
    | _ => .bad
  | _, _ => .bad
theorem me_rev {k : Nat} {p1 p2 p3 : Pos} (ha : ME X cm W a ga) : ME X cm W (.Subscript a (.Slice none none (some (.UnaryOp .USub (.Constant (.int 1) k p1) p2)) p3) pos) (gUn dRev ga) := by
  refine (pe_rev ha).imp fun σ H Q h => ?_
  obtain ⟨al, lo, h, L, S, q⟩ := h
  refine ⟨al, lo, h, L, S, tE_bind (rel := relD X.K cm) q fun al1 h1 d v H1 e1 S1 r1 q1 => ?_⟩
  have q1 := Post.calm (E' := fun _ _ _ => False) q1
  cases r1 with
  | tup hx tx => exact ⟨_, _, rfl, .inr ⟨hx.sq, Post.tupN q1 S1 tx.rev⟩⟩
  | rol hx tx => exact ⟨_, _, rfl, .inl ⟨hx.sq, (Post.newL q1 S1 tx.rev).2⟩⟩
  | ref hx =>
    simp only [dRev] at q1
    split at q1
    · rename_i ds eo
      obtain ⟨vs, hv, tv⟩ := S1.lstOf eo hx
      exact ⟨_, _, rfl, .inl ⟨SqL.of hv, (Post.newL q1 S1 tv.rev).2⟩⟩
    · exact q1.elim
  | _ => exact q1.elim

/-! ### a written dict of texts and its get -/
def gDict (ks : List Str) (vs : GA) : GE := fun lo h => (vs lo (h ++ [.dct []])).bind fun ds h1 => if ds.length = ks.length ∧ ks.length ≤ 15 ∧ ks.Nodup then (match h1[h.length]? with
  | some (.dct []) => .ok (.ref h.length) (h1.set h.length (.dct ((ks.map Sum.inr).zip ds)))
  | _ => .bad) else .bad
def dVal (kvs : List (Key × D)) (k : Key) : Option D := (kvs.find? fun kv => decide (kv.1 = k)).map (·.2)
def gGet (o e f : GE) : GE := fun lo h => (o lo h).bind fun x h1 => match x with
  | .ref r => match h1[r]? with
    | some (.dct _) => (e lo h1).bind fun y h2 => (f lo h2).bind fun z h3 => match h3[r]?, y with
      | some (.dct kvs), .str s => .ok ((dVal kvs (.inr s)).getD z) h3
      | some (.dct kvs), .int i => .ok ((dVal kvs (.inl i)).getD z) h3
      | _, _ => .bad
    | _ => .bad
  | _ => .bad
end
end Mach
end

section
set_option Elab.async false
set_option linter.all false
set_option maxRecDepth 100000
set_option maxHeartbeats 4100000
namespace Mach
open PySem PySem.Spec L2
open Sem (wp)
open AutoSeq1 (wpAny_loadPart')  -- one more row

theorem meets_enumT (l : Addr) (items : Array Value) (n : Nat) (dct : Option Addr) (sl : Array (Option Value)) :
    Meets (Builtin.«enumerate.__new__» ⟨[.type "enumerate", .ref l], []⟩) (fun _ R s => s.heap.get? l = some { cls := .type "tuple", dict := dct, data := .seq items n, slots := sl } ∧
      R (.ok (.ret (.ref (s.heap.push { cls := .type "tuple_iterator", data := .fields #[.ref l, .int 0 0] }).objs.size)))
        { s with heap := (s.heap.push { cls := .type "tuple_iterator", data := .fields #[.ref l, .int 0 0] }).push { cls := .type "enumerate", data := .fields #[.none, .bool false, .ref s.heap.objs.size, rawInt 0, .none, .none] } }) :=
  .of_wp fun pr w A R s hyp => by
    obtain ⟨hp, g, d, tk, outs⟩ := s; obtain ⟨hAt, h⟩ := hyp
    have hsub := sub_enumerate
    have hL : Heap.IsTuple (Shared.heap ⟨hp, g, d, tk, outs⟩) l items := ⟨_, hAt, rfl, n, rfl⟩
    wp_walk using wpAny_loadPart' hAt
    refine wpAny_stack_any fun stt => wpAny_pure ?_
    split
    · rename_i c _ _ _ _ _
      rcases (c == Value.type "enumerate") with _ | _
      · wp_walk using wpAny_loadPart' hAt, wpAny_pyIter_tuple hL
        exact ⟨_, rfl, h⟩
      · wp_walk using wpAny_loadPart' hAt, wpAny_pyIter_tuple hL
        exact ⟨_, rfl, h⟩
    · wp_walk using wpAny_loadPart' hAt, wpAny_pyIter_tuple hL
      exact ⟨_, rfl, h⟩
section
variable {s : Shared} {prog : Program} {w : World} {A : Around} {E : Value → Shared → Prop}
theorem call_enumT {l : Addr} {items : Array Value} {Q : Value → Shared → Prop} (hL : s.heap.IsTuple l items)
    (h : ∀ h', IsEnum h' (s.heap.objs.size + 1) s.heap.objs.size 0 .none → h'.IsTupleIter s.heap.objs.size l 0 → h'.objs.size = s.heap.objs.size + 2 →
      (∀ b o, s.heap.get? b = some o → h'.get? b = some o) → Q (.ref (s.heap.objs.size + 1)) { s with heap := h' }) : wpAny (model prog w) A (call (.type "enumerate") [.ref l]) Q E s := by
  obtain ⟨⟨c, dct, dt, sl⟩, hAt, hc, n, hDat⟩ := hL
  replace hc : c = .type "tuple" := hc
  replace hDat : dt = .seq items n := hDat
  subst hc hDat
  refine callType_new F.called_enumerate (by decide) (F.typeCall_enumerate_1 _) (F.newCall_enumerate_1 _) (fun made => F.args_object_init_2 made _) F.entry_enumerate_new (meets_enumT l items n dct sl) ⟨hAt, ?_⟩
  have hz : (s.heap.push { cls := .type "tuple_iterator", data := .fields #[.ref l, .int 0 0] }).objs.size = s.heap.objs.size + 1 := Heap.size_push ..
  show _ ∧ _
  rw [hz]
  have hEn : IsEnum ((s.heap.push { cls := .type "tuple_iterator", data := .fields #[.ref l, .int 0 0] }).push
      { cls := .type "enumerate", data := .fields #[.none, .bool false, .ref s.heap.objs.size, rawInt 0, .none, .none] })
      (s.heap.objs.size + 1) s.heap.objs.size 0 .none := by
    have := Heap.get?_push_size (s.heap.push { cls := .type "tuple_iterator", data := .fields #[.ref l, .int 0 0] }) (o := { cls := .type "enumerate", data := .fields #[.none, .bool false, .ref s.heap.objs.size, rawInt 0, .none, .none] }) rfl
    rw [hz] at this; exact this
  refine ⟨⟨_, hEn, rfl⟩, h _ hEn ⟨_, Heap.get?_push_of_some _ (Heap.get?_push_size _ rfl), rfl, rfl⟩ (by rw [Heap.size_push, hz]) fun b o x => Heap.get?_push_of_some _ (Heap.get?_push_of_some _ x)⟩
end

/-- the tuple at a, each item in a new pair -/
def Iteu (K : PySem.W.Frag) (a : Addr) : It :=
  ⟨fun i H => ∃ (xs : List V) (x : V), SqT K H a xs ∧ xs[i]? = some x, fun i H v H' => YldE (SqT K H a) i H v H', fun i H => ∃ xs : List V, SqT K H a xs ∧ xs.length ≤ i⟩
theorem turn_enumT {P : Program} {w : World} {K : PySem.W.Frag} {elts : List Expr} {kk : Nat} {tpos : Pos} (a e it : Addr) :
    Turn P w K (.Tuple elts kk tpos) (Iteu K a) [e, it] e (fun i h => (∃ was, IsEnum h e it ((i : Nat) : Int) was) ∧ h.IsTupleIter it a i ∧ e ≠ it) where
  mem := List.mem_cons_self
  obj := fun i h stt b hMem => by
    obtain ⟨⟨was, hEn⟩, ⟨ob, hIt, hCl, hDat⟩, _⟩ := stt
    rcases (show b = e ∨ b = it by simpa using hMem) with zz | zz
    · rw [zz]; exact ⟨_, hEn, fun v qv => by cases qv⟩
    · rw [zz]; exact ⟨ob, hIt, fun v qv => nomatch (hDat ▸ qv)⟩
  keep := fun i h h' stt kp => by
    obtain ⟨⟨was, hEn⟩, hItr, hDis⟩ := stt
    exact ⟨⟨was, kp e (by simp) _ hEn⟩, hItr.at fun ob qv => kp it (by simp) ob qv, hDis⟩
  item := by
    intro X eP eW eK calm i pins s σ H E I hFp stt hg
    subst eP eW eK
    obtain ⟨⟨was, hEn⟩, hItr, hDis⟩ := stt
    obtain ⟨xs, x, hSq, hx⟩ := hg
    obtain ⟨row, rv, pt, _⟩ := I.tuple hSq
    obtain ⟨u, hAtI, ru⟩ := rv.get hx
    have pt' : s.heap.IsTuple a row.toArray := pt
    have under : ∀ b, b = e ∨ b = it → b < s.heap.objs.size := fun b hb => by
      rcases hb with rfl | rfl
      · exact Heap.lt_size hEn
      · obtain ⟨_, qv, _⟩ := hItr; exact Heap.lt_size qv
    have far : a ≠ it ∧ a ≠ e := by
      obtain ⟨o2, e2, c2, _⟩ := pt'
      refine ⟨fun zz => ?_, fun zz => ?_⟩
      · subst zz
        obtain ⟨o, e1, c1, _⟩ := hItr
        rw [e1] at e2; cases e2
        exact absurd (c1.symm.trans c2) (by simp)
      · subst zz
        have en := hEn
        unfold IsEnum at en
        rw [en] at e2; cases e2
        exact absurd c2 (by simp)
    have short : i < row.toArray.size := by
      have : i < row.length := (List.getElem?_eq_some_iff.mp hAtI).1
      simpa using this
    have apart : e ∉ [it, a] := fun zz => by
      rcases (List.mem_cons).mp zz with zz | zz
      · exact hDis zz
      · exact far.2 (List.mem_singleton.mp zz).symm
    refine wpAny_pyNext_enum_itemD (n := row.toArray.size) (Draws.tuple (A := X.A.in1) (I.ok.hd calm) it a far.1 row.toArray) hEn ⟨hItr, pt'⟩ short hDis apart fun y h1 tkk hP en1 it1 pair size1 keep1 => ?_
    have hy : y = u := by
      have : row[i]? = some y := by simpa using hP
      rw [hAtI] at this; exact (Option.some.inj this).symm
    subst hy
    refine ⟨_, rfl, wpAny_letOwnedTupleGo_enum (s := { s with heap := h1, toks := tkk + 1 }) en1 fun h2 en2 but => ?_⟩
    have pair2 : h2.get? s.heap.objs.size = some (pairO (i : Int) tkk y) := (but.2 _ (Nat.ne_of_gt (under e (.inl rfl)))).trans pair
    have old : ∀ b ob, b ∉ [e, it] → s.heap.get? b = some ob → h2.get? b = some ob := fun b ob hb qv => by
      have b1 : b ≠ e := fun zz => hb (by simp [zz])
      have b2 : b ≠ it := fun zz => hb (by simp [zz])
      exact (but.2 b b1).trans (keep1 b ob b1 b2 qv)
    have J := I.turnedNew (ch := [e, it]) (t' := tkk + 1) old hFp (Nat.le_refl _) (pair_ok (P := X.prog) (w := X.w) (H0 := upd H s.heap.objs.size (.frz (pairO (i : Int) tkk y) (.tup [.int (i : Nat), x]))) pair2 ru)
    refine ⟨.ref s.heap.objs.size, _, J, rfl, ⟨_, _, x, rfl, I.hok.fresh (Nat.le_refl _), rfl, rfl, fun ys hz => by rw [I.tuple_inj hz hSq]; exact hx⟩, ⟨⟨y, ?_⟩, it1.1.at fun ob qv => (but.2 it (Ne.symm hDis)).trans qv, hDis⟩, fun b hb => ?_⟩
    · rw [show ((i + 1 : Nat) : Int) = (i : Int) + 1 by omega]; exact en2
    · rw [upd_ne (fun zz => absurd (under b (by simpa using hb)) (by rw [zz]; exact Nat.lt_irrefl _))]
      exact (hFp b hb).1
  done := by
    intro X eP eW eK hc i pins s σ H E I hFp stt hg
    subst eP eW eK
    obtain ⟨⟨was, hEn⟩, hItr, hDis⟩ := stt
    obtain ⟨xs, hTu, hx⟩ := hg
    obtain ⟨cellsOf, rels, p, hz⟩ := I.tuple hTu
    obtain ⟨g0, f1, f2, f3, f4, f5⟩ := hFp it (by simp)
    have hAt := rels.length
    have p' : s.heap.IsTuple a cellsOf.toArray := p
    have hai : a ≠ it := by
      intro zz; subst zz
      obtain ⟨o, e1, c1, _⟩ := hItr
      obtain ⟨o2, e2, c2, _⟩ := p'
      rw [e1] at e2; cases e2
      exact absurd (c1.symm.trans c2) (by simp)
    have hKind : s.TypeIs (.ref e) "enumerate" := ⟨_, hEn, rfl⟩
    unfold pyNext
    refine wpAny_bind (wpAny_attempt (wpAny_callSpecial?_slot (name := Str.ofString "__next__") hKind F.slot_enumerate_next
      (wpAny_call_entry F.slot_enumerate_next hKind F.entry_enumerate_next ?_ (F.args_enumerate_next_1 _))))
    show wpAny (model _ _) _ (field (.ref e) 2 >>= _) _ _ _
    refine wpAny_bind (wpAny_field (x := .ref it) hEn rfl rfl ?_)
    refine wpAny_bind (wpAny_nextOf_tuple_end (A := X.A.in1) (I.ok.hd hc) hItr p' (by simp; omega) fun h' x eb hx' => ?_)
    obtain ⟨o, ho, hc'⟩ := hx'
    refine wpAny_bind (wpAny_isInstance (T := "StopIteration") (b := true) ⟨o, ho, hc'⟩ isSubtype_stop ?_)
    exact wpAny_pure ⟨rfl, I.turned (t' := s.toks) (fun b o hMem qv => eb b o hMem qv) g0 f1 f3 f4 f5⟩
  self := fun A i s Q E stt h => let ⟨⟨_, hEn⟩, _⟩ := stt; wpAny_pyIter_enum hEn h

section
variable {X : Cx} {cm : Str → Option Addr} {W : WX} {e : Expr} {pos : Pos} {gs : GA} {K : PySem.W.Frag} {al : List Addr} {H : Hp}
def iEnumT (K : PySem.W.Frag) (ta : TA) : TI := fun σ H R => ta σ H fun vs H1 => ∃ a xs, vs = [.ref a] ∧ SqT K H1 a xs ∧ R (Iteu K a) H1
theorem pi_enumT {ta : TA} {p tpos : Pos} {elts : List Expr} {kk : Nat} (hg : Gl X "enumerate") (hm : X.mg "enumerate" = none) (ha : PA X [e] ta) (hs : starEach [e] X.env = [(false, eval e X.env)] := by rfl) :
    PI X (.Tuple elts kk tpos) (.Call (.Name "enumerate" p) [e] [] pos) (iEnumT X.K ta) := by
  refine ⟨fun pins s σ H R I hyp => ?_⟩
  have h := hyp
  refine PyProof.Rows.Call_ (ld_blt I hg hm PyProof.Rows.boot_enumerate (PyProof.Rows.callWith_type1 (thn (ha.run pos pins s σ H _ I h) fun us s1 ⟨vs, H1, I1, r1, qq⟩ => ?_) hs rfl))
  obtain ⟨a, xs, ex, hTu, qv⟩ := qq
  subst ex
  cases r1 with
  | cons r rr =>
    cases rr
    cases r
    obtain ⟨cellsOf, rels, p', hz⟩ := I1.tuple hTu
    refine call_enumT (show s1.heap.IsTuple a cellsOf.toArray from p') fun h' hEn hItr hsz hk => wpAny_pyIter_enum hEn ?_
    have J2 : Inv X pins σ H1 { s1 with heap := h' } := I1.kept (t' := s1.toks) hk
    refine ⟨s1.heap.objs.size + 1, [s1.heap.objs.size + 1, s1.heap.objs.size], _, _, H1, rfl, J2, turn_enumT a (s1.heap.objs.size + 1) s1.heap.objs.size, ⟨⟨.none, hEn⟩, hItr, Nat.succ_ne_self _⟩, fun b hMem => ?_, qv⟩
    have e' : b = s1.heap.objs.size + 1 ∨ b = s1.heap.objs.size := by simpa using hMem
    have hAbove : s1.heap.objs.size ≤ b := by
      rcases e' with zz | zz
      · rw [zz]; exact Nat.le_succ _
      · rw [zz]; exact Nat.le_refl _
    exact (I1.fpOk hAbove) (I1.hok.fresh hAbove)
theorem itR_ent {ds : List D} {vs : List V} {a : Addr} (hx : SqT K H a vs) (t : Rels K cm al H ds vs) : ItR K cm al H (.fix (enuD ds)) (Iteu K a) := by
  intro al1 H1 h1 i e S
  have hTu := e.keep.sqT hx
  refine ⟨fun qv => ?_, fun d qv => ?_⟩
  · have qv : (enuD ds)[i]? = none := Option.some.inj qv
    rw [enuD_at, Option.map_eq_none_iff] at qv
    exact ⟨vs, hTu, t.none qv⟩
  · have qv : (enuD ds)[i]? = some d := Option.some.inj qv
    rw [enuD_at] at qv
    obtain ⟨d0, e0, rfl⟩ := Option.map_eq_some_iff.mp qv
    obtain ⟨v, ev, rels⟩ := t.get e0
    refine ⟨⟨vs, v, hTu, ev⟩, fun x H2 y => ?_⟩
    obtain ⟨T, b, x0, rfl, hKind, eb, rfl, y⟩ := y
    have zz := y vs hTu
    rw [ev] at zz
    cases zz
    exact ⟨Keep.new hKind, keep_yld S hKind, .tup (TpL.new eb) (.cons (.int _) (.cons ((rels.mono e.pre e.keep).mono (List.prefix_refl _) (Keep.new hKind)) .nil))⟩
def iEntG (a : GA) : GI := fun lo h => (a lo h).bind fun x h1 => match x with
  | [.tup ds] => .ok (.fix (enuD ds)) h1
  | _ => .bad
theorem mi_ent {p tpos : Pos} {elts : List Expr} {kk : Nat} (hg : Gl X "enumerate") (hm : X.mg "enumerate" = none) (ha : MA X cm W [e] gs) (hs : starEach [e] X.env = [(false, eval e X.env)] := by rfl) : MI X cm W (.Tuple elts kk tpos) (.Call (.Name "enumerate" p) [e] [] pos) (iEntG gs) := by
  refine (pi_enumT hg hm ha hs).imp fun σ H R h => ?_
  obtain ⟨al, lo, h, L, S, qv⟩ := h
  refine ⟨al, lo, h, L, S, tE_bind (rel := relA X.K cm) qv fun al1 h1 ds vs H1 e1 S1 r1 qq => ?_⟩
  cases r1 with
  | nil => exact qq.elim
  | cons ra rr =>
    cases rr with
    | cons _ _ => cases ra <;> exact qq.elim
    | nil =>
      cases ra with
      | tup hx t => exact ⟨_, _, rfl, hx.sq, qq.here S1 (itR_ent hx.sq t)⟩
      | _ => exact qq.elim
end
end Mach
end

section
set_option Elab.async false
set_option linter.all false
set_option maxRecDepth 100000
set_option maxHeartbeats 4100000
namespace Mach
open PySem PySem.Spec L2
section
variable {X : Cx} {cm : Str → Option Addr} {W : WX} {e f o : Expr} {pos apos cpos : Pos} {gs : GA} {ga ge gf go : GE}
abbrev prK (ks : List Str) (vs : List V) : List (V × V) := (ks.zip vs).map (fun kv => (V.str kv.1, kv.2))
def MPs (X : Cx) (cm : Str → Option Addr) (W : WX) (pos : Pos) (keys : List (Option Expr)) (vals : List Expr) (ks : List Str) (gs : GA) : Prop :=
  ∃ trs, PPs X pos keys vals trs ∧ keys.all (·.isSome) = true ∧ keys.length = vals.length ∧ keys.length = ks.length ∧
    ∀ σ H (Q : List (V × V) → Hp → Prop), tAr X.K cm W gs σ H (fun vs H' => Q (prK ks vs) H') → tPairs trs σ H Q
theorem mp_nil : MPs X cm W pos [] [] [] gNil := by
  refine ⟨[], pps_nil, rfl, rfl, rfl, fun σ H Q h => ?_⟩
  obtain ⟨al, lo, h, L, S, q⟩ := h
  exact q al H [] (Ext.refl _ _) S .nil
theorem mp_cons {s : Str} {j : Nat} {kpos : Pos} {keys : List (Option Expr)} {vals : List Expr} {ks : List Str} (hv : ME X cm W e ge) (hr : MPs X cm W pos keys vals ks gs) :
    MPs X cm W pos (some (.Constant (.str s) j kpos) :: keys) (e :: vals) (s :: ks) (gCons ge gs) := by
  obtain ⟨trs, p, h1, h2, h3, h4⟩ := hr
  refine ⟨_, pps_cons pe_str hv p, by simpa using h1, by simp [h2], by simp [h3], fun σ H Q h => ?_⟩
  obtain ⟨al, lo, h, L, S, q⟩ := h
  show tE X.K cm W ge σ H _
  refine ⟨al, lo, h, L, S, tE_bind (rel := relD X.K cm) q fun al1 h1 d v H1 e1 S1 r1 q1 => ?_⟩
  exact h4 σ H1 (fun ps H' => Q ((.str s, v) :: ps) H') ⟨al1, lo, h1, L.mono e1.pre e1.keep, S1, tE_bind (rel := relA X.K cm) q1 fun al2 h2 ds vs H2 e2 S2 r2 q2 => q2 al2 H2 (v :: vs) (Ext.refl _ _) S2 (.cons (r1.mono e2.pre e2.keep) r2)⟩
theorem putK_new {kvs : List (Key × V)} {k : Key} {v : V} (h : k ∉ kvs.map (·.1)) : putK kvs k v = kvs ++ [(k, v)] := by
  unfold putK
  rw [if_neg]
  intro q
  rw [List.any_eq_true] at q
  obtain ⟨p, hp, e⟩ := q
  exact h (List.mem_map.mpr (Exists.intro p ⟨hp, of_decide_eq_true e⟩))
theorem mergeK_nodup : ∀ (more kvs : List (Key × V)), ((kvs ++ more).map (·.1)).Nodup → mergeK kvs more = kvs ++ more
  | [], kvs, _ => by simp [mergeK]
  | p :: r, kvs, h => by
    have hn : p.1 ∉ kvs.map (·.1) := by
      intro q
      rw [List.map_append, List.nodup_append] at h
      exact h.2.2 _ q _ (by simp) rfl
    show mergeK (putK kvs p.1 p.2) r = _
    rw [putK_new hn]
    have := mergeK_nodup r (kvs ++ [p]) (by simpa using h)
    rw [this]; simp
theorem zip_fst {α β : Type} : ∀ {xs : List α} {ys : List β}, xs.length = ys.length → (xs.zip ys).map (·.1) = xs
  | [], [], _ => rfl
  | x :: xs, y :: ys, h => by rw [List.zip_cons_cons, List.map_cons, zip_fst (by simpa using h)]
theorem zip_snd {α β : Type} : ∀ {xs : List α} {ys : List β}, xs.length = ys.length → (xs.zip ys).map (·.2) = ys
  | [], [], _ => rfl
  | x :: xs, y :: ys, h => by rw [List.zip_cons_cons, List.map_cons, zip_snd (by simpa using h)]
theorem Sim.writeO {K : PySem.W.Frag} {al : List Addr} {h : Hq} {H : Hp} (S : Sim K cm al h H) {r : Nat} {a : Addr} {u : HO} {o : Ob} {w : HO} (ea : al[r]? = some a) (hr : r < h.length) (kk : Keep H (upd H a w)) (t : ObR K cm al (upd H a w) a o) :
    Sim K cm al (h.set r o) (upd H a w) := by
  refine ⟨by simp [S.len], S.nd, fun q b o' eb e => ?_⟩
  by_cases hq : q = r
  · subst hq
    rw [List.getElem?_set_self hr] at e
    rw [ea] at eb
    cases eb
    cases e
    exact t
  · rw [List.getElem?_set_ne (fun z => hq z.symm)] at e
    have hb : b ≠ a := fun same => by
      have z := same
      subst z
      exact hq ((List.getElem?_inj (List.getElem?_eq_some_iff.mp eb).1 S.nd).mp (eb.trans ea.symm))
    exact (S.obs q b o' eb e).mono (List.prefix_refl al) kk (upd_ne hb)
theorem me_dict {keys : List (Option Expr)} {vals : List Expr} {ks : List Str} (hp : MPs X cm W pos keys vals ks gs) (h0 : keys ≠ []) (h15 : keys.length ≤ 15) : ME X cm W (.Dict keys vals pos) (gDict ks gs) := by
  obtain ⟨trs, p, h1, h2, h3, h4⟩ := hp
  refine (pe_disp p h1 h2 h0 h15).imp fun σ H Q h => ?_
  obtain ⟨al, lo, h, L, S, q⟩ := h
  intro p hp
  have S1 : Sim X.K cm (al ++ [p]) (h ++ [.dct []]) (upd H p (.dK [])) := S.newO hp ⟨[], upd_same, rfl, .nil⟩
  have e0 : Ext al H (al ++ [p]) (upd H p (.dK [])) := ⟨List.prefix_append _ _, Keep.new hp⟩
  refine h4 σ _ _ ⟨al ++ [p], lo, _, L.mono e0.pre e0.keep, S1, ?_⟩
  have q := Post.later e0 q
  refine tE_bind (rel := relA X.K cm) q fun al1 h1 ds vs H1 e1 S2 r1 q1 => ?_
  split at q1
  · rename_i hc
    split at q1
    · rename_i eo
      have ep : al1[h.length]? = some p := pre_get e1.pre (S.ext_get p)
      obtain ⟨us, hu, hk, _⟩ := S2.obs _ _ _ ep eo
      have hu0 : us = [] := by simpa using hk
      subst hu0
      have hl : ks.length = vs.length := by rw [← r1.length]; exact hc.1.symm
      refine ⟨hu, (ks.map Sum.inr).zip vs, ?_, ?_, ?_⟩
      · show prK ks vs = _
        unfold prK
        rw [List.zip_map_left, List.map_map]
        exact List.map_congr_left fun kv _ => rfl
      · rw [List.length_zip, List.length_map]; omega
      · have hnd : (([] ++ (ks.map Sum.inr).zip vs : List (Key × V)).map (·.1)).Nodup := by
          rw [List.nil_append, zip_fst (by simpa using hl)]
          exact List.Pairwise.map (R := fun a b => a ≠ b) Sum.inr (fun a b h z => h (Sum.inr.inj z)) hc.2.2
        rw [mergeK_nodup _ _ hnd, List.nil_append]
        have kk : Keep H1 (upd H1 p (.dK ((ks.map Sum.inr).zip vs))) := Keep.over hu rfl
        refine q1 al1 _ _ ⟨List.prefix_refl _, kk⟩ (S2.writeO (u := .dK []) ep (List.getElem?_eq_some_iff.mp eo).1 kk ⟨_, upd_same, ?_, ?_⟩) (.ref ep)
        · rw [zip_fst (by rw [List.length_map]; exact hl), zip_fst (by rw [List.length_map]; exact hc.1.symm)]
        · rw [zip_snd (by rw [List.length_map]; exact hc.1.symm), zip_snd (by rw [List.length_map]; exact hl)]
          exact r1.mono (List.prefix_refl _) kk
    · exact q1.elim
  · exact q1.elim
theorem dVal_rel {K : PySem.W.Frag} {al : List Addr} {H : Hp} {k : Key} : ∀ {kvs : List (Key × D)} {vs : List (Key × V)}, vs.map (·.1) = kvs.map (·.1) → Rels K cm al H (kvs.map (·.2)) (vs.map (·.2)) →
    (dVal kvs k = none ∧ valV vs k = none) ∨ ∃ d v, dVal kvs k = some d ∧ valV vs k = some v ∧ Rel K cm al H d v
  | [], [], _, _ => .inl ⟨rfl, rfl⟩
  | p :: kvs, q :: vs, e, t => by
    rw [List.map_cons, List.map_cons] at e t
    injection e with e1 e2
    cases t with
    | cons ra rr =>
      by_cases hk : p.1 = k
      · exact .inr ⟨p.2, q.2, by simp [dVal, List.find?_cons, hk], by simp [valV, List.find?_cons, e1, hk], ra⟩
      · have := dVal_rel (k := k) e2 rr
        have a1 : dVal (p :: kvs) k = dVal kvs k := by simp [dVal, List.find?_cons, hk]
        have a2 : valV (q :: vs) k = valV vs k := by simp [valV, List.find?_cons, e1, hk]
        rw [a1, a2]; exact this
theorem me_get (room : X.A.units + 1 < cLine) (ho : ME X cm W o go) (he : ME X cm W e ge) (hf : ME X cm W f gf) (m : M2 X o "get" apos e f cpos) : ME X cm W (.Call (.Attribute o "get" apos) [e, f] [] cpos) (gGet go ge gf) := by
  refine (pe_dget2 room ho he hf m).imp fun σ H Q h => ?_
  obtain ⟨al, lo, h, L, S, q⟩ := h
  refine ⟨al, lo, h, L, S, tE_bind (rel := relD X.K cm) q fun al1 h1 d v H1 e1 S1 r1 q1 => ?_⟩
  cases r1 with
  | ref hx =>
    rename_i r a
    simp only at q1
    split at q1
    · rename_i kvs eo
      obtain ⟨us, hu, _, _⟩ := S1.obs _ _ _ hx eo
      have L1 := L.mono e1.pre e1.keep
      refine ⟨a, rfl, .inl ⟨us, .inl hu⟩, al1, lo, h1, L1, S1, tE_bind (rel := relD X.K cm) q1 fun al2 h2 d2 y H2 e2 S2 r2 q2 => ?_⟩
      refine ⟨al2, lo, h2, L1.mono e2.pre e2.keep, S2, tE_bind (rel := relD X.K cm) q2 fun al3 h3 d3 z H3 e3 S3 r3 q3 => ?_⟩
      have hx3 := pre_get e3.pre (pre_get e2.pre hx)
      split at q3
      · rename_i kvs3 s eo3 
        obtain ⟨ws, hw, hk, ht⟩ := S3.obs _ _ _ hx3 eo3
        cases r2 with
        | str _ =>
          rcases dVal_rel (k := .inr s) hk ht with ⟨g1, g2⟩ | ⟨d', v', g1, g2, g3⟩
          · exact ⟨_, DGet.k (k := .inr s) hw, by rw [g2]; rw [g1] at q3; exact q3 al3 H3 _ (Ext.refl _ _) S3 r3⟩
          · exact ⟨_, DGet.k (k := .inr s) hw, by rw [g2]; rw [g1] at q3; exact q3 al3 H3 _ (Ext.refl _ _) S3 g3⟩
      · rename_i kvs3 i eo3 
        obtain ⟨ws, hw, hk, ht⟩ := S3.obs _ _ _ hx3 eo3
        cases r2 with
        | int _ =>
          rcases dVal_rel (k := .inl i) hk ht with ⟨g1, g2⟩ | ⟨d', v', g1, g2, g3⟩
          · exact ⟨_, DGet.k (k := .inl i) hw, by rw [g2]; rw [g1] at q3; exact q3 al3 H3 _ (Ext.refl _ _) S3 r3⟩
          · exact ⟨_, DGet.k (k := .inl i) hw, by rw [g2]; rw [g1] at q3; exact q3 al3 H3 _ (Ext.refl _ _) S3 g3⟩
      · exact q3.elim
    · exact q1.elim
  | _ => exact q1.elim
end
end Mach
end

section
set_option Elab.async false
set_option linter.all false
set_option maxRecDepth 100000
set_option maxHeartbeats 4100000
namespace Mach
open PySem PySem.Spec L2
/-- a name of the module that holds data -/
structure MK (K : PySem.W.Frag) (mg : Str → Option Value) (cm : Str → Option Addr) (x : Str) (d : D) : Prop where
  ex : ∃ (u : Value) (v : V), mg x = some u ∧ RelV v u ∧ ∀ al H, Rel K cm al H d v
/-- an own class, caught by name: sup tells which classes are caught -/
structure CatchK (K : PySem.W.Frag) (mg : Str → Option Value) (cm : Str → Option Addr) (x : Str) (sup : Str → Bool) : Prop where
  ex : ∃ cv, mg x = some cv ∧ ∀ c C, sup c = true → cm c = some C → PySem.W.exmOne K (.ref C) cv = some true
section
variable {X : Cx} {cm : Str → Option Addr} {W : WX} {x n : Str} {d : D} {pos : Pos}
theorem me_const (T : MK X.K X.mg cm x d) (hg : Gl X x) (hd : (x == ("__debug__" : Str)) = false := by decide) : ME X cm W (.Name x pos) (gK d) := by
  obtain ⟨u, v, e, r, h⟩ := T.ex
  exact me_glob hg e r h hd
theorem me_clsE (T : ExcA X.K X.mg cm x) (hg : Gl X x) (hd : (x == ("__debug__" : Str)) = false := by decide) : ME X cm W (.Name x pos) (gK (.cls x)) := by
  obtain ⟨C, T⟩ := T.ex
  exact me_cls hg T.g T.c hd
variable {i : Nat} {body suite : List Stmt} {b0 : Stmt} {np pos2 : Pos} {gb gsu : GS} {sup : Str → Bool}
theorem ms_tryC (T : CatchK X.K X.mg cm x sup) (hs : X.stack = X.env :: X.outer) (hf : X.env.frame = some X.env.locals) (hex : X.ex = []) (hN : X.N.Nodup) (hi : X.N[i]? = some n) (hln : X.env.kindOf n = some .local) (hg : Gl X x)
    (hb : ∀ (W' : WX) (pn : List (Addr × Obj)) (xe : Value → Shared → Prop), Takes (X.tr pn xe) W' → PassesOwn (model X.prog X.w) X.A X.env xe → MSs (X.tr pn xe) cm W' body gb)
    (hsu : ∀ (a : Addr) (pn : List (Addr × Obj)), MSs (X.suite a pn) cm W0 (b0 :: suite) gsu) (hd : (x == ("__debug__" : Str)) = false := by decide) :
    MS X cm W (.Try body [.ExceptHandler (some (.Name x np)) (some n) (b0 :: suite) pos2] [] [] pos) (sTry sup i gb gsu) := by
  obtain ⟨cv, e, h⟩ := T.ex
  exact ms_try hs hf hex hN hi hln ⟨hg, hd, .inl e⟩ h hb hsu
end
section
variable {P : Program} {w : World} {K : PySem.W.Frag} {mg : Str → Option Value} {base : Heap} {cm : Str → Option Addr}
theorem def_bad {x : Str} {st : Stmt} {ps : List Str} {k : Nat} (T : At K mg x st ps) : DefOk P w K mg base cm k x ps (fun _ _ => .bad) := by
  obtain ⟨f, fd, F, hm, hb⟩ := T.ex
  refine ⟨f, fd, ⟨fun A outer s H args us vs Q E room guard env bind vals hlen hsp => ?_⟩, hm, F.kp, hb⟩
  obtain ⟨al, h, ds, S, r, q⟩ := hsp
  exact q.elim
end
end Mach
end

section
set_option Elab.async false
set_option linter.all false
set_option maxRecDepth 100000
set_option maxHeartbeats 4100000
namespace Mach
open PySem PySem.Spec L2 PyProof.Rows
open AutoSeq1 (wpAny_loadPart')  -- one more row
theorem tuple_mul1 (l : Addr) (items : Array Value) (n : Nat) (dd : Option Addr) (sl : Array (Option Value)) (u : Tok) :
    Meets (Builtin.«tuple.__mul__» ⟨[.ref l, .int 1 u], []⟩) (fun _ R s => s.heap.get? l = some { cls := .type "tuple", dict := dd, data := .seq items n, slots := sl } ∧
      R (.ok (.ret (Value.ref l))) s) :=
  .of_wp fun pr w A R s hyp => by
    obtain ⟨hp, g, d, tk, outs⟩ := s
    obtain ⟨hAt, h⟩ := hyp
    have f1 := AutoSeq1.idx_int
    wp_walk using wpAny_loadPart' hAt
    exact ⟨_, rfl, h⟩

theorem tuple_mul0 (l : Addr) (items : Array Value) (n : Nat) (dd : Option Addr) (sl : Array (Option Value)) (u : Tok) :
    Meets (Builtin.«tuple.__mul__» ⟨[.ref l, .int 0 u], []⟩) (fun _ R s => s.heap.get? l = some { cls := .type "tuple", dict := dd, data := .seq items n, slots := sl } ∧ items.isEmpty = false ∧
      R (.ok (.ret (Value.ref s.heap.objs.size))) { s with heap := s.heap.push { cls := .type "tuple", data := .seq [].toArray } }) :=
  .of_wp fun pr w A R s hyp => by
    obtain ⟨hp, g, d, tk, outs⟩ := s
    obtain ⟨hAt, hne, h⟩ := hyp
    have f1 := AutoSeq1.idx_int
    wp_walk using wpAny_loadPart' hAt
    exact ⟨_, rfl, h⟩

def rRep0 (K : PySem.W.Frag) : R2 := fun x y H Q => ∃ l xs, x = .ref l ∧ y = .int 0 ∧ SqT K H l xs ∧ xs ≠ [] ∧ NT H Q []
def rRep1 (K : PySem.W.Frag) : R2 := fun x y H Q => ∃ l xs, x = .ref l ∧ y = .int 1 ∧ SqT K H l xs ∧ Q (.ref l) H
def rMul4 (K : PySem.W.Frag) : R2 := fun x y H Q => (fun x y H Q => rMul3 K x y H Q ∨ rRep1 K x y H Q) x y H Q ∨ rRep0 K x y H Q
def dMulB : D → D → Hq → R D
  | .tup xs, .int k, h => if k = 1 then .ok (.tup xs) h else if k = 0 ∧ xs.isEmpty = false then .ok (.tup []) h else dMul (.tup xs) (.int k) h
  | x, y, h => dMul x y h
section
variable {X : Cx} {cm : Str → Option Addr}
theorem op_rep1 : OpR X (binaryOp .Mult) (rRep1 X.K) := by
  intro pins s σ H x y v u Q I rx ry hyp
  have h := hyp
  obtain ⟨l, xs, rfl, rfl, hT, q⟩ := h
  cases rx
  obtain ⟨t, rfl⟩ := ry
  obtain ⟨cellsOf, r, ⟨⟨cls, dd, data, sl⟩, ho, hc, n, hDat⟩, hs⟩ := I.tuple hT
  simp only at hc hDat
  subst hc hDat
  refine wpAny_binaryOp_repeat_ref (T := "tuple") (U := "int") (by decide) ⟨_, ho, rfl⟩ (fun s' => typeIs_int s' 1 t) noFill_tuple_mul F.fills_int_mul F.slot_int_rmul repeat_tuple F.slot_int_index.lookup
    (call_meets F.slot_int_rmul (typeIs_int s 1 t) F.entry_int_rmul (F.args_int_rmul_2 _ _) (int_rmul_tuple 1 t l cellsOf.toArray n dd sl)
      ⟨ho, rfl, ⟨_, ho, rfl⟩, call_meets F.slot_tuple_mul ⟨_, ho, rfl⟩ F.entry_tuple_mul (F.args_tuple_mul_2 _ _) (tuple_mul1 l cellsOf.toArray n dd sl t) ⟨ho, ?_⟩⟩)
  exact ⟨.ref l, H, I, rfl, q⟩
theorem op_rep0 : OpR X (binaryOp .Mult) (rRep0 X.K) := by
  intro pins s σ H x y v u Q I rx ry hyp
  obtain ⟨l, xs, rfl, rfl, hT, some_, q⟩ := hyp
  cases rx
  obtain ⟨t, rfl⟩ := ry
  obtain ⟨row, rv, ⟨⟨cls, dd, data, sl⟩, ho, hc, n, hDat⟩, hs⟩ := I.tuple hT
  simp only at hc hDat
  subst hc hDat
  have full : row.toArray.isEmpty = false := by
    cases row with
    | nil => cases rv; exact absurd rfl some_
    | cons a b => rfl
  have isT : Shared.TypeIs s (.ref l) "tuple" := ⟨_, ho, rfl⟩
  refine wpAny_binaryOp_repeat_ref (T := "tuple") (U := "int") (by decide) isT (fun s' => typeIs_int s' 0 t) noFill_tuple_mul F.fills_int_mul F.slot_int_rmul repeat_tuple F.slot_int_index.lookup
    (call_meets F.slot_int_rmul (typeIs_int s 0 t) F.entry_int_rmul (F.args_int_rmul_2 _ _) (int_rmul_tuple 0 t l row.toArray n dd sl)
      ⟨ho, rfl, isT, call_meets F.slot_tuple_mul isT F.entry_tuple_mul (F.args_tuple_mul_2 _ _) (tuple_mul0 l row.toArray n dd sl t) ⟨ho, full, ?_⟩⟩)
  exact NT.give (xs := []) (row := []) (tk := s.toks) I .nil (Nat.zero_le _) q
theorem op_mul4 : OpR X (binaryOp .Mult) (rMul4 X.K) := (op_mul3.or op_rep1).or op_rep0
theorem dMulB_or (x y : D) (h : Hq) : (∃ xs, x = .tup xs ∧ y = .int 1) ∨ (∃ xs, x = .tup xs ∧ y = .int 0 ∧ xs.isEmpty = false) ∨ dMulB x y h = dMul x y h := by
  cases x with
  | tup xs =>
    cases y with
    | int k =>
      by_cases e : k = 1
      · exact .inl ⟨xs, rfl, by rw [e]⟩
      · by_cases e0 : k = 0 ∧ xs.isEmpty = false
        · exact .inr (.inl ⟨xs, rfl, by rw [e0.1], e0.2⟩)
        · exact .inr (.inr ((if_neg e).trans (if_neg e0)))
    | _ => exact .inr (.inr rfl)
  | _ => exact .inr (.inr rfl)
theorem ok_mulB : R2ok X cm (rMul4 X.K) dMulB := by
  intro al h H x y dx dy Q S rx ry q
  rcases dMulB_or dx dy h with ⟨xs, rfl, rfl⟩ | ⟨xs, rfl, rfl, hne⟩ | e
  · cases rx with
    | tup hx tx =>
      cases ry
      have q : Post X.K cm (relD X.K cm) al H Q (fun _ _ _ => False) (.ok (.tup xs) h) := q
      exact .inl (.inr ⟨_, _, rfl, rfl, hx.sq, q.here S (.tup hx tx)⟩)
  · cases rx with
    | tup hx tx =>
      cases ry
      have e1 : dMulB (.tup xs) (.int 0) h = .ok (.tup []) h := by
        show (if (0 : Int) = 1 then R.ok (.tup xs) h else if (0 : Int) = 0 ∧ xs.isEmpty = false then .ok (.tup []) h else dMul (.tup xs) (.int 0) h) = _
        rw [if_neg (show ¬ ((0 : Int) = 1) by decide), if_pos ⟨rfl, hne⟩]
      rw [e1] at q
      refine .inr ⟨_, _, rfl, rfl, hx.sq, fun z => ?_, Post.tupN q S .nil⟩
      subst z
      cases tx
      simp at hne
  · exact .inl (.inl (ok_mul al h H x y dx dy Q S rx ry (e ▸ q)))
theorem gl {x : Str} (h : X.env.kindOf x = some .globalImplicit) : Gl X x := h
theorem units1 {k : Nat} {A : Around} (r : Room k A) : A.units + 1 < cLine := by have := r.un; omega
end
end Mach
end

section
set_option Elab.async false
set_option linter.all false
set_option maxRecDepth 100000
set_option maxHeartbeats 4100000
namespace Mach
open PySem PySem.Spec L2
open PyProof.Rows (envOfC)
/-! ### a def whose leavings are kept -/
def rawOf (n : Nat) (body : GS) : List D → Hq → R D := fun ds h => endOf (body (ds.map some ++ List.replicate (n - ds.length) none) h)
theorem rawOf_trim (n : Nat) (body : GS) (ds : List D) (h : Hq) : fnOf n body ds h = trim h (rawOf n body ds h) := rfl
section
variable {P : Program} {w : World} {K : PySem.W.Frag} {mg : Str → Option Value} {base : Heap} {cm : Str → Option Addr}
theorem fnR_of {x qual : Str} {st : Stmt} {f : Addr} {fd : FuncData} {N ps : List Str} {k : Nat} {body : GS} (F : Fun K x qual st f fd) (S : FnScope N ps (defScope st))
    (hbody : ∀ (cdv : Value) (A : Around) (outer : List Env) (s : Shared) (H : Hp) (E : XK), Room k (A.deeper (envOfC qual (defScope st) s.heap.objs.size f cdv)) → A.guards = some [] →
      MSs (cxOf (L2.CX P w) P w K mg base N qual (defScope st) f cdv A outer s H E) cm (fun c d _ H' => E c d H') (defBody st) body) : FnG P w K mg base cm (k + 1) f fd ps (rawOf N.length body) := by
  obtain ⟨cls0, dict0, kw0, doc0, par0, ann0, cdv, ct0, slots0, e0, look, hcode⟩ := F.ex
  subst e0
  refine ⟨fun A outer s H args us vs Q E room guard env bind vals hlen hsp => ?_⟩
  have inK : K.In s.heap := env.mod.kin.keeps fun b o q => (env.bs b o q).1
  have lim : s.heap.NoLimit := env.mod.nolimit.keeps fun b o q => (env.bs b o q).1
  have kinds : ∀ y ∈ ps.zip us, (defScope st).names.lookup y.1 = some .local ∨ ((defScope st).names.lookup y.1 = some .cell ∧ ((cellsFrom (s.heap.objs.size + 1) (defScope st).names []).lookup y.1).isSome = true) := by
    intro y hy
    rcases S.par y.1 (List.of_mem_zip (a := y.1) (b := y.2) hy).1 with z | z
    · exact Or.inl z
    · exact Or.inr ⟨z, PySem.W.cellsFrom_some _ _ _ (Or.inl z)⟩
  refine codeAny_call_function room.depth (inK _ _ look) rfl S.co S.gen rfl (PySem.W.codeRec_of inK hcode) (bind _ _ _ _ (wpAny_newFunctionEnv_cells S.kind kinds fun envN envE s1 toIn => ?_))
  subst envE
  refine ⟨lim.keeps toIn.toInCall.keep, codeAny_func ?_⟩
  have body1 := hbody cdv A outer s H E (room.deeper _) guard
  have inv : Inv (cxOf (L2.CX P w) P w K mg base N qual (defScope st) f cdv A outer s H E) [] (L2.start N vs) H s1 := inv_start S room.hd env hlen vals toIn
  obtain ⟨al, h, ds, sim, rels, q⟩ := hsp
  have q1 := post_end q
  refine wpAny_mono (body1.run [] s1 (L2.start N vs) H { nx := fun _ H' => Q .non H', rt := Q } inv ⟨al, _, h, lo_start N rels, sim, q1⟩) (fun flow s2 post => ?_) fun e s2 post => post
  have close : ∀ {σ2 : L2.St} {H2 : Hp} {v : V} {u : Value}, Inv (cxOf (L2.CX P w) P w K mg base N qual (defScope st) f cdv A outer s H E) [] σ2 H2 s2 → RelV v u → Q v H2 → CE outer P w H s Q u s2 :=
    fun {σ2 H2 v u} J rv z => ⟨v, H2, J.os, J.bare, J.base, J.hok, rv, z⟩
  cases flow with
  | next =>
    obtain ⟨σ2, H2, J, z⟩ := post
    exact close (v := V.non) (u := Value.none) J rfl z
  | ret u =>
    obtain ⟨v, σ2, H2, J, rv, z⟩ := post
    exact close J rv z
  | brk => exact post.elim fun _ p => p.elim fun _ p => p.2.elim
  | cont => exact post.elim fun _ p => p.elim fun _ p => p.2.elim
theorem def_ofR {x : Str} {st : Stmt} {N ps : List Str} {k : Nat} {body : GS} (T : At K mg x st ps) (S : FnScope N ps (defScope st))
    (hbody : ∀ (f : Addr) (cdv : Value) (A : Around) (outer : List Env) (s : Shared) (H : Hp) (E : XK), Room k (A.deeper (envOfC x (defScope st) s.heap.objs.size f cdv)) → A.guards = some [] →
      MSs (cxOf (L2.CX P w) P w K mg base N x (defScope st) f cdv A outer s H E) cm (fun c d _ H' => E c d H') (defBody st) body) : DefOk P w K mg base cm (k + 1) x ps (rawOf N.length body) := by
  obtain ⟨f, fd, F, hm, hb⟩ := T.ex
  exact ⟨f, fd, fnR_of F S (fun cdv A outer s H E => hbody f cdv A outer s H E), hm, F.kp, hb⟩
end

/-! ### what a denotation does -/
@[irreducible] def RO {α : Type} (x : R α) (Q : α → Hq → Prop) : Prop := match x with
  | .ok a h => Q a h
  | _ => False
@[irreducible] def SO (x : SR) (N : Lo → Hq → Prop) (T : D → Hq → Prop) : Prop := match x with
  | .nx lo h => N lo h
  | .rt d h => T d h
  | _ => False
section
variable {α β : Type} {Q Q' : α → Hq → Prop} {N N' : Lo → Hq → Prop} {T T' : D → Hq → Prop}
theorem RO_ok {a : α} {h : Hq} : RO (.ok a h) Q = Q a h := by unfold RO; exact propext ⟨fun z => z, fun z => z⟩
theorem RO_bad : RO (R.bad : R α) Q = False := by unfold RO; exact propext ⟨fun z => z, fun z => z⟩
theorem RO_ex {c : Str} {fs : List (Str × D)} {h : Hq} : RO (R.ex c fs h : R α) Q = False := by unfold RO; exact propext ⟨fun z => z, fun z => z⟩
theorem RO_bind {Q : β → Hq → Prop} (x : R α) (f : α → Hq → R β) : RO (x.bind f) Q = RO x (fun a h => RO (f a h) Q) := by unfold RO; cases x <;> rfl
theorem RO_calm (x : R α) : RO x.calm Q = RO x Q := by unfold RO; cases x <;> rfl
theorem SO_stm (x : R α) (lo : Lo) (f : α → Hq → SR) : SO (x.stm lo f) N T = RO x (fun a h => SO (f a h) N T) := by unfold RO SO; cases x <;> rfl
theorem SO_seq (x : SR) (f : Lo → Hq → SR) : SO (x.seq f) N T = SO x (fun lo h => SO (f lo h) N T) T := by unfold SO; cases x <;> rfl
theorem SO_nx {lo : Lo} {h : Hq} : SO (.nx lo h) N T = N lo h := by unfold SO; exact propext ⟨fun z => z, fun z => z⟩
theorem SO_rt {d : D} {h : Hq} : SO (.rt d h) N T = T d h := by unfold SO; exact propext ⟨fun z => z, fun z => z⟩
theorem SO_bad : SO .bad N T = False := by unfold SO; exact propext ⟨fun z => z, fun z => z⟩
theorem RO_end (x : SR) {Q : D → Hq → Prop} : RO (endOf x) Q = SO x (fun _ h => Q .non h) Q := by unfold RO SO; cases x <;> rfl
theorem RO.mono {x : R α} (h : RO x Q) (k : ∀ a h, Q a h → Q' a h) : RO x Q' := by
  unfold RO at h ⊢
  cases x with
  | ok a h1 => exact k a h1 h
  | _ => exact h
theorem SO.mono {x : SR} (h : SO x N T) (k : ∀ lo h, N lo h → N' lo h) (l : ∀ d h, T d h → T' d h) : SO x N' T' := by
  unfold SO at h ⊢
  cases x with
  | nx lo h1 => exact k lo h1 h
  | rt d h1 => exact l d h1 h
  | _ => exact h
theorem RO.get {x : R α} (h : RO x Q) : ∃ a h1, x = .ok a h1 ∧ Q a h1 := by
  unfold RO at h
  cases x with
  | ok a h1 => exact ⟨a, h1, rfl, h⟩
  | _ => exact h.elim
theorem SO_no {x : SR} (h : SO x N T) : (∃ lo h1, x = .nx lo h1 ∧ N lo h1) ∨ ∃ d h1, x = .rt d h1 ∧ T d h1 := by
  unfold SO at h
  cases x with
  | nx lo h1 => exact .inl ⟨lo, h1, rfl, h⟩
  | rt d h1 => exact .inr ⟨d, h1, rfl, h⟩
  | _ => exact h.elim
theorem RO_raw {n : Nat} {body : GS} {ds : List D} {h : Hq} {Q : D → Hq → Prop} : RO (rawOf n body ds h) Q = SO (body (ds.map some ++ List.replicate (n - ds.length) none) h) (fun _ h => Q .non h) Q := RO_end _
/-- a def that leaves pure data and only garbage -/
theorem fn_pure {n : Nat} {body : GS} {ds : List D} {h : Hq} {d : D} (hp : d.pure = true) (hs : SO (body (ds.map some ++ List.replicate (n - ds.length) none) h) (fun _ h' => d = .non ∧ ∃ g, h' = h ++ g) (fun d' h' => d' = d ∧ ∃ g, h' = h ++ g)) :
    fnOf n body ds h = .ok d h := by
  have e : ∃ g, rawOf n body ds h = .ok d (h ++ g) := by
    unfold rawOf
    generalize body (ds.map some ++ List.replicate (n - ds.length) none) h = x at hs
    rcases SO_no hs with ⟨lo, h', rfl, rfl, g, rfl⟩ | ⟨d', h', rfl, rfl, g, rfl⟩
    · exact ⟨g, rfl⟩
    · exact ⟨g, rfl⟩
  obtain ⟨g, e⟩ := e
  rw [rawOf_trim, e]
  cases d with
  | ref r => exact absurd hp (by simp [D.pure])
  | non => simp only [trim, pre_app, if_true, hp]
  | bl b => simp only [trim, pre_app, if_true, hp]
  | int b => simp only [trim, pre_app, if_true, hp]
  | str b => simp only [trim, pre_app, if_true, hp]
  | ty b => simp only [trim, pre_app, if_true, hp]
  | cls b => simp only [trim, pre_app, if_true, hp]
  | rol b => simp only [trim, pre_app, if_true, hp]
  | tup b => simp only [trim, pre_app, if_true, hp]
/-- a walk over fixed items -/
theorem SO_forFix {ds : List D} {t : Tg} {body : GS} (I : Nat → Lo → Hq → Prop)
    (step : ∀ i d lo h, ds[i]? = some d → I i lo h → ∃ lo1, t.f d lo = some lo1 ∧ SO (body lo1 h) (I (i + 1)) T) (done : ∀ lo h, I ds.length lo h → N lo h) :
    ∀ n i lo h, i + n = ds.length → I i lo h → SO (forL (.fix ds) t body n i lo h) N T
  | 0, i, lo, h, e, hi => by
    have e2 : ds[i]? = none := List.getElem?_eq_none_iff.mpr (by omega)
    unfold forL
    simp only [Src.at, e2]
    rw [SO_nx]
    exact done lo h (by rw [← e]; exact hi)
  | n + 1, i, lo, h, e, hi => by
    have hl : i < ds.length := by omega
    have e2 : ds[i]? = some ds[i] := List.getElem?_eq_getElem hl
    obtain ⟨lo1, e3, hb⟩ := step i ds[i] lo h e2 hi
    unfold forL
    simp only [Src.at, e2, e3]
    have ih := SO_forFix I step done n (i + 1)
    rcases SO_no hb with ⟨lo2, h2, eb, hb⟩ | ⟨d, h2, eb, hb⟩
    · rw [eb]; exact ih lo2 h2 (by omega) hb
    · rw [eb]; exact SO_rt ▸ hb
/-- a walk over the list at r, that the body leaves as it is -/
theorem SO_forLst {r : Nat} {ds : List D} {t : Tg} {body : GS} (I : Nat → Lo → Hq → Prop) (own : ∀ i lo h, I i lo h → h[r]? = some (.lst ds))
    (step : ∀ i d lo h, ds[i]? = some d → I i lo h → ∃ lo1, t.f d lo = some lo1 ∧ SO (body lo1 h) (I (i + 1)) T) (done : ∀ lo h, I ds.length lo h → N lo h) :
    ∀ n i lo h, i + n = ds.length → I i lo h → SO (forL (.lst r) t body n i lo h) N T
  | 0, i, lo, h, e, hi => by
    have e2 : ds[i]? = none := List.getElem?_eq_none_iff.mpr (by omega)
    unfold forL
    simp only [Src.at, own i lo h hi, e2]
    rw [SO_nx]
    exact done lo h (by rw [← e]; exact hi)
  | n + 1, i, lo, h, e, hi => by
    have hl : i < ds.length := by omega
    have e2 : ds[i]? = some ds[i] := List.getElem?_eq_getElem hl
    obtain ⟨lo1, e3, hb⟩ := step i ds[i] lo h e2 hi
    unfold forL
    simp only [Src.at, own i lo h hi, e2, e3]
    have ih := SO_forLst I own step done n (i + 1)
    rcases SO_no hb with ⟨lo2, h2, eb, hb⟩ | ⟨d, h2, eb, hb⟩
    · rw [eb]; exact ih lo2 h2 (by omega) hb
    · rw [eb]; exact SO_rt ▸ hb
theorem SO_forEnl {r : Nat} {ds : List D} {t : Tg} {body : GS} (I : Nat → Lo → Hq → Prop) (own : ∀ i lo h, I i lo h → h[r]? = some (.lst ds))
    (step : ∀ i d lo h, ds[i]? = some d → I i lo h → ∃ lo1, t.f (.tup [.int i, d]) lo = some lo1 ∧ SO (body lo1 h) (I (i + 1)) T) (done : ∀ lo h, I ds.length lo h → N lo h) :
    ∀ n i lo h, i + n = ds.length → I i lo h → SO (forL (.enl r) t body n i lo h) N T
  | 0, i, lo, h, e, hi => by
    have e2 : ds[i]? = none := List.getElem?_eq_none_iff.mpr (by omega)
    unfold forL
    simp only [Src.at, own i lo h hi, e2, Option.map_none]
    rw [SO_nx]
    exact done lo h (by rw [← e]; exact hi)
  | n + 1, i, lo, h, e, hi => by
    have hl : i < ds.length := by omega
    have e2 : ds[i]? = some ds[i] := List.getElem?_eq_getElem hl
    obtain ⟨lo1, e3, hb⟩ := step i ds[i] lo h e2 hi
    unfold forL
    simp only [Src.at, own i lo h hi, e2, e3, Option.map_some]
    have ih := SO_forEnl I own step done n (i + 1)
    rcases SO_no hb with ⟨lo2, h2, eb, hb⟩ | ⟨d, h2, eb, hb⟩
    · rw [eb]; exact ih lo2 h2 (by omega) hb
    · rw [eb]; exact SO_rt ▸ hb
/-- a comprehension over fixed items; its list stands at r -/
theorem RO_compFix {ds : List D} {t : Tg} {cs : GT} {elt : GE} {r : Nat} {lo : Lo} {Q : Unit → Hq → Prop} (J : Nat → List D → Hq → Prop) (hz : ds.length ≤ 1000000)
    (own : ∀ i acc h, J i acc h → h[r]? = some (.lst acc) ∧ acc.length ≤ i)
    (step : ∀ i d acc h, ds[i]? = some d → J i acc h → ∃ lo1, t.f d lo = some lo1 ∧ RO (cs lo1 h) fun b h1 => if b = true then RO (elt lo1 h1) (fun y h2 => h2[r]? = some (.lst acc) ∧ J (i + 1) (acc ++ [y]) (h2.set r (.lst (acc ++ [y])))) else J (i + 1) acc h1)
    (done : ∀ acc h, J ds.length acc h → Q () h) :
    ∀ n i acc h, i + n = ds.length → J i acc h → RO (compL (.fix ds) t cs elt r n i lo h) Q
  | 0, i, acc, h, e, hi => by
    have e2 : ds[i]? = none := List.getElem?_eq_none_iff.mpr (by omega)
    unfold compL
    simp only [Src.at, e2]
    rw [RO_ok]
    exact done acc h (by rw [← e]; exact hi)
  | n + 1, i, acc, h, e, hi => by
    have hl : i < ds.length := by omega
    have e2 : ds[i]? = some ds[i] := List.getElem?_eq_getElem hl
    obtain ⟨lo1, e3, hb⟩ := step i ds[i] acc h e2 hi
    unfold compL
    simp only [Src.at, e2, e3]
    have ih := RO_compFix J hz own step done n (i + 1)
    rw [RO_bind, RO_calm]
    refine hb.mono fun b h1 hb => ?_
    split
    · rename_i hbt
      rw [if_pos hbt] at hb
      rw [RO_bind, RO_calm]
      refine hb.mono fun y h2 hb => ?_
      rw [hb.1]
      have ha := (own i acc h hi).2
      simp only
      rw [if_pos (by omega)]
      exact ih _ _ (by omega) hb.2
    · rename_i hbt
      rw [if_neg hbt] at hb
      exact ih _ _ (by omega) hb
end
end Mach
end

section
set_option Elab.async false
set_option linter.all false
set_option maxRecDepth 100000
namespace Mach
open PySem PySem.Spec L2
/-! ### texts compare whatever their signs are -/
def dEqB : D → D → Hq → R D
  | .str a, .str b, h => .ok (.bl (a == b)) h
  | x, y, h => dEq x y h
def dNeB : D → D → Hq → R D
  | .str a, .str b, h => .ok (.bl (!(a == b))) h
  | x, y, h => dNe x y h
theorem dEqB_or (x y : D) (h : Hq) : (∃ a b, x = .str a ∧ y = .str b) ∨ dEqB x y h = dEq x y h := by
  cases x with
  | str a => cases y with
    | str b => exact .inl ⟨a, b, rfl, rfl⟩
    | _ => exact .inr rfl
  | _ => exact .inr rfl
theorem dNeB_or (x y : D) (h : Hq) : (∃ a b, x = .str a ∧ y = .str b) ∨ dNeB x y h = dNe x y h := by
  cases x with
  | str a => cases y with
    | str b => exact .inl ⟨a, b, rfl, rfl⟩
    | _ => exact .inr rfl
  | _ => exact .inr rfl
section
variable {X : Cx} {cm : Str → Option Addr}
abbrev rEqB (K : PySem.W.Frag) : R2 := fun x y H Q => rEqD K x y H Q ∨ rEq x y H Q
abbrev rNeB (K : PySem.W.Frag) : R2 := fun x y H Q => rNeD K x y H Q ∨ rNe x y H Q
theorem op_eqB {k : Nat} (r : Room k X.A) : OpR X (compareOp .Eq) (rEqB X.K) := (op_eqR r).or op_eq
theorem op_neB {k : Nat} (r : Room k X.A) : OpR X (compareOp .NotEq) (rNeB X.K) := (op_neR r).or op_ne
theorem ok_eqB : R2ok X cm (rEqB X.K) dEqB := by
  intro al h H x y dx dy Q S rx ry q
  rcases dEqB_or dx dy h with ⟨a, b, rfl, rfl⟩ | e
  · cases rx
    cases ry
    have q : Post X.K cm (relD X.K cm) al H Q (fun _ _ _ => False) (.ok (.bl (a == b)) h) := q
    exact .inr ⟨rfl, by rw [dec_str]; exact q.here S (.bl _)⟩
  · exact .inl (ok_eq al h H x y dx dy Q S rx ry (e ▸ q))
theorem ok_neB : R2ok X cm (rNeB X.K) dNeB := by
  intro al h H x y dx dy Q S rx ry q
  rcases dNeB_or dx dy h with ⟨a, b, rfl, rfl⟩ | e
  · cases rx
    cases ry
    have q : Post X.K cm (relD X.K cm) al H Q (fun _ _ _ => False) (.ok (.bl (!(a == b))) h) := q
    exact .inr ⟨rfl, by rw [dec_str]; exact q.here S (.bl _)⟩
  · exact .inl (ok_ne al h H x y dx dy Q S rx ry (e ▸ q))
end
end Mach
end

section
set_option Elab.async false
set_option linter.all false
set_option maxRecDepth 100000
namespace Mach
open PySem PySem.Spec L2

/-! ### objects of own classes -/
def putD (f : Str) (d : D) : List (Str × D) → List (Str × D)
  | [] => [(f, d)]
  | (g, x) :: r => if g = f then (g, d) :: r else (g, x) :: putD f d r
/-- a class whose objects have the field f -/
structure FldA (K : PySem.W.Frag) (cm : Str → Option Addr) (c f : Str) : Prop where
  ex : ∀ C, cm c = some C → Cls K C ∧ NoAttr K C f
def gFld (c f : Str) (a : GE) : GE := fun lo h => (a lo h).bind fun x h1 => match x with
  | .ref r => match h1[r]? with
    | some (.ins b fs) => if b = c then (match fs.lookup f with
      | some d => .ok d h1
      | none => .bad) else .bad
    | _ => .bad
  | _ => .bad
def sFldD (c f : Str) (o e : GE) : GS := fun lo h => (e lo h).stm lo fun d h1 => (o lo h1).stm lo fun x h2 => match x with
  | .ref r => match h2[r]? with
    | some (.ins b fs) => if b = c ∧ fs.length < 900 then .nx lo (h2.set r (.ins b (putD f d fs))) else .bad
    | _ => .bad
  | _ => .bad
section
variable {K : PySem.W.Frag} {cm : Str → Option Addr} {al : List Addr} {H : Hp} {h : Hq}
theorem fld_get {f : Str} {d : D} : ∀ {fs : List (Str × D)} {vs : List (Str × V)}, vs.map (·.1) = fs.map (·.1) → Rels K cm al H (fs.map (·.2)) (vs.map (·.2)) → fs.lookup f = some d → ∃ v, vs.lookup f = some v ∧ Rel K cm al H d v
  | [], _, _, _, e => nomatch e
  | (g, x) :: fs, [], n, _, _ => nomatch n
  | (g, x) :: fs, (g2, y) :: vs, n, r, e => by
    have n1 : g2 = g := (List.cons.inj n).1
    subst n1
    cases r with
    | cons r1 r2 =>
      rw [List.lookup_cons] at e ⊢
      cases q : f == g2 with
      | true =>
        rw [q] at e
        cases e
        exact ⟨y, rfl, r1⟩
      | false =>
        rw [q] at e
        exact fld_get (List.cons.inj n).2 r2 e
theorem fld_put {f : Str} {d : D} {v : V} (rd : Rel K cm al H d v) : ∀ {fs : List (Str × D)} {vs : List (Str × V)}, vs.map (·.1) = fs.map (·.1) → Rels K cm al H (fs.map (·.2)) (vs.map (·.2)) →
    (putF f v vs).map (·.1) = (putD f d fs).map (·.1) ∧ Rels K cm al H ((putD f d fs).map (·.2)) ((putF f v vs).map (·.2))
  | [], [], _, _ => ⟨rfl, .cons rd .nil⟩
  | [], _ :: _, n, _ => nomatch n
  | _ :: _, [], n, _ => nomatch n
  | (g, x) :: fs, (g2, y) :: vs, n, r => by
    have n1 : g2 = g := (List.cons.inj n).1
    subst n1
    cases r with
    | cons r1 r2 =>
      unfold putF putD
      by_cases q : g2 = f
      · rw [if_pos q, if_pos q]
        exact ⟨n, .cons rd r2⟩
      · rw [if_neg q, if_neg q]
        obtain ⟨i1, i2⟩ := fld_put (f := f) rd (List.cons.inj n).2 r2
        exact ⟨by rw [List.map_cons, List.map_cons, i1], .cons r1 i2⟩
theorem no_fld {f : Str} : ∀ {fs : List (Str × D)} {vs : List (Str × V)}, vs.map (·.1) = fs.map (·.1) → fs.lookup f = none → vs.lookup f = none
  | [], [], _, _ => rfl
  | [], _ :: _, n, _ => nomatch n
  | _ :: _, [], n, _ => nomatch n
  | (g, x) :: fs, (g2, y) :: vs, n, e => by
    have n1 : g2 = g := (List.cons.inj n).1
    subst n1
    rw [List.lookup_cons] at e ⊢
    cases q : f == g2 with
    | true => rw [q] at e; cases e
    | false => rw [q] at e; exact no_fld (List.cons.inj n).2 e
theorem keys_len {fs : List (Str × D)} {vs : List (Str × V)} (n : vs.map (·.1) = fs.map (·.1)) : vs.length = fs.length := by
  have := congrArg List.length n
  simpa using this
/-- the object at r is written -/
theorem Sim.putO (S : Sim K cm al h H) {r : Nat} {a : Addr} {o0 o : Ob} {u : HO} (ea : al[r]? = some a) (eo : h[r]? = some o0) (kk : Keep H (upd H a u)) (t : ObR K cm al (upd H a u) a o) : Sim K cm al (h.set r o) (upd H a u) := by
  refine ⟨by simp [S.len], S.nd, fun q b o2 eb e => ?_⟩
  by_cases hq : q = r
  · subst hq
    have hl : q < h.length := (List.getElem?_eq_some_iff.mp eo).1
    rw [List.getElem?_set_self hl] at e
    rw [ea] at eb
    cases eb
    cases e
    exact t
  · rw [List.getElem?_set_ne (fun z => hq z.symm)] at e
    have far : b ≠ a := fun z => by
      subst z
      exact hq ((List.getElem?_inj (List.getElem?_eq_some_iff.mp eb).1 S.nd).mp (eb.trans ea.symm))
    exact (S.obs q b o2 eb e).mono (List.prefix_refl al) kk (upd_ne far)
end
section
variable {X : Cx} {cm : Str → Option Addr} {W : WX} {a e o : Expr} {es : List Expr} {ga ge go : GE} {gs : GA} {pos apos p : Pos} {c f m x : Str}
theorem me_fld (T : FldA X.K cm c f) (ha : ME X cm W a ga) (hb : attributeBase a f X.env (eval a X.env) = eval a X.env := by rfl) : ME X cm W (.Attribute a f pos) (gFld c f ga) := by
  refine (pe_fld ha hb).imp fun σ H Q h => ?_
  obtain ⟨al, lo, h, L, S, q⟩ := h
  refine ⟨al, lo, h, L, S, tE_bind (rel := relD X.K cm) q fun al1 h1 d v H1 e1 S1 r1 q1 => ?_⟩
  cases r1 with
  | ref hx =>
    simp only at q1
    split at q1
    · rename_i b fs eo
      split at q1
      · rename_i hbc
        subst hbc
        split at q1
        · rename_i d ed
          obtain ⟨C, dx, vs, hc, hv, _, n, t⟩ := S1.obs _ _ _ hx eo
          obtain ⟨v, ev, rv⟩ := fld_get n t ed
          obtain ⟨k1, k2⟩ := T.ex C hc
          exact ⟨_, C, dx, vs, v, rfl, hv, k1, k2, ev, q1.here S1 rv⟩
        · exact q1.elim
      · exact q1.elim
    · exact q1.elim
  | _ => exact q1.elim
theorem ms_fld {pos2 : Pos} (T : FldA X.K cm c f) (ho : ME X cm W o go) (he : ME X cm W e ge) (hs : swapsWith e (some (.Attribute o f pos2)) pos.line X.env = pure false := by rfl) : MS X cm W (.Assign [.Attribute o f pos2] e pos) (sFldD c f go ge) := by
  refine (ps_fld ho he hs).imp fun E σ H h => ?_
  obtain ⟨al, lo, h, L, S, q⟩ := h
  refine ⟨al, lo, h, L, S, PostS.stm (rel := relD X.K cm) L q fun al1 h1 d v H1 e1 S1 r1 L1 q1 => ?_⟩
  refine ⟨al1, lo, h1, L1, S1, PostS.stm (rel := relD X.K cm) L1 q1 fun al2 h2 d2 v2 H2 e2 S2 r2 L2' q2 => ?_⟩
  cases r2 with
  | ref hx =>
    simp only at q2
    split at q2
    · rename_i b fs eo
      split at q2
      · rename_i hbc
        obtain ⟨hbc, hl⟩ := hbc
        subst hbc
        obtain ⟨C, dx, vs, hc, hv, ho2, n, t⟩ := S2.obs _ _ _ hx eo
        obtain ⟨k1, k2⟩ := T.ex C hc
        obtain ⟨i1, i2⟩ := fld_put (f := f) (r1.mono e2.pre e2.keep) n t
        have kk := fun u : HO => Keep.over (o := u) hv rfl
        have far := ne_of ho2 hv (by intro z; cases z)
        have S3 := S2.putO (o := .ins b (putD f d fs)) (u := .ins C dx (putF f v vs)) hx eo (kk _) ⟨C, dx, _, hc, upd_same, by rw [upd_ne far]; exact ho2, i1, i2.mono (List.prefix_refl _) (kk _)⟩
        exact ⟨_, C, dx, vs, rfl, hv, k1, k2, by rw [keys_len n]; omega, PostS.nx (PostS.later ⟨List.prefix_refl _, kk _⟩ q2) S3 (L2'.mono (List.prefix_refl _) (kk _))⟩
      · exact q2.elim
    · exact q2.elim
  | _ => exact q2.elim

/-! ### methods, and objects made -/
def gMeth (c m : Str) (fn : List D → Hq → R D) (o : GE) (as : GA) : GE := fun lo h => (o lo h).bind fun x h1 => match x with
  | .ref r => match h1[r]? with
    | some (.ins b fs) => if b = c ∧ fs.lookup m = none then (as lo h1).bind fun ds h2 => fn (.ref r :: ds) h2 else .bad
    | _ => .bad
  | _ => .bad
def madeOf (r : Nat) : R D → R D
  | .ok .non h => .ok (.ref r) h
  | .ex c fs h => .ex c fs h
  | _ => .bad
def gMake (c : Str) (fn : List D → Hq → R D) (as : GA) : GE := fun lo h => (as lo h).bind fun ds h1 => madeOf h1.length (fn (.ref h1.length :: ds) (h1 ++ [.ins c []]))
structure MetOk (P : Program) (w : World) (K : PySem.W.Frag) (mg : Str → Option Value) (base : Heap) (cm : Str → Option Addr) (k : Nat) (c m : Str) (ps : List Str) (fn : List D → Hq → R D) : Prop where
  ex : ∀ C, cm c = some C → ∃ (f : Addr) (fd : FuncData), FnG P w K mg base cm k f fd ps fn ∧ Cls K C ∧ Meth K C m f ∧ Binds K fd ps []
/-- where a method of the text stands -/
structure AtM (K : PySem.W.Frag) (cm : Str → Option Addr) (c m q : Str) (st : Stmt) (ps : List Str) : Prop where
  ex : ∀ C, cm c = some C → ∃ (f : Addr) (fd : FuncData), Fun K m q st f fd ∧ Cls K C ∧ Meth K C m f ∧ Binds K fd ps []
structure MkOk (P : Program) (w : World) (K : PySem.W.Frag) (mg : Str → Option Value) (base : Heap) (cm : Str → Option Addr) (k : Nat) (c : Str) (ps : List Str) (fn : List D → Hq → R D) : Prop where
  ex : ∃ (C f : Addr) (fd : FuncData), cm c = some C ∧ mg c = some (.ref C) ∧ Mk K C f ∧ FnG P w K mg base cm k f fd ps fn ∧ Binds K fd ps []
structure AtI (K : PySem.W.Frag) (mg : Str → Option Value) (cm : Str → Option Addr) (c q : Str) (st : Stmt) (ps : List Str) : Prop where
  ex : ∃ (C f : Addr) (fd : FuncData), cm c = some C ∧ mg c = some (.ref C) ∧ Mk K C f ∧ Fun K "__init__" q st f fd ∧ Binds K fd ps []
section
variable {P : Program} {w : World} {K : PySem.W.Frag} {mg : Str → Option Value} {base : Heap} {cm : Str → Option Addr}
open PyProof.Rows (envOfC)
theorem met_ofR {c m q : Str} {st : Stmt} {N ps : List Str} {k : Nat} {body : GS} (T : AtM K cm c m q st ps) (S : FnScope N ps (defScope st))
    (hbody : ∀ (f : Addr) (cdv : Value) (A : Around) (outer : List Env) (s : Shared) (H : Hp) (E : XK), Room k (A.deeper (envOfC q (defScope st) s.heap.objs.size f cdv)) → A.guards = some [] →
      MSs (cxOf (L2.CX P w) P w K mg base N q (defScope st) f cdv A outer s H E) cm (fun c d _ H' => E c d H') (defBody st) body) : MetOk P w K mg base cm (k + 1) c m ps (rawOf N.length body) :=
  ⟨fun C hc => let ⟨f, fd, F, hk, hm, hb⟩ := T.ex C hc; ⟨f, fd, fnR_of F S (fun cdv A outer s H E => hbody f cdv A outer s H E), hk, hm, hb⟩⟩
theorem met_of {c m q : Str} {st : Stmt} {N ps : List Str} {k : Nat} {body : GS} (T : AtM K cm c m q st ps) (S : FnScope N ps (defScope st))
    (hbody : ∀ (f : Addr) (cdv : Value) (A : Around) (outer : List Env) (s : Shared) (H : Hp) (E : XK), Room k (A.deeper (envOfC q (defScope st) s.heap.objs.size f cdv)) → A.guards = some [] →
      MSs (cxOf (L2.CX P w) P w K mg base N q (defScope st) f cdv A outer s H E) cm (fun c d _ H' => E c d H') (defBody st) body) : MetOk P w K mg base cm (k + 1) c m ps (fnOf N.length body) :=
  ⟨fun C hc => let ⟨f, fd, F, hk, hm, hb⟩ := T.ex C hc; ⟨f, fd, fnG_of F S (fun cdv A outer s H E => hbody f cdv A outer s H E), hk, hm, hb⟩⟩
theorem mk_of {c q : Str} {st : Stmt} {N ps : List Str} {k : Nat} {body : GS} (T : AtI K mg cm c q st ps) (S : FnScope N ps (defScope st))
    (hbody : ∀ (f : Addr) (cdv : Value) (A : Around) (outer : List Env) (s : Shared) (H : Hp) (E : XK), Room k (A.deeper (envOfC q (defScope st) s.heap.objs.size f cdv)) → A.guards = some [] →
      MSs (cxOf (L2.CX P w) P w K mg base N q (defScope st) f cdv A outer s H E) cm (fun c d _ H' => E c d H') (defBody st) body) : MkOk P w K mg base cm (k + 1) c ps (rawOf N.length body) :=
  let ⟨C, f, fd, hc, hm, M, F, hb⟩ := T.ex; ⟨⟨C, f, fd, hc, hm, M, fnR_of F S (fun cdv A outer s H E => hbody f cdv A outer s H E), hb⟩⟩
end
variable {k j : Nat} {ps : List Str} {fn : List D → Hq → R D}
/-- a call that a def of ours makes: its end -/
theorem call_end {pins : List (Addr × Obj)} {σ : L2.St} {H1 : Hp} {s1 : Shared} {f : Addr} {fd : FuncData} {us : List Value} {vs : List V} {Q : VK} (F : FnG X.prog X.w X.K X.mg X.base cm k f fd ps fn) (room : Room k X.A) (guard : X.A.guards = some []) (hb : Binds X.K fd ps []) (tk : Takes X W)
    (I1 : Inv X pins σ H1 s1) (rv : Vals vs us) (hl : vs.length = ps.length) (sp : SpG X.K cm fn vs H1 Q (fun c d H' => W c d σ H')) : wpAny (model X.prog X.w) X.A (call (.ref f) us) (EP X pins σ Q) X.xe s1 := by
  have hul : us.length = ps.length := by rw [← rv.length]; exact hl
  have bind := hb s1 us I1.kIn (by rw [List.append_nil]; exact hul)
  rw [List.append_nil] at bind
  refine wpAny_call (codeAny_mono (F.run X.A X.stack s1 H1 ⟨us, []⟩ us vs Q _ room guard I1.env0 bind rv hl sp) fun res s2 hc => ?_)
  match res, hc with
  | .error ex, hc => exact passAt tk σ pins H1 s1 ex s2 I1 hc
  | .ok (.ret u), hc => exact I1.after hc
  | .ok .next, hc => exact hc.elim
  | .ok .brk, hc => exact hc.elim
  | .ok .cont, hc => exact hc.elim
/-- what the arguments leave for a call -/
theorem args_then {al : List Addr} {lo : Lo} {h : Hq} {σ : L2.St} {H : Hp} {Q : VK} {g : List D → Hq → R D} (n : Nat) (L : LoR X.K cm al H lo σ) (S : Sim X.K cm al h H) (harg : ∀ lo h ds h', gs lo h = .ok ds h' → ds.length = n)
    (q : Post X.K cm (relD X.K cm) al H Q (fun c d H' => W c d σ H') ((gs lo h).bind fun ds h1 => g ds h1)) :
    tAr X.K cm W gs σ H (fun vs H1 => vs.length = n ∧ ∃ al1 h1 ds, Ext al H al1 H1 ∧ Sim X.K cm al1 h1 H1 ∧ Rels X.K cm al1 H1 ds vs ∧ Post X.K cm (relD X.K cm) al1 H1 Q (fun c d H' => W c d σ H') (g ds h1)) := by
  refine ⟨al, lo, h, L, S, ?_⟩
  have hlen := harg lo h
  cases hx : gs lo h with
  | bad => rw [hx] at q; exact q
  | ex c fs h1 => rw [hx] at q; exact q
  | ok ds h1 =>
    rw [hx] at q
    intro al1 H1 vs e1 S1 r1
    exact ⟨by rw [← r1.length, hlen ds h1 hx], al1, h1, ds, e1, S1, r1, Post.later e1 q⟩
theorem tAr_mono {σ : L2.St} {H : Hp} {Q Q' : List V → Hp → Prop} (h : tAr X.K cm W gs σ H Q) (k : ∀ vs H', Q vs H' → Q' vs H') : tAr X.K cm W gs σ H Q' := by
  obtain ⟨al, lo, h, L, S, q⟩ := h
  exact ⟨al, lo, h, L, S, Post.imp q k fun _ _ _ z => z⟩
/-- o.m(e, ..) -/
theorem me_meth {pl : Sem Bool} (F : MetOk X.prog X.w X.K X.mg X.base cm j c m ps fn) (room : Room k X.A) (hjk : j ≤ k) (guard : X.A.guards = some []) (tk : Takes X W) (hn : (e :: es).length + 1 = ps.length) (ho : ME X cm W o go) (ha : MA X cm W (e :: es) gs)
    (harg : ∀ lo h ds h', gs lo h = .ok ds h' → ds.length = (e :: es).length) (hst : starEach (e :: es) X.env = (false, eval e X.env) :: starEach es X.env := by rfl) (hpl : (backTo pos (starEach es X.env)).any (·.1) = false := by rfl)
    (hTree : eval (.Call (.Attribute o m apos) (e :: es) [] pos) X.env = (do
      let recv ← eval o X.env
      standAt apos.atName
      let (g, before) ← holding [recv] (getMethod recv m pl)
      callWith pos g before (backTo pos (starEach (e :: es) X.env)) (backToKw pos (keywordEach [] X.env))) := by rfl) :
    ME X cm W (.Call (.Attribute o m apos) (e :: es) [] pos) (gMeth c m fn go gs) := by
  refine ⟨fun pins s σ H Q I hyp => ?_⟩
  obtain ⟨al, lo, h, L, S, q⟩ := hyp
  have recv : tE X.K cm W go σ H (fun x H1 => ∃ a C dx vs, x = .ref a ∧ H1 a = some (.ins C dx vs) ∧ vs.lookup m = none ∧ cm c = some C ∧
      tAr X.K cm W gs σ H1 (fun vs H2 => vs.length = (e :: es).length ∧ SpG X.K cm fn (.ref a :: vs) H2 Q (fun c d H' => W c d σ H'))) := by
    refine ⟨al, lo, h, L, S, tE_bind (rel := relD X.K cm) q fun al1 h1 d v H1 e1 S1 r1 q1 => ?_⟩
    cases r1 with
    | ref hx =>
      simp only at q1
      split at q1
      · rename_i b fs eo
        split at q1
        · rename_i hbc
          obtain ⟨hbc, hno⟩ := hbc
          subst hbc
          obtain ⟨C, dx, vs, hc, hv, ho2, n, t⟩ := S1.obs _ _ _ hx eo
          refine ⟨_, C, dx, vs, rfl, hv, no_fld n hno, hc, tAr_mono (args_then (e :: es).length (L.mono e1.pre e1.keep) S1 harg q1) fun vs H2 z => ?_⟩
          obtain ⟨hl, al2, h2, ds, e2, S2, r2, q2⟩ := z
          exact ⟨hl, al2, h2, _, S2, .cons (.ref (pre_get e2.pre hx)) r2, q2⟩
        · exact q1.elim
      · exact q1.elim
    | _ => exact q1.elim
  refine PySem.W.methodCall_KW (pl := pl) (thn (ho.run pins s σ H _ I recv) fun u s1 ⟨x, H1, I1, rx, a, C, dx, vs, ex, ea, l, hc, q1⟩ => ?_) hTree
  subst ex
  obtain rfl : u = (.ref a : Value) := rx
  obtain ⟨f, fd, G, k1, k2, hb⟩ := F.ex C hc
  refine getmeth_ok I1 ea k1 k2 l ?_
  refine PySem.W.callWith_K (first := [.ref a]) (h₀ := X.base) I.ok.mod.kin k2.kp (thn (ha.run pos pins s1 σ H1 _ I1 q1) fun us s2 ⟨ws, H2, I2, r, hl, sp⟩ => ⟨I2.kIn, ?_⟩) hst hpl
  exact call_end (us := .ref a :: us) (vs := .ref a :: ws) G (room.mono hjk) guard hb tk I2 (.cons rfl r) (by rw [List.length_cons, hl, hn]) sp
/-- o.m() -/
theorem me_meth0 {pl : Sem Bool} (F : MetOk X.prog X.w X.K X.mg X.base cm j c m ps fn) (room : Room k X.A) (hjk : j ≤ k) (guard : X.A.guards = some []) (tk : Takes X W) (hn : 1 = ps.length) (ho : ME X cm W o go)
    (hTree : eval (.Call (.Attribute o m apos) [] [] pos) X.env = (do
      let recv ← eval o X.env
      standAt apos.atName
      let (g, before) ← holding [recv] (getMethod recv m pl)
      callWith pos g before (backTo pos (starEach [] X.env)) (backToKw pos (keywordEach [] X.env))) := by rfl) :
    ME X cm W (.Call (.Attribute o m apos) [] [] pos) (gMeth c m fn go gNil) := by
  refine ⟨fun pins s σ H Q I hyp => ?_⟩
  obtain ⟨al, lo, h, L, S, q⟩ := hyp
  have recv : tE X.K cm W go σ H (fun x H1 => ∃ a C dx vs, x = .ref a ∧ H1 a = some (.ins C dx vs) ∧ vs.lookup m = none ∧ cm c = some C ∧ SpG X.K cm fn [.ref a] H1 Q (fun c d H' => W c d σ H')) := by
    refine ⟨al, lo, h, L, S, tE_bind (rel := relD X.K cm) q fun al1 h1 d v H1 e1 S1 r1 q1 => ?_⟩
    cases r1 with
    | ref hx =>
      simp only at q1
      split at q1
      · rename_i b fs eo
        split at q1
        · rename_i hbc
          obtain ⟨hbc, hno⟩ := hbc
          subst hbc
          obtain ⟨C, dx, vs, hc, hv, ho2, n, t⟩ := S1.obs _ _ _ hx eo
          exact ⟨_, C, dx, vs, rfl, hv, no_fld n hno, hc, al1, h1, _, S1, .cons (.ref hx) .nil, q1⟩
        · exact q1.elim
      · exact q1.elim
    | _ => exact q1.elim
  refine PySem.W.methodCall_KW (pl := pl) (thn (ho.run pins s σ H _ I recv) fun u s1 ⟨x, H1, I1, rx, a, C, dx, vs, ex, ea, l, hc, sp⟩ => ?_) hTree
  subst ex
  obtain rfl : u = (.ref a : Value) := rx
  obtain ⟨f, fd, G, k1, k2, hb⟩ := F.ex C hc
  refine getmeth_ok I1 ea k1 k2 l ?_
  exact PySem.W.callWith_K0 (first := [.ref a]) I1.kIn k2.kp (call_end (us := [.ref a]) (vs := [.ref a]) G (room.mono hjk) guard hb tk I1 (.cons rfl .nil) hn sp)
/-- C(e, ..) -/
theorem me_make (F : MkOk X.prog X.w X.K X.mg X.base cm j c ps fn) (room : Room k X.A) (hjk : j + 1 ≤ k) (guard : X.A.guards = some []) (hg : Gl X c) (tk : Takes X W) (hn : (e :: es).length + 1 = ps.length) (ha : MA X cm W (e :: es) gs)
    (harg : ∀ lo h ds h', gs lo h = .ok ds h' → ds.length = (e :: es).length) (hdb : (c == ("__debug__" : Str)) = false := by decide) (he : starEach (e :: es) X.env = (false, eval e X.env) :: starEach es X.env := by rfl) (hpl : (backTo pos (starEach es X.env)).any (·.1) = false := by rfl) :
    ME X cm W (.Call (.Name c p) (e :: es) [] pos) (gMake c fn gs) := by
  obtain ⟨C, f, fd, hc, hm, M, G, hb⟩ := F.ex
  refine ⟨fun pins s σ H Q I hyp => ?_⟩
  obtain ⟨al, lo, h, L, S, q⟩ := hyp
  refine (wpAny_Call_Name_kw (ld_glob I hg hm ?_ hdb))
  refine PySem.W.callWith_K (h₀ := X.base) I.ok.mod.kin M.kp (thn (ha.run pos pins s σ H _ I (args_then (e :: es).length L S harg q)) fun us s1 ⟨vs, H1, I1, r, hl, al1, h1, ds, e1, S1, rd, q1⟩ => ⟨I1.kIn, ?_⟩) he hpl
  have n1 := I1.hok.fresh (Nat.le_succ s1.heap.objs.size)
  have n0 := I1.hok.fresh (Nat.le_refl s1.heap.objs.size)
  have ne : s1.heap.objs.size ≠ s1.heap.objs.size + 1 := Nat.ne_of_lt (Nat.lt_succ_self _)
  have I2 := Inv.made (C := C) I1
  have k0 : Keep H1 (upd H1 s1.heap.objs.size (.own (s1.heap.objs.size + 1))) := Keep.new n0
  have n2 : upd H1 s1.heap.objs.size (.own (s1.heap.objs.size + 1)) (s1.heap.objs.size + 1) = none := by rw [upd_ne (Ne.symm ne)]; exact n1
  have k1 : Keep (upd H1 s1.heap.objs.size (.own (s1.heap.objs.size + 1))) (upd (upd H1 s1.heap.objs.size (.own (s1.heap.objs.size + 1))) (s1.heap.objs.size + 1) (.ins C s1.heap.objs.size [])) := Keep.new n2
  have S2 : Sim X.K cm (al1 ++ [s1.heap.objs.size + 1]) (h1 ++ [.ins c []]) (upd (upd H1 s1.heap.objs.size (.own (s1.heap.objs.size + 1))) (s1.heap.objs.size + 1) (.ins C s1.heap.objs.size [])) :=
    (S1.other n0).newO n2 ⟨C, _, [], hc, upd_same, by rw [upd_ne ne, upd_same], rfl, .nil⟩
  have pf : al1 <+: al1 ++ [s1.heap.objs.size + 1] := List.prefix_append _ _
  have sp : SpG X.K cm fn (.ref (s1.heap.objs.size + 1) :: vs) (upd (upd H1 s1.heap.objs.size (.own (s1.heap.objs.size + 1))) (s1.heap.objs.size + 1) (.ins C s1.heap.objs.size [])) (fun v H2 => v = .non ∧ Q (.ref (s1.heap.objs.size + 1)) H2) (fun c d H' => W c d σ H') := by
    refine ⟨_, _, .ref h1.length :: ds, S2, .cons (.ref (S1.ext_get _)) ((rd.mono (List.prefix_refl _) k0).mono pf k1), ?_⟩
    have q2 := Post.later ⟨pf, k0.trans k1⟩ q1
    cases hx : fn (.ref h1.length :: ds) (h1 ++ [.ins c []]) with
    | bad => rw [hx] at q2; exact q2
    | ex b fs h2 => rw [hx] at q2; exact q2
    | ok d h2 =>
      rw [hx] at q2
      cases d with
      | non =>
        intro al' H' v e2 S3 rv
        cases rv
        exact ⟨rfl, q2 al' H' _ e2 S3 (.ref (pre_get e2.pre (S1.ext_get _)))⟩
      | _ => exact q2.elim
  have hvl : (V.ref (s1.heap.objs.size + 1) :: vs).length = ps.length := by rw [List.length_cons, hl, hn]
  have rv : Vals (V.ref (s1.heap.objs.size + 1) :: vs) (Value.ref (s1.heap.objs.size + 1) :: us) := .cons rfl r
  have bind := hb _ (Value.ref (s1.heap.objs.size + 1) :: us) I2.kIn (by rw [List.append_nil, ← rv.length]; exact hvl)
  rw [List.append_nil] at bind
  have gd : (X.A.under (.builtin "type.__call__" ⟨.ref C :: us, []⟩)).guards = some [] := by
    unfold Around.under
    rw [guard]
    rfl
  refine wpAny_call (make_map (f := f) I1.kIn M.makes M.init (beq_iff_eq.mp M.fn) (codeAny_mono (G.run _ X.stack _ _ ⟨Value.ref (s1.heap.objs.size + 1) :: us, []⟩ _ _ _ _ ((room.mono hjk).make C us []) gd (I2.env0.make C us []) bind rv hvl sp) fun res s2 hc2 => ?_))
  match res, hc2 with
  | .error ex, hc2 => exact passAt tk σ pins _ _ ex s2 I2 hc2
  | .ok (.ret u), hc2 =>
    obtain ⟨v, H', I3, rv, ev, q3⟩ := I2.after hc2
    subst ev
    exact ⟨rv, ⟨V.ref (s1.heap.objs.size + 1), H', I3, rfl, q3⟩⟩
  | .ok .next, hc2 => exact hc2.elim
  | .ok .brk, hc2 => exact hc2.elim
  | .ok .cont, hc2 => exact hc2.elim
end
end Mach
end

section
set_option Elab.async false
set_option linter.all false
set_option maxRecDepth 100000
set_option maxHeartbeats 4100000
namespace Mach
open PySem PySem.Spec L2

/-! ### what is never reached -/
def gBad : GE := fun _ _ => .bad
def sBad : GS := fun _ _ => .bad
section
variable {X : Cx} {cm : Str → Option Addr} {W : WX}
theorem me_bad {e : Expr} : ME X cm W e gBad := ⟨fun _ _ _ _ _ _ h => let ⟨_, _, _, _, _, q⟩ := h; q.elim⟩
theorem ms_bad {s : Stmt} : MS X cm W s sBad := ⟨fun _ _ _ _ _ _ h => let ⟨_, _, _, _, _, q⟩ := h; q.elim⟩
end

/-! ### methods of tuples -/
def gMtT (f : D → List D → Hq → R D) (a : GE) (as : GA) : GE := fun lo h => (a lo h).bind fun x h1 => match x with
  | .tup ds => (as lo h1).bind fun es h2 => (f (.tup ds) es h2).calm
  | _ => .bad
section
variable {X : Cx} {cm : Str → Option Addr} {W : WX} {e o : Expr} {es : List Expr} {go : GE} {gs : GA} {pos apos cpos : Pos} {name : Str} {id : String} {r : V → List V → Hp → VK → Prop} {f : D → List D → Hq → R D} {to : TE} {t : TA}
def tTM (K : PySem.W.Frag) (r : V → List V → Hp → VK → Prop) (to : TE) (t : TA) : TE := fun σ H Q => to σ H fun x H1 => (∃ p xs, x = .ref p ∧ TpL K H1 p xs) ∧ t σ H1 fun ys H2 => r x ys H2 Q
theorem TpL.is {pins : List (Addr × Obj)} {σ : L2.St} {H : Hp} {s : Shared} {p : Addr} {xs : List V} (I : Inv X pins σ H s) (h : TpL X.K H p xs) : s.TypeIs (.ref p) "tuple" ∧ ∃ ob, s.heap.get? p = some ob ∧ ob.dict = none := by
  obtain ⟨row, rv, pt, _⟩ := I.tuple h.sq
  refine ⟨pt.typeIs, ?_⟩
  rcases h with ⟨b, e, hb⟩ | ⟨b, _, _, hk, _, e, _⟩
  · exact ⟨b, (I.hok p _ hb).1, e⟩
  · exact ⟨b, I.kIn p b hk, e⟩
theorem pe_tm (slot : Slot "tuple" name id) (hty : typeOf (.builtin id) = pure (.type "method_descriptor")) (hm : MtR X id r) (ho : PE X o to) (ha : PA X (e :: es) t)
    (hBase : attributeBase o name X.env (eval o X.env) = eval o X.env := by rfl)
    (hFew : ((backTo cpos (starEach (e :: es) X.env)).all (fun x => !x.1) && (backToKw cpos (keywordEach [] X.env)).all (fun x => x.1.isSome) && decide ((e :: es).length + ([] : List Keyword).length + (if ([] : List Keyword).isEmpty then 0 else 1) < 30)) = true := by rfl)
    (hLine : (apos.endLine == cpos.line) = true := by rfl) (hs : starEach (e :: es) X.env = (false, eval e X.env) :: starEach es X.env := by rfl) (hPlain : (backTo cpos (starEach es X.env)).any (·.1) = false := by rfl) :
    PE X (.Call (.Attribute o name apos) (e :: es) [] cpos) (tTM X.K r to t) := by
  refine ⟨fun pins s σ H Q I hyp => wpAny_Call_method_late hBase hFew hLine rfl (thn (ho.run pins s σ H _ I hyp) fun v s1 zz => ?_)⟩
  obtain ⟨x, H1, I1, r1, ⟨p, xs, rfl, tp⟩, q1⟩ := zz
  obtain rfl : v = Value.ref p := r1
  obtain ⟨isT, bare⟩ := tp.is I1
  refine ⟨"tuple", id, PySem.F.plainAttrs_tuple, slot, hty, isT, fun a ea => by cases ea; exact bare, ?_⟩
  have args := ha.run cpos pins s1 σ H1 _ I1 q1
  rw [hs] at args ⊢
  have noStar : ((false, eval e X.env) :: backTo cpos (starEach es X.env)).any (·.1) = false := by
    rw [List.any_cons, hPlain] <;> rfl
  exact Calls.callWith_builtin noStar (Calls.evalArgs_plain (thn args fun us s2 ⟨vs, H2, I2, r2, q2⟩ => hm pins s2 σ H2 (.ref p) vs (.ref p) us Q I2 rfl r2 q2))
theorem me_tm (hr : RMok X cm r f) (slot : Slot "tuple" name id) (hty : typeOf (.builtin id) = pure (.type "method_descriptor")) (hm : MtR X id r) (ho : ME X cm W o go) (ha : MA X cm W (e :: es) gs)
    (hBase : attributeBase o name X.env (eval o X.env) = eval o X.env := by rfl)
    (hFew : ((backTo cpos (starEach (e :: es) X.env)).all (fun x => !x.1) && (backToKw cpos (keywordEach [] X.env)).all (fun x => x.1.isSome) && decide ((e :: es).length + ([] : List Keyword).length + (if ([] : List Keyword).isEmpty then 0 else 1) < 30)) = true := by rfl)
    (hLine : (apos.endLine == cpos.line) = true := by rfl) (hs : starEach (e :: es) X.env = (false, eval e X.env) :: starEach es X.env := by rfl) (hPlain : (backTo cpos (starEach es X.env)).any (·.1) = false := by rfl) :
    ME X cm W (.Call (.Attribute o name apos) (e :: es) [] cpos) (gMtT f go gs) := by
  refine (pe_tm slot hty hm ho ha hBase hFew hLine hs hPlain).imp fun σ H Q h => ?_
  obtain ⟨al, lo, h, L, S, q⟩ := h
  refine ⟨al, lo, h, L, S, tE_bind (rel := relD X.K cm) q fun al1 h1 d v H1 e1 S1 r1 q1 => ?_⟩
  cases r1 with
  | tup hx tx =>
    refine ⟨⟨_, _, rfl, hx⟩, al1, lo, h1, L.mono e1.pre e1.keep, S1, tE_bind (rel := relA X.K cm) q1 fun al2 h2 ds vs H2 e2 S2 r2 q2 => ?_⟩
    exact hr al2 h2 H2 _ vs _ ds Q S2 ((Rel.tup hx tx).mono e2.pre e2.keep) r2 q2.calm
  | _ => exact q1.elim

/-! ### index and count, of lists and tuples of data -/
def dIndexT (x : D) : List D → Hq → R D
  | [y], h => match toP h 60 x, toP h 60 y with
    | some (.tuple qs), some p => (match qs.findIdx? fun z => PyData.eqv z p with
      | some j => .ok (.int (j : Nat)) h
      | none => .bad)
    | _, _ => .bad
  | _, _ => .bad
def dIndexL (x : D) : List D → Hq → R D
  | [y], h => match toP h 60 x, toP h 60 y with
    | some (.list qs), some p => (match qs.findIdx? fun z => PyData.eqv z p with
      | some j => .ok (.int (j : Nat)) h
      | none => .bad)
    | _, _ => .bad
  | _, _ => .bad
def dCountT (x : D) : List D → Hq → R D
  | [y], h => match toP h 60 x, toP h 60 y with
    | some (.tuple qs), some p => .ok (.int (qs.countP fun z => PyData.eqv z p : Nat)) h
    | _, _ => .bad
  | _, _ => .bad
def dCountL (x : D) : List D → Hq → R D
  | [y], h => match toP h 60 x, toP h 60 y with
    | some (.list qs), some p => .ok (.int (qs.countP fun z => PyData.eqv z p : Nat)) h
    | _, _ => .bad
  | _, _ => .bad
theorem find_at {α : Type} {f : α → Bool} {l : List α} {j : Nat} (h : l.findIdx? f = some j) : ∃ z, l[j]? = some z ∧ f z = true ∧ ∀ m z', m < j → l[m]? = some z' → f z' = false := by
  rw [List.findIdx?_eq_some_iff_getElem] at h
  obtain ⟨hl, h1, h2⟩ := h
  refine ⟨l[j], List.getElem?_eq_getElem hl, h1, fun m z' hm e => ?_⟩
  have := h2 m hm
  have e2 := (List.getElem?_eq_some_iff.mp e).2
  rw [e2] at this
  simpa using this
/-- a sequence's items as data, and what is asked of them -/
theorem items_read {pins : List (Addr × Obj)} {σ : L2.St} {H : Hp} {s : Shared} {ds : List PyData} {xs : List V} {row : List Value} {d : PyData} {y : V} {uy : Value} (I : Inv X pins σ H s) (hu : X.A.units + 65 < cLine) (ha : DpAll X.K H xs ds) (rv : Vals xs row)
    (sl : PyData.canLayAll0 ds = true) (sd : SeqAt.shaped d = true) (hy : Dp X.K H y d) (ry : RelV y uy) :
    row.length = ds.length ∧ row.map (SeqAt.readOf s.heap) = ds ∧ ∀ z, z ∈ row.toArray → SeqAt.EqAt X.A.in1 s z uy (PyData.eqv (SeqAt.readOf s.heap z) d) := by
  obtain ⟨ks, rd⟩ := Dp.readsAll I ds xs row ha rv
  obtain ⟨ms, rd2⟩ := Dp.reads I d y uy hy ry
  refine ⟨SeqAt.ReadsAll.length ds row ks rd, SeqAt.readsAll_map ds row ks sl rd, ?_⟩
  have dep := SeqAt.depth_of_shaped sd
  exact SeqAt.items_eqAt (vs := row.toArray) (show ReadsAll s.heap row.toArray.toList ds ks from rd) rd2 sl (SeqAt.canLay_of_shaped sd) (by omega)
def rIdx (K : PySem.W.Frag) (nm : Bool) : V → List V → Hp → VK → Prop := fun x xs H Q => ∃ (a : Addr) (ws : List V) (y : V) (d : PyData) (ds : List PyData) (j : Nat), x = .ref a ∧ xs = [y] ∧ (if nm = true then SqT K H a ws else SqL K H a ws) ∧ DpAll K H ws ds ∧ Dp K H y d ∧
  PyData.canLayAll0 ds = true ∧ SeqAt.shaped d = true ∧ (ds.findIdx? fun z => PyData.eqv z d) = some j ∧ Q (.int (j : Nat)) H
def rCnt (K : PySem.W.Frag) (nm : Bool) : V → List V → Hp → VK → Prop := fun x xs H Q => ∃ (a : Addr) (ws : List V) (y : V) (d : PyData) (ds : List PyData), x = .ref a ∧ xs = [y] ∧ (if nm = true then SqT K H a ws else SqL K H a ws) ∧ DpAll K H ws ds ∧ Dp K H y d ∧
  PyData.canLayAll0 ds = true ∧ SeqAt.shaped d = true ∧ Q (.int (ds.countP fun z => PyData.eqv z d : Nat)) H
section
variable (hu : X.A.units + 65 < cLine)
include hu
theorem mt_tupIdx : MtR X "tuple.index" (rIdx X.K true) := by
  intro pins s σ H x xs v us Q I rx rxs w
  obtain ⟨a, ws, y, d, ds, j, rfl, rfl, hs, ha, hy, sl, sd, hj, q⟩ := w
  cases rx
  obtain ⟨uy, rfl, ry⟩ := rxs.one
  obtain ⟨row, rv, ⟨⟨cls, dd, dt, slo⟩, ho, hc, n, hd⟩, hz⟩ := I.tuple (show SqT X.K H a ws from hs)
  simp only at hc hd
  subst hc hd
  obtain ⟨lens, maps, eqs⟩ := items_read I hu ha rv sl sd hy ry
  obtain ⟨z, ez, hit, miss⟩ := find_at hj
  have hjd := (List.getElem?_eq_some_iff.mp ez).1
  have look : ∀ m (hm : m < row.toArray.size) z', ds[m]? = some z' → SeqAt.readOf s.heap row.toArray[m] = z' := fun m hm z' e => by
    have hm' : m < row.length := by simpa using hm
    rw [← maps, List.getElem?_map, List.getElem?_eq_getElem hm'] at e
    simpa using e
  have hjs : j < row.toArray.size := by rw [List.size_toArray]; omega
  refine call_meets PySem.F.slot_tuple_index ⟨_, ho, rfl⟩ PySem.F.entry_tuple_index (PySem.F.args_tuple_index_2 _ _) (TI.tuple_indexAt a row.toArray n dd slo uy (fun u => PyData.eqv (SeqAt.readOf s.heap u) d) j hjs ?_ ?_)
    ⟨ho, eqs, ⟨.int (j : Nat), H, I.tok _, ⟨_, rfl⟩, q⟩⟩
  · show PyData.eqv (SeqAt.readOf s.heap row.toArray[j]) d = true
    rw [look j hjs z ez]; exact hit
  · intro m hm hmj
    have short : m < ds.length := by omega
    show PyData.eqv (SeqAt.readOf s.heap row.toArray[m]) d = false
    rw [look m hm _ (List.getElem?_eq_getElem short)]
    exact miss m _ hmj (List.getElem?_eq_getElem short)
theorem mt_lstIdx : MtR X "list.index" (rIdx X.K false) := by
  intro pins s σ H x xs v us Q I rx rxs w
  obtain ⟨a, ws, y, d, ds, j, rfl, rfl, hs, ha, hy, sl, sd, hj, q⟩ := w
  cases rx
  obtain ⟨uy, rfl, ry⟩ := rxs.one
  obtain ⟨row, rv, ⟨⟨cls, dd, dt, slo⟩, n, ho, hc, hn, hd⟩, hz⟩ := I.list (show SqL X.K H a ws from hs)
  simp only at hc hd
  subst hc hd
  obtain ⟨lens, maps, eqs⟩ := items_read I hu ha rv sl sd hy ry
  obtain ⟨z, ez, hit, miss⟩ := find_at hj
  have hjd := (List.getElem?_eq_some_iff.mp ez).1
  have look : ∀ m (hm : m < row.toArray.size) z', ds[m]? = some z' → SeqAt.readOf s.heap row.toArray[m] = z' := fun m hm z' e => by
    have hm' : m < row.length := by simpa using hm
    rw [← maps, List.getElem?_map, List.getElem?_eq_getElem hm'] at e
    simpa using e
  have hjs : j < row.toArray.size := by rw [List.size_toArray]; omega
  have lim := sizeLine_eq
  have long := rv.length
  refine call_meets PySem.F.slot_list_index ⟨_, ho, rfl⟩ PySem.F.entry_list_index (PySem.F.args_list_index_2 _ _) (SeqAt.list_indexAt a row.toArray n dd slo uy (fun u => PyData.eqv (SeqAt.readOf s.heap u) d) j hjs (by rw [List.size_toArray] at hjs; omega) ?_ ?_)
    ⟨ho, eqs, ⟨.int (j : Nat), H, I.tok _, ⟨_, rfl⟩, q⟩⟩
  · show PyData.eqv (SeqAt.readOf s.heap row.toArray[j]) d = true
    rw [look j hjs z ez]; exact hit
  · intro m hm hmj
    have short : m < ds.length := by omega
    show PyData.eqv (SeqAt.readOf s.heap row.toArray[m]) d = false
    rw [look m hm _ (List.getElem?_eq_getElem short)]
    exact miss m _ hmj (List.getElem?_eq_getElem short)
theorem mt_tupCnt : MtR X "tuple.count" (rCnt X.K true) := by
  intro pins s σ H x xs v us Q I rx rxs w
  obtain ⟨a, ws, y, d, ds, rfl, rfl, hs, ha, hy, sl, sd, q⟩ := w
  cases rx
  obtain ⟨uy, rfl, ry⟩ := rxs.one
  obtain ⟨row, rv, ⟨⟨cls, dd, dt, slo⟩, ho, hc, n, hd⟩, hz⟩ := I.tuple (show SqT X.K H a ws from hs)
  simp only at hc hd
  subst hc hd
  obtain ⟨lens, maps, eqs⟩ := items_read I hu ha rv sl sd hy ry
  have many : row.toArray.toList.countP (fun u => PyData.eqv (SeqAt.readOf s.heap u) d) = ds.countP fun z => PyData.eqv z d := by
    rw [← maps, List.countP_map]; rfl
  refine call_meets PySem.F.slot_tuple_count ⟨_, ho, rfl⟩ PySem.F.entry_tuple_count (PySem.F.args_tuple_count_2 _ _) (SeqAt.tuple_countAt a row.toArray n dd slo uy (fun u => PyData.eqv (SeqAt.readOf s.heap u) d)) ⟨ho, eqs, ?_⟩
  rw [many]
  exact ⟨.int (ds.countP _ : Nat), H, I.tok _, ⟨_, rfl⟩, q⟩
theorem mt_lstCnt : MtR X "list.count" (rCnt X.K false) := by
  intro pins s σ H x xs v us Q I rx rxs w
  obtain ⟨a, ws, y, d, ds, rfl, rfl, hs, ha, hy, sl, sd, q⟩ := w
  cases rx
  obtain ⟨uy, rfl, ry⟩ := rxs.one
  obtain ⟨row, rv, ⟨⟨cls, dd, dt, slo⟩, n, ho, hc, hn, hd⟩, hz⟩ := I.list (show SqL X.K H a ws from hs)
  simp only at hc hd
  subst hc hd
  obtain ⟨lens, maps, eqs⟩ := items_read I hu ha rv sl sd hy ry
  have many : row.toArray.toList.countP (fun u => PyData.eqv (SeqAt.readOf s.heap u) d) = ds.countP fun z => PyData.eqv z d := by
    rw [← maps, List.countP_map]; rfl
  refine call_meets PySem.F.slot_list_count ⟨_, ho, rfl⟩ PySem.F.entry_list_count (PySem.F.args_list_count_2 _ _) (SeqAt.list_countAt a row.toArray n dd slo uy (fun u => PyData.eqv (SeqAt.readOf s.heap u) d)) ⟨ho, eqs, ?_⟩
  rw [many]
  exact ⟨.int (ds.countP _ : Nat), H, I.tok _, ⟨_, rfl⟩, q⟩
end
theorem ok_tupIdx : RMok X cm (rIdx X.K true) dIndexT := by
  intro al h H x xs dx ds Q S rx rs q
  cases rs with
  | nil => exact q.elim
  | cons r1 rr =>
    cases rr with
    | cons _ _ => exact q.elim
    | nil =>
      simp only [dIndexT] at q
      split at q
      · rename_i qs p e1 e2
        obtain ⟨a1, a2, a3⟩ := dp_of S 60 _ _ _ e1 rx
        obtain ⟨b1, b2, b3⟩ := dp_of S 60 _ _ _ e2 r1
        have al0 : PyData.canLayAll0 qs = true := a2
        cases a1 with
        | tup hs ha => 
          split at q
          · rename_i j ej
            exact ⟨_, _, _, p, qs, j, rfl, rfl, hs, ha, b1, al0, shaped_of (by decide) b2 b3, ej, q.here S (.int _)⟩
          · exact q.elim
      · exact q.elim
theorem ok_lstIdx : RMok X cm (rIdx X.K false) dIndexL := by
  intro al h H x xs dx ds Q S rx rs q
  cases rs with
  | nil => exact q.elim
  | cons r1 rr =>
    cases rr with
    | cons _ _ => exact q.elim
    | nil =>
      simp only [dIndexL] at q
      split at q
      · rename_i qs p e1 e2
        obtain ⟨a1, a2, a3⟩ := dp_of S 60 _ _ _ e1 rx
        obtain ⟨b1, b2, b3⟩ := dp_of S 60 _ _ _ e2 r1
        have al0 : PyData.canLayAll0 qs = true := a2
        cases a1 with
        | lst hs ha => 
          split at q
          · rename_i j ej
            exact ⟨_, _, _, p, qs, j, rfl, rfl, hs, ha, b1, al0, shaped_of (by decide) b2 b3, ej, q.here S (.int _)⟩
          · exact q.elim
      · exact q.elim
theorem ok_tupCnt : RMok X cm (rCnt X.K true) dCountT := by
  intro al h H x xs dx ds Q S rx rs q
  cases rs with
  | nil => exact q.elim
  | cons r1 rr =>
    cases rr with
    | cons _ _ => exact q.elim
    | nil =>
      simp only [dCountT] at q
      split at q
      · rename_i qs p e1 e2
        obtain ⟨a1, a2, a3⟩ := dp_of S 60 _ _ _ e1 rx
        obtain ⟨b1, b2, b3⟩ := dp_of S 60 _ _ _ e2 r1
        have al0 : PyData.canLayAll0 qs = true := a2
        cases a1 with
        | tup hs ha => exact ⟨_, _, _, p, qs, rfl, rfl, hs, ha, b1, al0, shaped_of (by decide) b2 b3, q.here S (.int _)⟩
      · exact q.elim
theorem ok_lstCnt : RMok X cm (rCnt X.K false) dCountL := by
  intro al h H x xs dx ds Q S rx rs q
  cases rs with
  | nil => exact q.elim
  | cons r1 rr =>
    cases rr with
    | cons _ _ => exact q.elim
    | nil =>
      simp only [dCountL] at q
      split at q
      · rename_i qs p e1 e2
        obtain ⟨a1, a2, a3⟩ := dp_of S 60 _ _ _ e1 rx
        obtain ⟨b1, b2, b3⟩ := dp_of S 60 _ _ _ e2 r1
        have al0 : PyData.canLayAll0 qs = true := a2
        cases a1 with
        | lst hs ha => exact ⟨_, _, _, p, qs, rfl, rfl, hs, ha, b1, al0, shaped_of (by decide) b2 b3, q.here S (.int _)⟩
      · exact q.elim
end
end Mach
end

section
set_option Elab.async false
set_option linter.all false
set_option maxRecDepth 100000
set_option maxHeartbeats 4100000
namespace Mach
open PySem PySem.Spec L2

/-! ### len(set(t)), t a tuple of ints -/
def uniq : List Int → List Int
  | [] => []
  | a :: l => if a ∈ l then uniq l else a :: uniq l
theorem uniq_mem {x : Int} : ∀ {l : List Int}, x ∈ uniq l ↔ x ∈ l
  | [] => Iff.rfl
  | a :: l => by
    unfold uniq
    split
    · rename_i ha
      rw [uniq_mem, List.mem_cons]
      exact ⟨.inr, fun z => z.elim (fun e => e ▸ ha) id⟩
    · rw [List.mem_cons, uniq_mem, List.mem_cons]
theorem uniq_nodup : ∀ l : List Int, (uniq l).Nodup
  | [] => List.nodup_nil
  | a :: l => by
    unfold uniq
    split
    · exact uniq_nodup l
    · rename_i ha
      exact List.nodup_cons.mpr ⟨fun z => ha (uniq_mem.mp z), uniq_nodup l⟩
theorem uniq_len {l m : List Int} (d : m.Nodup) (h : ∀ x, x ∈ m ↔ x ∈ l) : m.length = (uniq l).length :=
  ((List.perm_ext_iff_of_nodup d (uniq_nodup l)).mpr fun x => (h x).trans uniq_mem.symm).length_eq
theorem uniq_of_nodup : ∀ {l : List Int}, l.Nodup → uniq l = l
  | [], _ => rfl
  | a :: l, h => by
    obtain ⟨h1, h2⟩ := (List.nodup_cons).mp h
    unfold uniq
    rw [if_neg h1, uniq_of_nodup h2]
def gLenSet (a : GE) : GE := fun lo h => (a lo h).bind fun x h1 => match x with
  | .tup ds => (match ds.mapM intD with
    | some ns => if ns.length ≤ 4000 then .ok (.int ((uniq ns).length : Nat)) h1 else .bad
    | none => .bad)
  | _ => .bad
section
variable {X : Cx} {cm : Str → Option Addr} {W : WX} {a : Expr} {ga : GE} {K : PySem.W.Frag} {al : List Addr} {H : Hp} {p p2 q2 pos : Pos} {ta : TE}
def tLenSetT (K : PySem.W.Frag) (ta : TE) : TE := fun σ H Q => ta σ H fun x H1 => ∃ (l : Addr) (ns : List Int), x = .ref l ∧ SqT K H1 l (ns.map V.int) ∧ ns.length ≤ 4000 ∧ Q (.int ((uniq ns).length : Nat)) H1
theorem pe_lenSetT (calm : X.calm = true) (hg : Gl X "len") (hm : X.mg "len" = none) (hg2 : Gl X "set") (hm2 : X.mg "set" = none) (ha : PE X a ta) (na : starEach [a] X.env = (false, eval a X.env) :: starEach [] X.env) :
    PE X (.Call (.Name "len" p) [.Call (.Name "set" p2) [a] [] q2] [] pos) (tLenSetT X.K ta) := by
  refine ⟨fun pins s σ H Q I hyp => PyProof.Rows.Call_ (ld_blt I hg hm PySem.boot_len (PyProof.Rows.callWith_builtin1 (PyProof.Rows.args_cons ?_ rfl) rfl rfl))⟩
  refine PyProof.Rows.Call_ (ld_blt I hg2 hm2 PyProof.Rows.boot_set (PyProof.Rows.callWith_type1 (PyProof.Rows.args_cons (thn (ha.run pins s σ H _ I hyp) fun v s1 zz => PyProof.Rows.args_nil ?_) na) na rfl))
  obtain ⟨x, H1, I1, r1, l, ns, rfl, hT, hl, q1⟩ := zz
  cases r1
  obtain ⟨row, rv, pt, hz⟩ := I1.tuple hT
  refine _root_.L2.call_set_tupI ns (I1.ok.hd calm) (show s1.heap.IsTuple l row.toArray from pt) (by simpa using intsAre_of rv) (by unfold scanBound; omega) fun h1 tk c hS hc kp => PyProof.Rows.args_nil ?_
  obtain ⟨o, es, ep, t, ho, hex, hd, _, nd, mem, _, hf, hn, _⟩ := hS
  have many : es.size = (uniq ns).length := by
    have := uniq_len (l := ns) nd fun k => by rw [← mem k]; simp
    simpa using this
  have I2 : Inv X pins σ H1 { s1 with heap := h1, toks := tk } := I1.kept kp
  exact call_len_set ho hex hd hf (by omega) ⟨.int es.size, H1, I2.tok _, ⟨_, rfl⟩, by rw [many]; exact q1⟩
theorem me_lenSet (calm : X.calm = true) (hg : Gl X "len") (hm : X.mg "len" = none) (hg2 : Gl X "set") (hm2 : X.mg "set" = none) (ha : ME X cm W a ga) (na : starEach [a] X.env = (false, eval a X.env) :: starEach [] X.env := by rfl) :
    ME X cm W (.Call (.Name "len" p) [.Call (.Name "set" p2) [a] [] q2] [] pos) (gLenSet ga) := by
  refine (pe_lenSetT calm hg hm hg2 hm2 ha na).imp fun σ H Q h => ?_
  obtain ⟨al, lo, h, L, S, q⟩ := h
  refine ⟨al, lo, h, L, S, tE_bind (rel := relD X.K cm) q fun al1 h1 d v H1 e1 S1 r1 q1 => ?_⟩
  cases r1 with
  | tup hx tx =>
    simp only at q1
    split at q1
    · rename_i ns en
      split at q1
      · rename_i hl
        have ev := ints_of tx en
        subst ev
        exact ⟨_, ns, rfl, hx.sq, hl, q1.here S1 (.int _)⟩
      · exact q1.elim
    · exact q1.elim
  | _ => exact q1.elim
end
end Mach
end

section
set_option Elab.async false
set_option linter.all false
set_option maxRecDepth 100000
set_option maxHeartbeats 4100000
/-! zip(tuple, list): each pair tracked with the very object that it is. -/
namespace Mach
open PySem PySem.Spec L2
def twoO (u v : Value) : Obj := { cls := .type "tuple", data := .seq #[u, v] }
theorem two_ok {P : Program} {w : World} {H0 : Hp} {h2 : Heap} {a : Addr} {u v : Value} {x y : V} (hg : h2.get? a = some (twoO u v)) (ru : RelV x u) (rv : RelV y v) : ObjOk P w H0 h2 a (.frz (twoO u v) (.tup [x, y])) :=
  ⟨hg, by show 2 ≤ sizeLine; decide, [u, v], .cons ru (.cons rv .nil), ⟨_, hg, rfl, _, rfl⟩⟩
/-- the tuple at a beside the list at b -/
def Itzp (K : PySem.W.Frag) (a b : Addr) : It :=
  ⟨fun i H => ∃ (xs ys : List V) (x y : V), SqT K H a xs ∧ SqL K H b ys ∧ xs[i]? = some x ∧ ys[i]? = some y,
   fun i H v H' => ∃ (T : Addr) (ob : Obj) (x y : V), v = .ref T ∧ H T = none ∧ ob.dict = none ∧ H' = upd H T (.frz ob (.tup [x, y])) ∧ (∀ xs, SqT K H a xs → xs[i]? = some x) ∧ ∀ ys, SqL K H b ys → ys[i]? = some y,
   fun i H => ∃ xs ys : List V, SqT K H a xs ∧ SqL K H b ys ∧ i ≤ xs.length ∧ i ≤ ys.length ∧ (i = xs.length ∨ i = ys.length)⟩
theorem sep_of {z TI TO i1 i2 a b : Addr} (D : ZipApart z TI TO i1 i2 a b) : ZipSep2 z TI TO i1 i2 [i1, a] [i2, b] where
  TIz := D.TIz
  TOz := D.TOz
  TITO := D.TITO
  TIi1 := D.TIi1
  mem1 := by simp
  zf1 := by simp [Ne.symm D.i1z, Ne.symm D.l1z]
  Tf1 := by simp [D.TOi1, Ne.symm D.l1TO]
  TIi2 := D.TIi2
  mem2 := by simp
  zf2 := by simp [Ne.symm D.i2z, Ne.symm D.l2z]
  Tf2 := by simp [D.TOi2, Ne.symm D.l2TO]
  sep1_2 := by simp [D.i12, Ne.symm D.l2i1]
  sep2_1 := by simp [Ne.symm D.i12, Ne.symm D.l1i2]
theorem five {c z TI TO i1 i2 : Addr} (h : c ∈ [z, TI, TO, i1, i2]) : c = z ∨ c = TI ∨ c = TO ∨ c = i1 ∨ c = i2 := by simpa using h
theorem turn_zp {P : Program} {w : World} {K : PySem.W.Frag} {elts : List Expr} {kk : Nat} {tpos : Pos} {a b z TI TO i1 i2 : Addr} (D : ZipApart z TI TO i1 i2 a b) :
    Turn P w K (.Tuple elts kk tpos) (Itzp K a b) [z, TI, TO, i1, i2] z (fun i h => IsZip h z TI TO .none ∧ IsTupOf2 h TI (.ref i1) (.ref i2) ∧ (∃ x y, IsTupOf2 h TO x y) ∧ h.IsTupleIter i1 a i ∧ h.IsListIter i2 b i) where
  mem := by simp
  obj := fun i h st c hc => by
    obtain ⟨zs, tI, ⟨x, y, tO⟩, ⟨oa, ea, _, da⟩, ⟨ob, eb, _, db⟩⟩ := st
    rcases five hc with q | q | q | q | q <;> subst q
    · exact ⟨_, zs, fun v q => nomatch q⟩
    · exact ⟨_, tI, fun v q => nomatch q⟩
    · exact ⟨_, tO, fun v q => nomatch q⟩
    · exact ⟨oa, ea, fun v q => by rw [da] at q; cases q⟩
    · exact ⟨ob, eb, fun v q => by rw [db] at q; cases q⟩
  keep := fun i h h' st kp => by
    obtain ⟨zs, tI, ⟨x, y, tO⟩, ia, ib⟩ := st
    exact ⟨kp z (by simp) _ zs, kp TI (by simp) _ tI, ⟨x, y, kp TO (by simp) _ tO⟩, ia.at fun o q => kp i1 (by simp) o q, ib.at fun o q => kp i2 (by simp) o q⟩
  item := by
    intro X eP eW eK calm i pins s σ H E I hFp st hg
    subst eP eW eK
    obtain ⟨zs, tI, ⟨x0, y0, tO⟩, ia, ib⟩ := st
    obtain ⟨xs, ys, x, y, sx, sy, hx, hy⟩ := hg
    obtain ⟨ra, va, pa, _⟩ := I.tuple sx
    obtain ⟨rb, vb, pb, _⟩ := I.list sy
    obtain ⟨u, hu, ru⟩ := va.get hx
    obtain ⟨v, hv, rv⟩ := vb.get hy
    have la : i < ra.toArray.size := by have := (List.getElem?_eq_some_iff.mp hu).1; simpa using this
    have lb : i < rb.toArray.size := by have := (List.getElem?_eq_some_iff.mp hv).1; simpa using this
    have zl : z < s.heap.objs.size := Heap.lt_size zs
    refine wpAny_pyNext_zipD2_item (A := X.A) (sep_of D) (Draws.tuple (A := X.A.in1) (I.ok.hd calm) i1 a D.l1i1 ra.toArray) (Draws.list (A := X.A.in1) (I.ok.hd calm) i2 b D.l2i2 rb.toArray) zs tI tO ⟨ia, pa⟩ ⟨ib, pb.isList⟩ la lb fun x1 x2 h1 tk e1 e2 z1 t1 sa sb pair size keep => ?_
    have e1 : x1 = u := by
      have : ra[i]? = some x1 := by simpa using e1
      rw [hu] at this; exact (Option.some.inj this).symm
    have e2 : x2 = v := by
      have : rb[i]? = some x2 := by simpa using e2
      rw [hv] at this; exact (Option.some.inj this).symm
    subst e1 e2
    refine ⟨_, rfl, wpAny_letOwnedTupleGo_zip (s := { s with heap := h1, toks := tk }) z1 fun h2 z2 but => ?_⟩
    have pair2 : h2.get? s.heap.objs.size = some (twoO x1 x2) := (but.2 _ (Nat.ne_of_gt zl)).trans pair
    have old : ∀ c ob, c ∉ [z, TI, TO, i1, i2] → s.heap.get? c = some ob → h2.get? c = some ob := fun c ob hc q =>
      (but.2 c fun e => hc (by simp [e])).trans (keep c ob (fun e => hc (by simp [e])) (fun e => hc (by simp [e])) (fun e => hc (by simp [e])) (fun e => hc (by simp [e])) q)
    have J := I.turnedNew (ch := [z, TI, TO, i1, i2]) (t' := tk) old hFp (Nat.le_refl _) (two_ok (P := X.prog) (w := X.w) (H0 := upd H s.heap.objs.size (.frz (twoO x1 x2) (.tup [x, y]))) pair2 ru rv)
    refine ⟨.ref s.heap.objs.size, _, J, rfl, ⟨_, _, x, y, rfl, I.hok.fresh (Nat.le_refl _), rfl, rfl, fun l hl => by rw [I.tuple_inj hl sx]; exact hx, fun l hl => by rw [I.list_inj hl sy]; exact hy⟩,
      ⟨z2, (but.2 _ D.TIz).trans (keep _ _ D.TIz D.TITO D.TIi1 D.TIi2 tI), ⟨x1, x2, (but.2 _ D.TOz).trans t1⟩, sa.1.at fun o q => (but.2 _ D.i1z).trans q, sb.1.at fun o q => (but.2 _ D.i2z).trans q⟩, fun c hc => ?_⟩
    have under : c < s.heap.objs.size := by
      rcases five hc with q | q | q | q | q <;> subst q
      · exact zl
      · exact Heap.lt_size tI
      · exact Heap.lt_size tO
      · obtain ⟨_, e, _⟩ := ia; exact Heap.lt_size e
      · obtain ⟨_, e, _⟩ := ib; exact Heap.lt_size e
    rw [upd_ne (Nat.ne_of_lt under)]
    exact (hFp c hc).1
  done := by
    intro X eP eW eK calm i pins s σ H E I hFp st hg
    subst eP eW eK
    obtain ⟨zs, tI, ⟨x0, y0, tO⟩, ia, ib⟩ := st
    obtain ⟨xs, ys, sx, sy, l1, l2, stop⟩ := hg
    obtain ⟨ra, va, pa, _⟩ := I.tuple sx
    obtain ⟨rb, vb, pb, _⟩ := I.list sy
    have ea := va.length
    have eb := vb.length
    have za : ra.toArray.size = xs.length := by simp; omega
    have zb : rb.toArray.size = ys.length := by simp; omega
    refine wpAny_pyNext_zipD2_end (A := X.A) (sep_of D) (Draws.tuple (A := X.A.in1) (I.ok.hd calm) i1 a D.l1i1 ra.toArray) (Draws.list (A := X.A.in1) (I.ok.hd calm) i2 b D.l2i2 rb.toArray) zs tI tO ⟨ia, pa⟩ ⟨ib, pb.isList⟩ (by omega) (by omega) (by omega) fun h1 tk keep => ?_
    refine ⟨rfl, I.turnedL (t' := tk) (ch := [z, TI, TO, i1, i2]) (fun c o hc q => keep c o (fun e => hc (by simp [e])) (fun e => hc (by simp [e])) (fun e => hc (by simp [e])) (fun e => hc (by simp [e])) q) hFp⟩
  self := fun A i s0 Q E here goal => wpAny_pyIter_zip (s := s0) here.1 goal
def iZipZ (K : PySem.W.Frag) (ta : TA) : TI := fun σ H R => ta σ H fun vs H1 => ∃ a b xs ys, vs = [.ref a, .ref b] ∧ SqT K H1 a xs ∧ SqL K H1 b ys ∧ R (Itzp K a b) H1
theorem pi_zp {X : Cx} {e e2 : Expr} {ta : TA} {p pos tpos : Pos} {elts : List Expr} {kk : Nat} (hg : Gl X "zip") (hm : X.mg "zip" = none) (ha : PA X [e, e2] ta)
    (hs : starEach [e, e2] X.env = (false, eval e X.env) :: starEach [e2] X.env := by rfl)
    (plain : (backTo pos (starEach [e2] X.env)).any (·.1) = false := by rfl) :
    PI X (.Tuple elts kk tpos) (.Call (.Name "zip" p) [e, e2] [] pos) (iZipZ X.K ta) := by
  refine ⟨fun pins s σ H R I hyp => ?_⟩
  refine PyProof.Rows.Call_ (ld_blt I hg hm PyProof.Rows.boot_zip (PyProof.Rows.callWith_type1 (thn (ha.run pos pins s σ H _ I hyp) fun us s1 zz => ?_) hs plain))
  obtain ⟨vs, H1, I1, rv1, a, b, xs, ys, rfl, sx, sy, q⟩ := zz
  cases rv1 with
  | cons r rr =>
    cases rr with
    | cons r' rr =>
      cases rr
      cases r
      cases r'
      obtain ⟨ra, va, pa, _⟩ := I1.tuple sx
      obtain ⟨rb, vb, pb, _⟩ := I1.list sy
      have at_a : s1.heap.IsTuple a ra.toArray := pa
      have lta : a < s1.heap.objs.size := by obtain ⟨o, ho, _⟩ := at_a; exact Heap.lt_size ho
      refine zip_begins2 (begins_tuple a ra.toArray) (begins_list b rb.toArray) pa pb.isList fun h1 zs tI tO ga gb size keep => wpAny_pyIter_zip zs ?_
      have above : ∀ c ∈ [s1.heap.objs.size + 4, s1.heap.objs.size + 2, s1.heap.objs.size + 3, s1.heap.objs.size, s1.heap.objs.size + 1], s1.heap.objs.size ≤ c := fun c hc => by
        rcases five hc with q | q | q | q | q <;> rw [q] <;> first | exact Nat.le_add_right _ _ | exact Nat.le_refl _
      exact ⟨s1.heap.objs.size + 4, [s1.heap.objs.size + 4, s1.heap.objs.size + 2, s1.heap.objs.size + 3, s1.heap.objs.size, s1.heap.objs.size + 1], _, _, H1, rfl, I1.kept (t' := s1.toks) keep,
        turn_zp (PySem.W.ktu_apart s1.heap.objs.size a b lta pb.lt), ⟨zs, tI, ⟨_, _, tO⟩, ⟨_, ga, rfl, rfl⟩, ⟨_, gb, rfl, rfl⟩⟩, fun c hc => I1.fpOk (above c hc) (I1.hok.fresh (above c hc)), q⟩
section
variable {X : Cx} {cm : Str → Option Addr} {W : WX} {e e2 : Expr} {pos : Pos} {gs : GA} {K : PySem.W.Frag} {al : List Addr} {H : Hp}
theorem itR_zp {ds : List D} {vs : List V} {a b : Addr} {r : Nat} (hx : SqT K H a vs) (t : Rels K cm al H ds vs) (hb : al[r]? = some b) : ItR K cm al H (.zpl ds r) (Itzp K a b) := by
  intro al1 H1 h1 i e S
  have hTu := e.keep.sqT hx
  have hb1 := pre_get e.pre hb
  have t1 := t.mono e.pre e.keep
  refine ⟨fun q => ?_, fun d q => ?_⟩
  · simp only [Src.at] at q
    split at q
    · rename_i es eh
      obtain ⟨ws, hw, tw⟩ := S.lstOf eh hb1
      split at q
      · rename_i hl
        have q : (ds[i]?.bind fun x => es[i]?.map fun y => D.tup [x, y]) = none := Option.some.inj q
        have n1 := t.length
        have n2 := tw.length
        refine ⟨vs, ws, hTu, SqL.of hw, by omega, by omega, ?_⟩
        by_cases l1 : i < ds.length
        · by_cases l2 : i < es.length
          · rw [List.getElem?_eq_getElem l1, List.getElem?_eq_getElem l2] at q
            cases q
          · exact .inr (by omega)
        · exact .inl (by omega)
      · cases q
    · cases q
  · simp only [Src.at] at q
    split at q
    · rename_i es eh
      obtain ⟨ws, hw, tw⟩ := S.lstOf eh hb1
      split at q
      case isFalse => cases q
      have q : (ds[i]?.bind fun x => es[i]?.map fun y => D.tup [x, y]) = some d := Option.some.inj q
      obtain ⟨d1, e1, q⟩ := Option.bind_eq_some_iff.mp q
      obtain ⟨d2, e2, rfl⟩ := Option.map_eq_some_iff.mp q
      obtain ⟨v1, f1, r1⟩ := t1.get e1
      obtain ⟨v2, f2, r2⟩ := tw.get e2
      refine ⟨⟨vs, ws, v1, v2, hTu, SqL.of hw, f1, f2⟩, fun x H2 y => ?_⟩
      obtain ⟨T, ob, x1, x2, rfl, hT, nd, rfl, y1, y2⟩ := y
      have z1 := y1 vs hTu
      rw [f1] at z1; cases z1
      have z2 := y2 ws (SqL.of hw)
      rw [f2] at z2; cases z2
      exact ⟨Keep.new hT, keep_yld S hT, .tup (TpL.new nd) (.cons (r1.mono (List.prefix_refl _) (Keep.new hT)) (.cons (r2.mono (List.prefix_refl _) (Keep.new hT)) .nil))⟩
    · cases q
def iZpG (a : GA) : GI := fun lo h => (a lo h).bind fun x h1 => match x with
  | [.tup ds, .ref r] => (match h1[r]? with
    | some (.lst _) => .ok (.zpl ds r) h1
    | _ => .bad)
  | _ => .bad
theorem mi_zp {p tpos : Pos} {elts : List Expr} {kk : Nat} (hg : Gl X "zip") (hm : X.mg "zip" = none) (ha : MA X cm W [e, e2] gs) (hs : starEach [e, e2] X.env = (false, eval e X.env) :: starEach [e2] X.env := by rfl) (hpl : (backTo pos (starEach [e2] X.env)).any (·.1) = false := by rfl) : MI X cm W (.Tuple elts kk tpos) (.Call (.Name "zip" p) [e, e2] [] pos) (iZpG gs) := by
  refine (pi_zp hg hm ha hs hpl).imp fun σ H R h => ?_
  obtain ⟨al, lo, h, L, S, q⟩ := h
  refine ⟨al, lo, h, L, S, tE_bind (rel := relA X.K cm) q fun al1 h1 ds vs H1 e1 S1 r1 qq => ?_⟩
  cases r1 with
  | nil => exact qq.elim
  | cons ra rr =>
    cases rr with
    | nil => cases ra <;> exact qq.elim
    | cons rb rr =>
      cases rr with
      | cons _ _ => cases ra <;> cases rb <;> exact qq.elim
      | nil =>
        cases ra with
        | tup hx t =>
          cases rb with
          | ref hr =>
            simp only at qq
            split at qq
            · rename_i es eh
              obtain ⟨ws, hw, tw⟩ := S1.lstOf eh hr
              exact ⟨_, _, _, ws, rfl, hx.sq, SqL.of hw, qq.here S1 (itR_zp hx.sq t hr)⟩
            · exact qq.elim
          | _ => exact qq.elim
        | _ => exact qq.elim
end
end Mach
end

section
set_option Elab.async false
set_option linter.all false
set_option maxRecDepth 100000
set_option maxHeartbeats 4100000
/-! sorted(a list), its items data that are alike. -/
namespace Mach
open PySem PySem.Spec L2
open PySem.W (AllAlike Sortable dataLe EachIs alike)
section
variable {X : Cx} {cm : Str → Option Addr} {K : PySem.W.Frag} {al : List Addr} {H : Hp} {h : Hq}
/-- an item: what it is in the text's own heap, and as data -/
abbrev VP := V × PyData
def rSorted (K : PySem.W.Frag) : List V → Hp → VK → Prop := fun xs H Q => ∃ (a : Addr) (bs : List VP), xs = [.ref a] ∧ SqL K H a (bs.map (·.1)) ∧ (∀ b ∈ bs, Dp K H b.1 b.2 ∧ b.2.depth ≤ 60) ∧ AllAlike (bs.map (·.2)) ∧ Sortable (bs.map (·.2)) ∧
  ∀ p, H p = none → Q (.ref p) (upd H p (.lst ((bs.mergeSort (dataLe false (·.2))).map (·.1))))
theorem each_of {R : Value → VP → Prop} : ∀ {bs : List VP} {us : List Value}, Vals (bs.map (·.1)) us → (∀ b ∈ bs, ∀ u, RelV b.1 u → R u b) → EachIs R us bs
  | [], _, r, k => by cases r; exact .nil
  | b :: bs, _, r, k => by
    cases r with
    | cons r1 r2 => exact .cons (k b (by simp) _ r1) (each_of r2 fun b' hb => k b' (List.mem_cons_of_mem _ hb))
theorem vals_of : ∀ {bs : List VP} {us : List Value}, EachIs (fun u (b : VP) => RelV b.1 u) us bs → Vals (bs.map (·.1)) us
  | _, _, .nil => .nil
  | _, _, .cons a b => .cons a (vals_of b)
theorem c_sorted (hu : X.A.units + 64 < cLine) : CallR X (.builtin "sorted") (rSorted X.K) := by
  intro pins s σ H xs us Q I rs hyp
  obtain ⟨a, bs, rfl, hs, hd, alk, srt, q⟩ := hyp
  obtain ⟨row, rv, pl, hz⟩ := I.list hs
  rw [Vals.ref1 rs]
  have e : EachIs (fun u (b : VP) => RelV b.1 u) row bs := each_of rv fun _ _ _ r => r
  have er : EachIs (fun u (b : VP) => ∃ as, Reads s.heap u b.2 as) row bs := each_of rv fun b hb u r => Dp.reads I b.2 b.1 u (hd b hb).1 r
  refine PySem.W.sorted_data (enc := fun b : VP => b.2) pl.isList e er alk srt (by rw [List.length_map] at hz; exact hz) (fun b hb => by have := (hd b hb).2; omega) fun out ho eo => ?_
  obtain ⟨ep, at1⟩ := PyProof.Rows.sortedAll_at s.heap row out.toArray
  have vo := vals_of eo
  have hlen : ((bs.mergeSort (dataLe false fun b : VP => b.2)).map (·.1)).length ≤ sizeLine := by
    rw [List.length_map, List.length_mergeSort]
    rw [List.length_map] at hz
    exact hz
  exact ⟨.ref _, upd H (s.heap.objs.size + 1) (.lst ((bs.mergeSort (dataLe false fun b : VP => b.2)).map (·.1))), I.laid (t' := s.toks) (fun _ _ => PyProof.Rows.sortedAll_old) (Nat.le_succ _) ⟨hlen, out, ep, vo, by simpa using at1⟩, rfl, q _ (I.hok.fresh (Nat.le_succ _))⟩
def alikeB (ps : List PyData) : Bool := ps.all fun p => ps.all fun q => alike p q
def fullT : PyData → Bool
  | .tuple (_ :: _) => true
  | _ => false
def plainB : PyData → Bool
  | .none => false
  | .tuple _ => false
  | _ => true
def sortOk (ps : List PyData) : Bool := alikeB ps && (ps.all fullT || ps.all plainB)
theorem sortOk_of {ps : List PyData} (e : sortOk ps = true) : AllAlike ps ∧ Sortable ps := by
  unfold sortOk alikeB at e
  rw [Bool.and_eq_true, Bool.or_eq_true, List.all_eq_true, List.all_eq_true, List.all_eq_true] at e
  refine ⟨fun p hp q hq => by
    have := e.1 p hp
    rw [List.all_eq_true] at this
    exact this q hq, ?_⟩
  rcases e.2 with z | z
  · refine .inl fun p hp => ?_
    have := z p hp
    cases p with
    | tuple xs =>
      cases xs with
      | nil => simp [fullT] at this
      | cons x1 r1 => exact ⟨x1, r1, rfl⟩
    | _ => simp [fullT] at this
  · refine .inr fun p hp => ?_
    have := z p hp
    cases p with
    | none => simp [plainB] at this
    | tuple xs => simp [plainB] at this
    | _ => exact ⟨(fun z => by cases z), (fun _ z => by cases z)⟩
def sortD (ds : List D) (ps : List PyData) : List D := ((ds.zip ps).mergeSort (dataLe false fun b : D × PyData => b.2)).map (·.1)
def dSorted : List D → Hq → R D
  | [x], h => match listD h x with
    | some ds => match ds.mapM (toP h 60) with
      | some ps => if sortOk ps = true then newL (sortD ds ps) h else .bad
      | none => .bad
    | none => .bad
  | _, _ => .bad
abbrev DVP := D × V × PyData
theorem three_of {n : Nat} (S : Sim K cm al h H) : ∀ {ds : List D} {vs : List V} {ps : List PyData}, Rels K cm al H ds vs → ds.mapM (toP h n) = some ps → ∃ zs : List DVP, zs.map (·.1) = ds ∧ zs.map (·.2.1) = vs ∧ zs.map (·.2.2) = ps ∧ ∀ z ∈ zs, Rel K cm al H z.1 z.2.1 ∧ Dp K H z.2.1 z.2.2 ∧ z.2.2.depth ≤ n
  | [], _, _, r, e => by
    cases r
    simp at e
    subst e
    exact ⟨[], rfl, rfl, rfl, fun _ z => nomatch z⟩
  | d :: ds, _, _, r, e => by
    cases r with
    | cons r1 rr =>
      rename_i v vs
      rw [List.mapM_cons] at e
      cases h1 : toP h n d with
      | none => rw [h1] at e; simp at e
      | some p =>
        cases h2 : ds.mapM (toP h n) with
        | none => rw [h1, h2] at e; simp at e
        | some ps =>
          rw [h1, h2] at e
          simp at e
          subst e
          obtain ⟨zs, e1, e2, e3, e4⟩ := three_of S rr h2
          obtain ⟨g1, g2, g3⟩ := dp_of S n d v p h1 r1
          refine ⟨(d, v, p) :: zs, by rw [List.map_cons, e1], by rw [List.map_cons, e2], by rw [List.map_cons, e3], fun z hz => ?_⟩
          rcases (List.mem_cons).mp hz with rfl | hz
          · exact ⟨r1, g1, g3⟩
          · exact e4 z hz
theorem rels_map : ∀ {zs : List DVP}, (∀ z ∈ zs, Rel K cm al H z.1 z.2.1) → Rels K cm al H (zs.map (·.1)) (zs.map (·.2.1))
  | [], _ => .nil
  | z :: zs, k => .cons (k z (by simp)) (rels_map fun y hy => k y (List.mem_cons_of_mem _ hy))
theorem zip_maps {α β γ : Type} {f : α → β} {g : α → γ} : ∀ zs : List α, (zs.map f).zip (zs.map g) = zs.map fun z => (f z, g z)
  | [] => rfl
  | z :: zs => by rw [List.map_cons, List.map_cons, List.zip_cons_cons, zip_maps zs, List.map_cons]
theorem ok_sorted : RCok X cm (rSorted X.K) dSorted := by
  intro al h H xs ds Q S rs q
  cases rs with
  | nil => exact q.elim
  | cons r1 rr =>
    cases rr with
    | cons _ _ => exact q.elim
    | nil =>
      rename_i d v
      simp only [dSorted] at q
      cases e : listD h d with
      | none => rw [e] at q; exact q.elim
      | some es =>
        rw [e] at q
        simp only at q
        cases ep : es.mapM (toP h 60) with
        | none => rw [ep] at q; exact q.elim
        | some ps =>
          rw [ep] at q
          simp only at q
          split at q
          · rename_i hk
            obtain ⟨a, vs, rfl, hs, t⟩ := listD_of S r1 e
            obtain ⟨zs, e1, e2, e3, e4⟩ := three_of S t ep
            obtain ⟨alk, srt⟩ := sortOk_of hk
            have m1 : (zs.mergeSort (dataLe false fun z : DVP => z.2.2)).map (·.1) = sortD es ps := by
              unfold sortD
              rw [← e1, ← e3, zip_maps, ← List.map_mergeSort (r := dataLe false fun z : DVP => z.2.2) (f := fun z : DVP => (z.1, z.2.2)) (fun _ _ _ _ => rfl), List.map_map]
              rfl
            have m2 : (zs.mergeSort (dataLe false fun z : DVP => z.2.2)).map (·.2.1) = ((zs.map fun z => ((z.2.1, z.2.2) : VP)).mergeSort (dataLe false fun b : VP => b.2)).map (·.1) := by
              rw [← List.map_mergeSort (r := dataLe false fun z : DVP => z.2.2) (f := fun z : DVP => ((z.2.1, z.2.2) : VP)) (fun _ _ _ _ => rfl), List.map_map]
              rfl
            have rels : Rels X.K cm al H (sortD es ps) (((zs.map fun z => ((z.2.1, z.2.2) : VP)).mergeSort (dataLe false fun b : VP => b.2)).map (·.1)) := by
              rw [← m1, ← m2]
              exact rels_map fun z hz => (e4 z (List.mem_mergeSort.mp hz)).1
            obtain ⟨_, q⟩ := Post.newL q S rels
            refine ⟨a, zs.map fun z => (z.2.1, z.2.2), rfl, ?_, ?_, ?_, ?_, q⟩
            · rw [List.map_map]
              rw [← e2] at hs
              exact hs
            · intro b hb
              obtain ⟨z, hz, rfl⟩ := List.mem_map.mp hb
              exact (e4 z hz).2
            · rw [List.map_map, show ((fun x : VP => x.2) ∘ fun z : DVP => ((z.2.1, z.2.2) : VP)) = fun z : DVP => z.2.2 from rfl, e3]
              exact alk
            · rw [List.map_map, show ((fun x : VP => x.2) ∘ fun z : DVP => ((z.2.1, z.2.2) : VP)) = fun z : DVP => z.2.2 from rfl, e3]
              exact srt
          · exact q.elim
end
end Mach
end

section
set_option Elab.async false
set_option linter.all false
set_option maxRecDepth 100000
set_option maxHeartbeats 4100000
/-! comprehensions of two clauses. -/
namespace Mach
open PySem PySem.Spec L2
def compL2 (src : Src) (t : Tg) (cs : GT) (gi1 : GI) (t1 : Tg) (vs1 : List Nat) (cs1 : GT) (elt : GE) (r : Nat) : Nat → Nat → Lo → Hq → R Unit
  | 0, i, _, h => match src.at i h with
    | some none => .ok () h
    | _ => .bad
  | n + 1, i, lo, h => match src.at i h with
    | some none => .ok () h
    | some (some d) => match t.f d lo with
      | none => .bad
      | some lo1 => (cs lo1 h).calm.bind fun b h1 => if b = true then ((gi1 lo1 h1).calm.bind fun src1 h2 => (compL src1 t1 cs1 elt r (src1.cnt h2) 0 (wipeLo lo1 vs1) h2).bind fun _ h3 => compL2 src t cs gi1 t1 vs1 cs1 elt r n (i + 1) lo h3)
        else compL2 src t cs gi1 t1 vs1 cs1 elt r n (i + 1) lo h1
    | none => .bad
def gComp2 (gi : GI) (t : Tg) (vs : List Nat) (cs : GT) (gi1 : GI) (t1 : Tg) (vs1 : List Nat) (cs1 : GT) (elt : GE) : GE := fun lo h => (gi lo h).bind fun src h1 =>
  (compL2 src t cs gi1 t1 vs1 cs1 elt h1.length (src.cnt h1) 0 (wipeLo lo vs) (h1 ++ [.lst []])).bind fun _ h2 => .ok (.ref h1.length) h2
theorem bind_bind {α β γ : Type} (x : R α) (f : α → Hq → R β) (g : β → Hq → R γ) : (x.bind f).bind g = x.bind fun a h => (f a h).bind g := by
  cases x <;> rfl
section
variable {X : Cx} {cm : Str → Option Addr} {W : WX} {elt tg iter tg1 iter1 : Expr} {pos : Pos} {gi gi1 : GI} {t t1 : Tg} {ifs ifs1 : List Expr} {cs cs1 : GT} {ge : GE} {scope : Scope} {own : List (Str × Nat)} {vs1 : List Nat}
theorem comp_imp2 {σ : L2.St} {H : Hp} {Q : VK} (hv : ∀ j ∈ t.vs, j ∈ own.map (·.2)) (hv1 : ∀ j ∈ t1.vs, j ∈ vs1) (h : tE X.K cm W (gComp2 gi t (own.map (·.2)) cs gi1 t1 vs1 cs1 ge) σ H Q) :
    tLc2 (tI X.K cm W gi) (t.g X.K) (tTe X.K cm W0 cs) (tI X.K cm W0 gi1) (t1.g X.K) (tTe X.K cm W0 cs1) (tE X.K cm W0 ge) (own.map (·.2)) vs1 σ H Q := by
  obtain ⟨al, lo, h, L, S, q⟩ := h
  refine ⟨al, lo, h, L, S, tE_bind (rel := ItR X.K cm) q fun al1 h1 src J H1 e1 S1 r1 q1 => fun Dl hD => ?_⟩
  have eN : Ext al1 H1 (al1 ++ [Dl]) (upd H1 Dl (.lst [])) := ⟨List.prefix_append _ _, Keep.new hD⟩
  generalize hlw : wipeLo lo (own.map (·.2)) = lw at q1
  generalize hrr : h1.length = rr at q1
  have L0 := ((L.mono e1.pre e1.keep).mono eN.pre eN.keep).wipe (own.map (·.2))
  rw [hlw] at L0
  have at0 : (al1 ++ [Dl])[rr]? = some Dl := by rw [← hrr]; exact S1.ext_get Dl
  have S0 : Sim X.K cm (al1 ++ [Dl]) (h1 ++ [.lst []]) (upd H1 Dl (.lst [])) := S1.new hD .nil
  refine ⟨fun i m H => ∃ al h, ItR X.K cm al H src J ∧ LoR X.K cm al H lw (L2.wipe σ (own.map (·.2))) ∧ Sim X.K cm al h H ∧ al[rr]? = some Dl ∧
    Post X.K cm (relD X.K cm) al H Q (fun c d H' => W c d σ H') ((compL2 src t cs gi1 t1 vs1 cs1 ge rr m i lw h).bind fun _ h2 => .ok (.ref rr) h2),
    ⟨_, al1 ++ [Dl], _, r1.later eN, L0, S0, at0, Post.later eN q1⟩, ?_⟩
  intro i m H hw
  obtain ⟨al, h, r, L, S, ea, q⟩ := hw
  have J1 := r al H h i (Ext.refl _ _) S
  cases m with
  | zero =>
    unfold compL2 at q
    cases e : src.at i h with
    | none => rw [e] at q; exact q.elim
    | some o =>
      rw [e] at q
      cases o with
      | none => exact .inl ⟨J1.1 e, q.here S (.ref ea)⟩
      | some d => exact q.elim
  | succ m =>
    unfold compL2 at q
    cases e : src.at i h with
    | none => rw [e] at q; exact q.elim
    | some o =>
      rw [e] at q
      cases o with
      | none => exact .inl ⟨J1.1 e, q.here S (.ref ea)⟩
      | some d =>
        obtain ⟨hgo, hy⟩ := J1.2 d e
        refine .inr ⟨hgo, fun H' => ∃ al h, ItR X.K cm al H' src J ∧ LoR X.K cm al H' lw (L2.wipe σ (own.map (·.2))) ∧ Sim X.K cm al h H' ∧ al[rr]? = some Dl ∧
          Post X.K cm (relD X.K cm) al H' Q (fun c d H' => W c d σ H') ((compL2 src t cs gi1 t1 vs1 cs1 ge rr m (i + 1) lw h).bind fun _ h2 => .ok (.ref rr) h2), fun H' hn => ⟨m, Nat.lt_succ_self m, hn⟩, fun x H' y => ?_⟩
        obtain ⟨k, same, rx⟩ := hy x H' y
        have e2 : Ext al H al H' := ⟨List.prefix_refl _, k⟩
        have S2 : Sim X.K cm al h H' := S.keep k same
        have L2' := L.mono e2.pre e2.keep
        simp only at q
        cases et : t.f d lw with
        | none => rw [et] at q; exact q.elim
        | some lo1 =>
          rw [et] at q
          have q := Post.later e2 q
          refine tg_ok rx L2' et fun σ2 L3 fr hl => ⟨wipe_same hv fr hl, al, lo1, h, L3, S2, ?_⟩
          simp only [bind_bind] at q
          refine Post.calm (E := fun c d H' => W c d σ H') (tE_bind (rel := relB) q fun al3 h3 b b' H3 e3 S3 r3 q3 => ?_)
          cases r3
          cases b with
          | false => exact ⟨al3, h3, (r.later e2).later e3, L2'.mono e3.pre e3.keep, S3, pre_get e3.pre ea, q3⟩
          | true =>
            simp only [if_true, bind_bind] at q3
            refine ⟨al3, lo1, h3, L3.mono e3.pre e3.keep, S3, Post.calm (E := fun c d H' => W c d σ H') (tE_bind (rel := ItR X.K cm) q3 fun al4 h4 src1 J1' H4 e4 S4 r4 q4 => ?_)⟩
            refine ⟨fun j k H => ∃ al h, ItR X.K cm al H src J ∧ ItR X.K cm al H src1 J1' ∧ LoR X.K cm al H lw (L2.wipe σ (own.map (·.2))) ∧ LoR X.K cm al H (wipeLo lo1 vs1) (L2.wipe σ2 vs1) ∧ Sim X.K cm al h H ∧ al[rr]? = some Dl ∧
              Post X.K cm (relD X.K cm) al H Q (fun c d H' => W c d σ H') ((compL src1 t1 cs1 ge rr k j (wipeLo lo1 vs1) h).bind fun _ h5 => (compL2 src t cs gi1 t1 vs1 cs1 ge rr m (i + 1) lw h5).bind fun _ h2 => .ok (.ref rr) h2),
              ⟨_, al4, h4, ((r.later e2).later e3).later e4, r4, (L2'.mono e3.pre e3.keep).mono e4.pre e4.keep, ((L3.mono e3.pre e3.keep).mono e4.pre e4.keep).wipe vs1, S4, pre_get e4.pre (pre_get e3.pre ea), q4⟩, ?_⟩
            intro j k H hw
            obtain ⟨al, h, r, r4, L, L1, S, ea, q⟩ := hw
            have J2 := r4 al H h j (Ext.refl _ _) S
            cases k with
            | zero =>
              unfold compL at q
              cases e : src1.at j h with
              | none => rw [e] at q; exact q.elim
              | some o =>
                rw [e] at q
                cases o with
                | none => exact .inl ⟨J2.1 e, al, h, r, L, S, ea, q⟩
                | some d => exact q.elim
            | succ k =>
              unfold compL at q
              cases e : src1.at j h with
              | none => rw [e] at q; exact q.elim
              | some o =>
                rw [e] at q
                cases o with
                | none => exact .inl ⟨J2.1 e, al, h, r, L, S, ea, q⟩
                | some d =>
                  obtain ⟨hgo, hy⟩ := J2.2 d e
                  refine .inr ⟨hgo, fun H => ∃ al h, ItR X.K cm al H src J ∧ ItR X.K cm al H src1 J1' ∧ LoR X.K cm al H lw (L2.wipe σ (own.map (·.2))) ∧ LoR X.K cm al H (wipeLo lo1 vs1) (L2.wipe σ2 vs1) ∧ Sim X.K cm al h H ∧ al[rr]? = some Dl ∧
                    Post X.K cm (relD X.K cm) al H Q (fun c d H' => W c d σ H') ((compL src1 t1 cs1 ge rr k (j + 1) (wipeLo lo1 vs1) h).bind fun _ h5 => (compL2 src t cs gi1 t1 vs1 cs1 ge rr m (i + 1) lw h5).bind fun _ h2 => .ok (.ref rr) h2), fun H' hn => ⟨k, Nat.lt_succ_self k, hn⟩, fun x H' y => ?_⟩
                  obtain ⟨kk, same, rx⟩ := hy x H' y
                  have f2 : Ext al H al H' := ⟨List.prefix_refl _, kk⟩
                  have S2 : Sim X.K cm al h H' := S.keep kk same
                  have M1 := L1.mono f2.pre f2.keep
                  have M := L.mono f2.pre f2.keep
                  simp only at q
                  cases et1 : t1.f d (wipeLo lo1 vs1) with
                  | none => rw [et1] at q; exact q.elim
                  | some lo2 =>
                    rw [et1] at q
                    have q := Post.later f2 q
                    refine tg_ok rx M1 et1 fun σ3 L5 fr1 hl1 => ⟨wipe_same hv1 fr1 hl1, al, lo2, h, L5, S2, ?_⟩
                    simp only [bind_bind] at q
                    refine Post.calm (E := fun c d H' => W c d σ H') (tE_bind (rel := relB) q fun al5 h5 b b' H5 e5 S5 r5 q5 => ?_)
                    cases r5
                    cases b with
                    | false => exact ⟨al5, h5, (r.later f2).later e5, (r4.later f2).later e5, M.mono e5.pre e5.keep, M1.mono e5.pre e5.keep, S5, pre_get e5.pre ea, q5⟩
                    | true =>
                      simp only [if_true, bind_bind] at q5
                      refine ⟨al5, lo2, h5, L5.mono e5.pre e5.keep, S5, Post.calm (E := fun c d H' => W c d σ H') (tE_bind (rel := relD X.K cm) q5 fun al6 h6 y v H6 e6 S6 r6 q6 => ?_)⟩
                      have ea6 := pre_get e6.pre (pre_get e5.pre ea)
                      cases eo : h6[rr]? with
                      | none => rw [eo] at q6; exact q6.elim
                      | some ob =>
                        rw [eo] at q6
                        cases ob with
                        | lst acc =>
                          simp only at q6
                          split at q6
                          · rename_i hacc
                            obtain ⟨ws, hws, tw⟩ := S6.lstOf eo ea6
                            have e7 : Ext al6 H6 al6 (upd H6 Dl (.lst (ws ++ [v]))) := ⟨List.prefix_refl _, Keep.lst hws⟩
                            exact ⟨ws, hws, by rw [← tw.length]; exact big_lt hacc, al6, _, (((r.later f2).later e5).later e6).later e7, (((r4.later f2).later e5).later e6).later e7, ((M.mono e5.pre e5.keep).mono e6.pre e6.keep).mono e7.pre e7.keep, ((M1.mono e5.pre e5.keep).mono e6.pre e6.keep).mono e7.pre e7.keep,
                              S6.write ea6 eo hws (tw.append (.cons r6 .nil)), ea6, Post.later e7 q6⟩
                          · exact q6.elim
                        | _ => exact q6.elim
theorem me_comp2 (hc : X.calm = true) (hN : X.N.Nodup) (hv : ∀ j ∈ t.vs, j ∈ own.map (·.2)) (hw : ∀ j ∈ vs1, j ∈ own.map (·.2)) (hv1 : ∀ j ∈ t1.vs, j ∈ vs1) (hi : MI X cm W tg iter gi) (ok : blkC X.N X.env.scope scope own = true)
    (hg : ∀ (s : Shared) (H : Hp) (C : Addr) (cl : List (Str × Addr)) (fp : List Addr), MG (X.blk s H scope (compEnvC scope cl C X.env) fp) tg t)
    (ht : ∀ (s : Shared) (H : Hp) (C : Addr) (cl : List (Str × Addr)) (fp : List Addr), MTs (X.blk s H scope (compEnvC scope cl C X.env) fp) cm W0 ifs cs)
    (hi1 : ∀ (s : Shared) (H : Hp) (C : Addr) (cl : List (Str × Addr)) (fp : List Addr), MI (X.blk s H scope (compEnvC scope cl C X.env) fp) cm W0 tg1 iter1 gi1)
    (hg1 : ∀ (s : Shared) (H : Hp) (C : Addr) (cl : List (Str × Addr)) (fp : List Addr), MG (X.blk s H scope (compEnvC scope cl C X.env) fp) tg1 t1)
    (ht1 : ∀ (s : Shared) (H : Hp) (C : Addr) (cl : List (Str × Addr)) (fp : List Addr), MTs (X.blk s H scope (compEnvC scope cl C X.env) fp) cm W0 ifs1 cs1)
    (he : ∀ (s : Shared) (H : Hp) (C : Addr) (cl : List (Str × Addr)) (fp : List Addr), ME (X.blk s H scope (compEnvC scope cl C X.env) fp) cm W0 elt ge) (hs : ∀ x, foldedSetIterable iter X.env x = pure x := by intro _; rfl) (hs1 : ∀ env x, foldedSetIterable iter1 env x = pure x := by intro _ _; rfl) :
    ME X cm W (.ListComp elt [⟨tg, iter, ifs, 0⟩, ⟨tg1, iter1, ifs1, 0⟩] scope pos) (gComp2 gi t (own.map (·.2)) cs gi1 t1 vs1 cs1 ge) :=
  (pe_lc2 (g := t.g X.K) (tt := tTe X.K cm W0 cs) (g1 := t1.g X.K) (wi1 := tI X.K cm W0 gi1) (tt1 := tTe X.K cm W0 cs1) (te := tE X.K cm W0 ge) hc hN hi (blkOk_by ok) hw hg ht hi1 hg1 ht1 he hs hs1).imp fun _ _ _ h => comp_imp2 hv hv1 h
theorem ms_setLc2 {i : Nat} {y : Str} {py spos : Pos} (hc : X.calm = true) (hN : X.N.Nodup) (hy : X.N[i]? = some y) (hyl : X.env.scope.names.lookup y = some .local)
    (used : swapsWith (.ListComp elt [⟨tg, iter, ifs, 0⟩, ⟨tg1, iter1, ifs1, 0⟩] scope pos) (some (.Name y py)) spos.line X.env = pure true)
    (hv : ∀ j ∈ t.vs, j ∈ own.map (·.2)) (hw : ∀ j ∈ vs1, j ∈ own.map (·.2)) (hv1 : ∀ j ∈ t1.vs, j ∈ vs1) (hi : MI X cm W tg iter gi) (ok : blkC X.N X.env.scope scope own = true)
    (hg : ∀ (s : Shared) (H : Hp) (C : Addr) (cl : List (Str × Addr)) (fp : List Addr), MG (X.blk s H scope (compEnvC scope cl C X.env) fp) tg t)
    (ht : ∀ (s : Shared) (H : Hp) (C : Addr) (cl : List (Str × Addr)) (fp : List Addr), MTs (X.blk s H scope (compEnvC scope cl C X.env) fp) cm W0 ifs cs)
    (hi1 : ∀ (s : Shared) (H : Hp) (C : Addr) (cl : List (Str × Addr)) (fp : List Addr), MI (X.blk s H scope (compEnvC scope cl C X.env) fp) cm W0 tg1 iter1 gi1)
    (hg1 : ∀ (s : Shared) (H : Hp) (C : Addr) (cl : List (Str × Addr)) (fp : List Addr), MG (X.blk s H scope (compEnvC scope cl C X.env) fp) tg1 t1)
    (ht1 : ∀ (s : Shared) (H : Hp) (C : Addr) (cl : List (Str × Addr)) (fp : List Addr), MTs (X.blk s H scope (compEnvC scope cl C X.env) fp) cm W0 ifs1 cs1)
    (he : ∀ (s : Shared) (H : Hp) (C : Addr) (cl : List (Str × Addr)) (fp : List Addr), ME (X.blk s H scope (compEnvC scope cl C X.env) fp) cm W0 elt ge) (hs : ∀ x, foldedSetIterable iter X.env x = pure x := by intro _; rfl) (hs1 : ∀ env x, foldedSetIterable iter1 env x = pure x := by intro _ _; rfl) :
    MS X cm W (.Assign [.Name y py] (.ListComp elt [⟨tg, iter, ifs, 0⟩, ⟨tg1, iter1, ifs1, 0⟩] scope pos) spos) (sAsg (gComp2 gi t (own.map (·.2)) cs gi1 t1 vs1 cs1 ge) (Tg.nm i).f) := by
  refine (ps_setLc2 (g := t.g X.K) (tt := tTe X.K cm W0 cs) (g1 := t1.g X.K) (wi1 := tI X.K cm W0 gi1) (tt1 := tTe X.K cm W0 cs1) (te := tE X.K cm W0 ge) hc hN hy hyl used hi (blkOk_by ok) hw hg ht hi1 hg1 ht1 he hs hs1).imp fun D σ H h => ?_
  obtain ⟨al, lo, h, L, S, q⟩ := h
  refine comp_imp2 hv hv1 ⟨al, lo, h, L, S, ?_⟩
  refine PostS.stm (rel := relD X.K cm) L q fun al1 h1 d v H1 e1 S1 r1 L1 q1 => ?_
  exact q1.nx S1 (L1.set r1 i)
end
end Mach
end

section
set_option Elab.async false
set_option linter.all false
set_option maxRecDepth 100000
set_option maxHeartbeats 4100000
/-! list(itertools.permutations(range(n))) of two to four numbers. -/
section
namespace PermK
open PyProof.Rows PySem.Spec PySem
theorem p_mro : mroOf (.type "itertools.permutations") = pure [.type "itertools.permutations", .type "object"] := by rw [mroOf_type]; kernel_rfl
theorem p_new : typeLookup (.type "itertools.permutations") "__new__" = pure (some (.builtin "itertools.permutations.__new__")) := by rw [typeLookup_type, builtinLookup_eq_fast]; kernel_rfl
theorem p_init : Slot "itertools.permutations" "__init__" "object.__init__" :=
  .of (owner := "object") (n := "__init__") (by rw [typeLookup_type, builtinLookup_eq_fast]; kernel_rfl) (by decide +kernel) (by decide +kernel) (by decide +kernel) (by first | exact .inl (by decide +kernel) | exact .inr (by decide +kernel)) (by rw [isSubtype_type]; kernel_rfl)
theorem p_sub : isSubtype (.type "itertools.permutations") (.type "itertools.permutations") = pure true := by rw [isSubtype_type]; kernel_rfl
theorem p_called : TypeCalled "itertools.permutations" "itertools.permutations.__new__" "object.__init__" :=
  ⟨by decide +kernel, by decide +kernel, ⟨_, _, p_mro⟩, madeBy_type p_mro p_new (by decide +kernel), by decide +kernel, p_sub, p_init⟩
theorem p_tc (a : Value) : checkTypeCall "itertools.permutations" ⟨[a], []⟩ = pure () := by kernel_rfl
theorem p_nc (a : Value) : checkBuiltinCall "itertools.permutations.__new__" ⟨[.type "itertools.permutations", a], []⟩ = pure () := by kernel_rfl
theorem p_en : entryFor table "itertools.permutations.__new__" = some Builtin.«itertools.permutations.__new__» := entryFor_of_tree (by kernel_rfl)
theorem p_plain : plainId "itertools.permutations.__new__" = true := by decide +kernel
theorem p_iter : Slot "itertools.permutations" "__iter__" "itertools.permutations.__iter__" :=
  .of (owner := "itertools.permutations") (n := "__iter__") (by rw [typeLookup_type, builtinLookup_eq_fast]; kernel_rfl) (by decide +kernel) (by decide +kernel) (by decide +kernel) (by first | exact .inl (by decide +kernel) | exact .inr (by decide +kernel)) p_sub
theorem p_next : Slot "itertools.permutations" "__next__" "itertools.permutations.__next__" :=
  .of (owner := "itertools.permutations") (n := "__next__") (by rw [typeLookup_type, builtinLookup_eq_fast]; kernel_rfl) (by decide +kernel) (by decide +kernel) (by decide +kernel) (by first | exact .inl (by decide +kernel) | exact .inr (by decide +kernel)) p_sub
theorem p_ei : entryFor table "itertools.permutations.__iter__" = some Builtin.«dict_keyiterator.__iter__» :=
  entryFor_alias (id' := "dict_keyiterator.__iter__") (by kernel_rfl) (by first | rfl | (unfold String.splitOn; simp +decide [String.splitOnAux])) (by decide +kernel) (by kernel_rfl)
theorem p_ex : entryFor table "itertools.permutations.__next__" = some Builtin.«itertools.permutations.__next__» := entryFor_of_tree (by kernel_rfl)
theorem p_owner : Manifest.owners.lookup (String.ofList ['s', 'n', 'o', 'i', 't', 'a', 't', 'u', 'm', 'r', 'e', 'p', '.', 's', 'l', 'o', 'o', 't', 'r', 'e', 't', 'i'].reverse) = some Manifest.sig_itertools_permutations := by kernel_rfl
theorem p_ai (a : Value) : argsOk "itertools.permutations.__iter__" ⟨[a], []⟩ := by
  unfold argsOk; rw [signature?_of (id := "itertools.permutations.__iter__") (n := ['_', '_', 'r', 'e', 't', 'i', '_', '_']) (o := ['s', 'n', 'o', 'i', 't', 'a', 't', 'u', 'm', 'r', 'e', 'p', '.', 's', 'l', 'o', 'o', 't', 'r', 'e', 't', 'i']) (by kernel_rfl) p_owner]; kernel_rfl
theorem p_ax (a : Value) : argsOk "itertools.permutations.__next__" ⟨[a], []⟩ := by
  unfold argsOk; rw [signature?_of (id := "itertools.permutations.__next__") (n := ['_', '_', 't', 'x', 'e', 'n', '_', '_']) (o := ['s', 'n', 'o', 'i', 't', 'a', 't', 'u', 'm', 'r', 'e', 'p', '.', 's', 'l', 'o', 'o', 't', 'r', 'e', 't', 'i']) (by kernel_rfl) p_owner]; kernel_rfl
theorem p_noDict : typeHasDict (.type "itertools.permutations") = false := by decide +kernel
theorem p_noLen : typeLookup (.type "itertools.permutations") "__len__" = pure none := by rw [typeLookup_type, builtinLookup_eq_fast]; kernel_rfl
theorem p_noHint : typeLookup (.type "itertools.permutations") "__length_hint__" = pure none := by rw [typeLookup_type, builtinLookup_eq_fast]; kernel_rfl
section
/-! one step and what follows it -/
variable {s : Shared} {A : Around} {M : Model} {E : Value → Shared → Prop}
theorem st_pure {α β : Type} {a : α} {k : α → Sem β} {Q : β → Shared → Prop} (h : wpAny M A (k a) Q E s) : wpAny M A (pure a >>= k) Q E s := by
  refine wpAny_bind ?_; exact wpAny_pure h
theorem st_go {β : Type} {l l' : List Value} {k : Unit → Sem β} {Q : β → Shared → Prop} (h : wpAny M A (k ()) Q E s) : wpAny M A (letGo l l' >>= k) Q E s := by
  refine wpAny_bind ?_; exact wpAny_letGo h
theorem st_rule {β : Type} {x : String} {k : Unit → Sem β} {Q : β → Shared → Prop} (h : wpAny M A (k ()) Q E s) : wpAny M A (rule x >>= k) Q E s := by
  refine wpAny_bind ?_; exact wpAny_rule h
theorem st_hold {α β : Type} {l : List Value} {m : Sem α} {k : α → Sem β} {Q : β → Shared → Prop} (h : wpAny M A m (fun a s' => wpAny M A (k a) Q E s') E s) : wpAny M A (holding l m >>= k) Q E s := by
  refine wpAny_bind ?_; exact wpAny_holding h
end
end PermK
end
section
namespace PermK
open L2 PyProof.Rows PySem PySem.Spec
/-- the record: the pool's address, how far it is, the last one told, the numbers -/
def pmO (T : Addr) (st : Int) (n : Nat) (last : Value) (ns : List Nat) : Obj :=
  { cls := .type "itertools.permutations", dict := none, data := .fields (Value.ref T :: rawInt st :: rawInt (n : Nat) :: last :: ns.map fun (i : Nat) => rawInt (i : Nat)).toArray, slots := #[] }
theorem p_sub2 : isSubtype (.type "itertools.permutations") (.type ("itertools." ++ "permutations")) = pure true := by rw [show ("itertools." ++ "permutations" : String) = "itertools.permutations" by decide +kernel]; exact p_sub
def numsAt0 (n : Nat) : List Nat := List.range n ++ (List.range n).map fun i => n - i
section
variable {prog : Program} {w : World} {A : Around} {E : Value → Shared → Prop} {s : Shared} {r : Addr} {t u v : Tok} {n : Nat}
theorem cls_rest {x : Value} {Q : Value × List Value → Shared → Prop} (h : Q (.type "itertools.permutations", [x]) s) : wpAny (model prog w) A (Builtin.Itertools.itClassAndRest "permutations" ⟨[.type "itertools.permutations", x], []⟩) Q E s := by
  unfold Builtin.Itertools.itClassAndRest
  refine wpAny_bind (wpAny_of_eq (a := true) rfl (PySem.W.KFB.if_not rfl ?_))
  refine wpAny_bind (wpAny_of_eq (a := true) p_sub2 (PySem.W.KFB.if_not rfl ?_))
  exact wpAny_pure h
theorem bind_named {x : Value} {Q : List (Option Value) → Shared → Prop} (h : Q [some x, none] s) : wpAny (model prog w) A (Builtin.Itertools.itBindNamed "permutations" ["iterable", "r"] 1 2 [x] []) Q E s := by
  unfold Builtin.Itertools.itBindNamed
  repeat (first
      | wp_step
      | simp only [List.head?_cons, Option.some_or, List.getElem?_cons_succ, List.getElem?_cons_zero, List.length_cons, List.length_nil, List.forIn_nil])
  all_goals exact h
theorem new_rec {fs : List Value} {Q : Value → Shared → Prop} (hz : fs.length ≤ 100) (h : Q (.ref s.heap.objs.size) { s with heap := s.heap.push { cls := .type "itertools.permutations", dict := none, data := .fields fs.toArray, slots := #[] } }) :
    wpAny (model prog w) A (Builtin.Itertools.itNewRecord (.type "itertools.permutations") fs) Q E s := by
  unfold Builtin.Itertools.itNewRecord
  rw [if_pos (by rw [p_noDict]; rfl)]
  exact wpAny_newObj_type h (by show fs.toArray.size ≤ sizeLine + 2; rw [sizeLine_eq, List.size_toArray]; omega)
theorem body_new {Q : Fin → Shared → Prop} (hh : A.handled = none) (hr : IsRange s.heap r 0 n 1 t u v) (hn : n = 2 ∨ n = 3 ∨ n = 4)
    (h : ∀ (h' : Heap) (tk : Nat) (acc : Array Value), (∀ b o, s.heap.get? b = some o → h'.get? b = some o) → ItemsOf (fun i v => ∃ t, v = .int (0 + (i : Nat) * 1) t) acc n →
      Q (.done (.ret (.ref (h'.objs.size + 1)))) { s with heap := (h'.push { cls := .type "tuple", data := .seq acc.toList.toArray }).push (pmO h'.objs.size 0 n .none (numsAt0 n)), toks := tk }) :
    wpAny (model prog w) A (Builtin.«itertools.permutations.__new__» ⟨[.type "itertools.permutations", .ref r], []⟩) Q E s := by
  have hs : Builtin.Range.small 0 n 1 = true := by rcases hn with rfl | rfl | rfl <;> decide +kernel
  have hz : Builtin.Range.rangeSize 0 n 1 = n := by rcases hn with rfl | rfl | rfl <;> decide +kernel
  have big : n ≤ 4 := by omega
  unfold Builtin.«itertools.permutations.__new__»
  refine wpAny_bind (cls_rest ?_)
  refine wpAny_bind (bind_named ?_)
  refine wpAny_bind (collect_range hh hr hs hz (by omega) fun h' tk acc hk hacc => ?_)
  have hl : acc.toList.length = n := by simpa using hacc.1
  refine st_pure ?_
  simp only [Option.getD_none]
  rw [if_neg (by rw [hl]; omega)]
  rw [if_neg (by unfold Builtin.Itertools.itTooMany; rw [hl]; simp; omega)]
  refine wpAny_bind (wpAny_newTuple ?_ (by rw [hl, sizeLine_eq]; omega))
  rw [hl]
  simp only [Int.toNat_natCast]
  rw [if_neg (by omega)]
  refine wpAny_bind (new_rec (by simp; omega) ?_)
  have hsz : (h'.push { cls := .type "tuple", data := .seq acc.toList.toArray }).objs.size = h'.objs.size + 1 := by simp [Heap.push]
  have hq := h h' tk acc hk hacc
  refine wpAny_pure ?_
  have e : ([Value.ref h'.objs.size, rawInt 0, rawInt (n : Nat), Value.none] ++ List.map (fun (i : Nat) => rawInt (i : Nat)) (List.range n) ++ List.map (fun (i : Nat) => rawInt ((n : Int) - (i : Nat))) (List.range n)) =
      Value.ref h'.objs.size :: rawInt 0 :: rawInt (n : Nat) :: Value.none :: (numsAt0 n).map fun (i : Nat) => rawInt (i : Nat) := by
    rcases hn with rfl | rfl | rfl <;> rfl
  rw [hsz]
  rw [e]
  exact hq
theorem code_new {Q₁ : Value → Shared → Prop} (hh : A.handled = none) (hr : IsRange s.heap r 0 n 1 t u v) (hn : n = 2 ∨ n = 3 ∨ n = 4)
    (h : ∀ (h' : Heap) (tk : Nat) (acc : Array Value), (∀ b o, s.heap.get? b = some o → h'.get? b = some o) → ItemsOf (fun i v => ∃ t, v = .int (0 + (i : Nat) * 1) t) acc n →
      Q₁ (.ref (h'.objs.size + 1)) { s with heap := (h'.push { cls := .type "tuple", data := .seq acc.toList.toArray }).push (pmO h'.objs.size 0 n .none (numsAt0 n)), toks := tk }) :
    codeAny (model prog w) A (.call (.builtin "itertools.permutations.__new__") ⟨[.type "itertools.permutations", .ref r], []⟩) (wants Q₁ E) s :=
  codeAny_call_builtin p_plain p_en (wpAny_of_eq (p_nc _) (body_new hh hr hn fun h' tk acc hk hacc => h h' tk acc hk hacc))
end
end PermK
end
section
namespace PermK
open L2 PyProof.Rows PySem PySem.Spec
/-- the numbers kept at each turn: the places of the items, then what is left of the cycles -/
def tabs : Nat → List (List Nat)
  | 2 => [[0, 1, 2, 1], [1, 0, 1, 1]]
  | 3 => [[0, 1, 2, 3, 2, 1], [0, 2, 1, 3, 1, 1], [1, 0, 2, 2, 2, 1], [1, 2, 0, 2, 1, 1], [2, 0, 1, 1, 2, 1], [2, 1, 0, 1, 1, 1]]
  | 4 => [[0, 1, 2, 3, 4, 3, 2, 1], [0, 1, 3, 2, 4, 3, 1, 1], [0, 2, 1, 3, 4, 2, 2, 1], [0, 2, 3, 1, 4, 2, 1, 1], [0, 3, 1, 2, 4, 1, 2, 1], [0, 3, 2, 1, 4, 1, 1, 1], [1, 0, 2, 3, 3, 3, 2, 1], [1, 0, 3, 2, 3, 3, 1, 1], [1, 2, 0, 3, 3, 2, 2, 1], [1, 2, 3, 0, 3, 2, 1, 1], [1, 3, 0, 2, 3, 1, 2, 1], [1, 3, 2, 0, 3, 1, 1, 1], [2, 0, 1, 3, 2, 3, 2, 1], [2, 0, 3, 1, 2, 3, 1, 1], [2, 1, 0, 3, 2, 2, 2, 1], [2, 1, 3, 0, 2, 2, 1, 1], [2, 3, 0, 1, 2, 1, 2, 1], [2, 3, 1, 0, 2, 1, 1, 1], [3, 0, 1, 2, 1, 3, 2, 1], [3, 0, 2, 1, 1, 3, 1, 1], [3, 1, 0, 2, 1, 2, 2, 1], [3, 1, 2, 0, 1, 2, 1, 1], [3, 2, 0, 1, 1, 1, 2, 1], [3, 2, 1, 0, 1, 1, 1, 1]]
  | _ => []
def tab (n j : Nat) : List Nat := (tabs n).getD j []
def many (n : Nat) : Nat := (tabs n).length
theorem tab_first {n : Nat} (hn : n = 2 ∨ n = 3 ∨ n = 4) : numsAt0 n = tab n 0 := by rcases hn with rfl | rfl | rfl <;> rfl
theorem tab_len {n j : Nat} (hn : n = 2 ∨ n = 3 ∨ n = 4) (hj : j < many n) : (tab n j).length = 2 * n := by
  rcases hn with rfl | rfl | rfl <;> (revert j; decide +kernel)
theorem tab_low {n j : Nat} (hn : n = 2 ∨ n = 3 ∨ n = 4) (hj : j < many n) : ∀ i ∈ (tab n j).take n, i < n := by
  rcases hn with rfl | rfl | rfl <;> (revert j; decide +kernel)
/-- a permuted row -/
def permRow (n j : Nat) (row : List Value) : List Value := ((tab n j).take n).map fun i => row.toArray.getD i .none
section
variable {prog : Program} {w : World} {A : Around} {E : Value → Shared → Prop} {s : Shared} {p T : Addr} {n : Nat} {last : Value} {ns : List Nat} {st : Int}
theorem pm_len : (Value.ref T :: rawInt st :: rawInt (n : Nat) :: last :: ns.map fun (i : Nat) => rawInt (i : Nat)).toArray.size = ns.length + 4 := by simp
theorem f0 : (Value.ref T :: rawInt st :: rawInt (n : Nat) :: last :: ns.map fun (i : Nat) => rawInt (i : Nat)).toArray[0]? = some (Value.ref T) := by simp
theorem f1 : (Value.ref T :: rawInt st :: rawInt (n : Nat) :: last :: ns.map fun (i : Nat) => rawInt (i : Nat)).toArray[1]? = some (rawInt st) := by simp
theorem f2 : (Value.ref T :: rawInt st :: rawInt (n : Nat) :: last :: ns.map fun (i : Nat) => rawInt (i : Nat)).toArray[2]? = some (rawInt (n : Nat)) := by simp
theorem f3 : (Value.ref T :: rawInt st :: rawInt (n : Nat) :: last :: ns.map fun (i : Nat) => rawInt (i : Nat)).toArray[3]? = some last := by simp
theorem set1 (st' : Int) : (pmO T st n last ns).mapFields (·.setIfInBounds 1 (rawInt st')) = pmO T st' n last ns := by simp [pmO, Obj.mapFields]
theorem set3 (l' : Value) : (pmO T st n last ns).mapFields (·.setIfInBounds 3 l') = pmO T st n l' ns := by simp [pmO, Obj.mapFields]
theorem setN (ns' : List Nat) : (pmO T st n last ns).mapFields (fun fs => fs.extract 0 4 ++ (ns'.map fun (i : Nat) => rawInt (i : Nat)).toArray) = pmO T st n last ns' := by simp [pmO, Obj.mapFields]
theorem int_field {i : Nat} {x : Int} {Q : Int → Shared → Prop} (hp : s.heap.get? p = some (pmO T st n last ns)) (hi : (Value.ref T :: rawInt st :: rawInt (n : Nat) :: last :: ns.map fun (i : Nat) => rawInt (i : Nat)).toArray[i]? = some (rawInt x)) (h : Q x s) :
    wpAny (model prog w) A (Builtin.Itertools.itIntField (.ref p) i) Q E s := by
  unfold Builtin.Itertools.itIntField
  refine wpAny_bind (wpAny_field hp rfl (x := rawInt x) hi ?_)
  exact wpAny_pure h
theorem nums_back {Q : List Nat → Shared → Prop} (hp : s.heap.get? p = some (pmO T st n last ns)) (h : Q ns s) : wpAny (model prog w) A (Builtin.Itertools.itNumbersFrom (.ref p) 4) Q E s := by
  unfold Builtin.Itertools.itNumbersFrom
  refine wpAny_bind (wpAny_load hp ?_)
  refine wpAny_pure ?_
  have e : ∀ l : List Nat, List.map (fun v : Value => match v with | .int n _ => n.toNat | _ => 0) (l.map fun (i : Nat) => rawInt (i : Nat)) = l := by
    intro l
    induction l with
    | nil => rfl
    | cons x l ih => rw [List.map_cons, List.map_cons, ih]; rfl
  have e2 := e ns
  refine cast (congrArg (fun z => Q z s) ?_) h
  exact e2.symm
theorem pool {o : Obj} {items : Array Value} {k : Nat} {Q : Array Value → Shared → Prop} (ho : s.heap.get? T = some o) (hd : o.data = .seq items k) (h : Q items s) : wpAny (model prog w) A (Builtin.Itertools.itPoolItems (.ref T)) Q E s := by
  unfold Builtin.Itertools.itPoolItems
  refine wpAny_bind ?_
  exact wpAny_seqItems ho hd (wpAny_pure h)
end
end PermK
end
section
namespace PermK
open L2 PyProof.Rows PySem PySem.Spec
/-- a new tuple -/
def tupO (row : List Value) : Obj := { cls := .type "tuple", data := .seq row.toArray }
section
variable {prog : Program} {w : World} {A : Around} {E : Value → Shared → Prop} {s : Shared} {p T : Addr} {n j : Nat} {last : Value} {row : List Value} {o : Obj} {k : Nat}
/-- how far the record is behind j turns -/
def stOf (j : Nat) : Int := if j = 0 then 0 else 1
def numsOf (n j : Nat) : List Nat := tab n (j - 1)
theorem tab_step {n j : Nat} (hn : n = 2 ∨ n = 3 ∨ n = 4) : many n = (tabs n).length := rfl
theorem body_item {Q : Fin → Shared → Prop} (hn : n = 2 ∨ n = 3 ∨ n = 4) (hj : j < many n) (hp : s.heap.get? p = some (pmO T (stOf j) n last (numsOf n j))) (ho : s.heap.get? T = some o) (hd : o.data = .seq row.toArray k) (hr : row.length = n)
    (h : ∀ h' : Heap, h'.get? p = some (pmO T (stOf (j + 1)) n (.ref s.heap.objs.size) (numsOf n (j + 1))) → h'.get? s.heap.objs.size = some (tupO (permRow n j row)) → s.heap.objs.size < h'.objs.size → (∀ b u, b ≠ p → s.heap.get? b = some u → h'.get? b = some u) →
      Q (.done (.ret (.ref s.heap.objs.size))) { s with heap := h' }) :
    wpAny (model prog w) A (Builtin.«itertools.permutations.__next__» ⟨[.ref p], []⟩) Q E s := by
  unfold Builtin.«itertools.permutations.__next__»
  show wpAny _ _ (field (.ref p) 0 >>= _) _ _ s
  refine wpAny_bind (wpAny_field hp rfl (x := .ref T) f0 ?_)
  refine wpAny_bind (pool ho hd ?_)
  refine wpAny_bind (int_field hp f2 ?_)
  refine wpAny_bind (nums_back hp ?_)
  refine wpAny_bind (int_field hp f1 ?_)
  have hz : row.toArray.size = n := by simp [hr]
  have hlen : ((tab n j).take n).length ≤ n := by rw [List.length_take]; omega
  by_cases hj0 : j = 0
  · subst hj0
    show wpAny _ _ (setField (.ref p) 1 (rawInt 1) >>= _) _ _ s
    refine wpAny_bind (wpAny_setField hp rfl (by rw [pm_len]; omega) ?_)
    have hp1 := Heap.get?_update_self (Obj.mapFields (·.setIfInBounds 1 (rawInt 1))) hp rfl
    rw [set1] at hp1
    refine wpAny_bind (wpAny_newTuple ?_ (by rw [List.length_map, sizeLine_eq]; simp only [Int.toNat_natCast]; exact Nat.le_trans hlen (by omega)))
    have hp2 := Heap.get?_push_of_some (tupO (permRow n 0 row)) hp1
    have sz : (s.heap.update p (Obj.mapFields (·.setIfInBounds 1 (rawInt 1)))).objs.size = s.heap.objs.size := by simp only [Heap.size_update]
    refine wpAny_bind (wpAny_field hp2 rfl (x := last) f3 ?_)
    refine wpAny_bind (wpAny_setField hp2 rfl (by rw [pm_len]; omega) ?_)
    refine st_go ?_
    refine wpAny_pure ?_
    have hp3 := Heap.get?_update_self (Obj.mapFields (·.setIfInBounds 3 (.ref (s.heap.update p (Obj.mapFields (·.setIfInBounds 1 (rawInt 1)))).objs.size))) hp2 rfl
    rw [set3] at hp3
    have lp : p < s.heap.objs.size := Heap.lt_size hp
    have big : ((s.heap.update p (Obj.mapFields (·.setIfInBounds 1 (rawInt 1)))).push (tupO (permRow n 0 row))).objs.size = s.heap.objs.size + 1 := by simp [Heap.push, Heap.size_update]
    have z := h (((s.heap.update p (Obj.mapFields (·.setIfInBounds 1 (rawInt 1)))).push (tupO (permRow n 0 row))).update p (Obj.mapFields (·.setIfInBounds 3 (.ref (s.heap.update p (Obj.mapFields (·.setIfInBounds 1 (rawInt 1)))).objs.size)))) (by rw [show numsOf n (0 + 1) = numsOf n 0 from rfl, show stOf (0 + 1) = 1 from rfl]; rw [sz] at hp3 ⊢; exact hp3)
      (by rw [Heap.get?_update_other _ _ (Nat.ne_of_lt lp), ← sz]; exact Heap.get?_push_size _ rfl) (by rw [Heap.size_update, big]; exact Nat.lt_succ_self _)
      (fun b u hb e => by rw [Heap.get?_update_other _ _ (Ne.symm hb)]; exact Heap.get?_push_of_some _ (by rw [Heap.get?_update_other _ _ (Ne.symm hb)]; exact e))
    have e3 : s.heap.objs.size = (s.heap.update p (Obj.mapFields (·.setIfInBounds 1 (rawInt 1)))).objs.size := sz.symm
    rw [e3] at z
    exact z
  · have hst : stOf j = 1 := by unfold stOf; rw [if_neg hj0]
    rw [hst] at hp
    simp only [hst]
    split
    · rename_i o ix cy heq
      have key : some (ix, cy) = some ((tab n j).take n, (tab n j).drop n) := by
        rw [← heq, hz]
        clear heq hlen hz h hd ho hp hst
        simp only [Int.toNat_natCast]
        unfold numsOf
        rcases hn with rfl | rfl | rfl <;> (revert hj0; revert hj; revert j; decide +kernel)
      obtain ⟨rfl, rfl⟩ : ix = (tab n j).take n ∧ cy = (tab n j).drop n := by simpa using key
      rw [List.take_append_drop]
      refine wpAny_bind ?_
      unfold Builtin.Itertools.itSetNumbersFrom
      refine wpAny_updateFields hp rfl ?_ ?_
      · have hp1 := Heap.get?_update_self (Obj.mapFields (fun fs => fs.extract 0 4 ++ ((tab n j).map fun (i : Nat) => rawInt (i : Nat)).toArray)) hp rfl
        rw [setN] at hp1
        refine wpAny_bind (wpAny_newTuple ?_ (by rw [List.length_map, sizeLine_eq]; simp only [Int.toNat_natCast, List.take_take]; rw [List.length_take]; omega))
        simp only [Int.toNat_natCast, List.take_take, Nat.min_self]
        have hp2 := Heap.get?_push_of_some (tupO (permRow n j row)) hp1
        have sz : (s.heap.update p (Obj.mapFields (fun fs => fs.extract 0 4 ++ ((tab n j).map fun (i : Nat) => rawInt (i : Nat)).toArray))).objs.size = s.heap.objs.size := by simp only [Heap.size_update]
        refine wpAny_bind (wpAny_field hp2 rfl (x := last) f3 ?_)
        refine wpAny_bind (wpAny_setField hp2 rfl (by rw [pm_len]; omega) ?_)
        refine st_go ?_
        refine wpAny_pure ?_
        have hp3 := Heap.get?_update_self (Obj.mapFields (·.setIfInBounds 3 (.ref (s.heap.update p (Obj.mapFields (fun fs => fs.extract 0 4 ++ ((tab n j).map fun (i : Nat) => rawInt (i : Nat)).toArray))).objs.size))) hp2 rfl
        rw [set3] at hp3
        have lp : p < s.heap.objs.size := Heap.lt_size hp
        have big : ((s.heap.update p (Obj.mapFields (fun fs => fs.extract 0 4 ++ ((tab n j).map fun (i : Nat) => rawInt (i : Nat)).toArray))).push (tupO (permRow n j row))).objs.size = s.heap.objs.size + 1 := by simp [Heap.push, Heap.size_update]
        have z := h (((s.heap.update p (Obj.mapFields (fun fs => fs.extract 0 4 ++ ((tab n j).map fun (i : Nat) => rawInt (i : Nat)).toArray))).push (tupO (permRow n j row))).update p (Obj.mapFields (·.setIfInBounds 3 (.ref (s.heap.update p (Obj.mapFields (fun fs => fs.extract 0 4 ++ ((tab n j).map fun (i : Nat) => rawInt (i : Nat)).toArray))).objs.size)))) (by rw [show numsOf n (j + 1) = tab n j from rfl, show stOf (j + 1) = 1 by unfold stOf; rw [if_neg (by omega)]]; rw [sz] at hp3 ⊢; exact hp3)
          (by rw [Heap.get?_update_other _ _ (Nat.ne_of_lt lp), ← sz]; exact Heap.get?_push_size _ rfl) (by rw [Heap.size_update, big]; exact Nat.lt_succ_self _)
          (fun b u hb e => by rw [Heap.get?_update_other _ _ (Ne.symm hb)]; exact Heap.get?_push_of_some _ (by rw [Heap.get?_update_other _ _ (Ne.symm hb)]; exact e))
        have e3 : s.heap.objs.size = (s.heap.update p (Obj.mapFields (fun fs => fs.extract 0 4 ++ ((tab n j).map fun (i : Nat) => rawInt (i : Nat)).toArray))).objs.size := sz.symm
        rw [e3] at z
        exact z

      · simp only [List.size_toArray, Array.size_append, Array.size_extract, List.length_map, pm_len]
        rw [tab_len hn hj, sizeLine_eq]
        have := List.length_map (f := fun (i : Nat) => rawInt (i : Nat)) (as := numsOf n j)
        omega
    · rename_i heq
      exfalso
      have key : (none : Option (List Nat × List Nat)) = some ((tab n j).take n, (tab n j).drop n) := by
        rw [← heq, hz]
        clear heq hlen hz h hd ho hp hst
        simp only [Int.toNat_natCast]
        unfold numsOf
        rcases hn with rfl | rfl | rfl <;> (revert hj0; revert hj; revert j; decide +kernel)
      cases key
end
end PermK
end
section
namespace PermK
open L2 PyProof.Rows PySem PySem.Spec
section
variable {prog : Program} {w : World} {A : Around} {E : Value → Shared → Prop} {s : Shared} {p T : Addr} {n j : Nat} {last : Value} {row : List Value} {o : Obj} {k : Nat}
/-- the end's own exception flies: a tuple and the exception are laid -/
theorem stops {α : Type} {Q : α → Shared → Prop} {s : Shared} (hh : A.handled = none) (h : ∀ e h', ({ s with heap := h' } : Shared).TypeIs e "StopIteration" → (∀ b u, s.heap.get? b = some u → h'.get? b = some u) → E e { s with heap := h' }) :
    wpAny (model prog w) A.in1 (Builtin.Itertools.itStop : Sem α) Q E s := by
  have nobody : A.in1.handled = none := hh
  unfold Builtin.Itertools.itStop
  refine wpAny_bind ?_
  unfold newExc newTuple
  refine wpAny_bind (wpAny_newObj_type (wpAny_bind (m := firstArgMember _ _) (wpAny_of_eq (a := Value.none) (by first | rfl | (unfold firstArgMember; rfl)) ?_)) (by size_fits))
  refine wpAny_newObj_type (hd := by size_fits) ?_
  unfold raiseNew
  apply wpAny_bind
  apply wpAny_handled
  rw [nobody]
  exact st_pure (wpAny_throw (h _ _ ⟨_, Heap.get?_push_size _ rfl, rfl⟩ fun b u e => Heap.get?_push_of_some _ (Heap.get?_push_of_some _ e)))
theorem next_item {Q : Option Value → Shared → Prop} (hn : n = 2 ∨ n = 3 ∨ n = 4) (hj : j < many n) (hp : s.heap.get? p = some (pmO T (stOf j) n last (numsOf n j))) (ho : s.heap.get? T = some o) (hd : o.data = .seq row.toArray k) (hr : row.length = n)
    (h : ∀ h' : Heap, h'.get? p = some (pmO T (stOf (j + 1)) n (.ref s.heap.objs.size) (numsOf n (j + 1))) → h'.get? s.heap.objs.size = some (tupO (permRow n j row)) → s.heap.objs.size < h'.objs.size → (∀ b u, b ≠ p → s.heap.get? b = some u → h'.get? b = some u) →
      Q (some (.ref s.heap.objs.size)) { s with heap := h' }) :
    wpAny (model prog w) A (pyNext (.ref p)) Q E s := by
  have hT : s.TypeIs (.ref p) "itertools.permutations" := ⟨_, hp, rfl⟩
  unfold pyNext
  refine wpAny_bind (wpAny_attempt (wpAny_callSpecial?_slot (name := Str.ofString "__next__") hT p_next (wpAny_call_entry p_next hT p_ex ?_ (p_ax _))))
  refine body_item hn hj hp ho hd hr fun h' a b c d => ?_
  exact ⟨_, rfl, wpAny_pure (h h' a b c d)⟩
theorem next_end {Q : Option Value → Shared → Prop} (hh : A.handled = none) (hn : n = 2 ∨ n = 3 ∨ n = 4) (hp : s.heap.get? p = some (pmO T 1 n last (numsOf n (many n)))) (ho : s.heap.get? T = some o) (hd : o.data = .seq row.toArray k) (hr : row.length = n)
    (h : ∀ h' : Heap, (∀ b u, b ≠ p → s.heap.get? b = some u → h'.get? b = some u) → Q none { s with heap := h' }) :
    wpAny (model prog w) A (pyNext (.ref p)) Q E s := by
  have hT : s.TypeIs (.ref p) "itertools.permutations" := ⟨_, hp, rfl⟩
  unfold pyNext
  refine wpAny_bind (wpAny_attempt (wpAny_callSpecial?_slot (name := Str.ofString "__next__") hT p_next (wpAny_call_entry p_next hT p_ex ?_ (p_ax _))))
  unfold Builtin.«itertools.permutations.__next__»
  show wpAny _ _ (field (.ref p) 0 >>= _) _ _ s
  refine wpAny_bind (wpAny_field hp rfl (x := .ref T) f0 ?_)
  refine wpAny_bind (pool ho hd ?_)
  refine wpAny_bind (int_field hp f2 ?_)
  refine wpAny_bind (nums_back hp ?_)
  refine wpAny_bind (int_field hp f1 ?_)
  have hz : row.toArray.size = n := by simp [hr]
  simp only
  split
  · rename_i o ix cy heq
    exfalso
    have key : some (ix, cy) = (none : Option (List Nat × List Nat)) := by
      rw [← heq, hz]
      simp only [Int.toNat_natCast]
      unfold numsOf
      rcases hn with rfl | rfl | rfl <;> decide +kernel
    cases key
  · refine wpAny_bind (wpAny_setField hp rfl (by rw [pm_len]; omega) ?_)
    have hp1 := Heap.get?_update_self (Obj.mapFields (·.setIfInBounds 1 (rawInt 2))) hp rfl
    have other : ∀ b u, b ≠ p → s.heap.get? b = some u → (s.heap.update p (Obj.mapFields (·.setIfInBounds 1 (rawInt 2)))).get? b = some u := fun b u hb e => by
      rw [Heap.get?_update_other _ _ (Ne.symm hb)]; exact e
    refine stops hh fun e h' ty old => ?_
    refine wpAny_bind (wpAny_isInstance (b := true) ty isSubtype_stop ?_)
    exact wpAny_pure (h h' fun b u hb e => old b u (other b u hb e))
end
end PermK
end
section
namespace PermK
open L2 PyProof.Rows PySem PySem.Spec
def lstO (acc : Array Value) (c : Nat) : Obj := { cls := .type "list", dict := none, data := .seq acc c, slots := #[] }
/-- what stands behind j turns, from b0 on -/
structure Made (S p T : Addr) (n : Nat) (row : List Value) (b0 : Nat) (h0 : Heap) (as : List Addr) (h : Heap) : Prop where
  nd : as.Nodup
  ge : ∀ a ∈ as, b0 ≤ a
  neS : ∀ a ∈ as, a ≠ S
  neP : ∀ a ∈ as, a ≠ p
  obj : ∀ i a, as[i]? = some a → h.get? a = some (tupO (permRow n i row))
  old : ∀ b u, b ≠ S → b ≠ p → h0.get? b = some u → h.get? b = some u
section
variable {prog : Program} {w : World} {A : Around} {s : Shared} {S p T : Addr} {n : Nat} {row : List Value} {o : Obj} {k b0 : Nat} {h0 : Heap} {R : Result → Shared → Prop}
/-- what becomes of a builtin's step -/
abbrev onFin (prog : Program) (w : World) (A : Around) (R : Result → Shared → Prop) : Fin → Shared → Prop := fun x z => match x with
  | .done y => R (.ok y) z
  | .again c => c.quiet = true ∧ codeAny (model prog w) A c R z
theorem turn_of {res : Value} (h : wpAny (model prog w) A.in1 (Builtin.«list.extend.loop» ⟨[.ref S, .ref p, res], []⟩) (onFin prog w A R) (fun e z => R (.error e) z) s) : codeAny (model prog w) A (.builtin "list.extend.loop" ⟨[.ref S, .ref p, res], []⟩) R s := by
  have z := Around.under_plainId (A := A) F.plain_extend_loop ⟨[.ref S, .ref p, res], []⟩
  exact codeAny_builtin F.entry_extend_loop (by rw [z]; exact h)
theorem loop (hh : A.handled = none) (hn : n = 2 ∨ n = 3 ∨ n = 4) (hd : o.data = .seq row.toArray k) (hr : row.length = n) (hSp : S ≠ p) (hST : S ≠ T) (hTp : T ≠ p) (res : Value)
    (hR : ∀ s' as c, Made S p T n row b0 h0 as s'.heap → as.length = many n → s'.heap.get? S = some (lstO (as.map Value.ref).toArray c) → (∃ h', s' = { s with heap := h' }) → R (.ok (.ret res)) s') :
    ∀ (m j : Nat) (h : Heap) (as : List Addr) (last : Value), many n - j = m → j ≤ many n → as.length = j → Made S p T n row b0 h0 as h → b0 ≤ h.objs.size → h.get? p = some (pmO T (stOf j) n last (numsOf n j)) → h.get? T = some o → (∃ c, h.get? S = some (lstO (as.map Value.ref).toArray c)) →
      codeAny (model prog w) A (.builtin "list.extend.loop" ⟨[.ref S, .ref p, res], []⟩) R { s with heap := h } := by
  have few : many n ≤ 24 := by rcases hn with rfl | rfl | rfl <;> decide
  have some_ : 0 < many n := by rcases hn with rfl | rfl | rfl <;> decide
  intro m
  induction m with
  | zero =>
    intro j h as last hm hj hl M big hp hT hS
    obtain ⟨c, hS⟩ := hS
    have e : j = many n := by omega
    subst e
    have h1 : stOf (many n) = 1 := by unfold stOf; rw [if_neg (by omega)]
    rw [h1] at hp
    refine turn_of ?_
    show wpAny _ A.in1 (pyNext (.ref p) >>= _) _ _ _
    refine wpAny_bind (next_end (A := A.in1) hh hn hp hT hd hr fun h' kp => ?_)
    refine wpAny_pure (hR _ as c ⟨M.nd, M.ge, M.neS, M.neP, fun i a e => kp a _ (M.neP a (List.mem_of_getElem? e)) (M.obj i a e), fun b u b1 b2 e => kp b u b2 (M.old b u b1 b2 e)⟩ hl (kp S _ hSp hS) ⟨h', rfl⟩)
  | succ m ih =>
    intro j h as last hm hj hl M big hp hT hS
    obtain ⟨c, hS⟩ := hS
    have hlt : j < many n := by omega
    refine turn_of ?_
    show wpAny _ A.in1 (pyNext (.ref p) >>= _) _ _ _
    refine wpAny_bind (next_item (A := A.in1) hn hlt hp hT hd hr fun h1 p1 t1 z1 kp => ?_)
    show wpAny _ A.in1 (updateSeq S (·.push (.ref h.objs.size)) >>= _) _ _ _
    have lS : S < h.objs.size := Heap.lt_size hS
    have lp : p < h.objs.size := Heap.lt_size hp
    have hS1 : h1.get? S = some (lstO (as.map Value.ref).toArray c) := kp S _ hSp hS
    have zl : (as.map Value.ref).toArray.size = j := by simp [hl]
    refine wpAny_bind ?_
    refine wpAny_updateSeq hS1 rfl (wpAny_pure ⟨plainId_quiet F.plain_extend_loop _, ?_⟩)
      (by rw [zl, sizeLine_eq]; omega) (by show ((as.map Value.ref).toArray.push _).size ≤ sizeLine + 1; rw [Array.size_push, zl, sizeLine_eq]; omega)
    have hS2 := Heap.get?_update_self (Obj.mapSeq (·.push (Value.ref h.objs.size))) hS1 rfl
    have oth : ∀ b u, b ≠ S → h1.get? b = some u → (h1.update S (Obj.mapSeq (·.push (Value.ref h.objs.size)))).get? b = some u := fun b u hb e => by
      rw [Heap.get?_update_other _ _ (Ne.symm hb)]; exact e
    have below : ∀ a ∈ as, a < h.objs.size := fun a ha => by
      obtain ⟨i, hi, e⟩ := List.mem_iff_getElem.mp ha
      exact Heap.lt_size (M.obj i a (by rw [← e]; exact List.getElem?_eq_getElem hi))
    refine ih (j + 1) _ (as ++ [h.objs.size]) (.ref h.objs.size) (by omega) hlt (by simp [hl]) ⟨?_, ?_, ?_, ?_, ?_, ?_⟩ ?_ (oth p _ (Ne.symm hSp) p1) (oth T _ (Ne.symm hST) (kp T _ hTp hT)) ?_
    · rw [List.nodup_append]
      exact ⟨M.nd, by simp, fun a ha b hb => by
        simp at hb
        subst hb
        exact Nat.ne_of_lt (below a ha)⟩
    · intro a ha
      rcases List.mem_append.mp ha with z | z
      · exact M.ge a z
      · simp at z; rw [z]; exact big
    · intro a ha
      rcases List.mem_append.mp ha with z | z
      · exact M.neS a z
      · simp at z; rw [z]; exact Nat.ne_of_gt lS
    · intro a ha
      rcases List.mem_append.mp ha with z | z
      · exact M.neP a z
      · simp at z; rw [z]; exact Nat.ne_of_gt lp
    · intro i a e
      by_cases hi : i < as.length
      · rw [List.getElem?_append_left hi] at e
        have ha := List.mem_of_getElem? e
        exact oth a _ (M.neS a ha) (kp a _ (M.neP a ha) (M.obj i a e))
      · have hi' : i = j := by
          have := (List.getElem?_eq_some_iff.mp e).1
          simp at this
          omega
        subst hi'
        rw [List.getElem?_append_right (by omega), hl, Nat.sub_self] at e
        simp at e
        subst e
        exact oth _ _ (Nat.ne_of_gt lS) t1
    · exact fun b u b1 b2 e => oth b u b1 (kp b u b2 (M.old b u b1 b2 e))
    · rw [Heap.size_update]
      have z : h.objs.size < h1.objs.size := z1
      exact Nat.le_trans big (Nat.le_of_lt z)
    · refine ⟨if ((as.map Value.ref).toArray.push (Value.ref h.objs.size)).size == (as.map Value.ref).toArray.size then c else c + 1, hS2.trans ?_⟩
      simp only [lstO, Obj.mapSeq, List.map_append, List.push_toArray]
      rfl
end
end PermK
end
section
namespace PermK
open L2 PyProof.Rows PySem PySem.Spec
section
variable {prog : Program} {w : World} {A : Around} {E : Value → Shared → Prop} {s : Shared} {S p T : Addr} {n : Nat} {row : List Value} {o : Obj} {k b0 : Nat} {h0 : Heap} {R : Result → Shared → Prop}
theorem iter_self {last : Value} {st : Int} {ns : List Nat} {Q : Value → Shared → Prop} (hp : s.heap.get? p = some (pmO T st n last ns)) (h : Q (.ref p) s) : wpAny (model prog w) A (pyIter (.ref p)) Q E s := by
  have hT : s.TypeIs (.ref p) "itertools.permutations" := ⟨_, hp, rfl⟩
  refine wpAny_pyIter_slot hT p_iter (wpAny_call_entry p_iter hT p_ei ?_ (p_ai _))
  show wpAny _ _ (ret (.ref p)) _ _ s
  exact wpAny_pure ⟨_, rfl, "itertools.permutations", _, hT, p_next.lookup, h⟩
theorem extend {last : Value} (hh : A.handled = none) (hn : n = 2 ∨ n = 3 ∨ n = 4) (hd : o.data = .seq row.toArray k) (hr : row.length = n) (hSp : S ≠ p) (hST : S ≠ T) (hTp : T ≠ p) (res : Value)
    (hp : s.heap.get? p = some (pmO T 0 n last (numsAt0 n))) (hT : s.heap.get? T = some o) (c : Nat) (hS : s.heap.get? S = some (lstO #[] c)) (old : ∀ b u, b ≠ S → b ≠ p → h0.get? b = some u → s.heap.get? b = some u) (big : b0 ≤ s.heap.objs.size)
    (hR : ∀ s' as c, Made S p T n row b0 h0 as s'.heap → as.length = many n → s'.heap.get? S = some (lstO (as.map Value.ref).toArray c) → (∃ h', s' = { s with heap := h' }) → R (.ok (.ret res)) s') :
    wpAny (model prog w) A.in1 (Builtin.List.listExtendWith (.ref S) (.ref p) res)
      (onFin prog w A R) (fun e z => R (.error e) z) s := by
  have hTy : s.TypeIs (.ref p) "itertools.permutations" := ⟨_, hp, rfl⟩
  have apart : Builtin.List.listSameRef (.ref S) (.ref p) = false := by simp [Builtin.List.listSameRef, hSp]
  delta Builtin.List.listExtendWith
  refine wpAny_bind (wpAny_typeOf hTy ?_)
  rw [if_neg (by rw [apart]; decide)]
  refine wpAny_bind (iter_self hp (st_hold ?_))
  delta Builtin.List.listLengthHint
  refine wpAny_bind (wpAny_specialOf hTy p_noLen ?_)
  show wpAny _ A.in1 (specialOf (Value.ref p) (Str.ofString "__length_hint__") >>= _) _ _ _
  refine wpAny_bind (wpAny_specialOf hTy p_noHint ?_)
  refine wpAny_pure ?_
  refine st_rule (wpAny_bind ?_)
  show wpAny _ A.in1 (updateSeq S _ >>= fun _ => updateSeq S _) _ _ _
  refine wpAny_bind (wpAny_updateSeq hS rfl (wpAny_updateSeq (hz := by seq_fits) (Heap.get?_update_self _ hS rfl) rfl ?_))
  have hS₃ := Heap.get?_update_self (Obj.mapSeq (·.pop)) (Heap.get?_update_self (Obj.mapSeq (·.push Value.none)) hS rfl) rfl
  have oth : ∀ b u, b ≠ S → s.heap.get? b = some u → ((s.heap.update S (Obj.mapSeq (·.push Value.none))).update S (Obj.mapSeq (·.pop))).get? b = some u := fun b u hb e => by
    rw [Heap.get?_update_other _ _ (Ne.symm hb), Heap.get?_update_other _ _ (Ne.symm hb)]
    exact e
  refine wpAny_pure ⟨plainId_quiet F.plain_extend_loop _, loop (s := s) (b0 := b0) (h0 := h0) hh hn hd hr hSp hST hTp res (fun s' as c M hl hs he => hR s' as c M hl hs ?_) (many n - 0) 0 _ [] last rfl (Nat.zero_le _) rfl ⟨List.nodup_nil, by simp, by simp, by simp, by simp, fun b u b1 b2 e => oth b u b1 (old b u b1 b2 e)⟩ ?_ ?_ (oth T _ (Ne.symm hST) hT) ⟨_, hS₃⟩⟩
  · exact he
  · rw [Heap.size_update, Heap.size_update]; exact big
  · rw [show stOf 0 = 0 from rfl, show numsOf n 0 = numsAt0 n from (tab_first hn).symm]
    exact oth p _ (Ne.symm hSp) hp
end
end PermK
end
section
namespace PermK
open L2 PyProof.Rows PySem PySem.Spec
section
variable {prog : Program} {w : World} {A : Around} {E : Value → Shared → Prop} {s : Shared} {S p T : Addr} {n : Nat} {row : List Value} {o : Obj} {k b0 : Nat} {h0 : Heap} {R : Result → Shared → Prop}
theorem init {last : Value} (hh : A.handled = none) (hn : n = 2 ∨ n = 3 ∨ n = 4) (hd : o.data = .seq row.toArray k) (hr : row.length = n) (hSp : S ≠ p) (hST : S ≠ T) (hTp : T ≠ p)
    (hp : s.heap.get? p = some (pmO T 0 n last (numsAt0 n))) (hT : s.heap.get? T = some o) (hS : s.heap.get? S = some { cls := .type "list", data := .seq #[] }) (old : ∀ b u, b ≠ S → b ≠ p → h0.get? b = some u → s.heap.get? b = some u) (big : b0 ≤ s.heap.objs.size)
    (hR : ∀ s' as c, Made S p T n row b0 h0 as s'.heap → as.length = many n → s'.heap.get? S = some (lstO (as.map Value.ref).toArray c) → (∃ h', s' = { s with heap := h' }) → R (.ok (.ret .none)) s') :
    wpAny (model prog w) A.in1 (Builtin.«list.__init__» ⟨[.ref S, .ref p], []⟩)
      (onFin prog w A R) (fun e z => R (.error e) z) s := by
  show wpAny _ A.in1 (Builtin.List.listItems (.ref S) >>= fun old => Builtin.List.listUpdate (.ref S) (fun _ => #[]) >>= fun _ => letGo old.toList.reverse >>= fun _ => Builtin.List.listExtendWith (.ref S) (.ref p) .none) _ _ s
  refine wpAny_bind ?_
  unfold Builtin.List.listItems
  refine wpAny_bind (wpAny_seqItems (items := #[]) hS rfl (wpAny_pure ?_))
  show wpAny _ A.in1 (updateSeq S (fun _ => #[]) >>= fun _ => letGo (#[] : Array Value).toList.reverse >>= fun _ => Builtin.List.listExtendWith (.ref S) (.ref p) .none) _ _ s
  refine wpAny_bind (wpAny_updateSeq hS rfl (st_go ?_))
  have hS₂ := Heap.get?_update_self (Obj.mapSeq fun _ => (#[] : Array Value)) hS rfl
  have oth : ∀ b u, b ≠ S → s.heap.get? b = some u → (s.heap.update S (Obj.mapSeq (fun _ => (#[] : Array Value)))).get? b = some u :=
    fun b u hb e => (Heap.get?_update_other _ _ (Ne.symm hb)).trans e
  refine extend (h0 := h0) (b0 := b0) hh hn hd hr hSp hST hTp .none (oth p _ (Ne.symm hSp) hp) (oth T _ (Ne.symm hST) hT) _ hS₂ (fun b u b1 b2 e => oth b u b1 (old b u b1 b2 e)) (by rw [Heap.size_update]; exact big) fun s' as c M hl hs he => hR s' as c M hl hs ?_
  obtain ⟨h', rfl⟩ := he
  exact ⟨h', rfl⟩
theorem call_list {last : Value} {Q : Value → Shared → Prop} (hh : A.handled = none) (hn : n = 2 ∨ n = 3 ∨ n = 4) (hd : o.data = .seq row.toArray k) (hr : row.length = n) (hTp : T ≠ p)
    (hp : s.heap.get? p = some (pmO T 0 n last (numsAt0 n))) (hT : s.heap.get? T = some o)
    (hQ : ∀ h' as c, Made s.heap.objs.size p T n row s.heap.objs.size s.heap as h' → as.length = many n → h'.get? s.heap.objs.size = some (lstO (as.map Value.ref).toArray c) → Q (.ref s.heap.objs.size) { s with heap := h' }) :
    wpAny (model prog w) A (call (.type "list") [.ref p]) Q E s := by
  refine callType_codes (Q₁ := fun x z => x = .ref s.heap.objs.size ∧ z = { s with heap := s.heap.push { cls := .type "list", data := .seq #[] } }) F.called_list (F.typeCall_list_1 _) F.entry_list_init (code_list_new _ ⟨rfl, rfl⟩) fun x z hz => ?_
  obtain ⟨rfl, rfl⟩ := hz
  have hS := Heap.get?_push_size s.heap (o := { cls := .type "list", data := .seq #[] }) rfl
  refine ⟨⟨_, hS, rfl⟩, F.args_list_init_2 _ _, init (A := A.in1) (s := { s with heap := s.heap.push { cls := .type "list", data := .seq #[] } }) (S := s.heap.objs.size) (h0 := s.heap) (b0 := s.heap.objs.size) hh hn hd hr (Nat.ne_of_gt (Heap.lt_size hp)) (Nat.ne_of_gt (Heap.lt_size hT)) hTp (Heap.get?_push_of_some _ hp) (Heap.get?_push_of_some _ hT) hS (fun b u _ _ e => Heap.get?_push_of_some _ e) ?_ fun s' as c M hl hs he => ?_⟩
  · show s.heap.objs.size ≤ (s.heap.push _).objs.size
    simp [Heap.push]
  · obtain ⟨h', rfl⟩ := he
    exact ⟨rfl, hQ h' as c M hl hs⟩
theorem call_perm {r : Addr} {t u v : Tok} {Q : Value → Shared → Prop} (hh : A.handled = none) (hr : IsRange s.heap r 0 n 1 t u v) (hn : n = 2 ∨ n = 3 ∨ n = 4)
    (hQ : ∀ (h' : Heap) (tk : Nat) (acc : Array Value), (∀ b o, s.heap.get? b = some o → h'.get? b = some o) → ItemsOf (fun i v => ∃ t, v = .int (0 + (i : Nat) * 1) t) acc n →
      Q (.ref (h'.objs.size + 1)) { s with heap := (h'.push { cls := .type "tuple", data := .seq acc.toList.toArray }).push (pmO h'.objs.size 0 n .none (numsAt0 n)), toks := tk }) :
    wpAny (model prog w) A (call (.type "itertools.permutations") [.ref r]) Q E s := by
  refine callType_codes (Q₁ := fun obj s₁ => s₁.TypeIs obj "itertools.permutations" ∧ Q obj s₁) p_called (p_tc _) F.entry_object_init
    (code_new (A := A.in1) hh hr hn fun h' tk acc hk hacc => ⟨⟨pmO h'.objs.size 0 n .none (numsAt0 n), ?_, rfl⟩, hQ h' tk acc hk hacc⟩) fun obj s₁ h₁ => ?_
  · have := Heap.get?_push_size (h'.push { cls := .type "tuple", data := .seq acc.toList.toArray }) (o := pmO h'.objs.size 0 n .none (numsAt0 n)) rfl
    have e : (h'.push { cls := .type "tuple", data := .seq acc.toList.toArray }).objs.size = h'.objs.size + 1 := by simp [Heap.push]
    rw [e] at this
    exact this
  · exact ⟨h₁.1, F.args_object_init_2 obj _, object_init_meets p_called.init.lookup p_called.made (by decide) prog w A.in1 _ s₁ ⟨h₁.1, rfl, h₁.2⟩⟩
end
end PermK
end
section
namespace PermK
open L2 PyProof.Rows PySem PySem.Spec
/-- new tuples, one after the other -/
inductive AllNew : Hp → List Addr → List (List V) → Hp → Prop
  | nil (H : Hp) : AllNew H [] [] H
  | cons {H H' : Hp} {a : Addr} {as : List Addr} {r : List V} {rs : List (List V)} {b : Obj} (h : H a = none) (e : b.dict = none) (t : AllNew (upd H a (.frz b (.tup r))) as rs H') : AllNew H (a :: as) (r :: rs) H'
section
variable {X : Cx} {pins : List (Addr × Obj)} {σ : L2.St} {s : Shared} {t : Nat}
theorem lay_one {g h2 : Heap} {H : Hp} {a : Addr} {o : HO} {u : Obj} (I : Inv X pins σ H { s with heap := g, toks := t }) (ga : g.get? a = none) (ha : H a = none) (sub : ∀ b u, g.get? b = some u → h2.get? b = some u) (e : h2.get? a = some u)
    (new : ∀ g' : Heap, g'.get? a = some u → ObjOk X.prog X.w (upd H a o) g' a o) :
    ∃ g' : Heap, Inv X pins σ (upd H a o) { s with heap := g', toks := t } ∧ (∀ b u, g'.get? b = some u → h2.get? b = some u) ∧ (∀ b, b ≠ a → g'.get? b = g.get? b) ∧ g'.get? a = some u := by
  obtain ⟨G, g1, g2⟩ := L2.restrict h2 fun b => decide (b = a) || (g.get? b).isSome
  have ea : G.get? a = some u := by rw [g1 a (by simp)]; exact e
  have eb : ∀ b, b ≠ a → G.get? b = g.get? b := fun b hb => by
    cases q : g.get? b with
    | none => exact g2 b (by simp [hb, q])
    | some u => rw [g1 b (by simp [q])]; exact sub b u q
  refine ⟨G, ?_, ?_, eb, ea⟩
  · exact I.laidN (h' := G) (t' := t) (fun b u q => by rw [eb b (fun z => by rw [z, ga] at q; cases q)]; exact q) ga ha (new G ea)
  · intro b u q
    by_cases hb : b = a
    · subst hb; rw [ea] at q; cases q; exact e
    · rw [eb b hb] at q; exact sub b u q
theorem tup_ok {P : Program} {w : World} {H : Hp} {g : Heap} {a : Addr} {row : List Value} {vs : List V} (hv : Vals vs row) (hl : vs.length ≤ 100) (e : g.get? a = some (tupO row)) : ObjOk P w H g a (.frz (tupO row) (.tup vs)) :=
  ⟨e, by rw [sizeLine_eq]; omega, row, hv, ⟨_, e, rfl, _, rfl⟩⟩
theorem lay_all {h2 : Heap} : ∀ (as : List Addr) (rows : List (List V)) (g : Heap) (H : Hp), Inv X pins σ H { s with heap := g, toks := t } → as.Nodup → (∀ a ∈ as, g.get? a = none ∧ H a = none) → as.length = rows.length →
    (∀ (i : Nat) (a : Addr) (r : List V), as[i]? = some a → rows[i]? = some r → r.length ≤ 100 ∧ ∃ row, Vals r row ∧ h2.get? a = some (tupO row)) → (∀ b u, g.get? b = some u → h2.get? b = some u) →
    ∃ (g' : Heap) (H' : Hp), AllNew H as rows H' ∧ Inv X pins σ H' { s with heap := g', toks := t } ∧ (∀ b u, g'.get? b = some u → h2.get? b = some u) ∧ ∀ a, a ∉ as → g'.get? a = g.get? a ∧ H' a = H a
  | [], [], g, H, I, _, _, _, _, sub => ⟨g, H, .nil H, I, sub, fun a _ => ⟨rfl, rfl⟩⟩
  | [], _ :: _, _, _, _, _, _, hl, _, _ => by simp at hl
  | _ :: _, [], _, _, _, _, _, hl, _, _ => by simp at hl
  | a :: as, r :: rows, g, H, I, nd, fr, hl, ob, sub => by
    obtain ⟨hr, row, hv, e⟩ := ob 0 a r rfl rfl
    obtain ⟨ga, ha⟩ := fr a (by simp)
    obtain ⟨na, nd'⟩ := List.nodup_cons.mp nd
    obtain ⟨g1, I1, s1, k1, e1⟩ := lay_one (o := .frz (tupO row) (.tup r)) I ga ha sub e fun g' z => tup_ok hv hr z
    obtain ⟨g', H', A, I', s', k'⟩ := lay_all as rows g1 _ I1 nd' (fun b hb => by
      have hba : b ≠ a := fun z => na (z ▸ hb)
      obtain ⟨x, y⟩ := fr b (List.mem_cons_of_mem _ hb)
      exact ⟨by rw [k1 b hba]; exact x, by rw [upd_ne hba]; exact y⟩) (by simpa using hl) (fun i b r hb hr => ob (i + 1) b r (by simpa using hb) (by simpa using hr)) s1
    refine ⟨g', H', .cons ha rfl A, I', s', fun b hb => ?_⟩
    have hba : b ≠ a := fun z => hb (by simp [z])
    obtain ⟨x, y⟩ := k' b (fun z => hb (List.mem_cons_of_mem _ z))
    exact ⟨x.trans (k1 b hba), y.trans (upd_ne hba)⟩
end
end PermK
end
section
namespace PermK
open L2 PyProof.Rows PySem PySem.Spec
def permV (n j : Nat) : List V := ((tab n j).take n).map fun (i : Nat) => V.int (i : Nat)
def rowsV (n : Nat) : List (List V) := (List.range (many n)).map (permV n)
theorem vals_perm {n j : Nat} (hn : n = 2 ∨ n = 3 ∨ n = 4) (hj : j < many n) {acc : Array Value} (hi : ItemsOf (fun i v => ∃ t, v = .int (0 + (i : Nat) * 1) t) acc n) : Vals (permV n j) (permRow n j acc.toList) := by
  unfold permV permRow
  have low := tab_low hn hj
  generalize (tab n j).take n = l at low
  induction l with
  | nil => exact .nil
  | cons x l ih =>
    have hx : x < acc.size := by rw [hi.1]; exact low x (by simp)
    have e : acc[x]? = some acc[x] := Array.getElem?_eq_getElem hx
    obtain ⟨t, ht⟩ := hi.2 x _ e
    have e2 : acc.toList.toArray.getD x .none = .int (x : Nat) t := by
      rw [Array.toArray_toList]
      simp only [Array.getD, hx, dite_true]
      show acc[x] = _
      rw [ht]
      congr 1
      omega
    rw [List.map_cons, List.map_cons, e2]
    exact .cons ⟨t, rfl⟩ (ih fun i hi => low i (List.mem_cons_of_mem _ hi))
theorem vals_addrs (as : List Addr) : Vals (as.map V.ref) (as.map Value.ref) := by
  induction as with
  | nil => exact .nil
  | cons a as ih => exact .cons rfl ih
section
variable {X : Cx} {e : Expr} {te : L2.St → Hp → (Int → Int → Hp → Prop) → Prop}
def tLstPm (te : L2.St → Hp → (Int → Int → Hp → Prop) → Prop) : TE := fun σ H Q => te σ H fun a b H1 => ∃ n : Nat, (n = 2 ∨ n = 3 ∨ n = 4) ∧ a = 0 ∧ b = (n : Nat) ∧ ∀ as H2 S, AllNew H1 as (rowsV n) H2 → H2 S = none → Q (.ref S) (upd H2 S (.lst (as.map V.ref)))
theorem rows_get {n i : Nat} {r : List V} (e : (rowsV n)[i]? = some r) : i < many n ∧ r = permV n i := by
  unfold rowsV at e
  rw [List.getElem?_map] at e
  obtain ⟨j, hj, rfl⟩ := Option.map_eq_some_iff.mp e
  obtain ⟨hl, rfl⟩ := List.getElem?_eq_some_iff.mp hj
  rw [List.length_range] at hl
  simp only [List.getElem_range]
  exact ⟨hl, trivial⟩
theorem pe_lstPm {p p2 pos pos2 : Pos} (hc : X.calm = true) (hg : Gl X "list") (hm : X.mg "list" = none) (hg2 : Gl X "permutations") (hm2 : X.mg "permutations" = some (.type "itertools.permutations")) (he : PRg X e te)
    (na : starEach [e] X.env = (false, eval e X.env) :: starEach [] X.env := by rfl)
    (nb : starEach [.Call (.Name "permutations" p2) [e] [] pos2] X.env = (false, eval (.Call (.Name "permutations" p2) [e] [] pos2) X.env) :: starEach [] X.env := by rfl) :
    PE X (.Call (.Name "list" p) [.Call (.Name "permutations" p2) [e] [] pos2] [] pos) (tLstPm te) := by
  constructor
  intro pins s σ H Q I h
  refine Call_ (ld_blt I hg hm boot_list (PyProof.Rows.callWith_type1 (args_cons (thn (Q := fun v s' => ∃ (S0 : Shared) (H1 : Hp) (n : Nat) (p T : Addr) (acc : Array Value), v = .ref p ∧ Inv X pins σ H1 S0 ∧ (n = 2 ∨ n = 3 ∨ n = 4) ∧
      (∀ as H2 S, AllNew H1 as (rowsV n) H2 → H2 S = none → Q (.ref S) (upd H2 S (.lst (as.map V.ref)))) ∧ ItemsOf (fun i v => ∃ t, v = .int (0 + (i : Nat) * 1) t) acc n ∧ T ≠ p ∧
      s'.heap.get? p = some (pmO T 0 n .none (numsAt0 n)) ∧ s'.heap.get? T = some { cls := .type "tuple", data := .seq acc.toList.toArray } ∧ (∀ b u, S0.heap.get? b = some u → b ≠ p ∧ s'.heap.get? b = some u) ∧ s'.os = S0.os ∧ s'.gens = S0.gens ∧ s'.drawn = S0.drawn) ?_ fun v s' z => args_nil ?_) nb) nb))
  · refine Call_ (ld_glob I hg2 hm2 (PyProof.Rows.callWith_type1 (args_cons (thn (he pins s σ H _ I h) fun x s1 ⟨r, a, b, t, u, v, H1, ex, hr, I1, n, hn, ha, hb, q⟩ => args_nil ?_) na) na))
    subst ex ha hb
    refine call_perm (I1.ok.hd hc) hr hn fun h' tk acc hk hacc => ?_
    have sz : (h'.push { cls := .type "tuple", data := .seq acc.toList.toArray }).objs.size = h'.objs.size + 1 := by simp [Heap.push]
    have gp := Heap.get?_push_size (h'.push { cls := .type "tuple", data := .seq acc.toList.toArray }) (o := pmO h'.objs.size 0 n .none (numsAt0 n)) rfl
    rw [sz] at gp
    refine ⟨s1, H1, n, h'.objs.size + 1, h'.objs.size, acc, rfl, I1, hn, q, hacc, Nat.ne_of_lt (Nat.lt_succ_self _), gp, Heap.get?_push_of_some _ (Heap.get?_push_size _ rfl), fun b u e => ?_, rfl, rfl, rfl⟩
    have e' := hk b u e
    exact ⟨Nat.ne_of_lt (Nat.lt_succ_of_lt (Heap.lt_size e')), Heap.get?_push_of_some _ (Heap.get?_push_of_some _ e')⟩
  · obtain ⟨S0, H1, n, p, T, acc, rfl, I1, hn, q, hacc, hTp, gp, gT, old, e1, e2, e3⟩ := z
    obtain ⟨h2, gn, dr, tk, os⟩ := s'
    obtain ⟨h1, gn0, dr0, tk0, os0⟩ := S0
    simp only at e1 e2 e3
    subst e1 e2 e3
    have len : acc.toList.length = n := by simpa using hacc.1
    refine call_list (I1.ok.hd hc) hn (row := acc.toList) rfl len hTp gp gT fun h' as c M hl hs => ?_
    have below : ∀ b u, h1.get? b = some u → b < h2.objs.size := fun b u e => Heap.lt_size (old b u e).2
    have none1 : ∀ a, h2.objs.size ≤ a → h1.get? a = none := fun a ha => by
      cases q : h1.get? a with
      | none => rfl
      | some u => exact absurd (Nat.lt_of_lt_of_le (below a u q) ha) (Nat.lt_irrefl _)
    have I2 : Inv X pins σ H1 { heap := h2, gens := gn, drawn := dr, toks := tk, os := os } := I1.kept (t' := tk) fun b u e => (old b u e).2
    have noneH : ∀ a, h2.objs.size ≤ a → H1 a = none := fun a ha => I2.hok.fresh ha
    have I0 : Inv X pins σ H1 { ({ heap := h1, gens := gn, drawn := dr, toks := tk0, os := os } : Shared) with heap := h1, toks := tk } := I1.kept (t' := tk) fun b u e => e
    have sub : ∀ b u, h1.get? b = some u → h'.get? b = some u := fun b u e => M.old b u (Nat.ne_of_lt (below b u e)) (old b u e).1 (old b u e).2
    obtain ⟨g', H', AN, I', sub', k'⟩ := lay_all (h2 := h') as (rowsV n) h1 H1 I0 M.nd (fun a ha => ⟨none1 a (M.ge a ha), noneH a (M.ge a ha)⟩) (by rw [hl]; simp [rowsV]) (fun i a r ea er => by
      obtain ⟨hi, rfl⟩ := rows_get er
      refine ⟨?_, permRow n i acc.toList, vals_perm hn hi hacc, M.obj i a ea⟩
      unfold permV
      rw [List.length_map, List.length_take]
      omega) sub
    have hS : h2.objs.size ∉ as := fun z => M.neS _ z rfl
    obtain ⟨x, y⟩ := k' _ hS
    obtain ⟨g'', I'', sub'', _, _⟩ := lay_one (o := .lst (as.map V.ref)) I' (x.trans (none1 _ (Nat.le_refl _))) (y.trans (noneH _ (Nat.le_refl _))) sub' hs fun g z => by
      have vals : Vals (as.map V.ref) (as.map Value.ref) := vals_addrs as
      have few : many n ≤ 24 := by rcases hn with rfl | rfl | rfl <;> decide
      exact ⟨by rw [List.length_map, hl, sizeLine_eq]; omega, as.map Value.ref, c, vals, z⟩
    exact ⟨.ref h2.objs.size, _, I''.kept (t' := tk) sub'', rfl, q as H' _ AN (y.trans (noneH _ (Nat.le_refl _)))⟩
end
end PermK
end
section
namespace Mach
open PySem PySem.Spec L2 PermK
def permD (n j : Nat) : D := .tup (((tab n j).take n).map fun (i : Nat) => D.int (i : Nat))
def permsD (n : Nat) : List D := (List.range (many n)).map (permD n)
def gLstPm (a : GE) : GE := fun lo h => (a lo h).bind fun x h1 => match x with
  | .int j => if j = 2 ∨ j = 3 ∨ j = 4 then newL (permsD j.toNat) h1 else .bad
  | _ => .bad
inductive F2 {β γ : Type} (R : β → γ → Prop) : List β → List γ → Prop
  | nil : F2 R [] []
  | cons {b : β} {c : γ} {bs : List β} {cs : List γ} (h : R b c) (t : F2 R bs cs) : F2 R (b :: bs) (c :: cs)
section
variable {X : Cx} {cm : Str → Option Addr} {W : WX} {a : Expr} {ga : GE} {p pos : Pos} {K : PySem.W.Frag} {al : List Addr} {H H' : Hp} {h : Hq}
theorem allNew_ok {as : List Addr} {rows : List (List V)} (A : AllNew H as rows H') : Keep H H' ∧ (∀ {h : Hq}, Sim K cm al h H → Sim K cm al h H') ∧
    ∀ ds : List (List D), (∀ (H : Hp), F2 (fun d r => Rels K cm al H d r) ds rows) → Rels K cm al H' (ds.map D.tup) (as.map V.ref) := by
  induction A with
  | nil H => exact ⟨Keep.refl _, fun S => S, fun ds f => by cases f H; exact .nil⟩
  | @cons H H' a as r rs b hn e t ih =>
    obtain ⟨k, s, f⟩ := ih
    refine ⟨(Keep.new hn).trans k, fun S => s (S.other hn), fun ds g => ?_⟩
    cases ds with
    | nil => cases g H
    | cons d ds =>
      have g1 : ∀ H, Rels K cm al H d r := fun H => by
        cases g H with
        | cons x y => exact x
      have g2 : ∀ H, F2 (fun d r => Rels K cm al H d r) ds rs := fun H => by
        cases g H with
        | cons x y => exact y
      exact .cons (.tup (k.tpL (TpL.new e)) (g1 H')) (f ds g2)
theorem rels_intsP : ∀ (l : List Nat) (H : Hp), Rels K cm al H (l.map fun (i : Nat) => D.int (i : Nat)) (l.map fun (i : Nat) => V.int (i : Nat))
  | [], _ => .nil
  | _ :: l, H => .cons (.int _) (rels_intsP l H)
theorem forall_map {α β γ : Type} {R : β → γ → Prop} {f : α → β} {g : α → γ} (h : ∀ a, R (f a) (g a)) : ∀ l : List α, F2 R (l.map f) (l.map g)
  | [] => .nil
  | a :: l => .cons (h a) (forall_map h l)
theorem me_lstPm {p2 p3 pos2 pos3 : Pos} (hc : X.calm = true) (hg : Gl X "list") (hm : X.mg "list" = none) (hg2 : Gl X "permutations") (hm2 : X.mg "permutations" = some (.type "itertools.permutations")) (hg3 : Gl X "range") (hm3 : X.mg "range" = none) (ha : ME X cm W a ga)
    (na : starEach [a] X.env = (false, eval a X.env) :: starEach [] X.env := by rfl)
    (nb : starEach [.Call (.Name "range" p3) [a] [] pos3] X.env = (false, eval (.Call (.Name "range" p3) [a] [] pos3) X.env) :: starEach [] X.env := by rfl)
    (nc : starEach [.Call (.Name "permutations" p2) [.Call (.Name "range" p3) [a] [] pos3] [] pos2] X.env = (false, eval (.Call (.Name "permutations" p2) [.Call (.Name "range" p3) [a] [] pos3] [] pos2) X.env) :: starEach [] X.env := by rfl) :
    ME X cm W (.Call (.Name "list" p) [.Call (.Name "permutations" p2) [.Call (.Name "range" p3) [a] [] pos3] [] pos2] [] pos) (gLstPm ga) := by
  refine (pe_lstPm hc hg hm hg2 hm2 (prg_1 hg3 hm3 ha na) nb nc).imp fun σ H Q h => ?_
  obtain ⟨al, lo, h, L, S, q⟩ := h
  refine ⟨al, lo, h, L, S, tE_bind (rel := relD X.K cm) q fun al1 h1 d v H1 e1 S1 r1 q1 => ?_⟩
  cases r1 with
  | int n =>
    simp only at q1
    split at q1
    · rename_i hb
      refine ⟨n, rfl, n.toNat, by omega, rfl, by omega, fun as H2 Sa A hS => ?_⟩
      obtain ⟨k, s, f⟩ := allNew_ok (K := X.K) (cm := cm) (al := al1) A
      have e2 : Ext al1 H1 al1 H2 := ⟨List.prefix_refl _, k⟩
      have rr : Rels X.K cm al1 H2 (permsD n.toNat) (as.map V.ref) := by
        have := f ((List.range (many n.toNat)).map fun j => ((tab n.toNat j).take n.toNat).map fun (i : Nat) => D.int (i : Nat)) fun H => by
          unfold rowsV
          exact forall_map (fun j => rels_intsP _ H) _
        rw [List.map_map] at this
        exact this
      exact (Post.newL (Post.later e2 q1) (s S1) rr).2 Sa hS
    · exact q1.elim
  | _ => exact q1.elim
end
end Mach
end
end

section
set_option Elab.async false
set_option linter.all false
set_option maxRecDepth 100000
set_option maxHeartbeats 2100000
namespace Mach
open PySem PySem.Spec L2

/-! ### own exceptions as values; an own __init__ of super().__init__('m'); self.f = x -/
/-- the class at C: over ValueError, with its own dict -/
def oexIn (K : PySem.W.Frag) (C : Addr) : Bool := match K.lookup C with
  | some ⟨.type "type", _, .cls dat, row⟩ => (match dat.mro, row.toList with
    | .ref C' :: bm, [_, _, _, _, some (.builtin n), _] => C' == C && n == "ValueError.__new__" && !dat.hasDel && dat.hasDict && PySem.HandSPX.refsVE bm
    | _, _ => false)
  | _ => false
theorem oex_obj {K : PySem.W.Frag} {C : Addr} (q : oexIn K C = true) : ∃ nm qn N bs bm sn sub ab col dd k0 k1 k2 k3 k5,
    K.lookup C = some (excClassObj nm qn C N bs bm true sn sub ab col dd k0 k1 k2 k3 k5 "ValueError.__new__") ∧ PySem.HandSPX.refsVE bm = true := by
  unfold oexIn at q
  split at q
  · rename_i dd cd sl ho
    split at q
    · rename_i C' bm k0 k1 k2 k3 n k5 hm hs; simp only [Bool.and_eq_true, beq_iff_eq, Bool.not_eq_true'] at q
      obtain ⟨⟨⟨⟨rfl, rfl⟩, hdel⟩, hd⟩, hr⟩ := q
      obtain ⟨nm, bs, mro, ns, qn, hdi, sn, sb, ab, col, del⟩ := cd
      dsimp only at hm hdel hd
      subst hm hdel hd
      have hsl : sl = #[k0, k1, k2, k3, some (.builtin "ValueError.__new__"), k5] := by
        obtain ⟨l⟩ := sl
        simp only at hs
        rw [hs]
      subst hsl
      exact ⟨nm, qn, ns, bs, bm, sn, sb, ab, col, dd, k0, k1, k2, k3, k5, ho, hr⟩
    · cases q
  · cases q
structure XIn (P : Program) (K : PySem.W.Frag) (mg : Str → Option Value) (C fI cc cda : Addr) (qual sf prm m f : Str) (ps : Arguments) (sc : Scope) (p0 p1 p2 p3 p4 p5 p6 p7 p8 p9 : Pos) (j : Nat) (kV doc pm ct : Value) (an : Option Addr) : Prop where
  gC : mg "super" = none
  ox : oexIn K C = true
  sat : PySem.W.findIn K (.ref C) "__setattr__" = some (some (.builtin "object.__setattr__"))
  no : PySem.W.findIn K (.ref C) f = some none
  kpC : PySem.W.keepIn K (.ref C) = true
  iC : PySem.W.findIn K (.ref C) "__init__" = some (some (.ref fI))
  tI : PySem.W.typeIn K (.ref fI) = some (.type "function")
  mC : PySem.W.mroIn K C (.ref C) = some true
  vC : PySem.W.subIn K (.ref C) (.type "ValueError") = some true
  su : PySem.W.ks_superIn K C C "__init__" = some (some (.builtin "ValueError.__init__"))
  op : PySem.W.nsIn K cStatics "thirdparty.any" = some none
  lk : ∃ oc od osl, K.lookup fI = some ⟨oc, od, .func (PySem.W.ksFn "__init__" qual ps [.Expr (.Call (.Attribute (.Call (.Name "super" p0) [] [] p1) "__init__" p2) [.Constant (.str m) j p3] [] p4) p5, .Assign [.Attribute (.Name sf p6) f p7] (.Name prm p8) p9] sc .none kV doc pm an (.ref cda) ct cc), osl⟩
  cd : PySem.W.codeIn K (.ref cda) qual = true
  cf : ∃ ccl cdd vs ccs tf, K.lookup cda = some ⟨ccl, cdd, .fields vs, ccs⟩ ∧ vs[2]? = some (.str P.main.file tf)
  cl : ∃ l d sl, K.lookup cc = some ⟨l, d, .cell (some (.ref C)), sl⟩
  hp : ∃ ar, (ps.posonlyargs ++ ps.args).head? = some ar ∧ ar.arg = sf
  bd : ∀ (s : Shared) (u v : Value), BindsTo s (PySem.W.ksFn "__init__" qual ps [.Expr (.Call (.Attribute (.Call (.Name "super" p0) [] [] p1) "__init__" p2) [.Constant (.str m) j p3] [] p4) p5, .Assign [.Attribute (.Name sf p6) f p7] (.Name prm p8) p9] sc .none kV doc pm an (.ref cda) ct cc) ⟨[u, v], []⟩ [(sf, u), (prm, v)]
  ne : (prm == sf) = false
  ks : sc.names.lookup ("super" : Str) = some .globalImplicit
  kc : sc.names.lookup ("__class__" : Str) = some .free
  kS : sc.names.lookup sf = some .local
  kP : sc.names.lookup prm = some .local
  dS : (sf == ("__debug__" : Str)) = false
  dP : (prm == ("__debug__" : Str)) = false
  nc : ∀ x ∈ sc.names, x.2 ≠ .cell
  co : sc.isCoroutine = false
  gn : sc.isGenerator = false
  kk : sc.kind = .function
  tp : (P.main.scope.names.lookup ("super" : Str)).isSome = false
  ev : ∃ pl : Addr → Sem Bool, ∀ L, eval (.Call (.Attribute (.Call (.Name "super" p0) [] [] p1) "__init__" p2) [.Constant (.str m) j p3] [] p4) (PySem.W.ksEnv qual sc L fI (.ref cda) cc) = (do
      let ov ← attributeBase (.Call (.Name "super" p0) [] [] p1) "__init__" (PySem.W.ksEnv qual sc L fI (.ref cda) cc) (eval (.Call (.Name "super" p0) [] [] p1) (PySem.W.ksEnv qual sc L fI (.ref cda) cc))
      standAt p2.atName
      let (g, first) ← holding [ov] (getMethod ov "__init__" (pl L))
      callWith p4 g first (backTo p4 (starEach [.Constant (.str m) j p3] (PySem.W.ksEnv qual sc L fI (.ref cda) cc))) [])
  it : ∀ L, interactive (PySem.W.ksEnv qual sc L fI (.ref cda) cc) = false
  sw1 : ∀ env : Env, swapsWith (.Name prm p8) (some (.Attribute (.Name sf p6) f p7)) p9.line env = pure false
  sw2 : ∀ env : Env, swapsWith (.Call (.Attribute (.Call (.Name "super" p0) [] [] p1) "__init__" p2) [.Constant (.str m) j p3] [] p4) none p5.line env = pure false
section
open PySem.W PyProof.Rows PySem.Calls
variable {P : Program} {w : World} {A : Around} {R : Result → Shared → Prop} {s : Shared} {K : Frag} {mg mb : Str → Option Value} {C fI cc cda : Addr} {qual sf prm m f : Str} {ps : Arguments} {sc : Scope} {p0 p1 p2 p3 p4 p5 p6 p7 p8 p9 : Pos} {j : Nat} {kV doc pm ct : Value} {an : Option Addr}
theorem super_init (T : XIn P K mg C fI cc cda qual sf prm m f ps sc p0 p1 p2 p3 p4 p5 p6 p7 p8 p9 j kV doc pm ct an) (X : K.In s.heap) (G : s.heap.Ns mainGlobals mg) (Bn : s.heap.Ns builtinsNs mb) (bs : mb "super" = some (.type "super")) (lim : s.heap.NoLimit) (room : A.depth < recursionLimit)
    {a t0 : Addr} {u : Value} (ha : s.heap.get? a = some (PySem.HandSPX.excO C t0)) (na : ∀ o, K.lookup a ≠ some o)
    (h : ∀ h' tk dx t1, (∀ b o, b ≠ a → s.heap.get? b = some o → h'.get? b = some o) → s.heap.objs.size ≤ dx → dx ≠ a → h'.get? a = some { cls := .ref C, dict := some dx, data := .fields #[.ref t1, .none, .none, .none, .bool false, .none] } →
      h'.Ns1 dx (fun y => if y = f then some u else none) → R (.ok (.ret .none)) { s with heap := h', toks := tk }) :
    codeAny (model P w) A (.call (.ref fI) ⟨[.ref a, u], []⟩) R s := by
  obtain ⟨oc, od, osl, look⟩ := T.lk
  obtain ⟨ccl, cdd, vs, ccs, tf, hcode, hvs⟩ := T.cf
  obtain ⟨cl, cld, csl, hcell⟩ := T.cl
  obtain ⟨ar, har, hsf⟩ := T.hp
  obtain ⟨nm, qn, N, bs', bm, sn, sub, ab, col, dd, k0, k1, k2, k3, k5, hC, hbm⟩ := oex_obj T.ox
  have hcl : clsIn K C = some { name := nm, bases := bs', mro := .ref C :: bm, ns := N, qualname := qn, hasDict := true, slotNames := sn, subclasses := sub, abstract := ab, collection := col, hasDel := false } := by unfold clsIn; rw [hC] <;> rfl
  have ne := T.ne
  obtain ⟨pl, hev⟩ := T.ev
  refine ks_codeAny_call_defAt (binds := [(sf, .ref a), (prm, u)]) room (X _ _ look) rfl lim (codeRec_of X T.cd) rfl (T.bd _ _ _) T.nc (fun y hy => ?_) (fun h₁ hns hk => ?_) T.co T.gn T.kk
  · have two : y = (sf, Value.ref a) ∨ y = (prm, u) := by simpa using hy
    rcases two with rfl | rfl
    · exact T.kS
    · exact T.kP
  have X1 : K.In h₁ := X.keeps hk
  have ha1 := hk _ _ ha
  have hL : s.heap.get? s.heap.objs.size = none := by
    rcases z : s.heap.get? s.heap.objs.size with _ | o
    · rfl
    · exact absurd (Heap.lt_size z) (Nat.lt_irrefl _)
  have haL : a ≠ s.heap.objs.size := fun e => by rw [e, hL] at ha; cases ha
  obtain ⟨hh, g, d, t, os⟩ := s
  dsimp only at *
  have hS : (List.reverse [(sf, Value.ref a), (prm, u)]).lookup sf = some (.ref a) := by
    show ([(prm, u), (sf, Value.ref a)] : List (Str × Value)).lookup sf = _
    have e : (sf == prm) = false := by rw [beq_eq_false_iff_ne] at ne ⊢; exact fun z => ne z.symm
    rw [List.lookup_cons, e, List.lookup_cons, beq_self_eq_true]
  have hP : (List.reverse [(sf, Value.ref a), (prm, u)]).lookup prm = some u := by
    show ([(prm, u), (sf, Value.ref a)] : List (Str × Value)).lookup prm = _
    rw [List.lookup_cons, beq_self_eq_true]
  refine ks_wpAt_execs_cons (ks_wpAt_Expr_any (ks_wpAt_MethodCall (pl := pl hh.objs.size) ?_ (hev _)) (T.it _) (T.sw2 _))
  have hxC : a ≠ C := fun e => by
    rw [e, X1 _ _ hC] at ha1
    cases ha1
  refine ks_wpAt_super_base (env := ksEnv qual sc _ fI (.ref cda) cc) T.ks T.kc (by decide) rfl (X1 _ _ look) rfl har rfl (X1 _ _ hcode) rfl hvs (by simp) T.tp ?_
  refine ks_loadName_global T.kk T.ks (Calls.loadGlobal_builtin (env := ksEnv qual sc _ fI (.ref cda) cc) (G.keeps hk) T.gC (Bn.keeps hk) bs ⟨rfl, ?_⟩)
  refine wpAny_loadName_free T.kk T.kc rfl ⟨_, X1 _ _ hcell, rfl⟩ ?_
  rw [hsf]
  refine wpAny_loadName_local T.kk T.kS hns hS ?_
  refine ks_wpAny_isType_cls (X1 _ _ hC) rfl ⟨rfl, ?_⟩
  refine ks_wpAny_call_super (X1 _ _ hC) rfl ha1 rfl (fun c e => nomatch e) (looks_mroIn X1 T.mC) (fun h2 e2 kk2 => ?_)
  have X2 : K.In h2 := X1.keeps kk2
  have ha2 := kk2 _ _ ha1
  have I2 : InstAt h2 a (PySem.HandSPX.excO C t0) C none := ⟨ha2, rfl, rfl, trivial⟩
  have hm := T.su
  unfold ks_superIn at hm
  rw [hcl] at hm
  refine kxs_getMethod kxs_ValueError e2 (looks_opaque X2 T.op) (l₀ := .ref C :: bm) (fun A Q E s k q => wpAny_bind ((looks_clsIn X2 hcl) A _ E s k (wpAny_pure q))) rfl X2 hm (I2.type.andThen (looks_subIn X2 T.vC)) hxC (by decide) ?_
  have k3 : ∀ b o, h2.get? b = some o → (h2.push (kxs_mw "ValueError.__init__" a)).get? b = some o := fun b o e => Heap.get?_push_of_some _ e
  have hu : (h2.push (kxs_mw "ValueError.__init__" a)).get? h2.objs.size = some (kxs_mw "ValueError.__init__" a) := Heap.get?_push_at rfl rfl
  refine kxs_callWith (i := "ValueError.__init__") (x := a) rfl ?_
  refine evalArgs_plain (x := eval (.Constant (.str m) j p3) (ksEnv qual sc hh.objs.size fI (.ref cda) cc)) (rest := []) (spliced_cons (Constant_str (spliced_nil ⟨hu, ?_⟩)))
  show wpAny _ _ (call (.ref h2.objs.size) [_]) _ _ _
  have ha3 := k3 _ _ ha2
  refine wpAny_call (codeAny_of_tree ?_); show wpAny _ _ (callAny (.ref h2.objs.size) ⟨[_], []⟩) _ _ _
  simp only [callAny]
  refine wpAny_bind (wpAny_load hu ?_); simp only [kxs_mw, show (Value.type "method-wrapper" == Value.type "method" || Value.type "method-wrapper" == Value.type "builtin_function_or_method" || Value.type "method-wrapper" == Value.type "method-wrapper") = true by decide, if_true]
  refine KFB.if_so (by decide) ?_; refine wpAny_bind (check_bound_init PySem.F.excBase_ValueError.toExcCallFacts ((X2.keeps k3) _ _ hC) ha3 rfl ?_)
  refine wpAny_bind (wpAny_pure (wpAny_pure ?_)); refine ⟨plainId_quiet PySem.F.excBase_ValueError.init.plain _, codeAny_builtin PySem.F.excBase_ValueError.initEntry ?_⟩
  refine exc_init_tree (cls := .ref C) (t0 := t0) (dv := none) (c2 := .none) (c3 := .none) (b4 := .bool false) ha3 (by rw [sizeLine_eq]; show 1 ≤ 16777216; decide) (fun h4 k4 e4 _ => ?_)
  show _root_.PySem.wpAt _ _ _ (execs _ _) _ _ _
  have hL4 : h4.Ns hh.objs.size (fun y => (List.reverse [(sf, Value.ref a), (prm, u)]).lookup y) := by
    obtain ⟨oL, es, ep, hL1, r⟩ := hns
    exact ⟨oL, es, ep, k4 _ _ (fun z => haL z.symm) (k3 _ _ (kk2 _ _ hL1)), r⟩
  have K4 : ∀ b o, b ≠ a → hh.get? b = some o → h4.get? b = some o := fun b o z e => k4 b o z (k3 _ _ (kk2 _ _ (hk _ _ e)))
  have X4 : K.In h4 := fun b o e => by
    by_cases z : b = a
    · rw [z] at e
      exact absurd e (na o)
    · exact K4 b o z (X b o e)
  refine ks_wpAt_execs_cons (ks_wpAt_Assign_Attr (wpAt_of_wpAny (wpAny_Name (wpAny_loadName_local T.kk T.kP hL4 hP ?_) T.dP)) (T.sw1 _))
  refine wpAny_Name (wpAny_loadName_local T.kk T.kS hL4 hS ?_) T.dS
  have I4 : InstAt h4 a { cls := .ref C, dict := none, data := .fields #[.ref (h2.push (kxs_mw "ValueError.__init__" a)).objs.size, .none, .none, .none, .bool false, .none] } C none := ⟨e4, rfl, rfl, trivial⟩
  refine set_plain X4 I4 T.sat ?_
  refine PySem.HandSPX.exc_osa X4 e4 hcl (show PySem.HandSPX.refsVE (.ref C :: bm) = true from hbm) rfl T.no (fun h5 tk5 dx k5 dn dne hx hn => ?_)
  show _root_.PySem.wpAt _ _ _ (execs [] _) _ _ _
  have fin := h h5 tk5 dx _ (fun b o z e => k5 b o z (K4 b o z e)) ?_ dne hx hn
  · exact wpAt_of_wpAny (wpAny_pure fin)
  · exact Nat.le_trans (Nat.le_of_lt (Heap.lt_size (k4 _ _ (fun z => haL z.symm) (k3 _ _ (kk2 _ _ hns.choose_spec.choose_spec.choose_spec.1))))) dn
end
/-- where a class with such an __init__ stands -/
structure XInit (P : Program) (K : PySem.W.Frag) (mg : Str → Option Value) (cm : Str → Option Addr) (c f : Str) : Prop where
  ex : ∃ C fI cc cda qual sf prm m ps sc p0 p1 p2 p3 p4 p5 p6 p7 p8 p9 j kV doc pm ct an, mg c = some (.ref C) ∧ cm c = some C ∧ XIn P K mg C fI cc cda qual sf prm m f ps sc p0 p1 p2 p3 p4 p5 p6 p7 p8 p9 j kV doc pm ct an
theorem xo_ok {P : Program} {w : World} {H : Hp} {h : Heap} {a C : Addr} {d : Option Addr} {oe : Obj} {vs : Array Value} (e : h.get? a = some oe) (z : Zc (.ref C) d oe) (hd : oe.data = .fields vs) : ObjOk P w H h a (XO C d a) :=
  ⟨⟨oe, vs, e, z, hd⟩, ⟨oe, e⟩, fun h1 h2 ⟨o, v, q, r⟩ k => ⟨o, v, k o q, r⟩⟩
def gNewX (c : Str) : GE := fun lo h => .ok (.ref h.length) (h ++ [.exc c []])
def gNewF (c f : Str) (a : GE) : GE := fun lo h => (a lo h).bind fun d h1 => .ok (.ref h1.length) (h1 ++ [.exc c [(f, d)]])
section
variable {X : Cx} {cm : Str → Option Addr} {W : WX} {e : Expr} {ge : GE} {x m c f : Str} {p p2 p3 pos : Pos} {j k : Nat}
/-- c('m'), no own __init__ -/
theorem me_newX (T : ExcA X.K X.mg cm x) (hg : Gl X x) (hdb : (x == ("__debug__" : Str)) = false := by decide) : ME X cm W (.Call (.Name x p) [.Constant (.str m) j p2] [] p3) (gNewX x) := by
  refine ⟨fun pins s σ H Q I hyp => ?_⟩
  obtain ⟨al, lo, h, L, S, q⟩ := hyp
  obtain ⟨C, T⟩ := T.ex
  refine wpAny_Call_Name_kw (ld_glob I hg T.g ?_ hdb)
  have ha : PA X [.Constant (.str m) j p2] (tCons (tC (.str m)) tNil) := pa_cons pe_str pa_nil; refine PySem.W.callWith_K (h₀ := X.base) I.ok.mod.kin T.kp (thn (ha.run p3 pins s σ H (fun vs H1 => vs = [V.str m] ∧ H = H1) I ⟨rfl, rfl⟩) fun us s1 hh => ?_)
  obtain ⟨vs, H1, I1, r1, ev, eH⟩ := hh; subst ev
  rw [← eH] at I1
  refine ⟨I1.kIn, ?_⟩
  cases r1 with
  | cons ru rn =>
    rename_i u us'
    cases rn
    show wpAny _ _ (call (.ref C) [u]) _ _ _; obtain ⟨bm, N, nm, qn, bs, hdct, sn, sub, ab, col, dd, k0, k1, k2, k3, k5, mN, hC, hN, hni, Tl⟩ := exc_obj I1.kIn T.q
    refine wpAny_call_exc_subT PySem.F.excBase_ValueError Tl hC hN hni (fun h' a hm => ?_) (by show 1 ≤ sizeLine; rw [sizeLine_eq]; omega)
    have hn : H a = none := I1.hok.gone hm.new
    obtain ⟨t, ht, _, _⟩ := hm.there; have ext : Ext al H (al ++ [a]) (upd H a (XO C none a)) := ⟨List.prefix_append _ _, Keep.new hn⟩
    have S2 : Sim X.K cm (al ++ [a]) (h ++ [.exc x []]) (upd H a (XO C none a)) := S.newO hn ⟨C, none, T.c, upd_same, rfl⟩
    exact ⟨.ref a, upd H a (XO C none a), I1.laidN hm.keeps hm.new hn (xo_ok ht ⟨rfl, rfl⟩ rfl), rfl, q _ _ _ ext S2 (.ref (S.ext_get a))⟩
/-- c(e), its own __init__ keeping e in the field f -/
theorem me_newF (T : XInit X.prog X.K X.mg cm c f) (room : Room k X.A) (hk : 1 ≤ k) (hg : Gl X c) (he : ME X cm W e ge) (hs : starEach [e] X.env = (false, eval e X.env) :: starEach [] X.env := by rfl) (hdb : (c == ("__debug__" : Str)) = false := by decide) :
    ME X cm W (.Call (.Name c p) [e] [] pos) (gNewF c f ge) := by
  obtain ⟨C, fI, cc, cda, qual, sf, prm, m, ps, sc, p0, p1, p2, p3, p4, p5, p6, p7, p8, p9, j, kV, doc, pm, ct, an, hm, hc, T⟩ := T.ex
  refine ⟨fun pins s σ H Q I hyp => ?_⟩
  obtain ⟨al, lo, h, L, S, q⟩ := hyp
  refine wpAny_Call_Name_kw (ld_glob I hg hm ?_ hdb); refine PySem.W.callWith_K (h₀ := X.base) I.ok.mod.kin T.kpC ?_ hs (by rfl)
  rw [hs]
  show wpAny _ _ (spliced ((false, eval e X.env) :: backTo pos (starEach [] X.env))) _ _ s; have arg : tE X.K cm W ge σ H (fun v H1 => ∃ al1 h1 d, Sim X.K cm al1 h1 H1 ∧ Rel X.K cm al1 H1 d v ∧ Post X.K cm (relD X.K cm) al1 H1 Q (fun c d H' => W c d σ H') (.ok (.ref h1.length) (h1 ++ [.exc c [(f, d)]]))) :=
    ⟨al, lo, h, L, S, tE_bind (rel := relD X.K cm) q fun al1 h1 d v H1 e1 S1 r1 q1 => ⟨al1, h1, d, S1, r1, q1⟩⟩
  refine Calls.spliced_cons (thn (he.run pins s σ H _ I arg) fun u s1 ⟨v, H1, I1, r1, al1, h1, d, S1, rd, q1⟩ => ?_)
  refine Calls.spliced_nil ⟨I1.kIn, ?_⟩; show wpAny _ _ (call (.ref C) [u]) _ _ _
  obtain ⟨nm, qn, N, bs, bm, sn, sub, ab, col, dd, k0, k1, k2, k3, k5, hC, hbm⟩ := oex_obj T.ox
  obtain ⟨mb, hB, hBv⟩ := I1.mod.blt
  have bk := I1.bk
  have lim := I1.nolimit
  have glob := I1.mod.glob
  obtain ⟨hp, g, dr, tk, os⟩ := s1; have kk : ∀ b o, hp.get? b = some o → ((hp.push (PySem.W.kdv_tup [u])).push (PySem.HandSPX.excO C hp.objs.size)).get? b = some o := fun b o e => Heap.get?_push_of_some _ (Heap.get?_push_of_some _ e)
  have hget : ((hp.push (PySem.W.kdv_tup [u])).push (PySem.HandSPX.excO C hp.objs.size)).get? (hp.objs.size + 1) = some (PySem.HandSPX.excO C hp.objs.size) := by heap_get
  have hnew : hp.get? (hp.objs.size + 1) = none := by
    cases z : hp.get? (hp.objs.size + 1) with
    | none => rfl
    | some o => exact absurd (Heap.lt_size z) (Nat.not_lt.mpr (Nat.le_succ _))
  have far : ∀ {b : Addr} {o : Obj}, hp.get? b = some o → b ≠ hp.objs.size + 1 := fun {b o} z w => by rw [w, hnew] at z; cases z
  have roomU : Room 0 (X.A.under (.builtin "type.__call__" ⟨.ref C :: [u], []⟩)) := (room.mono hk).make C [u] []
  refine wpAny_call (PySem.HandSPX.call_own PySem.F.excBase_ValueError (fun Y => PySem.HandSPX.refsVE_contains Y bm hbm) (I1.kIn _ _ hC) (PySem.W.looks_findIn I1.kIn T.iC) (fun self => PySem.W.bind_fn I1.kIn self T.tI) (by show 1 ≤ sizeLine; rw [sizeLine_eq]; omega)
    (super_init (mb := mb) T (I1.kIn.keeps kk) (glob.keeps fun b o z => kk b o (bk b o z)) (hB.keeps fun b o z => kk b o (bk b o z)) ((hBv "super" (by decide)).trans PyProof.Rows.Boot.«super») (lim.keeps kk) roomU.depth hget (fun o z => by have w := I1.kIn _ _ z; rw [hnew] at w; cases w) fun h' tk' dx t1 k dn dne hx hn => ?_))
  have kh : ∀ b o, hp.get? b = some o → h'.get? b = some o := fun b o z => k b o (far z) (kk b o z)
  have hsz : hp.objs.size ≤ dx := by
    refine Nat.le_trans ?_ dn
    exact Nat.le_trans (Nat.le_succ _) (Nat.le_of_lt (Heap.lt_size hget))
  have nx : hp.get? dx = none := by
    cases z : hp.get? dx with
    | none => rfl
    | some o => exact absurd (Heap.lt_size z) (Nat.not_lt.mpr hsz)
  have Hx : H1 dx = none := I1.hok.gone nx
  have Ha : H1 (hp.objs.size + 1) = none := I1.hok.gone hnew
  have Ha2 : upd H1 dx (.xd [(f, v)]) (hp.objs.size + 1) = none := by rw [upd_ne (fun z => dne z.symm)]; exact Ha
  have new1 : ObjOk X.prog X.w (upd H1 dx (.xd [(f, v)])) h' dx (.xd [(f, v)]) := ⟨_, hn, fun y => relO_put (fs := []) (mA := fun _ => none) r1 (fun _ => True.intro) y⟩
  have un1 : Un X.fs [] H1 (upd H1 dx (.xd [(f, v)])) hp hp := Un.laidN (fun _ _ z => z) nx Hx
  have un2 : Un X.fs [] (upd H1 dx (.xd [(f, v)])) (upd (upd H1 dx (.xd [(f, v)])) (hp.objs.size + 1) (XO C (some dx) (hp.objs.size + 1))) hp h' := Un.laidN kh hnew Ha2
  have ok1 := HOk.laidN I1.hok kh Hx new1
  have ok2 := HOk.laidN ok1 (fun _ _ z => z) Ha2 (xo_ok hx ⟨rfl, rfl⟩ rfl)
  have k1 : Keep H1 (upd H1 dx (.xd [(f, v)])) := Keep.new Hx
  have S2 := (S1.other (o := .xd [(f, v)]) Hx).newO (u := XO C (some dx) (hp.objs.size + 1)) (o := .exc c [(f, d)]) Ha2 ⟨C, some dx, hc, upd_same, by simp, [(f, v)], by rw [upd_ne dne]; exact upd_same, rfl, .cons ((rd.mono (List.prefix_refl _) k1).mono (List.prefix_append _ _) (Keep.new Ha2)) .nil⟩
  have ext : Ext al1 H1 (al1 ++ [hp.objs.size + 1]) (upd (upd H1 dx (.xd [(f, v)])) (hp.objs.size + 1) (XO C (some dx) (hp.objs.size + 1))) := ⟨List.prefix_append _ _, k1.trans (Keep.new Ha2)⟩
  exact ⟨rfl, .ref (hp.objs.size + 1), _, I1.un (un1.trans un2) ok2, rfl, q1 _ _ _ ext S2 (.ref (S1.ext_get _))⟩
end

/-! ### isinstance and fields of such an exception -/
structure VeK (K : PySem.W.Frag) (cm : Str → Option Addr) (sup : Str → Str → Option Bool) : Prop where
  ve : ∀ c C b, sup c c = some b → cm c = some C → PySem.W.kitOne K (.ref C) (.type "ValueError") = some true
def rIsE (K : PySem.W.Frag) (cm : Str → Option Addr) : List V → Hp → VK → Prop := fun xs H Q => ∃ a C d y b, xs = [.ref a, y] ∧ H a = some (XO C d a) ∧ (∀ dx, d = some dx → ∃ vs, H dx = some (.xd vs)) ∧ (∀ t, RelV y t → PySem.W.kitOne K (.ref C) t = some b) ∧
  PySem.W.findIn K (.ref C) "__getattribute__" = some (some (.builtin "BaseException.__getattribute__")) ∧ PySem.W.findIn K (.ref C) "__getattr__" = some none ∧ PySem.W.subIn K (.ref C) (.type "BaseException") = some true ∧ PySem.W.hasDictIn K C = true ∧
  PySem.W.findIn K (.ref C) "__class__" = some (some (.builtin "object.__class__")) ∧ PySem.W.mroIn K C (.type "object") = some true ∧
  PySem.W.specialIn K (.builtin "object.__class__") "__get__" = some (some (.builtin "getset_descriptor.__get__")) ∧ PySem.W.takesIn K (.builtin "object.__class__") = some true ∧ Q (.bl b) H
def dIsE (sup : Str → Str → Option Bool) : List D → Hq → R D
  | [.ref r, .cls t], h => match h[r]? with
    | some (.exc c _) => match sup c t with
      | some b => .ok (.bl b) h
      | none => .bad
    | _ => .bad
  | [.ref r, .ty n], h => match h[r]? with
    | some (.exc c _) => if n = "ValueError" ∧ (sup c c).isSome = true then .ok (.bl true) h else .bad
    | _ => .bad
  | _, _ => .bad
structure FldX (K : PySem.W.Frag) (cm : Str → Option Addr) (c f : Str) : Prop where
  ex : ∀ C, cm c = some C → XfC K C ∧ PySem.W.findIn K (.ref C) f = some none
def gFldX (c f : Str) (a : GE) : GE := fun lo h => (a lo h).bind fun x h1 => match x with
  | .ref r => match h1[r]? with
    | some (.exc b fs) => if b = c then (match fs.lookup f with
      | some d => .ok d h1
      | none => .bad) else .bad
    | _ => .bad
  | _ => .bad
section
variable {X : Cx} {cm : Str → Option Addr} {W : WX} {a : Expr} {ga : GE} {pos : Pos} {c f : Str}
theorem inst_of {pins : List (Addr × Obj)} {σ : L2.St} {H : Hp} {s : Shared} (I : Inv X pins σ H s) {p C : Addr} {d : Option Addr} (ho : H p = some (XO C d p)) (hx : ∀ dx, d = some dx → ∃ vs, H dx = some (.xd vs)) :
    ∃ ox od, PySem.W.InstAt s.heap p ox C od ∧ (d = none → od = none) ∧ ∀ dx, d = some dx → ∃ o, od = some o ∧ s.heap.get? dx = some o := by
  obtain ⟨⟨oe, vs, hget, hz, hd⟩, _, _⟩ := I.hok p _ ho
  obtain ⟨oc, od, odata, osl⟩ := oe
  obtain ⟨h1, h2⟩ := hz
  dsimp only at h1 h2 hd
  subst h1 h2 hd
  cases od with
  | none => exact ⟨_, none, ⟨hget, rfl, rfl, True.intro⟩, (fun _ => rfl), (fun _ z => nomatch z)⟩
  | some dx =>
    obtain ⟨vs2, hv⟩ := hx dx rfl
    have xx : ObjOk X.prog X.w H s.heap dx (.xd vs2) := I.hok dx _ hv
    obtain ⟨mA, ⟨o, es, ep, ho2, hr⟩, _⟩ := xx
    exact ⟨_, some o, ⟨hget, rfl, rfl, ho2⟩, (fun z => nomatch z), (fun dx2 z => ⟨o, rfl, by cases z; exact ho2⟩)⟩
theorem c_isE : CallR X (.builtin "isinstance") (rIsE X.K cm) := by
  intro pins s σ H xs ws Q I r h
  obtain ⟨a, C, d, y, b, rfl, ho, hx, hk, g1, g2, g3, g4, g5, g6, g7, g8, q⟩ := h
  obtain ⟨w1, w2, rfl, r1, r2⟩ := vals2 r
  have e1 : w1 = Value.ref a := r1
  subst e1
  obtain ⟨ox, od, J, _, _⟩ := inst_of I ho hx
  have hcl : (PySem.W.clsIn X.K C).isSome = true := by
    obtain ⟨cd, e, _⟩ := PySem.W.any_some g4
    rw [e]
    rfl
  exact PySem.W.kia_one (PySem.W.kitx_exc hcl g1 g2 g3 g5 g7 g8 g6) I.kIn J (hk w2 r2) (fun z => nomatch z) fun tk => ⟨.bl b, H, I.kept (t' := tk) fun _ _ z => z, rfl, q⟩
theorem xd_of {K : PySem.W.Frag} {al : List Addr} {H : Hp} {fs : List (Str × D)} {d : Option Addr} (h : FsR K cm al H fs d) : ∀ dx, d = some dx → ∃ vs, H dx = some (.xd vs) := fun dx e => by
  subst e
  obtain ⟨_, vs, e, _⟩ := h
  exact ⟨vs, e⟩
theorem ok_isE {sup : Str → Str → Option Bool} (T : SupK X.K cm sup) (V : VeK X.K cm sup) : RCok X cm (rIsE X.K cm) (dIsE sup) := by
  intro al h H xs ds Q S rs q
  cases rs with
  | nil => exact q.elim
  | cons r1 rr =>
    cases rr with
    | nil => cases r1 <;> exact q.elim
    | cons r2 rr =>
      cases rr with
      | cons _ _ => cases r1 <;> cases r2 <;> exact q.elim
      | nil =>
        cases r1 with
        | ref hx =>
          cases r2 with
          | cls ht =>
            rename_i r p t C2
            simp only [dIsE] at q
            split at q
            · rename_i c fs eo
              cases es : sup c t with
              | none => rw [es] at q; exact q.elim
              | some b =>
                rw [es] at q
                obtain ⟨C, d, hc, ho, hf⟩ := S.obs r p _ hx eo
                exact ⟨p, C, d, .ref C2, b, rfl, ho, xd_of hf, fun t2 e2 => by have e3 : t2 = Value.ref C2 := e2; rw [e3]; exact T.own c C t C2 b es hc ht, T.ga c C t b es hc, T.gg c C t b es hc, T.sb c C t b es hc, T.hd c C t b es hc, T.cl c C t b es hc, T.mo c C t b es hc, T.hn, T.ht, q.here S (.bl b)⟩
            · exact q.elim
          | ty n =>
            rename_i r p
            simp only [dIsE] at q
            split at q
            · rename_i c fs eo
              split at q
              · rename_i hn
                obtain ⟨hn, hs⟩ := hn
                subst hn
                obtain ⟨b, es⟩ := Option.isSome_iff_exists.mp hs
                obtain ⟨C, d, hc, ho, hf⟩ := S.obs r p _ hx eo
                exact ⟨p, C, d, .ty "ValueError", true, rfl, ho, xd_of hf, fun t2 e2 => by have e3 : t2 = Value.type "ValueError" := e2; rw [e3]; exact V.ve c C b es hc, T.ga c C c b es hc, T.gg c C c b es hc, T.sb c C c b es hc, T.hd c C c b es hc, T.cl c C c b es hc, T.mo c C c b es hc, T.hn, T.ht, q.here S (.bl true)⟩
              · exact q.elim
            · exact q.elim
          | _ => exact q.elim
        | _ => cases r2 <;> exact q.elim
theorem me_fldX (T : FldX X.K cm c f) (ha : ME X cm W a ga) (hb : attributeBase a f X.env (eval a X.env) = eval a X.env := by rfl) : ME X cm W (.Attribute a f pos) (gFldX c f ga) := by
  refine ⟨fun pins s σ H Q I hyp => ?_⟩
  obtain ⟨al, lo, h, L, S, q⟩ := hyp
  have arg : tE X.K cm W ga σ H (fun x H1 => ∃ p C dx vs v, x = .ref p ∧ cm c = some C ∧ H1 p = some (XO C (some dx) p) ∧ H1 dx = some (.xd vs) ∧ vs.lookup f = some v ∧ Q v H1) := by
    refine ⟨al, lo, h, L, S, tE_bind (rel := relD X.K cm) q fun al1 h1 d v H1 e1 S1 r1 q1 => ?_⟩
    cases r1 with
    | ref hx =>
      simp only at q1
      split at q1
      · rename_i b fs eo
        split at q1
        · rename_i hbc
          subst hbc
          split at q1
          · rename_i d ed
            obtain ⟨C, d2, hc, hv, t⟩ := S1.obs _ _ _ hx eo
            cases d2 with
            | none =>
              have t0 : fs = [] := t
              rw [t0] at ed
              cases ed
            | some dx =>
              obtain ⟨_, vs, e2, n, t2⟩ := t
              obtain ⟨v, ev, rv⟩ := fld_get n t2 ed
              exact ⟨_, C, dx, vs, v, rfl, hc, hv, e2, ev, q1.here S1 rv⟩
          · exact q1.elim
        · exact q1.elim
      · exact q1.elim
    | _ => exact q1.elim
  refine attr_of hb (thn (ha.run pins s σ H _ I arg) fun u s1 hh => ?_)
  obtain ⟨x, H1, I1, rx, p, C, dx, vs, v, rfl, hc, ho, hx, l, q⟩ := hh
  obtain rfl : u = Value.ref p := rx; obtain ⟨k1, k2⟩ := T.ex C hc
  obtain ⟨ox, od, J, _, hod⟩ := inst_of I1 ho (fun dx2 z => by cases z; exact ⟨vs, hx⟩)
  obtain ⟨o, eo, ho2⟩ := hod dx rfl
  subst eo
  have xx : ObjOk X.prog X.w H1 s1.heap dx (.xd vs) := I1.hok dx _ hx
  obtain ⟨mA, hns, hr⟩ := xx
  obtain ⟨od3, ho3, hl⟩ := lookIn_ns hns
  rw [ho2] at ho3
  cases ho3
  obtain ⟨u, hu, ru⟩ := RelO.some_of (v := v) (o := mA f) (by rw [← l]; exact hr f)
  exact HandSPX.exc_get I1.kIn J k1.ga k1.gg k1.exC (PySem.W.findObj_own k1.hdC k2 rfl (by rw [hl, hu])) (handed_of ru) ⟨v, H1, I1.tok _, ru, q⟩
theorem me_clsI {P : Program} {x : Str} (T : XInit P X.K X.mg cm x f) (hg : Gl X x) (hd : (x == ("__debug__" : Str)) = false := by decide) : ME X cm W (.Name x pos) (gK (.cls x)) := by
  obtain ⟨C, fI, cc, cda, qual, sf, prm, m, ps, sc, p0, p1, p2, p3, p4, p5, p6, p7, p8, p9, j, kV, doc, pm, ct, an, hm, hc, T⟩ := T.ex
  exact me_cls hg hm hc hd
end
theorem kit_ve {K : PySem.W.Frag} {C : Addr} (h : PySem.W.subIn K (.ref C) (.type "ValueError") = some true) : PySem.W.kitOne K (.ref C) (.type "ValueError") = some true := by
  unfold PySem.W.kitOne
  rw [if_neg (by simp)]
  show (if PySem.W.kitMeta "ValueError" = true then PySem.W.subIn K (.ref C) (.type "ValueError") else none) = some true
  rw [if_pos (by decide +kernel)]
  exact h
/-! ### many exception classes at once -/
def excRow (K : PySem.W.Frag) (C : Addr) : Bool :=
  decide (PySem.W.findIn K (.ref C) "__getattribute__" = some (some (.builtin "BaseException.__getattribute__"))) && (decide (PySem.W.findIn K (.ref C) "__getattr__" = some none) && (decide (PySem.W.subIn K (.ref C) (.type "BaseException") = some true) &&
    (PySem.W.hasDictIn K C && (decide (PySem.W.findIn K (.ref C) "__class__" = some (some (.builtin "object.__class__"))) && (decide (PySem.W.mroIn K C (.type "object") = some true) && decide (PySem.W.subIn K (.ref C) (.type "ValueError") = some true))))))
def supRow (K : PySem.W.Frag) (sup : Str → Str → Option Bool) (ns : List (Str × Addr)) : Bool := ns.all fun p => excRow K p.2 && ns.all fun q => decide (PySem.W.kitOne K (.ref p.2) (.ref q.2) = sup p.1 q.1)
theorem excRow_at {K : PySem.W.Frag} {C : Addr} (h : excRow K C = true) : PySem.W.findIn K (.ref C) "__getattribute__" = some (some (.builtin "BaseException.__getattribute__")) ∧ PySem.W.findIn K (.ref C) "__getattr__" = some none ∧ PySem.W.subIn K (.ref C) (.type "BaseException") = some true ∧
    PySem.W.hasDictIn K C = true ∧ PySem.W.findIn K (.ref C) "__class__" = some (some (.builtin "object.__class__")) ∧ PySem.W.mroIn K C (.type "object") = some true ∧ PySem.W.subIn K (.ref C) (.type "ValueError") = some true := by
  unfold excRow at h
  simp only [Bool.and_eq_true, decide_eq_true_eq] at h; exact h
theorem sup_of {K : PySem.W.Frag} {cm : Str → Option Addr} {sup : Str → Str → Option Bool} {ns : List (Str × Addr)} (inv : ∀ c C, cm c = some C → (c, C) ∈ ns) (h : supRow K sup ns = true)
    (hn : PySem.W.specialIn K (.builtin "object.__class__") "__get__" = some (some (.builtin "getset_descriptor.__get__"))) (ht : PySem.W.takesIn K (.builtin "object.__class__") = some true) : SupK K cm sup ∧ VeK K cm sup := by
  have row : ∀ c C, cm c = some C → excRow K C = true ∧ ∀ t T, cm t = some T → PySem.W.kitOne K (.ref C) (.ref T) = sup c t := fun c C e => by
    have z := List.all_eq_true.mp h _ (inv c C e)
    obtain ⟨z1, z2⟩ := Bool.and_eq_true_iff.mp z
    exact ⟨z1, fun t T e2 => of_decide_eq_true (List.all_eq_true.mp z2 _ (inv t T e2))⟩
  have at_ : ∀ c C, cm c = some C → _ := fun c C e => excRow_at (row c C e).1
  exact ⟨⟨fun c C t T b e h1 h2 => ((row c C h1).2 t T h2).trans e, hn, ht, fun c C t b e h1 => (at_ c C h1).1, fun c C t b e h1 => (at_ c C h1).2.1, fun c C t b e h1 => (at_ c C h1).2.2.1, fun c C t b e h1 => (at_ c C h1).2.2.2.1,
    fun c C t b e h1 => (at_ c C h1).2.2.2.2.1, fun c C t b e h1 => (at_ c C h1).2.2.2.2.2.1⟩, ⟨fun c C b e h1 => kit_ve (at_ c C h1).2.2.2.2.2.2⟩⟩
theorem if_inv {c x : Str} {K C : Addr} {r : Option Addr} (e : (if c = x then some K else r) = some C) : (c = x ∧ C = K) ∨ r = some C := by
  split at e
  · rename_i hc
    exact .inl ⟨hc, (Option.some.inj e).symm⟩
  · exact .inr e
end Mach
end

section
set_option Elab.async false
set_option linter.all false
set_option maxRecDepth 100000
set_option maxHeartbeats 4100000
namespace G2
open PySem PySem.Spec L2 Mach
def topS (i : Nat) : Stmt := PySem.Challenge.pw_selfsort_k03_errors.main.body.getD i (.Pass ⟨0, 0, 0, 0⟩)

def supC (c t : Str) : Option Bool := ([((Str.ofString "SortError", Str.ofString "SortError"), true), ((Str.ofString "SortError", Str.ofString "NoItems"), false), ((Str.ofString "SortError", Str.ofString "NoOrder"), false), ((Str.ofString "SortError", Str.ofString "NoItem"), false), ((Str.ofString "SortError", Str.ofString "NoPlace"), false), ((Str.ofString "SortError", Str.ofString "NoRule"), false), ((Str.ofString "SortError", Str.ofString "NoStanding"), false), ((Str.ofString "SortError", Str.ofString "NoAsks"), false), ((Str.ofString "SortError", Str.ofString "NoRules"), false), ((Str.ofString "SortError", Str.ofString "NoCase"), false), ((Str.ofString "SortError", Str.ofString "NoLot"), false), ((Str.ofString "SortError", Str.ofString "NoGoal"), false), ((Str.ofString "SortError", Str.ofString "NoLog"), false), ((Str.ofString "SortError", Str.ofString "NoNumber"), false), ((Str.ofString "SortError", Str.ofString "NoName"), false), ((Str.ofString "SortError", Str.ofString "NoRecord"), false), ((Str.ofString "SortError", Str.ofString "NoSeeker"), false), ((Str.ofString "SortError", Str.ofString "NoAnswer"), false), ((Str.ofString "SortError", Str.ofString "NoMark"), false), ((Str.ofString "SortError", Str.ofString "TooMany"), false), ((Str.ofString "NoItems", Str.ofString "SortError"), true), ((Str.ofString "NoItems", Str.ofString "NoItems"), true), ((Str.ofString "NoItems", Str.ofString "NoOrder"), false), ((Str.ofString "NoItems", Str.ofString "NoItem"), false), ((Str.ofString "NoItems", Str.ofString "NoPlace"), false), ((Str.ofString "NoItems", Str.ofString "NoRule"), false), ((Str.ofString "NoItems", Str.ofString "NoStanding"), false), ((Str.ofString "NoItems", Str.ofString "NoAsks"), false), ((Str.ofString "NoItems", Str.ofString "NoRules"), false), ((Str.ofString "NoItems", Str.ofString "NoCase"), false), ((Str.ofString "NoItems", Str.ofString "NoLot"), false), ((Str.ofString "NoItems", Str.ofString "NoGoal"), false), ((Str.ofString "NoItems", Str.ofString "NoLog"), false), ((Str.ofString "NoItems", Str.ofString "NoNumber"), false), ((Str.ofString "NoItems", Str.ofString "NoName"), false), ((Str.ofString "NoItems", Str.ofString "NoRecord"), false), ((Str.ofString "NoItems", Str.ofString "NoSeeker"), false), ((Str.ofString "NoItems", Str.ofString "NoAnswer"), false), ((Str.ofString "NoItems", Str.ofString "NoMark"), false), ((Str.ofString "NoItems", Str.ofString "TooMany"), false), ((Str.ofString "NoOrder", Str.ofString "SortError"), true), ((Str.ofString "NoOrder", Str.ofString "NoItems"), false), ((Str.ofString "NoOrder", Str.ofString "NoOrder"), true), ((Str.ofString "NoOrder", Str.ofString "NoItem"), false), ((Str.ofString "NoOrder", Str.ofString "NoPlace"), false), ((Str.ofString "NoOrder", Str.ofString "NoRule"), false), ((Str.ofString "NoOrder", Str.ofString "NoStanding"), false), ((Str.ofString "NoOrder", Str.ofString "NoAsks"), false), ((Str.ofString "NoOrder", Str.ofString "NoRules"), false), ((Str.ofString "NoOrder", Str.ofString "NoCase"), false), ((Str.ofString "NoOrder", Str.ofString "NoLot"), false), ((Str.ofString "NoOrder", Str.ofString "NoGoal"), false), ((Str.ofString "NoOrder", Str.ofString "NoLog"), false), ((Str.ofString "NoOrder", Str.ofString "NoNumber"), false), ((Str.ofString "NoOrder", Str.ofString "NoName"), false), ((Str.ofString "NoOrder", Str.ofString "NoRecord"), false), ((Str.ofString "NoOrder", Str.ofString "NoSeeker"), false), ((Str.ofString "NoOrder", Str.ofString "NoAnswer"), false), ((Str.ofString "NoOrder", Str.ofString "NoMark"), false), ((Str.ofString "NoOrder", Str.ofString "TooMany"), false), ((Str.ofString "NoItem", Str.ofString "SortError"), true), ((Str.ofString "NoItem", Str.ofString "NoItems"), false), ((Str.ofString "NoItem", Str.ofString "NoOrder"), false), ((Str.ofString "NoItem", Str.ofString "NoItem"), true), ((Str.ofString "NoItem", Str.ofString "NoPlace"), false), ((Str.ofString "NoItem", Str.ofString "NoRule"), false), ((Str.ofString "NoItem", Str.ofString "NoStanding"), false), ((Str.ofString "NoItem", Str.ofString "NoAsks"), false), ((Str.ofString "NoItem", Str.ofString "NoRules"), false), ((Str.ofString "NoItem", Str.ofString "NoCase"), false), ((Str.ofString "NoItem", Str.ofString "NoLot"), false), ((Str.ofString "NoItem", Str.ofString "NoGoal"), false), ((Str.ofString "NoItem", Str.ofString "NoLog"), false), ((Str.ofString "NoItem", Str.ofString "NoNumber"), false), ((Str.ofString "NoItem", Str.ofString "NoName"), false), ((Str.ofString "NoItem", Str.ofString "NoRecord"), false), ((Str.ofString "NoItem", Str.ofString "NoSeeker"), false), ((Str.ofString "NoItem", Str.ofString "NoAnswer"), false), ((Str.ofString "NoItem", Str.ofString "NoMark"), false), ((Str.ofString "NoItem", Str.ofString "TooMany"), false), ((Str.ofString "NoPlace", Str.ofString "SortError"), true), ((Str.ofString "NoPlace", Str.ofString "NoItems"), false), ((Str.ofString "NoPlace", Str.ofString "NoOrder"), false), ((Str.ofString "NoPlace", Str.ofString "NoItem"), false), ((Str.ofString "NoPlace", Str.ofString "NoPlace"), true), ((Str.ofString "NoPlace", Str.ofString "NoRule"), false), ((Str.ofString "NoPlace", Str.ofString "NoStanding"), false), ((Str.ofString "NoPlace", Str.ofString "NoAsks"), false), ((Str.ofString "NoPlace", Str.ofString "NoRules"), false), ((Str.ofString "NoPlace", Str.ofString "NoCase"), false), ((Str.ofString "NoPlace", Str.ofString "NoLot"), false), ((Str.ofString "NoPlace", Str.ofString "NoGoal"), false), ((Str.ofString "NoPlace", Str.ofString "NoLog"), false), ((Str.ofString "NoPlace", Str.ofString "NoNumber"), false), ((Str.ofString "NoPlace", Str.ofString "NoName"), false), ((Str.ofString "NoPlace", Str.ofString "NoRecord"), false), ((Str.ofString "NoPlace", Str.ofString "NoSeeker"), false), ((Str.ofString "NoPlace", Str.ofString "NoAnswer"), false), ((Str.ofString "NoPlace", Str.ofString "NoMark"), false), ((Str.ofString "NoPlace", Str.ofString "TooMany"), false), ((Str.ofString "NoRule", Str.ofString "SortError"), true), ((Str.ofString "NoRule", Str.ofString "NoItems"), false), ((Str.ofString "NoRule", Str.ofString "NoOrder"), false), ((Str.ofString "NoRule", Str.ofString "NoItem"), false), ((Str.ofString "NoRule", Str.ofString "NoPlace"), false), ((Str.ofString "NoRule", Str.ofString "NoRule"), true), ((Str.ofString "NoRule", Str.ofString "NoStanding"), false), ((Str.ofString "NoRule", Str.ofString "NoAsks"), false), ((Str.ofString "NoRule", Str.ofString "NoRules"), false), ((Str.ofString "NoRule", Str.ofString "NoCase"), false), ((Str.ofString "NoRule", Str.ofString "NoLot"), false), ((Str.ofString "NoRule", Str.ofString "NoGoal"), false), ((Str.ofString "NoRule", Str.ofString "NoLog"), false), ((Str.ofString "NoRule", Str.ofString "NoNumber"), false), ((Str.ofString "NoRule", Str.ofString "NoName"), false), ((Str.ofString "NoRule", Str.ofString "NoRecord"), false), ((Str.ofString "NoRule", Str.ofString "NoSeeker"), false), ((Str.ofString "NoRule", Str.ofString "NoAnswer"), false), ((Str.ofString "NoRule", Str.ofString "NoMark"), false), ((Str.ofString "NoRule", Str.ofString "TooMany"), false), ((Str.ofString "NoStanding", Str.ofString "SortError"), true), ((Str.ofString "NoStanding", Str.ofString "NoItems"), false), ((Str.ofString "NoStanding", Str.ofString "NoOrder"), false), ((Str.ofString "NoStanding", Str.ofString "NoItem"), false), ((Str.ofString "NoStanding", Str.ofString "NoPlace"), false), ((Str.ofString "NoStanding", Str.ofString "NoRule"), false), ((Str.ofString "NoStanding", Str.ofString "NoStanding"), true), ((Str.ofString "NoStanding", Str.ofString "NoAsks"), false), ((Str.ofString "NoStanding", Str.ofString "NoRules"), false), ((Str.ofString "NoStanding", Str.ofString "NoCase"), false), ((Str.ofString "NoStanding", Str.ofString "NoLot"), false), ((Str.ofString "NoStanding", Str.ofString "NoGoal"), false), ((Str.ofString "NoStanding", Str.ofString "NoLog"), false), ((Str.ofString "NoStanding", Str.ofString "NoNumber"), false), ((Str.ofString "NoStanding", Str.ofString "NoName"), false), ((Str.ofString "NoStanding", Str.ofString "NoRecord"), false), ((Str.ofString "NoStanding", Str.ofString "NoSeeker"), false), ((Str.ofString "NoStanding", Str.ofString "NoAnswer"), false), ((Str.ofString "NoStanding", Str.ofString "NoMark"), false), ((Str.ofString "NoStanding", Str.ofString "TooMany"), false), ((Str.ofString "NoAsks", Str.ofString "SortError"), true), ((Str.ofString "NoAsks", Str.ofString "NoItems"), false), ((Str.ofString "NoAsks", Str.ofString "NoOrder"), false), ((Str.ofString "NoAsks", Str.ofString "NoItem"), false), ((Str.ofString "NoAsks", Str.ofString "NoPlace"), false), ((Str.ofString "NoAsks", Str.ofString "NoRule"), false), ((Str.ofString "NoAsks", Str.ofString "NoStanding"), false), ((Str.ofString "NoAsks", Str.ofString "NoAsks"), true), ((Str.ofString "NoAsks", Str.ofString "NoRules"), false), ((Str.ofString "NoAsks", Str.ofString "NoCase"), false), ((Str.ofString "NoAsks", Str.ofString "NoLot"), false), ((Str.ofString "NoAsks", Str.ofString "NoGoal"), false), ((Str.ofString "NoAsks", Str.ofString "NoLog"), false), ((Str.ofString "NoAsks", Str.ofString "NoNumber"), false), ((Str.ofString "NoAsks", Str.ofString "NoName"), false), ((Str.ofString "NoAsks", Str.ofString "NoRecord"), false), ((Str.ofString "NoAsks", Str.ofString "NoSeeker"), false), ((Str.ofString "NoAsks", Str.ofString "NoAnswer"), false), ((Str.ofString "NoAsks", Str.ofString "NoMark"), false), ((Str.ofString "NoAsks", Str.ofString "TooMany"), false), ((Str.ofString "NoRules", Str.ofString "SortError"), true), ((Str.ofString "NoRules", Str.ofString "NoItems"), false), ((Str.ofString "NoRules", Str.ofString "NoOrder"), false), ((Str.ofString "NoRules", Str.ofString "NoItem"), false), ((Str.ofString "NoRules", Str.ofString "NoPlace"), false), ((Str.ofString "NoRules", Str.ofString "NoRule"), false), ((Str.ofString "NoRules", Str.ofString "NoStanding"), false), ((Str.ofString "NoRules", Str.ofString "NoAsks"), false), ((Str.ofString "NoRules", Str.ofString "NoRules"), true), ((Str.ofString "NoRules", Str.ofString "NoCase"), false), ((Str.ofString "NoRules", Str.ofString "NoLot"), false), ((Str.ofString "NoRules", Str.ofString "NoGoal"), false), ((Str.ofString "NoRules", Str.ofString "NoLog"), false), ((Str.ofString "NoRules", Str.ofString "NoNumber"), false), ((Str.ofString "NoRules", Str.ofString "NoName"), false), ((Str.ofString "NoRules", Str.ofString "NoRecord"), false), ((Str.ofString "NoRules", Str.ofString "NoSeeker"), false), ((Str.ofString "NoRules", Str.ofString "NoAnswer"), false), ((Str.ofString "NoRules", Str.ofString "NoMark"), false), ((Str.ofString "NoRules", Str.ofString "TooMany"), false), ((Str.ofString "NoCase", Str.ofString "SortError"), true), ((Str.ofString "NoCase", Str.ofString "NoItems"), false), ((Str.ofString "NoCase", Str.ofString "NoOrder"), false), ((Str.ofString "NoCase", Str.ofString "NoItem"), false), ((Str.ofString "NoCase", Str.ofString "NoPlace"), false), ((Str.ofString "NoCase", Str.ofString "NoRule"), false), ((Str.ofString "NoCase", Str.ofString "NoStanding"), false), ((Str.ofString "NoCase", Str.ofString "NoAsks"), false), ((Str.ofString "NoCase", Str.ofString "NoRules"), false), ((Str.ofString "NoCase", Str.ofString "NoCase"), true), ((Str.ofString "NoCase", Str.ofString "NoLot"), false), ((Str.ofString "NoCase", Str.ofString "NoGoal"), false), ((Str.ofString "NoCase", Str.ofString "NoLog"), false), ((Str.ofString "NoCase", Str.ofString "NoNumber"), false), ((Str.ofString "NoCase", Str.ofString "NoName"), false), ((Str.ofString "NoCase", Str.ofString "NoRecord"), false), ((Str.ofString "NoCase", Str.ofString "NoSeeker"), false), ((Str.ofString "NoCase", Str.ofString "NoAnswer"), false), ((Str.ofString "NoCase", Str.ofString "NoMark"), false), ((Str.ofString "NoCase", Str.ofString "TooMany"), false), ((Str.ofString "NoLot", Str.ofString "SortError"), true), ((Str.ofString "NoLot", Str.ofString "NoItems"), false), ((Str.ofString "NoLot", Str.ofString "NoOrder"), false), ((Str.ofString "NoLot", Str.ofString "NoItem"), false), ((Str.ofString "NoLot", Str.ofString "NoPlace"), false), ((Str.ofString "NoLot", Str.ofString "NoRule"), false), ((Str.ofString "NoLot", Str.ofString "NoStanding"), false), ((Str.ofString "NoLot", Str.ofString "NoAsks"), false), ((Str.ofString "NoLot", Str.ofString "NoRules"), false), ((Str.ofString "NoLot", Str.ofString "NoCase"), false), ((Str.ofString "NoLot", Str.ofString "NoLot"), true), ((Str.ofString "NoLot", Str.ofString "NoGoal"), false), ((Str.ofString "NoLot", Str.ofString "NoLog"), false), ((Str.ofString "NoLot", Str.ofString "NoNumber"), false), ((Str.ofString "NoLot", Str.ofString "NoName"), false), ((Str.ofString "NoLot", Str.ofString "NoRecord"), false), ((Str.ofString "NoLot", Str.ofString "NoSeeker"), false), ((Str.ofString "NoLot", Str.ofString "NoAnswer"), false), ((Str.ofString "NoLot", Str.ofString "NoMark"), false), ((Str.ofString "NoLot", Str.ofString "TooMany"), false), ((Str.ofString "NoGoal", Str.ofString "SortError"), true), ((Str.ofString "NoGoal", Str.ofString "NoItems"), false), ((Str.ofString "NoGoal", Str.ofString "NoOrder"), false), ((Str.ofString "NoGoal", Str.ofString "NoItem"), false), ((Str.ofString "NoGoal", Str.ofString "NoPlace"), false), ((Str.ofString "NoGoal", Str.ofString "NoRule"), false), ((Str.ofString "NoGoal", Str.ofString "NoStanding"), false), ((Str.ofString "NoGoal", Str.ofString "NoAsks"), false), ((Str.ofString "NoGoal", Str.ofString "NoRules"), false), ((Str.ofString "NoGoal", Str.ofString "NoCase"), false), ((Str.ofString "NoGoal", Str.ofString "NoLot"), false), ((Str.ofString "NoGoal", Str.ofString "NoGoal"), true), ((Str.ofString "NoGoal", Str.ofString "NoLog"), false), ((Str.ofString "NoGoal", Str.ofString "NoNumber"), false), ((Str.ofString "NoGoal", Str.ofString "NoName"), false), ((Str.ofString "NoGoal", Str.ofString "NoRecord"), false), ((Str.ofString "NoGoal", Str.ofString "NoSeeker"), false), ((Str.ofString "NoGoal", Str.ofString "NoAnswer"), false), ((Str.ofString "NoGoal", Str.ofString "NoMark"), false), ((Str.ofString "NoGoal", Str.ofString "TooMany"), false), ((Str.ofString "NoLog", Str.ofString "SortError"), true), ((Str.ofString "NoLog", Str.ofString "NoItems"), false), ((Str.ofString "NoLog", Str.ofString "NoOrder"), false), ((Str.ofString "NoLog", Str.ofString "NoItem"), false), ((Str.ofString "NoLog", Str.ofString "NoPlace"), false), ((Str.ofString "NoLog", Str.ofString "NoRule"), false), ((Str.ofString "NoLog", Str.ofString "NoStanding"), false), ((Str.ofString "NoLog", Str.ofString "NoAsks"), false), ((Str.ofString "NoLog", Str.ofString "NoRules"), false), ((Str.ofString "NoLog", Str.ofString "NoCase"), false), ((Str.ofString "NoLog", Str.ofString "NoLot"), false), ((Str.ofString "NoLog", Str.ofString "NoGoal"), false), ((Str.ofString "NoLog", Str.ofString "NoLog"), true), ((Str.ofString "NoLog", Str.ofString "NoNumber"), false), ((Str.ofString "NoLog", Str.ofString "NoName"), false), ((Str.ofString "NoLog", Str.ofString "NoRecord"), false), ((Str.ofString "NoLog", Str.ofString "NoSeeker"), false), ((Str.ofString "NoLog", Str.ofString "NoAnswer"), false), ((Str.ofString "NoLog", Str.ofString "NoMark"), false), ((Str.ofString "NoLog", Str.ofString "TooMany"), false), ((Str.ofString "NoNumber", Str.ofString "SortError"), true), ((Str.ofString "NoNumber", Str.ofString "NoItems"), false), ((Str.ofString "NoNumber", Str.ofString "NoOrder"), false), ((Str.ofString "NoNumber", Str.ofString "NoItem"), false), ((Str.ofString "NoNumber", Str.ofString "NoPlace"), false), ((Str.ofString "NoNumber", Str.ofString "NoRule"), false), ((Str.ofString "NoNumber", Str.ofString "NoStanding"), false), ((Str.ofString "NoNumber", Str.ofString "NoAsks"), false), ((Str.ofString "NoNumber", Str.ofString "NoRules"), false), ((Str.ofString "NoNumber", Str.ofString "NoCase"), false), ((Str.ofString "NoNumber", Str.ofString "NoLot"), false), ((Str.ofString "NoNumber", Str.ofString "NoGoal"), false), ((Str.ofString "NoNumber", Str.ofString "NoLog"), false), ((Str.ofString "NoNumber", Str.ofString "NoNumber"), true), ((Str.ofString "NoNumber", Str.ofString "NoName"), false), ((Str.ofString "NoNumber", Str.ofString "NoRecord"), false), ((Str.ofString "NoNumber", Str.ofString "NoSeeker"), false), ((Str.ofString "NoNumber", Str.ofString "NoAnswer"), false), ((Str.ofString "NoNumber", Str.ofString "NoMark"), false), ((Str.ofString "NoNumber", Str.ofString "TooMany"), false), ((Str.ofString "NoName", Str.ofString "SortError"), true), ((Str.ofString "NoName", Str.ofString "NoItems"), false), ((Str.ofString "NoName", Str.ofString "NoOrder"), false), ((Str.ofString "NoName", Str.ofString "NoItem"), false), ((Str.ofString "NoName", Str.ofString "NoPlace"), false), ((Str.ofString "NoName", Str.ofString "NoRule"), false), ((Str.ofString "NoName", Str.ofString "NoStanding"), false), ((Str.ofString "NoName", Str.ofString "NoAsks"), false), ((Str.ofString "NoName", Str.ofString "NoRules"), false), ((Str.ofString "NoName", Str.ofString "NoCase"), false), ((Str.ofString "NoName", Str.ofString "NoLot"), false), ((Str.ofString "NoName", Str.ofString "NoGoal"), false), ((Str.ofString "NoName", Str.ofString "NoLog"), false), ((Str.ofString "NoName", Str.ofString "NoNumber"), false), ((Str.ofString "NoName", Str.ofString "NoName"), true), ((Str.ofString "NoName", Str.ofString "NoRecord"), false), ((Str.ofString "NoName", Str.ofString "NoSeeker"), false), ((Str.ofString "NoName", Str.ofString "NoAnswer"), false), ((Str.ofString "NoName", Str.ofString "NoMark"), false), ((Str.ofString "NoName", Str.ofString "TooMany"), false), ((Str.ofString "NoRecord", Str.ofString "SortError"), true), ((Str.ofString "NoRecord", Str.ofString "NoItems"), false), ((Str.ofString "NoRecord", Str.ofString "NoOrder"), false), ((Str.ofString "NoRecord", Str.ofString "NoItem"), false), ((Str.ofString "NoRecord", Str.ofString "NoPlace"), false), ((Str.ofString "NoRecord", Str.ofString "NoRule"), false), ((Str.ofString "NoRecord", Str.ofString "NoStanding"), false), ((Str.ofString "NoRecord", Str.ofString "NoAsks"), false), ((Str.ofString "NoRecord", Str.ofString "NoRules"), false), ((Str.ofString "NoRecord", Str.ofString "NoCase"), false), ((Str.ofString "NoRecord", Str.ofString "NoLot"), false), ((Str.ofString "NoRecord", Str.ofString "NoGoal"), false), ((Str.ofString "NoRecord", Str.ofString "NoLog"), false), ((Str.ofString "NoRecord", Str.ofString "NoNumber"), false), ((Str.ofString "NoRecord", Str.ofString "NoName"), false), ((Str.ofString "NoRecord", Str.ofString "NoRecord"), true), ((Str.ofString "NoRecord", Str.ofString "NoSeeker"), false), ((Str.ofString "NoRecord", Str.ofString "NoAnswer"), false), ((Str.ofString "NoRecord", Str.ofString "NoMark"), false), ((Str.ofString "NoRecord", Str.ofString "TooMany"), false), ((Str.ofString "NoSeeker", Str.ofString "SortError"), true), ((Str.ofString "NoSeeker", Str.ofString "NoItems"), false), ((Str.ofString "NoSeeker", Str.ofString "NoOrder"), false), ((Str.ofString "NoSeeker", Str.ofString "NoItem"), false), ((Str.ofString "NoSeeker", Str.ofString "NoPlace"), false), ((Str.ofString "NoSeeker", Str.ofString "NoRule"), false), ((Str.ofString "NoSeeker", Str.ofString "NoStanding"), false), ((Str.ofString "NoSeeker", Str.ofString "NoAsks"), false), ((Str.ofString "NoSeeker", Str.ofString "NoRules"), false), ((Str.ofString "NoSeeker", Str.ofString "NoCase"), false), ((Str.ofString "NoSeeker", Str.ofString "NoLot"), false), ((Str.ofString "NoSeeker", Str.ofString "NoGoal"), false), ((Str.ofString "NoSeeker", Str.ofString "NoLog"), false), ((Str.ofString "NoSeeker", Str.ofString "NoNumber"), false), ((Str.ofString "NoSeeker", Str.ofString "NoName"), false), ((Str.ofString "NoSeeker", Str.ofString "NoRecord"), false), ((Str.ofString "NoSeeker", Str.ofString "NoSeeker"), true), ((Str.ofString "NoSeeker", Str.ofString "NoAnswer"), false), ((Str.ofString "NoSeeker", Str.ofString "NoMark"), false), ((Str.ofString "NoSeeker", Str.ofString "TooMany"), false), ((Str.ofString "NoAnswer", Str.ofString "SortError"), true), ((Str.ofString "NoAnswer", Str.ofString "NoItems"), false), ((Str.ofString "NoAnswer", Str.ofString "NoOrder"), false), ((Str.ofString "NoAnswer", Str.ofString "NoItem"), false), ((Str.ofString "NoAnswer", Str.ofString "NoPlace"), false), ((Str.ofString "NoAnswer", Str.ofString "NoRule"), false), ((Str.ofString "NoAnswer", Str.ofString "NoStanding"), false), ((Str.ofString "NoAnswer", Str.ofString "NoAsks"), false), ((Str.ofString "NoAnswer", Str.ofString "NoRules"), false), ((Str.ofString "NoAnswer", Str.ofString "NoCase"), false), ((Str.ofString "NoAnswer", Str.ofString "NoLot"), false), ((Str.ofString "NoAnswer", Str.ofString "NoGoal"), false), ((Str.ofString "NoAnswer", Str.ofString "NoLog"), false), ((Str.ofString "NoAnswer", Str.ofString "NoNumber"), false), ((Str.ofString "NoAnswer", Str.ofString "NoName"), false), ((Str.ofString "NoAnswer", Str.ofString "NoRecord"), false), ((Str.ofString "NoAnswer", Str.ofString "NoSeeker"), false), ((Str.ofString "NoAnswer", Str.ofString "NoAnswer"), true), ((Str.ofString "NoAnswer", Str.ofString "NoMark"), false), ((Str.ofString "NoAnswer", Str.ofString "TooMany"), false), ((Str.ofString "NoMark", Str.ofString "SortError"), true), ((Str.ofString "NoMark", Str.ofString "NoItems"), false), ((Str.ofString "NoMark", Str.ofString "NoOrder"), false), ((Str.ofString "NoMark", Str.ofString "NoItem"), false), ((Str.ofString "NoMark", Str.ofString "NoPlace"), false), ((Str.ofString "NoMark", Str.ofString "NoRule"), false), ((Str.ofString "NoMark", Str.ofString "NoStanding"), false), ((Str.ofString "NoMark", Str.ofString "NoAsks"), false), ((Str.ofString "NoMark", Str.ofString "NoRules"), false), ((Str.ofString "NoMark", Str.ofString "NoCase"), false), ((Str.ofString "NoMark", Str.ofString "NoLot"), false), ((Str.ofString "NoMark", Str.ofString "NoGoal"), false), ((Str.ofString "NoMark", Str.ofString "NoLog"), false), ((Str.ofString "NoMark", Str.ofString "NoNumber"), false), ((Str.ofString "NoMark", Str.ofString "NoName"), false), ((Str.ofString "NoMark", Str.ofString "NoRecord"), false), ((Str.ofString "NoMark", Str.ofString "NoSeeker"), false), ((Str.ofString "NoMark", Str.ofString "NoAnswer"), false), ((Str.ofString "NoMark", Str.ofString "NoMark"), true), ((Str.ofString "NoMark", Str.ofString "TooMany"), false), ((Str.ofString "TooMany", Str.ofString "SortError"), true), ((Str.ofString "TooMany", Str.ofString "NoItems"), false), ((Str.ofString "TooMany", Str.ofString "NoOrder"), false), ((Str.ofString "TooMany", Str.ofString "NoItem"), false), ((Str.ofString "TooMany", Str.ofString "NoPlace"), false), ((Str.ofString "TooMany", Str.ofString "NoRule"), false), ((Str.ofString "TooMany", Str.ofString "NoStanding"), false), ((Str.ofString "TooMany", Str.ofString "NoAsks"), false), ((Str.ofString "TooMany", Str.ofString "NoRules"), false), ((Str.ofString "TooMany", Str.ofString "NoCase"), false), ((Str.ofString "TooMany", Str.ofString "NoLot"), false), ((Str.ofString "TooMany", Str.ofString "NoGoal"), false), ((Str.ofString "TooMany", Str.ofString "NoLog"), false), ((Str.ofString "TooMany", Str.ofString "NoNumber"), false), ((Str.ofString "TooMany", Str.ofString "NoName"), false), ((Str.ofString "TooMany", Str.ofString "NoRecord"), false), ((Str.ofString "TooMany", Str.ofString "NoSeeker"), false), ((Str.ofString "TooMany", Str.ofString "NoAnswer"), false), ((Str.ofString "TooMany", Str.ofString "NoMark"), false), ((Str.ofString "TooMany", Str.ofString "TooMany"), true)] : List ((Str × Str) × Bool)).lookup (c, t)
structure Cst (P : Program) (K : PySem.W.Frag) (mg : Str → Option Value) (cm : Str → Option Addr) : Prop where
  x_SortError : ExcA K mg cm "SortError"
  x_NoItems : ExcA K mg cm "NoItems"
  x_NoOrder : ExcA K mg cm "NoOrder"
  x_NoItem : ExcA K mg cm "NoItem"
  x_NoPlace : ExcA K mg cm "NoPlace"
  x_NoRule : ExcA K mg cm "NoRule"
  x_NoStanding : ExcA K mg cm "NoStanding"
  x_NoAsks : ExcA K mg cm "NoAsks"
  x_NoRules : ExcA K mg cm "NoRules"
  x_NoCase : ExcA K mg cm "NoCase"
  x_NoLot : ExcA K mg cm "NoLot"
  x_NoGoal : ExcA K mg cm "NoGoal"
  x_NoLog : ExcA K mg cm "NoLog"
  x_NoNumber : ExcA K mg cm "NoNumber"
  x_NoName : ExcA K mg cm "NoName"
  x_NoRecord : ExcA K mg cm "NoRecord"
  x_NoSeeker : ExcA K mg cm "NoSeeker"
  i_NoAnswer : XInit P K mg cm "NoAnswer" "answer"
  i_NoMark : XInit P K mg cm "NoMark" "number"
  i_TooMany : XInit P K mg cm "TooMany" "limit"
  sup : SupK K cm supC
  ve : VeK K cm supC
  z_ValueError : mg "ValueError" = none
  fx_NoAnswer_answer : FldX K cm "NoAnswer" "answer"
  fx_NoMark_number : FldX K cm "NoMark" "number"
  fx_TooMany_limit : FldX K cm "TooMany" "limit"
section
variable {P : Program} {w : World} {K : PySem.W.Frag} {mg : Str → Option Value} {base : Heap} {cm : Str → Option Addr}
abbrev s__law_spread : Stmt := topS 22
abbrev N__law_spread : List Str := ["cell", "at", "primes", "mixed", "one", "rest", "two", "three"]
theorem sc__law_spread : FnScope N__law_spread ["cell", "at"] (defScope s__law_spread) := ⟨rfl, rfl, rfl, by decide +kernel, rfl, by decide +kernel, by decide +kernel⟩
def b__law_spread : GS := (sSeq (sIf (gTst (gOp dGe (gV 0) (gOp dPow (gK (.int 10)) (gK (.int 18)))))
  (sRet (gV 0))
  sNil)
  (sSeq (sAsg (gLst (gCons (gK (.int 2147483629)) (gCons (gK (.int 2147483587)) (gCons (gK (.int 2147483579)) (gCons (gK (.int 2147483563)) (gCons (gK (.int 2147483549)) (gCons (gK (.int 2147483543)) (gCons (gK (.int 2147483497)) gNil)))))))) (Tg.nm 2).f)
  (sSeq (sAsg (gOp dAdd (gV 2) (gLst (gCons (gK (.int 2147483489)) (gCons (gK (.int 2147483477)) (gCons (gK (.int 2147483423)) (gCons (gK (.int 2147483399)) (gCons (gK (.int 2147483353)) (gCons (gK (.int 2147483323)) gNil)))))))) (Tg.nm 2).f)
  (sSeq (sAsg (gOp dAdd (gOp dAdd (gOp dMulB (gOp dMod (gBi dInt (gCons (gV 0) gNil)) (gK (.int 1000000007))) (gOp dAdd (gOp dMulB (gK (.int 2)) (gV 1)) (gK (.int 69069)))) (gOp dMulB (gV 1) (gK (.int 40503)))) (gK (.int 977))) (Tg.nm 3).f)
  (sSeq (sAsg (gOp dMod (gBi dInt (gCons (gOp dPow (gV 3) (gK (.int 3))) gNil)) (gOp dIx (gV 2) (gOp dMod (gBi dInt (gCons (gV 1) gNil)) (gK (.int 13))))) (Tg.nm 4).f)
  (sSeq (sAsg (gOp dAdd (gOp dMod (gBi dInt (gCons (gV 0) gNil)) (gK (.int 65537))) (gK (.int 5))) (Tg.nm 5).f)
  (sSeq (sAsg (gOp dMod (gBi dInt (gCons (gOp dPow (gOp dAdd (gOp dMulB (gV 4) (gOp dAdd (gV 1) (gK (.int 3)))) (gV 5)) (gK (.int 5))) gNil)) (gOp dIx (gV 2) (gOp dMod (gBi dInt (gCons (gOp dAdd (gV 1) (gK (.int 5))) gNil)) (gK (.int 13))))) (Tg.nm 6).f)
  (sSeq (sAsg (gOp dMod (gBi dInt (gCons (gOp dPow (gOp dAdd (gOp dAdd (gV 6) (gOp dMod (gBi dInt (gCons (gV 4) gNil)) (gK (.int 1009)))) (gV 1)) (gK (.int 3))) gNil)) (gOp dIx (gV 2) (gOp dMod (gBi dInt (gCons (gOp dAdd (gV 1) (gK (.int 7))) gNil)) (gK (.int 13))))) (Tg.nm 7).f)
  (sRet (gOp dAdd (gOp dMulB (gOp dAdd (gOp dMulB (gV 4) (gK (.int 2147483647))) (gV 6)) (gK (.int 2147483647))) (gV 7)))))))))))
def f__law_spread : List D → Hq → R D := fnOf 8 b__law_spread
theorem ok__law_spread (B : Blt mg) (C : Cst P K mg cm) (T : At K mg "_law_spread" s__law_spread ["cell", "at"])  : DefOk P w K mg base cm 1 "_law_spread" ["cell", "at"] f__law_spread :=
  def_of T sc__law_spread fun f cdv A outer s H E room guard =>
    have tk := takes_of (X := cxOf (L2.CX P w) P w K mg base N__law_spread "_law_spread" (defScope s__law_spread) f cdv A outer s H E) rfl rfl rfl rfl
    have pas := passes_of (X := cxOf (L2.CX P w) P w K mg base N__law_spread "_law_spread" (defScope s__law_spread) f cdv A outer s H E) rfl
  (mss_cons (ms_if (mt_cmp op_ge ok_ge (me_v (i := 0) rfl (Or.inl rfl)) (me_op op_pow ok_pow me_int me_int) (nomark _))
  (mss_one (ms_ret (me_v (i := 0) rfl (Or.inl rfl))))
  mss_nil)
  (mss_cons (ms_asg (t := (Tg.nm 2)) (me_lst (ma_cons me_int (ma_cons me_int (ma_cons me_int (ma_cons me_int (ma_cons me_int (ma_cons me_int (ma_cons me_int ma_nil)))))))) (mg_nm sc__law_spread.nd rfl (Or.inl rfl)))
  (mss_cons (ms_asg (t := (Tg.nm 2)) (me_op op_add3 ok_add (me_v (i := 2) rfl (Or.inl rfl)) (me_lst (ma_cons me_int (ma_cons me_int (ma_cons me_int (ma_cons me_int (ma_cons me_int (ma_cons me_int ma_nil)))))))) (mg_nm sc__law_spread.nd rfl (Or.inl rfl)))
  (mss_cons (ms_asg (t := (Tg.nm 3)) (me_op op_add3 ok_add (me_op op_add3 ok_add (me_op op_mul4 ok_mulB (me_op op_mod ok_mod (me_ty ok_int call_int1 (gl (by kernel_rfl)) B.int (by decide +kernel) (ma_cons (me_v (i := 0) rfl (Or.inl rfl)) ma_nil)) me_int) (me_op op_add3 ok_add (me_op op_mul4 ok_mulB me_int (me_v (i := 1) rfl (Or.inl rfl))) me_int)) (me_op op_mul4 ok_mulB (me_v (i := 1) rfl (Or.inl rfl)) me_int)) me_int) (mg_nm sc__law_spread.nd rfl (Or.inl rfl)))
  (mss_cons (ms_asg (t := (Tg.nm 4)) (me_op op_mod ok_mod (me_ty ok_int call_int1 (gl (by kernel_rfl)) B.int (by decide +kernel) (ma_cons (me_op op_pow ok_pow (me_v (i := 3) rfl (Or.inl rfl)) me_int) ma_nil)) (me_ix (me_v (i := 2) rfl (Or.inl rfl)) (me_op op_mod ok_mod (me_ty ok_int call_int1 (gl (by kernel_rfl)) B.int (by decide +kernel) (ma_cons (me_v (i := 1) rfl (Or.inl rfl)) ma_nil)) me_int) (fun _ _ => rfl))) (mg_nm sc__law_spread.nd rfl (Or.inl rfl)))
  (mss_cons (ms_asg (t := (Tg.nm 5)) (me_op op_add3 ok_add (me_op op_mod ok_mod (me_ty ok_int call_int1 (gl (by kernel_rfl)) B.int (by decide +kernel) (ma_cons (me_v (i := 0) rfl (Or.inl rfl)) ma_nil)) me_int) me_int) (mg_nm sc__law_spread.nd rfl (Or.inl rfl)))
  (mss_cons (ms_asg (t := (Tg.nm 6)) (me_op op_mod ok_mod (me_ty ok_int call_int1 (gl (by kernel_rfl)) B.int (by decide +kernel) (ma_cons (me_op op_pow ok_pow (me_op op_add3 ok_add (me_op op_mul4 ok_mulB (me_v (i := 4) rfl (Or.inl rfl)) (me_op op_add3 ok_add (me_v (i := 1) rfl (Or.inl rfl)) me_int)) (me_v (i := 5) rfl (Or.inl rfl))) me_int) ma_nil)) (me_ix (me_v (i := 2) rfl (Or.inl rfl)) (me_op op_mod ok_mod (me_ty ok_int call_int1 (gl (by kernel_rfl)) B.int (by decide +kernel) (ma_cons (me_op op_add3 ok_add (me_v (i := 1) rfl (Or.inl rfl)) me_int) ma_nil)) me_int) (fun _ _ => rfl))) (mg_nm sc__law_spread.nd rfl (Or.inl rfl)))
  (mss_cons (ms_asg (t := (Tg.nm 7)) (me_op op_mod ok_mod (me_ty ok_int call_int1 (gl (by kernel_rfl)) B.int (by decide +kernel) (ma_cons (me_op op_pow ok_pow (me_op op_add3 ok_add (me_op op_add3 ok_add (me_v (i := 6) rfl (Or.inl rfl)) (me_op op_mod ok_mod (me_ty ok_int call_int1 (gl (by kernel_rfl)) B.int (by decide +kernel) (ma_cons (me_v (i := 4) rfl (Or.inl rfl)) ma_nil)) me_int)) (me_v (i := 1) rfl (Or.inl rfl))) me_int) ma_nil)) (me_ix (me_v (i := 2) rfl (Or.inl rfl)) (me_op op_mod ok_mod (me_ty ok_int call_int1 (gl (by kernel_rfl)) B.int (by decide +kernel) (ma_cons (me_op op_add3 ok_add (me_v (i := 1) rfl (Or.inl rfl)) me_int) ma_nil)) me_int) (fun _ _ => rfl))) (mg_nm sc__law_spread.nd rfl (Or.inl rfl)))
  (mss_one (ms_ret (me_op op_add3 ok_add (me_op op_mul4 ok_mulB (me_op op_add3 ok_add (me_op op_mul4 ok_mulB (me_v (i := 4) rfl (Or.inl rfl)) me_int) (me_v (i := 6) rfl (Or.inl rfl))) me_int) (me_v (i := 7) rfl (Or.inl rfl)))))))))))))
abbrev s__law_open : Stmt := topS 23
abbrev N__law_open : List Str := ["script", "cells", "k", "cell"]
theorem sc__law_open : FnScope N__law_open ["script"] (defScope s__law_open) := ⟨rfl, rfl, rfl, by decide +kernel, rfl, by decide +kernel, by decide +kernel⟩
def b__law_open : GS := (sSeq (sAsg (gBi dList (gCons (gSl (gV 0) gNo (gPart (gK (.int 12)))) gNil)) (Tg.nm 1).f)
  (sSeq (sFor (iEnuG (gCons (gSl (gV 0) (gPart (gK (.int 12))) (gPart (gK (.int 63)))) gNil)) (Tg.tp [2, 3])
  (sSetIx (gV 1) (gOp dMod (gBi dInt (gCons (gV 2) gNil)) (gK (.int 12))) (gOp dAdd (gOp dIx (gV 1) (gOp dMod (gBi dInt (gCons (gV 2) gNil)) (gK (.int 12)))) (gV 3))))
  (sRet (gLst (gCons (gV 1) (gCons (gK (.int 0)) (gCons (gK (.int 0)) gNil)))))))
def f__law_open : List D → Hq → R D := rawOf 4 b__law_open
theorem ok__law_open (B : Blt mg) (C : Cst P K mg cm) (T : At K mg "_law_open" s__law_open ["script"])  : DefOk P w K mg base cm 1 "_law_open" ["script"] f__law_open :=
  def_ofR T sc__law_open fun f cdv A outer s H E room guard =>
    have tk := takes_of (X := cxOf (L2.CX P w) P w K mg base N__law_open "_law_open" (defScope s__law_open) f cdv A outer s H E) rfl rfl rfl rfl
    have pas := passes_of (X := cxOf (L2.CX P w) P w K mg base N__law_open "_law_open" (defScope s__law_open) f cdv A outer s H E) rfl
  (mss_cons (ms_asg (t := (Tg.nm 1)) (me_ty ok_list call_list_of (gl (by kernel_rfl)) B.list (by decide +kernel) (ma_cons (me_sl (me_v (i := 0) rfl (Or.inl rfl)) mo_none (mo_some me_int)) ma_nil)) (mg_nm sc__law_open.nd rfl (Or.inl rfl)))
  (mss_cons (ms_for (t := (Tg.tp [2, 3])) pas rfl (mi_enu (gl (by kernel_rfl)) B.enumerate (ma_cons (me_sl (me_v (i := 0) rfl (Or.inl rfl)) (mo_some me_int) (mo_some me_int)) ma_nil)) (mg_tp rfl (mgs_cons sc__law_open.nd rfl (Or.inl rfl) (mgs_cons sc__law_open.nd rfl (Or.inl rfl) mgs_nil)))
  (mss_one (ms_setIx (me_v (i := 1) rfl (Or.inl rfl)) (me_op op_mod ok_mod (me_ty ok_int call_int1 (gl (by kernel_rfl)) B.int (by decide +kernel) (ma_cons (me_v (i := 2) rfl (Or.inl rfl)) ma_nil)) me_int) (me_op op_add3 ok_add (me_ix (me_v (i := 1) rfl (Or.inl rfl)) (me_op op_mod ok_mod (me_ty ok_int call_int1 (gl (by kernel_rfl)) B.int (by decide +kernel) (ma_cons (me_v (i := 2) rfl (Or.inl rfl)) ma_nil)) me_int) (fun _ _ => rfl)) (me_v (i := 3) rfl (Or.inl rfl))))))
  (mss_one (ms_ret (me_lst (ma_cons (me_v (i := 1) rfl (Or.inl rfl)) (ma_cons me_int (ma_cons me_int ma_nil))))))))
abbrev s__law_take : Stmt := topS 24
abbrev N__law_take : List Str := ["pen", "many", "at", "cell", "found"]
theorem sc__law_take : FnScope N__law_take ["pen", "many"] (defScope s__law_take) := ⟨rfl, rfl, rfl, by decide +kernel, rfl, by decide +kernel, by decide +kernel⟩
def b__law_take : GS := (sSeq (sIf (gTst (gOp dLt (gOp dIx (gV 0) (gK (.int 2))) (gV 1)))
  (sSeq (sAsg (gOp dIx (gV 0) (gK (.int 1))) (Tg.nm 2).f)
  (sSeq (sAsg (gK (.int 0)) (Tg.nm 3).f)
  (sSeq (sIf (gTst (gOp dLt (gV 2) (gBi dLen (gCons (gOp dIx (gV 0) (gK (.int 0))) gNil))))
  (sAsg (gOp dIx (gOp dIx (gV 0) (gK (.int 0))) (gV 2)) (Tg.nm 3).f)
  (sIf (gTst (gOp dGt (gBi dLen (gCons (gOp dIx (gV 0) (gK (.int 0))) gNil)) (gK (.int 0))))
  (sAsg (gOp dMod (gBi dInt (gCons (gOp dIx (gOp dIx (gV 0) (gK (.int 0))) (gOp dMod (gBi dInt (gCons (gOp dAdd (gOp dMulB (gV 2) (gK (.int 5))) (gK (.int 3))) gNil)) (gBi dLen (gCons (gOp dIx (gV 0) (gK (.int 0))) gNil)))) gNil)) (gOp dAdd (gOp dPow (gK (.int 10)) (gK (.int 17))) (gV 2))) (Tg.nm 3).f)
  sNil))
  (sSeq (sSetIx (gV 0) (gK (.int 1)) (gOp dAdd (gV 2) (gK (.int 1))))
  (sSetIx (gV 0) (gK (.int 2)) (gCall f__law_spread (gCons (gV 3) (gCons (gV 2) gNil))))))))
  sNil)
  (sSeq (sAsg (gOp dMod (gBi dInt (gCons (gOp dIx (gV 0) (gK (.int 2))) gNil)) (gV 1)) (Tg.nm 4).f)
  (sSeq (sSetIx (gV 0) (gK (.int 2)) (gOp dDiv (gOp dIx (gV 0) (gK (.int 2))) (gV 1)))
  (sRet (gV 4)))))
def f__law_take : List D → Hq → R D := rawOf 5 b__law_take
theorem ok__law_take (B : Blt mg) (C : Cst P K mg cm) (T : At K mg "_law_take" s__law_take ["pen", "many"]) (F__law_spread : DefOk P w K mg base cm 1 "_law_spread" ["cell", "at"] f__law_spread) : DefOk P w K mg base cm 2 "_law_take" ["pen", "many"] f__law_take :=
  def_ofR T sc__law_take fun f cdv A outer s H E room guard =>
    have tk := takes_of (X := cxOf (L2.CX P w) P w K mg base N__law_take "_law_take" (defScope s__law_take) f cdv A outer s H E) rfl rfl rfl rfl
    have pas := passes_of (X := cxOf (L2.CX P w) P w K mg base N__law_take "_law_take" (defScope s__law_take) f cdv A outer s H E) rfl
  (mss_cons (ms_if (mt_cmp op_lt ok_lt (me_ix (me_v (i := 0) rfl (Or.inl rfl)) me_int (fun _ _ => rfl)) (me_v (i := 1) rfl (Or.inl rfl)) (nomark _))
  (mss_cons (ms_asg (t := (Tg.nm 2)) (me_ix (me_v (i := 0) rfl (Or.inl rfl)) me_int (fun _ _ => rfl)) (mg_nm sc__law_take.nd rfl (Or.inl rfl)))
  (mss_cons (ms_asg (t := (Tg.nm 3)) me_int (mg_nm sc__law_take.nd rfl (Or.inl rfl)))
  (mss_cons (ms_if (mt_cmp op_lt ok_lt (me_v (i := 2) rfl (Or.inl rfl)) (me_bi ok_len c_len (gl (by kernel_rfl)) B.len (by decide +kernel) (ma_cons (me_ix (me_v (i := 0) rfl (Or.inl rfl)) me_int (fun _ _ => rfl)) ma_nil)) (nomark _))
  (mss_one (ms_asg (t := (Tg.nm 3)) (me_ix (me_ix (me_v (i := 0) rfl (Or.inl rfl)) me_int (fun _ _ => rfl)) (me_v (i := 2) rfl (Or.inl rfl)) (fun _ _ => rfl)) (mg_nm sc__law_take.nd rfl (Or.inl rfl))))
  (mss_one (ms_if (mt_cmp op_gt ok_gt (me_bi ok_len c_len (gl (by kernel_rfl)) B.len (by decide +kernel) (ma_cons (me_ix (me_v (i := 0) rfl (Or.inl rfl)) me_int (fun _ _ => rfl)) ma_nil)) me_int (nomark _))
  (mss_one (ms_asg (t := (Tg.nm 3)) (me_op op_mod ok_mod (me_ty ok_int call_int1 (gl (by kernel_rfl)) B.int (by decide +kernel) (ma_cons (me_ix (me_ix (me_v (i := 0) rfl (Or.inl rfl)) me_int (fun _ _ => rfl)) (me_op op_mod ok_mod (me_ty ok_int call_int1 (gl (by kernel_rfl)) B.int (by decide +kernel) (ma_cons (me_op op_add3 ok_add (me_op op_mul4 ok_mulB (me_v (i := 2) rfl (Or.inl rfl)) me_int) me_int) ma_nil)) (me_bi ok_len c_len (gl (by kernel_rfl)) B.len (by decide +kernel) (ma_cons (me_ix (me_v (i := 0) rfl (Or.inl rfl)) me_int (fun _ _ => rfl)) ma_nil))) (fun _ _ => rfl)) ma_nil)) (me_op op_add3 ok_add (me_op op_pow ok_pow me_int me_int) (me_v (i := 2) rfl (Or.inl rfl)))) (mg_nm sc__law_take.nd rfl (Or.inl rfl))))
  mss_nil)))
  (mss_cons (ms_setIx (me_v (i := 0) rfl (Or.inl rfl)) me_int (me_op op_add3 ok_add (me_v (i := 2) rfl (Or.inl rfl)) me_int))
  (mss_one (ms_setIx (me_v (i := 0) rfl (Or.inl rfl)) me_int (me_callD F__law_spread room (by omega) guard (gl (by kernel_rfl)) tk rfl (ma_cons (me_v (i := 3) rfl (Or.inl rfl)) (ma_cons (me_v (i := 2) rfl (Or.inl rfl)) ma_nil)) (arg_cons (arg_cons arg_nil)))))))))
  mss_nil)
  (mss_cons (ms_asg (t := (Tg.nm 4)) (me_op op_mod ok_mod (me_ty ok_int call_int1 (gl (by kernel_rfl)) B.int (by decide +kernel) (ma_cons (me_ix (me_v (i := 0) rfl (Or.inl rfl)) me_int (fun _ _ => rfl)) ma_nil)) (me_v (i := 1) rfl (Or.inl rfl))) (mg_nm sc__law_take.nd rfl (Or.inl rfl)))
  (mss_cons (ms_setIx (me_v (i := 0) rfl (Or.inl rfl)) me_int (me_op op_fdiv ok_div (me_ix (me_v (i := 0) rfl (Or.inl rfl)) me_int (fun _ _ => rfl)) (me_v (i := 1) rfl (Or.inl rfl))))
  (mss_one (ms_ret (me_v (i := 4) rfl (Or.inl rfl)))))))
abbrev s__law_one : Stmt := topS 25
abbrev N__law_one : List Str := ["pen", "some"]
theorem sc__law_one : FnScope N__law_one ["pen", "some"] (defScope s__law_one) := ⟨rfl, rfl, rfl, by decide +kernel, rfl, by decide +kernel, by decide +kernel⟩
def b__law_one : GS := (sRet (gOp dIx (gV 1) (gCall f__law_take (gCons (gV 0) (gCons (gBi dLen (gCons (gV 1) gNil)) gNil)))))
def f__law_one : List D → Hq → R D := rawOf 2 b__law_one
theorem ok__law_one (B : Blt mg) (C : Cst P K mg cm) (T : At K mg "_law_one" s__law_one ["pen", "some"]) (F__law_take : DefOk P w K mg base cm 2 "_law_take" ["pen", "many"] f__law_take) : DefOk P w K mg base cm 3 "_law_one" ["pen", "some"] f__law_one :=
  def_ofR T sc__law_one fun f cdv A outer s H E room guard =>
    have tk := takes_of (X := cxOf (L2.CX P w) P w K mg base N__law_one "_law_one" (defScope s__law_one) f cdv A outer s H E) rfl rfl rfl rfl
    have pas := passes_of (X := cxOf (L2.CX P w) P w K mg base N__law_one "_law_one" (defScope s__law_one) f cdv A outer s H E) rfl
  (mss_one (ms_ret (me_ix (me_v (i := 1) rfl (Or.inl rfl)) (me_callD F__law_take room (by omega) guard (gl (by kernel_rfl)) tk rfl (ma_cons (me_v (i := 0) rfl (Or.inl rfl)) (ma_cons (me_bi ok_len c_len (gl (by kernel_rfl)) B.len (by decide +kernel) (ma_cons (me_v (i := 1) rfl (Or.inl rfl)) ma_nil)) ma_nil)) (arg_cons (arg_cons arg_nil))) (fun _ _ => rfl))))
abbrev s__law_kinds : Stmt := topS 26
abbrev N__law_kinds : List Str := ["one", "some"]
theorem sc__law_kinds : FnScope N__law_kinds ["one"] (defScope s__law_kinds) := ⟨rfl, rfl, rfl, by decide +kernel, rfl, by decide +kernel, by decide +kernel⟩
def b__law_kinds : GS := (sSeq (sAsg (gLst (gCons (gBi (dIsE supC) (gCons (gV 0) (gCons (gK (.cls "NoItems")) gNil))) (gCons (gBi (dIsE supC) (gCons (gV 0) (gCons (gK (.cls "NoOrder")) gNil))) (gCons (gBi (dIsE supC) (gCons (gV 0) (gCons (gK (.cls "NoItem")) gNil))) (gCons (gBi (dIsE supC) (gCons (gV 0) (gCons (gK (.cls "NoPlace")) gNil))) gNil))))) (Tg.nm 1).f)
  (sSeq (sAsg (gOp dAdd (gV 1) (gLst (gCons (gBi (dIsE supC) (gCons (gV 0) (gCons (gK (.cls "NoRule")) gNil))) (gCons (gBi (dIsE supC) (gCons (gV 0) (gCons (gK (.cls "NoStanding")) gNil))) (gCons (gBi (dIsE supC) (gCons (gV 0) (gCons (gK (.cls "NoAsks")) gNil))) gNil))))) (Tg.nm 1).f)
  (sSeq (sAsg (gOp dAdd (gV 1) (gLst (gCons (gBi (dIsE supC) (gCons (gV 0) (gCons (gK (.cls "NoRules")) gNil))) (gCons (gBi (dIsE supC) (gCons (gV 0) (gCons (gK (.cls "NoCase")) gNil))) (gCons (gBi (dIsE supC) (gCons (gV 0) (gCons (gK (.cls "NoLot")) gNil))) (gCons (gBi (dIsE supC) (gCons (gV 0) (gCons (gK (.cls "NoGoal")) gNil))) gNil)))))) (Tg.nm 1).f)
  (sSeq (sAsg (gOp dAdd (gV 1) (gLst (gCons (gBi (dIsE supC) (gCons (gV 0) (gCons (gK (.cls "NoLog")) gNil))) (gCons (gBi (dIsE supC) (gCons (gV 0) (gCons (gK (.cls "NoNumber")) gNil))) (gCons (gBi (dIsE supC) (gCons (gV 0) (gCons (gK (.cls "NoName")) gNil))) gNil))))) (Tg.nm 1).f)
  (sSeq (sAsg (gOp dAdd (gV 1) (gLst (gCons (gBi (dIsE supC) (gCons (gV 0) (gCons (gK (.cls "NoRecord")) gNil))) (gCons (gBi (dIsE supC) (gCons (gV 0) (gCons (gK (.cls "NoAnswer")) gNil))) (gCons (gBi (dIsE supC) (gCons (gV 0) (gCons (gK (.cls "NoMark")) gNil))) gNil))))) (Tg.nm 1).f)
  (sRet (gOp dAdd (gV 1) (gLst (gCons (gBi (dIsE supC) (gCons (gV 0) (gCons (gK (.cls "NoSeeker")) gNil))) (gCons (gBi (dIsE supC) (gCons (gV 0) (gCons (gK (.cls "TooMany")) gNil))) gNil))))))))))
def f__law_kinds : List D → Hq → R D := rawOf 2 b__law_kinds
theorem ok__law_kinds (B : Blt mg) (C : Cst P K mg cm) (T : At K mg "_law_kinds" s__law_kinds ["one"])  : DefOk P w K mg base cm 1 "_law_kinds" ["one"] f__law_kinds :=
  def_ofR T sc__law_kinds fun f cdv A outer s H E room guard =>
    have tk := takes_of (X := cxOf (L2.CX P w) P w K mg base N__law_kinds "_law_kinds" (defScope s__law_kinds) f cdv A outer s H E) rfl rfl rfl rfl
    have pas := passes_of (X := cxOf (L2.CX P w) P w K mg base N__law_kinds "_law_kinds" (defScope s__law_kinds) f cdv A outer s H E) rfl
  (mss_cons (ms_asg (t := (Tg.nm 1)) (me_lst (ma_cons (me_bi (ok_isE C.sup C.ve) c_isE (gl (by kernel_rfl)) B.isinstance (by decide +kernel) (ma_cons (me_v (i := 0) rfl (Or.inl rfl)) (ma_cons (me_clsE C.x_NoItems (gl (by kernel_rfl))) ma_nil))) (ma_cons (me_bi (ok_isE C.sup C.ve) c_isE (gl (by kernel_rfl)) B.isinstance (by decide +kernel) (ma_cons (me_v (i := 0) rfl (Or.inl rfl)) (ma_cons (me_clsE C.x_NoOrder (gl (by kernel_rfl))) ma_nil))) (ma_cons (me_bi (ok_isE C.sup C.ve) c_isE (gl (by kernel_rfl)) B.isinstance (by decide +kernel) (ma_cons (me_v (i := 0) rfl (Or.inl rfl)) (ma_cons (me_clsE C.x_NoItem (gl (by kernel_rfl))) ma_nil))) (ma_cons (me_bi (ok_isE C.sup C.ve) c_isE (gl (by kernel_rfl)) B.isinstance (by decide +kernel) (ma_cons (me_v (i := 0) rfl (Or.inl rfl)) (ma_cons (me_clsE C.x_NoPlace (gl (by kernel_rfl))) ma_nil))) ma_nil))))) (mg_nm sc__law_kinds.nd rfl (Or.inl rfl)))
  (mss_cons (ms_asg (t := (Tg.nm 1)) (me_op op_add3 ok_add (me_v (i := 1) rfl (Or.inl rfl)) (me_lst (ma_cons (me_bi (ok_isE C.sup C.ve) c_isE (gl (by kernel_rfl)) B.isinstance (by decide +kernel) (ma_cons (me_v (i := 0) rfl (Or.inl rfl)) (ma_cons (me_clsE C.x_NoRule (gl (by kernel_rfl))) ma_nil))) (ma_cons (me_bi (ok_isE C.sup C.ve) c_isE (gl (by kernel_rfl)) B.isinstance (by decide +kernel) (ma_cons (me_v (i := 0) rfl (Or.inl rfl)) (ma_cons (me_clsE C.x_NoStanding (gl (by kernel_rfl))) ma_nil))) (ma_cons (me_bi (ok_isE C.sup C.ve) c_isE (gl (by kernel_rfl)) B.isinstance (by decide +kernel) (ma_cons (me_v (i := 0) rfl (Or.inl rfl)) (ma_cons (me_clsE C.x_NoAsks (gl (by kernel_rfl))) ma_nil))) ma_nil))))) (mg_nm sc__law_kinds.nd rfl (Or.inl rfl)))
  (mss_cons (ms_asg (t := (Tg.nm 1)) (me_op op_add3 ok_add (me_v (i := 1) rfl (Or.inl rfl)) (me_lst (ma_cons (me_bi (ok_isE C.sup C.ve) c_isE (gl (by kernel_rfl)) B.isinstance (by decide +kernel) (ma_cons (me_v (i := 0) rfl (Or.inl rfl)) (ma_cons (me_clsE C.x_NoRules (gl (by kernel_rfl))) ma_nil))) (ma_cons (me_bi (ok_isE C.sup C.ve) c_isE (gl (by kernel_rfl)) B.isinstance (by decide +kernel) (ma_cons (me_v (i := 0) rfl (Or.inl rfl)) (ma_cons (me_clsE C.x_NoCase (gl (by kernel_rfl))) ma_nil))) (ma_cons (me_bi (ok_isE C.sup C.ve) c_isE (gl (by kernel_rfl)) B.isinstance (by decide +kernel) (ma_cons (me_v (i := 0) rfl (Or.inl rfl)) (ma_cons (me_clsE C.x_NoLot (gl (by kernel_rfl))) ma_nil))) (ma_cons (me_bi (ok_isE C.sup C.ve) c_isE (gl (by kernel_rfl)) B.isinstance (by decide +kernel) (ma_cons (me_v (i := 0) rfl (Or.inl rfl)) (ma_cons (me_clsE C.x_NoGoal (gl (by kernel_rfl))) ma_nil))) ma_nil)))))) (mg_nm sc__law_kinds.nd rfl (Or.inl rfl)))
  (mss_cons (ms_asg (t := (Tg.nm 1)) (me_op op_add3 ok_add (me_v (i := 1) rfl (Or.inl rfl)) (me_lst (ma_cons (me_bi (ok_isE C.sup C.ve) c_isE (gl (by kernel_rfl)) B.isinstance (by decide +kernel) (ma_cons (me_v (i := 0) rfl (Or.inl rfl)) (ma_cons (me_clsE C.x_NoLog (gl (by kernel_rfl))) ma_nil))) (ma_cons (me_bi (ok_isE C.sup C.ve) c_isE (gl (by kernel_rfl)) B.isinstance (by decide +kernel) (ma_cons (me_v (i := 0) rfl (Or.inl rfl)) (ma_cons (me_clsE C.x_NoNumber (gl (by kernel_rfl))) ma_nil))) (ma_cons (me_bi (ok_isE C.sup C.ve) c_isE (gl (by kernel_rfl)) B.isinstance (by decide +kernel) (ma_cons (me_v (i := 0) rfl (Or.inl rfl)) (ma_cons (me_clsE C.x_NoName (gl (by kernel_rfl))) ma_nil))) ma_nil))))) (mg_nm sc__law_kinds.nd rfl (Or.inl rfl)))
  (mss_cons (ms_asg (t := (Tg.nm 1)) (me_op op_add3 ok_add (me_v (i := 1) rfl (Or.inl rfl)) (me_lst (ma_cons (me_bi (ok_isE C.sup C.ve) c_isE (gl (by kernel_rfl)) B.isinstance (by decide +kernel) (ma_cons (me_v (i := 0) rfl (Or.inl rfl)) (ma_cons (me_clsE C.x_NoRecord (gl (by kernel_rfl))) ma_nil))) (ma_cons (me_bi (ok_isE C.sup C.ve) c_isE (gl (by kernel_rfl)) B.isinstance (by decide +kernel) (ma_cons (me_v (i := 0) rfl (Or.inl rfl)) (ma_cons (me_clsI C.i_NoAnswer (gl (by kernel_rfl))) ma_nil))) (ma_cons (me_bi (ok_isE C.sup C.ve) c_isE (gl (by kernel_rfl)) B.isinstance (by decide +kernel) (ma_cons (me_v (i := 0) rfl (Or.inl rfl)) (ma_cons (me_clsI C.i_NoMark (gl (by kernel_rfl))) ma_nil))) ma_nil))))) (mg_nm sc__law_kinds.nd rfl (Or.inl rfl)))
  (mss_one (ms_ret (me_op op_add3 ok_add (me_v (i := 1) rfl (Or.inl rfl)) (me_lst (ma_cons (me_bi (ok_isE C.sup C.ve) c_isE (gl (by kernel_rfl)) B.isinstance (by decide +kernel) (ma_cons (me_v (i := 0) rfl (Or.inl rfl)) (ma_cons (me_clsE C.x_NoSeeker (gl (by kernel_rfl))) ma_nil))) (ma_cons (me_bi (ok_isE C.sup C.ve) c_isE (gl (by kernel_rfl)) B.isinstance (by decide +kernel) (ma_cons (me_v (i := 0) rfl (Or.inl rfl)) (ma_cons (me_clsI C.i_TooMany (gl (by kernel_rfl))) ma_nil))) ma_nil)))))))))))
abbrev s_law : Stmt := topS 27
abbrev N_law : List Str := ["script", "pen", "value", "made", "number", "one", "kinds", "plain", "kept", "some"]
theorem sc_law : FnScope N_law ["script"] (defScope s_law) := ⟨rfl, rfl, rfl, by decide +kernel, rfl, by decide +kernel, by decide +kernel⟩
def b_law : GS := (sSeq (sAsg (gCall f__law_open (gCons (gV 0) gNil)) (Tg.nm 1).f)
  (sSeq (sAsg (gCall f__law_one (gCons (gV 1) (gCons (gLst (gCons (gK .non) (gCons (gK (.int 0)) (gCons (gK (.int 7)) (gCons (gUn dNeg (gK (.int 1))) (gCons (gK (.str "x")) (gCons (gTup (gCons (gK (.int 0)) (gCons (gK (.int 1)) gNil))) (gCons (gOp dPow (gK (.int 10)) (gK (.int 20))) (gCons (gK (.bl true)) (gCons (gLst gNil) (gCons (gTup (gCons (gK .non) gNil)) (gCons (gLst (gCons (gK (.str "a")) (gCons (gLst (gCons (gK (.int 1)) gNil)) gNil))) gNil)))))))))))) gNil))) (Tg.nm 2).f)
  (sSeq (sAsg (gLst (gCons (gNewX "NoItems") (gCons (gNewX "NoOrder") (gCons (gNewX "NoItem") (gCons (gNewX "NoPlace") (gCons (gNewX "NoRule") (gCons (gNewX "NoStanding") (gCons (gNewX "NoAsks") gNil)))))))) (Tg.nm 3).f)
  (sSeq (sAsg (gOp dAdd (gV 3) (gLst (gCons (gNewX "NoRules") (gCons (gNewX "NoCase") (gCons (gNewX "NoLot") (gCons (gNewX "NoGoal") (gCons (gNewX "NoLog") (gCons (gNewX "NoNumber") (gCons (gNewX "NoName") gNil))))))))) (Tg.nm 3).f)
  (sSeq (sAsg (gOp dAdd (gV 3) (gLst (gCons (gNewX "NoRecord") (gCons (gNewF "NoAnswer" "answer" (gV 2)) (gCons (gNewF "NoMark" "number" (gV 2)) (gCons (gNewX "NoSeeker") (gCons (gNewF "TooMany" "limit" (gV 2)) gNil))))))) (Tg.nm 3).f)
  (sSeq (sFor (iEnuG (gCons (gV 3) gNil)) (Tg.tp [4, 5])
  (sSeq (sAsg (gCall f__law_kinds (gCons (gV 5) gNil)) (Tg.nm 6).f)
  (sSeq (sIf (gOr (gTst (gOp dNeB (gMt dCountL (gV 6) (gCons (gK (.bl true)) gNil)) (gK (.int 1)))) (gTst (gOp dIsNot (gOp dIx (gV 6) (gV 4)) (gK (.bl true)))))
  (sRet (gK (.bl false)))
  sNil)
  (sIf (gOr (gNot (gTst (gBi (dIsE supC) (gCons (gV 5) (gCons (gK (.cls "SortError")) gNil))))) (gNot (gTst (gBi (dIsE supC) (gCons (gV 5) (gCons (gK (.ty "ValueError")) gNil))))))
  (sRet (gK (.bl false)))
  sNil))))
  (sSeq (sAsg (gNewX "SortError") (Tg.nm 7).f)
  (sSeq (sIf (gOr (gTst (gOp dInA (gK (.bl true)) (gCall f__law_kinds (gCons (gV 7) gNil)))) (gNot (gTst (gBi (dIsE supC) (gCons (gV 7) (gCons (gK (.ty "ValueError")) gNil))))))
  (sRet (gK (.bl false)))
  sNil)
  (sSeq (sIf (gTst (gOp dNeB (gBi dRepr (gCons (gLst (gCons (gFldX "NoAnswer" "answer" (gOp dIx (gV 3) (gK (.int 15)))) (gCons (gFldX "NoMark" "number" (gOp dIx (gV 3) (gK (.int 16)))) (gCons (gFldX "TooMany" "limit" (gOp dIx (gV 3) (gK (.int 18)))) gNil)))) gNil)) (gBi dRepr (gCons (gOp dMulB (gLst (gCons (gV 2) gNil)) (gK (.int 3))) gNil))))
  (sRet (gK (.bl false)))
  sNil)
  (sSeq (sAsg (gLst (gCons (gV 2) gNil)) (Tg.nm 8).f)
  (sSeq (sAsg (gLst (gCons (gNewF "NoAnswer" "answer" (gV 8)) (gCons (gNewF "NoMark" "number" (gV 8)) (gCons (gNewF "TooMany" "limit" (gV 8)) gNil)))) (Tg.nm 9).f)
  (sSeq (sExpr (gMt dAppend (gV 8) (gCons (gK .non) gNil)))
  (sRet (gOp dEqB (gBi dRepr (gCons (gLst (gCons (gFldX "NoAnswer" "answer" (gOp dIx (gV 9) (gK (.int 0)))) (gCons (gFldX "NoMark" "number" (gOp dIx (gV 9) (gK (.int 1)))) (gCons (gFldX "TooMany" "limit" (gOp dIx (gV 9) (gK (.int 2)))) gNil)))) gNil)) (gBi dRepr (gCons (gOp dMulB (gLst (gCons (gV 8) gNil)) (gK (.int 3))) gNil))))))))))))))))
def f_law : List D → Hq → R D := rawOf 10 b_law
theorem ok_law (B : Blt mg) (C : Cst P K mg cm) (T : At K mg "law" s_law ["script"]) (F__law_kinds : DefOk P w K mg base cm 1 "_law_kinds" ["one"] f__law_kinds) (F__law_one : DefOk P w K mg base cm 3 "_law_one" ["pen", "some"] f__law_one) (F__law_open : DefOk P w K mg base cm 1 "_law_open" ["script"] f__law_open) : DefOk P w K mg base cm 4 "law" ["script"] f_law :=
  def_ofR T sc_law fun f cdv A outer s H E room guard =>
    have tk := takes_of (X := cxOf (L2.CX P w) P w K mg base N_law "law" (defScope s_law) f cdv A outer s H E) rfl rfl rfl rfl
    have pas := passes_of (X := cxOf (L2.CX P w) P w K mg base N_law "law" (defScope s_law) f cdv A outer s H E) rfl
  (mss_cons (ms_asg (t := (Tg.nm 1)) (me_callD F__law_open room (by omega) guard (gl (by kernel_rfl)) tk rfl (ma_cons (me_v (i := 0) rfl (Or.inl rfl)) ma_nil) (arg_cons arg_nil)) (mg_nm sc_law.nd rfl (Or.inl rfl)))
  (mss_cons (ms_asg (t := (Tg.nm 2)) (me_callD F__law_one room (by omega) guard (gl (by kernel_rfl)) tk rfl (ma_cons (me_v (i := 1) rfl (Or.inl rfl)) (ma_cons (me_lst (ma_cons me_non (ma_cons me_int (ma_cons me_int (ma_cons (me_un un_neg ok_neg me_int) (ma_cons me_str (ma_cons (me_tup (ma_cons me_int (ma_cons me_int ma_nil))) (ma_cons (me_op op_pow ok_pow me_int me_int) (ma_cons me_bl (ma_cons (me_lst ma_nil) (ma_cons (me_tup (ma_cons me_non ma_nil)) (ma_cons (me_lst (ma_cons me_str (ma_cons (me_lst (ma_cons me_int ma_nil)) ma_nil))) ma_nil)))))))))))) ma_nil)) (arg_cons (arg_cons arg_nil))) (mg_nm sc_law.nd rfl (Or.inl rfl)))
  (mss_cons (ms_asg (t := (Tg.nm 3)) (me_lst (ma_cons (me_newX C.x_NoItems (gl (by kernel_rfl))) (ma_cons (me_newX C.x_NoOrder (gl (by kernel_rfl))) (ma_cons (me_newX C.x_NoItem (gl (by kernel_rfl))) (ma_cons (me_newX C.x_NoPlace (gl (by kernel_rfl))) (ma_cons (me_newX C.x_NoRule (gl (by kernel_rfl))) (ma_cons (me_newX C.x_NoStanding (gl (by kernel_rfl))) (ma_cons (me_newX C.x_NoAsks (gl (by kernel_rfl))) ma_nil)))))))) (mg_nm sc_law.nd rfl (Or.inl rfl)))
  (mss_cons (ms_asg (t := (Tg.nm 3)) (me_op op_add3 ok_add (me_v (i := 3) rfl (Or.inl rfl)) (me_lst (ma_cons (me_newX C.x_NoRules (gl (by kernel_rfl))) (ma_cons (me_newX C.x_NoCase (gl (by kernel_rfl))) (ma_cons (me_newX C.x_NoLot (gl (by kernel_rfl))) (ma_cons (me_newX C.x_NoGoal (gl (by kernel_rfl))) (ma_cons (me_newX C.x_NoLog (gl (by kernel_rfl))) (ma_cons (me_newX C.x_NoNumber (gl (by kernel_rfl))) (ma_cons (me_newX C.x_NoName (gl (by kernel_rfl))) ma_nil))))))))) (mg_nm sc_law.nd rfl (Or.inl rfl)))
  (mss_cons (ms_asg (t := (Tg.nm 3)) (me_op op_add3 ok_add (me_v (i := 3) rfl (Or.inl rfl)) (me_lst (ma_cons (me_newX C.x_NoRecord (gl (by kernel_rfl))) (ma_cons (me_newF C.i_NoAnswer room (by omega) (gl (by kernel_rfl)) (me_v (i := 2) rfl (Or.inl rfl))) (ma_cons (me_newF C.i_NoMark room (by omega) (gl (by kernel_rfl)) (me_v (i := 2) rfl (Or.inl rfl))) (ma_cons (me_newX C.x_NoSeeker (gl (by kernel_rfl))) (ma_cons (me_newF C.i_TooMany room (by omega) (gl (by kernel_rfl)) (me_v (i := 2) rfl (Or.inl rfl))) ma_nil))))))) (mg_nm sc_law.nd rfl (Or.inl rfl)))
  (mss_cons (ms_for (t := (Tg.tp [4, 5])) pas rfl (mi_enu (gl (by kernel_rfl)) B.enumerate (ma_cons (me_v (i := 3) rfl (Or.inl rfl)) ma_nil)) (mg_tp rfl (mgs_cons sc_law.nd rfl (Or.inl rfl) (mgs_cons sc_law.nd rfl (Or.inl rfl) mgs_nil)))
  (mss_cons (ms_asg (t := (Tg.nm 6)) (me_callD F__law_kinds room (by omega) guard (gl (by kernel_rfl)) tk rfl (ma_cons (me_v (i := 5) rfl (Or.inl rfl)) ma_nil) (arg_cons arg_nil)) (mg_nm sc_law.nd rfl (Or.inl rfl)))
  (mss_cons (ms_if (MW.mt (mw_or (mt_cmp (op_neB room) ok_neB (me_mt ok_lstCnt PySem.F.slot_list_count PySem.F.type_list_count (mt_lstCnt (units65 room)) (me_v (i := 6) rfl (Or.inl rfl)) (ma_cons me_bl ma_nil)) me_int (nomark _)) (mw_or1 (mt_cmp op_isNot2 ok_isNot (me_ix (me_v (i := 6) rfl (Or.inl rfl)) (me_v (i := 4) rfl (Or.inl rfl)) (fun _ _ => rfl)) me_bl (nomark _)))))
  (mss_one (ms_ret me_bl))
  mss_nil)
  (mss_one (ms_if (MW.mt (mw_or (mt_not (mt_val (me_bi (ok_isE C.sup C.ve) c_isE (gl (by kernel_rfl)) B.isinstance (by decide +kernel) (ma_cons (me_v (i := 5) rfl (Or.inl rfl)) (ma_cons (me_clsE C.x_SortError (gl (by kernel_rfl))) ma_nil))))) (mw_or1 (mt_not (mt_val (me_bi (ok_isE C.sup C.ve) c_isE (gl (by kernel_rfl)) B.isinstance (by decide +kernel) (ma_cons (me_v (i := 5) rfl (Or.inl rfl)) (ma_cons (me_tyn (gl (by kernel_rfl)) C.z_ValueError PyProof.Rows.Boot.«ValueError») ma_nil))))))))
  (mss_one (ms_ret me_bl))
  mss_nil)))))
  (mss_cons (ms_asg (t := (Tg.nm 7)) (me_newX C.x_SortError (gl (by kernel_rfl))) (mg_nm sc_law.nd rfl (Or.inl rfl)))
  (mss_cons (ms_if (MW.mt (mw_or (mt_cmp (op_inA room) ok_inA me_bl (me_callD F__law_kinds room (by omega) guard (gl (by kernel_rfl)) tk rfl (ma_cons (me_v (i := 7) rfl (Or.inl rfl)) ma_nil) (arg_cons arg_nil)) (by rfl)) (mw_or1 (mt_not (mt_val (me_bi (ok_isE C.sup C.ve) c_isE (gl (by kernel_rfl)) B.isinstance (by decide +kernel) (ma_cons (me_v (i := 7) rfl (Or.inl rfl)) (ma_cons (me_tyn (gl (by kernel_rfl)) C.z_ValueError PyProof.Rows.Boot.«ValueError») ma_nil))))))))
  (mss_one (ms_ret me_bl))
  mss_nil)
  (mss_cons (ms_if (mt_cmp (op_neB room) ok_neB (me_bi ok_repr (c_repr guard room.units) (gl (by kernel_rfl)) B.repr (by decide +kernel) (ma_cons (me_lst (ma_cons (me_fldX C.fx_NoAnswer_answer (me_ix (me_v (i := 3) rfl (Or.inl rfl)) me_int (fun _ _ => rfl))) (ma_cons (me_fldX C.fx_NoMark_number (me_ix (me_v (i := 3) rfl (Or.inl rfl)) me_int (fun _ _ => rfl))) (ma_cons (me_fldX C.fx_TooMany_limit (me_ix (me_v (i := 3) rfl (Or.inl rfl)) me_int (fun _ _ => rfl))) ma_nil)))) ma_nil)) (me_bi ok_repr (c_repr guard room.units) (gl (by kernel_rfl)) B.repr (by decide +kernel) (ma_cons (me_op op_mul4 ok_mulB (me_lst (ma_cons (me_v (i := 2) rfl (Or.inl rfl)) ma_nil)) me_int) ma_nil)) (nomark _))
  (mss_one (ms_ret me_bl))
  mss_nil)
  (mss_cons (ms_asg (t := (Tg.nm 8)) (me_lst (ma_cons (me_v (i := 2) rfl (Or.inl rfl)) ma_nil)) (mg_nm sc_law.nd rfl (Or.inl rfl)))
  (mss_cons (ms_asg (t := (Tg.nm 9)) (me_lst (ma_cons (me_newF C.i_NoAnswer room (by omega) (gl (by kernel_rfl)) (me_v (i := 8) rfl (Or.inl rfl))) (ma_cons (me_newF C.i_NoMark room (by omega) (gl (by kernel_rfl)) (me_v (i := 8) rfl (Or.inl rfl))) (ma_cons (me_newF C.i_TooMany room (by omega) (gl (by kernel_rfl)) (me_v (i := 8) rfl (Or.inl rfl))) ma_nil)))) (mg_nm sc_law.nd rfl (Or.inl rfl)))
  (mss_cons (ms_expr (me_mt ok_append PySem.F.slot_list_append PySem.F.type_list_append mt_append (me_v (i := 8) rfl (Or.inl rfl)) (ma_cons me_non ma_nil)))
  (mss_one (ms_ret (me_cmp (op_eqB room) ok_eqB (me_bi ok_repr (c_repr guard room.units) (gl (by kernel_rfl)) B.repr (by decide +kernel) (ma_cons (me_lst (ma_cons (me_fldX C.fx_NoAnswer_answer (me_ix (me_v (i := 9) rfl (Or.inl rfl)) me_int (fun _ _ => rfl))) (ma_cons (me_fldX C.fx_NoMark_number (me_ix (me_v (i := 9) rfl (Or.inl rfl)) me_int (fun _ _ => rfl))) (ma_cons (me_fldX C.fx_TooMany_limit (me_ix (me_v (i := 9) rfl (Or.inl rfl)) me_int (fun _ _ => rfl))) ma_nil)))) ma_nil)) (me_bi ok_repr (c_repr guard room.units) (gl (by kernel_rfl)) B.repr (by decide +kernel) (ma_cons (me_op op_mul4 ok_mulB (me_lst (ma_cons (me_v (i := 8) rfl (Or.inl rfl)) ma_nil)) me_int) ma_nil)) (nomark _))))))))))))))))
end
end G2
end

section
set_option Elab.async false
set_option linter.all false
set_option maxRecDepth 100000
set_option maxHeartbeats 2100000
namespace G2
open PySem PySem.Spec L2 Mach
theorem RO_lst {ga : GA} {lo : Lo} {h : Hq} {Q : D → Hq → Prop} : RO (Mach.gLst ga lo h) Q = RO (ga lo h) (fun ds h1 => ds.length ≤ 4096 ∧ Q (.ref h1.length) (h1 ++ [.lst ds])) := by
  unfold Mach.gLst
  rw [RO_bind]
  congr 1
  funext ds h1
  by_cases hl : ds.length ≤ 4096
  · rw [if_pos hl, RO_ok]; simp [hl]
  · rw [if_neg hl, RO_bad]; simp [hl]
theorem bind_ok {α β : Type} {a : α} {h : Hq} {f : α → Hq → R β} : (R.ok a h).bind f = f a h := Eq.trans rfl rfl
theorem calm_ok {α : Type} {a : α} {h : Hq} : (R.ok a h).calm = .ok a h := Eq.trans rfl rfl
theorem filter_all {α : Type} {l : List α} : l.filter (fun _ => true) = l := List.filter_eq_self.mpr fun _ _ => rfl
theorem at_i {α : Type} (xs : List α) (i : Nat) : atI xs (i : Int) = xs[i]? := by
  unfold atI ixN
  by_cases hi : i < xs.length
  · rw [if_pos (by omega), if_pos (by omega)]; simp
  · rw [if_pos (by omega), if_neg (by omega)]; simp; omega
theorem at_0 {α : Type} (a : α) (l : List α) : atI (a :: l) 0 = some a := at_i (a :: l) 0
theorem at_1 {α : Type} (a b : α) (l : List α) : atI (a :: b :: l) 1 = some b := at_i (a :: b :: l) 1
theorem at_2 {α : Type} (a b c : α) (l : List α) : atI (a :: b :: c :: l) 2 = some c := at_i (a :: b :: c :: l) 2
def Pn (h : Hq) (d : D) : Prop := ∃ n, n ≤ 50 ∧ ∃ q, toP h n d = some q
theorem mapM_mem {α β : Type} {f : α → Option β} : ∀ {l : List α} {m : List β}, l.mapM f = some m → ∀ x ∈ l, ∃ y, f x = some y
  | [], m, e, x, hx => nomatch hx
  | a :: l, m, e, x, hx => by
    rw [List.mapM_cons] at e
    cases h1 : f a with
    | none => rw [h1] at e; simp at e
    | some y =>
      rw [h1] at e
      cases h2 : l.mapM f with
      | none => rw [h2] at e; simp at e
      | some m2 =>
        rcases (List.mem_cons).mp hx with rfl | hx
        · exact ⟨y, h1⟩
        · exact mapM_mem h2 x hx
inductive PV (h : Hq) : D → Prop
  | non : PV h .non
  | bl (b : Bool) : PV h (.bl b)
  | int (i : Int) : PV h (.int i)
  | str (s : Str) : PV h (.str s)
  | tup (ds : List D) (all : ∀ x ∈ ds, Pn h x) : PV h (.tup ds)
  | rol (ds : List D) : PV h (.rol ds)
  | ref (r : Nat) (ds : List D) (e : h[r]? = some (.lst ds)) : PV h (.ref r)
theorem Pn.view {h : Hq} {d : D} (p : Pn h d) : PV h d := by
  obtain ⟨n, hn, q, e⟩ := p
  cases d with
  | non => exact .non
  | bl b => exact .bl b
  | int i => exact .int i
  | str s => exact .str s
  | ty t => cases n <;> simp [toP] at e
  | cls t => cases n <;> simp [toP] at e
  | rol ds => exact .rol ds
  | tup ds =>
    cases n with
    | zero => simp [toP] at e
    | succ n =>
      simp only [toP] at e
      cases hm : ds.mapM (toP h n) with
      | none => rw [hm] at e; simp at e
      | some qs => exact .tup ds fun x hx => let ⟨y, ey⟩ := mapM_mem hm x hx; ⟨n, by omega, y, ey⟩
  | ref r =>
    cases n with
    | zero => simp [toP] at e
    | succ n =>
      simp only [toP] at e
      split at e
      · rename_i ds eo
        exact .ref r ds eo
      · cases e
theorem ty_of {h : Hq} {d : D} (p : Pn h d) : ∃ t, tyOf h d = some t ∧ (t = "int" ↔ ∃ i, d = .int i) ∧ (t = "tuple" ↔ ∃ ds, d = .tup ds) ∧ (t = "bool" ↔ ∃ b, d = .bl b) ∧ (t = "NoneType" ∨ t = "bool" ∨ t = "int" ∨ t = "str" ∨ t = "tuple" ∨ t = "list") := by
  cases p.view with
  | non => exact ⟨_, rfl, by simp, by simp, by simp, by simp⟩
  | bl b => exact ⟨_, rfl, by simp, by simp, by simp, by simp⟩
  | int b => exact ⟨_, rfl, by simp, by simp, by simp, by simp⟩
  | str b => exact ⟨_, rfl, by simp, by simp, by simp, by simp⟩
  | tup b => exact ⟨_, rfl, by simp, by simp, by simp, by simp⟩
  | rol b => exact ⟨_, rfl, by simp, by simp, by simp, by simp⟩
  | ref r ds e => exact ⟨"list", by simp only [tyOf, e], by simp, by simp, by simp, by simp⟩
theorem toP_int {h : Hq} {n : Nat} {i : Int} : toP h n (.int i) = some (.int i) := by cases n <;> rfl
theorem eqv_int {i j : Int} : PyData.eqv (.int i) (.int j) = decide (i = j) := by
  simp [PyData.eqv]
  rfl
theorem dEq_int {i j : Int} {h : Hq} : dEqB (.int i) (.int j) h = .ok (.bl (decide (i = j))) h := by
  simp only [dEqB, dEq, toP_int, eqv_int]
theorem dNe_int {i j : Int} {h : Hq} : dNeB (.int i) (.int j) h = .ok (.bl (!decide (i = j))) h := by
  simp only [dNeB, dNe, toP_int, eqv_int]
def betw (a b : Int) : D → Bool
  | .int i => decide (a ≤ i) && decide (i ≤ b)
  | _ => false
theorem toP_tupItem {h : Hq} {ds : List D} (p : Pn h (.tup ds)) : ∀ x ∈ ds, Pn h x := by
  cases p.view with
  | tup ds all => exact all
theorem tup2 {ds : List D} (e : ds.length = 2) : ∃ a b, ds = [a, b] := by
  match ds, e with
  | [a, b], _ => exact ⟨a, b, rfl⟩
theorem tup3 {ds : List D} (e : ds.length = 3) : ∃ a b c, ds = [a, b, c] := by
  match ds, e with
  | [a, b, c], _ => exact ⟨a, b, c, rfl⟩
theorem mapM_mono {α β : Type} {f g : α → Option β} (k : ∀ x y, f x = some y → g x = some y) : ∀ {l : List α} {m : List β}, l.mapM f = some m → l.mapM g = some m
  | [], m, e => by simpa using e
  | a :: l, m, e => by
    rw [List.mapM_cons] at e ⊢
    cases h1 : f a with
    | none => rw [h1] at e; simp at e
    | some y =>
      rw [h1] at e
      rw [k a y h1]
      cases h2 : l.mapM f with
      | none => rw [h2] at e; simp at e
      | some m2 =>
        rw [h2] at e
        rw [mapM_mono k h2]
        exact e
theorem toP_keep {h h' : Hq} (k : ∀ (r : Nat) (ds : List D), h[r]? = some (Ob.lst ds) → h'[r]? = some (Ob.lst ds)) : ∀ n d q, toP h n d = some q → toP h' n d = some q
  | n, .non, q, e => by cases n <;> exact e
  | n, .bl b, q, e => by cases n <;> exact e
  | n, .int b, q, e => by cases n <;> exact e
  | n, .str b, q, e => by cases n <;> exact e
  | n, .ty b, q, e => by cases n <;> simp [toP] at e
  | n, .cls b, q, e => by cases n <;> simp [toP] at e
  | 0, .tup ds, q, e => by simp [toP] at e
  | 0, .rol ds, q, e => by simp [toP] at e
  | 0, .ref r, q, e => by simp [toP] at e
  | n + 1, .tup ds, q, e => by
    simp only [toP] at e ⊢
    cases hm : ds.mapM (toP h n) with
    | none => rw [hm] at e; simp at e
    | some qs => rw [hm] at e; rw [mapM_mono (toP_keep k n) hm]; exact e
  | n + 1, .rol ds, q, e => by
    simp only [toP] at e ⊢
    cases hm : ds.mapM (toP h n) with
    | none => rw [hm] at e; simp at e
    | some qs => rw [hm] at e; rw [mapM_mono (toP_keep k n) hm]; exact e
  | n + 1, .ref r, q, e => by
    simp only [toP] at e ⊢
    split at e
    · rename_i ds eo
      rw [k r ds eo]
      simp only
      cases hm : ds.mapM (toP h n) with
      | none => rw [hm] at e; simp at e
      | some qs => rw [hm] at e; rw [mapM_mono (toP_keep k n) hm]; exact e
    · cases e
theorem toP_fuel {h : Hq} : ∀ n m d q, n ≤ m → toP h n d = some q → toP h m d = some q
  | n, m, .non, q, hm, e => by cases n <;> cases m <;> exact e
  | n, m, .bl b, q, hm, e => by cases n <;> cases m <;> exact e
  | n, m, .int b, q, hm, e => by cases n <;> cases m <;> exact e
  | n, m, .str b, q, hm, e => by cases n <;> cases m <;> exact e
  | n, m, .ty b, q, hm, e => by cases n <;> simp [toP] at e
  | n, m, .cls b, q, hm, e => by cases n <;> simp [toP] at e
  | 0, m, .tup ds, q, hm, e => by simp [toP] at e
  | 0, m, .rol ds, q, hm, e => by simp [toP] at e
  | 0, m, .ref r, q, hm, e => by simp [toP] at e
  | n + 1, 0, .tup ds, q, hm, e => by omega
  | n + 1, 0, .rol ds, q, hm, e => by omega
  | n + 1, 0, .ref r, q, hm, e => by omega
  | n + 1, m + 1, .tup ds, q, hm, e => by
    simp only [toP] at e ⊢
    cases hm2 : ds.mapM (toP h n) with
    | none => rw [hm2] at e; simp at e
    | some qs => rw [hm2] at e; rw [mapM_mono (fun x y => toP_fuel n m x y (by omega)) hm2]; exact e
  | n + 1, m + 1, .rol ds, q, hm, e => by
    simp only [toP] at e ⊢
    cases hm2 : ds.mapM (toP h n) with
    | none => rw [hm2] at e; simp at e
    | some qs => rw [hm2] at e; rw [mapM_mono (fun x y => toP_fuel n m x y (by omega)) hm2]; exact e
  | n + 1, m + 1, .ref r, q, hm, e => by
    simp only [toP] at e ⊢
    split at e
    · rename_i ds eo
      try simp only
      cases hm2 : ds.mapM (toP h n) with
      | none => rw [hm2] at e; simp at e
      | some qs => rw [hm2] at e; rw [mapM_mono (fun x y => toP_fuel n m x y (by omega)) hm2]; exact e
    · cases e
theorem app_get {h g : Hq} {r : Nat} {o : Ob} (e : h[r]? = some o) : (h ++ g)[r]? = some o := by
  rw [List.getElem?_append_left (List.getElem?_eq_some_iff.mp e).1]; exact e
theorem Pn.app {h : Hq} {d : D} (p : Pn h d) (g : Hq) : Pn (h ++ g) d := let ⟨n, hn, q, e⟩ := p; ⟨n, hn, q, toP_keep (fun r ds e => app_get e) n d q e⟩
theorem last_get (h : Hq) (o : Ob) (g : Hq) : (h ++ o :: g)[h.length]? = some o := by
  rw [List.getElem?_append_right (Nat.le_refl _)]; simp
theorem last_set (h : Hq) (o o' : Ob) : (h ++ [o]).set h.length o' = h ++ [o'] := by
  rw [List.set_append_right _ _ (Nat.le_refl _)]; simp
theorem comp_pure {ds : List D} {t : Tg} {cs : GT} {elt : GE} {h : Hq} {lo : Lo} {Q : Unit → Hq → Prop} (c : D → Bool) (g : D → D) (hz : ds.length ≤ 1000000)
    (hstep : ∀ d ∈ ds, ∃ lo1, t.f d lo = some lo1 ∧ ∀ acc, cs lo1 (h ++ [.lst acc]) = .ok (c d) (h ++ [.lst acc]) ∧ (c d = true → elt lo1 (h ++ [.lst acc]) = .ok (g d) (h ++ [.lst acc])))
    (hq : Q () (h ++ [.lst ((ds.filter c).map g)])) : RO (compL (.fix ds) t cs elt h.length ds.length 0 lo (h ++ [.lst []])) Q := by
  refine RO_compFix (fun i acc h' => acc = ((ds.take i).filter c).map g ∧ h' = h ++ [.lst acc]) hz ?_ ?_ ?_ ds.length 0 [] _ (Nat.zero_add _) ⟨rfl, rfl⟩
  · rintro i acc h' ⟨rfl, rfl⟩
    refine ⟨last_get h _ [], ?_⟩
    rw [List.length_map]
    have h1 := List.length_filter_le c (ds.take i)
    have h2 := List.length_take_le i ds
    omega
  · rintro i d acc h' e ⟨ea, rfl⟩
    obtain ⟨lo1, e1, e2⟩ := hstep d (List.mem_of_getElem? e)
    obtain ⟨e3, e4⟩ := e2 acc
    have et : (ds.take (i + 1)).filter c = (ds.take i).filter c ++ (if c d = true then [d] else []) := by
      rw [List.take_succ, e, List.filter_append]
      congr 1
      cases hc : c d <;> simp [hc]
    refine ⟨lo1, e1, ?_⟩
    rw [e3, RO_ok]
    split
    · rename_i hc
      rw [e4 hc, RO_ok]
      refine ⟨last_get h _ [], ?_, by rw [last_set]⟩
      rw [et, if_pos hc, List.map_append, ea]; rfl
    · rename_i hc
      refine ⟨?_, rfl⟩
      rw [et, if_neg hc, List.append_nil]; exact ea
  · rintro acc h' ⟨rfl, rfl⟩
    rw [List.take_length]; exact hq
theorem all_bls {f : D → Bool} : ∀ {ds : List D}, (ds.map fun d => D.bl (f d)).mapM blD = some (ds.map f)
  | [] => rfl
  | d :: ds => by rw [List.map_cons, List.mapM_cons, all_bls]; rfl
theorem dAll_new {f : D → Bool} {ds : List D} {h : Hq} : dAll [.ref h.length] (h ++ [.lst (ds.map fun d => D.bl (f d))]) = .ok (.bl (ds.all f)) (h ++ [.lst (ds.map fun d => D.bl (f d))]) := by
  simp only [dAll, listD, last_get, Option.bind_some, all_bls]
  simp
theorem enuD_mem {ds : List D} {d : D} (hd : d ∈ enuD ds) : ∃ (i : Nat) (x : D), d = .tup [.int i, x] ∧ ds[i]? = some x := by
  unfold enuD at hd
  obtain ⟨i, hi, rfl⟩ := List.mem_map.mp hd
  have hl : i < ds.length := by simpa using hi
  exact ⟨i, ds[i], by simp [List.getD, hl], List.getElem?_eq_getElem hl⟩
theorem enuD_len {ds : List D} : (enuD ds).length = ds.length := by simp [enuD]
theorem betw_int {a b : Int} {d : D} (e : betw a b d = true) : ∃ i, d = .int i ∧ a ≤ i ∧ i ≤ b := by
  cases d with
  | int i => simp [betw] at e; exact ⟨i, rfl, e⟩
  | _ => simp [betw] at e
theorem ty6 {h : Hq} {d : D} (p : Pn h d) : (∃ i, d = .int i) ∨ (∃ ds, d = .tup ds) ∨ ((∀ i, d ≠ .int i) ∧ (∀ ds, d ≠ .tup ds) ∧ ∃ t, tyOf h d = some t ∧ (t = "NoneType" ∨ t = "bool" ∨ t = "str" ∨ t = "list")) := by
  cases p.view with
  | int i => exact .inl ⟨i, rfl⟩
  | tup ds => exact .inr (.inl ⟨ds, rfl⟩)
  | non => exact .inr (.inr ⟨by simp, by simp, _, rfl, by simp⟩)
  | bl b => exact .inr (.inr ⟨by simp, by simp, _, rfl, by simp⟩)
  | str b => exact .inr (.inr ⟨by simp, by simp, _, rfl, by simp⟩)
  | rol b => exact .inr (.inr ⟨by simp, by simp, _, rfl, by simp⟩)
  | ref r ds e => exact .inr (.inr ⟨by simp, by simp, "list", by simp only [tyOf, e], by simp⟩)
def whole : D → Bool
  | .int _ => true
  | _ => false
theorem isi_int {h : Hq} {d : D} (p : Pn h d) : dIsi [d, .ty "int"] h = .ok (.bl (match d with | .int _ => true | .bl _ => true | _ => false)) h := by
  cases p.view with
  | ref r ds e => simp only [dIsi, tyOf, e]; rfl
  | _ => rfl
theorem isi_bool {h : Hq} {d : D} (p : Pn h d) : dIsi [d, .ty "bool"] h = .ok (.bl (match d with | .bl _ => true | _ => false)) h := by
  cases p.view with
  | ref r ds e => simp only [dIsi, tyOf, e]; rfl
  | _ => rfl
def isTup : D → Bool
  | .tup _ => true
  | _ => false
theorem isi_tuple {h : Hq} {d : D} (p : Pn h d) : dIsi [d, .ty "tuple"] h = .ok (.bl (isTup d)) h := by
  cases p.view with
  | ref r ds e => simp only [dIsi, tyOf, e]; rfl
  | _ => rfl
def isLst : D → Bool
  | .ref _ => true
  | .rol _ => true
  | _ => false
theorem isi_list {h : Hq} {d : D} (p : Pn h d) : dIsi [d, .ty "list"] h = .ok (.bl (isLst d)) h := by
  cases p.view with
  | ref r ds e => simp only [dIsi, tyOf, e]; rfl
  | _ => rfl
theorem mapM_all {α β : Type} {f : α → Option β} : ∀ {l : List α}, (∀ x ∈ l, ∃ y, f x = some y) → ∃ m, l.mapM f = some m
  | [], _ => ⟨[], rfl⟩
  | a :: l, k => by
    obtain ⟨y, hy⟩ := k a (by simp)
    obtain ⟨m, hm⟩ := mapM_all (fun x hx => k x (List.mem_cons_of_mem _ hx))
    exact ⟨y :: m, by rw [List.mapM_cons, hy, hm]; rfl⟩
theorem Pn.up {h : Hq} {d : D} (p : Pn h d) {m : Nat} (hm : 50 ≤ m) : ∃ q, toP h m d = some q := let ⟨n, hn, q, e⟩ := p; ⟨q, toP_fuel n m d q (by omega) e⟩
theorem dNe_empty {h : Hq} {r s : Nat} {l : List D} (hr : h[r]? = some (Ob.lst l)) (hs : h[s]? = some (Ob.lst [])) (hl : ∀ x ∈ l, Pn h x) : dNeB (.ref r) (.ref s) h = .ok (.bl (!l.isEmpty)) h := by
  obtain ⟨m, hm⟩ := mapM_all (f := toP h 59) (fun x hx => (hl x hx).up (by omega))
  have hz := mapM_len hm
  have e1 : toP h 60 (.ref r) = some (.list m) := by simp only [toP, hr, hm, Option.map_some]
  have e2 : toP h 60 (.ref s) = some (.list []) := by simp only [toP, hs, List.mapM_nil]; rfl
  simp only [dNeB, dNe, e1, e2]
  cases l with
  | nil => have : m = [] := List.eq_nil_of_length_eq_zero hz
           subst this; rfl
  | cons a l => cases m with
    | nil => simp at hz
    | cons b m => simp [PyData.eqv]; rfl
theorem SO_T {x : SR} {N N' : Lo → Hq → Prop} {T T' : D → Hq → Prop} (h : SO x N T) (k : ∀ lo h, N lo h → N' lo h) (l : ∀ d h, T d h → T' d h) : SO x N' T' := h.mono k l
theorem asg_step {e : GE} {i : Nat} {b : GS} {lo : Lo} {h h1 : Hq} {d : D} {N : Lo → Hq → Prop} {T : D → Hq → Prop} (he : e lo h = .ok d h1) (hb : SO (b (lo.set i (some d)) h1) N T) : SO (sSeq (sAsg e (Tg.nm i).f) b lo h) N T := by
  unfold sSeq sAsg
  rw [he]
  exact hb
theorem if_false_step {c : GT} {a b : GS} {lo : Lo} {h h1 : Hq} {N : Lo → Hq → Prop} {T : D → Hq → Prop} (hc : c lo h = .ok false h1) (hb : SO (b lo h1) N T) : SO (sSeq (sIf c a sNil) b lo h) N T := by
  unfold sSeq sIf
  rw [hc]
  exact hb
theorem if_true_step {c : GT} {a a2 b : GS} {lo : Lo} {h h1 : Hq} {N : Lo → Hq → Prop} {T : D → Hq → Prop} (hc : c lo h = .ok true h1) (hb : SO (a lo h1) (fun lo h => SO (b lo h) N T) T) : SO (sSeq (sIf c a a2) b lo h) N T := by
  unfold sSeq sIf
  rw [hc]
  show SO ((a lo h1).seq b) N T
  rw [SO_seq]
  exact hb
theorem ret_step {e : GE} {lo : Lo} {h h1 : Hq} {d : D} {N : Lo → Hq → Prop} {T : D → Hq → Prop} (he : e lo h = .ok d h1) (hb : T d h1) : SO (sRet e lo h) N T := by
  unfold sRet
  rw [he]
  show SO (.rt d h1) N T
  rw [SO_rt]
  exact hb
theorem lst_eq {ga : GA} {lo : Lo} {h h1 : Hq} {ds : List D} (e : ga lo h = .ok ds h1) (hl : ds.length ≤ 4096) : Mach.gLst ga lo h = .ok (.ref h1.length) (h1 ++ [.lst ds]) := by
  unfold Mach.gLst
  rw [e]
  exact if_pos hl
theorem fn_pureE {n : Nat} {body : GS} {ds : List D} {h : Hq} {Pd : D → Prop} (hs : SO (body (ds.map some ++ List.replicate (n - ds.length) none) h) (fun _ _ => False) (fun d' h' => (Pd d' ∧ d'.pure = true) ∧ ∃ g, h' = h ++ g)) :
    ∃ d, Pd d ∧ fnOf n body ds h = .ok d h := by
  have e : ∃ d g, (Pd d ∧ d.pure = true) ∧ body (ds.map some ++ List.replicate (n - ds.length) none) h = .rt d (h ++ g) := by
    rcases SO_no hs with ⟨_, _, _, z⟩ | ⟨d', h', e1, hp, g, rfl⟩
    · exact z.elim
    · exact ⟨d', g, hp, e1⟩
  obtain ⟨d, g, ⟨hp, hq⟩, e⟩ := e
  refine ⟨d, hp, fn_pure hq ?_⟩
  rw [e, SO_rt]
  exact ⟨rfl, g, rfl⟩
theorem mul_int {i j : Int} {h : Hq} (c : (-(2 ^ 64) < i ∧ i < 2 ^ 64) ∨ (-(2 ^ 64) < j ∧ j < 2 ^ 64)) : dMulB (.int i) (.int j) h = .ok (.int (i * j)) h := if_pos c
theorem mod_int {i j : Int} {h : Hq} (c : 0 < j) : dMod (.int i) (.int j) h = .ok (.int (i % j)) h := if_pos c
theorem div_int {i j : Int} {h : Hq} (c : 0 < j ∧ j < 1073741824) : dDiv (.int i) (.int j) h = .ok (.int (i / j)) h := if_pos c
theorem pow_int {i : Int} {n : Nat} {h : Hq} (c : i.natAbs < 2 ^ 64) (hn : n ≤ 1000000) : dPow (.int i) (.int n) h = .ok (.int (i ^ n)) h := if_pos ⟨by omega, by omega, c⟩
theorem e18 : (10 : Int) ^ 18 = 1000000000000000000 := by decide
theorem e17 : (10 : Int) ^ 17 = 100000000000000000 := by decide
theorem pow_c {h : Hq} : dPow (.int 10) (.int 18) h = .ok (.int 1000000000000000000) h := by
  have := pow_int (i := 10) (n := 18) (h := h) (by decide) (by decide)
  rw [e18] at this
  exact this
theorem pow_d {h : Hq} : dPow (.int 10) (.int 17) h = .ok (.int 100000000000000000) h := by
  have := pow_int (i := 10) (n := 17) (h := h) (by decide) (by decide)
  rw [e17] at this
  exact this
theorem add_int {i j : Int} {h : Hq} : dAdd (.int i) (.int j) h = .ok (.int (i + j)) h := rfl
theorem add_list {r s : Nat} {xs ys : List D} {h : Hq} (e1 : h[r]? = some (Ob.lst xs)) (e2 : h[s]? = some (Ob.lst ys)) (hl : (xs ++ ys).length ≤ 1000000) : dAdd (.ref r) (.ref s) h = .ok (.ref h.length) (h ++ [.lst (xs ++ ys)]) := by
  simp only [dAdd, e1, e2, newL, if_pos hl]
theorem int_int {i : Int} {h : Hq} : dInt [.int i] h = .ok (.int i) h := rfl
theorem pow_3 {i : Int} {h : Hq} (c : i.natAbs < 2 ^ 64) : dPow (.int i) (.int 3) h = .ok (.int (i ^ 3)) h := pow_int (n := 3) c (by decide)
theorem pow_5 {i : Int} {h : Hq} (c : i.natAbs < 2 ^ 64) : dPow (.int i) (.int 5) h = .ok (.int (i ^ 5)) h := pow_int (n := 5) c (by decide)
theorem dIx_list {h : Hq} {r : Nat} {ds : List D} {k : Int} {d : D} (e : h[r]? = some (Ob.lst ds)) (ek : atI ds k = some d) : dIx (.ref r) (.int k) h = .ok d h := by
  simp only [dIx, e, ek]
theorem bnd {x : Int} (h0 : 0 ≤ x) (h1 : x < 10000000000000000) : x.natAbs < 2 ^ 64 := by omega
section
variable {N : Lo → Hq → Prop} {T : D → Hq → Prop}
theorem seq_of {a b : GS} {lo : Lo} {h : Hq} (k : SO (a lo h) (fun lo h => SO (b lo h) N T) T) : SO (sSeq a b lo h) N T := by
  unfold sSeq
  rw [SO_seq]
  exact k
theorem asg_of {e : GE} {i : Nat} {lo : Lo} {h h1 : Hq} {d : D} (he : e lo h = .ok d h1) (k : N (lo.set i (some d)) h1) : SO (sAsg e (Tg.nm i).f lo h) N T := by
  unfold sAsg
  rw [he]
  show SO (.nx (lo.set i (some d)) h1) N T
  rw [SO_nx]
  exact k
theorem asg_ro {e : GE} {i : Nat} {lo : Lo} {h : Hq} {Q : D → Hq → Prop} (he : RO (e lo h) Q) (k : ∀ d h1, Q d h1 → N (lo.set i (some d)) h1) : SO (sAsg e (Tg.nm i).f lo h) N T := by
  obtain ⟨d, h1, e1, q⟩ := he.get
  exact asg_of e1 (k d h1 q)
theorem if_of {c : GT} {a b : GS} {lo : Lo} {h h1 : Hq} {x : Bool} (hc : c lo h = .ok x h1) (ka : x = true → SO (a lo h1) N T) (kb : x = false → SO (b lo h1) N T) : SO (sIf c a b lo h) N T := by
  unfold sIf
  rw [hc]
  cases x with
  | true => exact ka rfl
  | false => exact kb rfl
theorem nil_of {lo : Lo} {h : Hq} (k : N lo h) : SO (sNil lo h) N T := by
  unfold sNil
  rw [SO_nx]
  exact k
theorem expr_of {e : GE} {lo : Lo} {h h1 : Hq} {d : D} (he : e lo h = .ok d h1) (k : N lo h1) : SO (sExpr e lo h) N T := by
  unfold sExpr
  rw [he]
  show SO (.nx lo h1) N T
  rw [SO_nx]
  exact k
theorem ret_of {e : GE} {lo : Lo} {h h1 : Hq} {d : D} (he : e lo h = .ok d h1) (k : T d h1) : SO (sRet e lo h) N T := ret_step he k
theorem ret_ro {e : GE} {lo : Lo} {h : Hq} (he : RO (e lo h) T) : SO (sRet e lo h) N T := by
  obtain ⟨d, h1, e1, q⟩ := he.get
  exact ret_of e1 q
theorem setix_of {o i e : GE} {lo : Lo} {h h1 h2 h3 : Hq} {d : D} {r : Nat} {n : Int} {ds : List D} {j : Nat} (he : e lo h = .ok d h1) (ho : o lo h1 = .ok (.ref r) h2) (hi : i lo h2 = .ok (.int n) h3) (hr : h3[r]? = some (Ob.lst ds)) (hj : ixN ds.length n = some j)
    (k : N lo (h3.set r (.lst (ds.set j d)))) : SO (sSetIx o i e lo h) N T := by
  unfold sSetIx
  rw [he]
  simp only [R.stm]
  rw [ho]
  simp only [R.stm]
  rw [hi]
  simp only [R.stm]
  rw [hr]
  simp only
  rw [hj]
  show SO (.nx lo _) N T
  rw [SO_nx]
  exact k
end
theorem bind_ro {β : Type} {x : R D} {f : D → Hq → R β} {Q : D → Hq → Prop} {T : β → Hq → Prop} (hx : RO x Q) (k : ∀ d h, Q d h → RO (f d h) T) : RO (x.bind f) T := by
  rw [RO_bind]
  exact hx.mono k
theorem lst_len {h : Hq} {r : Nat} {ds : List D} (e : h[r]? = some (Ob.lst ds)) : dLen [.ref r] h = .ok (.int ds.length) h := by simp only [dLen, itemsD, e]
theorem cut_map {f : Int → D} {xs : List Int} {lo hi : Option Int} : cut (xs.map f) lo hi = (cut xs lo hi).map f := by
  simp only [cut, List.length_map, List.map_take, List.map_drop]
theorem newL_ok {ds : List D} {h : Hq} (e : ds.length ≤ 1000000) : newL ds h = .ok (.ref h.length) (h ++ [.lst ds]) := if_pos e
section
variable {N : Lo → Hq → Prop} {T : D → Hq → Prop}
theorem seq_eq {a b : GS} {lo : Lo} {h : Hq} : SO (sSeq a b lo h) N T = SO (a lo h) (fun lo h => SO (b lo h) N T) T := by
  unfold sSeq
  rw [SO_seq]
theorem asg_eq {e : GE} {i : Nat} {lo : Lo} {h h1 : Hq} {d : D} (he : e lo h = .ok d h1) : SO (sAsg e (Tg.nm i).f lo h) N T = N (lo.set i (some d)) h1 := by
  unfold sAsg
  rw [he]
  exact SO_nx
end
theorem iRng_eq {gs : GA} {lo : Lo} {h h1 : Hq} {j : Int} (e : gs lo h = .ok [.int j] h1) (h0 : 0 ≤ j) (hj : j ≤ 1000000) : iRngG1 gs lo h = .ok (.fix (rngD 0 j.toNat)) h1 := by
  unfold iRngG1
  rw [e]
  exact if_pos ⟨by omega, by omega⟩
theorem for_fix {N : Lo → Hq → Prop} {T : D → Hq → Prop} {gi : GI} {t : Tg} {body : GS} {ds : List D} {lo : Lo} {h h1 : Hq} (hg : gi lo h = .ok (.fix ds) h1) (I : Nat → Lo → Hq → Prop)
    (step : ∀ i d lo h, ds[i]? = some d → I i lo h → ∃ lo1, t.f d lo = some lo1 ∧ SO (body lo1 h) (I (i + 1)) T) (done : ∀ lo h, I ds.length lo h → N lo h) (init : I 0 lo h1) : SO (sFor gi t body lo h) N T := by
  unfold sFor
  rw [hg]
  exact SO_forFix I step done _ 0 lo h1 (Nat.zero_add _) init
theorem gTup1 {a : GE} {lo : Lo} {h : Hq} : Mach.gTup (Mach.gCons a Mach.gNil) lo h = (a lo h).bind fun x h1 => .ok (.tup [x]) h1 := by
  simp only [Mach.gTup, Mach.gCons, Mach.gNil]
  cases a lo h with
  | ok x h1 => exact if_pos (c := [x].length ≤ 4096) (e := (R.bad : R D)) (by show 1 ≤ 4096; decide)
  | _ => rfl
theorem gTup2 {a b : GE} {lo : Lo} {h : Hq} : Mach.gTup (Mach.gCons a (Mach.gCons b Mach.gNil)) lo h = (a lo h).bind fun x h1 => (b lo h1).bind fun y h2 => .ok (.tup [x, y]) h2 := by
  simp only [Mach.gTup, Mach.gCons, Mach.gNil]
  cases a lo h with
  | ok x h1 =>
    simp only [bind_ok]
    cases b lo h1 with
    | ok y h2 => exact if_pos (c := [x, y].length ≤ 4096) (e := (R.bad : R D)) (by show 2 ≤ 4096; decide)
    | _ => rfl
  | _ => rfl
theorem gTup3 {a b c : GE} {lo : Lo} {h : Hq} : Mach.gTup (Mach.gCons a (Mach.gCons b (Mach.gCons c Mach.gNil))) lo h = (a lo h).bind fun x h1 => (b lo h1).bind fun y h2 => (c lo h2).bind fun z h3 => .ok (.tup [x, y, z]) h3 := by
  simp only [Mach.gTup, Mach.gCons, Mach.gNil]
  cases a lo h with
  | ok x h1 =>
    simp only [bind_ok]
    cases b lo h1 with
    | ok y h2 =>
      simp only [bind_ok]
      cases c lo h2 with
      | ok z h3 => exact if_pos (c := [x, y, z].length ≤ 4096) (e := (R.bad : R D)) (by show 3 ≤ 4096; decide)
      | _ => rfl
    | _ => rfl
  | _ => rfl
theorem pures_all : ∀ {ds : List D}, (∀ d ∈ ds, d.pure = true) → D.pures ds = true
  | [], _ => rfl
  | d :: ds, h => by
    have h1 := h d (by simp)
    have h2 := pures_all (ds := ds) fun x hx => h x (List.mem_cons_of_mem _ hx)
    simp only [D.pures, h1, h2, Bool.and_self]
theorem app_set (h : Hq) (o o' : Ob) (g : Hq) : (h ++ o :: g).set h.length o' = h ++ o' :: g := by
  rw [List.set_append_right _ _ (Nat.le_refl _)]; simp
section
variable {N : Lo → Hq → Prop} {T : D → Hq → Prop}
theorem if_eq {c : GT} {a b : GS} {lo : Lo} {h h1 : Hq} {x : Bool} (hc : c lo h = .ok x h1) : SO (sIf c a b lo h) N T = if x = true then SO (a lo h1) N T else SO (b lo h1) N T := by
  unfold sIf
  rw [hc]
  cases x <;> rfl
theorem if_ro {c : GT} {a b : GS} {lo : Lo} {h : Hq} {Q : Bool → Hq → Prop} (hc : RO (c lo h) Q) (ka : ∀ h1, Q true h1 → SO (a lo h1) N T) (kb : ∀ h1, Q false h1 → SO (b lo h1) N T) : SO (sIf c a b lo h) N T := by
  obtain ⟨x, h1, e, q⟩ := hc.get
  exact if_of e (fun z => ka h1 (z ▸ q)) (fun z => kb h1 (z ▸ q))
theorem asg_tp_ro {e : GE} {is : List Nat} {lo : Lo} {h : Hq} {Q : D → Hq → Prop} (he : RO (e lo h) Q) (k : ∀ d h1, Q d h1 → ∃ lo1, (Tg.tp is).f d lo = some lo1 ∧ N lo1 h1) : SO (sAsg e (Tg.tp is).f lo h) N T := by
  obtain ⟨d, h1, e1, q⟩ := he.get
  obtain ⟨lo1, e2, q2⟩ := k d h1 q
  unfold sAsg
  rw [e1]
  show SO (match (Tg.tp is).f d lo with | some lo' => .nx lo' h1 | none => .bad) N T
  rw [e2]
  show SO (.nx lo1 h1) N T
  rw [SO_nx]
  exact q2
theorem expr_ro {e : GE} {lo : Lo} {h : Hq} {Q : D → Hq → Prop} (he : RO (e lo h) Q) (k : ∀ d h1, Q d h1 → N lo h1) : SO (sExpr e lo h) N T := by
  obtain ⟨d, h1, e1, q⟩ := he.get
  exact expr_of e1 (k d h1 q)
end
theorem listD_at {h : Hq} {r : Nat} {ds : List D} (e : h[r]? = some (Ob.lst ds)) : listD h (.ref r) = some ds := by simp only [listD, e]
theorem append_at {h : Hq} {r : Nat} {ds : List D} {d : D} (e : h[r]? = some (Ob.lst ds)) (hl : ds.length < 1000000) : dAppend (.ref r) [d] h = .ok .non (h.set r (.lst (ds ++ [d]))) := by
  simp only [dAppend, e, if_pos hl]
theorem gCons_bind {a : GE} {b : GA} {lo : Lo} {h : Hq} : Mach.gCons a b lo h = (a lo h).bind fun d h1 => (b lo h1).bind fun ds h2 => .ok (d :: ds) h2 := rfl
theorem gLst_eq {ga : GA} {lo : Lo} {h h1 : Hq} {ds : List D} (e : ga lo h = .ok ds h1) (hl : ds.length ≤ 4096) : Mach.gLst ga lo h = .ok (.ref h1.length) (h1 ++ [.lst ds]) := lst_eq e hl
theorem RO_of {α : Type} {x : R α} {a : α} {h : Hq} {Q : α → Hq → Prop} (e : x = .ok a h) (q : Q a h) : RO x Q := by
  rw [e, RO_ok]; exact q
theorem gComp_eq {gi : GI} {t : Tg} {vs : List Nat} {cs : GT} {elt : GE} {lo : Lo} {h : Hq} {ds : List D} {Q : D → Hq → Prop} (hg : gi lo h = .ok (.fix ds) h) :
    RO (gComp gi t vs cs elt lo h) Q = RO (compL (.fix ds) t cs elt h.length ds.length 0 (wipeLo lo vs) (h ++ [.lst []])) (fun _ h2 => Q (.ref h.length) h2) := by
  unfold gComp
  rw [hg, RO_bind, RO_ok, RO_bind]
  simp only [RO_ok]
  rfl
section
variable {N : Lo → Hq → Prop} {T : D → Hq → Prop}
theorem par2_ro {i j : Nat} {a b : GE} {lo : Lo} {h : Hq} {Q : D → D → Hq → Prop} (ha : RO (a lo h) fun x h1 => RO (b lo h1) fun y h2 => Q x y h2) (k : ∀ x y h2, Q x y h2 → N ((lo.set i (some x)).set j (some y)) h2) : SO (sPar2 i j a b lo h) N T := by
  obtain ⟨x, h1, e1, q⟩ := ha.get
  obtain ⟨y, h2, e2, q⟩ := q.get
  unfold sPar2
  rw [e1]
  show SO ((b lo h1).stm lo _) N T
  rw [e2]
  show SO (.nx ((lo.set i (some x)).set j (some y)) h2) N T
  rw [SO_nx]
  exact k x y h2 q
end
theorem trim_non {h : Hq} : trim h (.ok .non h) = .ok .non h := by simp only [trim, pre_self, if_true, D.pure]
theorem trim_ex {c : Str} {h g : Hq} : trim h (.ex c [] (h ++ g)) = .ex c [] h := by
  unfold trim
  exact if_pos ⟨pre_app h g, rfl⟩
theorem rng_mem {n : Nat} {d : D} (hd : d ∈ rngD 0 n) : ∃ k : Nat, d = .int k ∧ k < n := by
  obtain ⟨k, hk, rfl⟩ := List.mem_map.mp hd
  exact ⟨k, by simp, by simpa using hk⟩
theorem Pn.int {h : Hq} (i : Int) : Pn h (.int i) := ⟨0, by decide, _, rfl⟩

end G2
end

section
set_option Elab.async false
set_option linter.all false
set_option maxRecDepth 100000
set_option maxHeartbeats 2100000
namespace G2
open PySem PySem.Spec L2 Mach
def primes : List D := [.int 2147483629, .int 2147483587, .int 2147483579, .int 2147483563, .int 2147483549, .int 2147483543, .int 2147483497, .int 2147483489, .int 2147483477, .int 2147483423, .int 2147483399, .int 2147483353, .int 2147483323]
theorem prime_at {k : Int} : ∃ q, atI primes (k % 13) = some (.int q) ∧ 2000000000 < q ∧ q < 2147483648 := by
  have h1 := Int.emod_nonneg k (show (13 : Int) ≠ 0 by decide)
  have h2 := Int.emod_lt_of_pos k (show (0 : Int) < 13 by decide)
  obtain ⟨n, hn⟩ := Int.eq_ofNat_of_zero_le h1
  rw [hn, at_i]
  have hl : n < primes.length := by show n < 13; omega
  have hall : ∀ x ∈ primes, ∃ q, x = .int q ∧ 2000000000 < q ∧ q < 2147483648 := by
    intro x hx
    simp only [primes, List.mem_cons, List.not_mem_nil, or_false] at hx
    rcases hx with rfl | rfl | rfl | rfl | rfl | rfl | rfl | rfl | rfl | rfl | rfl | rfl | rfl <;> exact ⟨_, rfl, by decide, by decide⟩
  obtain ⟨q, e, q1, q2⟩ := hall _ (List.getElem_mem hl)
  exact ⟨q, by rw [List.getElem?_eq_getElem hl, e], q1, q2⟩
theorem spread_ok {h : Hq} {cell ati : Int} (h0 : 0 ≤ ati) (h1 : ati ≤ 1000000) : ∃ d, (∃ s : Int, d = .int s ∧ 0 ≤ s) ∧ f__law_spread [.int cell, .int ati] h = .ok d h := by
  refine fn_pureE ?_
  unfold b__law_spread
  simp only [List.map_cons, List.map_nil, List.length_cons, List.length_nil, Nat.reduceAdd, Nat.reduceSub, List.replicate_succ, List.replicate_zero, List.cons_append, List.nil_append]
  by_cases hc : 1000000000000000000 ≤ cell
  · refine if_true_step (h1 := h) (by simp only [gV, gK, Mach.gNil, Mach.gCons, gOp, gUn, gBi, gCall, gTst, gAnd, gOr, gNot, gIf, gAndV, gOrV, gNotV, gChain, gMt, gSl, gNo, gPart, bind_ok, calm_ok, List.getElem?_cons_zero, List.getElem?_cons_succ, List.set_cons_zero, List.set_cons_succ, at_0, at_1, at_2, if_true, if_false, Bool.not_true, Bool.not_false, Bool.false_eq_true, reduceIte, pow_c, dGe, hc, decide_true]) ?_
    exact ret_step (h1 := h) (by simp only [gV, gK, Mach.gNil, Mach.gCons, gOp, gUn, gBi, gCall, gTst, gAnd, gOr, gNot, gIf, gAndV, gOrV, gNotV, gChain, gMt, gSl, gNo, gPart, bind_ok, calm_ok, List.getElem?_cons_zero, List.getElem?_cons_succ, List.set_cons_zero, List.set_cons_succ, at_0, at_1, at_2, if_true, if_false, Bool.not_true, Bool.not_false, Bool.false_eq_true, reduceIte]) ⟨⟨⟨cell, rfl, by omega⟩, rfl⟩, [], by simp⟩
  · refine if_false_step (h1 := h) (by simp only [gV, gK, Mach.gNil, Mach.gCons, gOp, gUn, gBi, gCall, gTst, gAnd, gOr, gNot, gIf, gAndV, gOrV, gNotV, gChain, gMt, gSl, gNo, gPart, bind_ok, calm_ok, List.getElem?_cons_zero, List.getElem?_cons_succ, List.set_cons_zero, List.set_cons_succ, at_0, at_1, at_2, if_true, if_false, Bool.not_true, Bool.not_false, Bool.false_eq_true, reduceIte, pow_c, dGe, hc, decide_false]) ?_
    have c0 := Int.emod_nonneg cell (show (1000000007 : Int) ≠ 0 by decide)
    have c1 := Int.emod_lt_of_pos cell (show (0 : Int) < 1000000007 by decide)
    have d0 := Int.emod_nonneg cell (show (65537 : Int) ≠ 0 by decide)
    have d1 := Int.emod_lt_of_pos cell (show (0 : Int) < 65537 by decide)
    refine asg_step (lst_eq (by simp only [gV, gK, Mach.gNil, Mach.gCons, gOp, gUn, gBi, gCall, gTst, gAnd, gOr, gNot, gIf, gAndV, gOrV, gNotV, gChain, gMt, gSl, gNo, gPart, bind_ok, calm_ok, List.getElem?_cons_zero, List.getElem?_cons_succ, List.set_cons_zero, List.set_cons_succ, at_0, at_1, at_2, if_true, if_false, Bool.not_true, Bool.not_false, Bool.false_eq_true, reduceIte]; rfl) (by decide)) ?_
    refine asg_step (d := .ref (h.length + 2)) (h1 := h ++ [_, _, .lst primes]) (by
      simp only [gV, gK, Mach.gNil, Mach.gCons, gOp, gUn, gBi, gCall, gTst, gAnd, gOr, gNot, gIf, gAndV, gOrV, gNotV, gChain, gMt, gSl, gNo, gPart, bind_ok, calm_ok, List.getElem?_cons_zero, List.getElem?_cons_succ, List.set_cons_zero, List.set_cons_succ, at_0, at_1, at_2, if_true, if_false, Bool.not_true, Bool.not_false, Bool.false_eq_true, reduceIte]
      rw [lst_eq (h1 := h ++ _) (by simp only [gV, gK, Mach.gNil, Mach.gCons, gOp, gUn, gBi, gCall, gTst, gAnd, gOr, gNot, gIf, gAndV, gOrV, gNotV, gChain, gMt, gSl, gNo, gPart, bind_ok, calm_ok, List.getElem?_cons_zero, List.getElem?_cons_succ, List.set_cons_zero, List.set_cons_succ, at_0, at_1, at_2, if_true, if_false, Bool.not_true, Bool.not_false, Bool.false_eq_true, reduceIte]; rfl) (by decide)]
      simp only [gV, gK, Mach.gNil, Mach.gCons, gOp, gUn, gBi, gCall, gTst, gAnd, gOr, gNot, gIf, gAndV, gOrV, gNotV, gChain, gMt, gSl, gNo, gPart, bind_ok, calm_ok, List.getElem?_cons_zero, List.getElem?_cons_succ, List.set_cons_zero, List.set_cons_succ, at_0, at_1, at_2, if_true, if_false, Bool.not_true, Bool.not_false, Bool.false_eq_true, reduceIte]
      rw [add_list (by rw [List.append_assoc]; exact last_get _ _ _) (last_get _ _ []) (by decide)]
      simp only [gV, gK, Mach.gNil, Mach.gCons, gOp, gUn, gBi, gCall, gTst, gAnd, gOr, gNot, gIf, gAndV, gOrV, gNotV, gChain, gMt, gSl, gNo, gPart, bind_ok, calm_ok, List.getElem?_cons_zero, List.getElem?_cons_succ, List.set_cons_zero, List.set_cons_succ, at_0, at_1, at_2, if_true, if_false, Bool.not_true, Bool.not_false, Bool.false_eq_true, reduceIte, List.length_append, List.length_cons, List.length_nil, List.append_assoc, List.cons_append, List.nil_append]
      rfl) ?_
    have hL : (h ++ [Ob.lst [D.int 2147483629, D.int 2147483587, D.int 2147483579, D.int 2147483563, D.int 2147483549, D.int 2147483543, D.int 2147483497], Ob.lst [D.int 2147483489, D.int 2147483477, D.int 2147483423, D.int 2147483399, D.int 2147483353, D.int 2147483323], .lst primes])[h.length + 2]? = some (.lst primes) := by
      rw [List.getElem?_append_right (by omega)]
      rw [show h.length + 2 - h.length = 2 by omega]
      rfl
    have hG : ∃ g, h ++ [Ob.lst [D.int 2147483629, D.int 2147483587, D.int 2147483579, D.int 2147483563, D.int 2147483549, D.int 2147483543, D.int 2147483497], Ob.lst [D.int 2147483489, D.int 2147483477, D.int 2147483423, D.int 2147483399, D.int 2147483353, D.int 2147483323], .lst primes] = h ++ g := ⟨_, rfl⟩
    generalize h ++ [Ob.lst [D.int 2147483629, D.int 2147483587, D.int 2147483579, D.int 2147483563, D.int 2147483549, D.int 2147483543, D.int 2147483497], Ob.lst [D.int 2147483489, D.int 2147483477, D.int 2147483423, D.int 2147483399, D.int 2147483353, D.int 2147483323], .lst primes] = hh at hL hG ⊢
    generalize h.length + 2 = L at hL ⊢
    simp only [List.set_cons_zero, List.set_cons_succ]
    obtain ⟨q1, e1, q1a, q1b⟩ := prime_at (k := ati)
    obtain ⟨q2, e2, q2a, q2b⟩ := prime_at (k := ati + 5)
    obtain ⟨q3, e3, q3a, q3b⟩ := prime_at (k := ati + 7)
    -- mixed
    refine asg_step (d := .int (cell % 1000000007 * (2 * ati + 69069) + ati * 40503 + 977)) (h1 := hh) (by
      simp only [gV, gK, Mach.gNil, Mach.gCons, gOp, gUn, gBi, gCall, gTst, gAnd, gOr, gNot, gIf, gAndV, gOrV, gNotV, gChain, gMt, gSl, gNo, gPart, bind_ok, calm_ok, List.getElem?_cons_zero, List.getElem?_cons_succ, List.set_cons_zero, List.set_cons_succ, at_0, at_1, at_2, if_true, if_false, Bool.not_true, Bool.not_false, Bool.false_eq_true, reduceIte, int_int, mod_int (show (0 : Int) < 1000000007 by decide), add_int, mul_int (i := 2) (j := ati) (.inl (by decide)), mul_int (i := ati) (j := 40503) (.inr (by decide)), mul_int (i := cell % 1000000007) (j := 2 * ati + 69069) (.inr (by omega))]) ?_
    have m0 : 0 ≤ cell % 1000000007 * (2 * ati + 69069) := Int.mul_nonneg c0 (by omega)
    have m1 : cell % 1000000007 * (2 * ati + 69069) ≤ 1000000007 * (2 * 1000000 + 69069) := Int.mul_le_mul (by omega) (by omega) (by omega) (by decide)
    have mb : (cell % 1000000007 * (2 * ati + 69069) + ati * 40503 + 977).natAbs < 2 ^ 64 := by omega
    generalize cell % 1000000007 * (2 * ati + 69069) + ati * 40503 + 977 = mixed at mb ⊢
    -- one
    refine asg_step (d := .int (mixed ^ 3 % q1)) (h1 := hh) (by
      simp only [gV, gK, Mach.gNil, Mach.gCons, gOp, gUn, gBi, gCall, gTst, gAnd, gOr, gNot, gIf, gAndV, gOrV, gNotV, gChain, gMt, gSl, gNo, gPart, bind_ok, calm_ok, List.getElem?_cons_zero, List.getElem?_cons_succ, List.set_cons_zero, List.set_cons_succ, at_0, at_1, at_2, if_true, if_false, Bool.not_true, Bool.not_false, Bool.false_eq_true, reduceIte, int_int, pow_3 mb, mod_int (show (0 : Int) < 13 by decide), dIx_list hL e1, mod_int (show (0 : Int) < q1 by omega)]) ?_
    have o0 := Int.emod_nonneg (mixed ^ 3) (show q1 ≠ 0 by omega)
    have o1 := Int.emod_lt_of_pos (mixed ^ 3) (show 0 < q1 by omega)
    generalize mixed ^ 3 % q1 = one at o0 o1 ⊢
    -- rest
    refine asg_step (d := .int (cell % 65537 + 5)) (h1 := hh) (by
      simp only [gV, gK, Mach.gNil, Mach.gCons, gOp, gUn, gBi, gCall, gTst, gAnd, gOr, gNot, gIf, gAndV, gOrV, gNotV, gChain, gMt, gSl, gNo, gPart, bind_ok, calm_ok, List.getElem?_cons_zero, List.getElem?_cons_succ, List.set_cons_zero, List.set_cons_succ, at_0, at_1, at_2, if_true, if_false, Bool.not_true, Bool.not_false, Bool.false_eq_true, reduceIte, int_int, mod_int (show (0 : Int) < 65537 by decide), add_int]) ?_
    -- two
    have t0 : 0 ≤ one * (ati + 3) := Int.mul_nonneg o0 (by omega)
    have t1 : one * (ati + 3) ≤ 2147483648 * (1000000 + 3) := Int.mul_le_mul (by omega) (by omega) (by omega) (by decide)
    have tb : (one * (ati + 3) + (cell % 65537 + 5)).natAbs < 2 ^ 64 := by omega
    refine asg_step (d := .int ((one * (ati + 3) + (cell % 65537 + 5)) ^ 5 % q2)) (h1 := hh) (by
      simp only [gV, gK, Mach.gNil, Mach.gCons, gOp, gUn, gBi, gCall, gTst, gAnd, gOr, gNot, gIf, gAndV, gOrV, gNotV, gChain, gMt, gSl, gNo, gPart, bind_ok, calm_ok, List.getElem?_cons_zero, List.getElem?_cons_succ, List.set_cons_zero, List.set_cons_succ, at_0, at_1, at_2, if_true, if_false, Bool.not_true, Bool.not_false, Bool.false_eq_true, reduceIte, int_int, add_int, mul_int (i := one) (j := ati + 3) (.inr (by omega)), pow_5 tb, mod_int (show (0 : Int) < 13 by decide), dIx_list hL e2, mod_int (show (0 : Int) < q2 by omega)]) ?_
    have w0 := Int.emod_nonneg ((one * (ati + 3) + (cell % 65537 + 5)) ^ 5) (show q2 ≠ 0 by omega)
    have w1 := Int.emod_lt_of_pos ((one * (ati + 3) + (cell % 65537 + 5)) ^ 5) (show 0 < q2 by omega)
    generalize (one * (ati + 3) + (cell % 65537 + 5)) ^ 5 % q2 = two at w0 w1 ⊢
    -- three
    have u0 := Int.emod_nonneg one (show (1009 : Int) ≠ 0 by decide)
    have u1 := Int.emod_lt_of_pos one (show (0 : Int) < 1009 by decide)
    have ub : (two + one % 1009 + ati).natAbs < 2 ^ 64 := by omega
    refine asg_step (d := .int ((two + one % 1009 + ati) ^ 3 % q3)) (h1 := hh) (by
      simp only [gV, gK, Mach.gNil, Mach.gCons, gOp, gUn, gBi, gCall, gTst, gAnd, gOr, gNot, gIf, gAndV, gOrV, gNotV, gChain, gMt, gSl, gNo, gPart, bind_ok, calm_ok, List.getElem?_cons_zero, List.getElem?_cons_succ, List.set_cons_zero, List.set_cons_succ, at_0, at_1, at_2, if_true, if_false, Bool.not_true, Bool.not_false, Bool.false_eq_true, reduceIte, int_int, add_int, mod_int (show (0 : Int) < 1009 by decide), pow_3 ub, mod_int (show (0 : Int) < 13 by decide), dIx_list hL e3, mod_int (show (0 : Int) < q3 by omega)]) ?_
    have x0 := Int.emod_nonneg ((two + one % 1009 + ati) ^ 3) (show q3 ≠ 0 by omega)
    generalize (two + one % 1009 + ati) ^ 3 % q3 = three at x0 ⊢
    refine ret_step (d := .int ((one * 2147483647 + two) * 2147483647 + three)) (h1 := hh) (by
      simp only [gV, gK, Mach.gNil, Mach.gCons, gOp, gUn, gBi, gCall, gTst, gAnd, gOr, gNot, gIf, gAndV, gOrV, gNotV, gChain, gMt, gSl, gNo, gPart, bind_ok, calm_ok, List.getElem?_cons_zero, List.getElem?_cons_succ, List.set_cons_zero, List.set_cons_succ, at_0, at_1, at_2, if_true, if_false, Bool.not_true, Bool.not_false, Bool.false_eq_true, reduceIte, add_int, mul_int (i := one) (j := 2147483647) (.inr (by decide)), mul_int (i := one * 2147483647 + two) (j := 2147483647) (.inr (by decide))]) ?_
    have y0 : 0 ≤ one * 2147483647 := by omega
    exact ⟨⟨⟨_, rfl, by omega⟩, rfl⟩, hG⟩

def pn (c : Nat) (a v : Int) : Ob := .lst [.ref c, .int a, .int v]
structure PenAt (p c : Nat) (cells : List Int) (a v : Int) (h : Hq) : Prop where
  pen : h[p]? = some (pn c a v)
  cel : h[c]? = some (.lst (cells.map .int))
  ne : p ≠ c
  a0 : 0 ≤ a
  v0 : 0 ≤ v
  cz : cells.length ≤ 12
def PenB (p c : Nat) (A : Int) (h : Hq) : Prop := ∃ cells a v, PenAt p c cells a v h ∧ a ≤ A
/-- all but the pen is as it was -/
structure Fr (p : Nat) (h h' : Hq) : Prop where
  len : h.length ≤ h'.length
  old : ∀ r, r ≠ p → r < h.length → h'[r]? = h[r]?
theorem Fr.refl (p : Nat) (h : Hq) : Fr p h h := ⟨Nat.le_refl _, fun _ _ _ => rfl⟩
theorem Fr.trans {p : Nat} {h h1 h2 : Hq} (a : Fr p h h1) (b : Fr p h1 h2) : Fr p h h2 :=
  ⟨Nat.le_trans a.len b.len, fun r hr hl => (b.old r hr (Nat.lt_of_lt_of_le hl a.len)).trans (a.old r hr hl)⟩
theorem Fr.app {p : Nat} (h g : Hq) : Fr p h (h ++ g) := ⟨by simp, fun r _ hl => List.getElem?_append_left hl⟩
theorem Fr.set {p : Nat} (h : Hq) (o : Ob) : Fr p h (h.set p o) := ⟨by simp, fun r hr hl => List.getElem?_set_ne (Ne.symm hr)⟩
theorem PenAt.set {p c : Nat} {cells : List Int} {a v a' v' : Int} {h : Hq} (P : PenAt p c cells a v h) (h1 : 0 ≤ a') (h2 : 0 ≤ v') : PenAt p c cells a' v' (h.set p (pn c a' v')) where
  pen := List.getElem?_set_self (List.getElem?_eq_some_iff.mp P.pen).1
  cel := by rw [List.getElem?_set_ne P.ne]; exact P.cel
  ne := P.ne
  a0 := h1
  v0 := h2
  cz := P.cz
theorem PenB.app {p c : Nat} {A : Int} {h : Hq} (P : PenB p c A h) (g : Hq) : PenB p c A (h ++ g) := by
  obtain ⟨cells, a, v, P, hA⟩ := P
  exact ⟨cells, a, v, ⟨app_get P.pen, app_get P.cel, P.ne, P.a0, P.v0, P.cz⟩, hA⟩
theorem PenB.le {p c : Nat} {A B : Int} {h : Hq} (P : PenB p c A h) (hb : A ≤ B) : PenB p c B h := by
  obtain ⟨cells, a, v, P, hA⟩ := P
  exact ⟨cells, a, v, P, by omega⟩
/-- objects other than the pen may change beside it -/
theorem PenB.set {p c r : Nat} {A : Int} {h : Hq} {o : Ob} (P : PenB p c A h) (h1 : r ≠ p) (h2 : r ≠ c) : PenB p c A (h.set r o) := by
  obtain ⟨cells, a, v, P, hA⟩ := P
  exact ⟨cells, a, v, ⟨by rw [List.getElem?_set_ne h1]; exact P.pen, by rw [List.getElem?_set_ne h2]; exact P.cel, P.ne, P.a0, P.v0, P.cz⟩, hA⟩
theorem dIx_pen0 {p c : Nat} {cells : List Int} {a v : Int} {h : Hq} (P : PenAt p c cells a v h) : dIx (.ref p) (.int 0) h = .ok (.ref c) h := dIx_list (show h[p]? = some (Ob.lst _) from P.pen) (at_0 _ _)
theorem dIx_pen1 {p c : Nat} {cells : List Int} {a v : Int} {h : Hq} (P : PenAt p c cells a v h) : dIx (.ref p) (.int 1) h = .ok (.int a) h := dIx_list (show h[p]? = some (Ob.lst _) from P.pen) (at_1 _ _ _)
theorem dIx_pen2 {p c : Nat} {cells : List Int} {a v : Int} {h : Hq} (P : PenAt p c cells a v h) : dIx (.ref p) (.int 2) h = .ok (.int v) h := dIx_list (show h[p]? = some (Ob.lst _) from P.pen) (at_2 _ _ _ _)
theorem dLen_pen {p c : Nat} {cells : List Int} {a v : Int} {h : Hq} (P : PenAt p c cells a v h) : dLen [.ref c] h = .ok (.int cells.length) h := by
  simp only [dLen, itemsD, P.cel, List.length_map]
theorem cell_at {cells : List Int} {k : Int} (h0 : 0 ≤ k) (h1 : k < cells.length) : ∃ x, atI (cells.map D.int) k = some (.int x) := by
  obtain ⟨n, rfl⟩ := (Int.eq_ofNat_of_zero_le h0)
  rw [at_i]
  have hl : n < cells.length := by omega
  exact ⟨cells[n], by rw [List.getElem?_map, List.getElem?_eq_getElem hl]; rfl⟩
theorem take_ok {p c : Nat} {A many : Int} {h : Hq} (P : PenB p c A h) (hA : A ≤ 1000000) (m0 : 1 ≤ many) (m1 : many < 1000000000) :
    RO (f__law_take [.ref p, .int many] h) fun d h' => ∃ r, d = .int r ∧ 0 ≤ r ∧ r < many ∧ PenB p c (A + 1) h' ∧ Fr p h h' := by
  obtain ⟨cells, a, v, P, ha⟩ := P
  unfold f__law_take
  rw [RO_raw]
  unfold b__law_take
  simp only [List.map_cons, List.map_nil, List.length_cons, List.length_nil, Nat.reduceAdd, Nat.reduceSub, List.replicate_succ, List.replicate_zero, List.cons_append, List.nil_append]
  refine seq_of (SO.mono (N := fun lo h' => (∃ x y, lo = [some (.ref p), some (.int many), x, y, none]) ∧ ∃ a' v', PenAt p c cells a' v' h' ∧ a' ≤ A + 1 ∧ Fr p h h') (T := fun _ _ => False) ?_ ?_ (fun _ _ z => z.elim))
  · refine if_of (x := decide (v < many)) (h1 := h) (by simp only [gV, gK, Mach.gNil, Mach.gCons, gOp, gUn, gBi, gCall, gTst, gAnd, gOr, gNot, gIf, gAndV, gOrV, gNotV, gChain, gMt, gSl, gNo, gPart, bind_ok, calm_ok, List.getElem?_cons_zero, List.getElem?_cons_succ, List.set_cons_zero, List.set_cons_succ, at_0, at_1, at_2, if_true, if_false, Bool.not_true, Bool.not_false, Bool.false_eq_true, reduceIte, dIx_pen2 P, dLt]) (fun hx => ?_) (fun hx => nil_of ⟨⟨none, none, rfl⟩, a, v, P, by omega, Fr.refl p h⟩)
    refine seq_of (asg_of (d := .int a) (h1 := h) (by simp only [gV, gK, Mach.gNil, Mach.gCons, gOp, gUn, gBi, gCall, gTst, gAnd, gOr, gNot, gIf, gAndV, gOrV, gNotV, gChain, gMt, gSl, gNo, gPart, bind_ok, calm_ok, List.getElem?_cons_zero, List.getElem?_cons_succ, List.set_cons_zero, List.set_cons_succ, at_0, at_1, at_2, if_true, if_false, Bool.not_true, Bool.not_false, Bool.false_eq_true, reduceIte, dIx_pen1 P]) ?_)
    refine seq_of (asg_of (d := .int 0) (h1 := h) (by simp only [gV, gK, Mach.gNil, Mach.gCons, gOp, gUn, gBi, gCall, gTst, gAnd, gOr, gNot, gIf, gAndV, gOrV, gNotV, gChain, gMt, gSl, gNo, gPart, bind_ok, calm_ok, List.getElem?_cons_zero, List.getElem?_cons_succ, List.set_cons_zero, List.set_cons_succ, at_0, at_1, at_2, if_true, if_false, Bool.not_true, Bool.not_false, Bool.false_eq_true, reduceIte]) ?_)
    simp only [List.set_cons_zero, List.set_cons_succ]
    refine seq_of (SO.mono (N := fun lo h' => (∃ x, lo = [some (.ref p), some (.int many), some (.int a), some (.int x), none]) ∧ h' = h) (T := fun _ _ => False) ?_ ?_ (fun _ _ z => z.elim))
    · refine if_of (x := decide (a < cells.length)) (h1 := h) (by simp only [gV, gK, Mach.gNil, Mach.gCons, gOp, gUn, gBi, gCall, gTst, gAnd, gOr, gNot, gIf, gAndV, gOrV, gNotV, gChain, gMt, gSl, gNo, gPart, bind_ok, calm_ok, List.getElem?_cons_zero, List.getElem?_cons_succ, List.set_cons_zero, List.set_cons_succ, at_0, at_1, at_2, if_true, if_false, Bool.not_true, Bool.not_false, Bool.false_eq_true, reduceIte, dIx_pen0 P, dLen_pen P, dLt]) (fun hx => ?_) (fun hx => ?_)
      · obtain ⟨x, ex⟩ := cell_at (cells := cells) P.a0 (by simpa using hx)
        exact asg_of (d := .int x) (h1 := h) (by simp only [gV, gK, Mach.gNil, Mach.gCons, gOp, gUn, gBi, gCall, gTst, gAnd, gOr, gNot, gIf, gAndV, gOrV, gNotV, gChain, gMt, gSl, gNo, gPart, bind_ok, calm_ok, List.getElem?_cons_zero, List.getElem?_cons_succ, List.set_cons_zero, List.set_cons_succ, at_0, at_1, at_2, if_true, if_false, Bool.not_true, Bool.not_false, Bool.false_eq_true, reduceIte, dIx_pen0 P, dIx_list P.cel ex]) ⟨⟨x, rfl⟩, rfl⟩
      · refine if_of (x := decide (0 < (cells.length : Int))) (h1 := h) (by simp only [gV, gK, Mach.gNil, Mach.gCons, gOp, gUn, gBi, gCall, gTst, gAnd, gOr, gNot, gIf, gAndV, gOrV, gNotV, gChain, gMt, gSl, gNo, gPart, bind_ok, calm_ok, List.getElem?_cons_zero, List.getElem?_cons_succ, List.set_cons_zero, List.set_cons_succ, at_0, at_1, at_2, if_true, if_false, Bool.not_true, Bool.not_false, Bool.false_eq_true, reduceIte, dIx_pen0 P, dLen_pen P, dGt]) (fun hy => ?_) (fun hy => nil_of ⟨⟨0, rfl⟩, rfl⟩)
        have hl : 0 < (cells.length : Int) := by simpa using hy
        have k0 := Int.emod_nonneg (a * 5 + 3) (show (cells.length : Int) ≠ 0 by omega)
        have k1 := Int.emod_lt_of_pos (a * 5 + 3) hl
        obtain ⟨x, ex⟩ := cell_at (cells := cells) k0 k1
        have := P.a0
        exact asg_of (d := .int (x % (100000000000000000 + a))) (h1 := h) (by simp only [gV, gK, Mach.gNil, Mach.gCons, gOp, gUn, gBi, gCall, gTst, gAnd, gOr, gNot, gIf, gAndV, gOrV, gNotV, gChain, gMt, gSl, gNo, gPart, bind_ok, calm_ok, List.getElem?_cons_zero, List.getElem?_cons_succ, List.set_cons_zero, List.set_cons_succ, at_0, at_1, at_2, if_true, if_false, Bool.not_true, Bool.not_false, Bool.false_eq_true, reduceIte, dIx_pen0 P, mul_int (i := a) (j := 5) (.inr (by decide)), add_int, int_int, dLen_pen P, mod_int hl, dIx_list P.cel ex, pow_d, mod_int (show (0 : Int) < 100000000000000000 + a by omega)]) ⟨⟨_, rfl⟩, rfl⟩
    · rintro lo h' ⟨⟨x, rfl⟩, rfl⟩
      have a0 := P.a0
      have P1 := P.set (a' := a + 1) (v' := v) (by omega) P.v0
      obtain ⟨_, ⟨s, rfl, s0⟩, es⟩ := spread_ok (h := h'.set p (pn c (a + 1) v)) (cell := x) (ati := a) P.a0 (by omega)
      have P2 := P.set (a' := a + 1) (v' := s) (by omega) s0
      refine seq_of (setix_of (d := .int (a + 1)) (h1 := h') (h2 := h') (h3 := h') (r := p) (n := 1) (by simp only [gV, gK, Mach.gNil, Mach.gCons, gOp, gUn, gBi, gCall, gTst, gAnd, gOr, gNot, gIf, gAndV, gOrV, gNotV, gChain, gMt, gSl, gNo, gPart, bind_ok, calm_ok, List.getElem?_cons_zero, List.getElem?_cons_succ, List.set_cons_zero, List.set_cons_succ, at_0, at_1, at_2, if_true, if_false, Bool.not_true, Bool.not_false, Bool.false_eq_true, reduceIte, add_int]) (by simp only [gV, gK, Mach.gNil, Mach.gCons, gOp, gUn, gBi, gCall, gTst, gAnd, gOr, gNot, gIf, gAndV, gOrV, gNotV, gChain, gMt, gSl, gNo, gPart, bind_ok, calm_ok, List.getElem?_cons_zero, List.getElem?_cons_succ, List.set_cons_zero, List.set_cons_succ, at_0, at_1, at_2, if_true, if_false, Bool.not_true, Bool.not_false, Bool.false_eq_true, reduceIte]) (by simp only [gV, gK, Mach.gNil, Mach.gCons, gOp, gUn, gBi, gCall, gTst, gAnd, gOr, gNot, gIf, gAndV, gOrV, gNotV, gChain, gMt, gSl, gNo, gPart, bind_ok, calm_ok, List.getElem?_cons_zero, List.getElem?_cons_succ, List.set_cons_zero, List.set_cons_succ, at_0, at_1, at_2, if_true, if_false, Bool.not_true, Bool.not_false, Bool.false_eq_true, reduceIte]) P.pen (j := 1) rfl ?_)
      refine setix_of (d := .int s) (h1 := h'.set p (pn c (a + 1) v)) (h2 := h'.set p (pn c (a + 1) v)) (h3 := h'.set p (pn c (a + 1) v)) (r := p) (n := 2) (by simp only [gV, gK, Mach.gNil, Mach.gCons, gOp, gUn, gBi, gCall, gTst, gAnd, gOr, gNot, gIf, gAndV, gOrV, gNotV, gChain, gMt, gSl, gNo, gPart, bind_ok, calm_ok, List.getElem?_cons_zero, List.getElem?_cons_succ, List.set_cons_zero, List.set_cons_succ, at_0, at_1, at_2, if_true, if_false, Bool.not_true, Bool.not_false, Bool.false_eq_true, reduceIte]; exact es) (by simp only [gV, gK, Mach.gNil, Mach.gCons, gOp, gUn, gBi, gCall, gTst, gAnd, gOr, gNot, gIf, gAndV, gOrV, gNotV, gChain, gMt, gSl, gNo, gPart, bind_ok, calm_ok, List.getElem?_cons_zero, List.getElem?_cons_succ, List.set_cons_zero, List.set_cons_succ, at_0, at_1, at_2, if_true, if_false, Bool.not_true, Bool.not_false, Bool.false_eq_true, reduceIte]) (by simp only [gV, gK, Mach.gNil, Mach.gCons, gOp, gUn, gBi, gCall, gTst, gAnd, gOr, gNot, gIf, gAndV, gOrV, gNotV, gChain, gMt, gSl, gNo, gPart, bind_ok, calm_ok, List.getElem?_cons_zero, List.getElem?_cons_succ, List.set_cons_zero, List.set_cons_succ, at_0, at_1, at_2, if_true, if_false, Bool.not_true, Bool.not_false, Bool.false_eq_true, reduceIte]) P1.pen (j := 2) rfl ?_
      have e2 : (h'.set p (pn c (a + 1) v)).set p (Ob.lst ([D.ref c, .int (a + 1), .int v].set 2 (.int s))) = h'.set p (pn c (a + 1) s) := by rw [List.set_set]; rfl
      rw [e2]
      exact ⟨⟨_, _, rfl⟩, a + 1, s, P2, by omega, Fr.set h' _⟩
  · rintro lo h' ⟨⟨x, y, rfl⟩, a', v', P', ha', F⟩
    have v0 := P'.v0
    refine seq_of (asg_of (d := .int (v' % many)) (h1 := h') (by simp only [gV, gK, Mach.gNil, Mach.gCons, gOp, gUn, gBi, gCall, gTst, gAnd, gOr, gNot, gIf, gAndV, gOrV, gNotV, gChain, gMt, gSl, gNo, gPart, bind_ok, calm_ok, List.getElem?_cons_zero, List.getElem?_cons_succ, List.set_cons_zero, List.set_cons_succ, at_0, at_1, at_2, if_true, if_false, Bool.not_true, Bool.not_false, Bool.false_eq_true, reduceIte, dIx_pen2 P', int_int, mod_int (show 0 < many by omega)]) ?_)
    simp only [List.set_cons_zero, List.set_cons_succ]
    refine seq_of (setix_of (d := .int (v' / many)) (h1 := h') (h2 := h') (h3 := h') (r := p) (n := 2) (by simp only [gV, gK, Mach.gNil, Mach.gCons, gOp, gUn, gBi, gCall, gTst, gAnd, gOr, gNot, gIf, gAndV, gOrV, gNotV, gChain, gMt, gSl, gNo, gPart, bind_ok, calm_ok, List.getElem?_cons_zero, List.getElem?_cons_succ, List.set_cons_zero, List.set_cons_succ, at_0, at_1, at_2, if_true, if_false, Bool.not_true, Bool.not_false, Bool.false_eq_true, reduceIte, dIx_pen2 P', div_int (show 0 < many ∧ many < 1073741824 by omega)]) (by simp only [gV, gK, Mach.gNil, Mach.gCons, gOp, gUn, gBi, gCall, gTst, gAnd, gOr, gNot, gIf, gAndV, gOrV, gNotV, gChain, gMt, gSl, gNo, gPart, bind_ok, calm_ok, List.getElem?_cons_zero, List.getElem?_cons_succ, List.set_cons_zero, List.set_cons_succ, at_0, at_1, at_2, if_true, if_false, Bool.not_true, Bool.not_false, Bool.false_eq_true, reduceIte]) (by simp only [gV, gK, Mach.gNil, Mach.gCons, gOp, gUn, gBi, gCall, gTst, gAnd, gOr, gNot, gIf, gAndV, gOrV, gNotV, gChain, gMt, gSl, gNo, gPart, bind_ok, calm_ok, List.getElem?_cons_zero, List.getElem?_cons_succ, List.set_cons_zero, List.set_cons_succ, at_0, at_1, at_2, if_true, if_false, Bool.not_true, Bool.not_false, Bool.false_eq_true, reduceIte]) P'.pen (j := 2) rfl ?_)
    have P3 := P'.set (a' := a') (v' := v' / many) P'.a0 (Int.ediv_nonneg v0 (by omega))
    exact ret_of (d := .int (v' % many)) (h1 := h'.set p (pn c a' (v' / many))) (by simp only [gV, gK, Mach.gNil, Mach.gCons, gOp, gUn, gBi, gCall, gTst, gAnd, gOr, gNot, gIf, gAndV, gOrV, gNotV, gChain, gMt, gSl, gNo, gPart, bind_ok, calm_ok, List.getElem?_cons_zero, List.getElem?_cons_succ, List.set_cons_zero, List.set_cons_succ, at_0, at_1, at_2, if_true, if_false, Bool.not_true, Bool.not_false, Bool.false_eq_true, reduceIte]; rfl) ⟨_, rfl, Int.emod_nonneg _ (by omega), Int.emod_lt_of_pos _ (by omega), ⟨cells, a', v' / many, P3, ha'⟩, F.trans (Fr.set h' _)⟩

theorem cut_len {xs : List Int} : (cut xs none (some 12)).length = min 12 xs.length ∧ (cut xs (some 12) (some 63)).length = min 63 xs.length - min 12 xs.length := by
  have a1 : HT.sIx xs.length xs.length (some 12) = min 12 xs.length := HT.sIx_nat _ _ 12
  have a2 : HT.sIx xs.length 0 (some 12) = min 12 xs.length := HT.sIx_nat _ _ 12
  have a3 : HT.sIx xs.length xs.length (some 63) = min 63 xs.length := HT.sIx_nat _ _ 63
  unfold cut
  rw [a1, a2, a3]
  simp only [HT.sIx_none, List.drop_zero, List.length_take, List.length_drop]
  omega
theorem open_ok {ns : List Int} (hn : ns.length ≤ 63) : RO (f__law_open [.rol (ns.map .int)] []) fun d h' => ∃ p c, d = .ref p ∧ PenB p c 0 h' := by
  unfold f__law_open
  rw [RO_raw]
  unfold b__law_open
  simp only [List.map_cons, List.map_nil, List.length_cons, List.length_nil, Nat.reduceAdd, Nat.reduceSub, List.replicate_succ, List.replicate_zero, List.cons_append, List.nil_append]
  obtain ⟨z1, z2⟩ := cut_len (xs := ns)
  have y1 : ((cut ns none (some 12)).map D.int).length ≤ 1000000 := by rw [List.length_map]; omega
  have y2 : ((cut ns (some 12) (some 63)).map D.int).length ≤ 1000000 := by rw [List.length_map]; omega
  refine seq_of (asg_of (d := .ref 1) (h1 := [.lst ((cut ns none (some 12)).map .int), .lst ((cut ns none (some 12)).map .int)]) (by
    simp only [gV, gK, Mach.gNil, Mach.gCons, gOp, gUn, gBi, gCall, gTst, gAnd, gOr, gNot, gIf, gAndV, gOrV, gNotV, gChain, gMt, gSl, gNo, gPart, bind_ok, calm_ok, List.getElem?_cons_zero, List.getElem?_cons_succ, List.set_cons_zero, List.set_cons_succ, at_0, at_1, at_2, if_true, if_false, Bool.not_true, Bool.not_false, Bool.false_eq_true, reduceIte, dSl, cut_map, newL_ok y1, dList, itemsD, List.length_nil, List.nil_append, List.getElem?_cons_zero]
    rfl) ?_)
  simp only [List.set_cons_zero, List.set_cons_succ]
  refine seq_of ?_
  simp only [sFor, iEnuG, gV, gK, Mach.gNil, Mach.gCons, gOp, gUn, gBi, gCall, gTst, gAnd, gOr, gNot, gIf, gAndV, gOrV, gNotV, gChain, gMt, gSl, gNo, gPart, bind_ok, calm_ok, List.getElem?_cons_zero, List.getElem?_cons_succ, List.set_cons_zero, List.set_cons_succ, at_0, at_1, at_2, if_true, if_false, Bool.not_true, Bool.not_false, Bool.false_eq_true, reduceIte, dSl, cut_map, newL_ok y2, SO_stm]
  show RO (R.ok (Src.enl 2) _) _
  rw [RO_ok]
  show SO (forL (.enl 2) (Tg.tp [2, 3]) _ ((List.map D.int (cut ns (some 12) (some 63))).length) 0 _ _) _ _
  refine SO_forEnl (ds := (cut ns (some 12) (some 63)).map D.int) (fun i lo h' => (∃ x y, lo = [some (.rol (ns.map .int)), some (.ref 1), x, y]) ∧ ∃ cs : List Int, cs.length = (cut ns none (some 12)).length ∧ h' = [.lst ((cut ns none (some 12)).map .int), .lst (cs.map .int), .lst ((cut ns (some 12) (some 63)).map .int)]) ?_ ?_ ?_ _ 0 _ _ (Nat.zero_add _) ⟨⟨_, _, rfl⟩, _, rfl, rfl⟩
  · rintro i lo h' ⟨_, cs, _, rfl⟩
    rfl
  · rintro i d lo h' ed ⟨⟨x, y, rfl⟩, cs, hcs, rfl⟩
    have hi : i < ((cut ns (some 12) (some 63)).map D.int).length := (List.getElem?_eq_some_iff.mp ed).1
    rw [List.length_map] at hi
    rw [List.getElem?_map] at ed
    obtain ⟨z, ez, rfl⟩ := Option.map_eq_some_iff.mp ed
    have k0 := Int.emod_nonneg (i : Int) (show (12 : Int) ≠ 0 by decide)
    have k1 := Int.emod_lt_of_pos (i : Int) (show (0 : Int) < 12 by decide)
    have hc12 : cs.length = 12 := by omega
    obtain ⟨w, ew⟩ := cell_at (cells := cs) k0 (by omega)
    obtain ⟨n, hnk⟩ := Int.eq_ofNat_of_zero_le k0
    have hx : ixN (cs.map D.int).length ((i : Int) % 12) = some n := by
      rw [hnk]; unfold ixN; rw [if_pos (by omega), List.length_map, if_pos (by omega)]; simp
    refine ⟨_, rfl, ?_⟩
    refine setix_of (d := .int (w + z)) (h1 := _) (h2 := _) (h3 := _) (r := 1) (n := (i : Int) % 12) (ds := cs.map .int) (j := n) (by
      simp only [gV, gK, Mach.gNil, Mach.gCons, gOp, gUn, gBi, gCall, gTst, gAnd, gOr, gNot, gIf, gAndV, gOrV, gNotV, gChain, gMt, gSl, gNo, gPart, bind_ok, calm_ok, List.getElem?_cons_zero, List.getElem?_cons_succ, List.set_cons_zero, List.set_cons_succ, at_0, at_1, at_2, if_true, if_false, Bool.not_true, Bool.not_false, Bool.false_eq_true, reduceIte, int_int, mod_int (show (0 : Int) < 12 by decide), dIx_list (show ([Ob.lst ((cut ns none (some 12)).map .int), .lst (cs.map .int), .lst ((cut ns (some 12) (some 63)).map .int)] : Hq)[1]? = some (Ob.lst (cs.map .int)) from rfl) ew, add_int]
      rfl) (by simp only [gV, gK, Mach.gNil, Mach.gCons, gOp, gUn, gBi, gCall, gTst, gAnd, gOr, gNot, gIf, gAndV, gOrV, gNotV, gChain, gMt, gSl, gNo, gPart, bind_ok, calm_ok, List.getElem?_cons_zero, List.getElem?_cons_succ, List.set_cons_zero, List.set_cons_succ, at_0, at_1, at_2, if_true, if_false, Bool.not_true, Bool.not_false, Bool.false_eq_true, reduceIte]; rfl) (by simp only [gV, gK, Mach.gNil, Mach.gCons, gOp, gUn, gBi, gCall, gTst, gAnd, gOr, gNot, gIf, gAndV, gOrV, gNotV, gChain, gMt, gSl, gNo, gPart, bind_ok, calm_ok, List.getElem?_cons_zero, List.getElem?_cons_succ, List.set_cons_zero, List.set_cons_succ, at_0, at_1, at_2, if_true, if_false, Bool.not_true, Bool.not_false, Bool.false_eq_true, reduceIte, int_int, mod_int (show (0 : Int) < 12 by decide)]; rfl) rfl hx ?_
    refine ⟨⟨_, _, rfl⟩, cs.set n (w + z), by rw [List.length_set]; exact hcs, ?_⟩
    rw [List.map_set]
    rfl
  · rintro lo h' ⟨⟨x, y, rfl⟩, cs, hcs, rfl⟩
    refine ret_of (d := .ref 3) (h1 := [.lst ((cut ns none (some 12)).map .int), .lst (cs.map .int), .lst ((cut ns (some 12) (some 63)).map .int), .lst [.ref 1, .int 0, .int 0]]) rfl ?_
    exact ⟨3, 1, rfl, cs, 0, 0, ⟨rfl, rfl, by decide, Int.le_refl 0, Int.le_refl 0, by omega⟩, Int.le_refl 0⟩

/-- a comprehension over range(m) of the law's own pairs: draws in its item -/
theorem comp_draw {ds : List D} {t : Tg} {elt : GE} {h : Hq} {lo : Lo} {Q : Unit → Hq → Prop} {p c : Nat} {A s : Int} (Pe : D → Prop) (hz : ds.length ≤ 1000) (P : PenB p c A h) (hs : 0 ≤ s)
    (hstep : ∀ d ∈ ds, ∃ lo1, t.f d lo = some lo1 ∧ ∀ (A' : Int) h', A ≤ A' → A' ≤ A + s * ds.length → PenB p c A' h' → RO (elt lo1 h') fun y h2 => Pe y ∧ PenB p c (A' + s) h2 ∧ Fr p h' h2)
    (hq : ∀ acc h', acc.length = ds.length → (∀ y ∈ acc, Pe y) → PenB p c (A + s * ds.length) h' → Fr p h h' → h'[h.length]? = some (.lst acc) → Q () h') :
    RO (compL (.fix ds) t gYes elt h.length ds.length 0 lo (h ++ [.lst []])) Q := by
  have hp : p < h.length := by obtain ⟨_, _, _, P, _⟩ := P; exact (List.getElem?_eq_some_iff.mp P.pen).1
  have hc : c < h.length := by obtain ⟨_, _, _, P, _⟩ := P; exact (List.getElem?_eq_some_iff.mp P.cel).1
  refine RO_compFix (fun i acc h' => acc.length = i ∧ i ≤ ds.length ∧ (∀ y ∈ acc, Pe y) ∧ PenB p c (A + s * i) h' ∧ Fr p h h' ∧ h'[h.length]? = some (.lst acc)) (by omega) ?_ ?_ ?_ ds.length 0 [] _ (Nat.zero_add _) ⟨rfl, Nat.zero_le _, fun y hy => (by simp at hy), (P.app _).le (by simp), Fr.app _ _, last_get h _ []⟩
  · rintro i acc h' ⟨h1, _, _, _, _, h6⟩
    exact ⟨h6, by omega⟩
  · rintro i d acc h' e ⟨h1, hi, h2, h3, h4, h6⟩
    have hi : i < ds.length := (List.getElem?_eq_some_iff.mp e).1
    obtain ⟨lo1, e1, e2⟩ := hstep d (List.mem_of_getElem? e)
    refine ⟨lo1, e1, ?_⟩
    show RO (.ok true h') _
    rw [RO_ok, if_pos rfl]
    have m1 : 0 ≤ s * (i : Nat) := Int.mul_nonneg hs (by omega)
    have m2 : s * (i : Nat) ≤ s * (ds.length : Nat) := Int.mul_le_mul_of_nonneg_left (by omega) hs
    refine (e2 (A + s * i) h' (by omega) (by omega) h3).mono fun y h2' ⟨q1, q2, q3⟩ => ?_
    have hl : h.length < h'.length := (List.getElem?_eq_some_iff.mp h6).1
    have g6 : h2'[h.length]? = some (.lst acc) := (q3.old _ (by omega) hl).trans h6
    refine ⟨g6, by simp [h1], hi, ?_, ?_, ?_, ?_⟩
    · intro z hz
      rcases (List.mem_append).mp hz with hz | hz
      · exact h2 z hz
      · rw [show z = y by simpa using hz]; exact q1
    · have : A + s * ((i + 1 : Nat) : Int) = A + s * i + s := by rw [Int.natCast_add, Int.mul_add]; simp; omega
      rw [this]
      exact q2.set (by omega) (by omega)
    · exact ⟨by rw [List.length_set]; exact Nat.le_trans h4.len q3.len, fun r hr hl' => by
        rw [List.getElem?_set_ne (by omega)]
        exact (q3.old r hr (by have := h4.len; omega)).trans (h4.old r hr hl')⟩
    · exact List.getElem?_set_self (List.getElem?_eq_some_iff.mp g6).1
  · rintro acc h' ⟨h1, _, h2, h3, h4, h6⟩
    exact hq acc h' h1 h2 h3 h4 h6

theorem PenB.lt {p c : Nat} {A : Int} {h : Hq} (P : PenB p c A h) : p < h.length ∧ c < h.length ∧ p ≠ c := by
  obtain ⟨_, _, _, P, _⟩ := P
  exact ⟨(List.getElem?_eq_some_iff.mp P.pen).1, (List.getElem?_eq_some_iff.mp P.cel).1, P.ne⟩

end G2
end

section
set_option Elab.async false
set_option linter.all false
set_option maxRecDepth 100000
set_option maxHeartbeats 2100000
namespace G2
open PySem PySem.Spec L2 Mach
theorem one_ok {p c s : Nat} {A : Int} {h : Hq} {ds : List D} (P : PenB p c A h) (hA : A ≤ 1000000) (e : h[s]? = some (Ob.lst ds)) (hs : s ≠ p) (m0 : 1 ≤ ds.length) (m1 : ds.length < 1000000) :
    RO (f__law_one [.ref p, .ref s] h) fun d h' => d ∈ ds ∧ PenB p c (A + 1) h' ∧ Fr p h h' := by
  unfold f__law_one
  rw [RO_raw]
  unfold b__law_one
  simp only [List.map_cons, List.map_nil, List.length_cons, List.length_nil, Nat.reduceAdd, Nat.reduceSub, List.replicate_zero, List.append_nil]
  refine ret_ro ?_
  simp only [gOp, gV, List.getElem?_cons_zero, List.getElem?_cons_succ, bind_ok, gCall, Mach.gCons, gBi, Mach.gNil, lst_len e, calm_ok]
  refine bind_ro (take_ok P hA (show (1 : Int) ≤ (ds.length : Nat) by omega) (by omega)) ?_
  rintro d h' ⟨r, rfl, r0, r1, P', F⟩
  obtain ⟨n, rfl⟩ := Int.eq_ofNat_of_zero_le r0
  have hl : n < ds.length := by omega
  have e' : h'[s]? = some (Ob.lst ds) := (F.old s hs (List.getElem?_eq_some_iff.mp e).1).trans e
  rw [dIx_list e' (show atI ds (n : Int) = some ds[n] by rw [at_i, List.getElem?_eq_getElem hl])]
  rw [RO_calm, RO_ok]
  exact ⟨List.getElem_mem hl, P', F⟩
/-- one of a written list -/
theorem one_new {p c : Nat} {A : Int} {h : Hq} {ds : List D} (P : PenB p c A h) (hA : A ≤ 1000000) (m0 : 1 ≤ ds.length) (m1 : ds.length < 1000000) :
    RO (f__law_one [.ref p, .ref h.length] (h ++ [.lst ds])) fun d h' => d ∈ ds ∧ PenB p c (A + 1) h' ∧ Fr p h h' :=
  (one_ok (P.app _) hA (last_get h _ []) (by have := P.lt.1; omega) m0 m1).mono fun d h' ⟨q1, q2, q3⟩ => ⟨q1, q2, (Fr.app h _).trans q3⟩

end G2
end

section
set_option Elab.async false
set_option linter.all false
set_option maxRecDepth 100000
set_option maxHeartbeats 2100000
namespace G2
open PySem PySem.Spec L2 Mach
def tupk (k : Int) : D → Bool
  | .tup ds => decide ((ds.length : Int) = k)
  | _ => false
def entB (place flags : Int) : D → Bool
  | .tup [a, b] => betw 0 place a && betw 0 (flags - 1) b
  | _ => false
def rowB (place flags : Int) : D → Bool
  | .tup ds => decide ((ds.length : Int) = flags) && ds.all (entB place flags)
  | _ => false
def prB (flags : Int) : D → Bool
  | .tup [.int i, x] => rowB i flags x
  | _ => false
def tabB (items flags : Int) : D → Bool
  | .tup ds => decide ((ds.length : Int) = items) && (enuD ds).all (prB flags)
  | _ => false
def ruleB : D → Bool
  | .tup [.int items, .int flags, t] => decide (2 ≤ items) && decide (items ≤ 4) && (decide (1 ≤ flags) && decide (flags ≤ 2)) && tabB items flags t
  | _ => false
end G2
end

section
set_option Elab.async false
set_option linter.all false
set_option maxRecDepth 100000
set_option maxHeartbeats 2100000
namespace G2
open PySem PySem.Spec L2 Mach
def kvsD (k : Int) : List (Key × D) := [(.inr "front", .int 0), (.inr "ahead", .int (if k - 1 > 0 then k - 1 else 0)), (.inr "half", .int (k / 2))]
def toD (word : Str) (k : Int) : D := (dVal (kvsD k) (.inr word)).getD (.int k)
def entryD (word : Str) (k : Int) : D := if (word == ("second" : Str)) = true then .tup [.tup [.int k, .int 1], .tup [.int 0, .int 0]] else .tup [.tup [toD word k, .int 0]]
def namedD (word : Str) (n : Nat) : D := .tup [.int n, .int (if (word == ("second" : Str)) = true then 2 else 1), .tup ((List.range n).map fun k => entryD word (k : Nat))]
theorem toD_int (word : Str) (k : Int) : ∃ i, toD word k = .int i := by
  unfold toD dVal
  cases hf : (kvsD k).find? fun kv => decide (kv.1 = Sum.inr word) with
  | none => exact ⟨k, rfl⟩
  | some p =>
    have hm := (List.mem_of_find?_eq_some hf)
    simp only [kvsD, List.mem_cons, List.not_mem_nil, or_false] at hm
    rcases hm with rfl | rfl | rfl <;> exact ⟨_, rfl⟩
theorem entryD_form (word : Str) (k : Int) : (∃ i, entryD word k = .tup [.tup [.int i, .int 0]]) ∨ entryD word k = .tup [.tup [.int k, .int 1], .tup [.int 0, .int 0]] := by
  unfold entryD
  obtain ⟨i, e⟩ := toD_int word k
  split
  · exact .inr rfl
  · exact .inl ⟨i, by rw [e]⟩
theorem namedD_pure (word : Str) (n : Nat) : (namedD word n).pure = true := by
  have hp : D.pures ((List.range n).map fun k => entryD word (k : Nat)) = true := by
    refine pures_all fun d hd => ?_
    obtain ⟨k, _, rfl⟩ := List.mem_map.mp hd
    rcases entryD_form word (k : Nat) with ⟨i, e⟩ | e <;> rw [e] <;> rfl
  simp only [namedD, D.pure, D.pures, hp, Bool.and_self]
def five : List Str := ["front", "ahead", "still", "half", "second"]

end G2
end

section
set_option Elab.async false
set_option linter.all false
set_option maxRecDepth 100000
set_option maxHeartbeats 2100000
namespace G2
open PySem PySem.Spec L2 Mach
theorem nodup3 : (["front", "ahead", "half"] : List Str).Nodup := by decide +kernel
theorem get_eq {word : Str} {n k : Int} {r : D} {x : Option D} {h : Hq} :
    gGet (gDict ["front", "ahead", "half"] (Mach.gCons (gK (.int 0)) (Mach.gCons (gBi dMax2 (Mach.gCons (gK (.int 0)) (Mach.gCons (gOp dSub (gV 3) (gK (.int 1))) Mach.gNil))) (Mach.gCons (gOp dDiv (gV 3) (gK (.int 2))) Mach.gNil)))) (gV 0) (gV 3)
      [some (.str word), some (.int n), some r, some (.int k), x] h = .ok (toD word k) (h ++ [.dct (kvsD k)]) := by
  have e1 : gDict ["front", "ahead", "half"] (Mach.gCons (gK (.int 0)) (Mach.gCons (gBi dMax2 (Mach.gCons (gK (.int 0)) (Mach.gCons (gOp dSub (gV 3) (gK (.int 1))) Mach.gNil))) (Mach.gCons (gOp dDiv (gV 3) (gK (.int 2))) Mach.gNil)))
      [some (.str word), some (.int n), some r, some (.int k), x] h = .ok (.ref h.length) (h ++ [.dct (kvsD k)]) := by
    unfold gDict
    simp only [gV, gK, Mach.gNil, Mach.gCons, gOp, gUn, gBi, gCall, gTst, gAnd, gOr, gNot, gIf, gAndV, gOrV, gNotV, gChain, gMt, gSl, gNo, gPart, bind_ok, calm_ok, List.getElem?_cons_zero, List.getElem?_cons_succ, List.set_cons_zero, List.set_cons_succ, at_0, at_1, at_2, if_true, if_false, Bool.not_true, Bool.not_false, Bool.false_eq_true, reduceIte, dMax2, dSub, div_int (show (0 : Int) < 2 ∧ (2 : Int) < 1073741824 by decide)]
    rw [if_pos ⟨rfl, by decide, nodup3⟩]
    rw [last_get]
    simp only [last_set]
    rfl
  unfold gGet
  rw [e1]
  simp only [bind_ok, last_get, gV, List.getElem?_cons_zero, List.getElem?_cons_succ]
  rfl
end G2
end

section
set_option Elab.async false
set_option linter.all false
set_option maxRecDepth 100000
set_option maxHeartbeats 2100000
namespace G2
open PySem PySem.Spec L2 Mach
/-! ### orders and flags, whatever is asked -/
def allB (b : Int) : D → Bool
  | .tup ds => ds.all (betw 0 (b - 1))
  | _ => false
theorem dType_int {h : Hq} {d : D} (p : Pn h d) : ∃ t, dType [d] h = .ok (.ty t) h ∧ (t = "int" ↔ ∃ i, d = .int i) := by
  obtain ⟨t, e, hi, _⟩ := ty_of p
  exact ⟨t, by simp only [dType, e], hi⟩
theorem dType_tup {h : Hq} {d : D} (p : Pn h d) : ∃ t, dType [d] h = .ok (.ty t) h ∧ (t = "tuple" ↔ ∃ ds, d = .tup ds) := by
  obtain ⟨t, e, _, hi, _⟩ := ty_of p
  exact ⟨t, by simp only [dType, e], hi⟩
/-- all of so many items, each once -/
def ordB (n : Int) : D → Bool
  | .tup ds => allB n (.tup ds) && decide ((ds.length : Int) = n) && (match ds.mapM intD with | some ns => decide (((uniq ns).length : Int) = n) | none => false)
  | _ => false
theorem ordB_tup {n : Int} {ds : List D} : ordB n (.tup ds) = (allB n (.tup ds) && decide ((ds.length : Int) = n) && (match ds.mapM intD with | some ns => decide (((uniq ns).length : Int) = n) | none => false)) := rfl
theorem all_ints {b : Int} : ∀ {ds : List D}, ds.all (betw 0 (b - 1)) = true → ∃ ns : List Int, ds = ns.map D.int ∧ ds.mapM intD = some ns
  | [], _ => ⟨[], rfl, rfl⟩
  | d :: ds, e => by
    rw [List.all_cons, Bool.and_eq_true] at e
    obtain ⟨i, rfl, _⟩ := betw_int e.1
    obtain ⟨ns, rfl, e2⟩ := all_ints e.2
    refine ⟨i :: ns, rfl, ?_⟩
    rw [List.mapM_cons, e2]
    rfl
/-- a standing, by the numbers of items and flags -/
def stB (n fl : Int) : D → Bool
  | .tup [o, f] => ordB n o && (allB fl f && (match f with | .tup fs => decide ((fs.length : Int) = n) | _ => false))
  | _ => false
end G2
end

section
set_option Elab.async false
set_option linter.all false
set_option maxRecDepth 100000
set_option maxHeartbeats 2100000
namespace G2
open PySem PySem.Spec L2 Mach
/-! ### standings in plain numbers, and what an ask makes of them -/
def eN (l : List Nat) : D := .tup (l.map fun n => .int (n : Nat))
def eRow (row : List (Nat × Nat)) : D := .tup (row.map fun e => .tup [.int (e.1 : Nat), .int (e.2 : Nat)])
def eR (n fl : Nat) (tb : List (List (Nat × Nat))) : D := .tup [.int (n : Nat), .int (fl : Nat), .tup (tb.map eRow)]
def eS (s : List Nat × List Nat) : D := .tup [eN s.1, eN s.2]
structure OrdN (n : Nat) (o : List Nat) : Prop where
  len : o.length = n
  nd : o.Nodup
  lt : ∀ x ∈ o, x < n
structure FlN (n fl : Nat) (f : List Nat) : Prop where
  len : f.length = n
  lt : ∀ x ∈ f, x < fl
structure TbN (n fl : Nat) (tb : List (List (Nat × Nat))) : Prop where
  n2 : 2 ≤ n
  n4 : n ≤ 4
  f1 : 1 ≤ fl
  f2 : fl ≤ 2
  len : tb.length = n
  rows : ∀ (k : Nat) row, tb[k]? = some row → row.length = fl ∧ ∀ e ∈ row, e.1 ≤ k ∧ e.2 < fl
def shf (o : List Nat) (d p : Nat) : List Nat := o.take p ++ (o.drop d).take 1 ++ (o.drop p).take (d - p) ++ o.drop (d + 1)
def entOf (tb : List (List (Nat × Nat))) (s : List Nat × List Nat) (x : Nat) : Nat × Nat := (tb.getD (s.1.idxOf x) []).getD (s.2.getD x 0) (0, 0)
def askM (tb : List (List (Nat × Nat))) (s : List Nat × List Nat) (x : Nat) : Nat × (List Nat × List Nat) := (s.1.idxOf x, (shf s.1 (s.1.idxOf x) (entOf tb s x).1, s.2.set x (entOf tb s x).2))
theorem OrdN.mem {n x : Nat} {o : List Nat} (O : OrdN n o) (hx : x < n) : x ∈ o := by
  refine Classical.byContradiction fun z => ?_
  have hl := List.Nodup.length_le_of_subset (l₁ := x :: o) (l₂ := List.range n) (List.nodup_cons.mpr ⟨z, O.nd⟩) fun y hy => by
    rcases (List.mem_cons).mp hy with rfl | hy
    · exact List.mem_range.mpr hx
    · exact List.mem_range.mpr (O.lt y hy)
  rw [List.length_cons, List.length_range, O.len] at hl
  omega
theorem OrdN.perm {n : Nat} {o o' : List Nat} (O : OrdN n o) (p : o'.Perm o) : OrdN n o' :=
  ⟨p.length_eq.trans O.len, p.symm.nodup O.nd, fun x hx => O.lt x (p.mem_iff.mp hx)⟩
theorem OrdN.ix {n x : Nat} {o : List Nat} (O : OrdN n o) (hx : x < n) : o.idxOf x < n ∧ o[o.idxOf x]? = some x := by
  have hm := O.mem hx
  have hl := List.idxOf_lt_length_of_mem hm
  exact ⟨by rw [← O.len]; exact hl, by rw [List.getElem?_eq_getElem hl, List.getElem_idxOf hl]⟩
theorem cut_to {α : Type} (xs : List α) (k : Nat) : cut xs none (some (k : Int)) = xs.take k := by
  unfold cut
  rw [HT.sIx_none, HT.sIx_nat, List.drop_zero, Nat.sub_zero]
  rcases Nat.le_total k xs.length with h | h
  · rw [Nat.min_eq_left h]
  · rw [Nat.min_eq_right h, List.take_length, List.take_of_length_le h]
theorem cut_from {α : Type} (xs : List α) (k : Nat) : cut xs (some (k : Int)) none = xs.drop k := by
  unfold cut
  rw [HT.sIx_none, HT.sIx_nat]
  rcases Nat.le_total k xs.length with h | h
  · rw [Nat.min_eq_left h, ← List.length_drop, List.take_length]
  · rw [Nat.min_eq_right h, List.drop_of_length_le (Nat.le_refl _), List.drop_of_length_le h, List.take_nil]
theorem cut_mid {α : Type} (xs : List α) (i j : Nat) : cut xs (some (i : Int)) (some (j : Int)) = (xs.drop i).take (j - i) := by
  unfold cut
  rw [HT.sIx_nat, HT.sIx_nat]
  rcases Nat.le_total i xs.length with h | h
  · rw [Nat.min_eq_left h]
    rcases Nat.le_total j xs.length with h2 | h2
    · rw [Nat.min_eq_left h2]
    · rw [Nat.min_eq_right h2, ← List.length_drop, List.take_length, List.take_of_length_le (by rw [List.length_drop]; omega)]
  · rw [Nat.min_eq_right h, List.drop_of_length_le (Nat.le_refl _), List.drop_of_length_le h, List.take_nil, List.take_nil]
theorem sl_eN {o : List Nat} {lo hi : Option Int} {h : Hq} : dSl (eN o) lo hi h = .ok (eN (cut o lo hi)) h := by
  show R.ok (D.tup (cut (o.map fun n => D.int (n : Nat)) lo hi)) h = _
  congr 2
  simp only [cut, List.length_map, List.map_take, List.map_drop]
theorem add_eN {a b : List Nat} {h : Hq} (hl : (a ++ b).length ≤ 1000000) : dAdd (eN a) (eN b) h = .ok (eN (a ++ b)) h := by
  show newT (_ ++ _) h = _
  unfold newT
  rw [if_pos (by simpa using hl), ← List.map_append]
  rfl
theorem pures_eN (l : List Nat) : D.pures (l.map fun n => D.int (n : Nat)) = true := pures_all fun d hd => by
  obtain ⟨n, _, rfl⟩ := List.mem_map.mp hd
  rfl
theorem pure_eN (l : List Nat) : (eN l).pure = true := pures_eN l
theorem shf_perm {o : List Nat} {d p : Nat} (hp : p ≤ d) : (shf o d p).Perm o := by
  have e : o = o.take p ++ ((o.drop p).take (d - p) ++ ((o.drop d).take 1 ++ o.drop (d + 1))) := by
    have e1 : (o.drop d).take 1 ++ o.drop (d + 1) = o.drop d := by
      have := List.take_append_drop 1 (o.drop d)
      rw [List.drop_drop] at this
      exact this
    have e2 : (o.drop p).take (d - p) ++ o.drop d = o.drop p := by
      have := List.take_append_drop (d - p) (o.drop p)
      rw [List.drop_drop, show p + (d - p) = d by omega] at this
      exact this
    rw [e1, e2, List.take_append_drop]
  unfold shf
  rw [List.append_assoc]; rw [List.append_assoc]
  refine List.Perm.trans ?_ (List.Perm.of_eq e.symm)
  refine (List.Perm.append_left _ ?_)
  rw [← List.append_assoc]; rw [← List.append_assoc]
  exact (List.Perm.append_right _ List.perm_append_comm)
theorem shf_len {o : List Nat} {d p : Nat} (hp : p ≤ d) : (shf o d p).length = o.length := (shf_perm hp).length_eq
theorem toPs_ints {h : Hq} {k : Nat} : ∀ l : List Nat, (l.map fun n => D.int (n : Nat)).mapM (toP h k) = some (l.map fun n => PyData.int (n : Nat))
  | [] => rfl
  | a :: l => by
    rw [List.map_cons, List.mapM_cons, toP_int, toPs_ints l]
    rfl
theorem toP_eN {h : Hq} {k : Nat} {l : List Nat} : toP h (k + 1) (eN l) = some (.tuple (l.map fun n => PyData.int (n : Nat))) := by
  unfold eN
  simp only [toP, toPs_ints, Option.map_some]
theorem find_ints {x : Nat} : ∀ {l : List Nat}, x ∈ l → (l.map fun n => PyData.int (n : Nat)).findIdx? (fun z => PyData.eqv z (.int (x : Nat))) = some (l.idxOf x)
  | [], h => nomatch h
  | a :: l, h => by
    rw [List.map_cons, List.findIdx?_cons, eqv_int, List.idxOf_cons]
    by_cases e : a = x
    · subst e
      simp
    · have e2 : ¬ ((a : Nat) : Int) = (x : Nat) := by omega
      have hm : x ∈ l := by
        rcases (List.mem_cons).mp h with z | z
        · exact absurd z.symm e
        · exact z
      rw [decide_eq_false e2, find_ints hm]
      have e3 : (a == x) = false := by simpa using e
      simp [e3]
theorem index_eN {x : Nat} {o : List Nat} {h : Hq} (hx : x ∈ o) : dIndexT (eN o) [.int x] h = .ok (.int (o.idxOf x : Nat)) h := by
  have e : toP h 60 (eN o) = _ := toP_eN (k := 59)
  simp only [dIndexT, e, toP_int, find_ints hx]
theorem ix_map {α : Type} {g : α → D} {l : List α} {k : Nat} {a : α} {h : Hq} (e : l[k]? = some a) : dIx (.tup (l.map g)) (.int (k : Nat)) h = .ok (g a) h := by
  unfold dIx
  simp only [at_i, List.getElem?_map, e, Option.map_some]
theorem entOf_at {n fl x : Nat} {tb : List (List (Nat × Nat))} {s : List Nat × List Nat} (T : TbN n fl tb) (O : OrdN n s.1) (F : FlN n fl s.2) (hx : x < n) :
    ∃ row fg, tb[s.1.idxOf x]? = some row ∧ s.2[x]? = some fg ∧ row[fg]? = some (entOf tb s x) ∧ (entOf tb s x).1 ≤ s.1.idxOf x ∧ (entOf tb s x).2 < fl := by
  have hd := (O.ix hx).1
  have h1 : s.1.idxOf x < tb.length := by rw [T.len]; exact hd
  have h2 : x < s.2.length := by rw [F.len]; exact hx
  have e1 := List.getElem?_eq_getElem h1
  have e2 := List.getElem?_eq_getElem h2
  obtain ⟨rl, re⟩ := T.rows _ _ e1
  have h3 : s.2[x] < (tb[s.1.idxOf x]).length := by rw [rl]; exact F.lt _ (List.getElem_mem h2)
  have e3 := List.getElem?_eq_getElem h3
  have e : entOf tb s x = (tb[s.1.idxOf x])[s.2[x]] := by
    simp only [entOf, List.getD_eq_getElem?_getD, e1, e2, Option.getD_some, e3]
  refine ⟨_, _, e1, e2, by rw [e3, e], ?_⟩
  rw [e]
  exact re _ (List.getElem_mem h3)
theorem ask_ok {n fl x : Nat} {tb : List (List (Nat × Nat))} {s : List Nat × List Nat} (T : TbN n fl tb) (O : OrdN n s.1) (F : FlN n fl s.2) (hx : x < n) : OrdN n (askM tb s x).2.1 ∧ FlN n fl (askM tb s x).2.2 ∧ (askM tb s x).1 < n := by
  obtain ⟨row, fg, e1, e2, e3, hp, hf⟩ := entOf_at T O F hx
  refine ⟨O.perm (shf_perm hp), ⟨by show (s.2.set _ _).length = n; rw [List.length_set]; exact F.len, fun y hy => ?_⟩, (O.ix hx).1⟩
  rcases List.mem_or_eq_of_mem_set hy with z | z
  · exact F.lt y z
  · rw [z]; exact hf

end G2
end

section
set_option Elab.async false
set_option linter.all false
set_option maxRecDepth 100000
set_option maxHeartbeats 2100000
namespace G2
open PySem PySem.Spec L2 Mach
/-! ### right rules and standings are told so; rows of asks; stores -/
theorem Pn_tup {h : Hq} {ds : List D} {n : Nat} (hn : n + 1 ≤ 50) (k : ∀ d ∈ ds, ∃ q, toP h n d = some q) : Pn h (.tup ds) := by
  obtain ⟨m, hm⟩ := mapM_all k
  exact ⟨n + 1, hn, .tuple m, by simp only [toP, hm, Option.map_some]⟩
theorem toP_eS {h : Hq} {k : Nat} {s : List Nat × List Nat} : toP h (k + 2) (eS s) = some (.tuple [.tuple (s.1.map fun n => PyData.int (n : Nat)), .tuple (s.2.map fun n => PyData.int (n : Nat))]) := by
  unfold eS
  simp only [toP, List.mapM_cons, List.mapM_nil, toP_eN]
  rfl
theorem pn_eN {h : Hq} (l : List Nat) : Pn h (eN l) := ⟨1, by decide, _, toP_eN⟩
theorem pn_eS {h : Hq} (s : List Nat × List Nat) : Pn h (eS s) := ⟨2, by decide, _, toP_eS⟩
theorem toP_row {h : Hq} {k : Nat} (row : List (Nat × Nat)) : ∃ q, toP h (k + 2) (eRow row) = some q := by
  obtain ⟨m, hm⟩ := mapM_all (f := toP h (k + 1)) (l := row.map fun e => D.tup [.int (e.1 : Nat), .int (e.2 : Nat)]) fun d hd => by
    obtain ⟨e, _, rfl⟩ := List.mem_map.mp hd
    exact ⟨.tuple [.int e.1, .int e.2], by simp only [toP, List.mapM_cons, List.mapM_nil, toP_int]; rfl⟩
  exact ⟨.tuple m, by unfold eRow; simp only [toP, hm, Option.map_some]⟩
theorem pn_eR {h : Hq} (n fl : Nat) (tb : List (List (Nat × Nat))) : Pn h (eR n fl tb) := by
  refine Pn_tup (n := 3) (by decide) fun d hd => ?_
  simp only [List.mem_cons, List.not_mem_nil, or_false] at hd
  rcases hd with rfl | rfl | rfl
  · exact ⟨_, toP_int⟩
  · exact ⟨_, toP_int⟩
  · obtain ⟨m, hm⟩ := mapM_all (f := toP h 2) (l := tb.map eRow) fun d hd => by
      obtain ⟨row, _, rfl⟩ := List.mem_map.mp hd
      exact toP_row (k := 0) row
    exact ⟨.tuple m, by simp only [toP, hm, Option.map_some]⟩
theorem pure_eR (n fl : Nat) (tb : List (List (Nat × Nat))) : (eR n fl tb).pure = true := pures_all fun d hd => by
  simp only [List.mem_cons, List.not_mem_nil, or_false] at hd
  rcases hd with rfl | rfl | rfl
  · rfl
  · rfl
  · exact pures_all fun d hd => by
      obtain ⟨row, _, rfl⟩ := List.mem_map.mp hd
      exact pures_all fun d hd => by
        obtain ⟨e, _, rfl⟩ := List.mem_map.mp hd
        rfl
theorem pure_eS (s : List Nat × List Nat) : (eS s).pure = true := pures_all fun d hd => by
  simp only [List.mem_cons, List.not_mem_nil, or_false] at hd
  rcases hd with rfl | rfl <;> exact pure_eN _
theorem rule_right {n fl : Nat} {tb : List (List (Nat × Nat))} (T : TbN n fl tb) : ruleB (eR n fl tb) = true := by
  obtain ⟨n2, n4, f1, f2, len, rows⟩ := T
  have a1 : decide ((2 : Int) ≤ (n : Nat)) = true := decide_eq_true (by omega)
  have a2 : decide (((n : Nat) : Int) ≤ 4) = true := decide_eq_true (by omega)
  have a3 : decide ((1 : Int) ≤ (fl : Nat)) = true := decide_eq_true (by omega)
  have a4 : decide (((fl : Nat) : Int) ≤ 2) = true := decide_eq_true (by omega)
  have a5 : tabB (n : Nat) (fl : Nat) (.tup (tb.map eRow)) = true := by
    unfold tabB
    rw [Bool.and_eq_true]
    refine ⟨by simp [len], ?_⟩
    rw [List.all_eq_true]
    intro d hd
    obtain ⟨k, row, rfl, ek⟩ := enuD_mem hd
    rw [List.getElem?_map] at ek
    obtain ⟨r, er, rfl⟩ := Option.map_eq_some_iff.mp ek
    obtain ⟨rl, re⟩ := rows k r er
    show rowB (k : Nat) (fl : Nat) (eRow r) = true
    unfold eRow
    show (decide _ && _) = true
    rw [Bool.and_eq_true]
    refine ⟨by simp [rl], ?_⟩
    rw [List.all_eq_true]
    intro e he
    obtain ⟨p, hp, rfl⟩ := List.mem_map.mp he
    obtain ⟨h1, h2⟩ := re p hp
    simp only [entB, betw, Bool.and_eq_true, decide_eq_true_eq]
    omega
  show (decide _ && decide _ && (decide _ && decide _) && tabB _ _ _) = true
  rw [a1, a2, a3, a4, a5]
  rfl
theorem all_right {b : Nat} {l : List Nat} (hl : ∀ x ∈ l, x < b) : allB (b : Nat) (eN l) = true := by
  show List.all _ _ = true
  rw [List.all_eq_true]
  intro d hd
  obtain ⟨x, hx, rfl⟩ := List.mem_map.mp hd
  have := hl x hx
  simp only [betw, Bool.and_eq_true, decide_eq_true_eq]
  omega
theorem ints_right : ∀ l : List Nat, (l.map fun n => D.int (n : Nat)).mapM intD = some (l.map fun n => ((n : Nat) : Int))
  | [] => rfl
  | a :: l => by
    rw [List.map_cons, List.mapM_cons, ints_right l]
    rfl
theorem nodup_cast : ∀ {l : List Nat}, l.Nodup → (l.map fun n => ((n : Nat) : Int)).Nodup
  | [], _ => List.nodup_nil
  | a :: l, h => by
    obtain ⟨h1, h2⟩ := (List.nodup_cons).mp h
    rw [List.map_cons]
    refine List.nodup_cons.mpr ⟨fun z => h1 ?_, nodup_cast h2⟩
    obtain ⟨b, hb, e⟩ := List.mem_map.mp z
    have : a = b := by omega
    rw [this]; exact hb
theorem ord_right {n : Nat} {o : List Nat} (O : OrdN n o) : ordB (n : Nat) (eN o) = true := by
  unfold eN
  rw [ordB_tup, ints_right]
  have h1 := all_right (b := n) O.lt
  unfold eN at h1
  rw [h1]
  simp only [uniq_of_nodup (nodup_cast O.nd), List.length_map, O.len, decide_true, Bool.true_and, Bool.and_true]
theorem st_right {n fl : Nat} {s : List Nat × List Nat} (O : OrdN n s.1) (F : FlN n fl s.2) : stB (n : Nat) (fl : Nat) (eS s) = true := by
  unfold eS stB
  simp only [ord_right O, all_right (b := fl) F.lt, Bool.true_and]
  show decide (((s.2.map _).length : Int) = _) = true
  simp [F.len]
section
variable {h : Hq} {n fl : Nat} {tb : List (List (Nat × Nat))} {s : List Nat × List Nat}
/-- a row of asks -/
def runM (tb : List (List (Nat × Nat))) : List Nat × List Nat → List Nat → List Nat × (List Nat × List Nat)
  | s, [] => ([], s)
  | s, x :: l => ((askM tb s x).1 :: (runM tb (askM tb s x).2 l).1, (runM tb (askM tb s x).2 l).2)
theorem runM_snoc {x : Nat} : ∀ {l : List Nat} {s : List Nat × List Nat}, runM tb s (l ++ [x]) = ((runM tb s l).1 ++ [(askM tb (runM tb s l).2 x).1], (askM tb (runM tb s l).2 x).2)
  | [], s => rfl
  | y :: l, s => by
    rw [List.cons_append]
    unfold runM
    rw [runM_snoc]
    rfl
theorem runM_len : ∀ {l : List Nat} {s : List Nat × List Nat}, (runM tb s l).1.length = l.length
  | [], _ => rfl
  | y :: l, s => by
    unfold runM
    rw [List.length_cons, runM_len, List.length_cons]
theorem runM_ok (T : TbN n fl tb) : ∀ {l : List Nat} {s : List Nat × List Nat}, OrdN n s.1 → FlN n fl s.2 → (∀ x ∈ l, x < n) → OrdN n (runM tb s l).2.1 ∧ FlN n fl (runM tb s l).2.2
  | [], _, O, F, _ => ⟨O, F⟩
  | y :: l, s, O, F, hl => by
    obtain ⟨O1, F1, _⟩ := ask_ok T O F (hl y (List.mem_cons_self ..))
    exact (runM_ok (l := l) (s := (askM tb s y).2) T O1 F1 fun x hx => hl x (List.mem_cons_of_mem _ hx) :)
def lN (l : List Nat) : Ob := .lst (l.map fun n => .int (n : Nat))
end

end G2
end

section
set_option Elab.async false
set_option linter.all false
set_option maxRecDepth 100000
set_option maxHeartbeats 2100000
namespace G2
open PySem PySem.Spec L2 Mach
/-! ### stores -/
def stO (rule : D) (s : List Nat × List Nat) (q : Nat) : Ob := .ins "Store" [("_rule", rule), ("_standing", eS s), ("_asked", .ref q)]
theorem lk1 {a b c : D} : List.lookup ("_rule" : Str) [("_rule", a), ("_standing", b), ("_asked", c)] = some a := by kernel_rfl
theorem lk2 {a b c : D} : List.lookup ("_standing" : Str) [("_rule", a), ("_standing", b), ("_asked", c)] = some b := by kernel_rfl
theorem lk3 {a b c : D} : List.lookup ("_asked" : Str) [("_rule", a), ("_standing", b), ("_asked", c)] = some c := by kernel_rfl
theorem pt1 {a : D} : putD "_rule" a [] = ([("_rule", a)] : List (Str × D)) := rfl
theorem pt2 {a b : D} : putD "_standing" b [("_rule", a)] = ([("_rule", a), ("_standing", b)] : List (Str × D)) := by kernel_rfl
theorem pt3 {a b c : D} : putD "_asked" c [("_rule", a), ("_standing", b)] = ([("_rule", a), ("_standing", b), ("_asked", c)] : List (Str × D)) := by kernel_rfl
theorem pt4 {a b c d : D} : putD "_standing" d [("_rule", a), ("_standing", b), ("_asked", c)] = ([("_rule", a), ("_standing", d), ("_asked", c)] : List (Str × D)) := by kernel_rfl
section
variable {h : Hq} {n fl x r q : Nat} {tb : List (List (Nat × Nat))} {s : List Nat × List Nat} {rule : D} {past : List D}
theorem fld_rule {lo : Lo} {a : GE} (ha : a lo h = .ok (.ref r) h) (e : h[r]? = some (stO rule s q)) : gFld "Store" "_rule" a lo h = .ok rule h := by
  unfold gFld stO at *
  simp only [ha, bind_ok, e, if_true, lk1]
theorem fld_standing {lo : Lo} {a : GE} (ha : a lo h = .ok (.ref r) h) (e : h[r]? = some (stO rule s q)) : gFld "Store" "_standing" a lo h = .ok (eS s) h := by
  unfold gFld stO at *
  simp only [ha, bind_ok, e, if_true, lk2]
theorem fld_asked {lo : Lo} {a : GE} (ha : a lo h = .ok (.ref r) h) (e : h[r]? = some (stO rule s q)) : gFld "Store" "_asked" a lo h = .ok (.ref q) h := by
  unfold gFld stO at *
  simp only [ha, bind_ok, e, if_true, lk3]
theorem sfld_of {N : Lo → Hq → Prop} {T : D → Hq → Prop} {c f : Str} {o e : GE} {lo : Lo} {h1 h2 : Hq} {d : D} {fs : List (Str × D)} (he : e lo h = .ok d h1) (ho : o lo h1 = .ok (.ref r) h2) (hr : h2[r]? = some (.ins c fs)) (hl : fs.length < 900)
    (k : N lo (h2.set r (.ins c (putD f d fs)))) : SO (sFldD c f o e lo h) N T := by
  unfold sFldD
  rw [he]
  simp only [R.stm]
  rw [ho]
  simp only [R.stm]
  rw [hr]
  simp only
  simp only [hl, and_self, if_true, SO_nx]
  exact k
theorem set_app {h g : Hq} {r : Nat} {o : Ob} (hr : r < h.length) : (h ++ g).set r o = h.set r o ++ g := List.set_append_left _ _ hr
end

end G2
end

section
set_option Elab.async false
set_option linter.all false
set_option maxRecDepth 100000
set_option maxHeartbeats 2100000
namespace G2
open PySem PySem.Spec L2 Mach
/-! ### drawn orders -/
theorem erase_perm {α : Type} {l : List α} {i : Nat} (h : i < l.length) : (l[i] :: l.eraseIdx i).Perm l := by
  rw [List.eraseIdx_eq_take_drop_succ]
  have e : l = l.take i ++ l[i] :: l.drop (i + 1) := by rw [List.getElem_cons_drop, List.take_append_drop]
  refine List.Perm.trans List.perm_middle.symm (List.Perm.of_eq e.symm)
theorem map_erase {α β : Type} {g : α → β} : ∀ {l : List α} {i : Nat}, (l.map g).eraseIdx i = (l.eraseIdx i).map g
  | [], _ => rfl
  | a :: l, 0 => rfl
  | a :: l, i + 1 => by rw [List.map_cons, List.eraseIdx_cons_succ, List.eraseIdx_cons_succ, List.map_cons, map_erase]
theorem pop_ints {h : Hq} {r : Nat} {l : List Nat} {i : Nat} (e : h[r]? = some (lN l)) (hi : i < l.length) (hl : l.length ≤ 1000) : dPopAt (.ref r) [.int (i : Nat)] h = .ok (.int (l[i] : Nat)) (h.set r (lN (l.eraseIdx i))) := by
  have e' : h[r]? = some (.lst (l.map fun n => D.int (n : Nat))) := e
  have sx : seqIndex? ((i : Nat) : Int) (l.map fun n => D.int (n : Nat)).length = some i := by
    unfold seqIndex?
    rw [List.length_map]
    have a1 : ¬ ((i : Nat) : Int) < 0 := by omega
    have a2 : (decide ((0 : Int) ≤ ((i : Nat) : Int)) && decide (((i : Nat) : Int) < (l.length : Nat))) = true := by simp; omega
    simp only [if_neg a1, a2, if_true, Int.toNat_natCast]
  unfold dPopAt
  simp only [e']
  rw [if_pos (by omega), sx]
  simp only [List.getElem?_map, List.getElem?_eq_getElem hi, Option.map_some, map_erase]
  rfl
theorem gComp_eq1 {gi : GI} {t : Tg} {vs : List Nat} {cs : GT} {elt : GE} {lo : Lo} {h h1 : Hq} {ds : List D} {Q : D → Hq → Prop} (hg : gi lo h = .ok (.fix ds) h1) :
    RO (gComp gi t vs cs elt lo h) Q = RO (compL (.fix ds) t cs elt h1.length ds.length 0 (wipeLo lo vs) (h1 ++ [.lst []])) (fun _ h2 => Q (.ref h1.length) h2) := by
  have : RO (gComp (fun _ _ => .ok (.fix ds) h1) t vs cs elt lo h1) Q = _ := gComp_eq (Q := Q) (h := h1) rfl
  rw [← this]
  unfold gComp
  rw [hg]
end G2
end

section
set_option Elab.async false
set_option linter.all false
set_option maxRecDepth 100000
set_option maxHeartbeats 2100000
namespace G2
open PySem PySem.Spec L2 Mach
/-! ### equal data, lists of numbers -/
theorem lay_all {ps : List PyData} (k : ∀ p ∈ ps, p.canLay0 = true) : PyData.canLayAll0 ps = true := by
  induction ps with
  | nil => rfl
  | cons a l ih =>
    show (a.canLay0 && PyData.canLayAll0 l) = true
    rw [k a (by simp), ih fun p hp => k p (List.mem_cons_of_mem _ hp)]
    rfl
theorem mapM_out {α β : Type} {f : α → Option β} : ∀ {l : List α} {m : List β}, l.mapM f = some m → ∀ y ∈ m, ∃ x ∈ l, f x = some y
  | [], m, e, y, hy => by simp at e; subst e; cases hy
  | a :: l, m, e, y, hy => by
    rw [List.mapM_cons] at e
    cases h1 : f a with
    | none => rw [h1] at e; simp at e
    | some z =>
      cases h2 : l.mapM f with
      | none => rw [h1, h2] at e; simp at e
      | some m2 =>
        rw [h1, h2] at e
        simp at e
        subst e
        rcases (List.mem_cons).mp hy with rfl | hy
        · exact ⟨a, by simp, h1⟩
        · obtain ⟨x, hx, ex⟩ := mapM_out h2 y hy
          exact ⟨x, List.mem_cons_of_mem _ hx, ex⟩
theorem lay_toP {h : Hq} : ∀ n d p, toP h n d = some p → p.canLay0 = true
  | n, .non, p, e => by cases n <;> (simp only [toP] at e; cases e; rfl)
  | n, .bl b, p, e => by cases n <;> (simp only [toP] at e; cases e; rfl)
  | n, .int i, p, e => by cases n <;> (simp only [toP] at e; cases e; rfl)
  | n, .str x, p, e => by
    have e : (if PyData.strOk x = true then some (PyData.str x) else none) = some p := by cases n <;> simpa only [toP] using e
    split at e
    · cases e; assumption
    · cases e
  | 0, .tup ds, p, e => by simp [toP] at e
  | 0, .rol ds, p, e => by simp [toP] at e
  | 0, .ref r, p, e => by simp [toP] at e
  | n, .ty t, p, e => by cases n <;> simp [toP] at e
  | n, .cls t, p, e => by cases n <;> simp [toP] at e
  | n + 1, .tup ds, p, e => by
    simp only [toP] at e
    obtain ⟨m, em, rfl⟩ := Option.map_eq_some_iff.mp e
    exact lay_all fun p hp => let ⟨x, _, ex⟩ := mapM_out em p hp; lay_toP n x p ex
  | n + 1, .rol ds, p, e => by
    simp only [toP] at e
    obtain ⟨m, em, rfl⟩ := Option.map_eq_some_iff.mp e
    exact lay_all fun p hp => let ⟨x, _, ex⟩ := mapM_out em p hp; lay_toP n x p ex
  | n + 1, .ref r, p, e => by
    simp only [toP] at e
    split at e
    · obtain ⟨m, em, rfl⟩ := Option.map_eq_some_iff.mp e
      exact lay_all fun p hp => let ⟨x, _, ex⟩ := mapM_out em p hp; lay_toP n x p ex
    · cases e
theorem dNe_same {h : Hq} {x y : D} {p : PyData} (ex : toP h 60 x = some p) (ey : toP h 60 y = some p) (no : ∀ s, x ≠ .str s) : dNeB x y h = .ok (.bl false) h := by
  have e : dNeB x y h = dNe x y h := by
    rcases dNeB_or x y h with ⟨a, b, rfl, rfl⟩ | e
    · exact absurd rfl (no a)
    · exact e
  rw [e]
  unfold dNe
  simp only [ex, ey]
  rw [SeqAt.eqv_refl p (lay_toP _ _ _ ex)]
  rfl
theorem dEq_same {h : Hq} {x y : D} {p : PyData} (ex : toP h 60 x = some p) (ey : toP h 60 y = some p) (no : ∀ s, x ≠ .str s) : dEqB x y h = .ok (.bl true) h := by
  have e : dEqB x y h = dEq x y h := by
    rcases dEqB_or x y h with ⟨a, b, rfl, rfl⟩ | e
    · exact absurd rfl (no a)
    · exact e
  rw [e]
  unfold dEq
  simp only [ex, ey]
  rw [SeqAt.eqv_refl p (lay_toP _ _ _ ex)]
theorem toP_eN60 {h : Hq} {l : List Nat} : toP h 60 (eN l) = some (.tuple (l.map fun n => PyData.int (n : Nat))) := toP_eN (k := 59)
theorem toP_eS60 {h : Hq} {s : List Nat × List Nat} : toP h 60 (eS s) = some (.tuple [.tuple (s.1.map fun n => PyData.int (n : Nat)), .tuple (s.2.map fun n => PyData.int (n : Nat))]) := toP_eS (k := 58)
theorem toP_lN {h : Hq} {r k : Nat} {l : List Nat} (e : h[r]? = some (lN l)) : toP h (k + 1) (.ref r) = some (.list (l.map fun n => PyData.int (n : Nat))) := by
  simp only [toP, show h[r]? = some (.lst (l.map fun n => D.int (n : Nat))) from e, toPs_ints, Option.map_some]
theorem dNe_eS {h : Hq} {s : List Nat × List Nat} : dNeB (eS s) (eS s) h = .ok (.bl false) h := dNe_same toP_eS60 toP_eS60 (fun _ z => by cases z)
theorem any_ints {x : Nat} : ∀ l : List Nat, ((l.map fun n => PyData.int (n : Nat)).any fun z => PyData.eqv z (.int (x : Nat))) = decide (x ∈ l)
  | [] => by simp
  | a :: l => by
    rw [List.map_cons, List.any_cons, any_ints l, eqv_int]
    by_cases e : a = x
    · subst e; simp
    · have e2 : ¬ ((a : Nat) : Int) = (x : Nat) := by omega
      have e3 : ¬ x = a := fun z => e z.symm
      simp [e2, e3]
theorem notIn_lN {h : Hq} {r x : Nat} {l : List Nat} (e : h[r]? = some (lN l)) : dNotInA (.int (x : Nat)) (.ref r) h = .ok (.bl (!decide (x ∈ l))) h := by
  have e1 : toP h 60 (.int (x : Nat)) = some (.int (x : Nat)) := toP_int
  have e2 : toP h 60 (.ref r) = _ := toP_lN (k := 59) e
  simp only [dNotInA, e1, e2, any_ints]
theorem notIn_eN {h : Hq} {x : Nat} {l : List Nat} : dNotInA (.int (x : Nat)) (eN l) h = .ok (.bl (!decide (x ∈ l))) h := by
  have e1 : toP h 60 (.int (x : Nat)) = some (.int (x : Nat)) := toP_int
  simp only [dNotInA, e1, toP_eN60, any_ints]
theorem in_eN {h : Hq} {x : Nat} {l : List Nat} : dInA (.int (x : Nat)) (eN l) h = .ok (.bl (decide (x ∈ l))) h := by
  have e1 : toP h 60 (.int (x : Nat)) = some (.int (x : Nat)) := toP_int
  simp only [dInA, e1, toP_eN60, any_ints]
theorem add_lN {h : Hq} {r q : Nat} {a b : List Nat} (e1 : h[r]? = some (lN a)) (e2 : h[q]? = some (lN b)) (hl : (a ++ b).length ≤ 1000000) : dAdd (.ref r) (.ref q) h = .ok (.ref h.length) (h ++ [lN (a ++ b)]) := by
  rw [add_list (show h[r]? = some (.lst _) from e1) (show h[q]? = some (.lst _) from e2) (by simpa using hl)]
  simp only [lN, List.map_append]
theorem tuple_lN {h : Hq} {r : Nat} {l : List Nat} (e : h[r]? = some (lN l)) : dTuple [.ref r] h = .ok (eN l) h := by
  simp only [dTuple, itemsD, show h[r]? = some (.lst (l.map fun n => D.int (n : Nat))) from e]
  rfl
theorem list_eN {h : Hq} {l : List Nat} (hl : l.length ≤ 1000) : dList [eN l] h = .ok (.ref h.length) (h ++ [lN l]) := by
  simp only [dList, itemsD, eN]
  rw [newL_ok (by rw [List.length_map]; omega)]
  rfl
theorem index_lN {h : Hq} {r x : Nat} {l : List Nat} (e : h[r]? = some (lN l)) (hx : x ∈ l) : dIndexL (.ref r) [.int (x : Nat)] h = .ok (.int (l.idxOf x : Nat)) h := by
  have e2 : toP h 60 (.ref r) = _ := toP_lN (k := 59) e
  simp only [dIndexL, e2, toP_int, find_ints hx]
theorem mul_tup {h : Hq} {d : D} {k : Nat} (k2 : 2 ≤ k) (k3 : k ≤ 1000) : dMulB (.tup [d]) (.int (k : Nat)) h = .ok (.tup (List.replicate k d)) h := by
  show (if ((k : Nat) : Int) = 1 then _ else if ((k : Nat) : Int) = 0 ∧ _ then _ else dMul (.tup [d]) (.int (k : Nat)) h) = _
  rw [if_neg (by omega)]; rw [if_neg (by omega)]
  show (if _ then R.ok (D.tup (List.replicate ((k : Nat) : Int).toNat [d]).flatten) h else .bad) = _
  rw [if_pos ⟨by simp, by omega, by omega, by show 1 ≤ 1000; decide⟩]
  have : ∀ j : Nat, (List.replicate j [d]).flatten = List.replicate j d := fun j => by
    induction j with
    | zero => rfl
    | succ j ih => rw [List.replicate_succ, List.flatten_cons, ih, List.replicate_succ]; rfl
  rw [Int.toNat_natCast, this]
theorem zeros_eq {h : Hq} {n : Nat} (n2 : 2 ≤ n) (n4 : n ≤ 4) : dMulB (.tup [.int 0]) (.int (n : Nat)) h = .ok (eN (List.replicate n 0)) h := by
  rw [mul_tup n2 (by omega)]
  simp only [eN, List.map_replicate]
  rfl
theorem mul_one {h : Hq} {xs : List D} : dMulB (.tup xs) (.int 1) h = .ok (.tup xs) h := rfl
theorem mul_zero {h : Hq} {d : D} : dMulB (.tup [d]) (.int 0) h = .ok (.tup []) h := rfl
theorem mul_list {h : Hq} {r k : Nat} {d : D} (e : h[r]? = some (.lst [d])) (hk : k ≤ 1000) : dMulB (.ref r) (.int (k : Nat)) h = .ok (.ref h.length) (h ++ [.lst (List.replicate k d)]) := by
  show dMul (.ref r) (.int (k : Nat)) h = _
  simp only [dMul, e]
  rw [if_pos ⟨by omega, by omega, by show 1 ≤ 1000; decide⟩]
  have : ∀ j : Nat, (List.replicate j [d]).flatten = List.replicate j d := fun j => by
    induction j with
    | zero => rfl
    | succ j ih => rw [List.replicate_succ, List.flatten_cons, ih, List.replicate_succ]; rfl
  rw [Int.toNat_natCast, this, newL_ok (by rw [List.length_replicate]; omega)]
theorem fl_zeros {n fl : Nat} (hf : 1 ≤ fl) : FlN n fl (List.replicate n 0) := ⟨List.length_replicate, fun x hx => by rw [List.eq_of_mem_replicate hx]; omega⟩
theorem app_app (h : Hq) (a b : List Ob) : h ++ a ++ b = h ++ (a ++ b) := List.append_assoc h a b
theorem insert_nums {h : Hq} {r x k : Nat} {l : List Nat} (e : h[r]? = some (lN l)) (hl : l.length ≤ 1000) (hk : k ≤ 1000) : dInsert (.ref r) [.int (k : Nat), .int (x : Nat)] h = .ok .non (h.set r (lN (l.take k ++ [x] ++ l.drop k))) := by
  have e' : h[r]? = some (.lst (l.map fun n => D.int (n : Nat))) := e
  unfold dInsert
  simp only [e']
  rw [if_pos ⟨by rw [List.length_map]; omega, by omega, by omega⟩, Int.toNat_natCast]
  simp only [lN, List.map_append, List.map_take, List.map_drop, List.map_cons, List.map_nil]

end G2
end

section
set_option Elab.async false
set_option linter.all false
set_option maxRecDepth 100000
set_option maxHeartbeats 2100000
namespace G2
open PySem PySem.Spec L2 Mach
/-! ### comprehensions that only read -/
theorem comp_val {gi : GI} {t : Tg} {vs : List Nat} {cs : GT} {elt : GE} {lo : Lo} {h h1 : Hq} {ds : List D} (c : D → Bool) (g : D → D) (hg : gi lo h = .ok (.fix ds) h1) (hz : ds.length ≤ 1000000)
    (hstep : ∀ d ∈ ds, ∃ lo1, t.f d (wipeLo lo vs) = some lo1 ∧ ∀ acc, cs lo1 (h1 ++ [.lst acc]) = .ok (c d) (h1 ++ [.lst acc]) ∧ (c d = true → elt lo1 (h1 ++ [.lst acc]) = .ok (g d) (h1 ++ [.lst acc]))) :
    gComp gi t vs cs elt lo h = .ok (.ref h1.length) (h1 ++ [.lst ((ds.filter c).map g)]) := by
  have key : RO (gComp (fun _ _ => .ok (.fix ds) h1) t vs cs elt lo h1) fun d h2 => d = .ref h1.length ∧ h2 = h1 ++ [.lst ((ds.filter c).map g)] := by
    rw [gComp_eq (h := h1) rfl]
    exact comp_pure c g hz hstep ⟨rfl, rfl⟩
  obtain ⟨d, h2, e, rfl, rfl⟩ := key.get
  rw [← e]
  unfold gComp
  rw [hg]
theorem compL_lst {t : Tg} {cs : GT} {elt : GE} {lo : Lo} {h : Hq} {ds : List D} {r : Nat} (c : D → Bool) (g : D → D) (hr : h[r]? = some (.lst ds))
    (hstep : ∀ d ∈ ds, ∃ lo1, t.f d lo = some lo1 ∧ ∀ acc, cs lo1 (h ++ [.lst acc]) = .ok (c d) (h ++ [.lst acc]) ∧ (c d = true → elt lo1 (h ++ [.lst acc]) = .ok (g d) (h ++ [.lst acc]))) :
    ∀ n i acc, i + n = ds.length → compL (.lst r) t cs elt h.length n i lo (h ++ [.lst acc]) = compL (.fix ds) t cs elt h.length n i lo (h ++ [.lst acc])
  | 0, i, acc, e => by
    unfold compL
    simp only [Src.at, app_get hr]
  | n + 1, i, acc, e => by
    have hi : i < ds.length := by omega
    have ei := List.getElem?_eq_getElem hi
    obtain ⟨lo1, e1, e2⟩ := hstep ds[i] (List.getElem_mem hi)
    obtain ⟨e3, e4⟩ := e2 acc
    unfold compL
    simp only [Src.at, app_get hr, ei, e1, e3, calm_ok, bind_ok]
    cases hc : c ds[i] with
    | false => simp only [Bool.false_eq_true, if_false]; exact compL_lst c g hr hstep n (i + 1) acc (by omega)
    | true =>
      simp only [if_true, e4 hc, calm_ok, bind_ok, last_get, last_set]
      split
      · exact compL_lst c g hr hstep n (i + 1) _ (by omega)
      · rfl
theorem comp_val_lst {gi : GI} {t : Tg} {vs : List Nat} {cs : GT} {elt : GE} {lo : Lo} {h h1 : Hq} {ds : List D} {r : Nat} (c : D → Bool) (g : D → D) (hg : gi lo h = .ok (.lst r) h1) (hr : h1[r]? = some (.lst ds)) (hz : ds.length ≤ 1000000)
    (hstep : ∀ d ∈ ds, ∃ lo1, t.f d (wipeLo lo vs) = some lo1 ∧ ∀ acc, cs lo1 (h1 ++ [.lst acc]) = .ok (c d) (h1 ++ [.lst acc]) ∧ (c d = true → elt lo1 (h1 ++ [.lst acc]) = .ok (g d) (h1 ++ [.lst acc]))) :
    gComp gi t vs cs elt lo h = .ok (.ref h1.length) (h1 ++ [.lst ((ds.filter c).map g)]) := by
  rw [← comp_val (gi := fun _ _ => .ok (.fix ds) h1) (h := h1) c g rfl hz hstep]
  unfold gComp
  rw [hg]
  simp only [bind_ok, Src.cnt, hr]
  rw [compL_lst c g hr hstep ds.length 0 [] (by omega)]
theorem ret_seq {b : GS} {e : GE} {lo : Lo} {h h1 : Hq} {d : D} {N : Lo → Hq → Prop} {T : D → Hq → Prop} (he : e lo h = .ok d h1) (k : T d h1) : SO (sSeq (sRet e) b lo h) N T := by
  unfold sSeq sRet
  rw [he]
  show SO ((SR.rt d h1).seq b) N T
  rw [SO_seq, SO_rt]
  exact k
/-- a test that fails, and what follows it -/
theorem skip_if {c : GT} {a b : GS} {lo : Lo} {h h1 : Hq} {N : Lo → Hq → Prop} {T : D → Hq → Prop} (hc : c lo h = .ok false h1) (hb : SO (b lo h1) N T) : SO (sSeq (sIf c a sNil) b lo h) N T := if_false_step hc hb
theorem par2_of {i j : Nat} {a b : GE} {lo : Lo} {h h1 h2 : Hq} {x y : D} {N : Lo → Hq → Prop} {T : D → Hq → Prop} (ha : a lo h = .ok x h1) (hb : b lo h1 = .ok y h2) (k : N ((lo.set i (some x)).set j (some y)) h2) : SO (sPar2 i j a b lo h) N T :=
  par2_ro (Q := fun u v g => u = x ∧ v = y ∧ g = h2) (RO_of ha (RO_of hb ⟨rfl, rfl, rfl⟩)) (by rintro _ _ _ ⟨rfl, rfl, rfl⟩; exact k)
theorem toP_two {h : Hq} {a b : D} {p q : PyData} (ea : toP h 59 a = some p) (eb : toP h 59 b = some q) : toP h 60 (.tup [a, b]) = some (.tuple [p, q]) := by
  show (List.mapM (toP h 59) [a, b]).map _ = _
  rw [List.mapM_cons, List.mapM_cons, List.mapM_nil, ea, eb]
  rfl

end G2
end

section
set_option Elab.async false
set_option linter.all false
set_option maxRecDepth 100000
set_option maxHeartbeats 2100000
namespace G2
open PySem PySem.Spec L2 Mach
/-! ### the named rules in plain numbers -/
def toN (w : Str) (k : Nat) : Nat := if w = "front" then 0 else if w = "ahead" then k - 1 else if w = "half" then k / 2 else k
def namedT (w : Str) (n : Nat) : List (List (Nat × Nat)) := (List.range n).map fun k => if w = "second" then [(k, 1), (0, 0)] else [(toN w k, 0)]
def flOf (w : Str) : Nat := if w = "second" then 2 else 1
theorem five_cases {w : Str} (hw : w ∈ five) : w = "front" ∨ w = "ahead" ∨ w = "still" ∨ w = "half" ∨ w = "second" := by
  simpa only [five, List.mem_cons, List.not_mem_nil, or_false] using hw
theorem entry_named {w : Str} (hw : w ∈ five) (k : Nat) : entryD w (k : Nat) = eRow (if w = "second" then [(k, 1), (0, 0)] else [(toN w k, 0)]) := by
  rcases five_cases hw with rfl | rfl | rfl | rfl | rfl
  · rfl
  · have e1 : entryD "ahead" (k : Nat) = .tup [.tup [.int (if (k : Int) - 1 > 0 then (k : Int) - 1 else 0), .int 0]] := rfl
    have e2 : eRow (if ("ahead" : Str) = "second" then [(k, 1), (0, 0)] else [(toN "ahead" k, 0)]) = .tup [.tup [.int ((k - 1 : Nat) : Int), .int 0]] := rfl
    rw [e1, e2]
    have : (if (k : Int) - 1 > 0 then (k : Int) - 1 else 0) = ((k - 1 : Nat) : Int) := by split <;> omega
    rw [this]
  · rfl
  · rfl
  · rfl
theorem named_plain {w : Str} (hw : w ∈ five) (n : Nat) : namedD w n = eR n (flOf w) (namedT w n) := by
  unfold namedD eR namedT
  rw [List.map_map]
  have e1 : (.int (if (w == ("second" : Str)) = true then 2 else 1) : D) = .int (flOf w : Nat) := by
    rcases five_cases hw with rfl | rfl | rfl | rfl | rfl <;> rfl
  rw [e1]
  exact congrArg (fun l => D.tup [.int (n : Nat), .int (flOf w : Nat), .tup l]) (List.map_congr_left fun k _ => entry_named hw k)
theorem named_tb {w : Str} (hw : w ∈ five) {n : Nat} (n2 : 2 ≤ n) (n4 : n ≤ 4) : TbN n (flOf w) (namedT w n) := by
  refine ⟨n2, n4, ?_, ?_, by simp [namedT], fun k row e => ?_⟩
  · rcases five_cases hw with rfl | rfl | rfl | rfl | rfl <;> decide
  · rcases five_cases hw with rfl | rfl | rfl | rfl | rfl <;> decide
  · unfold namedT at e
    rw [List.getElem?_map] at e
    obtain ⟨j, ej, rfl⟩ := Option.map_eq_some_iff.mp e
    have hk : j = k := by
      have := (List.getElem?_eq_some_iff.mp ej).2
      rw [List.getElem_range] at this
      exact this.symm
    subst hk
    rcases five_cases hw with rfl | rfl | rfl | rfl | rfl
    · exact ⟨rfl, fun e he => by rw [List.mem_singleton.mp he]; exact ⟨Nat.zero_le _, Nat.lt_succ_self _⟩⟩
    · exact ⟨rfl, fun e he => by rw [List.mem_singleton.mp he]; exact ⟨Nat.sub_le _ _, Nat.lt_succ_self _⟩⟩
    · exact ⟨rfl, fun e he => by rw [List.mem_singleton.mp he]; exact ⟨Nat.le_refl _, Nat.lt_succ_self _⟩⟩
    · exact ⟨rfl, fun e he => by rw [List.mem_singleton.mp he]; exact ⟨Nat.div_le_self _ _, Nat.lt_succ_self _⟩⟩
    · refine ⟨rfl, fun e he => ?_⟩
      rcases (List.mem_cons).mp he with rfl | he
      · exact ⟨Nat.le_refl _, Nat.lt_succ_self _⟩
      · rw [List.mem_singleton.mp he]; exact ⟨Nat.zero_le _, by decide⟩

end G2
end

section
set_option Elab.async false
set_option linter.all false
set_option maxRecDepth 100000
set_option maxHeartbeats 2100000
namespace G2
open PySem PySem.Spec L2 Mach
/-! ### the law's own look at orders and standings agrees with the program's, whatever is asked -/
theorem uniq_short : ∀ l : List Int, (uniq l).length ≤ l.length
  | [] => Nat.le_refl _
  | a :: l => by
    unfold uniq
    have ih := uniq_short l
    split
    · rw [List.length_cons]; omega
    · rw [List.length_cons, List.length_cons]; omega
theorem nodup_of_uniq : ∀ {l : List Int}, (uniq l).length = l.length → l.Nodup
  | [], _ => List.nodup_nil
  | a :: l, e => by
    unfold uniq at e
    have ih := uniq_short l
    split at e
    · rw [List.length_cons] at e; omega
    · rename_i ha
      rw [List.length_cons, List.length_cons] at e
      exact List.nodup_cons.mpr ⟨ha, nodup_of_uniq (by omega)⟩
def pOf (h : Hq) (d : D) : PyData := (toP h 60 d).getD .none
def onceB (h : Hq) (n : Int) (qs : List PyData) (d : D) : Bool := betw 0 (n - 1) d && decide (((qs.countP fun z => PyData.eqv z (pOf h d) : Nat) : Int) = 1)
theorem toPs_int {h : Hq} {k : Nat} : ∀ ns : List Int, (ns.map D.int).mapM (toP h k) = some (ns.map PyData.int)
  | [] => rfl
  | a :: l => by
    rw [List.map_cons, List.mapM_cons, toP_int, toPs_int l]
    rfl
theorem count_ints {i : Int} : ∀ ns : List Int, (ns.map PyData.int).countP (fun z => PyData.eqv z (.int i)) = ns.count i
  | [] => rfl
  | a :: l => by
    rw [List.map_cons, List.countP_cons, count_ints l, eqv_int, List.count_cons]
    by_cases e : a = i
    · simp [e]
    · simp [e]
theorem ord_once {h : Hq} {n : Int} {ds : List D} {qs : List PyData} (eq : ds.mapM (toP h 59) = some qs) (hl : (ds.length : Int) = n) : decide (((ds.filter (onceB h n qs)).length : Int) = n) = ordB n (.tup ds) := by
  have e1 : decide (((ds.filter (onceB h n qs)).length : Int) = n) = ds.all (onceB h n qs) := by
    rw [Bool.eq_iff_iff, decide_eq_true_eq, List.all_eq_true, ← List.length_filter_eq_length_iff]
    omega
  rw [e1, ordB_tup, decide_eq_true hl, Bool.and_true]
  by_cases ha : allB n (.tup ds) = true
  · rw [ha, Bool.true_and]
    obtain ⟨ns, rfl, em⟩ := all_ints (show ds.all (betw 0 (n - 1)) = true from ha)
    rw [toPs_int] at eq
    have eq := Option.some.inj eq
    subst eq
    rw [em]
    rw [List.length_map] at hl
    have ha' : ∀ d ∈ ns.map D.int, betw 0 (n - 1) d = true := List.all_eq_true.mp (show (ns.map D.int).all (betw 0 (n - 1)) = true from ha)
    rw [Bool.eq_iff_iff, List.all_eq_true]
    show _ ↔ decide (((uniq ns).length : Int) = n) = true
    rw [decide_eq_true_eq]
    constructor
    · intro k
      have nd : ns.Nodup := by
        rw [List.nodup_iff_count]
        intro i
        by_cases hi : i ∈ ns
        · have := k (.int i) (List.mem_map.mpr ⟨i, hi, rfl⟩)
          unfold onceB pOf at this
          rw [toP_int, Bool.and_eq_true, decide_eq_true_eq] at this
          simp only [Option.getD_some, count_ints] at this
          omega
        · rw [List.count_eq_zero_of_not_mem hi]; omega
      rw [uniq_of_nodup nd]; exact hl
    · intro e d hd
      have nd : ns.Nodup := nodup_of_uniq (by omega)
      obtain ⟨i, hi, rfl⟩ := List.mem_map.mp hd
      unfold onceB pOf
      rw [toP_int, ha' _ hd, Bool.true_and, decide_eq_true_eq]
      simp only [Option.getD_some, count_ints]
      have c1 := List.nodup_iff_count.mp nd i
      have c2 := List.count_pos_iff.mpr hi
      omega
  · simp only [Bool.not_eq_true] at ha
    rw [ha, Bool.false_and, List.all_eq_false]
    have : ∃ d ∈ ds, ¬ betw 0 (n - 1) d = true := List.all_eq_false.mp (show ds.all (betw 0 (n - 1)) = false from ha)
    obtain ⟨d, hd, hb⟩ := this
    exact ⟨d, hd, by unfold onceB; rw [Bool.and_eq_true]; exact fun z => hb z.1⟩
/-- a standing, as the law itself looks at it -/
theorem dNe_lst {h : Hq} {r q : Nat} {l : List D} (hr : h[r]? = some (Ob.lst l)) (hs : h[q]? = some (Ob.lst [])) (hl : ∀ x ∈ l, Pn h x) : dEqB (.ref r) (.ref q) h = .ok (.bl l.isEmpty) h := by
  obtain ⟨m, hm⟩ := mapM_all (f := toP h 59) (fun x hx => (hl x hx).up (by omega))
  have hz := mapM_len hm
  have e1 : toP h 60 (.ref r) = some (.list m) := by simp only [toP, hr, hm, Option.map_some]
  have e2 : toP h 60 (.ref q) = some (.list []) := by simp only [toP, hs, List.mapM_nil]; rfl
  simp only [dEqB, dEq, e1, e2]
  cases l with
  | nil =>
    have : m = [] := List.eq_nil_of_length_eq_zero hz
    subst this; rfl
  | cons a l => cases m with
    | nil => simp at hz
    | cons b m => simp [PyData.eqv]; rfl
end G2
end

section
set_option Elab.async false
set_option linter.all false
set_option maxRecDepth 100000
set_option maxHeartbeats 2100000
namespace G2
open PySem PySem.Spec L2 Mach
/-! ### what the law draws -/
theorem all_nats {n : Nat} : ∀ {acc : List D}, (∀ y ∈ acc, ∃ x : Nat, y = .int x ∧ x < n) → ∃ a : List Nat, acc = (a.map fun n => D.int (n : Nat)) ∧ ∀ x ∈ a, x < n
  | [], _ => ⟨[], rfl, fun x hx => by cases hx⟩
  | y :: acc, k => by
    obtain ⟨x, rfl, hx⟩ := k y (by simp)
    obtain ⟨a, rfl, ha⟩ := all_nats fun z hz => k z (List.mem_cons_of_mem _ hz)
    refine ⟨x :: a, rfl, fun z hz => ?_⟩
    rcases (List.mem_cons).mp hz with rfl | hz
    · exact hx
    · exact ha z hz
theorem all_pairs {k fl : Nat} : ∀ {acc : List D}, (∀ y ∈ acc, ∃ e : Nat × Nat, y = .tup [.int (e.1 : Nat), .int (e.2 : Nat)] ∧ e.1 ≤ k ∧ e.2 < fl) → ∃ row : List (Nat × Nat), .tup acc = eRow row ∧ row.length = acc.length ∧ ∀ e ∈ row, e.1 ≤ k ∧ e.2 < fl
  | [], _ => ⟨[], rfl, rfl, fun x hx => by cases hx⟩
  | y :: acc, q => by
    obtain ⟨e, rfl, he⟩ := q y (by simp)
    obtain ⟨row, e1, e2, e3⟩ := all_pairs fun z hz => q z (List.mem_cons_of_mem _ hz)
    refine ⟨e :: row, ?_, by rw [List.length_cons, List.length_cons, e2], fun z hz => ?_⟩
    · unfold eRow at e1 ⊢
      have := D.tup.inj e1
      rw [this]
      rfl
    · rcases (List.mem_cons).mp hz with rfl | hz
      · exact he
      · exact e3 z hz
section
variable {n fl p c : Nat} {A : Int} {h : Hq} {tb : List (List (Nat × Nat))}
end
end G2
end

section
set_option Elab.async false
set_option linter.all false
set_option maxRecDepth 100000
set_option maxHeartbeats 2100000
namespace G2
open PySem PySem.Spec L2 Mach
/-! ### the law's own asks -/
section
variable {h : Hq} {n fl x : Nat} {tb : List (List (Nat × Nat))} {s : List Nat × List Nat}
theorem ask_place (T : TbN n fl tb) (O : OrdN n s.1) (F : FlN n fl s.2) (hx : x < n) : (s.1.eraseIdx (s.1.idxOf x)).take (entOf tb s x).1 ++ [x] ++ (s.1.eraseIdx (s.1.idxOf x)).drop (entOf tb s x).1 = (askM tb s x).2.1 := by
  obtain ⟨_, _, _, _, _, hp, _⟩ := entOf_at T O F hx
  have hm := O.mem hx
  have hd := List.idxOf_lt_length_of_mem hm
  have e1 : (s.1.drop (s.1.idxOf x)).take 1 = [x] := by
    rw [List.drop_eq_getElem_cons hd, List.getElem_idxOf hd]
    rfl
  show _ = shf s.1 (s.1.idxOf x) (entOf tb s x).1
  unfold shf
  rw [e1, List.eraseIdx_eq_take_drop_succ]
  have hz : (s.1.take (s.1.idxOf x)).length = s.1.idxOf x := by rw [List.length_take]; omega
  rw [List.take_append_of_le_length (by omega), List.drop_append_of_le_length (by omega), List.take_take, Nat.min_eq_left hp, show (s.1.drop (entOf tb s x).1).take (s.1.idxOf x - (entOf tb s x).1) = (s.1.take (s.1.idxOf x)).drop (entOf tb s x).1 by rw [List.drop_take], List.append_assoc (_ ++ [x])]
theorem put_ints_at {h : Hq} {r : Nat} {ns : List Nat} {i v : Nat} (e : h[r]? = some (lN ns)) : h.set r (.lst ((ns.map fun n => D.int (n : Nat)).set i (.int (v : Nat)))) = h.set r (lN (ns.set i v)) := by
  unfold lN
  rw [List.map_set]
end

end G2
end

section
set_option Elab.async false
set_option linter.all false
set_option maxRecDepth 100000
set_option maxHeartbeats 2100000
namespace G2
open PySem PySem.Spec L2 Mach
/-! ### one ask; what a store tells -/
section
variable {h : Hq} {n fl x r q : Nat} {tb : List (List (Nat × Nat))} {s : List Nat × List Nat} {rule : D} {past : List D}
end
/-- all rows of flags -/
def flagRows (fl : Nat) : Nat → List (List Nat)
  | 0 => [[]]
  | k + 1 => (flagRows fl k).flatMap fun row => (List.range fl).map fun f => row ++ [f]

end G2
end

section
set_option Elab.async false
set_option linter.all false
set_option maxRecDepth 100000
set_option maxHeartbeats 2100000
namespace G2
open PySem PySem.Spec L2 Mach
/-! ### comprehensions of two clauses that only read -/
theorem compL_val {t : Tg} {cs : GT} {elt : GE} {lo : Lo} {h : Hq} {es : List D} (g : D → D)
    (step : ∀ d ∈ es, ∃ lo1, t.f d lo = some lo1 ∧ ∀ acc, cs lo1 (h ++ [.lst acc]) = .ok true (h ++ [.lst acc]) ∧ elt lo1 (h ++ [.lst acc]) = .ok (g d) (h ++ [.lst acc])) :
    ∀ n i acc, i + n = es.length → acc.length + n ≤ 1000000 → compL (.fix es) t cs elt h.length n i lo (h ++ [.lst acc]) = .ok () (h ++ [.lst (acc ++ (es.drop i).map g)])
  | 0, i, acc, e, _ => by
    have e1 : es[i]? = none := List.getElem?_eq_none_iff.mpr (by omega)
    have e2 : es.drop i = [] := List.drop_eq_nil_of_le (by omega)
    unfold compL
    simp only [Src.at, e1, e2, List.map_nil, List.append_nil]
  | n + 1, i, acc, e, hl => by
    have hi : i < es.length := by omega
    have e1 := List.getElem?_eq_getElem hi
    obtain ⟨lo1, e2, k⟩ := step es[i] (List.getElem_mem hi)
    obtain ⟨e3, e4⟩ := k acc
    unfold compL
    simp only [Src.at, e1, e2, e3, e4, calm_ok, bind_ok, if_true, last_get, last_set]
    rw [if_pos (by omega), compL_val g step n (i + 1) (acc ++ [g es[i]]) (by omega) (by rw [List.length_append]; show acc.length + 1 + n ≤ 1000000; omega), List.drop_eq_getElem_cons hi, List.map_cons, List.append_assoc]
    rfl
theorem compL2_val {src : Src} {t t1 : Tg} {cs cs1 : GT} {gi1 : GI} {vs1 : List Nat} {elt : GE} {lo : Lo} {h : Hq} {ds : List D} (f : D → List D)
    (at1 : ∀ i acc, src.at i (h ++ [.lst acc]) = some ds[i]?)
    (step : ∀ d ∈ ds, ∃ lo1, t.f d lo = some lo1 ∧ ∀ acc, cs lo1 (h ++ [.lst acc]) = .ok true (h ++ [.lst acc]) ∧ (acc.length ≤ 100000 → ∃ src1, gi1 lo1 (h ++ [.lst acc]) = .ok src1 (h ++ [.lst acc]) ∧
      compL src1 t1 cs1 elt h.length (src1.cnt (h ++ [.lst acc])) 0 (wipeLo lo1 vs1) (h ++ [.lst acc]) = .ok () (h ++ [.lst (acc ++ f d)]))) :
    ∀ n i acc, i + n = ds.length → (acc ++ (ds.drop i).flatMap f).length ≤ 100000 → compL2 src t cs gi1 t1 vs1 cs1 elt h.length n i lo (h ++ [.lst acc]) = .ok () (h ++ [.lst (acc ++ (ds.drop i).flatMap f)])
  | 0, i, acc, e, _ => by
    have e1 : ds[i]? = none := List.getElem?_eq_none_iff.mpr (by omega)
    have e2 : ds.drop i = [] := List.drop_eq_nil_of_le (by omega)
    unfold compL2
    simp only [at1, e1, e2, List.flatMap_nil, List.append_nil]
  | n + 1, i, acc, e, hl => by
    have hi : i < ds.length := by omega
    have e1 := List.getElem?_eq_getElem hi
    obtain ⟨lo1, e2, k⟩ := step ds[i] (List.getElem_mem hi)
    obtain ⟨e3, k⟩ := k acc
    rw [List.drop_eq_getElem_cons hi, List.flatMap_cons] at hl ⊢
    obtain ⟨src1, e4, e5⟩ := k (by rw [List.length_append] at hl; omega)
    unfold compL2
    simp only [at1, e1, e2, e3, e4, e5, calm_ok, bind_ok, if_true]
    rw [compL2_val f at1 step n (i + 1) (acc ++ f ds[i]) (by omega) (by rw [List.append_assoc]; exact hl), List.append_assoc]
/-- a comprehension of two clauses, the first over a list at r or over fixed items -/
theorem comp2_val {gi gi1 : GI} {src : Src} {t t1 : Tg} {vs vs1 : List Nat} {cs cs1 : GT} {elt : GE} {lo : Lo} {h h1 : Hq} {ds : List D} (f : D → List D) (hg : gi lo h = .ok src h1) (hc : src.cnt h1 = ds.length)
    (at1 : ∀ i acc, src.at i (h1 ++ [.lst acc]) = some ds[i]?) (hz : (ds.flatMap f).length ≤ 100000)
    (step : ∀ d ∈ ds, ∃ lo1, t.f d (wipeLo lo vs) = some lo1 ∧ ∀ acc, cs lo1 (h1 ++ [.lst acc]) = .ok true (h1 ++ [.lst acc]) ∧ (acc.length ≤ 100000 → ∃ src1, gi1 lo1 (h1 ++ [.lst acc]) = .ok src1 (h1 ++ [.lst acc]) ∧
      compL src1 t1 cs1 elt h1.length (src1.cnt (h1 ++ [.lst acc])) 0 (wipeLo lo1 vs1) (h1 ++ [.lst acc]) = .ok () (h1 ++ [.lst (acc ++ f d)]))) :
    gComp2 gi t vs cs gi1 t1 vs1 cs1 elt lo h = .ok (.ref h1.length) (h1 ++ [.lst (ds.flatMap f)]) := by
  unfold gComp2
  rw [hg]
  simp only [bind_ok, hc]
  rw [compL2_val f at1 step ds.length 0 [] (by omega) (by simpa using hz)]
  simp only [bind_ok, List.drop_zero, List.nil_append]

end G2
end

section
set_option Elab.async false
set_option linter.all false
set_option maxRecDepth 100000
set_option maxHeartbeats 2100000
namespace G2
open PySem PySem.Spec L2 Mach
/-! ### all rows of flags, as the program makes them -/
def moreF (fl : Nat) : D → List D
  | .tup xs => (List.range fl).map fun k => .tup (xs ++ [.int (k : Nat)])
  | _ => []
theorem more_rows (fl k : Nat) : ((flagRows fl k).map eN).flatMap (moreF fl) = (flagRows fl (k + 1)).map eN := by
  show ((flagRows fl k).map eN).flatMap (moreF fl) = ((flagRows fl k).flatMap fun row => (List.range fl).map fun f => row ++ [f]).map eN
  rw [List.flatMap_map, List.map_flatMap]
  refine congrArg (fun z : List Nat → List D => (flagRows fl k).flatMap z) (funext fun row => ?_)
  show (List.range fl).map _ = _
  rw [List.map_map]
  refine List.map_congr_left fun f _ => ?_
  show D.tup ((row.map fun n => D.int (n : Nat)) ++ [.int (f : Nat)]) = eN (row ++ [f])
  unfold eN
  rw [List.map_append]
  rfl
theorem rows_len {fl : Nat} (f2 : fl ≤ 2) : ∀ k, (flagRows fl k).length ≤ 2 ^ k
  | 0 => Nat.le_refl 1
  | k + 1 => by
    have ih := rows_len f2 k
    have step : ∀ l : List (List Nat), (l.flatMap fun row => (List.range fl).map fun f => row ++ [f]).length ≤ 2 * l.length := fun l => by
      induction l with
      | nil => exact Nat.le_refl _
      | cons a l ih =>
        rw [List.flatMap_cons, List.length_append, List.length_map, List.length_range, List.length_cons]
        omega
    have s := step (flagRows fl k)
    rw [Nat.pow_succ]
    show ((flagRows fl k).flatMap fun row => (List.range fl).map fun f => row ++ [f]).length ≤ _
    omega
theorem rows_each {fl : Nat} : ∀ k, ∀ row ∈ flagRows fl k, row.length = k
  | 0, row, h => by rw [List.mem_singleton.mp h]; rfl
  | k + 1, row, h => by
    obtain ⟨a, ha, hr⟩ := List.mem_flatMap.mp (show row ∈ (flagRows fl k).flatMap fun row => (List.range fl).map fun f => row ++ [f] from h)
    obtain ⟨f, _, rfl⟩ := List.mem_map.mp hr
    rw [List.length_append, rows_each k a ha]
    rfl
end G2
end

section
set_option Elab.async false
set_option linter.all false
set_option maxRecDepth 100000
set_option maxHeartbeats 2100000
namespace G2
open PySem PySem.Spec L2 Mach
/-- the objects that no value of the law may reach; the pen at q is one of them -/
class Exq (ex : Nat → Bool) (q : Nat) : Prop where
  out : ex q = true
def Fresh (ex : Nat → Bool) (h : Hq) : Prop := ∀ r, h.length ≤ r → ex r = false
theorem Fresh.of {ex : Nat → Bool} {h h' : Hq} (f : Fresh ex h) (l : h.length ≤ h'.length) : Fresh ex h' := fun r hr => f r (Nat.le_trans l hr)
theorem Exq.ne {ex : Nat → Bool} {q r : Nat} (e : Exq ex q) (hr : ex r = false) : r ≠ q := fun z => by rw [z, e.out] at hr; cases hr
/-! ### values of the law: how large they are -/
/-- the leaves below B, no way to the pen at p; how many parts -/
def sz (p : Nat → Bool) (B : Nat) (h : Hq) : Nat → D → Option Nat
  | _, .non => some 1
  | _, .bl _ => some 1
  | _, .int i => if i.natAbs ≤ B then some 1 else none
  | _, .str s => if s.length ≤ 20 ∧ PyData.strOk s = true then some 21 else none
  | n + 1, .tup ds => (ds.mapM (sz p B h n)).map fun l => l.sum + 1
  | n + 1, .ref r => if p r = true then none else match h[r]? with
    | some (.lst ds) => (ds.mapM (sz p B h n)).map fun l => l.sum + 1
    | _ => none
  | _, _ => none
def Fv (p : Nat → Bool) (B : Nat) (h : Hq) (n w : Nat) (d : D) : Prop := ∃ k, sz p B h n d = some k ∧ k ≤ w
theorem sz_tup {p : Nat → Bool} {B : Nat} {h : Hq} {n : Nat} {ds : List D} {k : Nat} : sz p B h (n + 1) (.tup ds) = some k ↔ ∃ l, ds.mapM (sz p B h n) = some l ∧ k = l.sum + 1 := by
  simp only [sz, Option.map_eq_some_iff]
  constructor
  · rintro ⟨l, e, rfl⟩; exact ⟨l, e, rfl⟩
  · rintro ⟨l, e, rfl⟩; exact ⟨l, e, rfl⟩
theorem sz_keep {p : Nat → Bool} {q : Nat} [hx : Exq p q] {B B' : Nat} {h h' : Hq} (hB : B ≤ B') (F : Fr q h h') : ∀ n m d k, n ≤ m → sz p B h n d = some k → sz p B' h' m d = some k
  | n, m, .non, k, _, e => by cases n <;> cases m <;> exact e
  | n, m, .bl b, k, _, e => by cases n <;> cases m <;> exact e
  | n, m, .int i, k, _, e => by
    have e : (if i.natAbs ≤ B then some 1 else none) = some k := by cases n <;> exact e
    have : i.natAbs ≤ B := by
      by_cases hi : i.natAbs ≤ B
      · exact hi
      · rw [if_neg hi] at e; cases e
    rw [if_pos this] at e
    have : (if i.natAbs ≤ B' then some 1 else none) = some k := by rw [if_pos (by omega)]; exact e
    cases m <;> exact this
  | n, m, .str s, k, _, e => by cases n <;> cases m <;> exact e
  | n, m, .ty t, k, _, e => by cases n <;> simp [sz] at e
  | n, m, .cls t, k, _, e => by cases n <;> simp [sz] at e
  | n, m, .rol t, k, _, e => by cases n <;> simp [sz] at e
  | 0, m, .tup ds, k, _, e => by simp [sz] at e
  | 0, m, .ref r, k, _, e => by simp [sz] at e
  | n + 1, 0, .tup ds, k, hm, e => by omega
  | n + 1, 0, .ref r, k, hm, e => by omega
  | n + 1, m + 1, .tup ds, k, hm, e => by
    obtain ⟨l, el, rfl⟩ := sz_tup.mp e
    exact sz_tup.mpr ⟨l, mapM_mono (fun x y => sz_keep hB F n m x y (by omega)) el, rfl⟩
  | n + 1, m + 1, .ref r, k, hm, e => by
    simp only [sz] at e ⊢
    split at e
    · cases e
    · rename_i hr
      rw [if_neg hr]
      split at e
      · rename_i ds eo
        rw [(F.old r (hx.ne (by simpa using hr)) (List.getElem?_eq_some_iff.mp eo).1).trans eo]
        simp only
        obtain ⟨l, el, rfl⟩ := Option.map_eq_some_iff.mp e
        rw [mapM_mono (fun x y => sz_keep hB F n m x y (by omega)) el]
        rfl
      · cases e
theorem Fv.keep {p : Nat → Bool} {q : Nat} [hx : Exq p q] {B B' : Nat} {h h' : Hq} {n m w w' : Nat} {d : D} (f : Fv p B h n w d) (hB : B ≤ B') (F : Fr q h h') (hn : n ≤ m) (hw : w ≤ w') : Fv p B' h' m w' d :=
  let ⟨k, e, hk⟩ := f; ⟨k, sz_keep hB F n m d k hn e, Nat.le_trans hk hw⟩
theorem weight_one : ∀ {l : List Nat} {x : Nat}, x ∈ l → x ≤ l.sum
  | a :: l, x, hx => by
    rw [List.sum_cons]
    rcases (List.mem_cons).mp hx with rfl | hx
    · omega
    · have := weight_one hx; omega
theorem leaf_int {i : Int} (hi : i.natAbs ≤ 1000000000000000000000000000000) : (PyData.shown (.int i)).length ≤ 40 := by
  have e := int_text_length_le10 (k := 31) (a := i) (by decide) (by omega)
  show (Str.ofString (toString i)).length ≤ 40
  rw [ofString_length]; omega
theorem sz_data {p : Nat → Bool} {B : Nat} {h : Hq} (hB : B ≤ 1000000000000000000000000000000) : ∀ n d k, sz p B h n d = some k → ∃ q, toP h n d = some q ∧ q.showable = true ∧ q.leavesShort 40 = true ∧ q.bulk + 1 ≤ 2 * k
  | n, .non, k, e => by
    have : k = 1 := by cases n <;> exact (Option.some.inj e).symm
    subst this
    exact ⟨.none, by cases n <;> rfl, rfl, rfl, by decide⟩
  | n, .bl b, k, e => by
    have : k = 1 := by cases n <;> exact (Option.some.inj e).symm
    subst this
    exact ⟨.bool b, by cases n <;> rfl, rfl, rfl, by simp [PyData.bulk]⟩
  | n, .int i, k, e => by
    have e : (if i.natAbs ≤ B then some 1 else none) = some k := by cases n <;> exact e
    split at e
    · rename_i hi
      cases e
      refine ⟨.int i, by cases n <;> rfl, ?_, ?_, by simp [PyData.bulk]⟩
      · simp only [PyData.showable, decide_eq_true_eq]
        by_cases h0 : i.natAbs = 0
        · rw [h0]; decide
        · have : i.natAbs < 2 ^ 200 := Nat.lt_of_le_of_lt (Nat.le_trans hi hB) (by decide)
          have := (Nat.log2_lt h0).mpr this
          omega
      · simp only [PyData.leavesShort, decide_eq_true_eq]
        exact leaf_int (by omega)
    · cases e
  | n, .str s, k, e => by
    have e : (if s.length ≤ 20 ∧ PyData.strOk s = true then some 21 else none) = some k := by cases n <;> exact e
    split at e
    · rename_i hs
      cases e
      refine ⟨.str s, by cases n <;> (simp only [toP]; rw [if_pos hs.2]), rfl, ?_, ?_⟩
      · simp only [PyData.leavesShort, List.all_eq_true, decide_eq_true_eq]
        intro c hc
        have h2 := hs.2
        simp only [PyData.strOk, Array.all_eq_true', decide_eq_true_eq] at h2
        have := h2 c (by simpa using hc)
        omega
      · have h1 := hs.1
        have : s.length = s.cps.size := rfl
        simp only [PyData.bulk]
        omega
    · cases e
  | n, .ty t, k, e => by cases n <;> simp [sz] at e
  | n, .cls t, k, e => by cases n <;> simp [sz] at e
  | n, .rol t, k, e => by cases n <;> simp [sz] at e
  | 0, .tup ds, k, e => by simp [sz] at e
  | 0, .ref r, k, e => by simp [sz] at e
  | n + 1, .tup ds, k, e => by
    obtain ⟨l, el, rfl⟩ := sz_tup.mp e
    obtain ⟨qs, eq, h1, h2, h3⟩ := sz_all (fun d k => sz_data hB n d k) el
    refine ⟨.tuple qs, by simp only [toP, eq, Option.map_some], by simpa only [PyData.showable] using h1, by simpa only [PyData.leavesShort] using h2, ?_⟩
    simp only [PyData.bulk]
    omega
  | n + 1, .ref r, k, e => by
    simp only [sz] at e
    split at e
    · cases e
    · split at e
      · rename_i ds eo
        obtain ⟨l, el, rfl⟩ := Option.map_eq_some_iff.mp e
        obtain ⟨qs, eq, h1, h2, h3⟩ := sz_all (fun d k => sz_data hB n d k) el
        refine ⟨.list qs, by simp only [toP, eo, eq, Option.map_some], by simpa only [PyData.showable] using h1, by simpa only [PyData.leavesShort] using h2, ?_⟩
        simp only [PyData.bulk]
        omega
      · cases e
where
  sz_all {p : Nat → Bool} {B : Nat} {h : Hq} {n : Nat} (ih : ∀ d k, sz p B h n d = some k → ∃ q, toP h n d = some q ∧ q.showable = true ∧ q.leavesShort 40 = true ∧ q.bulk + 1 ≤ 2 * k) : ∀ {ds : List D} {l : List Nat}, ds.mapM (sz p B h n) = some l →
      ∃ qs, ds.mapM (toP h n) = some qs ∧ PyData.showableAll qs = true ∧ PyData.leavesShortAll 40 qs = true ∧ PyData.bulkAll qs ≤ 2 * l.sum
    | [], l, e => by
      simp at e; subst e
      exact ⟨[], rfl, rfl, rfl, by simp [PyData.bulkAll]⟩
    | d :: ds, l, e => by
      rw [List.mapM_cons] at e
      cases h1 : sz p B h n d with
      | none => rw [h1] at e; simp at e
      | some k =>
        rw [h1] at e
        cases h2 : ds.mapM (sz p B h n) with
        | none => rw [h2] at e; simp at e
        | some m =>
          rw [h2] at e
          have e : k :: m = l := by simpa using e
          subst e
          obtain ⟨q, e1, s1, l1, b1⟩ := ih d k h1
          obtain ⟨qs, e2, s2, l2, b2⟩ := sz_all ih h2
          refine ⟨q :: qs, by rw [List.mapM_cons, e1, e2]; rfl, by simp only [PyData.showableAll, s1, s2, Bool.and_self], by simp only [PyData.leavesShortAll, l1, l2, Bool.and_self], ?_⟩
          simp only [PyData.bulkAll, List.sum_cons]
          omega
theorem Fv.plain {p : Nat → Bool} {B : Nat} {h : Hq} {n w : Nat} {d : D} (f : Fv p B h n w d) (hB : B ≤ 1000000000000000000000000000000) (hn : n ≤ 50) : Pn h d :=
  let ⟨k, e, _⟩ := f; let ⟨q, e1, _⟩ := sz_data hB n d k e; ⟨n, hn, q, e1⟩
theorem Fv.repr {p : Nat → Bool} {B : Nat} {h : Hq} {n w : Nat} {d : D} (f : Fv p B h n w d) (hB : B ≤ 1000000000000000000000000000000) (hn : n ≤ 50) (hw : w ≤ 10000) : ∃ s, dRepr [d] h = .ok (.str s) h := by
  obtain ⟨k, e, hk⟩ := f
  obtain ⟨q, e1, h1, h2, h3⟩ := sz_data hB n d k e
  have e2 := toP_fuel n 60 d q (by omega) e1
  have h4 := PyData.shown_le_bulk 40 (by decide) q h2
  refine ⟨q.shown, ?_⟩
  simp only [dRepr, e2]
  rw [if_pos ⟨h1, by omega⟩]

end G2
end

section
set_option Elab.async false
set_option linter.all false
set_option maxRecDepth 100000
set_option maxHeartbeats 2100000
namespace G2
open PySem PySem.Spec L2 Mach
/-! ### lists and tuples alike -/
def IsSq (p : Nat → Bool) (h : Hq) (k : Bool) (d : D) (ds : List D) : Prop := match k with
  | true => d = .tup ds
  | false => ∃ r, d = .ref r ∧ p r = false ∧ h[r]? = some (Ob.lst ds)
theorem IsSq.keep {p : Nat → Bool} {q : Nat} [hx : Exq p q] {h h' : Hq} {k : Bool} {d : D} {ds : List D} (s : IsSq p h k d ds) (F : Fr q h h') : IsSq p h' k d ds := by
  cases k with
  | true => exact s
  | false => obtain ⟨r, e, hr, er⟩ := s; exact ⟨r, e, hr, (F.old r (hx.ne hr) (List.getElem?_eq_some_iff.mp er).1).trans er⟩
theorem IsSq.items {p : Nat → Bool} {h : Hq} {k : Bool} {d : D} {ds : List D} (s : IsSq p h k d ds) : itemsD h d = some ds := by
  cases k with
  | true => rw [show d = .tup ds from s]; rfl
  | false => obtain ⟨r, rfl, hr, er⟩ := s; simp only [itemsD, er]
theorem IsSq.new {p : Nat → Bool} {h : Hq} {ds : List D} (hp : Fresh p h) : IsSq p (h ++ [.lst ds]) false (.ref h.length) ds := ⟨h.length, rfl, hp _ (Nat.le_refl _), last_get h _ []⟩
abbrev Mk (p : Nat → Bool) (h : Hq) (k : Bool) (ds : List D) : D → Hq → Prop := fun d' h' => IsSq p h' k d' ds ∧ ∃ g, h' = h ++ g
theorem newL_mk {p : Nat → Bool} {h : Hq} {ds : List D} (hp : Fresh p h) (hl : ds.length ≤ 1000000) : RO (newL ds h) (Mk p h false ds) := RO_of (newL_ok hl) ⟨.new hp, _, rfl⟩
theorem sl_mk {p : Nat → Bool} {h : Hq} {k : Bool} {d : D} {ds : List D} {lo hi : Option Int} (s : IsSq p h k d ds) (hp : Fresh p h) (hl : ds.length ≤ 1000000) : RO (dSl d lo hi h) (Mk p h k (cut ds lo hi)) := by
  have hc : (cut ds lo hi).length ≤ ds.length := by
    unfold cut
    have h1 := List.length_take_le (HT.sIx ds.length ds.length hi - HT.sIx ds.length 0 lo) (ds.drop (HT.sIx ds.length 0 lo))
    have h2 : (ds.drop (HT.sIx ds.length 0 lo)).length ≤ ds.length := by rw [List.length_drop]; omega
    have h3 := List.length_take (l := ds.drop (HT.sIx ds.length 0 lo)) (i := HT.sIx ds.length ds.length hi - HT.sIx ds.length 0 lo)
    omega
  cases k with
  | true => rw [show d = .tup ds from s]; exact RO_of rfl ⟨rfl, [], by simp⟩
  | false =>
    obtain ⟨r, rfl, hr, er⟩ := s
    simp only [dSl, er]
    exact newL_mk hp (by omega)
theorem add_mk {p : Nat → Bool} {h : Hq} {k : Bool} {x y : D} {xs ys : List D} (s : IsSq p h k x xs) (t : IsSq p h k y ys) (hp : Fresh p h) (hl : (xs ++ ys).length ≤ 1000000) : RO (dAdd x y h) (Mk p h k (xs ++ ys)) := by
  cases k with
  | true => rw [show x = .tup xs from s, show y = .tup ys from t]; exact RO_of (if_pos hl) ⟨rfl, [], by simp⟩
  | false =>
    obtain ⟨r, rfl, hr, er⟩ := s
    obtain ⟨q, rfl, hq, eq⟩ := t
    simp only [dAdd, er, eq]
    exact newL_mk hp hl
theorem list_mk {p : Nat → Bool} {h : Hq} {k : Bool} {d : D} {ds : List D} (s : IsSq p h k d ds) (hp : Fresh p h) (hl : ds.length ≤ 1000000) : RO (dList [d] h) (Mk p h false ds) := by
  simp only [dList, s.items]
  exact newL_mk hp hl
theorem tuple_mk {p : Nat → Bool} {h : Hq} {k : Bool} {d : D} {ds : List D} (s : IsSq p h k d ds) : RO (dTuple [d] h) (Mk p h true ds) := by
  simp only [dTuple, s.items]
  exact RO_of rfl ⟨rfl, [], by simp⟩
theorem rev_mk {p : Nat → Bool} {h : Hq} {k : Bool} {d : D} {ds : List D} (s : IsSq p h k d ds) (hp : Fresh p h) (hl : ds.length ≤ 1000000) : RO (dRev d h) (Mk p h k ds.reverse) := by
  cases k with
  | true => rw [show d = .tup ds from s]; exact RO_of rfl ⟨rfl, [], by simp⟩
  | false =>
    obtain ⟨r, rfl, hr, er⟩ := s
    simp only [dRev, er]
    exact newL_mk hp (by rw [List.length_reverse]; exact hl)
/-! ### sizes of parts -/
theorem mapM_append {α β : Type} {f : α → Option β} : ∀ {xs ys : List α} {a b : List β}, xs.mapM f = some a → ys.mapM f = some b → (xs ++ ys).mapM f = some (a ++ b)
  | [], ys, a, b, e1, e2 => by
    simp at e1; subst e1; exact e2
  | x :: xs, ys, a, b, e1, e2 => by
    rw [List.mapM_cons] at e1
    cases h1 : f x with
    | none => rw [h1] at e1; simp at e1
    | some y =>
      rw [h1] at e1
      cases h2 : xs.mapM f with
      | none => rw [h2] at e1; simp at e1
      | some m =>
        rw [h2] at e1
        have e1 : y :: m = a := by simpa using e1
        subst e1
        rw [List.cons_append, List.mapM_cons, h1, mapM_append h2 e2]; rfl
theorem mapM_drop {α β : Type} {f : α → Option β} : ∀ (n : Nat) {xs : List α} {a : List β}, xs.mapM f = some a → (xs.drop n).mapM f = some (a.drop n)
  | 0, xs, a, e => by simpa using e
  | n + 1, [], a, e => by simp at e; subst e; simp
  | n + 1, x :: xs, a, e => by
    rw [List.mapM_cons] at e
    cases h1 : f x with
    | none => rw [h1] at e; simp at e
    | some y =>
      rw [h1] at e
      cases h2 : xs.mapM f with
      | none => rw [h2] at e; simp at e
      | some m =>
        rw [h2] at e
        have e : y :: m = a := by simpa using e
        subst e
        exact mapM_drop n h2
theorem mapM_take {α β : Type} {f : α → Option β} : ∀ (n : Nat) {xs : List α} {a : List β}, xs.mapM f = some a → (xs.take n).mapM f = some (a.take n)
  | 0, xs, a, e => by simp
  | n + 1, [], a, e => by simp at e; subst e; simp
  | n + 1, x :: xs, a, e => by
    rw [List.mapM_cons] at e
    cases h1 : f x with
    | none => rw [h1] at e; simp at e
    | some y =>
      rw [h1] at e
      cases h2 : xs.mapM f with
      | none => rw [h2] at e; simp at e
      | some m =>
        rw [h2] at e
        have e : y :: m = a := by simpa using e
        subst e
        rw [List.take_succ_cons, List.mapM_cons, h1, mapM_take n h2]; rfl
theorem mapM_rev {α β : Type} {f : α → Option β} : ∀ {xs : List α} {a : List β}, xs.mapM f = some a → xs.reverse.mapM f = some a.reverse
  | [], a, e => by simp at e; subst e; rfl
  | x :: xs, a, e => by
    rw [List.mapM_cons] at e
    cases h1 : f x with
    | none => rw [h1] at e; simp at e
    | some y =>
      rw [h1] at e
      cases h2 : xs.mapM f with
      | none => rw [h2] at e; simp at e
      | some m =>
        rw [h2] at e
        have e : y :: m = a := by simpa using e
        subst e
        rw [List.reverse_cons]; rw [List.reverse_cons]
        exact mapM_append (mapM_rev h2) (by rw [List.mapM_cons, h1]; rfl)
theorem mapM_cut {f : D → Option Nat} {xs : List D} {a : List Nat} (lo hi : Option Int) (e : xs.mapM f = some a) : (cut xs lo hi).mapM f = some (cut a lo hi) := by
  have hl := mapM_len e
  unfold cut
  rw [hl]
  exact mapM_take _ (mapM_drop _ e)
theorem sum_drop_le : ∀ (n : Nat) (a : List Nat), (a.drop n).sum ≤ a.sum
  | 0, a => by simp
  | n + 1, [] => by simp
  | n + 1, x :: a => by
    have := sum_drop_le n a
    rw [List.drop_succ_cons, List.sum_cons]; omega
theorem sum_take_le : ∀ (n : Nat) (a : List Nat), (a.take n).sum ≤ a.sum
  | 0, a => by simp
  | n + 1, [] => by simp
  | n + 1, x :: a => by
    have := sum_take_le n a
    rw [List.take_succ_cons, List.sum_cons, List.sum_cons]; omega
theorem sum_cut_le (a : List Nat) (lo hi : Option Int) : (cut a lo hi).sum ≤ a.sum := Nat.le_trans (sum_take_le _ _) (sum_drop_le _ _)
/-- items below n, parts w in all -/
def Fs (p : Nat → Bool) (B : Nat) (h : Hq) (n w : Nat) (ds : List D) : Prop := ∃ l, ds.mapM (sz p B h n) = some l ∧ l.sum ≤ w
theorem Fs.keep {p : Nat → Bool} {q : Nat} [hx : Exq p q] {B B' : Nat} {h h' : Hq} {n m w w' : Nat} {ds : List D} (f : Fs p B h n w ds) (hB : B ≤ B') (F : Fr q h h') (hn : n ≤ m) (hw : w ≤ w') : Fs p B' h' m w' ds :=
  let ⟨l, e, hl⟩ := f; ⟨l, mapM_mono (fun x y => sz_keep hB F n m x y hn) e, by omega⟩
theorem Fs.cut {p : Nat → Bool} {B : Nat} {h : Hq} {n w : Nat} {ds : List D} (f : Fs p B h n w ds) (lo hi : Option Int) : Fs p B h n w (cut ds lo hi) :=
  let ⟨l, e, hl⟩ := f; ⟨_, mapM_cut lo hi e, Nat.le_trans (sum_cut_le l lo hi) hl⟩
theorem Fs.add {p : Nat → Bool} {B : Nat} {h : Hq} {n w v : Nat} {xs ys : List D} (f : Fs p B h n w xs) (g : Fs p B h n v ys) : Fs p B h n (w + v) (xs ++ ys) :=
  let ⟨l, e, hl⟩ := f; let ⟨m, e2, hm⟩ := g; ⟨_, mapM_append e e2, by rw [List.sum_append]; omega⟩
theorem sum_rev (a : List Nat) : a.reverse.sum = a.sum := by
  induction a with
  | nil => rfl
  | cons x a ih => rw [List.reverse_cons, List.sum_append, ih]; simp; omega
theorem Fs.rev {p : Nat → Bool} {B : Nat} {h : Hq} {n w : Nat} {xs : List D} (f : Fs p B h n w xs) : Fs p B h n w xs.reverse :=
  let ⟨l, e, hl⟩ := f; ⟨_, mapM_rev e, by rw [sum_rev]; exact hl⟩
theorem Fs.one {p : Nat → Bool} {B : Nat} {h : Hq} {n w : Nat} {d : D} (f : Fv p B h n w d) : Fs p B h n w [d] :=
  let ⟨k, e, hk⟩ := f; ⟨[k], by rw [List.mapM_cons, e]; rfl, by simpa using hk⟩
theorem Fs.nil {p : Nat → Bool} {B : Nat} {h : Hq} {n w : Nat} : Fs p B h n w [] := ⟨[], rfl, Nat.zero_le _⟩
theorem sz_pos {p : Nat → Bool} {B : Nat} {h : Hq} : ∀ {n : Nat} {d : D} {k : Nat}, sz p B h n d = some k → 1 ≤ k := by
  intro n d k e
  cases d with
  | non => cases n <;> (simp [sz] at e; omega)
  | bl b => cases n <;> (simp [sz] at e; omega)
  | int i => cases n <;> (simp [sz] at e; omega)
  | str s => cases n <;> (simp [sz] at e; omega)
  | ty t => cases n <;> simp [sz] at e
  | cls t => cases n <;> simp [sz] at e
  | rol t => cases n <;> simp [sz] at e
  | tup ds =>
    cases n with
    | zero => simp [sz] at e
    | succ n => obtain ⟨l, _, rfl⟩ := sz_tup.mp e; omega
  | ref r =>
    cases n with
    | zero => simp [sz] at e
    | succ n =>
      simp only [sz] at e
      split at e
      · cases e
      · split at e
        · obtain ⟨l, _, rfl⟩ := Option.map_eq_some_iff.mp e; omega
        · cases e
theorem Fs.len {p : Nat → Bool} {B : Nat} {h : Hq} {n : Nat} : ∀ {w : Nat} {ds : List D}, Fs p B h n w ds → ds.length ≤ w
  | w, [], _ => Nat.zero_le _
  | w, d :: ds, ⟨l, e, hl⟩ => by
    rw [List.mapM_cons] at e
    cases h1 : sz p B h n d with
    | none => rw [h1] at e; simp at e
    | some k =>
      rw [h1] at e
      cases h2 : ds.mapM (sz p B h n) with
      | none => rw [h2] at e; simp at e
      | some m =>
        rw [h2] at e
        have e : k :: m = l := by simpa using e
        subst e
        have hk := sz_pos h1
        rw [List.sum_cons] at hl
        have := Fs.len (w := m.sum) (ds := ds) ⟨m, h2, Nat.le_refl _⟩
        rw [List.length_cons]; omega
theorem Fs.mem {p : Nat → Bool} {B : Nat} {h : Hq} {n w : Nat} {ds : List D} (f : Fs p B h n w ds) {d : D} (hd : d ∈ ds) : Fv p B h n w d := by
  obtain ⟨l, e, hl⟩ := f
  induction ds generalizing l with
  | nil => simp at hd
  | cons a ds ih =>
    rw [List.mapM_cons] at e
    cases h1 : sz p B h n a with
    | none => rw [h1] at e; simp at e
    | some k =>
      rw [h1] at e
      cases h2 : ds.mapM (sz p B h n) with
      | none => rw [h2] at e; simp at e
      | some m =>
        rw [h2] at e
        have e : k :: m = l := by simpa using e
        subst e
        rw [List.sum_cons] at hl
        rcases (List.mem_cons).mp hd with rfl | hd
        · exact ⟨k, h1, by omega⟩
        · exact ih hd m h2 (by omega)
theorem IsSq.fv {p : Nat → Bool} {B : Nat} {h : Hq} {n w : Nat} {k : Bool} {d : D} {ds : List D} (s : IsSq p h k d ds) (f : Fs p B h n w ds) : Fv p B h (n + 1) (w + 1) d := by
  obtain ⟨l, e, hl⟩ := f
  cases k with
  | true => rw [show d = .tup ds from s]; exact ⟨_, sz_tup.mpr ⟨l, e, rfl⟩, by omega⟩
  | false =>
    obtain ⟨r, rfl, hr, er⟩ := s
    refine ⟨l.sum + 1, ?_, by omega⟩
    simp only [sz, hr, er, e, Option.map_some]; rfl
theorem Fv.view {p : Nat → Bool} {B : Nat} {h : Hq} {n w : Nat} {d : D} (f : Fv p B h n w d) : (isLst d = false ∧ isTup d = false) ∨ ∃ (k : Bool) (ds : List D) (n' w' : Nat), n = n' + 1 ∧ w = w' + 1 ∧ IsSq p h k d ds ∧ Fs p B h n' w' ds ∧ isLst d = !k ∧ isTup d = k := by
  obtain ⟨j, e, hj⟩ := f
  cases d with
  | tup ds =>
    cases n with
    | zero => simp [sz] at e
    | succ n =>
      obtain ⟨l, el, rfl⟩ := sz_tup.mp e
      exact .inr ⟨true, ds, n, w - 1, rfl, by omega, rfl, ⟨l, el, by omega⟩, rfl, rfl⟩
  | ref r =>
    cases n with
    | zero => simp [sz] at e
    | succ n =>
      simp only [sz] at e
      split at e
      · cases e
      · rename_i hr
        split at e
        · rename_i ds eo
          obtain ⟨l, el, rfl⟩ := Option.map_eq_some_iff.mp e
          exact .inr ⟨false, ds, n, w - 1, rfl, by omega, ⟨r, rfl, by simpa using hr, eo⟩, ⟨l, el, by omega⟩, rfl, rfl⟩
        · cases e
  | rol ds => cases n <;> simp [sz] at e
  | _ => exact .inl ⟨rfl, rfl⟩

end G2
end

section
set_option Elab.async false
set_option linter.all false
set_option maxRecDepth 100000
set_option maxHeartbeats 2100000
namespace G2
open PySem PySem.Spec L2 Mach
theorem ix_sq {p : Nat → Bool} {h : Hq} {k : Bool} {d x : D} {ds : List D} {i : Int} (s : IsSq p h k d ds) (e : atI ds i = some x) : dIx d (.int i) h = .ok x h := by
  cases k with
  | true => rw [show d = .tup ds from s]; simp only [dIx, e]
  | false => obtain ⟨r, rfl, hr, er⟩ := s; exact dIx_list er e
theorem len_sq {p : Nat → Bool} {h : Hq} {k : Bool} {d : D} {ds : List D} (s : IsSq p h k d ds) : dLen [d] h = .ok (.int ds.length) h := by
  simp only [dLen, s.items]
theorem gTup0 {lo : Lo} {h : Hq} : Mach.gTup Mach.gNil lo h = .ok (.tup []) h := by
  unfold Mach.gTup
  show (if ([] : List D).length ≤ 4096 then R.ok (.tup []) h else (.bad : R D)) = _
  exact if_pos (Nat.zero_le _)
theorem gLst0 {lo : Lo} {h : Hq} : Mach.gLst Mach.gNil lo h = .ok (.ref h.length) (h ++ [.lst []]) := gLst_eq (ga := Mach.gNil) (h1 := h) (ds := []) rfl (Nat.zero_le _)
theorem e20 : (10 : Int) ^ 20 = 100000000000000000000 := by decide
theorem pow_e {h : Hq} : dPow (.int 10) (.int 20) h = .ok (.int 100000000000000000000) h := by
  have := pow_int (i := 10) (n := 20) (h := h) (by decide) (by decide)
  rw [e20] at this
  exact this
theorem neg_int {i : Int} {h : Hq} : dNeg (.int i) h = .ok (.int (-i)) h := Eq.trans rfl rfl
def Gw (n w : Nat) : Nat := 2 * ((n + 1) * w) + 60
theorem Gw_two (n w : Nat) : 2 * w + 60 ≤ Gw n w := by
  have : w ≤ (n + 1) * w := Nat.le_mul_of_pos_left w (Nat.succ_pos n)
  unfold Gw; omega
theorem Gw_step (n w : Nat) : 2 * w + Gw n w = Gw (n + 1) w := by
  unfold Gw
  rw [show n + 1 + 1 = (n + 1) + 1 from rfl, Nat.add_mul (n + 1) 1 w]; omega
theorem Gw_mono {n w v : Nat} (h : v ≤ w) : Gw n v ≤ Gw n w := by
  have := Nat.mul_le_mul_left (n + 1) h
  unfold Gw; omega
/-- what a bent value is -/
abbrev Bt (ex : Nat → Bool) (p c B : Nat) (A : Int) (h : Hq) (n w : Nat) : D → Hq → Prop := fun d' h' => Fv ex (B + 2) h' (n + 2) (Gw n w) d' ∧ PenB p c (A + 10 * (n + 1)) h' ∧ Fr p h h'
theorem odd_fv {p : Nat → Bool} {B : Nat} {h : Hq} {n w r : Nat} {d : D} (hB : 100000000000000000000 ≤ B) (hr : p r = false) (er : h[r]? = some (Ob.lst [])) (hd : d ∈ [D.non, .int 0, .int 1, .int 2, .int 3, .int (-1), .bl true, .bl false, .str "", .str "order", .tup [], .ref r, .tup [.int 0], .tup [.int 0, .int 1], .tup [.int 1, .int 0], .tup [.tup [.int 0]], .int 100000000000000000000]) :
    Fv p B h (n + 2) (Gw n w) d := by
  have hG := Gw_two n w
  have i0 : ∀ i : Int, i.natAbs ≤ 100000000000000000000 → ∀ m, sz p B h m (.int i) = some 1 := fun i hi m => by
    have : (if i.natAbs ≤ B then some 1 else none) = some 1 := if_pos (by omega)
    cases m <;> exact this
  have leaf : ∀ i : Int, i.natAbs ≤ 100000000000000000000 → Fv p B h (n + 2) (Gw n w) (.int i) := fun i hi => ⟨1, i0 i hi _, by omega⟩
  have t1 : ∀ i : Int, i.natAbs ≤ 1 → ∀ m, sz p B h (m + 1) (.tup [.int i]) = some 2 := fun i hi m => sz_tup.mpr ⟨[1], by rw [List.mapM_cons, i0 i (by omega)]; rfl, rfl⟩
  have t2 : ∀ i j : Int, i.natAbs ≤ 1 → j.natAbs ≤ 1 → ∀ m, sz p B h (m + 1) (.tup [.int i, .int j]) = some 3 := fun i j hi hj m => sz_tup.mpr ⟨[1, 1], by rw [List.mapM_cons, i0 i (by omega), List.mapM_cons, i0 j (by omega)]; rfl, rfl⟩
  simp only [List.mem_cons, List.not_mem_nil, or_false] at hd
  rcases hd with rfl | rfl | rfl | rfl | rfl | rfl | rfl | rfl | rfl | rfl | rfl | rfl | rfl | rfl | rfl | rfl | rfl
  · exact ⟨1, rfl, by omega⟩
  · exact leaf _ (by decide)
  · exact leaf _ (by decide)
  · exact leaf _ (by decide)
  · exact leaf _ (by decide)
  · exact leaf _ (by decide)
  · exact ⟨1, rfl, by omega⟩
  · exact ⟨1, rfl, by omega⟩
  · refine ⟨21, ?_, by omega⟩
    show (if _ then _ else _) = _
    exact if_pos (by decide +kernel)
  · refine ⟨21, ?_, by omega⟩
    show (if _ then _ else _) = _
    exact if_pos (by decide +kernel)
  · exact ⟨1, sz_tup.mpr ⟨[], rfl, rfl⟩, by omega⟩
  · refine ⟨1, ?_, by omega⟩
    simp only [sz, hr, er]; rfl
  · exact ⟨2, t1 0 (by decide) _, by omega⟩
  · exact ⟨3, t2 0 1 (by decide) (by decide) _, by omega⟩
  · exact ⟨3, t2 1 0 (by decide) (by decide) _, by omega⟩
  · exact ⟨3, sz_tup.mpr ⟨[2], by rw [List.mapM_cons, t1 0 (by decide)]; rfl, rfl⟩, by omega⟩
  · exact leaf _ (by decide)
theorem fin_fv {p : Nat → Bool} {q : Nat} [hx : Exq p q] {B : Nat} {h : Hq} {n w v : Nat} {k : Bool} {d : D} {es : List D} (s : IsSq p h k d es) (f : Fs p B h n v es) (hv : v ≤ 2 * w + 1) : Fv p (B + 2) h (n + 1 + 2) (Gw (n + 1) (w + 1)) d := by
  have := Gw_two (n + 1) (w + 1)
  exact (s.fv f).keep (by omega) (Fr.refl q h) (by omega) (by omega)
end G2
end

section
set_option Elab.async false
set_option linter.all false
set_option maxRecDepth 100000
set_option maxHeartbeats 2100000
namespace G2
open PySem PySem.Spec L2 Mach
/-! ### the law's own rows of flags, sorted, are the program's -/
def lawRows (fl : Nat) : Nat → List (List Nat)
  | 0 => [[]]
  | k + 1 => ((lawRows fl k).map fun row => row ++ [0]) ++ (if fl = 2 then (lawRows fl k).map fun row => row ++ [1] else [])
def eP (l : List Nat) : PyData := .tuple (l.map fun n => PyData.int (n : Nat))
def twoP (r : List Nat) : D × PyData := (eN r, eP r)
theorem rows_sorted {n fl : Nat} (n2 : 2 ≤ n) (n4 : n ≤ 4) (f1 : 1 ≤ fl) (f2 : fl ≤ 2) : sortOk ((lawRows fl n).map eP) = true ∧ sortD ((lawRows fl n).map eN) ((lawRows fl n).map eP) = (flagRows fl n).map eN := by
  have hn : n = 2 ∨ n = 3 ∨ n = 4 := by omega
  have hf : fl = 1 ∨ fl = 2 := by omega
  have perm : (lawRows fl n).Perm (flagRows fl n) := by
    rcases hn with rfl | rfl | rfl <;> rcases hf with rfl | rfl <;> decide +kernel
  have pw : ((flagRows fl n).map twoP).Pairwise fun a b => PySem.W.dataLe false (fun b : D × PyData => b.2) a b = true := by
    rcases hn with rfl | rfl | rfl <;> rcases hf with rfl | rfl <;> decide +kernel
  have anti : ∀ r ∈ flagRows fl n, ∀ q ∈ flagRows fl n, PySem.W.dataLe false (fun b : D × PyData => b.2) (twoP r) (twoP q) = true → PySem.W.dataLe false (fun b : D × PyData => b.2) (twoP q) (twoP r) = true → r = q := by
    rcases hn with rfl | rfl | rfl <;> rcases hf with rfl | rfl <;> decide +kernel
  have ok : sortOk ((lawRows fl n).map eP) = true := by
    rcases hn with rfl | rfl | rfl <;> rcases hf with rfl | rfl <;> decide +kernel
  refine ⟨ok, ?_⟩
  have tl : PySem.W.TotalLe (PySem.W.dataLe false fun b : D × PyData => b.2) := PySem.W.sortLe_total _ false _
  have z : ((lawRows fl n).map eN).zip ((lawRows fl n).map eP) = (lawRows fl n).map twoP := zip_maps (lawRows fl n)
  have main : ((lawRows fl n).map twoP).mergeSort (PySem.W.dataLe false fun b : D × PyData => b.2) = (flagRows fl n).map twoP := by
    have pm : (((lawRows fl n).map twoP).mergeSort (PySem.W.dataLe false fun b : D × PyData => b.2)).Perm ((flagRows fl n).map twoP) := (List.mergeSort_perm _ _).trans (perm.map twoP)
    refine List.Perm.eq_of_pairwise (le := fun a b => PySem.W.dataLe false (fun b : D × PyData => b.2) a b = true) (fun a b ha hb h1 h2 => ?_) (List.pairwise_mergeSort tl.trans (fun a b => by rw [Bool.or_eq_true]; exact tl.total a b) _) pw pm
    obtain ⟨r, hr, rfl⟩ := List.mem_map.mp (pm.mem_iff.mp ha)
    obtain ⟨q, hq, rfl⟩ := (List.mem_map).mp hb
    rw [anti r hr q hq h1 h2]
  unfold sortD
  rw [z, main, List.map_map]
  rfl
theorem toPs_eP {h : Hq} {k : Nat} : ∀ os : List (List Nat), (os.map eN).mapM (toP h (k + 1)) = some (os.map eP)
  | [] => rfl
  | o :: os => by
    rw [List.map_cons, List.mapM_cons, toP_eN, toPs_eP os]
    rfl
theorem sorted_rows {h : Hq} {r n fl : Nat} (n2 : 2 ≤ n) (n4 : n ≤ 4) (f1 : 1 ≤ fl) (f2 : fl ≤ 2) (e : h[r]? = some (.lst ((lawRows fl n).map eN))) : dSorted [.ref r] h = .ok (.ref h.length) (h ++ [.lst ((flagRows fl n).map eN)]) := by
  obtain ⟨k1, k2⟩ := rows_sorted n2 n4 f1 f2
  have hl : ((flagRows fl n).map eN).length ≤ 1000000 := by
    rw [List.length_map]
    have := rows_len f2 n
    have h2 : 2 ^ n ≤ 2 ^ 4 := Nat.pow_le_pow_right (by decide) n4
    omega
  simp only [dSorted, listD, e, toPs_eP (k := 59), k1, if_true, k2]
  rw [newL_ok hl]

end G2
end

section
set_option Elab.async false
set_option linter.all false
set_option maxRecDepth 100000
set_option maxHeartbeats 2100000
namespace G2
open PySem PySem.Spec L2 Mach
/-! ### the law's own list of all orders -/
def extO (n : Nat) (o : List Nat) : List (List Nat) := ((List.range n).filter fun i => !decide (i ∈ o)).map fun i => o ++ [i]
def ordersM (n : Nat) : Nat → List (List Nat)
  | 0 => [[]]
  | k + 1 => (ordersM n k).flatMap (extO n)
theorem ext_len {n : Nat} {o : List Nat} : (extO n o).length ≤ n := by
  unfold extO
  rw [List.length_map]
  exact Nat.le_trans (List.length_filter_le _ _) (by rw [List.length_range]; exact Nat.le_refl n)
theorem flat_len {n : Nat} : ∀ l : List (List Nat), (l.flatMap (extO n)).length ≤ n * l.length
  | [] => Nat.zero_le _
  | a :: l => by
    rw [List.flatMap_cons, List.length_append, List.length_cons, Nat.mul_succ]
    have := flat_len (n := n) l
    have := ext_len (n := n) (o := a)
    omega
theorem orders_len {n : Nat} (n4 : n ≤ 4) : ∀ k, (ordersM n k).length ≤ 4 ^ k
  | 0 => Nat.le_refl 1
  | k + 1 => by
    have h1 := flat_len (n := n) (ordersM n k)
    have h2 := orders_len n4 k
    have h3 : n * (ordersM n k).length ≤ 4 * (ordersM n k).length := Nat.mul_le_mul_right _ n4
    rw [Nat.pow_succ]
    show ((ordersM n k).flatMap (extO n)).length ≤ _
    omega
theorem orders_each {n : Nat} : ∀ k, ∀ o ∈ ordersM n k, o.length = k
  | 0, o, h => by rw [List.mem_singleton.mp h]; rfl
  | k + 1, o, h => by
    obtain ⟨a, ha, hr⟩ := List.mem_flatMap.mp (show o ∈ (ordersM n k).flatMap (extO n) from h)
    obtain ⟨i, _, rfl⟩ := List.mem_map.mp hr
    rw [List.length_append, orders_each k a ha]
    rfl
theorem for_lst {N : Lo → Hq → Prop} {T : D → Hq → Prop} {gi : GI} {t : Tg} {body : GS} {ds : List D} {r : Nat} {lo : Lo} {h h1 : Hq} (hg : gi lo h = .ok (.lst r) h1) (I : Nat → Lo → Hq → Prop) (own : ∀ i lo h, I i lo h → h[r]? = some (.lst ds))
    (step : ∀ i d lo h, ds[i]? = some d → I i lo h → ∃ lo1, t.f d lo = some lo1 ∧ SO (body lo1 h) (I (i + 1)) T) (done : ∀ lo h, I ds.length lo h → N lo h) (init : I 0 lo h1) : SO (sFor gi t body lo h) N T := by
  unfold sFor
  rw [hg]
  show SO (forL (.lst r) t body ((Src.lst r).cnt h1) 0 lo h1) N T
  have : (Src.lst r).cnt h1 = ds.length := by simp only [Src.cnt, own 0 lo h1 init]
  rw [this]
  exact SO_forLst I own step done _ 0 lo h1 (Nat.zero_add _) init
def notInN (o : List Nat) : D → Bool
  | .int i => !decide (i.toNat ∈ o)
  | _ => true
def addN (o : List Nat) : D → D
  | .int i => eN (o ++ [i.toNat])
  | _ => .non
theorem ext_comp (n : Nat) (o : List Nat) : ((rngD 0 n).filter (notInN o)).map (addN o) = (extO n o).map eN := by
  unfold rngD extO
  rw [List.filter_map, List.map_map, List.map_map]
  have : (List.range n).filter (notInN o ∘ fun k : Nat => D.int (0 + (k : Int))) = (List.range n).filter fun i => !decide (i ∈ o) := List.filter_congr fun k _ => by
    show (!decide ((0 + (k : Int)).toNat ∈ o)) = _
    rw [Int.zero_add, Int.toNat_natCast]
  rw [this]
  refine List.map_congr_left (fun k _ => ?_)
  show eN (o ++ [(0 + (k : Int)).toNat]) = eN (o ++ [k])
  rw [Int.zero_add, Int.toNat_natCast]
end G2
end

section
set_option Elab.async false
set_option linter.all false
set_option maxRecDepth 100000
set_option maxHeartbeats 2100000
namespace G2
open PySem PySem.Spec L2 Mach
/-! ### the law's own list of all standings -/
def standO (fl n : Nat) (o : List Nat) : List D := (flagRows fl n).map fun row => eS (o, row)
def withF (b : Nat) : D → D
  | .tup xs => .tup (xs ++ [.int (b : Nat)])
  | _ => .non
theorem withF_rows (b : Nat) : ∀ rows : List (List Nat), ((rows.map eN).map (withF b)) = (rows.map fun row => row ++ [b]).map eN
  | [] => rfl
  | r :: rows => by
    rw [List.map_cons, List.map_cons, withF_rows b rows, List.map_cons, List.map_cons]
    congr 1
    show D.tup ((r.map fun n => D.int (n : Nat)) ++ [.int (b : Nat)]) = eN (r ++ [b])
    unfold eN
    rw [List.map_append]
    rfl
theorem lawRows_len {fl : Nat} : ∀ k, (lawRows fl k).length ≤ 2 ^ k
  | 0 => Nat.le_refl 1
  | k + 1 => by
    have ih := lawRows_len (fl := fl) k
    rw [Nat.pow_succ]
    show (((lawRows fl k).map fun row => row ++ [0]) ++ (if fl = 2 then (lawRows fl k).map fun row => row ++ [1] else [])).length ≤ _
    rw [List.length_append, List.length_map]
    split
    · rw [List.length_map]; omega
    · rw [List.length_nil]; omega
theorem lawRows_each {fl : Nat} : ∀ k, ∀ row ∈ lawRows fl k, row.length = k
  | 0, row, h => by rw [List.mem_singleton.mp h]; rfl
  | k + 1, row, h => by
    rcases List.mem_append.mp (show row ∈ ((lawRows fl k).map fun row => row ++ [0]) ++ (if fl = 2 then (lawRows fl k).map fun row => row ++ [1] else []) from h) with z | z
    · obtain ⟨a, ha, rfl⟩ := List.mem_map.mp z
      rw [List.length_append, lawRows_each k a ha]; rfl
    · split at z
      · obtain ⟨a, ha, rfl⟩ := List.mem_map.mp z
        rw [List.length_append, lawRows_each k a ha]; rfl
      · cases z
section
variable {h : Hq} {n fl : Nat} {tb : List (List (Nat × Nat))}
theorem grow_rows {lo : Lo} {r i : Nat} {x1 x2 x4 : Option D} (n4 : n ≤ 4) (hi : i ≤ 4) (e : h[r]? = some (.lst ((lawRows fl i).map eN))) :
    ∃ q g, (gOp dAdd (gComp (iLstG (gV 3)) (Tg.nm 5) [5] gYes (gOp dAdd (gV 5) (Mach.gTup (Mach.gCons (gK (.int 0)) Mach.gNil)))) (gComp (iLstG (gV 3)) (Tg.nm 5) [5] (gTst (gOp dEqB (gOp dIx (gV 0) (gK (.int 1))) (gK (.int 2)))) (gOp dAdd (gV 5) (Mach.gTup (Mach.gCons (gK (.int 1)) Mach.gNil)))))
      [some (eR n fl tb), x1, x2, some (.ref r), x4, none] h = .ok (.ref q) (h ++ g) ∧ (h ++ g)[q]? = some (.lst ((lawRows fl (i + 1)).map eN)) := by
  have small : (lawRows fl i).length ≤ 16 := by
    have h1 := lawRows_len (fl := fl) i
    have h2 : 2 ^ i ≤ 2 ^ 4 := Nat.pow_le_pow_right (by decide) hi
    omega
  have i1 : ∀ g, dIx (eR n fl tb) (.int 1) g = .ok (.int (fl : Nat)) g := fun _ => rfl
  have elt : ∀ (b : Nat) (row : List Nat) (g : Hq), row ∈ lawRows fl i → dAdd (eN row) (eN [b]) g = .ok (withF b (eN row)) g := fun b row g hr => by
    have := lawRows_each i row hr
    rw [add_eN (by rw [List.length_append]; show row.length + 1 ≤ 1000000; omega)]
    have z := withF_rows b [row]
    simp only [List.map_cons, List.map_nil] at z
    rw [(List.cons.inj z).1]
  have c1 := comp_val_lst (gi := iLstG (gV 3)) (t := Tg.nm 5) (vs := [5]) (cs := gYes) (elt := gOp dAdd (gV 5) (Mach.gTup (Mach.gCons (gK (.int 0)) Mach.gNil))) (lo := [some (eR n fl tb), x1, x2, some (.ref r), x4, none]) (h := h) (h1 := h) (r := r) (ds := (lawRows fl i).map eN) (fun _ => true) (withF 0)
    (by simp only [iLstG, gV, gK, Mach.gNil, Mach.gCons, gOp, gUn, gBi, gCall, gTst, gAnd, gOr, gNot, gIf, gAndV, gOrV, gNotV, gChain, gMt, gSl, gNo, gPart, bind_ok, calm_ok, List.getElem?_cons_zero, List.getElem?_cons_succ, List.set_cons_zero, List.set_cons_succ, at_0, at_1, at_2, if_true, if_false, Bool.not_true, Bool.not_false, Bool.false_eq_true, reduceIte, e]) e (by rw [List.length_map]; omega) (by
    intro d hd
    obtain ⟨row, hr, rfl⟩ := List.mem_map.mp hd
    refine ⟨_, rfl, fun acc => ⟨rfl, fun _ => ?_⟩⟩
    simp only [wipeLo, gTup1, gV, gK, Mach.gNil, Mach.gCons, gOp, gUn, gBi, gCall, gTst, gAnd, gOr, gNot, gIf, gAndV, gOrV, gNotV, gChain, gMt, gSl, gNo, gPart, bind_ok, calm_ok, List.getElem?_cons_zero, List.getElem?_cons_succ, List.set_cons_zero, List.set_cons_succ, at_0, at_1, at_2, if_true, if_false, Bool.not_true, Bool.not_false, Bool.false_eq_true, reduceIte]
    rw [show (D.tup [D.int 0]) = eN [0] from rfl, elt 0 row _ hr]
    rfl)
  rw [filter_all, withF_rows] at c1
  have e2 : (h ++ [Ob.lst (((lawRows fl i).map fun row => row ++ [0]).map eN)])[r]? = some (.lst ((lawRows fl i).map eN)) := app_get e
  have c2 := comp_val_lst (gi := iLstG (gV 3)) (t := Tg.nm 5) (vs := [5]) (cs := gTst (gOp dEqB (gOp dIx (gV 0) (gK (.int 1))) (gK (.int 2)))) (elt := gOp dAdd (gV 5) (Mach.gTup (Mach.gCons (gK (.int 1)) Mach.gNil))) (lo := [some (eR n fl tb), x1, x2, some (.ref r), x4, none]) (h := h ++ [Ob.lst (((lawRows fl i).map fun row => row ++ [0]).map eN)]) (h1 := h ++ [Ob.lst (((lawRows fl i).map fun row => row ++ [0]).map eN)]) (r := r) (ds := (lawRows fl i).map eN) (fun _ => decide (((fl : Nat) : Int) = 2)) (withF 1)
    (by simp only [iLstG, gV, gK, Mach.gNil, Mach.gCons, gOp, gUn, gBi, gCall, gTst, gAnd, gOr, gNot, gIf, gAndV, gOrV, gNotV, gChain, gMt, gSl, gNo, gPart, bind_ok, calm_ok, List.getElem?_cons_zero, List.getElem?_cons_succ, List.set_cons_zero, List.set_cons_succ, at_0, at_1, at_2, if_true, if_false, Bool.not_true, Bool.not_false, Bool.false_eq_true, reduceIte, e2]) e2 (by rw [List.length_map]; omega) (by
    intro d hd
    obtain ⟨row, hr, rfl⟩ := List.mem_map.mp hd
    refine ⟨_, rfl, fun acc => ⟨?_, fun _ => ?_⟩⟩
    · simp only [wipeLo, gV, gK, Mach.gNil, Mach.gCons, gOp, gUn, gBi, gCall, gTst, gAnd, gOr, gNot, gIf, gAndV, gOrV, gNotV, gChain, gMt, gSl, gNo, gPart, bind_ok, calm_ok, List.getElem?_cons_zero, List.getElem?_cons_succ, List.set_cons_zero, List.set_cons_succ, at_0, at_1, at_2, if_true, if_false, Bool.not_true, Bool.not_false, Bool.false_eq_true, reduceIte, i1, dEq_int]
    · simp only [wipeLo, gTup1, gV, gK, Mach.gNil, Mach.gCons, gOp, gUn, gBi, gCall, gTst, gAnd, gOr, gNot, gIf, gAndV, gOrV, gNotV, gChain, gMt, gSl, gNo, gPart, bind_ok, calm_ok, List.getElem?_cons_zero, List.getElem?_cons_succ, List.set_cons_zero, List.set_cons_succ, at_0, at_1, at_2, if_true, if_false, Bool.not_true, Bool.not_false, Bool.false_eq_true, reduceIte]
      rw [show (D.tup [D.int 1]) = eN [1] from rfl, elt 1 row _ hr]
      rfl)
  have last : (((lawRows fl i).map eN).filter fun _ => decide (((fl : Nat) : Int) = 2)).map (withF 1) = (if fl = 2 then (lawRows fl i).map fun row => row ++ [1] else []).map eN := by
    by_cases hf : fl = 2
    · have : decide (((fl : Nat) : Int) = 2) = true := by simp [hf]
      rw [this, filter_all, if_pos hf, withF_rows]
    · have : decide (((fl : Nat) : Int) = 2) = false := by simp; omega
      rw [this, if_neg hf]
      simp
  rw [last] at c2
  have a1 : (h ++ [Ob.lst (((lawRows fl i).map fun row => row ++ [0]).map eN)] ++ [Ob.lst ((if fl = 2 then (lawRows fl i).map fun row => row ++ [1] else []).map eN)])[h.length]? = some (.lst (((lawRows fl i).map fun row => row ++ [0]).map eN)) := app_get (last_get _ _ [])
  have a2 : (h ++ [Ob.lst (((lawRows fl i).map fun row => row ++ [0]).map eN)] ++ [Ob.lst ((if fl = 2 then (lawRows fl i).map fun row => row ++ [1] else []).map eN)])[(h ++ [Ob.lst (((lawRows fl i).map fun row => row ++ [0]).map eN)]).length]? = some (.lst ((if fl = 2 then (lawRows fl i).map fun row => row ++ [1] else []).map eN)) := last_get _ _ []
  have sum : ((lawRows fl i).map fun row => row ++ [0]).map eN ++ (if fl = 2 then (lawRows fl i).map fun row => row ++ [1] else []).map eN = (lawRows fl (i + 1)).map eN := by
    rw [← List.map_append]
    rfl
  have bound : (((lawRows fl i).map fun row => row ++ [0]).map eN ++ (if fl = 2 then (lawRows fl i).map fun row => row ++ [1] else []).map eN).length ≤ 1000000 := by
    rw [sum, List.length_map]
    have h1 := lawRows_len (fl := fl) (i + 1)
    have h2 : 2 ^ (i + 1) ≤ 2 ^ 5 := Nat.pow_le_pow_right (by decide) (by omega)
    omega
  have add := add_list a1 a2 bound
  rw [sum] at add
  refine ⟨(h ++ [Ob.lst (((lawRows fl i).map fun row => row ++ [0]).map eN)] ++ [Ob.lst ((if fl = 2 then (lawRows fl i).map fun row => row ++ [1] else []).map eN)]).length,
    [Ob.lst (((lawRows fl i).map fun row => row ++ [0]).map eN)] ++ [Ob.lst ((if fl = 2 then (lawRows fl i).map fun row => row ++ [1] else []).map eN)] ++ [.lst ((lawRows fl (i + 1)).map eN)], ?_, ?_⟩
  · rw [← app_app, ← app_app]
    simp only [gOp] at c1 c2 ⊢
    rw [c1]
    simp only [bind_ok]
    rw [c2]
    simp only [bind_ok]
    rw [add]
    rfl
  · rw [← app_app, ← app_app]
    exact last_get _ _ []
end

end G2
end

section
set_option Elab.async false
set_option linter.all false
set_option maxRecDepth 100000
set_option maxHeartbeats 2100000
namespace G2
open PySem PySem.Spec L2 Mach
/-! ### the law's own list of all standings, whole -/
section
variable {h : Hq} {n fl : Nat} {tb : List (List (Nat × Nat))}
theorem flags_len {k : Nat} (f2 : fl ≤ 2) (hk : k ≤ 4) : (flagRows fl k).length ≤ 16 := by
  have h1 := rows_len f2 k
  have h2 : 2 ^ k ≤ 2 ^ 4 := Nat.pow_le_pow_right (by decide) hk
  omega
theorem stand_len (f2 : fl ≤ 2) (n4 : n ≤ 4) : ∀ l : List (List Nat), (l.flatMap (standO fl n)).length ≤ 16 * l.length
  | [] => Nat.zero_le _
  | a :: l => by
    rw [List.flatMap_cons, List.length_append, List.length_cons]
    have h1 := stand_len f2 n4 l
    have h2 : (standO fl n a).length ≤ 16 := by
      unfold standO
      rw [List.length_map]
      exact flags_len f2 n4
    omega
end

end G2
end

section
set_option Elab.async false
set_option linter.all false
set_option maxRecDepth 100000
set_option maxHeartbeats 2100000
namespace G2
open PySem PySem.Spec L2 Mach
/-! ### slots, sizes, texts of values; lists of values that the law draws -/
theorem gV_at {i : Nat} {lo : Lo} {h : Hq} {d : D} (e : lo[i]? = some (some d)) : gV i lo h = .ok d h := by
  unfold gV
  rw [e]
theorem set_at {lo : Lo} {i : Nat} {d : Option D} (hi : i < lo.length) : (lo.set i d)[i]? = some d := List.getElem?_set_self hi
theorem set_ne {lo : Lo} {i j : Nat} {d : Option D} (hi : i ≠ j) : (lo.set i d)[j]? = lo[j]? := List.getElem?_set_ne hi
theorem gTup_eq {ga : GA} {lo : Lo} {h h1 : Hq} {ds : List D} (e : ga lo h = .ok ds h1) (hl : ds.length ≤ 4096) : Mach.gTup ga lo h = .ok (.tup ds) h1 := by
  unfold Mach.gTup
  rw [e]
  exact if_pos hl
theorem iTup_eq {ga : GE} {lo : Lo} {h h1 : Hq} {ds : List D} (e : ga lo h = .ok (.tup ds) h1) : iTupG ga lo h = .ok (.fix ds) h1 := by
  unfold iTupG
  rw [e]
  rfl
theorem Fs_all {p : Nat → Bool} {B : Nat} {h : Hq} {n b : Nat} : ∀ {ds : List D}, (∀ x ∈ ds, Fv p B h n b x) → Fs p B h n (b * ds.length) ds
  | [], _ => ⟨[], rfl, by simp⟩
  | d :: ds, k => by
    obtain ⟨x, e1, h1⟩ := k d (by simp)
    obtain ⟨l, e2, h2⟩ := Fs_all (ds := ds) fun x hx => k x (List.mem_cons_of_mem _ hx)
    refine ⟨x :: l, by rw [List.mapM_cons, e1, e2]; rfl, ?_⟩
    rw [List.sum_cons, List.length_cons, Nat.mul_succ]; omega
theorem int_fv {p : Nat → Bool} {B : Nat} {h : Hq} {n w : Nat} {i : Int} (hi : i.natAbs ≤ B) (hw : 1 ≤ w) : Fv p B h n w (.int i) := by
  refine ⟨1, ?_, hw⟩
  have : (if i.natAbs ≤ B then some 1 else none) = some 1 := if_pos hi
  cases n <;> exact this
theorem bl_fv {p : Nat → Bool} {B : Nat} {h : Hq} {n w : Nat} {b : Bool} (hw : 1 ≤ w) : Fv p B h n w (.bl b) := ⟨1, by cases n <;> rfl, hw⟩
theorem non_fv {p : Nat → Bool} {B : Nat} {h : Hq} {n w : Nat} (hw : 1 ≤ w) : Fv p B h n w .non := ⟨1, by cases n <;> rfl, hw⟩
theorem tup_fv {p : Nat → Bool} {B : Nat} {h : Hq} {n w : Nat} {ds : List D} (f : Fs p B h n w ds) : Fv p B h (n + 1) (w + 1) (.tup ds) := let ⟨l, e, hl⟩ := f; ⟨_, sz_tup.mpr ⟨l, e, rfl⟩, by omega⟩
theorem Fs_cons {p : Nat → Bool} {B : Nat} {h : Hq} {n a b : Nat} {d : D} {ds : List D} (f : Fv p B h n a d) (g : Fs p B h n b ds) : Fs p B h n (a + b) (d :: ds) := by
  obtain ⟨x, e1, h1⟩ := f
  obtain ⟨l, e2, h2⟩ := g
  exact ⟨x :: l, by rw [List.mapM_cons, e1, e2]; rfl, by rw [List.sum_cons]; omega⟩
theorem Fs0 {p : Nat → Bool} {B : Nat} {h : Hq} {n : Nat} : Fs p B h n 0 [] := Fs.nil
/-- what no value reaches may grow beyond the heap's end, and shrink -/
theorem sz_ex {p ex : Nat → Bool} {B : Nat} {h : Hq} (hx : ∀ r, r < h.length → p r = false → ex r = false) : ∀ n d k, sz p B h n d = some k → sz ex B h n d = some k
  | n, .non, k, e => by cases n <;> exact e
  | n, .bl b, k, e => by cases n <;> exact e
  | n, .int i, k, e => by cases n <;> exact e
  | n, .str s, k, e => by cases n <;> exact e
  | n, .ty t, k, e => by cases n <;> simp [sz] at e
  | n, .cls t, k, e => by cases n <;> simp [sz] at e
  | n, .rol t, k, e => by cases n <;> simp [sz] at e
  | 0, .tup ds, k, e => by simp [sz] at e
  | 0, .ref r, k, e => by simp [sz] at e
  | n + 1, .tup ds, k, e => by
    obtain ⟨l, el, rfl⟩ := sz_tup.mp e
    exact sz_tup.mpr ⟨l, mapM_mono (fun x y => sz_ex hx n x y) el, rfl⟩
  | n + 1, .ref r, k, e => by
    simp only [sz] at e ⊢
    split at e
    · cases e
    · rename_i hr
      split at e
      · rename_i ds eo
        have hl : r < h.length := (List.getElem?_eq_some_iff.mp eo).1
        rw [hx r hl (by simpa using hr), if_neg Bool.false_ne_true]
        obtain ⟨l, el, rfl⟩ := Option.map_eq_some_iff.mp e
        try simp only
        rw [mapM_mono (fun x y => sz_ex hx n x y) el]
        rfl
      · cases e
theorem Fv.ex {p ex : Nat → Bool} {B : Nat} {h : Hq} {n w : Nat} {d : D} (f : Fv p B h n w d) (hx : ∀ r, r < h.length → p r = false → ex r = false) : Fv ex B h n w d :=
  let ⟨k, e, hk⟩ := f; ⟨k, sz_ex hx n d k e, hk⟩
theorem Fs.up {p : Nat → Bool} {B B' : Nat} {h : Hq} {n m w w' : Nat} {ds : List D} (f : Fs p B h n w ds) (hB : B ≤ B') (hn : n ≤ m) (hw : w ≤ w') : Fs p B' h m w' ds := by
  obtain ⟨l, e, hl⟩ := f
  refine ⟨l, mapM_mono (fun x y e => ?_) e, by omega⟩
  haveI : Exq (fun r => p r || decide (r = h.length)) h.length := ⟨by simp⟩
  have h1 := sz_ex (ex := fun r => p r || decide (r = h.length)) (fun r hr hp => by simp only [hp, Bool.false_or, decide_eq_false_iff_not]; omega) n x y e
  have h2 := sz_keep (q := h.length) hB (Fr.refl _ h) n m x y hn h1
  exact sz_ex (fun r hr hp => by simp only [Bool.or_eq_false_iff] at hp; exact hp.1) m x y h2
theorem Fv.up {p : Nat → Bool} {B B' : Nat} {h : Hq} {n m w w' : Nat} {d : D} (f : Fv p B h n w d) (hB : B ≤ B') (hn : n ≤ m) (hw : w ≤ w') : Fv p B' h m w' d := by
  obtain ⟨l, e, hl⟩ := (Fs.one f).up hB hn hw
  rw [List.mapM_cons] at e
  cases h1 : sz p B' h m d with
  | none => rw [h1] at e; simp at e
  | some k =>
    rw [h1] at e
    have e : [k] = l := by simpa using e
    subst e
    exact ⟨k, rfl.trans h1 ▸ h1, by simpa using hl⟩
theorem nums_fs {p : Nat → Bool} {B : Nat} {h : Hq} {n b : Nat} {l : List Nat} (hb : b ≤ B) (hl : ∀ x ∈ l, x < b) : Fs p B h n l.length (l.map fun n => D.int (n : Nat)) := by
  have := Fs_all (p := p) (B := B) (h := h) (n := n) (b := 1) (ds := l.map fun n => D.int (n : Nat)) fun x hx => by
    obtain ⟨y, hy, rfl⟩ := (List.mem_map).mp hx
    have := hl y hy
    exact int_fv (by omega) (Nat.le_refl 1)
  rwa [List.length_map, Nat.one_mul] at this
theorem eN_fv {p : Nat → Bool} {B : Nat} {h : Hq} {n b : Nat} {l : List Nat} (hb : b ≤ B) (hl : ∀ x ∈ l, x < b) : Fv p B h (n + 1) (l.length + 1) (eN l) := tup_fv (nums_fs hb hl)
theorem eS_fs {p : Nat → Bool} {B : Nat} {h : Hq} {m n fl : Nat} {s : List Nat × List Nat} (O : OrdN n s.1) (F : FlN n fl s.2) (n4 : n ≤ 4) (f2 : fl ≤ 2) (hB : 100 ≤ B) : Fs p B h (m + 1) 10 [eN s.1, eN s.2] := by
  have h1 := eN_fv (p := p) (h := h) (n := m) (show n ≤ B by omega) O.lt
  have h2 := eN_fv (p := p) (h := h) (n := m) (show fl ≤ B by omega) F.lt
  rw [O.len] at h1
  rw [F.len] at h2
  exact (Fs_cons h1 (Fs_cons h2 Fs0)).up (Nat.le_refl _) (Nat.le_refl _) (by omega)
theorem eS_fv {p : Nat → Bool} {B : Nat} {h : Hq} {m n fl : Nat} {s : List Nat × List Nat} (O : OrdN n s.1) (F : FlN n fl s.2) (n4 : n ≤ 4) (f2 : fl ≤ 2) (hB : 100 ≤ B) : Fv p B h (m + 2) 11 (eS s) := tup_fv (eS_fs O F n4 f2 hB)
theorem eR_fv {p : Nat → Bool} {B : Nat} {h : Hq} {n fl m : Nat} {tb : List (List (Nat × Nat))} (T : TbN n fl tb) (hB : 100 ≤ B) : Fv p B h (m + 4) 32 (eR n fl tb) := by
  have n4 := T.n4
  have f2 := T.f2
  have row : ∀ d ∈ tb.map eRow, Fv p B h (m + 2) 7 d := fun d hd => by
    obtain ⟨row, hr, rfl⟩ := List.mem_map.mp hd
    obtain ⟨k, hk, ek⟩ := List.mem_iff_getElem.mp hr
    obtain ⟨rl, re⟩ := T.rows k row (by rw [← ek]; exact List.getElem?_eq_getElem hk)
    rw [T.len] at hk
    have pr : ∀ d ∈ row.map fun e => D.tup [.int (e.1 : Nat), .int (e.2 : Nat)], Fv p B h (m + 1) 3 d := fun d hd => by
      obtain ⟨e, he, rfl⟩ := List.mem_map.mp hd
      obtain ⟨a, b⟩ := re e he
      exact tup_fv (Fs_cons (int_fv (by omega) (Nat.le_refl 1)) (Fs_cons (int_fv (by omega) (Nat.le_refl 1)) Fs0))
    have := tup_fv (Fs_all pr)
    rw [List.length_map, rl] at this
    exact this.up (Nat.le_refl _) (Nat.le_refl _) (by omega)
  have all := tup_fv (Fs_all row)
  rw [List.length_map, T.len] at all
  exact (tup_fv (Fs_cons (int_fv (by omega) (Nat.le_refl 1)) (Fs_cons (int_fv (by omega) (Nat.le_refl 1)) (Fs_cons all Fs0)))).up (Nat.le_refl _) (Nat.le_refl _) (by omega)
/-! texts -/
def Rp (h : Hq) (d : D) (p : PyData) : Prop := toP h 60 d = some p ∧ p.showable = true ∧ p.shown.length ≤ 1000000
theorem Rp.repr {h : Hq} {d : D} {p : PyData} (r : Rp h d p) : dRepr [d] h = .ok (.str p.shown) h := by
  simp only [dRepr, r.1]
  rw [if_pos ⟨r.2.1, r.2.2⟩]
theorem Rp.app {h : Hq} {d : D} {p : PyData} (r : Rp h d p) (g : Hq) : Rp (h ++ g) d p := ⟨toP_keep (fun _ _ e => app_get e) 60 d p r.1, r.2⟩
theorem Rp.as {h h' : Hq} {d d' : D} {p : PyData} (r : Rp h d p) (e : toP h' 60 d' = some p) : Rp h' d' p := ⟨e, r.2⟩
theorem Rp.list {h h' : Hq} {q r : Nat} {ds : List D} {p : PyData} (R : Rp h (.ref q) p) (e1 : h[q]? = some (.lst ds)) (k : ∀ (r : Nat) (ds : List D), h[r]? = some (Ob.lst ds) → h'[r]? = some (Ob.lst ds)) (e2 : h'[r]? = some (.lst ds)) : Rp h' (.ref r) p := by
  refine R.as ?_
  have e3 := toP_keep k 60 _ _ R.1
  simp only [toP, k q ds e1] at e3
  simp only [toP, e2]
  exact e3
abbrev noEx : Nat → Bool := fun _ => false
theorem Fv.rp {p : Nat → Bool} {B : Nat} {h : Hq} {n w : Nat} {d : D} (f : Fv p B h n w d) (hB : B ≤ 1000000000000000000000000000000) (hn : n ≤ 50) (hw : w ≤ 10000) : ∃ q, Rp h d q := by
  obtain ⟨k, e, hk⟩ := f
  obtain ⟨q, e1, h1, h2, h3⟩ := sz_data hB n d k e
  have h4 := PyData.shown_le_bulk 40 (by decide) q h2
  exact ⟨q, toP_fuel n 60 d q (by omega) e1, h1, by omega⟩
theorem lst_fv {B : Nat} {h : Hq} {n w r : Nat} {ds : List D} (e : h[r]? = some (.lst ds)) (f : Fs noEx B h n w ds) : Fv noEx B h (n + 1) (w + 1) (.ref r) := (show IsSq noEx h false (.ref r) ds from ⟨r, rfl, rfl, e⟩).fv f
theorem ne_str {s : Str} {h : Hq} : dNeB (.str s) (.str s) h = .ok (.bl false) h := by
  show R.ok (D.bl (!(s == s))) h = _
  rw [show (s == s) = true by simp]; rfl
theorem eq_str {s : Str} {h : Hq} : dEqB (.str s) (.str s) h = .ok (.bl true) h := by
  show R.ok (D.bl (s == s)) h = _
  rw [show (s == s) = true by simp]
theorem repr_bool {h : Hq} (b : Bool) : ∃ s : Str, ∀ h, dRepr [.bl b] h = .ok (.str s) h := by
  cases b
  · exact ⟨_, fun _ => rfl⟩
  · exact ⟨_, fun _ => rfl⟩
/-! lists of values -/
/-- the pen, and one list more -/
def ex2 (p q : Nat) : Nat → Bool := fun r => decide (r = p) || decide (r = q)
theorem ex2_pen (p q : Nat) : Exq (ex2 p q) p := ⟨by simp [ex2]⟩
theorem ex2_lst (p q : Nat) : Exq (ex2 p q) q := ⟨by simp [ex2]⟩
theorem ex2_fresh {p q : Nat} {h : Hq} (hp : p < h.length) (hq : q < h.length) : Fresh (ex2 p q) h := fun r hr => by
  simp only [ex2, Bool.or_eq_false_iff, decide_eq_false_iff_not]
  omega
theorem ex2_new {p q : Nat} {h : Hq} {B n w : Nat} {d : D} (f : Fv (ex2 p q) B h n w d) : Fv (ex2 p h.length) B h n w d :=
  f.ex fun r hr z => by
    simp only [ex2, Bool.or_eq_false_iff, decide_eq_false_iff_not] at z ⊢
    omega
/-- a comprehension whose items are values of the law -/
theorem comp_bent {ds : List D} {t : Tg} {elt : GE} {h : Hq} {lo : Lo} {Q : Unit → Hq → Prop} {p c B n w : Nat} {A s : Int} (hz : ds.length ≤ 1000) (P : PenB p c A h) (hs : 0 ≤ s)
    (hstep : ∀ d ∈ ds, ∃ lo1, t.f d lo = some lo1 ∧ ∀ (A' : Int) h', A ≤ A' → A' ≤ A + s * ds.length → PenB p c A' h' → Fr p h h' → Fresh (ex2 p h.length) h' → RO (elt lo1 h') fun y h2 => Fv (ex2 p h.length) B h2 n w y ∧ PenB p c (A' + s) h2 ∧ Fr p h' h2)
    (hq : ∀ acc h', acc.length = ds.length → (∀ y ∈ acc, Fv (ex2 p h.length) B h' n w y) → PenB p c (A + s * ds.length) h' → Fr p h h' → h'[h.length]? = some (.lst acc) → Q () h') :
    RO (compL (.fix ds) t gYes elt h.length ds.length 0 lo (h ++ [.lst []])) Q := by
  have hp := P.lt.1
  have hc := P.lt.2.1
  haveI i1 := ex2_pen p h.length
  haveI i2 := ex2_lst p h.length
  refine RO_compFix (fun i acc h' => acc.length = i ∧ i ≤ ds.length ∧ (∀ y ∈ acc, Fv (ex2 p h.length) B h' n w y) ∧ PenB p c (A + s * i) h' ∧ Fr p h h' ∧ h'[h.length]? = some (.lst acc)) (by omega) ?_ ?_ ?_ ds.length 0 [] _ (Nat.zero_add _) ⟨rfl, Nat.zero_le _, fun y hy => (by simp at hy), (P.app _).le (by simp), Fr.app _ _, last_get h _ []⟩
  · rintro i acc h' ⟨h1, _, _, _, _, h6⟩
    exact ⟨h6, by omega⟩
  · rintro i d acc h' e ⟨h1, hi, h2, h3, h4, h6⟩
    have hi : i < ds.length := (List.getElem?_eq_some_iff.mp e).1
    obtain ⟨lo1, e1, e2⟩ := hstep d (List.mem_of_getElem? e)
    refine ⟨lo1, e1, ?_⟩
    show RO (.ok true h') _
    rw [RO_ok, if_pos rfl]
    have m1 : 0 ≤ s * (i : Nat) := Int.mul_nonneg hs (by omega)
    have m2 : s * (i : Nat) ≤ s * (ds.length : Nat) := Int.mul_le_mul_of_nonneg_left (by omega) hs
    have hl : h.length < h'.length := (List.getElem?_eq_some_iff.mp h6).1
    refine (e2 (A + s * i) h' (by omega) (by omega) h3 h4 (ex2_fresh (by omega) hl)).mono fun y h2' ⟨q1, q2, q3⟩ => ?_
    have g6 : h2'[h.length]? = some (.lst acc) := (q3.old _ (by omega) hl).trans h6
    have S : Fr h.length h2' (h2'.set h.length (.lst (acc ++ [y]))) := Fr.set h2' _
    refine ⟨g6, by simp [h1], hi, ?_, ?_, ?_, ?_⟩
    · intro z hz
      rcases (List.mem_append).mp hz with hz | hz
      · exact ((h2 z hz).keep (Nat.le_refl B) q3 (Nat.le_refl n) (Nat.le_refl w)).keep (q := h.length) (Nat.le_refl B) S (Nat.le_refl n) (Nat.le_refl w)
      · rw [show z = y by simpa using hz]; exact q1.keep (q := h.length) (Nat.le_refl B) S (Nat.le_refl n) (Nat.le_refl w)
    · have : A + s * ((i + 1 : Nat) : Int) = A + s * i + s := by rw [Int.natCast_add, Int.mul_add]; simp; omega
      rw [this]
      exact q2.set (by omega) (by omega)
    · exact ⟨by rw [List.length_set]; exact Nat.le_trans h4.len q3.len, fun r hr hl' => by
        rw [List.getElem?_set_ne (by omega)]
        exact (q3.old r hr (by have := h4.len; omega)).trans (h4.old r hr hl')⟩
    · exact List.getElem?_set_self (List.getElem?_eq_some_iff.mp g6).1
  · rintro acc h' ⟨h1, _, h2, h3, h4, h6⟩
    exact hq acc h' h1 h2 h3 h4 h6
/-- a list of values at r -/
structure Vals_ (p c B z : Nat) (h : Hq) (r : Nat) (vs : List D) : Prop where
  at_ : h[r]? = some (.lst vs)
  np : r ≠ p
  nc : r ≠ c
  len : vs.length ≤ z
  all : ∀ x ∈ vs, Fv (ex2 p r) B h 20 9000 x
/-- a new list of such values -/
abbrev Nw (p c B z : Nat) (A : Int) (h : Hq) : D → Hq → Prop := fun d h' => ∃ s es, d = .ref s ∧ Vals_ p c B z h' s es ∧ PenB p c A h' ∧ Fr p h h'
/-- some = some + [..] -/
theorem more_vals {ga : GE} {lo : Lo} {h : Hq} {p c B B' z z' i r : Nat} {vs : List D} {A' : Int} (hB : B ≤ B') (er : lo[i]? = some (some (.ref r))) (S : Vals_ p c B z h r vs) (hz : z + z' ≤ 1000)
    (hg : RO (ga lo h) (Nw p c B' z' A' h)) : RO (gOp dAdd (gV i) ga lo h) (Nw p c B' (z + z') A' h) := by
  simp only [gOp, gV_at er, bind_ok, RO_bind, RO_calm]
  refine hg.mono ?_
  rintro d h' ⟨s, es, rfl, S', P', F⟩
  have er' : h'[r]? = some (Ob.lst vs) := (F.old r S.np (List.getElem?_eq_some_iff.mp S.at_).1).trans S.at_
  have hp := P'.lt.1
  haveI i1 := ex2_pen p r
  haveI i2 := ex2_pen p h'.length
  have l1 := S.len
  have l2 := S'.len
  rw [add_list er' S'.at_ (by rw [List.length_append]; omega), RO_ok]
  refine ⟨h'.length, vs ++ es, rfl, ⟨last_get h' _ [], by omega, by have := P'.lt.2.1; omega, by rw [List.length_append]; omega, fun x hx => ?_⟩, P'.app _, F.trans (Fr.app _ _)⟩
  rcases (List.mem_append).mp hx with hx | hx
  · have f := (S.all x hx).keep (q := p) hB F (Nat.le_refl 20) (Nat.le_refl 9000)
    exact (ex2_new f).keep (q := p) (Nat.le_refl B') (Fr.app h' _) (Nat.le_refl 20) (Nat.le_refl 9000)
  · exact (ex2_new (S'.all x hx)).keep (q := p) (Nat.le_refl B') (Fr.app h' _) (Nat.le_refl 20) (Nat.le_refl 9000)
/-- a written list of such values -/
theorem written_vals {ga : GA} {lo : Lo} {h : Hq} {p c B z : Nat} {A : Int} (hz : z ≤ 1000) (hp : p < h.length)
    (hg : RO (ga lo h) fun es h' => es.length ≤ z ∧ (∃ q, ∀ x ∈ es, Fv (ex2 p q) B h' 20 9000 x) ∧ PenB p c A h' ∧ Fr p h h') : RO (Mach.gLst ga lo h) (Nw p c B z A h) := by
  rw [RO_lst]
  refine hg.mono ?_
  rintro es h' ⟨h1, ⟨q, h2⟩, h3, h4⟩
  haveI i2 := ex2_pen p h'.length
  refine ⟨by omega, h'.length, es, rfl, ⟨last_get h' _ [], by have := h4.len; omega, by have := h3.lt.2.1; omega, h1, fun x hx => ?_⟩, h3.app _, h4.trans (Fr.app _ _)⟩
  exact (ex2_new (h2 x hx)).keep (q := p) (Nat.le_refl B) (Fr.app h' _) (Nat.le_refl 20) (Nat.le_refl 9000)
/-- a comprehension over range(m): bent values -/
theorem bents {m : Nat} {gi : GI} {t : Tg} {vs : List Nat} {elt : GE} {lo : Lo} {h : Hq} {p c B : Nat} {A s : Int} (hm : m ≤ 100) (P : PenB p c A h) (hs : 0 ≤ s) (hg : gi lo h = .ok (.fix (rngD 0 m)) h)
    (hstep : ∀ d, ∃ lo1, t.f d (wipeLo lo vs) = some lo1 ∧ ∀ (A' : Int) h', A ≤ A' → A' ≤ A + s * m → PenB p c A' h' → Fr p h h' → Fresh (ex2 p h.length) h' → RO (elt lo1 h') fun y h2 => Fv (ex2 p h.length) B h2 20 9000 y ∧ PenB p c (A' + s) h2 ∧ Fr p h' h2) :
    RO (gComp gi t vs gYes elt lo h) (Nw p c B m (A + s * m) h) := by
  have hp := P.lt.1
  have hc := P.lt.2.1
  have hl : (rngD 0 m).length = m := by simp [rngD]
  rw [gComp_eq hg]
  refine comp_bent (p := p) (c := c) (A := A) (s := s) (B := B) (n := 20) (w := 9000) (by omega) P hs (fun d _ => ?_) ?_
  · rw [hl]; exact hstep d
  · intro acc h4 hlen4 hacc P4 F4 h4r
    rw [hl] at hlen4 P4
    exact ⟨h.length, acc, rfl, ⟨h4r, by omega, by omega, by omega, hacc⟩, P4, F4⟩
/-! what holds no reference is the same data in each heap -/
theorem mapM_same {α β : Type} {f g : α → Option β} : ∀ {l : List α}, (∀ x ∈ l, f x = g x) → l.mapM f = l.mapM g
  | [], _ => rfl
  | x :: l, k => by rw [List.mapM_cons, List.mapM_cons, k x (by simp), mapM_same fun y hy => k y (List.mem_cons_of_mem _ hy)]
theorem pures_mem : ∀ {ds : List D}, D.pures ds = true → ∀ d ∈ ds, d.pure = true
  | [], _, d, hd => by cases hd
  | x :: ds, e, d, hd => by
    simp only [D.pures, Bool.and_eq_true] at e
    rcases (List.mem_cons).mp hd with rfl | hd
    · exact e.1
    · exact pures_mem e.2 d hd
theorem toP_free {h h' : Hq} : ∀ (n : Nat) (d : D), d.pure = true → toP h n d = toP h' n d
  | n, .non, _ => by cases n <;> rfl
  | n, .bl _, _ => by cases n <;> rfl
  | n, .int _, _ => by cases n <;> rfl
  | n, .str _, _ => by cases n <;> rfl
  | n, .ty _, _ => by cases n <;> rfl
  | n, .cls _, _ => by cases n <;> rfl
  | n, .ref _, e => by simp [D.pure] at e
  | 0, .tup _, _ => rfl
  | 0, .rol _, _ => rfl
  | n + 1, .tup ds, e => by
    simp only [D.pure] at e
    simp only [toP]
    rw [mapM_same fun d hd => toP_free n d (pures_mem e d hd)]
  | n + 1, .rol ds, e => by
    simp only [D.pure] at e
    simp only [toP]
    rw [mapM_same fun d hd => toP_free n d (pures_mem e d hd)]
theorem Rp.any {h h' : Hq} {d : D} {p : PyData} (r : Rp h d p) (e : d.pure = true) : Rp h' d p := r.as (by rw [← r.1]; exact toP_free 60 d e)

end G2
end

section
set_option Elab.async false
set_option linter.all false
set_option maxRecDepth 100000
set_option maxHeartbeats 2100000
namespace G2
open PySem PySem.Spec L2 Mach
/-! ### all orders and all standings, as the program tells them -/
open PermK
theorem perms_orders {n : Nat} (n2 : 2 ≤ n) (n4 : n ≤ 4) : permsD n = (ordersM n n).map eN := by
  have : n = 2 ∨ n = 3 ∨ n = 4 := by omega
  rcases this with rfl | rfl | rfl <;> rfl
theorem orders_small {n : Nat} (n4 : n ≤ 4) : (ordersM n n).length ≤ 256 := by
  have h1 := orders_len n4 n
  have h2 : 4 ^ n ≤ 4 ^ 4 := Nat.pow_le_pow_right (by decide) n4
  omega
section
variable {h : Hq} {n fl : Nat} {tb : List (List (Nat × Nat))}
end
section
variable {n fl : Nat} {tb : List (List (Nat × Nat))}
theorem orders_24 {n : Nat} (n2 : 2 ≤ n) (n4 : n ≤ 4) : (ordersM n n).length ≤ 24 := by
  have : n = 2 ∨ n = 3 ∨ n = 4 := by omega
  rcases this with rfl | rfl | rfl <;> decide +kernel
theorem orders_good {n : Nat} (n2 : 2 ≤ n) (n4 : n ≤ 4) : ∀ o ∈ ordersM n n, OrdN n o := by
  have : n = 2 ∨ n = 3 ∨ n = 4 := by omega
  have key : ∀ n, (n = 2 ∨ n = 3 ∨ n = 4) → ∀ o ∈ ordersM n n, o.length = n ∧ o.Nodup ∧ ∀ x ∈ o, x < n := by
    rintro n (rfl | rfl | rfl) <;> decide +kernel
  exact fun o ho => let ⟨a, b, d⟩ := key n this o ho; ⟨a, b, d⟩
theorem flags_good {n fl : Nat} (n2 : 2 ≤ n) (n4 : n ≤ 4) (f1 : 1 ≤ fl) (f2 : fl ≤ 2) : ∀ f ∈ flagRows fl n, FlN n fl f := by
  have : n = 2 ∨ n = 3 ∨ n = 4 := by omega
  have g : fl = 1 ∨ fl = 2 := by omega
  have key : ∀ n fl, (n = 2 ∨ n = 3 ∨ n = 4) → (fl = 1 ∨ fl = 2) → ∀ f ∈ flagRows fl n, f.length = n ∧ ∀ x ∈ f, x < fl := by
    rintro n fl (rfl | rfl | rfl) (rfl | rfl) <;> decide +kernel
  exact fun o ho => let ⟨a, b⟩ := key n fl this g o ho; ⟨a, b⟩
theorem standings_fs {ex : Nat → Bool} {g : Hq} (T : TbN n fl tb) : Fs ex 100 g 2 4300 ((ordersM n n).flatMap (standO fl n)) := by
  have n2 := T.n2
  have n4 := T.n4
  have sl := stand_len (fl := fl) T.f2 n4 (ordersM n n)
  have ol := orders_24 n2 n4
  refine (Fs_all (b := 11) fun x hx => ?_).up (Nat.le_refl _) (Nat.le_refl _) (by omega)
  obtain ⟨o, ho, hx⟩ := List.mem_flatMap.mp hx
  obtain ⟨f, hf, rfl⟩ := List.mem_map.mp hx
  exact eS_fv (m := 0) (s := (o, f)) (orders_good n2 n4 o ho) (flags_good n2 n4 T.f1 T.f2 f hf) n4 T.f2 (Nat.le_refl _)
end

end G2
end

section
set_option Elab.async false
set_option linter.all false
set_option maxRecDepth 100000
set_option maxHeartbeats 2100000
namespace G2
open PySem PySem.Spec L2 Mach
/-! ### loops whose body may go on or break off -/
@[irreducible] def SB (x : SR) (N C B : Lo → Hq → Prop) (T : D → Hq → Prop) : Prop := match x with
  | .nx lo h => N lo h
  | .ct lo h => C lo h
  | .bk lo h => B lo h
  | .rt d h => T d h
  | _ => False
section
variable {N N' C B : Lo → Hq → Prop} {T : D → Hq → Prop}
theorem SB_nx {lo : Lo} {h : Hq} : SB (.nx lo h) N C B T = N lo h := by unfold SB; exact propext ⟨fun z => z, fun z => z⟩
theorem SB_ct {lo : Lo} {h : Hq} : SB (.ct lo h) N C B T = C lo h := by unfold SB; exact propext ⟨fun z => z, fun z => z⟩
theorem SB_bk {lo : Lo} {h : Hq} : SB (.bk lo h) N C B T = B lo h := by unfold SB; exact propext ⟨fun z => z, fun z => z⟩
theorem SB_rt {d : D} {h : Hq} : SB (.rt d h) N C B T = T d h := by unfold SB; exact propext ⟨fun z => z, fun z => z⟩
theorem SB_no {x : SR} (h : SB x N C B T) : (∃ lo h1, x = .nx lo h1 ∧ N lo h1) ∨ (∃ lo h1, x = .ct lo h1 ∧ C lo h1) ∨ (∃ lo h1, x = .bk lo h1 ∧ B lo h1) ∨ ∃ d h1, x = .rt d h1 ∧ T d h1 := by
  unfold SB at h
  cases x with
  | nx lo h1 => exact .inl ⟨lo, h1, rfl, h⟩
  | ct lo h1 => exact .inr (.inl ⟨lo, h1, rfl, h⟩)
  | bk lo h1 => exact .inr (.inr (.inl ⟨lo, h1, rfl, h⟩))
  | rt d h1 => exact .inr (.inr (.inr ⟨d, h1, rfl, h⟩))
  | _ => exact h.elim
theorem SB_of {x : SR} (h : SO x N T) : SB x N C B T := by
  rcases SO_no h with ⟨lo, h1, rfl, k⟩ | ⟨d, h1, rfl, k⟩
  · rw [SB_nx]; exact k
  · rw [SB_rt]; exact k
theorem SB_seq {a b : GS} {lo : Lo} {h : Hq} (k : SB (a lo h) (fun lo h => SB (b lo h) N C B T) C B T) : SB (sSeq a b lo h) N C B T := by
  unfold sSeq
  rcases SB_no k with ⟨lo1, h1, e, k⟩ | ⟨lo1, h1, e, k⟩ | ⟨lo1, h1, e, k⟩ | ⟨d, h1, e, k⟩ <;> rw [e]
  · exact k
  · show SB (.ct lo1 h1) N C B T
    rw [SB_ct]; exact k
  · show SB (.bk lo1 h1) N C B T
    rw [SB_bk]; exact k
  · show SB (.rt d h1) N C B T
    rw [SB_rt]; exact k
theorem SB_if {c : GT} {a b : GS} {lo : Lo} {h h1 : Hq} {x : Bool} (hc : c lo h = .ok x h1) (ka : x = true → SB (a lo h1) N C B T) (kb : x = false → SB (b lo h1) N C B T) : SB (sIf c a b lo h) N C B T := by
  unfold sIf
  rw [hc]
  show SB (if x = true then a lo h1 else b lo h1) N C B T
  cases x with
  | true => rw [if_pos rfl]; exact ka rfl
  | false => rw [if_neg (by decide)]; exact kb rfl
theorem SB_next {lo : Lo} {h : Hq} (k : C lo h) : SB (sCt lo h) N C B T := by
  show SB (.ct lo h) N C B T
  rw [SB_ct]; exact k
theorem SB_off {lo : Lo} {h : Hq} (k : B lo h) : SB (sBk lo h) N C B T := by
  show SB (.bk lo h) N C B T
  rw [SB_bk]; exact k
theorem loop_fixB {ds : List D} {t : Tg} {body : GS} (I : Nat → Lo → Hq → Prop)
    (step : ∀ i d lo h, ds[i]? = some d → I i lo h → ∃ lo1, t.f d lo = some lo1 ∧ SB (body lo1 h) (I (i + 1)) (I (i + 1)) N T) (done : ∀ lo h, I ds.length lo h → N lo h) :
    ∀ n i lo h, i + n = ds.length → I i lo h → SO (forL (.fix ds) t body n i lo h) N T
  | 0, i, lo, h, e, hi => by
    have e2 : ds[i]? = none := List.getElem?_eq_none_iff.mpr (by omega)
    unfold forL
    simp only [Src.at, e2]
    rw [SO_nx]
    exact done lo h (by rw [← e]; exact hi)
  | n + 1, i, lo, h, e, hi => by
    have hl : i < ds.length := by omega
    have e2 : ds[i]? = some ds[i] := List.getElem?_eq_getElem hl
    obtain ⟨lo1, e3, hb⟩ := step i ds[i] lo h e2 hi
    unfold forL
    simp only [Src.at, e2, e3]
    have ih := loop_fixB I step done n (i + 1)
    rcases SB_no hb with ⟨lo2, h2, eb, hb⟩ | ⟨lo2, h2, eb, hb⟩ | ⟨lo2, h2, eb, hb⟩ | ⟨d, h2, eb, hb⟩
    · rw [eb]; exact ih lo2 h2 (by omega) hb
    · rw [eb]; exact ih lo2 h2 (by omega) hb
    · rw [eb]; exact SO_nx ▸ hb
    · rw [eb]; exact SO_rt ▸ hb
theorem loop_lstB {r : Nat} {ds : List D} {t : Tg} {body : GS} (I : Nat → Lo → Hq → Prop) (own : ∀ i lo h, I i lo h → h[r]? = some (.lst ds))
    (step : ∀ i d lo h, ds[i]? = some d → I i lo h → ∃ lo1, t.f d lo = some lo1 ∧ SB (body lo1 h) (I (i + 1)) (I (i + 1)) N T) (done : ∀ lo h, I ds.length lo h → N lo h) :
    ∀ n i lo h, i + n = ds.length → I i lo h → SO (forL (.lst r) t body n i lo h) N T
  | 0, i, lo, h, e, hi => by
    have e2 : ds[i]? = none := List.getElem?_eq_none_iff.mpr (by omega)
    unfold forL
    simp only [Src.at, own i lo h hi, e2]
    rw [SO_nx]
    exact done lo h (by rw [← e]; exact hi)
  | n + 1, i, lo, h, e, hi => by
    have hl : i < ds.length := by omega
    have e2 : ds[i]? = some ds[i] := List.getElem?_eq_getElem hl
    obtain ⟨lo1, e3, hb⟩ := step i ds[i] lo h e2 hi
    unfold forL
    simp only [Src.at, own i lo h hi, e2, e3]
    have ih := loop_lstB I own step done n (i + 1)
    rcases SB_no hb with ⟨lo2, h2, eb, hb⟩ | ⟨lo2, h2, eb, hb⟩ | ⟨lo2, h2, eb, hb⟩ | ⟨d, h2, eb, hb⟩
    · rw [eb]; exact ih lo2 h2 (by omega) hb
    · rw [eb]; exact ih lo2 h2 (by omega) hb
    · rw [eb]; exact SO_nx ▸ hb
    · rw [eb]; exact SO_rt ▸ hb
theorem for_fixB {gi : GI} {t : Tg} {body : GS} {ds : List D} {lo : Lo} {h h1 : Hq} (hg : gi lo h = .ok (.fix ds) h1) (I : Nat → Lo → Hq → Prop)
    (step : ∀ i d lo h, ds[i]? = some d → I i lo h → ∃ lo1, t.f d lo = some lo1 ∧ SB (body lo1 h) (I (i + 1)) (I (i + 1)) N T) (done : ∀ lo h, I ds.length lo h → N lo h) (init : I 0 lo h1) : SO (sFor gi t body lo h) N T := by
  unfold sFor
  rw [hg]
  exact loop_fixB I step done _ 0 lo h1 (Nat.zero_add _) init
theorem for_lstB {gi : GI} {t : Tg} {body : GS} {ds : List D} {r : Nat} {lo : Lo} {h h1 : Hq} (hg : gi lo h = .ok (.lst r) h1) (I : Nat → Lo → Hq → Prop) (own : ∀ i lo h, I i lo h → h[r]? = some (.lst ds))
    (step : ∀ i d lo h, ds[i]? = some d → I i lo h → ∃ lo1, t.f d lo = some lo1 ∧ SB (body lo1 h) (I (i + 1)) (I (i + 1)) N T) (done : ∀ lo h, I ds.length lo h → N lo h) (init : I 0 lo h1) : SO (sFor gi t body lo h) N T := by
  unfold sFor
  rw [hg]
  show SO (forL (.lst r) t body ((Src.lst r).cnt h1) 0 lo h1) N T
  have : (Src.lst r).cnt h1 = ds.length := by simp only [Src.cnt, own 0 lo h1 init]
  rw [this]
  exact loop_lstB I own step done _ 0 lo h1 (Nat.zero_add _) init
/-- a walk over a list that the law has just made: RO of what is walked -/
theorem for_newB {ga : GE} {t : Tg} {body : GS} {lo : Lo} {h : Hq} {Q : D → Hq → Prop} (hg : RO (ga lo h) Q)
    (k : ∀ d h1, Q d h1 → ∃ r ds, d = .ref r ∧ h1[r]? = some (.lst ds) ∧ SO (forL (.lst r) t body ds.length 0 lo h1) N T) : SO (sFor (iLstG ga) t body lo h) N T := by
  obtain ⟨d, h1, e, q⟩ := hg.get
  obtain ⟨r, ds, rfl, er, s⟩ := k d h1 q
  unfold sFor iLstG
  rw [e]
  simp only [bind_ok, er]
  show SO (forL (.lst r) t body ((Src.lst r).cnt h1) 0 lo h1) N T
  have : (Src.lst r).cnt h1 = ds.length := by simp only [Src.cnt, er]
  rw [this]
  exact s
end
/-- two lists of values, one behind the other -/
theorem plus_vals {gx ga : GE} {lo : Lo} {h : Hq} {p c B B' z z' : Nat} {A A' : Int} (hB : B ≤ B') (hz : z + z' ≤ 1000) (hx : RO (gx lo h) (Nw p c B z A h)) (hg : ∀ h1, PenB p c A h1 → Fr p h h1 → RO (ga lo h1) (Nw p c B' z' A' h1)) : RO (gOp dAdd gx ga lo h) (Nw p c B' (z + z') A' h) := by
  unfold gOp
  rw [RO_bind]
  refine hx.mono ?_
  rintro d h1 ⟨r, vs, rfl, S, P1, F1⟩
  rw [RO_bind]
  refine (hg h1 P1 F1).mono ?_
  rintro d h' ⟨s, es, rfl, S', P', F⟩
  have er' : h'[r]? = some (Ob.lst vs) := (F.old r S.np (List.getElem?_eq_some_iff.mp S.at_).1).trans S.at_
  have hp := P'.lt.1
  haveI i1 := ex2_pen p r
  haveI i2 := ex2_pen p h'.length
  have l1 := S.len
  have l2 := S'.len
  rw [RO_calm, add_list er' S'.at_ (by rw [List.length_append]; omega), RO_ok]
  refine ⟨h'.length, vs ++ es, rfl, ⟨last_get h' _ [], by omega, by have := P'.lt.2.1; omega, by rw [List.length_append]; omega, fun x hx => ?_⟩, P'.app _, F1.trans (F.trans (Fr.app _ _))⟩
  rcases (List.mem_append).mp hx with hx | hx
  · have f := (S.all x hx).keep (q := p) hB F (Nat.le_refl 20) (Nat.le_refl 9000)
    exact (ex2_new f).keep (q := p) (Nat.le_refl B') (Fr.app h' _) (Nat.le_refl 20) (Nat.le_refl 9000)
  · exact (ex2_new (S'.all x hx)).keep (q := p) (Nat.le_refl B') (Fr.app h' _) (Nat.le_refl 20) (Nat.le_refl 9000)

end G2
end

section
set_option Elab.async false
set_option linter.all false
set_option maxRecDepth 100000
set_option maxHeartbeats 2100000
namespace G2
open PySem PySem.Spec L2 Mach
/-! ### k03: kinds of exceptions -/
def KN : List Str := ["NoItems", "NoOrder", "NoItem", "NoPlace", "NoRule", "NoStanding", "NoAsks", "NoRules", "NoCase", "NoLot", "NoGoal", "NoLog", "NoNumber", "NoName", "NoRecord", "NoAnswer", "NoMark", "NoSeeker", "TooMany"]
def isC (c t : Str) : Bool := (supC c t).getD false
def kd (c t : Str) : D := .bl (isC c t)
def told (c : Str) : Bool := KN.all fun t => (supC c t).isSome
theorem told_at {c t : Str} (hc : told c = true) (ht : t ∈ KN) : supC c t = some (isC c t) := by
  have h1 := List.all_eq_true.mp hc t ht
  obtain ⟨b, e⟩ := Option.isSome_iff_exists.mp h1
  unfold isC
  rw [e]
  rfl
theorem is_eq {r : Nat} {c t : Str} {fs : List (Str × D)} {lo : Lo} {h : Hq} (hl : lo[0]? = some (some (.ref r))) (e : h[r]? = some (.exc c fs)) (hc : told c = true) (ht : t ∈ KN) :
    gBi (dIsE supC) (gCons (gV 0) (gCons (gK (.cls t)) gNil)) lo h = .ok (kd c t) h := by
  simp only [gBi, Mach.gCons, gK, Mach.gNil, bind_ok, gV_at hl, dIsE, e, told_at hc ht]
  rfl
def gIs (t : Str) : GE := gBi (dIsE supC) (gCons (gV 0) (gCons (gK (.cls t)) gNil))
def gsIs : List Str → GA
  | [] => gNil
  | t :: ts => gCons (gIs t) (gsIs ts)
theorem gs_eq {r : Nat} {c : Str} {fs : List (Str × D)} {lo : Lo} {h : Hq} (hl : lo[0]? = some (some (.ref r))) (e : h[r]? = some (.exc c fs)) (hc : told c = true) : ∀ {ts : List Str}, (∀ t ∈ ts, t ∈ KN) → gsIs ts lo h = .ok (ts.map (kd c)) h
  | [], _ => rfl
  | t :: ts, ht => by
    show gCons (gIs t) (gsIs ts) lo h = _
    unfold Mach.gCons gIs
    rw [is_eq hl e hc (ht t (by simp)), bind_ok, gs_eq hl e hc (fun t2 h2 => ht t2 (List.mem_cons_of_mem _ h2)), bind_ok]
    rfl
theorem plus_is {r q : Nat} {c : Str} {fs : List (Str × D)} {lo : Lo} {h : Hq} {xs : List D} {ts : List Str} (hl : lo[0]? = some (some (.ref r))) (hq : lo[1]? = some (some (.ref q))) (e : h[r]? = some (.exc c fs)) (eq : h[q]? = some (.lst xs)) (hc : told c = true) (ht : ∀ t ∈ ts, t ∈ KN) (hz : xs.length ≤ 100) (hz2 : ts.length ≤ 100) :
    gOp dAdd (gV 1) (gLst (gsIs ts)) lo h = .ok (.ref (h.length + 1)) (h ++ [.lst (ts.map (kd c)), .lst (xs ++ ts.map (kd c))]) := by
  unfold gOp
  rw [gV_at hq, bind_ok, lst_eq (gs_eq hl e hc ht) (by rw [List.length_map]; omega), bind_ok]
  rw [add_list (app_get eq) (last_get _ _ []) (by rw [List.length_append, List.length_map]; omega)]
  rw [List.append_assoc, List.length_append]
  rfl
theorem kinds_text : b__law_kinds = sSeq (sAsg (gLst (gsIs ["NoItems", "NoOrder", "NoItem", "NoPlace"])) (Tg.nm 1).f) (sSeq (sAsg (gOp dAdd (gV 1) (gLst (gsIs ["NoRule", "NoStanding", "NoAsks"]))) (Tg.nm 1).f) (sSeq (sAsg (gOp dAdd (gV 1) (gLst (gsIs ["NoRules", "NoCase", "NoLot", "NoGoal"]))) (Tg.nm 1).f) (sSeq (sAsg (gOp dAdd (gV 1) (gLst (gsIs ["NoLog", "NoNumber", "NoName"]))) (Tg.nm 1).f) (sSeq (sAsg (gOp dAdd (gV 1) (gLst (gsIs ["NoRecord", "NoAnswer", "NoMark"]))) (Tg.nm 1).f) (sRet (gOp dAdd (gV 1) (gLst (gsIs ["NoSeeker", "TooMany"])))))))) := by
  simp only [b__law_kinds, gsIs, gIs]
theorem kinds_ok {r : Nat} {c : Str} {fs : List (Str × D)} {h : Hq} (e : h[r]? = some (.exc c fs)) (hc : told c = true) : ∃ q g, f__law_kinds [.ref r] h = .ok (.ref q) (h ++ g) ∧ (h ++ g)[q]? = some (.lst (KN.map (kd c))) := by
  have key : RO (f__law_kinds [.ref r] h) fun d h' => ∃ q, d = .ref q ∧ ∃ g, h' = h ++ g ∧ h'[q]? = some (.lst (KN.map (kd c))) := by
    unfold f__law_kinds
    rw [RO_raw, kinds_text]
    simp only [List.map_cons, List.map_nil, List.length_cons, List.length_nil, Nat.reduceAdd, Nat.reduceSub, List.replicate_succ, List.replicate_zero, List.cons_append, List.nil_append]
    have nx : ∀ (g : Hq) (a b : Ob), (h ++ (g ++ [a, b]))[(h ++ g).length + 1]? = some b := by
      intro g a b
      rw [← List.append_assoc, List.getElem?_append_right (by omega)]
      simp
    have st : ∀ (ts us : List Str) (g : Hq) (q : Nat), (h ++ g)[q]? = some (.lst (us.map (kd c))) → us.length ≤ 50 → ts.length ≤ 50 → (∀ t ∈ ts, t ∈ KN) → ∃ q' g', gOp dAdd (gV 1) (gLst (gsIs ts)) [some (.ref r), some (.ref q)] (h ++ g) = .ok (.ref q') (h ++ g') ∧ (h ++ g')[q']? = some (.lst ((us ++ ts).map (kd c))) := by
      intro ts us g q eq hu ht hk
      have := plus_is (c := c) (fs := fs) (lo := [some (.ref r), some (.ref q)]) (ts := ts) rfl rfl (app_get e) eq hc hk (by rw [List.length_map]; omega) (by omega)
      refine ⟨_, g ++ [.lst (ts.map (kd c)), .lst ((us ++ ts).map (kd c))], ?_, nx _ _ _⟩
      rw [this, List.append_assoc, List.map_append]
    refine seq_of (asg_of (lst_eq (gs_eq (lo := [some (.ref r), none]) rfl e hc (by decide +kernel)) (by rw [List.length_map]; decide)) ?_)
    have q0 := last_get h (.lst ((["NoItems", "NoOrder", "NoItem", "NoPlace"] : List Str).map (kd c))) []
    simp only [List.set_cons_zero, List.set_cons_succ]
    obtain ⟨q1, g1, e1, l1⟩ := st ["NoRule", "NoStanding", "NoAsks"] ["NoItems", "NoOrder", "NoItem", "NoPlace"] _ _ q0 (by decide) (by decide) (by decide +kernel)
    refine seq_of (asg_of e1 ?_)
    simp only [List.set_cons_zero, List.set_cons_succ]
    obtain ⟨q2, g2, e2, l2⟩ := st ["NoRules", "NoCase", "NoLot", "NoGoal"] ["NoItems", "NoOrder", "NoItem", "NoPlace", "NoRule", "NoStanding", "NoAsks"] _ _ l1 (by decide) (by decide) (by decide +kernel)
    refine seq_of (asg_of e2 ?_)
    simp only [List.set_cons_zero, List.set_cons_succ]
    obtain ⟨q3, g3, e3, l3⟩ := st ["NoLog", "NoNumber", "NoName"] ["NoItems", "NoOrder", "NoItem", "NoPlace", "NoRule", "NoStanding", "NoAsks", "NoRules", "NoCase", "NoLot", "NoGoal"] _ _ l2 (by decide) (by decide) (by decide +kernel)
    refine seq_of (asg_of e3 ?_)
    simp only [List.set_cons_zero, List.set_cons_succ]
    obtain ⟨q4, g4, e4, l4⟩ := st ["NoRecord", "NoAnswer", "NoMark"] ["NoItems", "NoOrder", "NoItem", "NoPlace", "NoRule", "NoStanding", "NoAsks", "NoRules", "NoCase", "NoLot", "NoGoal", "NoLog", "NoNumber", "NoName"] _ _ l3 (by decide) (by decide) (by decide +kernel)
    refine seq_of (asg_of e4 ?_)
    simp only [List.set_cons_zero, List.set_cons_succ]
    obtain ⟨q5, g5, e5, l5⟩ := st ["NoSeeker", "TooMany"] ["NoItems", "NoOrder", "NoItem", "NoPlace", "NoRule", "NoStanding", "NoAsks", "NoRules", "NoCase", "NoLot", "NoGoal", "NoLog", "NoNumber", "NoName", "NoRecord", "NoAnswer", "NoMark"] _ _ l4 (by decide) (by decide) (by decide +kernel)
    exact ret_of e5 ⟨_, rfl, _, rfl, l5⟩
  obtain ⟨d, h', e1, q, rfl, g, rfl, e2⟩ := key.get
  exact ⟨q, g, e1, e2⟩

end G2
end

section
set_option Elab.async false
set_option linter.all false
set_option maxRecDepth 100000
set_option maxHeartbeats 2100000
namespace G2
open PySem PySem.Spec L2 Mach
/-! ### k03: the law -/
def refsF : Nat → Nat → List D
  | _, 0 => []
  | b, n + 1 => .ref b :: refsF (b + 1) n
def exO (v : D) : Str × Option Str → Ob
  | (c, none) => .exc c []
  | (c, some f) => .exc c [(f, v)]
def gsM (i : Nat) : List (Str × Option Str) → GA
  | [] => gNil
  | (c, none) :: cs => gCons (gNewX c) (gsM i cs)
  | (c, some f) :: cs => gCons (gNewF c f (gV i)) (gsM i cs)
theorem gsM_eq {i : Nat} {lo : Lo} {v : D} (hi : lo[i]? = some (some v)) : ∀ {cs : List (Str × Option Str)} {h : Hq}, gsM i cs lo h = .ok (refsF h.length cs.length) (h ++ cs.map (exO v))
  | [], h => by show R.ok [] h = _; simp [refsF]
  | (c, none) :: cs, h => by
    show Mach.gCons (gNewX c) (gsM i cs) lo h = _
    unfold Mach.gCons gNewX
    simp only [bind_ok]
    rw [gsM_eq hi (cs := cs) (h := h ++ [Ob.exc c []]), bind_ok]
    rw [List.length_append, List.append_assoc]
    rfl
  | (c, some f) :: cs, h => by
    show Mach.gCons (gNewF c f (gV i)) (gsM i cs) lo h = _
    unfold Mach.gCons gNewF
    simp only [gV_at hi, bind_ok]
    rw [gsM_eq hi (cs := cs) (h := h ++ [Ob.exc c [(f, v)]]), bind_ok]
    rw [List.length_append, List.append_assoc]
    rfl
def EA : List (Str × Option Str) := [("NoItems", none), ("NoOrder", none), ("NoItem", none), ("NoPlace", none), ("NoRule", none), ("NoStanding", none), ("NoAsks", none)]
def EB : List (Str × Option Str) := [("NoRules", none), ("NoCase", none), ("NoLot", none), ("NoGoal", none), ("NoLog", none), ("NoNumber", none), ("NoName", none)]
def EC : List (Str × Option Str) := [("NoRecord", none), ("NoAnswer", some "answer"), ("NoMark", some "number"), ("NoSeeker", none), ("TooMany", some "limit")]
def madeD (b : Nat) : List D := (refsF b 7 ++ refsF (b + 8) 7) ++ refsF (b + 17) 5
def GG (b : Nat) (v : D) : Hq := EA.map (exO v) ++ [.lst (refsF b 7)] ++ (EB.map (exO v) ++ [.lst (refsF (b + 8) 7), .lst (refsF b 7 ++ refsF (b + 8) 7)]) ++ (EC.map (exO v) ++ [.lst (refsF (b + 17) 5), .lst (madeD b)])
def goodB (i : Nat) (c : Str) : Bool := told c && (KN.countP (isC c) == 1) && ((KN.map (isC c))[i]? == some true) && (supC c "SortError" == some true) && (supC c c).isSome
theorem made_at (b : Nat) (v : D) : ∀ (i : Nat) (d : D), (madeD b)[i]? = some d → ∃ k c fs, d = .ref (b + k) ∧ (GG b v)[k]? = some (.exc c fs) ∧ goodB i c = true
  | 0, d, e => by cases e; exact ⟨0, "NoItems", _, rfl, rfl, by decide +kernel⟩
  | 1, d, e => by cases e; exact ⟨1, "NoOrder", _, rfl, rfl, by decide +kernel⟩
  | 2, d, e => by cases e; exact ⟨2, "NoItem", _, rfl, rfl, by decide +kernel⟩
  | 3, d, e => by cases e; exact ⟨3, "NoPlace", _, rfl, rfl, by decide +kernel⟩
  | 4, d, e => by cases e; exact ⟨4, "NoRule", _, rfl, rfl, by decide +kernel⟩
  | 5, d, e => by cases e; exact ⟨5, "NoStanding", _, rfl, rfl, by decide +kernel⟩
  | 6, d, e => by cases e; exact ⟨6, "NoAsks", _, rfl, rfl, by decide +kernel⟩
  | 7, d, e => by cases e; exact ⟨8, "NoRules", _, rfl, rfl, by decide +kernel⟩
  | 8, d, e => by cases e; exact ⟨9, "NoCase", _, rfl, rfl, by decide +kernel⟩
  | 9, d, e => by cases e; exact ⟨10, "NoLot", _, rfl, rfl, by decide +kernel⟩
  | 10, d, e => by cases e; exact ⟨11, "NoGoal", _, rfl, rfl, by decide +kernel⟩
  | 11, d, e => by cases e; exact ⟨12, "NoLog", _, rfl, rfl, by decide +kernel⟩
  | 12, d, e => by cases e; exact ⟨13, "NoNumber", _, rfl, rfl, by decide +kernel⟩
  | 13, d, e => by cases e; exact ⟨14, "NoName", _, rfl, rfl, by decide +kernel⟩
  | 14, d, e => by cases e; exact ⟨17, "NoRecord", _, rfl, rfl, by decide +kernel⟩
  | 15, d, e => by cases e; exact ⟨18, "NoAnswer", _, rfl, rfl, by decide +kernel⟩
  | 16, d, e => by cases e; exact ⟨19, "NoMark", _, rfl, rfl, by decide +kernel⟩
  | 17, d, e => by cases e; exact ⟨20, "NoSeeker", _, rfl, rfl, by decide +kernel⟩
  | 18, d, e => by cases e; exact ⟨21, "TooMany", _, rfl, rfl, by decide +kernel⟩
  | n + 19, d, e => by
    have : (madeD b).length = 19 := rfl
    have z : (madeD b)[n + 19]? = none := List.getElem?_eq_none_iff.mpr (by omega)
    rw [z] at e
    cases e
theorem at_app (h g : Hq) (k : Nat) : (h ++ g)[h.length + k]? = g[k]? := by rw [List.getElem?_append_right (by omega)]; congr 1; omega
theorem bl_eqv (x : Bool) : PyData.eqv (.bool x) (.bool true) = x := by cases x <;> decide +kernel
theorem kinds_data {h : Hq} {q : Nat} {c : Str} (e : h[q]? = some (.lst (KN.map (kd c)))) : toP h 60 (.ref q) = some (.list (KN.map fun t => .bool (isC c t))) := by
  simp only [toP, e]
  have : ∀ l : List Str, (l.map (kd c)).mapM (toP h 59) = some (l.map fun t => PyData.bool (isC c t)) := by
    intro l
    induction l with
    | nil => rfl
    | cons t l ih => rw [List.map_cons, List.mapM_cons, ih]; rfl
  rw [this]
  rfl
theorem kinds_count {h : Hq} {q : Nat} {c : Str} (e : h[q]? = some (.lst (KN.map (kd c)))) : dCountL (.ref q) [.bl true] h = .ok (.int ((KN.countP (isC c) : Nat) : Int)) h := by
  have e2 : toP h 60 (.bl true) = some (.bool true) := rfl
  simp only [dCountL, kinds_data e, e2]
  rw [List.countP_map]
  have : (fun z => PyData.eqv z (.bool true)) ∘ (fun t => PyData.bool (isC c t)) = isC c := by funext t; exact bl_eqv _
  rw [this]
theorem kinds_in {h : Hq} {q : Nat} {c : Str} (e : h[q]? = some (.lst (KN.map (kd c)))) : dInA (.bl true) (.ref q) h = .ok (.bl (KN.any (isC c))) h := by
  have e2 : toP h 60 (.bl true) = some (.bool true) := rfl
  simp only [dInA, kinds_data e, e2]
  rw [List.any_map]
  have : (fun z => PyData.eqv z (.bool true)) ∘ (fun t => PyData.bool (isC c t)) = isC c := by funext t; exact bl_eqv _
  rw [this]
theorem fldX_eq {c f : Str} {a : GE} {lo : Lo} {h h1 : Hq} {r : Nat} {v : D} (ha : a lo h = .ok (.ref r) h1) (e : h1[r]? = some (.exc c [(f, v)])) : gFldX c f a lo h = .ok v h1 := by
  unfold gFldX
  rw [ha, bind_ok]
  simp only [e, if_true, List.lookup_cons, beq_self_eq_true]
theorem isE_cls {r : Nat} {c t : Str} {fs : List (Str × D)} {h : Hq} {b : Bool} (e : h[r]? = some (.exc c fs)) (s : supC c t = some b) : dIsE supC [.ref r, .cls t] h = .ok (.bl b) h := by
  simp only [dIsE, e, s]
theorem isE_ty {r : Nat} {c : Str} {fs : List (Str × D)} {h : Hq} (e : h[r]? = some (.exc c fs)) (s : (supC c c).isSome = true) : dIsE supC [.ref r, .ty "ValueError"] h = .ok (.bl true) h := by
  simp only [dIsE, e, s, and_self, if_true]
theorem str_fv {p : Nat → Bool} {B : Nat} {h : Hq} {n : Nat} {s : Str} (e : (decide (s.length ≤ 20) && PyData.strOk s) = true) : Fv p B h n 21 (.str s) := by
  rw [Bool.and_eq_true, decide_eq_true_eq] at e
  refine ⟨21, ?_, Nat.le_refl _⟩
  have : (if s.length ≤ 20 ∧ PyData.strOk s = true then some 21 else none) = some 21 := if_pos e
  cases n <;> exact this
abbrev big : Nat := 100000000000000000000
def opts (b : Nat) : List D := [.non, .int 0, .int 7, .int (-1), .str "x", .tup [.int 0, .int 1], .int 100000000000000000000, .bl true, .ref b, .tup [.non], .ref (b + 2)]
/-- texts of three of a value -/
theorem three_repr {h : Hq} {v : D} (f : ∀ g, Fv noEx big (h ++ g) 5 50 v) : ∃ s, ∀ g r, (h ++ g)[r]? = some (.lst [v, v, v]) → dRepr [.ref r] (h ++ g) = .ok (.str s) (h ++ g) := by
  obtain ⟨k, e, hk⟩ := f []
  rw [List.append_nil] at e
  obtain ⟨w, e1, _⟩ := sz_data (show big ≤ 1000000000000000000000000000000 by decide) 5 v k e
  have ew : ∀ g, toP (h ++ g) 59 v = some w := fun g => toP_keep (fun _ _ z => app_get z) 59 v w (toP_fuel 5 59 v w (by omega) e1)
  refine ⟨(PyData.list [w, w, w]).shown, fun g r er => ?_⟩
  obtain ⟨p, R⟩ := (lst_fv er ((Fs_cons (f g) (Fs_cons (f g) (Fs_cons (f g) Fs0))).up (Nat.le_refl _) (Nat.le_refl _) (Nat.le_refl _))).rp (show big ≤ _ by decide) (by decide) (by decide)
  have z := R.1
  have e3 : toP (h ++ g) 60 (.ref r) = some (.list [w, w, w]) := by
    simp only [toP, er]
    rw [List.mapM_cons, List.mapM_cons, List.mapM_cons, ew g]
    rfl
  rw [e3] at z
  cases z
  exact R.repr
theorem opts_fv {h : Hq} {b : Nat} (e0 : h[b]? = some (.lst [])) (e1 : h[b + 1]? = some (.lst [.int 1])) (e2 : h[b + 2]? = some (.lst [.str "a", .ref (b + 1)])) {v : D} (hv : v ∈ opts b) (g : Hq) : Fv noEx big (h ++ g) 4 40 v := by
  have one : ∀ i : Int, i.natAbs ≤ big → Fv noEx big (h ++ g) 2 1 (.int i) := fun i hi => int_fv hi (Nat.le_refl _)
  simp only [opts, List.mem_cons, List.not_mem_nil, or_false] at hv
  rcases hv with rfl | rfl | rfl | rfl | rfl | rfl | rfl | rfl | rfl | rfl | rfl
  · exact non_fv (by decide)
  · exact int_fv (by decide) (by decide)
  · exact int_fv (by decide) (by decide)
  · exact int_fv (by decide) (by decide)
  · exact (str_fv (n := 4) (by decide +kernel)).up (Nat.le_refl _) (Nat.le_refl _) (by decide)
  · exact (tup_fv (Fs_cons (one 0 (by decide)) (Fs_cons (one 1 (by decide)) Fs0))).up (Nat.le_refl _) (by decide) (by decide)
  · exact int_fv (by decide) (by decide)
  · exact bl_fv (by decide)
  · exact (lst_fv (n := 2) (app_get e0) Fs0).up (Nat.le_refl _) (by decide) (by decide)
  · exact (tup_fv (n := 2) (Fs_cons (non_fv (Nat.le_refl 1)) Fs0)).up (Nat.le_refl _) (by decide) (by decide)
  · have i1 := lst_fv (B := big) (n := 2) (app_get (g := g) e1) (Fs_cons (one 1 (by decide)) Fs0)
    exact (lst_fv (app_get (g := g) e2) (Fs_cons (str_fv (n := 3) (by decide +kernel)) (Fs_cons i1 Fs0))).up (Nat.le_refl _) (by decide) (by decide)

end G2
end

section
set_option Elab.async false
set_option linter.all false
set_option maxRecDepth 100000
set_option maxHeartbeats 2100000
namespace G2
open PySem PySem.Spec L2 Mach
/-! ### k03: the law itself -/
def ED : List (Str × Option Str) := [("NoAnswer", some "answer"), ("NoMark", some "number"), ("TooMany", some "limit")]
theorem law_text : b_law = (sSeq (sAsg (gCall f__law_open (gCons (gV 0) gNil)) (Tg.nm 1).f)
  (sSeq (sAsg (gCall f__law_one (gCons (gV 1) (gCons (gLst (gCons (gK .non) (gCons (gK (.int 0)) (gCons (gK (.int 7)) (gCons (gUn dNeg (gK (.int 1))) (gCons (gK (.str "x")) (gCons (gTup (gCons (gK (.int 0)) (gCons (gK (.int 1)) gNil))) (gCons (gOp dPow (gK (.int 10)) (gK (.int 20))) (gCons (gK (.bl true)) (gCons (gLst gNil) (gCons (gTup (gCons (gK .non) gNil)) (gCons (gLst (gCons (gK (.str "a")) (gCons (gLst (gCons (gK (.int 1)) gNil)) gNil))) gNil)))))))))))) gNil))) (Tg.nm 2).f)
  (sSeq (sAsg (gLst (gsM 2 EA)) (Tg.nm 3).f)
  (sSeq (sAsg (gOp dAdd (gV 3) (gLst (gsM 2 EB))) (Tg.nm 3).f)
  (sSeq (sAsg (gOp dAdd (gV 3) (gLst (gsM 2 EC))) (Tg.nm 3).f)
  (sSeq (sFor (iEnuG (gCons (gV 3) gNil)) (Tg.tp [4, 5])
  (sSeq (sAsg (gCall f__law_kinds (gCons (gV 5) gNil)) (Tg.nm 6).f)
  (sSeq (sIf (gOr (gTst (gOp dNeB (gMt dCountL (gV 6) (gCons (gK (.bl true)) gNil)) (gK (.int 1)))) (gTst (gOp dIsNot (gOp dIx (gV 6) (gV 4)) (gK (.bl true)))))
  (sRet (gK (.bl false)))
  sNil)
  (sIf (gOr (gNot (gTst (gBi (dIsE supC) (gCons (gV 5) (gCons (gK (.cls "SortError")) gNil))))) (gNot (gTst (gBi (dIsE supC) (gCons (gV 5) (gCons (gK (.ty "ValueError")) gNil))))))
  (sRet (gK (.bl false)))
  sNil))))
  (sSeq (sAsg (gNewX "SortError") (Tg.nm 7).f)
  (sSeq (sIf (gOr (gTst (gOp dInA (gK (.bl true)) (gCall f__law_kinds (gCons (gV 7) gNil)))) (gNot (gTst (gBi (dIsE supC) (gCons (gV 7) (gCons (gK (.ty "ValueError")) gNil))))))
  (sRet (gK (.bl false)))
  sNil)
  (sSeq (sIf (gTst (gOp dNeB (gBi dRepr (gCons (gLst (gCons (gFldX "NoAnswer" "answer" (gOp dIx (gV 3) (gK (.int 15)))) (gCons (gFldX "NoMark" "number" (gOp dIx (gV 3) (gK (.int 16)))) (gCons (gFldX "TooMany" "limit" (gOp dIx (gV 3) (gK (.int 18)))) gNil)))) gNil)) (gBi dRepr (gCons (gOp dMulB (gLst (gCons (gV 2) gNil)) (gK (.int 3))) gNil))))
  (sRet (gK (.bl false)))
  sNil)
  (sSeq (sAsg (gLst (gCons (gV 2) gNil)) (Tg.nm 8).f)
  (sSeq (sAsg (gLst (gsM 8 ED)) (Tg.nm 9).f)
  (sSeq (sExpr (gMt dAppend (gV 8) (gCons (gK .non) gNil)))
  (sRet (gOp dEqB (gBi dRepr (gCons (gLst (gCons (gFldX "NoAnswer" "answer" (gOp dIx (gV 9) (gK (.int 0)))) (gCons (gFldX "NoMark" "number" (gOp dIx (gV 9) (gK (.int 1)))) (gCons (gFldX "TooMany" "limit" (gOp dIx (gV 9) (gK (.int 2)))) gNil)))) gNil)) (gBi dRepr (gCons (gOp dMulB (gLst (gCons (gV 8) gNil)) (gK (.int 3))) gNil)))))))))))))))) := by
  simp only [b_law, EA, EB, EC, ED, gsM]
theorem good_at {i : Nat} {c : Str} (h : goodB i c = true) : told c = true ∧ KN.countP (isC c) = 1 ∧ (KN.map (isC c))[i]? = some true ∧ supC c "SortError" = some true ∧ (supC c c).isSome = true := by
  unfold goodB at h
  simp only [Bool.and_eq_true, beq_iff_eq] at h
  obtain ⟨⟨⟨⟨h1, h2⟩, h3⟩, h4⟩, h5⟩ := h
  exact ⟨h1, h2, h3, h4, h5⟩
theorem plus_new {q : Nat} {lo : Lo} {h : Hq} {xs : List D} {cs : List (Str × Option Str)} {v : D} (hq : lo[3]? = some (some (.ref q))) (hi : lo[2]? = some (some v)) (eq : h[q]? = some (.lst xs)) (hc : cs.length ≤ 100) (hx : xs.length ≤ 100) (hr : ∀ b, (refsF b cs.length).length ≤ 100) :
    gOp dAdd (gV 3) (gLst (gsM 2 cs)) lo h = .ok (.ref (h.length + cs.length + 1)) (h ++ (cs.map (exO v) ++ [.lst (refsF h.length cs.length), .lst (xs ++ refsF h.length cs.length)])) := by
  have z := hr h.length
  unfold gOp
  rw [gV_at hq, bind_ok, lst_eq (gsM_eq hi) (by omega), bind_ok]
  rw [add_list (app_get (app_get eq)) (last_get _ _ []) (by rw [List.length_append]; omega)]
  rw [List.length_append, List.length_append, List.length_map, List.append_assoc, List.append_assoc]
  rfl
theorem for_enl {N : Lo → Hq → Prop} {T : D → Hq → Prop} {gi : GI} {t : Tg} {body : GS} {ds : List D} {r : Nat} {lo : Lo} {h h1 : Hq} (hg : gi lo h = .ok (.enl r) h1) (I : Nat → Lo → Hq → Prop) (own : ∀ i lo h, I i lo h → h[r]? = some (.lst ds))
    (step : ∀ i d lo h, ds[i]? = some d → I i lo h → ∃ lo1, t.f (.tup [.int i, d]) lo = some lo1 ∧ SO (body lo1 h) (I (i + 1)) T) (done : ∀ lo h, I ds.length lo h → N lo h) (init : I 0 lo h1) : SO (sFor gi t body lo h) N T := by
  unfold sFor
  rw [hg]
  show SO (forL (.enl r) t body ((Src.enl r).cnt h1) 0 lo h1) N T
  have : (Src.enl r).cnt h1 = ds.length := by simp only [Src.cnt, own 0 lo h1 init]
  rw [this]
  exact SO_forEnl I own step done _ 0 lo h1 (Nat.zero_add _) init
theorem op_of {f : D → D → Hq → R D} {a b : GE} {lo : Lo} {h h1 h2 h3 : Hq} {x y z : D} (ha : a lo h = .ok x h1) (hb : b lo h1 = .ok y h2) (hf : f x y h2 = .ok z h3) : gOp f a b lo h = .ok z h3 := by
  unfold gOp
  rw [ha, bind_ok, hb, bind_ok, hf]
  rfl
theorem bi1_of {f : List D → Hq → R D} {a : GE} {lo : Lo} {h h1 h2 : Hq} {x z : D} (ha : a lo h = .ok x h1) (hf : f [x] h1 = .ok z h2) : gBi f (gCons a gNil) lo h = .ok z h2 := by
  unfold gBi
  rw [gCons_bind, ha, bind_ok, show gNil lo h1 = .ok [] h1 from rfl, bind_ok, bind_ok, hf]
  rfl
theorem ne_one {h : Hq} : dNeB (.int 1) (.int 1) h = .ok (.bl false) h := rfl
theorem law_ok : ∀ ns : List Int, ns.length ≤ 63 → ∃ h', f_law [.rol (ns.map D.int)] [] = .ok (.bl true) h' := by
  intro ns hns
  have key : RO (f_law [.rol (ns.map D.int)] []) fun d _ => d = .bl true := by
    unfold f_law
    rw [RO_raw, law_text]
    simp only [List.map_cons, List.map_nil, List.length_cons, List.length_nil, Nat.reduceAdd, Nat.reduceSub, List.replicate_succ, List.replicate_zero, List.cons_append, List.nil_append]
    refine seq_of (asg_ro (Q := fun d h' => ∃ p c, d = .ref p ∧ PenB p c 0 h') (by simp only [gCall, gCons_bind, gV, List.getElem?_cons_zero, bind_ok, Mach.gNil]; exact open_ok hns) ?_)
    rintro _ h1 ⟨p, c, rfl, P1⟩
    simp only [List.set_cons_succ, List.set_cons_zero]
    -- the value
    refine seq_of (asg_ro (Q := fun d h' => ∃ b, d ∈ opts b ∧ h'[b]? = some (.lst []) ∧ h'[b + 1]? = some (.lst [.int 1]) ∧ h'[b + 2]? = some (.lst [.str "a", .ref (b + 1)])) ?_ ?_)
    · have e : gLst (gCons (gK .non) (gCons (gK (.int 0)) (gCons (gK (.int 7)) (gCons (gUn dNeg (gK (.int 1))) (gCons (gK (.str "x")) (gCons (gTup (gCons (gK (.int 0)) (gCons (gK (.int 1)) gNil))) (gCons (gOp dPow (gK (.int 10)) (gK (.int 20))) (gCons (gK (.bl true)) (gCons (gLst gNil) (gCons (gTup (gCons (gK .non) gNil)) (gCons (gLst (gCons (gK (.str "a")) (gCons (gLst (gCons (gK (.int 1)) gNil)) gNil))) gNil)))))))))))
          [some (D.rol (ns.map D.int)), some (.ref p), none, none, none, none, none, none, none, none] h1 = .ok (.ref (h1.length + 3)) (h1 ++ [.lst [], .lst [.int 1], .lst [.str "a", .ref (h1.length + 1)], .lst (opts h1.length)]) := by
        have p20 : ∀ h : Hq, dPow (.int 10) (.int 20) h = .ok (.int 100000000000000000000) h := fun h => (pow_int (n := 20) (by decide) (by decide)).trans (by rw [show ((10 : Int) ^ 20) = 100000000000000000000 by decide +kernel])
        have l0 : ∀ (lo : Lo) (h : Hq), gLst gNil lo h = .ok (.ref h.length) (h ++ [.lst []]) := fun lo h => lst_eq rfl (by decide)
        have l1 : ∀ (lo : Lo) (h : Hq), gLst (gCons (gK (.int 1)) gNil) lo h = .ok (.ref h.length) (h ++ [.lst [.int 1]]) := fun lo h => lst_eq rfl (by decide)
        have l2 : ∀ (lo : Lo) (h : Hq), gLst (gCons (gK (.str "a")) (gCons (gLst (gCons (gK (.int 1)) gNil)) gNil)) lo h = .ok (.ref (h.length + 1)) (h ++ [.lst [.int 1], .lst [.str "a", .ref h.length]]) := fun lo h => by
          refine (lst_eq (h1 := h ++ [.lst [.int 1]]) (ds := [.str "a", .ref h.length]) ?_ (by show 2 ≤ 4096; decide)).trans ?_
          · simp only [Mach.gCons, gK, bind_ok, l1, Mach.gNil]
          · rw [List.length_append, List.append_assoc]; rfl
        refine (lst_eq (h1 := h1 ++ [.lst [], .lst [.int 1], .lst [.str "a", .ref (h1.length + 1)]]) (ds := opts h1.length) ?_ (by show 11 ≤ 4096; decide)).trans ?_
        · simp only [gCons_bind, gK, bind_ok, gUn, dNeg, gTup1, gTup2, gOp, p20, l0, l2, Mach.gNil, List.length_append, List.length_cons, List.length_nil, List.append_assoc, List.cons_append, List.nil_append]
          rfl
        · rw [List.length_append, List.append_assoc]; rfl
      have e1 : gCall f__law_one (gCons (gV 1) (gCons (gLst (gCons (gK .non) (gCons (gK (.int 0)) (gCons (gK (.int 7)) (gCons (gUn dNeg (gK (.int 1))) (gCons (gK (.str "x")) (gCons (gTup (gCons (gK (.int 0)) (gCons (gK (.int 1)) gNil))) (gCons (gOp dPow (gK (.int 10)) (gK (.int 20))) (gCons (gK (.bl true)) (gCons (gLst gNil) (gCons (gTup (gCons (gK .non) gNil)) (gCons (gLst (gCons (gK (.str "a")) (gCons (gLst (gCons (gK (.int 1)) gNil)) gNil))) gNil)))))))))))) gNil))
          [some (D.rol (ns.map D.int)), some (.ref p), none, none, none, none, none, none, none, none] h1 = f__law_one [.ref p, .ref (h1.length + 3)] (h1 ++ [.lst [], .lst [.int 1], .lst [.str "a", .ref (h1.length + 1)], .lst (opts h1.length)]) := by
        generalize hG : gLst (gCons (gK .non) (gCons (gK (.int 0)) (gCons (gK (.int 7)) (gCons (gUn dNeg (gK (.int 1))) (gCons (gK (.str "x")) (gCons (gTup (gCons (gK (.int 0)) (gCons (gK (.int 1)) gNil))) (gCons (gOp dPow (gK (.int 10)) (gK (.int 20))) (gCons (gK (.bl true)) (gCons (gLst gNil) (gCons (gTup (gCons (gK .non) gNil)) (gCons (gLst (gCons (gK (.str "a")) (gCons (gLst (gCons (gK (.int 1)) gNil)) gNil))) gNil))))))))))) = G at e ⊢
        simp only [gCall, gCons_bind, gV, List.getElem?_cons_succ, List.getElem?_cons_zero, bind_ok, e, Mach.gNil]
      rw [e1]
      have lt1 := P1.lt
      refine (one_ok (s := h1.length + 3) (ds := opts h1.length) (P1.app _) (by decide) (at_app _ _ 3) (by omega) (by show 1 ≤ 11; decide) (by show 11 < 1000000; decide)).mono ?_
      rintro v h2 ⟨hv, P2, F2⟩
      exact ⟨h1.length, hv, (F2.old _ (by omega) (by rw [List.length_append]; simp)).trans (at_app _ _ 0), (F2.old _ (by omega) (by rw [List.length_append]; simp)).trans (at_app _ _ 1), (F2.old _ (by omega) (by rw [List.length_append]; simp)).trans (at_app _ _ 2)⟩
    rintro v h2 ⟨b0, hv, v0, v1, v2⟩
    have fv := opts_fv v0 v1 v2 hv
    clear hv v0 v1 v2 P1
    simp only [List.set_cons_succ, List.set_cons_zero]
    obtain ⟨txt, T3⟩ := three_repr (v := v) (h := h2) (fun g => (fv g).up (Nat.le_refl _) (by decide) (by decide))
    -- the exceptions
    have a1 : gLst (gsM 2 EA) [some (D.rol (ns.map D.int)), some (.ref p), some v, none, none, none, none, none, none, none] h2 = .ok (.ref (h2.length + 7)) (h2 ++ (EA.map (exO v) ++ [Ob.lst (refsF h2.length 7)])) :=
      (lst_eq (gsM_eq rfl) (by show 7 ≤ 4096; decide)).trans (by rw [List.length_append, List.append_assoc]; rfl)
    have a2 : gOp dAdd (gV 3) (gLst (gsM 2 EB)) [some (D.rol (ns.map D.int)), some (.ref p), some v, some (.ref (h2.length + 7)), none, none, none, none, none, none] (h2 ++ (EA.map (exO v) ++ [Ob.lst (refsF h2.length 7)]))
        = .ok (.ref (h2.length + 16)) (h2 ++ (EA.map (exO v) ++ [Ob.lst (refsF h2.length 7)] ++ (EB.map (exO v) ++ [Ob.lst (refsF (h2.length + 8) 7), Ob.lst (refsF h2.length 7 ++ refsF (h2.length + 8) 7)]))) := by
      have hl : (h2 ++ (EA.map (exO v) ++ [Ob.lst (refsF h2.length 7)])).length = h2.length + 8 := by rw [List.length_append]; rfl
      refine (plus_new (v := v) (q := h2.length + 7) (xs := refsF h2.length 7) rfl rfl ((at_app _ _ 7).trans rfl) (by decide) (by show 7 ≤ 100; decide) (fun b => by show 7 ≤ 100; decide)).trans ?_
      rw [hl, List.append_assoc]
      rfl
    have a3 : gOp dAdd (gV 3) (gLst (gsM 2 EC)) [some (D.rol (ns.map D.int)), some (.ref p), some v, some (.ref (h2.length + 16)), none, none, none, none, none, none] (h2 ++ (EA.map (exO v) ++ [Ob.lst (refsF h2.length 7)] ++ (EB.map (exO v) ++ [Ob.lst (refsF (h2.length + 8) 7), Ob.lst (refsF h2.length 7 ++ refsF (h2.length + 8) 7)])))
        = .ok (.ref (h2.length + 23)) (h2 ++ GG h2.length v) := by
      have hl : (h2 ++ (EA.map (exO v) ++ [Ob.lst (refsF h2.length 7)] ++ (EB.map (exO v) ++ [Ob.lst (refsF (h2.length + 8) 7), Ob.lst (refsF h2.length 7 ++ refsF (h2.length + 8) 7)]))).length = h2.length + 17 := by rw [List.length_append]; rfl
      refine (plus_new (v := v) (q := h2.length + 16) (xs := refsF h2.length 7 ++ refsF (h2.length + 8) 7) rfl rfl ((at_app _ _ 16).trans rfl) (by decide) (by show 14 ≤ 100; decide) (fun b => by show 5 ≤ 100; decide)).trans ?_
      rw [hl, List.append_assoc]
      rfl
    refine seq_of (asg_of a1 ?_)
    simp only [List.set_cons_succ, List.set_cons_zero]
    refine seq_of (asg_of a2 ?_)
    simp only [List.set_cons_succ, List.set_cons_zero]
    refine seq_of (asg_of a3 ?_)
    simp only [List.set_cons_succ, List.set_cons_zero]
    clear a1 a2 a3
    have own : ∀ g, (h2 ++ GG h2.length v ++ g)[h2.length + 23]? = some (.lst (madeD h2.length)) := fun g => app_get ((at_app _ _ 23).trans rfl)
    refine seq_of (for_enl (r := h2.length + 23) (ds := madeD h2.length) (h1 := h2 ++ GG h2.length v) ?_ (fun _ lo H => (∃ x4 x5 x6, lo = [some (D.rol (ns.map D.int)), some (.ref p), some v, some (.ref (h2.length + 23)), x4, x5, x6, none, none, none]) ∧ ∃ g, H = h2 ++ GG h2.length v ++ g) ?_ ?_ ?_ ⟨⟨none, none, none, rfl⟩, [], by rw [List.append_nil]⟩)
    · have o := own []
      rw [List.append_nil] at o
      simp only [iEnuG, gCons_bind, gV, List.getElem?_cons_succ, List.getElem?_cons_zero, bind_ok, Mach.gNil, o]
    · rintro i lo H ⟨_, g, rfl⟩
      exact own g
    · rintro i d lo H ed ⟨⟨x4, x5, x6, rfl⟩, g, rfl⟩
      obtain ⟨k, c, fs, rfl, ek, good⟩ := made_at _ v _ _ ed
      obtain ⟨g1, g2, g3, g4, g5⟩ := good_at good
      have eO : (h2 ++ GG h2.length v ++ g)[h2.length + k]? = some (.exc c fs) := app_get ((at_app _ _ k).trans ek)
      refine ⟨_, rfl, ?_⟩
      obtain ⟨q, g', e6, e7⟩ := kinds_ok eO g1
      have e8 : atI (KN.map (kd c)) (i : Int) = some (.bl true) := by
        rw [at_i]
        have : KN.map (kd c) = (KN.map (isC c)).map D.bl := by rw [List.map_map]; rfl
        rw [this, List.getElem?_map, g3]
        rfl
      have eO2 : (h2 ++ GG h2.length v ++ g ++ g')[h2.length + k]? = some (.exc c fs) := app_get eO
      simp only [List.set_cons_succ, List.set_cons_zero]
      refine seq_of (asg_of (d := .ref q) (h1 := h2 ++ GG h2.length v ++ g ++ g') (by simp only [gV, gK, Mach.gNil, Mach.gCons, gOp, gUn, gBi, gCall, gTst, gAnd, gOr, gNot, gIf, gAndV, gOrV, gNotV, gChain, gMt, gSl, gNo, gPart, bind_ok, calm_ok, List.getElem?_cons_zero, List.getElem?_cons_succ, List.set_cons_zero, List.set_cons_succ, at_0, at_1, at_2, if_true, if_false, Bool.not_true, Bool.not_false, Bool.false_eq_true, reduceIte, e6]) ?_)
      simp only [List.set_cons_succ, List.set_cons_zero]
      refine seq_of (if_of (x := false) (h1 := h2 ++ GG h2.length v ++ g ++ g') ?_ (fun z => nomatch z) (fun _ => nil_of ?_))
      · have kc := kinds_count e7
        rw [g2] at kc
        have n1 : ∀ h : Hq, dNeB (.int ((1 : Nat) : Int)) (.int 1) h = .ok (.bl false) h := fun h => by rw [dNe_int]; rfl
        simp only [gV, gK, Mach.gNil, Mach.gCons, gOp, gUn, gBi, gCall, gTst, gAnd, gOr, gNot, gIf, gAndV, gOrV, gNotV, gChain, gMt, gSl, gNo, gPart, bind_ok, calm_ok, List.getElem?_cons_zero, List.getElem?_cons_succ, List.set_cons_zero, List.set_cons_succ, at_0, at_1, at_2, if_true, if_false, Bool.not_true, Bool.not_false, Bool.false_eq_true, reduceIte, listD, e7, kc, n1, dIx_list e7 e8, dIsNot]
        rfl
      refine if_of (x := false) (h1 := h2 ++ GG h2.length v ++ g ++ g') ?_ (fun z => nomatch z) (fun _ => nil_of ?_)
      · simp only [gV, gK, Mach.gNil, Mach.gCons, gOp, gUn, gBi, gCall, gTst, gAnd, gOr, gNot, gIf, gAndV, gOrV, gNotV, gChain, gMt, gSl, gNo, gPart, bind_ok, calm_ok, List.getElem?_cons_zero, List.getElem?_cons_succ, List.set_cons_zero, List.set_cons_succ, at_0, at_1, at_2, if_true, if_false, Bool.not_true, Bool.not_false, Bool.false_eq_true, reduceIte, isE_cls eO2 g4, isE_ty eO2 g5]
      exact ⟨⟨_, _, _, rfl⟩, g ++ g', by rw [List.append_assoc]⟩
    rintro lo H ⟨⟨x4, x5, x6, rfl⟩, g, rfl⟩
    -- the plain one
    refine seq_of (asg_of (d := .ref (h2 ++ GG h2.length v ++ g).length) (h1 := h2 ++ GG h2.length v ++ g ++ [.exc "SortError" []]) rfl ?_)
    simp only [List.set_cons_succ, List.set_cons_zero]
    have eP := last_get (h2 ++ GG h2.length v ++ g) (.exc "SortError" []) []
    obtain ⟨q, g', e6, e7⟩ := kinds_ok eP (by decide +kernel)
    refine seq_of (if_of (x := false) (h1 := h2 ++ GG h2.length v ++ g ++ [.exc "SortError" []] ++ g') ?_ (fun z => nomatch z) (fun _ => nil_of ?_))
    · have no : KN.any (isC "SortError") = false := by decide +kernel
      simp only [gV, gK, Mach.gNil, Mach.gCons, gOp, gUn, gBi, gCall, gTst, gAnd, gOr, gNot, gIf, gAndV, gOrV, gNotV, gChain, gMt, gSl, gNo, gPart, bind_ok, calm_ok, List.getElem?_cons_zero, List.getElem?_cons_succ, List.set_cons_zero, List.set_cons_succ, at_0, at_1, at_2, if_true, if_false, Bool.not_true, Bool.not_false, Bool.false_eq_true, reduceIte, e6, kinds_in e7, no, isE_ty (app_get eP) (show (supC "SortError" "SortError").isSome = true by decide +kernel)]
    obtain ⟨gg, hgg⟩ : ∃ gg, h2 ++ GG h2.length v ++ g ++ [Ob.exc "SortError" []] ++ g' = h2 ++ (GG h2.length v ++ gg) := ⟨g ++ [Ob.exc "SortError" []] ++ g', by simp only [List.append_assoc]⟩
    rw [hgg]
    generalize hX7 : D.ref (h2 ++ GG h2.length v ++ g).length = x7
    clear e6 e7 eP hgg hX7
    have own2 : (h2 ++ (GG h2.length v ++ gg))[h2.length + 23]? = some (.lst (madeD h2.length)) := by rw [← List.append_assoc]; exact own gg
    have ex : ∀ k o, (GG h2.length v)[k]? = some o → (h2 ++ (GG h2.length v ++ gg))[h2.length + k]? = some o := fun k o e => by rw [← List.append_assoc]; exact app_get ((at_app _ _ k).trans e)
    have mul3 : ∀ (h : Hq) (r : Nat) (y : D), h[r]? = some (Ob.lst [y]) → dMulB (.ref r) (.int 3) h = .ok (.ref h.length) (h ++ [.lst [y, y, y]]) := fun h r y e => by
      show dMul (.ref r) (.int 3) h = _
      simp only [dMul, e]
      rfl
    have rep3 : ∀ (lo : Lo) (i : Nat) (y : D) (h : Hq), lo[i]? = some (some y) → gOp dMulB (gLst (gCons (gV i) gNil)) (gK (.int 3)) lo h = .ok (.ref (h.length + 1)) (h ++ [.lst [y], .lst [y, y, y]]) := fun lo i y h e => by
      have l1 : gLst (gCons (gV i) gNil) lo h = .ok (.ref h.length) (h ++ [.lst [y]]) := lst_eq (by simp only [gCons_bind, gV_at e, bind_ok, Mach.gNil]) (by show 1 ≤ 4096; decide)
      have m := mul3 _ _ _ (last_get h (.lst [y]) [])
      rw [List.length_append, List.append_assoc] at m
      exact op_of l1 rfl m
    generalize hK : GG h2.length v ++ gg = K at own2 ex ⊢
    have fA : ∀ lo : Lo, lo[3]? = some (some (.ref (h2.length + 23))) → gFldX "NoAnswer" "answer" (gOp dIx (gV 3) (gK (.int 15))) lo (h2 ++ K) = .ok v (h2 ++ K) := fun lo e => fldX_eq (r := h2.length + 18) (by
      simp only [gOp, gK, gV_at e, bind_ok, calm_ok, dIx_list own2 (show atI (madeD h2.length) 15 = some (.ref (h2.length + 18)) from (at_i (madeD h2.length) 15).trans rfl)]) (ex 18 _ rfl)
    have fM : ∀ lo : Lo, lo[3]? = some (some (.ref (h2.length + 23))) → gFldX "NoMark" "number" (gOp dIx (gV 3) (gK (.int 16))) lo (h2 ++ K) = .ok v (h2 ++ K) := fun lo e => fldX_eq (r := h2.length + 19) (by
      simp only [gOp, gK, gV_at e, bind_ok, calm_ok, dIx_list own2 (show atI (madeD h2.length) 16 = some (.ref (h2.length + 19)) from (at_i (madeD h2.length) 16).trans rfl)]) (ex 19 _ rfl)
    have fT : ∀ lo : Lo, lo[3]? = some (some (.ref (h2.length + 23))) → gFldX "TooMany" "limit" (gOp dIx (gV 3) (gK (.int 18))) lo (h2 ++ K) = .ok v (h2 ++ K) := fun lo e => fldX_eq (r := h2.length + 21) (by
      simp only [gOp, gK, gV_at e, bind_ok, calm_ok, dIx_list own2 (show atI (madeD h2.length) 18 = some (.ref (h2.length + 21)) from (at_i (madeD h2.length) 18).trans rfl)]) (ex 21 _ rfl)
    clear own ex own2 hK
    have T3' : ∀ g r, (h2 ++ K ++ g)[r]? = some (Ob.lst [v, v, v]) → dRepr [.ref r] (h2 ++ K ++ g) = .ok (.str txt) (h2 ++ K ++ g) := fun g r e => by
      rw [List.append_assoc] at e ⊢
      exact T3 _ r e
    have fv2 : ∀ g, Fv noEx big (h2 ++ K ++ g) 4 40 v := fun g => by rw [List.append_assoc]; exact fv _
    clear T3 fv
    generalize h2 ++ K = H at fA fM fT T3' fv2 ⊢
    generalize h2.length + 23 = M at fA fM fT ⊢
    clear K h2
    have qA := fA [some (D.rol (ns.map D.int)), some (.ref p), some v, some (.ref M), x4, x5, x6, some x7, none, none] rfl
    have qM := fM [some (D.rol (ns.map D.int)), some (.ref p), some v, some (.ref M), x4, x5, x6, some x7, none, none] rfl
    have qT := fT [some (D.rol (ns.map D.int)), some (.ref p), some v, some (.ref M), x4, x5, x6, some x7, none, none] rfl
    clear fA fM fT
    refine seq_of (if_of (x := false) (h1 := H ++ [Ob.lst [v, v, v], Ob.lst [v], Ob.lst [v, v, v]]) ?_ (fun z => nomatch z) (fun _ => nil_of ?_))
    · have b1 : gLst (gCons (gFldX "NoAnswer" "answer" (gOp dIx (gV 3) (gK (.int 15)))) (gCons (gFldX "NoMark" "number" (gOp dIx (gV 3) (gK (.int 16)))) (gCons (gFldX "TooMany" "limit" (gOp dIx (gV 3) (gK (.int 18)))) gNil)))
          [some (D.rol (ns.map D.int)), some (.ref p), some v, some (.ref M), x4, x5, x6, some x7, none, none] H = .ok (.ref H.length) (H ++ [Ob.lst [v, v, v]]) :=
        lst_eq (by simp only [gCons_bind, qA, qM, qT, bind_ok, Mach.gNil]) (by show 3 ≤ 4096; decide)
      have b2 := T3' [Ob.lst [v, v, v]] H.length (last_get _ _ [])
      have b3 := rep3 [some (D.rol (ns.map D.int)), some (.ref p), some v, some (.ref M), x4, x5, x6, some x7, none, none] 2 v (H ++ [Ob.lst [v, v, v]]) rfl
      have b4 := T3' [Ob.lst [v, v, v], Ob.lst [v], Ob.lst [v, v, v]] ((H ++ [Ob.lst [v, v, v]]).length + 1) (by rw [List.length_append]; exact at_app _ _ 2)
      rw [List.append_assoc] at b3
      unfold gTst
      rw [op_of (bi1_of b1 b2) (bi1_of b3 b4) ne_str]
      rfl
    -- what is kept is the object itself
    have fv3 : ∀ g, Fv noEx big (H ++ [Ob.lst [v, v, v], Ob.lst [v], Ob.lst [v, v, v]] ++ g) 4 40 v := fun g => by rw [List.append_assoc]; exact fv2 _
    generalize H ++ [Ob.lst [v, v, v], Ob.lst [v], Ob.lst [v, v, v]] = H at fv3 ⊢
    clear qA qM qT T3' fv2
    have c1 : gLst (gCons (gV 2) gNil) [some (D.rol (ns.map D.int)), some (.ref p), some v, some (.ref M), x4, x5, x6, some x7, none, none] H = .ok (.ref H.length) (H ++ [Ob.lst [v]]) := lst_eq rfl (by show 1 ≤ 4096; decide)
    refine seq_of (asg_of c1 ?_)
    simp only [List.set_cons_succ, List.set_cons_zero]
    have c2 : gLst (gsM 8 ED) [some (D.rol (ns.map D.int)), some (.ref p), some v, some (.ref M), x4, x5, x6, some x7, some (.ref H.length), none] (H ++ [Ob.lst [v]]) = .ok (.ref (H.length + 4)) (H ++ ([Ob.lst [v]] ++ (ED.map (exO (.ref H.length)) ++ [Ob.lst (refsF (H.length + 1) 3)]))) := by
      refine (lst_eq (gsM_eq rfl) (by show 3 ≤ 4096; decide)).trans ?_
      rw [List.length_append, List.length_append, List.append_assoc, List.append_assoc]
      rfl
    refine seq_of (asg_of c2 ?_)
    simp only [List.set_cons_succ, List.set_cons_zero]
    have e0 : (H ++ ([Ob.lst [v]] ++ (ED.map (exO (.ref H.length)) ++ [Ob.lst (refsF (H.length + 1) 3)])))[H.length]? = some (Ob.lst [v]) := last_get _ _ _
    have c3 : (H ++ ([Ob.lst [v]] ++ (ED.map (exO (.ref H.length)) ++ [Ob.lst (refsF (H.length + 1) 3)]))).set H.length (Ob.lst ([v] ++ [.non])) = H ++ ([Ob.lst [v, .non]] ++ (ED.map (exO (.ref H.length)) ++ [Ob.lst (refsF (H.length + 1) 3)])) := by
      rw [List.set_append_right _ _ (Nat.le_refl _), Nat.sub_self]
      rfl
    have c4 := append_at e0 (d := .non) (by show 1 < 1000000; decide)
    rw [c3] at c4
    refine seq_of (expr_of (d := .non) (h1 := H ++ ([Ob.lst [v, .non]] ++ (ED.map (exO (.ref H.length)) ++ [Ob.lst (refsF (H.length + 1) 3)]))) (by simp only [gV, gK, Mach.gNil, Mach.gCons, gOp, gUn, gBi, gCall, gTst, gAnd, gOr, gNot, gIf, gAndV, gOrV, gNotV, gChain, gMt, gSl, gNo, gPart, bind_ok, calm_ok, List.getElem?_cons_zero, List.getElem?_cons_succ, List.set_cons_zero, List.set_cons_succ, at_0, at_1, at_2, if_true, if_false, Bool.not_true, Bool.not_false, Bool.false_eq_true, reduceIte, listD, e0, c4]) ?_)
    have k0 : ∀ g, (H ++ ([Ob.lst [v, .non]] ++ (ED.map (exO (.ref H.length)) ++ [Ob.lst (refsF (H.length + 1) 3)])) ++ g)[H.length]? = some (Ob.lst [v, .non]) := fun g => app_get (last_get _ _ _)
    have own : (H ++ ([Ob.lst [v, .non]] ++ (ED.map (exO (.ref H.length)) ++ [Ob.lst (refsF (H.length + 1) 3)])))[H.length + 4]? = some (Ob.lst (refsF (H.length + 1) 3)) := (at_app _ _ 4).trans rfl
    have x1 : (H ++ ([Ob.lst [v, .non]] ++ (ED.map (exO (.ref H.length)) ++ [Ob.lst (refsF (H.length + 1) 3)])))[H.length + 1]? = some (.exc "NoAnswer" [("answer", .ref H.length)]) := (at_app _ _ 1).trans rfl
    have x2 : (H ++ ([Ob.lst [v, .non]] ++ (ED.map (exO (.ref H.length)) ++ [Ob.lst (refsF (H.length + 1) 3)])))[H.length + 1 + 1]? = some (.exc "NoMark" [("number", .ref H.length)]) := (at_app _ _ 2).trans rfl
    have x3 : (H ++ ([Ob.lst [v, .non]] ++ (ED.map (exO (.ref H.length)) ++ [Ob.lst (refsF (H.length + 1) 3)])))[H.length + 1 + 1 + 1]? = some (.exc "TooMany" [("limit", .ref H.length)]) := (at_app _ _ 3).trans rfl
    have fk : ∀ g, Fv noEx big (H ++ ([Ob.lst [v, .non]] ++ (ED.map (exO (.ref H.length)) ++ [Ob.lst (refsF (H.length + 1) 3)])) ++ g) 5 50 (.ref H.length) := fun g =>
      (lst_fv (k0 g) (Fs_cons (by rw [List.append_assoc]; exact fv3 _) (Fs_cons (non_fv (n := 4) (Nat.le_refl 1)) Fs0))).up (Nat.le_refl _) (Nat.le_refl _) (by decide)
    clear c1 c2 c3 c4 e0 k0 fv3
    generalize H ++ ([Ob.lst [v, .non]] ++ (ED.map (exO (.ref H.length)) ++ [Ob.lst (refsF (H.length + 1) 3)])) = G at own x1 x2 x3 fk ⊢
    obtain ⟨tx, T4⟩ := three_repr fk
    have gA : gFldX "NoAnswer" "answer" (gOp dIx (gV 9) (gK (.int 0))) [some (D.rol (ns.map D.int)), some (.ref p), some v, some (.ref M), x4, x5, x6, some x7, some (.ref H.length), some (.ref (H.length + 4))] G = .ok (.ref H.length) G :=
      fldX_eq (op_of rfl rfl (dIx_list own rfl)) x1
    have gM : gFldX "NoMark" "number" (gOp dIx (gV 9) (gK (.int 1))) [some (D.rol (ns.map D.int)), some (.ref p), some v, some (.ref M), x4, x5, x6, some x7, some (.ref H.length), some (.ref (H.length + 4))] G = .ok (.ref H.length) G :=
      fldX_eq (op_of rfl rfl (dIx_list own rfl)) x2
    have gT : gFldX "TooMany" "limit" (gOp dIx (gV 9) (gK (.int 2))) [some (D.rol (ns.map D.int)), some (.ref p), some v, some (.ref M), x4, x5, x6, some x7, some (.ref H.length), some (.ref (H.length + 4))] G = .ok (.ref H.length) G :=
      fldX_eq (op_of rfl rfl (dIx_list own rfl)) x3
    have d1 : gLst (gCons (gFldX "NoAnswer" "answer" (gOp dIx (gV 9) (gK (.int 0)))) (gCons (gFldX "NoMark" "number" (gOp dIx (gV 9) (gK (.int 1)))) (gCons (gFldX "TooMany" "limit" (gOp dIx (gV 9) (gK (.int 2)))) gNil)))
        [some (D.rol (ns.map D.int)), some (.ref p), some v, some (.ref M), x4, x5, x6, some x7, some (.ref H.length), some (.ref (H.length + 4))] G = .ok (.ref G.length) (G ++ [Ob.lst [.ref H.length, .ref H.length, .ref H.length]]) :=
      lst_eq (by simp only [gCons_bind, gA, gM, gT, bind_ok, Mach.gNil]) (by show 3 ≤ 4096; decide)
    have d2 := T4 [Ob.lst [.ref H.length, .ref H.length, .ref H.length]] G.length (last_get _ _ [])
    have d3 := rep3 [some (D.rol (ns.map D.int)), some (.ref p), some v, some (.ref M), x4, x5, x6, some x7, some (.ref H.length), some (.ref (H.length + 4))] 8 (.ref H.length) (G ++ [Ob.lst [.ref H.length, .ref H.length, .ref H.length]]) rfl
    rw [List.append_assoc] at d3
    have d4 := T4 ([Ob.lst [.ref H.length, .ref H.length, .ref H.length]] ++ [Ob.lst [.ref H.length], Ob.lst [.ref H.length, .ref H.length, .ref H.length]]) ((G ++ [Ob.lst [.ref H.length, .ref H.length, .ref H.length]]).length + 1) (by rw [List.length_append]; exact at_app _ _ 2)
    exact ret_of (op_of (bi1_of d1 d2) (bi1_of d3 d4) eq_str) rfl
  obtain ⟨d, h', e, rfl⟩ := key.get
  exact ⟨h', e⟩

end G2
end

section
set_option Elab.async false
set_option linter.all false
set_option maxRecDepth 100000
set_option maxHeartbeats 4100000
namespace G2
open PySem PySem.Spec L2 Mach
section
variable {P : Program} {w : World} {K : PySem.W.Frag} {mg : Str → Option Value} {base : Heap} {cm : Str → Option Addr}
theorem okF_law (B : Blt mg) (C : Cst P K mg cm) {f : Addr} {fd : FuncData} (F : Fun K "law" "law" s_law f fd) (F__law_kinds : DefOk P w K mg base cm 1 "_law_kinds" ["one"] f__law_kinds) (F__law_one : DefOk P w K mg base cm 3 "_law_one" ["pen", "some"] f__law_one) (F__law_open : DefOk P w K mg base cm 1 "_law_open" ["script"] f__law_open) : FnG P w K mg base cm 4 f fd ["script"] f_law :=
  fnR_of F sc_law fun cdv A outer s H E room guard =>
    have tk := takes_of (X := cxOf (L2.CX P w) P w K mg base N_law "law" (defScope s_law) f cdv A outer s H E) rfl rfl rfl rfl
    have pas := passes_of (X := cxOf (L2.CX P w) P w K mg base N_law "law" (defScope s_law) f cdv A outer s H E) rfl
  (mss_cons (ms_asg (t := (Tg.nm 1)) (me_callD F__law_open room (by omega) guard (gl (by kernel_rfl)) tk rfl (ma_cons (me_v (i := 0) rfl (Or.inl rfl)) ma_nil) (arg_cons arg_nil)) (mg_nm sc_law.nd rfl (Or.inl rfl)))
  (mss_cons (ms_asg (t := (Tg.nm 2)) (me_callD F__law_one room (by omega) guard (gl (by kernel_rfl)) tk rfl (ma_cons (me_v (i := 1) rfl (Or.inl rfl)) (ma_cons (me_lst (ma_cons me_non (ma_cons me_int (ma_cons me_int (ma_cons (me_un un_neg ok_neg me_int) (ma_cons me_str (ma_cons (me_tup (ma_cons me_int (ma_cons me_int ma_nil))) (ma_cons (me_op op_pow ok_pow me_int me_int) (ma_cons me_bl (ma_cons (me_lst ma_nil) (ma_cons (me_tup (ma_cons me_non ma_nil)) (ma_cons (me_lst (ma_cons me_str (ma_cons (me_lst (ma_cons me_int ma_nil)) ma_nil))) ma_nil)))))))))))) ma_nil)) (arg_cons (arg_cons arg_nil))) (mg_nm sc_law.nd rfl (Or.inl rfl)))
  (mss_cons (ms_asg (t := (Tg.nm 3)) (me_lst (ma_cons (me_newX C.x_NoItems (gl (by kernel_rfl))) (ma_cons (me_newX C.x_NoOrder (gl (by kernel_rfl))) (ma_cons (me_newX C.x_NoItem (gl (by kernel_rfl))) (ma_cons (me_newX C.x_NoPlace (gl (by kernel_rfl))) (ma_cons (me_newX C.x_NoRule (gl (by kernel_rfl))) (ma_cons (me_newX C.x_NoStanding (gl (by kernel_rfl))) (ma_cons (me_newX C.x_NoAsks (gl (by kernel_rfl))) ma_nil)))))))) (mg_nm sc_law.nd rfl (Or.inl rfl)))
  (mss_cons (ms_asg (t := (Tg.nm 3)) (me_op op_add3 ok_add (me_v (i := 3) rfl (Or.inl rfl)) (me_lst (ma_cons (me_newX C.x_NoRules (gl (by kernel_rfl))) (ma_cons (me_newX C.x_NoCase (gl (by kernel_rfl))) (ma_cons (me_newX C.x_NoLot (gl (by kernel_rfl))) (ma_cons (me_newX C.x_NoGoal (gl (by kernel_rfl))) (ma_cons (me_newX C.x_NoLog (gl (by kernel_rfl))) (ma_cons (me_newX C.x_NoNumber (gl (by kernel_rfl))) (ma_cons (me_newX C.x_NoName (gl (by kernel_rfl))) ma_nil))))))))) (mg_nm sc_law.nd rfl (Or.inl rfl)))
  (mss_cons (ms_asg (t := (Tg.nm 3)) (me_op op_add3 ok_add (me_v (i := 3) rfl (Or.inl rfl)) (me_lst (ma_cons (me_newX C.x_NoRecord (gl (by kernel_rfl))) (ma_cons (me_newF C.i_NoAnswer room (by omega) (gl (by kernel_rfl)) (me_v (i := 2) rfl (Or.inl rfl))) (ma_cons (me_newF C.i_NoMark room (by omega) (gl (by kernel_rfl)) (me_v (i := 2) rfl (Or.inl rfl))) (ma_cons (me_newX C.x_NoSeeker (gl (by kernel_rfl))) (ma_cons (me_newF C.i_TooMany room (by omega) (gl (by kernel_rfl)) (me_v (i := 2) rfl (Or.inl rfl))) ma_nil))))))) (mg_nm sc_law.nd rfl (Or.inl rfl)))
  (mss_cons (ms_for (t := (Tg.tp [4, 5])) pas rfl (mi_enu (gl (by kernel_rfl)) B.enumerate (ma_cons (me_v (i := 3) rfl (Or.inl rfl)) ma_nil)) (mg_tp rfl (mgs_cons sc_law.nd rfl (Or.inl rfl) (mgs_cons sc_law.nd rfl (Or.inl rfl) mgs_nil)))
  (mss_cons (ms_asg (t := (Tg.nm 6)) (me_callD F__law_kinds room (by omega) guard (gl (by kernel_rfl)) tk rfl (ma_cons (me_v (i := 5) rfl (Or.inl rfl)) ma_nil) (arg_cons arg_nil)) (mg_nm sc_law.nd rfl (Or.inl rfl)))
  (mss_cons (ms_if (MW.mt (mw_or (mt_cmp (op_neB room) ok_neB (me_mt ok_lstCnt PySem.F.slot_list_count PySem.F.type_list_count (mt_lstCnt (units65 room)) (me_v (i := 6) rfl (Or.inl rfl)) (ma_cons me_bl ma_nil)) me_int (nomark _)) (mw_or1 (mt_cmp op_isNot2 ok_isNot (me_ix (me_v (i := 6) rfl (Or.inl rfl)) (me_v (i := 4) rfl (Or.inl rfl)) (fun _ _ => rfl)) me_bl (nomark _)))))
  (mss_one (ms_ret me_bl))
  mss_nil)
  (mss_one (ms_if (MW.mt (mw_or (mt_not (mt_val (me_bi (ok_isE C.sup C.ve) c_isE (gl (by kernel_rfl)) B.isinstance (by decide +kernel) (ma_cons (me_v (i := 5) rfl (Or.inl rfl)) (ma_cons (me_clsE C.x_SortError (gl (by kernel_rfl))) ma_nil))))) (mw_or1 (mt_not (mt_val (me_bi (ok_isE C.sup C.ve) c_isE (gl (by kernel_rfl)) B.isinstance (by decide +kernel) (ma_cons (me_v (i := 5) rfl (Or.inl rfl)) (ma_cons (me_tyn (gl (by kernel_rfl)) C.z_ValueError PyProof.Rows.Boot.«ValueError») ma_nil))))))))
  (mss_one (ms_ret me_bl))
  mss_nil)))))
  (mss_cons (ms_asg (t := (Tg.nm 7)) (me_newX C.x_SortError (gl (by kernel_rfl))) (mg_nm sc_law.nd rfl (Or.inl rfl)))
  (mss_cons (ms_if (MW.mt (mw_or (mt_cmp (op_inA room) ok_inA me_bl (me_callD F__law_kinds room (by omega) guard (gl (by kernel_rfl)) tk rfl (ma_cons (me_v (i := 7) rfl (Or.inl rfl)) ma_nil) (arg_cons arg_nil)) (by rfl)) (mw_or1 (mt_not (mt_val (me_bi (ok_isE C.sup C.ve) c_isE (gl (by kernel_rfl)) B.isinstance (by decide +kernel) (ma_cons (me_v (i := 7) rfl (Or.inl rfl)) (ma_cons (me_tyn (gl (by kernel_rfl)) C.z_ValueError PyProof.Rows.Boot.«ValueError») ma_nil))))))))
  (mss_one (ms_ret me_bl))
  mss_nil)
  (mss_cons (ms_if (mt_cmp (op_neB room) ok_neB (me_bi ok_repr (c_repr guard room.units) (gl (by kernel_rfl)) B.repr (by decide +kernel) (ma_cons (me_lst (ma_cons (me_fldX C.fx_NoAnswer_answer (me_ix (me_v (i := 3) rfl (Or.inl rfl)) me_int (fun _ _ => rfl))) (ma_cons (me_fldX C.fx_NoMark_number (me_ix (me_v (i := 3) rfl (Or.inl rfl)) me_int (fun _ _ => rfl))) (ma_cons (me_fldX C.fx_TooMany_limit (me_ix (me_v (i := 3) rfl (Or.inl rfl)) me_int (fun _ _ => rfl))) ma_nil)))) ma_nil)) (me_bi ok_repr (c_repr guard room.units) (gl (by kernel_rfl)) B.repr (by decide +kernel) (ma_cons (me_op op_mul4 ok_mulB (me_lst (ma_cons (me_v (i := 2) rfl (Or.inl rfl)) ma_nil)) me_int) ma_nil)) (nomark _))
  (mss_one (ms_ret me_bl))
  mss_nil)
  (mss_cons (ms_asg (t := (Tg.nm 8)) (me_lst (ma_cons (me_v (i := 2) rfl (Or.inl rfl)) ma_nil)) (mg_nm sc_law.nd rfl (Or.inl rfl)))
  (mss_cons (ms_asg (t := (Tg.nm 9)) (me_lst (ma_cons (me_newF C.i_NoAnswer room (by omega) (gl (by kernel_rfl)) (me_v (i := 8) rfl (Or.inl rfl))) (ma_cons (me_newF C.i_NoMark room (by omega) (gl (by kernel_rfl)) (me_v (i := 8) rfl (Or.inl rfl))) (ma_cons (me_newF C.i_TooMany room (by omega) (gl (by kernel_rfl)) (me_v (i := 8) rfl (Or.inl rfl))) ma_nil)))) (mg_nm sc_law.nd rfl (Or.inl rfl)))
  (mss_cons (ms_expr (me_mt ok_append PySem.F.slot_list_append PySem.F.type_list_append mt_append (me_v (i := 8) rfl (Or.inl rfl)) (ma_cons me_non ma_nil)))
  (mss_one (ms_ret (me_cmp (op_eqB room) ok_eqB (me_bi ok_repr (c_repr guard room.units) (gl (by kernel_rfl)) B.repr (by decide +kernel) (ma_cons (me_lst (ma_cons (me_fldX C.fx_NoAnswer_answer (me_ix (me_v (i := 9) rfl (Or.inl rfl)) me_int (fun _ _ => rfl))) (ma_cons (me_fldX C.fx_NoMark_number (me_ix (me_v (i := 9) rfl (Or.inl rfl)) me_int (fun _ _ => rfl))) (ma_cons (me_fldX C.fx_TooMany_limit (me_ix (me_v (i := 9) rfl (Or.inl rfl)) me_int (fun _ _ => rfl))) ma_nil)))) ma_nil)) (me_bi ok_repr (c_repr guard room.units) (gl (by kernel_rfl)) B.repr (by decide +kernel) (ma_cons (me_op op_mul4 ok_mulB (me_lst (ma_cons (me_v (i := 8) rfl (Or.inl rfl)) ma_nil)) me_int) ma_nil)) (nomark _))))))))))))))))
end
def sx_NoAnswer : Stmt := ((match topS 18 with | .ClassDef _ _ _ b _ _ _ _ _ _ _ => b | _ => []).getD 0 (.Pass ⟨0, 0, 0, 0⟩))
def sx_NoMark : Stmt := ((match topS 19 with | .ClassDef _ _ _ b _ _ _ _ _ _ _ => b | _ => []).getD 0 (.Pass ⟨0, 0, 0, 0⟩))
def sx_TooMany : Stmt := ((match topS 20 with | .ClassDef _ _ _ b _ _ _ _ _ _ _ => b | _ => []).getD 0 (.Pass ⟨0, 0, 0, 0⟩))
theorem kit_of {K : PySem.W.Frag} {C S : Addr} {b : Bool} (h2 : PySem.W.isClsIn K S = true) (h3 : PySem.W.typeIn K (.ref S) = some (.type "type")) (h4 : PySem.W.subIn K (.ref C) (.ref S) = some b) : PySem.W.kitCls K (.ref C) (.ref S) = some b := by
  have e : ((PySem.W.clsIn K S).isSome && PySem.W.typeIn K (.ref S) == some (.type "type")) = true := by
    rw [h3, show (PySem.W.clsIn K S).isSome = true from h2] <;> rfl
  show (if ((PySem.W.clsIn K S).isSome && PySem.W.typeIn K (.ref S) == some (.type "type")) = true then PySem.W.subIn K (.ref C) (.ref S) else none) = some b
  rw [if_pos e]
  exact h4
theorem exm_of {K : PySem.W.Frag} {C S : Addr} (h1 : PySem.W.subIn K (.ref S) (.type "BaseException") = some true) (h2 : PySem.W.isClsIn K S = true) (h3 : PySem.W.typeIn K (.ref S) = some (.type "type")) (h4 : PySem.W.subIn K (.ref C) (.ref S) = some true) : PySem.W.exmOne K (.ref C) (.ref S) = some true := by
  unfold PySem.W.exmOne
  rw [if_pos (by rw [h1] <;> rfl)]
  exact kit_of h2 h3 h4
theorem kit_same {K : PySem.W.Frag} {C : Addr} : PySem.W.kitOne K (.ref C) (.ref C) = some true := by
  unfold PySem.W.kitOne
  rw [if_pos (by simp)]
theorem kit_ne {K : PySem.W.Frag} {C S : Addr} (hs : PySem.W.subIn K (.ref C) (.ref C) = some true) (h2 : PySem.W.isClsIn K S = true) (h3 : PySem.W.typeIn K (.ref S) = some (.type "type")) (h4 : PySem.W.subIn K (.ref C) (.ref S) = some false) : PySem.W.kitOne K (.ref C) (.ref S) = some false := by
  have hne : C ≠ S := fun z => by
    subst z
    rw [hs] at h4
    cases h4
  unfold PySem.W.kitOne
  rw [if_neg (show ¬ _ by simpa using hne)]
  exact kit_of h2 h3 h4

def cmC (K_SortError K_NoItems K_NoOrder K_NoItem K_NoPlace K_NoRule K_NoStanding K_NoAsks K_NoRules K_NoCase K_NoLot K_NoGoal K_NoLog K_NoNumber K_NoName K_NoRecord K_NoSeeker K_NoAnswer K_NoMark K_TooMany : Addr) (x : Str) : Option Addr := if x = "SortError" then some K_SortError else if x = "NoItems" then some K_NoItems else if x = "NoOrder" then some K_NoOrder else if x = "NoItem" then some K_NoItem else if x = "NoPlace" then some K_NoPlace else if x = "NoRule" then some K_NoRule else if x = "NoStanding" then some K_NoStanding else if x = "NoAsks" then some K_NoAsks else if x = "NoRules" then some K_NoRules else if x = "NoCase" then some K_NoCase else if x = "NoLot" then some K_NoLot else if x = "NoGoal" then some K_NoGoal else if x = "NoLog" then some K_NoLog else if x = "NoNumber" then some K_NoNumber else if x = "NoName" then some K_NoName else if x = "NoRecord" then some K_NoRecord else if x = "NoSeeker" then some K_NoSeeker else if x = "NoAnswer" then some K_NoAnswer else if x = "NoMark" then some K_NoMark else if x = "TooMany" then some K_TooMany else none
theorem cc_SortError (K_SortError K_NoItems K_NoOrder K_NoItem K_NoPlace K_NoRule K_NoStanding K_NoAsks K_NoRules K_NoCase K_NoLot K_NoGoal K_NoLog K_NoNumber K_NoName K_NoRecord K_NoSeeker K_NoAnswer K_NoMark K_TooMany : Addr) : (cmC K_SortError K_NoItems K_NoOrder K_NoItem K_NoPlace K_NoRule K_NoStanding K_NoAsks K_NoRules K_NoCase K_NoLot K_NoGoal K_NoLog K_NoNumber K_NoName K_NoRecord K_NoSeeker K_NoAnswer K_NoMark K_TooMany) "SortError" = some K_SortError := by
  show (if _ then _ else _) = _
  exact if_pos rfl
theorem cc_NoItems (K_SortError K_NoItems K_NoOrder K_NoItem K_NoPlace K_NoRule K_NoStanding K_NoAsks K_NoRules K_NoCase K_NoLot K_NoGoal K_NoLog K_NoNumber K_NoName K_NoRecord K_NoSeeker K_NoAnswer K_NoMark K_TooMany : Addr) : (cmC K_SortError K_NoItems K_NoOrder K_NoItem K_NoPlace K_NoRule K_NoStanding K_NoAsks K_NoRules K_NoCase K_NoLot K_NoGoal K_NoLog K_NoNumber K_NoName K_NoRecord K_NoSeeker K_NoAnswer K_NoMark K_TooMany) "NoItems" = some K_NoItems := by
  show (if _ then _ else _) = _
  refine Eq.trans (if_neg (by decide +kernel)) ?_
  exact if_pos rfl
theorem cc_NoOrder (K_SortError K_NoItems K_NoOrder K_NoItem K_NoPlace K_NoRule K_NoStanding K_NoAsks K_NoRules K_NoCase K_NoLot K_NoGoal K_NoLog K_NoNumber K_NoName K_NoRecord K_NoSeeker K_NoAnswer K_NoMark K_TooMany : Addr) : (cmC K_SortError K_NoItems K_NoOrder K_NoItem K_NoPlace K_NoRule K_NoStanding K_NoAsks K_NoRules K_NoCase K_NoLot K_NoGoal K_NoLog K_NoNumber K_NoName K_NoRecord K_NoSeeker K_NoAnswer K_NoMark K_TooMany) "NoOrder" = some K_NoOrder := by
  show (if _ then _ else _) = _
  refine Eq.trans (if_neg (by decide +kernel)) ?_
  refine Eq.trans (if_neg (by decide +kernel)) ?_
  exact if_pos rfl
theorem cc_NoItem (K_SortError K_NoItems K_NoOrder K_NoItem K_NoPlace K_NoRule K_NoStanding K_NoAsks K_NoRules K_NoCase K_NoLot K_NoGoal K_NoLog K_NoNumber K_NoName K_NoRecord K_NoSeeker K_NoAnswer K_NoMark K_TooMany : Addr) : (cmC K_SortError K_NoItems K_NoOrder K_NoItem K_NoPlace K_NoRule K_NoStanding K_NoAsks K_NoRules K_NoCase K_NoLot K_NoGoal K_NoLog K_NoNumber K_NoName K_NoRecord K_NoSeeker K_NoAnswer K_NoMark K_TooMany) "NoItem" = some K_NoItem := by
  show (if _ then _ else _) = _
  refine Eq.trans (if_neg (by decide +kernel)) ?_
  refine Eq.trans (if_neg (by decide +kernel)) ?_
  refine Eq.trans (if_neg (by decide +kernel)) ?_
  exact if_pos rfl
theorem cc_NoPlace (K_SortError K_NoItems K_NoOrder K_NoItem K_NoPlace K_NoRule K_NoStanding K_NoAsks K_NoRules K_NoCase K_NoLot K_NoGoal K_NoLog K_NoNumber K_NoName K_NoRecord K_NoSeeker K_NoAnswer K_NoMark K_TooMany : Addr) : (cmC K_SortError K_NoItems K_NoOrder K_NoItem K_NoPlace K_NoRule K_NoStanding K_NoAsks K_NoRules K_NoCase K_NoLot K_NoGoal K_NoLog K_NoNumber K_NoName K_NoRecord K_NoSeeker K_NoAnswer K_NoMark K_TooMany) "NoPlace" = some K_NoPlace := by
  show (if _ then _ else _) = _
  refine Eq.trans (if_neg (by decide +kernel)) ?_
  refine Eq.trans (if_neg (by decide +kernel)) ?_
  refine Eq.trans (if_neg (by decide +kernel)) ?_
  refine Eq.trans (if_neg (by decide +kernel)) ?_
  exact if_pos rfl
theorem cc_NoRule (K_SortError K_NoItems K_NoOrder K_NoItem K_NoPlace K_NoRule K_NoStanding K_NoAsks K_NoRules K_NoCase K_NoLot K_NoGoal K_NoLog K_NoNumber K_NoName K_NoRecord K_NoSeeker K_NoAnswer K_NoMark K_TooMany : Addr) : (cmC K_SortError K_NoItems K_NoOrder K_NoItem K_NoPlace K_NoRule K_NoStanding K_NoAsks K_NoRules K_NoCase K_NoLot K_NoGoal K_NoLog K_NoNumber K_NoName K_NoRecord K_NoSeeker K_NoAnswer K_NoMark K_TooMany) "NoRule" = some K_NoRule := by
  show (if _ then _ else _) = _
  refine Eq.trans (if_neg (by decide +kernel)) ?_
  refine Eq.trans (if_neg (by decide +kernel)) ?_
  refine Eq.trans (if_neg (by decide +kernel)) ?_
  refine Eq.trans (if_neg (by decide +kernel)) ?_
  refine Eq.trans (if_neg (by decide +kernel)) ?_
  exact if_pos rfl
theorem cc_NoStanding (K_SortError K_NoItems K_NoOrder K_NoItem K_NoPlace K_NoRule K_NoStanding K_NoAsks K_NoRules K_NoCase K_NoLot K_NoGoal K_NoLog K_NoNumber K_NoName K_NoRecord K_NoSeeker K_NoAnswer K_NoMark K_TooMany : Addr) : (cmC K_SortError K_NoItems K_NoOrder K_NoItem K_NoPlace K_NoRule K_NoStanding K_NoAsks K_NoRules K_NoCase K_NoLot K_NoGoal K_NoLog K_NoNumber K_NoName K_NoRecord K_NoSeeker K_NoAnswer K_NoMark K_TooMany) "NoStanding" = some K_NoStanding := by
  show (if _ then _ else _) = _
  refine Eq.trans (if_neg (by decide +kernel)) ?_
  refine Eq.trans (if_neg (by decide +kernel)) ?_
  refine Eq.trans (if_neg (by decide +kernel)) ?_
  refine Eq.trans (if_neg (by decide +kernel)) ?_
  refine Eq.trans (if_neg (by decide +kernel)) ?_
  refine Eq.trans (if_neg (by decide +kernel)) ?_
  exact if_pos rfl
theorem cc_NoAsks (K_SortError K_NoItems K_NoOrder K_NoItem K_NoPlace K_NoRule K_NoStanding K_NoAsks K_NoRules K_NoCase K_NoLot K_NoGoal K_NoLog K_NoNumber K_NoName K_NoRecord K_NoSeeker K_NoAnswer K_NoMark K_TooMany : Addr) : (cmC K_SortError K_NoItems K_NoOrder K_NoItem K_NoPlace K_NoRule K_NoStanding K_NoAsks K_NoRules K_NoCase K_NoLot K_NoGoal K_NoLog K_NoNumber K_NoName K_NoRecord K_NoSeeker K_NoAnswer K_NoMark K_TooMany) "NoAsks" = some K_NoAsks := by
  show (if _ then _ else _) = _
  refine Eq.trans (if_neg (by decide +kernel)) ?_
  refine Eq.trans (if_neg (by decide +kernel)) ?_
  refine Eq.trans (if_neg (by decide +kernel)) ?_
  refine Eq.trans (if_neg (by decide +kernel)) ?_
  refine Eq.trans (if_neg (by decide +kernel)) ?_
  refine Eq.trans (if_neg (by decide +kernel)) ?_
  refine Eq.trans (if_neg (by decide +kernel)) ?_
  exact if_pos rfl
theorem cc_NoRules (K_SortError K_NoItems K_NoOrder K_NoItem K_NoPlace K_NoRule K_NoStanding K_NoAsks K_NoRules K_NoCase K_NoLot K_NoGoal K_NoLog K_NoNumber K_NoName K_NoRecord K_NoSeeker K_NoAnswer K_NoMark K_TooMany : Addr) : (cmC K_SortError K_NoItems K_NoOrder K_NoItem K_NoPlace K_NoRule K_NoStanding K_NoAsks K_NoRules K_NoCase K_NoLot K_NoGoal K_NoLog K_NoNumber K_NoName K_NoRecord K_NoSeeker K_NoAnswer K_NoMark K_TooMany) "NoRules" = some K_NoRules := by
  show (if _ then _ else _) = _
  refine Eq.trans (if_neg (by decide +kernel)) ?_
  refine Eq.trans (if_neg (by decide +kernel)) ?_
  refine Eq.trans (if_neg (by decide +kernel)) ?_
  refine Eq.trans (if_neg (by decide +kernel)) ?_
  refine Eq.trans (if_neg (by decide +kernel)) ?_
  refine Eq.trans (if_neg (by decide +kernel)) ?_
  refine Eq.trans (if_neg (by decide +kernel)) ?_
  refine Eq.trans (if_neg (by decide +kernel)) ?_
  exact if_pos rfl
theorem cc_NoCase (K_SortError K_NoItems K_NoOrder K_NoItem K_NoPlace K_NoRule K_NoStanding K_NoAsks K_NoRules K_NoCase K_NoLot K_NoGoal K_NoLog K_NoNumber K_NoName K_NoRecord K_NoSeeker K_NoAnswer K_NoMark K_TooMany : Addr) : (cmC K_SortError K_NoItems K_NoOrder K_NoItem K_NoPlace K_NoRule K_NoStanding K_NoAsks K_NoRules K_NoCase K_NoLot K_NoGoal K_NoLog K_NoNumber K_NoName K_NoRecord K_NoSeeker K_NoAnswer K_NoMark K_TooMany) "NoCase" = some K_NoCase := by
  show (if _ then _ else _) = _
  refine Eq.trans (if_neg (by decide +kernel)) ?_
  refine Eq.trans (if_neg (by decide +kernel)) ?_
  refine Eq.trans (if_neg (by decide +kernel)) ?_
  refine Eq.trans (if_neg (by decide +kernel)) ?_
  refine Eq.trans (if_neg (by decide +kernel)) ?_
  refine Eq.trans (if_neg (by decide +kernel)) ?_
  refine Eq.trans (if_neg (by decide +kernel)) ?_
  refine Eq.trans (if_neg (by decide +kernel)) ?_
  refine Eq.trans (if_neg (by decide +kernel)) ?_
  exact if_pos rfl
theorem cc_NoLot (K_SortError K_NoItems K_NoOrder K_NoItem K_NoPlace K_NoRule K_NoStanding K_NoAsks K_NoRules K_NoCase K_NoLot K_NoGoal K_NoLog K_NoNumber K_NoName K_NoRecord K_NoSeeker K_NoAnswer K_NoMark K_TooMany : Addr) : (cmC K_SortError K_NoItems K_NoOrder K_NoItem K_NoPlace K_NoRule K_NoStanding K_NoAsks K_NoRules K_NoCase K_NoLot K_NoGoal K_NoLog K_NoNumber K_NoName K_NoRecord K_NoSeeker K_NoAnswer K_NoMark K_TooMany) "NoLot" = some K_NoLot := by
  show (if _ then _ else _) = _
  refine Eq.trans (if_neg (by decide +kernel)) ?_
  refine Eq.trans (if_neg (by decide +kernel)) ?_
  refine Eq.trans (if_neg (by decide +kernel)) ?_
  refine Eq.trans (if_neg (by decide +kernel)) ?_
  refine Eq.trans (if_neg (by decide +kernel)) ?_
  refine Eq.trans (if_neg (by decide +kernel)) ?_
  refine Eq.trans (if_neg (by decide +kernel)) ?_
  refine Eq.trans (if_neg (by decide +kernel)) ?_
  refine Eq.trans (if_neg (by decide +kernel)) ?_
  refine Eq.trans (if_neg (by decide +kernel)) ?_
  exact if_pos rfl
theorem cc_NoGoal (K_SortError K_NoItems K_NoOrder K_NoItem K_NoPlace K_NoRule K_NoStanding K_NoAsks K_NoRules K_NoCase K_NoLot K_NoGoal K_NoLog K_NoNumber K_NoName K_NoRecord K_NoSeeker K_NoAnswer K_NoMark K_TooMany : Addr) : (cmC K_SortError K_NoItems K_NoOrder K_NoItem K_NoPlace K_NoRule K_NoStanding K_NoAsks K_NoRules K_NoCase K_NoLot K_NoGoal K_NoLog K_NoNumber K_NoName K_NoRecord K_NoSeeker K_NoAnswer K_NoMark K_TooMany) "NoGoal" = some K_NoGoal := by
  show (if _ then _ else _) = _
  refine Eq.trans (if_neg (by decide +kernel)) ?_
  refine Eq.trans (if_neg (by decide +kernel)) ?_
  refine Eq.trans (if_neg (by decide +kernel)) ?_
  refine Eq.trans (if_neg (by decide +kernel)) ?_
  refine Eq.trans (if_neg (by decide +kernel)) ?_
  refine Eq.trans (if_neg (by decide +kernel)) ?_
  refine Eq.trans (if_neg (by decide +kernel)) ?_
  refine Eq.trans (if_neg (by decide +kernel)) ?_
  refine Eq.trans (if_neg (by decide +kernel)) ?_
  refine Eq.trans (if_neg (by decide +kernel)) ?_
  refine Eq.trans (if_neg (by decide +kernel)) ?_
  exact if_pos rfl
theorem cc_NoLog (K_SortError K_NoItems K_NoOrder K_NoItem K_NoPlace K_NoRule K_NoStanding K_NoAsks K_NoRules K_NoCase K_NoLot K_NoGoal K_NoLog K_NoNumber K_NoName K_NoRecord K_NoSeeker K_NoAnswer K_NoMark K_TooMany : Addr) : (cmC K_SortError K_NoItems K_NoOrder K_NoItem K_NoPlace K_NoRule K_NoStanding K_NoAsks K_NoRules K_NoCase K_NoLot K_NoGoal K_NoLog K_NoNumber K_NoName K_NoRecord K_NoSeeker K_NoAnswer K_NoMark K_TooMany) "NoLog" = some K_NoLog := by
  show (if _ then _ else _) = _
  refine Eq.trans (if_neg (by decide +kernel)) ?_
  refine Eq.trans (if_neg (by decide +kernel)) ?_
  refine Eq.trans (if_neg (by decide +kernel)) ?_
  refine Eq.trans (if_neg (by decide +kernel)) ?_
  refine Eq.trans (if_neg (by decide +kernel)) ?_
  refine Eq.trans (if_neg (by decide +kernel)) ?_
  refine Eq.trans (if_neg (by decide +kernel)) ?_
  refine Eq.trans (if_neg (by decide +kernel)) ?_
  refine Eq.trans (if_neg (by decide +kernel)) ?_
  refine Eq.trans (if_neg (by decide +kernel)) ?_
  refine Eq.trans (if_neg (by decide +kernel)) ?_
  refine Eq.trans (if_neg (by decide +kernel)) ?_
  exact if_pos rfl
theorem cc_NoNumber (K_SortError K_NoItems K_NoOrder K_NoItem K_NoPlace K_NoRule K_NoStanding K_NoAsks K_NoRules K_NoCase K_NoLot K_NoGoal K_NoLog K_NoNumber K_NoName K_NoRecord K_NoSeeker K_NoAnswer K_NoMark K_TooMany : Addr) : (cmC K_SortError K_NoItems K_NoOrder K_NoItem K_NoPlace K_NoRule K_NoStanding K_NoAsks K_NoRules K_NoCase K_NoLot K_NoGoal K_NoLog K_NoNumber K_NoName K_NoRecord K_NoSeeker K_NoAnswer K_NoMark K_TooMany) "NoNumber" = some K_NoNumber := by
  show (if _ then _ else _) = _
  refine Eq.trans (if_neg (by decide +kernel)) ?_
  refine Eq.trans (if_neg (by decide +kernel)) ?_
  refine Eq.trans (if_neg (by decide +kernel)) ?_
  refine Eq.trans (if_neg (by decide +kernel)) ?_
  refine Eq.trans (if_neg (by decide +kernel)) ?_
  refine Eq.trans (if_neg (by decide +kernel)) ?_
  refine Eq.trans (if_neg (by decide +kernel)) ?_
  refine Eq.trans (if_neg (by decide +kernel)) ?_
  refine Eq.trans (if_neg (by decide +kernel)) ?_
  refine Eq.trans (if_neg (by decide +kernel)) ?_
  refine Eq.trans (if_neg (by decide +kernel)) ?_
  refine Eq.trans (if_neg (by decide +kernel)) ?_
  refine Eq.trans (if_neg (by decide +kernel)) ?_
  exact if_pos rfl
theorem cc_NoName (K_SortError K_NoItems K_NoOrder K_NoItem K_NoPlace K_NoRule K_NoStanding K_NoAsks K_NoRules K_NoCase K_NoLot K_NoGoal K_NoLog K_NoNumber K_NoName K_NoRecord K_NoSeeker K_NoAnswer K_NoMark K_TooMany : Addr) : (cmC K_SortError K_NoItems K_NoOrder K_NoItem K_NoPlace K_NoRule K_NoStanding K_NoAsks K_NoRules K_NoCase K_NoLot K_NoGoal K_NoLog K_NoNumber K_NoName K_NoRecord K_NoSeeker K_NoAnswer K_NoMark K_TooMany) "NoName" = some K_NoName := by
  show (if _ then _ else _) = _
  refine Eq.trans (if_neg (by decide +kernel)) ?_
  refine Eq.trans (if_neg (by decide +kernel)) ?_
  refine Eq.trans (if_neg (by decide +kernel)) ?_
  refine Eq.trans (if_neg (by decide +kernel)) ?_
  refine Eq.trans (if_neg (by decide +kernel)) ?_
  refine Eq.trans (if_neg (by decide +kernel)) ?_
  refine Eq.trans (if_neg (by decide +kernel)) ?_
  refine Eq.trans (if_neg (by decide +kernel)) ?_
  refine Eq.trans (if_neg (by decide +kernel)) ?_
  refine Eq.trans (if_neg (by decide +kernel)) ?_
  refine Eq.trans (if_neg (by decide +kernel)) ?_
  refine Eq.trans (if_neg (by decide +kernel)) ?_
  refine Eq.trans (if_neg (by decide +kernel)) ?_
  refine Eq.trans (if_neg (by decide +kernel)) ?_
  exact if_pos rfl
theorem cc_NoRecord (K_SortError K_NoItems K_NoOrder K_NoItem K_NoPlace K_NoRule K_NoStanding K_NoAsks K_NoRules K_NoCase K_NoLot K_NoGoal K_NoLog K_NoNumber K_NoName K_NoRecord K_NoSeeker K_NoAnswer K_NoMark K_TooMany : Addr) : (cmC K_SortError K_NoItems K_NoOrder K_NoItem K_NoPlace K_NoRule K_NoStanding K_NoAsks K_NoRules K_NoCase K_NoLot K_NoGoal K_NoLog K_NoNumber K_NoName K_NoRecord K_NoSeeker K_NoAnswer K_NoMark K_TooMany) "NoRecord" = some K_NoRecord := by
  show (if _ then _ else _) = _
  refine Eq.trans (if_neg (by decide +kernel)) ?_
  refine Eq.trans (if_neg (by decide +kernel)) ?_
  refine Eq.trans (if_neg (by decide +kernel)) ?_
  refine Eq.trans (if_neg (by decide +kernel)) ?_
  refine Eq.trans (if_neg (by decide +kernel)) ?_
  refine Eq.trans (if_neg (by decide +kernel)) ?_
  refine Eq.trans (if_neg (by decide +kernel)) ?_
  refine Eq.trans (if_neg (by decide +kernel)) ?_
  refine Eq.trans (if_neg (by decide +kernel)) ?_
  refine Eq.trans (if_neg (by decide +kernel)) ?_
  refine Eq.trans (if_neg (by decide +kernel)) ?_
  refine Eq.trans (if_neg (by decide +kernel)) ?_
  refine Eq.trans (if_neg (by decide +kernel)) ?_
  refine Eq.trans (if_neg (by decide +kernel)) ?_
  refine Eq.trans (if_neg (by decide +kernel)) ?_
  exact if_pos rfl
theorem cc_NoSeeker (K_SortError K_NoItems K_NoOrder K_NoItem K_NoPlace K_NoRule K_NoStanding K_NoAsks K_NoRules K_NoCase K_NoLot K_NoGoal K_NoLog K_NoNumber K_NoName K_NoRecord K_NoSeeker K_NoAnswer K_NoMark K_TooMany : Addr) : (cmC K_SortError K_NoItems K_NoOrder K_NoItem K_NoPlace K_NoRule K_NoStanding K_NoAsks K_NoRules K_NoCase K_NoLot K_NoGoal K_NoLog K_NoNumber K_NoName K_NoRecord K_NoSeeker K_NoAnswer K_NoMark K_TooMany) "NoSeeker" = some K_NoSeeker := by
  show (if _ then _ else _) = _
  refine Eq.trans (if_neg (by decide +kernel)) ?_
  refine Eq.trans (if_neg (by decide +kernel)) ?_
  refine Eq.trans (if_neg (by decide +kernel)) ?_
  refine Eq.trans (if_neg (by decide +kernel)) ?_
  refine Eq.trans (if_neg (by decide +kernel)) ?_
  refine Eq.trans (if_neg (by decide +kernel)) ?_
  refine Eq.trans (if_neg (by decide +kernel)) ?_
  refine Eq.trans (if_neg (by decide +kernel)) ?_
  refine Eq.trans (if_neg (by decide +kernel)) ?_
  refine Eq.trans (if_neg (by decide +kernel)) ?_
  refine Eq.trans (if_neg (by decide +kernel)) ?_
  refine Eq.trans (if_neg (by decide +kernel)) ?_
  refine Eq.trans (if_neg (by decide +kernel)) ?_
  refine Eq.trans (if_neg (by decide +kernel)) ?_
  refine Eq.trans (if_neg (by decide +kernel)) ?_
  refine Eq.trans (if_neg (by decide +kernel)) ?_
  exact if_pos rfl
theorem cc_NoAnswer (K_SortError K_NoItems K_NoOrder K_NoItem K_NoPlace K_NoRule K_NoStanding K_NoAsks K_NoRules K_NoCase K_NoLot K_NoGoal K_NoLog K_NoNumber K_NoName K_NoRecord K_NoSeeker K_NoAnswer K_NoMark K_TooMany : Addr) : (cmC K_SortError K_NoItems K_NoOrder K_NoItem K_NoPlace K_NoRule K_NoStanding K_NoAsks K_NoRules K_NoCase K_NoLot K_NoGoal K_NoLog K_NoNumber K_NoName K_NoRecord K_NoSeeker K_NoAnswer K_NoMark K_TooMany) "NoAnswer" = some K_NoAnswer := by
  show (if _ then _ else _) = _
  refine Eq.trans (if_neg (by decide +kernel)) ?_
  refine Eq.trans (if_neg (by decide +kernel)) ?_
  refine Eq.trans (if_neg (by decide +kernel)) ?_
  refine Eq.trans (if_neg (by decide +kernel)) ?_
  refine Eq.trans (if_neg (by decide +kernel)) ?_
  refine Eq.trans (if_neg (by decide +kernel)) ?_
  refine Eq.trans (if_neg (by decide +kernel)) ?_
  refine Eq.trans (if_neg (by decide +kernel)) ?_
  refine Eq.trans (if_neg (by decide +kernel)) ?_
  refine Eq.trans (if_neg (by decide +kernel)) ?_
  refine Eq.trans (if_neg (by decide +kernel)) ?_
  refine Eq.trans (if_neg (by decide +kernel)) ?_
  refine Eq.trans (if_neg (by decide +kernel)) ?_
  refine Eq.trans (if_neg (by decide +kernel)) ?_
  refine Eq.trans (if_neg (by decide +kernel)) ?_
  refine Eq.trans (if_neg (by decide +kernel)) ?_
  refine Eq.trans (if_neg (by decide +kernel)) ?_
  exact if_pos rfl
theorem cc_NoMark (K_SortError K_NoItems K_NoOrder K_NoItem K_NoPlace K_NoRule K_NoStanding K_NoAsks K_NoRules K_NoCase K_NoLot K_NoGoal K_NoLog K_NoNumber K_NoName K_NoRecord K_NoSeeker K_NoAnswer K_NoMark K_TooMany : Addr) : (cmC K_SortError K_NoItems K_NoOrder K_NoItem K_NoPlace K_NoRule K_NoStanding K_NoAsks K_NoRules K_NoCase K_NoLot K_NoGoal K_NoLog K_NoNumber K_NoName K_NoRecord K_NoSeeker K_NoAnswer K_NoMark K_TooMany) "NoMark" = some K_NoMark := by
  show (if _ then _ else _) = _
  refine Eq.trans (if_neg (by decide +kernel)) ?_
  refine Eq.trans (if_neg (by decide +kernel)) ?_
  refine Eq.trans (if_neg (by decide +kernel)) ?_
  refine Eq.trans (if_neg (by decide +kernel)) ?_
  refine Eq.trans (if_neg (by decide +kernel)) ?_
  refine Eq.trans (if_neg (by decide +kernel)) ?_
  refine Eq.trans (if_neg (by decide +kernel)) ?_
  refine Eq.trans (if_neg (by decide +kernel)) ?_
  refine Eq.trans (if_neg (by decide +kernel)) ?_
  refine Eq.trans (if_neg (by decide +kernel)) ?_
  refine Eq.trans (if_neg (by decide +kernel)) ?_
  refine Eq.trans (if_neg (by decide +kernel)) ?_
  refine Eq.trans (if_neg (by decide +kernel)) ?_
  refine Eq.trans (if_neg (by decide +kernel)) ?_
  refine Eq.trans (if_neg (by decide +kernel)) ?_
  refine Eq.trans (if_neg (by decide +kernel)) ?_
  refine Eq.trans (if_neg (by decide +kernel)) ?_
  refine Eq.trans (if_neg (by decide +kernel)) ?_
  exact if_pos rfl
theorem cc_TooMany (K_SortError K_NoItems K_NoOrder K_NoItem K_NoPlace K_NoRule K_NoStanding K_NoAsks K_NoRules K_NoCase K_NoLot K_NoGoal K_NoLog K_NoNumber K_NoName K_NoRecord K_NoSeeker K_NoAnswer K_NoMark K_TooMany : Addr) : (cmC K_SortError K_NoItems K_NoOrder K_NoItem K_NoPlace K_NoRule K_NoStanding K_NoAsks K_NoRules K_NoCase K_NoLot K_NoGoal K_NoLog K_NoNumber K_NoName K_NoRecord K_NoSeeker K_NoAnswer K_NoMark K_TooMany) "TooMany" = some K_TooMany := by
  show (if _ then _ else _) = _
  refine Eq.trans (if_neg (by decide +kernel)) ?_
  refine Eq.trans (if_neg (by decide +kernel)) ?_
  refine Eq.trans (if_neg (by decide +kernel)) ?_
  refine Eq.trans (if_neg (by decide +kernel)) ?_
  refine Eq.trans (if_neg (by decide +kernel)) ?_
  refine Eq.trans (if_neg (by decide +kernel)) ?_
  refine Eq.trans (if_neg (by decide +kernel)) ?_
  refine Eq.trans (if_neg (by decide +kernel)) ?_
  refine Eq.trans (if_neg (by decide +kernel)) ?_
  refine Eq.trans (if_neg (by decide +kernel)) ?_
  refine Eq.trans (if_neg (by decide +kernel)) ?_
  refine Eq.trans (if_neg (by decide +kernel)) ?_
  refine Eq.trans (if_neg (by decide +kernel)) ?_
  refine Eq.trans (if_neg (by decide +kernel)) ?_
  refine Eq.trans (if_neg (by decide +kernel)) ?_
  refine Eq.trans (if_neg (by decide +kernel)) ?_
  refine Eq.trans (if_neg (by decide +kernel)) ?_
  refine Eq.trans (if_neg (by decide +kernel)) ?_
  refine Eq.trans (if_neg (by decide +kernel)) ?_
  exact if_pos rfl
theorem cm_inv (K_SortError K_NoItems K_NoOrder K_NoItem K_NoPlace K_NoRule K_NoStanding K_NoAsks K_NoRules K_NoCase K_NoLot K_NoGoal K_NoLog K_NoNumber K_NoName K_NoRecord K_NoSeeker K_NoAnswer K_NoMark K_TooMany : Addr) (c : Str) (C : Addr) (e : (cmC K_SortError K_NoItems K_NoOrder K_NoItem K_NoPlace K_NoRule K_NoStanding K_NoAsks K_NoRules K_NoCase K_NoLot K_NoGoal K_NoLog K_NoNumber K_NoName K_NoRecord K_NoSeeker K_NoAnswer K_NoMark K_TooMany) c = some C) : (c, C) ∈ ([(Str.ofString "SortError", K_SortError), (Str.ofString "NoItems", K_NoItems), (Str.ofString "NoOrder", K_NoOrder), (Str.ofString "NoItem", K_NoItem), (Str.ofString "NoPlace", K_NoPlace), (Str.ofString "NoRule", K_NoRule), (Str.ofString "NoStanding", K_NoStanding), (Str.ofString "NoAsks", K_NoAsks), (Str.ofString "NoRules", K_NoRules), (Str.ofString "NoCase", K_NoCase), (Str.ofString "NoLot", K_NoLot), (Str.ofString "NoGoal", K_NoGoal), (Str.ofString "NoLog", K_NoLog), (Str.ofString "NoNumber", K_NoNumber), (Str.ofString "NoName", K_NoName), (Str.ofString "NoRecord", K_NoRecord), (Str.ofString "NoSeeker", K_NoSeeker), (Str.ofString "NoAnswer", K_NoAnswer), (Str.ofString "NoMark", K_NoMark), (Str.ofString "TooMany", K_TooMany)] : List (Str × Addr)) := by
  unfold cmC at e
  rcases if_inv e with h | e
  · rw [h.1, h.2]; exact (.head _)
  rcases if_inv e with h | e
  · rw [h.1, h.2]; exact (.tail _ (.head _))
  rcases if_inv e with h | e
  · rw [h.1, h.2]; exact (.tail _ (.tail _ (.head _)))
  rcases if_inv e with h | e
  · rw [h.1, h.2]; exact (.tail _ (.tail _ (.tail _ (.head _))))
  rcases if_inv e with h | e
  · rw [h.1, h.2]; exact (.tail _ (.tail _ (.tail _ (.tail _ (.head _)))))
  rcases if_inv e with h | e
  · rw [h.1, h.2]; exact (.tail _ (.tail _ (.tail _ (.tail _ (.tail _ (.head _))))))
  rcases if_inv e with h | e
  · rw [h.1, h.2]; exact (.tail _ (.tail _ (.tail _ (.tail _ (.tail _ (.tail _ (.head _)))))))
  rcases if_inv e with h | e
  · rw [h.1, h.2]; exact (.tail _ (.tail _ (.tail _ (.tail _ (.tail _ (.tail _ (.tail _ (.head _))))))))
  rcases if_inv e with h | e
  · rw [h.1, h.2]; exact (.tail _ (.tail _ (.tail _ (.tail _ (.tail _ (.tail _ (.tail _ (.tail _ (.head _)))))))))
  rcases if_inv e with h | e
  · rw [h.1, h.2]; exact (.tail _ (.tail _ (.tail _ (.tail _ (.tail _ (.tail _ (.tail _ (.tail _ (.tail _ (.head _))))))))))
  rcases if_inv e with h | e
  · rw [h.1, h.2]; exact (.tail _ (.tail _ (.tail _ (.tail _ (.tail _ (.tail _ (.tail _ (.tail _ (.tail _ (.tail _ (.head _)))))))))))
  rcases if_inv e with h | e
  · rw [h.1, h.2]; exact (.tail _ (.tail _ (.tail _ (.tail _ (.tail _ (.tail _ (.tail _ (.tail _ (.tail _ (.tail _ (.tail _ (.head _))))))))))))
  rcases if_inv e with h | e
  · rw [h.1, h.2]; exact (.tail _ (.tail _ (.tail _ (.tail _ (.tail _ (.tail _ (.tail _ (.tail _ (.tail _ (.tail _ (.tail _ (.tail _ (.head _)))))))))))))
  rcases if_inv e with h | e
  · rw [h.1, h.2]; exact (.tail _ (.tail _ (.tail _ (.tail _ (.tail _ (.tail _ (.tail _ (.tail _ (.tail _ (.tail _ (.tail _ (.tail _ (.tail _ (.head _))))))))))))))
  rcases if_inv e with h | e
  · rw [h.1, h.2]; exact (.tail _ (.tail _ (.tail _ (.tail _ (.tail _ (.tail _ (.tail _ (.tail _ (.tail _ (.tail _ (.tail _ (.tail _ (.tail _ (.tail _ (.head _)))))))))))))))
  rcases if_inv e with h | e
  · rw [h.1, h.2]; exact (.tail _ (.tail _ (.tail _ (.tail _ (.tail _ (.tail _ (.tail _ (.tail _ (.tail _ (.tail _ (.tail _ (.tail _ (.tail _ (.tail _ (.tail _ (.head _))))))))))))))))
  rcases if_inv e with h | e
  · rw [h.1, h.2]; exact (.tail _ (.tail _ (.tail _ (.tail _ (.tail _ (.tail _ (.tail _ (.tail _ (.tail _ (.tail _ (.tail _ (.tail _ (.tail _ (.tail _ (.tail _ (.tail _ (.head _)))))))))))))))))
  rcases if_inv e with h | e
  · rw [h.1, h.2]; exact (.tail _ (.tail _ (.tail _ (.tail _ (.tail _ (.tail _ (.tail _ (.tail _ (.tail _ (.tail _ (.tail _ (.tail _ (.tail _ (.tail _ (.tail _ (.tail _ (.tail _ (.head _))))))))))))))))))
  rcases if_inv e with h | e
  · rw [h.1, h.2]; exact (.tail _ (.tail _ (.tail _ (.tail _ (.tail _ (.tail _ (.tail _ (.tail _ (.tail _ (.tail _ (.tail _ (.tail _ (.tail _ (.tail _ (.tail _ (.tail _ (.tail _ (.tail _ (.head _)))))))))))))))))))
  rcases if_inv e with h | e
  · rw [h.1, h.2]; exact (.tail _ (.tail _ (.tail _ (.tail _ (.tail _ (.tail _ (.tail _ (.tail _ (.tail _ (.tail _ (.tail _ (.tail _ (.tail _ (.tail _ (.tail _ (.tail _ (.tail _ (.tail _ (.tail _ (.head _))))))))))))))))))))
  cases e
theorem all_mk {w : World} {K : PySem.W.Frag} {h : Heap} {mg : Str → Option Value} {fa : Addr} (X : K.In h) (G : h.Ns mainGlobals mg) (hfa : mg "law" = some (.ref fa))
    {od0 an0 : Option Addr} {sl0 : Array (Option Value)} {oc0 kV0 dc0 pm0 cd0 ct0 : Value} {f0 : Addr}
    {od1 an1 : Option Addr} {sl1 : Array (Option Value)} {oc1 kV1 dc1 pm1 cd1 ct1 : Value} {f1 : Addr}
    {od2 an2 : Option Addr} {sl2 : Array (Option Value)} {oc2 kV2 dc2 pm2 cd2 ct2 : Value} {f2 : Addr}
    {od3 an3 : Option Addr} {sl3 : Array (Option Value)} {oc3 kV3 dc3 pm3 cd3 ct3 : Value} {f3 : Addr}
    {od4 an4 : Option Addr} {sl4 : Array (Option Value)} {oc4 kV4 dc4 pm4 cd4 ct4 : Value} {f4 : Addr}
    {od5 an5 : Option Addr} {sl5 : Array (Option Value)} {oc5 kV5 dc5 pm5 cd5 ct5 : Value} {f5 : Addr}
    {fi_NoAnswer ce_NoAnswer ca_NoAnswer : Addr} {oc_NoAnswer kV_NoAnswer dc_NoAnswer pm_NoAnswer ct_NoAnswer : Value} {od_NoAnswer an_NoAnswer : Option Addr} {sl_NoAnswer : Array (Option Value)} {c1_NoAnswer d1_NoAnswer : Value} {c2_NoAnswer d2_NoAnswer : Option Addr} {vs_NoAnswer : Array Value} {c3_NoAnswer d3_NoAnswer : Array (Option Value)} {tf_NoAnswer : Tok}
    {fi_NoMark ce_NoMark ca_NoMark : Addr} {oc_NoMark kV_NoMark dc_NoMark pm_NoMark ct_NoMark : Value} {od_NoMark an_NoMark : Option Addr} {sl_NoMark : Array (Option Value)} {c1_NoMark d1_NoMark : Value} {c2_NoMark d2_NoMark : Option Addr} {vs_NoMark : Array Value} {c3_NoMark d3_NoMark : Array (Option Value)} {tf_NoMark : Tok}
    {fi_TooMany ce_TooMany ca_TooMany : Addr} {oc_TooMany kV_TooMany dc_TooMany pm_TooMany ct_TooMany : Value} {od_TooMany an_TooMany : Option Addr} {sl_TooMany : Array (Option Value)} {c1_TooMany d1_TooMany : Value} {c2_TooMany d2_TooMany : Option Addr} {vs_TooMany : Array Value} {c3_TooMany d3_TooMany : Array (Option Value)} {tf_TooMany : Tok}
    {K_SortError : Addr}
    {K_NoItems : Addr}
    {K_NoOrder : Addr}
    {K_NoItem : Addr}
    {K_NoPlace : Addr}
    {K_NoRule : Addr}
    {K_NoStanding : Addr}
    {K_NoAsks : Addr}
    {K_NoRules : Addr}
    {K_NoCase : Addr}
    {K_NoLot : Addr}
    {K_NoGoal : Addr}
    {K_NoLog : Addr}
    {K_NoNumber : Addr}
    {K_NoName : Addr}
    {K_NoRecord : Addr}
    {K_NoSeeker : Addr}
    {K_NoAnswer : Addr}
    {K_NoMark : Addr}
    {K_TooMany : Addr}
    (a0 : PySem.W.nsIn K mainGlobals "_law_spread" = some (some (.ref f0)))
    (l0 : K.lookup f0 = some ⟨oc0, od0, .func (PySem.W.fnOf "_law_spread" "_law_spread" (defArgs s__law_spread) (defBody s__law_spread) (defScope s__law_spread) .none kV0 dc0 pm0 an0 cd0 ct0), sl0⟩)
    (c0 : PySem.W.codeIn K cd0 "_law_spread" = true)
    (k0 : PySem.W.keepIn K (.ref f0) = true)
    (a1 : PySem.W.nsIn K mainGlobals "_law_open" = some (some (.ref f1)))
    (l1 : K.lookup f1 = some ⟨oc1, od1, .func (PySem.W.fnOf "_law_open" "_law_open" (defArgs s__law_open) (defBody s__law_open) (defScope s__law_open) .none kV1 dc1 pm1 an1 cd1 ct1), sl1⟩)
    (c1 : PySem.W.codeIn K cd1 "_law_open" = true)
    (k1 : PySem.W.keepIn K (.ref f1) = true)
    (a2 : PySem.W.nsIn K mainGlobals "_law_take" = some (some (.ref f2)))
    (l2 : K.lookup f2 = some ⟨oc2, od2, .func (PySem.W.fnOf "_law_take" "_law_take" (defArgs s__law_take) (defBody s__law_take) (defScope s__law_take) .none kV2 dc2 pm2 an2 cd2 ct2), sl2⟩)
    (c2 : PySem.W.codeIn K cd2 "_law_take" = true)
    (k2 : PySem.W.keepIn K (.ref f2) = true)
    (a3 : PySem.W.nsIn K mainGlobals "_law_one" = some (some (.ref f3)))
    (l3 : K.lookup f3 = some ⟨oc3, od3, .func (PySem.W.fnOf "_law_one" "_law_one" (defArgs s__law_one) (defBody s__law_one) (defScope s__law_one) .none kV3 dc3 pm3 an3 cd3 ct3), sl3⟩)
    (c3 : PySem.W.codeIn K cd3 "_law_one" = true)
    (k3 : PySem.W.keepIn K (.ref f3) = true)
    (a4 : PySem.W.nsIn K mainGlobals "_law_kinds" = some (some (.ref f4)))
    (l4 : K.lookup f4 = some ⟨oc4, od4, .func (PySem.W.fnOf "_law_kinds" "_law_kinds" (defArgs s__law_kinds) (defBody s__law_kinds) (defScope s__law_kinds) .none kV4 dc4 pm4 an4 cd4 ct4), sl4⟩)
    (c4 : PySem.W.codeIn K cd4 "_law_kinds" = true)
    (k4 : PySem.W.keepIn K (.ref f4) = true)
    (a5 : PySem.W.nsIn K mainGlobals "law" = some (some (.ref f5)))
    (l5 : K.lookup f5 = some ⟨oc5, od5, .func (PySem.W.fnOf "law" "law" (defArgs s_law) (defBody s_law) (defScope s_law) .none kV5 dc5 pm5 an5 cd5 ct5), sl5⟩)
    (c5 : PySem.W.codeIn K cd5 "law" = true)
    (k5 : PySem.W.keepIn K (.ref f5) = true)
    (z_len : PySem.W.nsIn K mainGlobals "len" = some none)
    (z_int : PySem.W.nsIn K mainGlobals "int" = some none)
    (z_list : PySem.W.nsIn K mainGlobals "list" = some none)
    (z_tuple : PySem.W.nsIn K mainGlobals "tuple" = some none)
    (z_range : PySem.W.nsIn K mainGlobals "range" = some none)
    (z_enumerate : PySem.W.nsIn K mainGlobals "enumerate" = some none)
    (z_isinstance : PySem.W.nsIn K mainGlobals "isinstance" = some none)
    (z_repr : PySem.W.nsIn K mainGlobals "repr" = some none)
    (z_type : PySem.W.nsIn K mainGlobals "type" = some none)
    (z_all : PySem.W.nsIn K mainGlobals "all" = some none)
    (z_any : PySem.W.nsIn K mainGlobals "any" = some none)
    (z_max : PySem.W.nsIn K mainGlobals "max" = some none)
    (z_min : PySem.W.nsIn K mainGlobals "min" = some none)
    (z_set : PySem.W.nsIn K mainGlobals "set" = some none)
    (z_sorted : PySem.W.nsIn K mainGlobals "sorted" = some none)
    (z_sum : PySem.W.nsIn K mainGlobals "sum" = some none)
    (z_str : PySem.W.nsIn K mainGlobals "str" = some none)
    (z_bool : PySem.W.nsIn K mainGlobals "bool" = some none)
    (z_zip : PySem.W.nsIn K mainGlobals "zip" = some none)
    (z_super : PySem.W.nsIn K mainGlobals "super" = some none)
    (xop : PySem.W.nsIn K cStatics "thirdparty.any" = some none)
    (z_ValueError : PySem.W.nsIn K mainGlobals "ValueError" = some none)
    (g_SortError : PySem.W.nsIn K mainGlobals "SortError" = some (some (.ref K_SortError)))
    (q_SortError : PySem.W.excIn K K_SortError [.type "ValueError", .type "Exception", .type "BaseException", .type "object"] "ValueError.__new__" = true)
    (kp_SortError : PySem.W.keepIn K (.ref K_SortError) = true)
    (sb_SortError : PySem.W.subIn K (.ref K_SortError) (.type "BaseException") = some true)
    (ty_SortError : PySem.W.typeIn K (.ref K_SortError) = some (.type "type"))
    (ga_SortError : PySem.W.findIn K (.ref K_SortError) "__getattribute__" = some (some (.builtin "BaseException.__getattribute__")))
    (gg_SortError : PySem.W.findIn K (.ref K_SortError) "__getattr__" = some none)
    (hd_SortError : PySem.W.hasDictIn K K_SortError = true)
    (cl_SortError : PySem.W.findIn K (.ref K_SortError) "__class__" = some (some (.builtin "object.__class__")))
    (mo_SortError : PySem.W.mroIn K K_SortError (.type "object") = some true)
    (is_SortError : PySem.W.isClsIn K K_SortError = true)
    (g_NoItems : PySem.W.nsIn K mainGlobals "NoItems" = some (some (.ref K_NoItems)))
    (q_NoItems : PySem.W.excIn K K_NoItems [.type "ValueError", .type "Exception", .type "BaseException", .type "object"] "ValueError.__new__" = true)
    (kp_NoItems : PySem.W.keepIn K (.ref K_NoItems) = true)
    (sb_NoItems : PySem.W.subIn K (.ref K_NoItems) (.type "BaseException") = some true)
    (ty_NoItems : PySem.W.typeIn K (.ref K_NoItems) = some (.type "type"))
    (ga_NoItems : PySem.W.findIn K (.ref K_NoItems) "__getattribute__" = some (some (.builtin "BaseException.__getattribute__")))
    (gg_NoItems : PySem.W.findIn K (.ref K_NoItems) "__getattr__" = some none)
    (hd_NoItems : PySem.W.hasDictIn K K_NoItems = true)
    (cl_NoItems : PySem.W.findIn K (.ref K_NoItems) "__class__" = some (some (.builtin "object.__class__")))
    (mo_NoItems : PySem.W.mroIn K K_NoItems (.type "object") = some true)
    (is_NoItems : PySem.W.isClsIn K K_NoItems = true)
    (g_NoOrder : PySem.W.nsIn K mainGlobals "NoOrder" = some (some (.ref K_NoOrder)))
    (q_NoOrder : PySem.W.excIn K K_NoOrder [.type "ValueError", .type "Exception", .type "BaseException", .type "object"] "ValueError.__new__" = true)
    (kp_NoOrder : PySem.W.keepIn K (.ref K_NoOrder) = true)
    (sb_NoOrder : PySem.W.subIn K (.ref K_NoOrder) (.type "BaseException") = some true)
    (ty_NoOrder : PySem.W.typeIn K (.ref K_NoOrder) = some (.type "type"))
    (ga_NoOrder : PySem.W.findIn K (.ref K_NoOrder) "__getattribute__" = some (some (.builtin "BaseException.__getattribute__")))
    (gg_NoOrder : PySem.W.findIn K (.ref K_NoOrder) "__getattr__" = some none)
    (hd_NoOrder : PySem.W.hasDictIn K K_NoOrder = true)
    (cl_NoOrder : PySem.W.findIn K (.ref K_NoOrder) "__class__" = some (some (.builtin "object.__class__")))
    (mo_NoOrder : PySem.W.mroIn K K_NoOrder (.type "object") = some true)
    (is_NoOrder : PySem.W.isClsIn K K_NoOrder = true)
    (g_NoItem : PySem.W.nsIn K mainGlobals "NoItem" = some (some (.ref K_NoItem)))
    (q_NoItem : PySem.W.excIn K K_NoItem [.type "ValueError", .type "Exception", .type "BaseException", .type "object"] "ValueError.__new__" = true)
    (kp_NoItem : PySem.W.keepIn K (.ref K_NoItem) = true)
    (sb_NoItem : PySem.W.subIn K (.ref K_NoItem) (.type "BaseException") = some true)
    (ty_NoItem : PySem.W.typeIn K (.ref K_NoItem) = some (.type "type"))
    (ga_NoItem : PySem.W.findIn K (.ref K_NoItem) "__getattribute__" = some (some (.builtin "BaseException.__getattribute__")))
    (gg_NoItem : PySem.W.findIn K (.ref K_NoItem) "__getattr__" = some none)
    (hd_NoItem : PySem.W.hasDictIn K K_NoItem = true)
    (cl_NoItem : PySem.W.findIn K (.ref K_NoItem) "__class__" = some (some (.builtin "object.__class__")))
    (mo_NoItem : PySem.W.mroIn K K_NoItem (.type "object") = some true)
    (is_NoItem : PySem.W.isClsIn K K_NoItem = true)
    (g_NoPlace : PySem.W.nsIn K mainGlobals "NoPlace" = some (some (.ref K_NoPlace)))
    (q_NoPlace : PySem.W.excIn K K_NoPlace [.type "ValueError", .type "Exception", .type "BaseException", .type "object"] "ValueError.__new__" = true)
    (kp_NoPlace : PySem.W.keepIn K (.ref K_NoPlace) = true)
    (sb_NoPlace : PySem.W.subIn K (.ref K_NoPlace) (.type "BaseException") = some true)
    (ty_NoPlace : PySem.W.typeIn K (.ref K_NoPlace) = some (.type "type"))
    (ga_NoPlace : PySem.W.findIn K (.ref K_NoPlace) "__getattribute__" = some (some (.builtin "BaseException.__getattribute__")))
    (gg_NoPlace : PySem.W.findIn K (.ref K_NoPlace) "__getattr__" = some none)
    (hd_NoPlace : PySem.W.hasDictIn K K_NoPlace = true)
    (cl_NoPlace : PySem.W.findIn K (.ref K_NoPlace) "__class__" = some (some (.builtin "object.__class__")))
    (mo_NoPlace : PySem.W.mroIn K K_NoPlace (.type "object") = some true)
    (is_NoPlace : PySem.W.isClsIn K K_NoPlace = true)
    (g_NoRule : PySem.W.nsIn K mainGlobals "NoRule" = some (some (.ref K_NoRule)))
    (q_NoRule : PySem.W.excIn K K_NoRule [.type "ValueError", .type "Exception", .type "BaseException", .type "object"] "ValueError.__new__" = true)
    (kp_NoRule : PySem.W.keepIn K (.ref K_NoRule) = true)
    (sb_NoRule : PySem.W.subIn K (.ref K_NoRule) (.type "BaseException") = some true)
    (ty_NoRule : PySem.W.typeIn K (.ref K_NoRule) = some (.type "type"))
    (ga_NoRule : PySem.W.findIn K (.ref K_NoRule) "__getattribute__" = some (some (.builtin "BaseException.__getattribute__")))
    (gg_NoRule : PySem.W.findIn K (.ref K_NoRule) "__getattr__" = some none)
    (hd_NoRule : PySem.W.hasDictIn K K_NoRule = true)
    (cl_NoRule : PySem.W.findIn K (.ref K_NoRule) "__class__" = some (some (.builtin "object.__class__")))
    (mo_NoRule : PySem.W.mroIn K K_NoRule (.type "object") = some true)
    (is_NoRule : PySem.W.isClsIn K K_NoRule = true)
    (g_NoStanding : PySem.W.nsIn K mainGlobals "NoStanding" = some (some (.ref K_NoStanding)))
    (q_NoStanding : PySem.W.excIn K K_NoStanding [.type "ValueError", .type "Exception", .type "BaseException", .type "object"] "ValueError.__new__" = true)
    (kp_NoStanding : PySem.W.keepIn K (.ref K_NoStanding) = true)
    (sb_NoStanding : PySem.W.subIn K (.ref K_NoStanding) (.type "BaseException") = some true)
    (ty_NoStanding : PySem.W.typeIn K (.ref K_NoStanding) = some (.type "type"))
    (ga_NoStanding : PySem.W.findIn K (.ref K_NoStanding) "__getattribute__" = some (some (.builtin "BaseException.__getattribute__")))
    (gg_NoStanding : PySem.W.findIn K (.ref K_NoStanding) "__getattr__" = some none)
    (hd_NoStanding : PySem.W.hasDictIn K K_NoStanding = true)
    (cl_NoStanding : PySem.W.findIn K (.ref K_NoStanding) "__class__" = some (some (.builtin "object.__class__")))
    (mo_NoStanding : PySem.W.mroIn K K_NoStanding (.type "object") = some true)
    (is_NoStanding : PySem.W.isClsIn K K_NoStanding = true)
    (g_NoAsks : PySem.W.nsIn K mainGlobals "NoAsks" = some (some (.ref K_NoAsks)))
    (q_NoAsks : PySem.W.excIn K K_NoAsks [.type "ValueError", .type "Exception", .type "BaseException", .type "object"] "ValueError.__new__" = true)
    (kp_NoAsks : PySem.W.keepIn K (.ref K_NoAsks) = true)
    (sb_NoAsks : PySem.W.subIn K (.ref K_NoAsks) (.type "BaseException") = some true)
    (ty_NoAsks : PySem.W.typeIn K (.ref K_NoAsks) = some (.type "type"))
    (ga_NoAsks : PySem.W.findIn K (.ref K_NoAsks) "__getattribute__" = some (some (.builtin "BaseException.__getattribute__")))
    (gg_NoAsks : PySem.W.findIn K (.ref K_NoAsks) "__getattr__" = some none)
    (hd_NoAsks : PySem.W.hasDictIn K K_NoAsks = true)
    (cl_NoAsks : PySem.W.findIn K (.ref K_NoAsks) "__class__" = some (some (.builtin "object.__class__")))
    (mo_NoAsks : PySem.W.mroIn K K_NoAsks (.type "object") = some true)
    (is_NoAsks : PySem.W.isClsIn K K_NoAsks = true)
    (g_NoRules : PySem.W.nsIn K mainGlobals "NoRules" = some (some (.ref K_NoRules)))
    (q_NoRules : PySem.W.excIn K K_NoRules [.type "ValueError", .type "Exception", .type "BaseException", .type "object"] "ValueError.__new__" = true)
    (kp_NoRules : PySem.W.keepIn K (.ref K_NoRules) = true)
    (sb_NoRules : PySem.W.subIn K (.ref K_NoRules) (.type "BaseException") = some true)
    (ty_NoRules : PySem.W.typeIn K (.ref K_NoRules) = some (.type "type"))
    (ga_NoRules : PySem.W.findIn K (.ref K_NoRules) "__getattribute__" = some (some (.builtin "BaseException.__getattribute__")))
    (gg_NoRules : PySem.W.findIn K (.ref K_NoRules) "__getattr__" = some none)
    (hd_NoRules : PySem.W.hasDictIn K K_NoRules = true)
    (cl_NoRules : PySem.W.findIn K (.ref K_NoRules) "__class__" = some (some (.builtin "object.__class__")))
    (mo_NoRules : PySem.W.mroIn K K_NoRules (.type "object") = some true)
    (is_NoRules : PySem.W.isClsIn K K_NoRules = true)
    (g_NoCase : PySem.W.nsIn K mainGlobals "NoCase" = some (some (.ref K_NoCase)))
    (q_NoCase : PySem.W.excIn K K_NoCase [.type "ValueError", .type "Exception", .type "BaseException", .type "object"] "ValueError.__new__" = true)
    (kp_NoCase : PySem.W.keepIn K (.ref K_NoCase) = true)
    (sb_NoCase : PySem.W.subIn K (.ref K_NoCase) (.type "BaseException") = some true)
    (ty_NoCase : PySem.W.typeIn K (.ref K_NoCase) = some (.type "type"))
    (ga_NoCase : PySem.W.findIn K (.ref K_NoCase) "__getattribute__" = some (some (.builtin "BaseException.__getattribute__")))
    (gg_NoCase : PySem.W.findIn K (.ref K_NoCase) "__getattr__" = some none)
    (hd_NoCase : PySem.W.hasDictIn K K_NoCase = true)
    (cl_NoCase : PySem.W.findIn K (.ref K_NoCase) "__class__" = some (some (.builtin "object.__class__")))
    (mo_NoCase : PySem.W.mroIn K K_NoCase (.type "object") = some true)
    (is_NoCase : PySem.W.isClsIn K K_NoCase = true)
    (g_NoLot : PySem.W.nsIn K mainGlobals "NoLot" = some (some (.ref K_NoLot)))
    (q_NoLot : PySem.W.excIn K K_NoLot [.type "ValueError", .type "Exception", .type "BaseException", .type "object"] "ValueError.__new__" = true)
    (kp_NoLot : PySem.W.keepIn K (.ref K_NoLot) = true)
    (sb_NoLot : PySem.W.subIn K (.ref K_NoLot) (.type "BaseException") = some true)
    (ty_NoLot : PySem.W.typeIn K (.ref K_NoLot) = some (.type "type"))
    (ga_NoLot : PySem.W.findIn K (.ref K_NoLot) "__getattribute__" = some (some (.builtin "BaseException.__getattribute__")))
    (gg_NoLot : PySem.W.findIn K (.ref K_NoLot) "__getattr__" = some none)
    (hd_NoLot : PySem.W.hasDictIn K K_NoLot = true)
    (cl_NoLot : PySem.W.findIn K (.ref K_NoLot) "__class__" = some (some (.builtin "object.__class__")))
    (mo_NoLot : PySem.W.mroIn K K_NoLot (.type "object") = some true)
    (is_NoLot : PySem.W.isClsIn K K_NoLot = true)
    (g_NoGoal : PySem.W.nsIn K mainGlobals "NoGoal" = some (some (.ref K_NoGoal)))
    (q_NoGoal : PySem.W.excIn K K_NoGoal [.type "ValueError", .type "Exception", .type "BaseException", .type "object"] "ValueError.__new__" = true)
    (kp_NoGoal : PySem.W.keepIn K (.ref K_NoGoal) = true)
    (sb_NoGoal : PySem.W.subIn K (.ref K_NoGoal) (.type "BaseException") = some true)
    (ty_NoGoal : PySem.W.typeIn K (.ref K_NoGoal) = some (.type "type"))
    (ga_NoGoal : PySem.W.findIn K (.ref K_NoGoal) "__getattribute__" = some (some (.builtin "BaseException.__getattribute__")))
    (gg_NoGoal : PySem.W.findIn K (.ref K_NoGoal) "__getattr__" = some none)
    (hd_NoGoal : PySem.W.hasDictIn K K_NoGoal = true)
    (cl_NoGoal : PySem.W.findIn K (.ref K_NoGoal) "__class__" = some (some (.builtin "object.__class__")))
    (mo_NoGoal : PySem.W.mroIn K K_NoGoal (.type "object") = some true)
    (is_NoGoal : PySem.W.isClsIn K K_NoGoal = true)
    (g_NoLog : PySem.W.nsIn K mainGlobals "NoLog" = some (some (.ref K_NoLog)))
    (q_NoLog : PySem.W.excIn K K_NoLog [.type "ValueError", .type "Exception", .type "BaseException", .type "object"] "ValueError.__new__" = true)
    (kp_NoLog : PySem.W.keepIn K (.ref K_NoLog) = true)
    (sb_NoLog : PySem.W.subIn K (.ref K_NoLog) (.type "BaseException") = some true)
    (ty_NoLog : PySem.W.typeIn K (.ref K_NoLog) = some (.type "type"))
    (ga_NoLog : PySem.W.findIn K (.ref K_NoLog) "__getattribute__" = some (some (.builtin "BaseException.__getattribute__")))
    (gg_NoLog : PySem.W.findIn K (.ref K_NoLog) "__getattr__" = some none)
    (hd_NoLog : PySem.W.hasDictIn K K_NoLog = true)
    (cl_NoLog : PySem.W.findIn K (.ref K_NoLog) "__class__" = some (some (.builtin "object.__class__")))
    (mo_NoLog : PySem.W.mroIn K K_NoLog (.type "object") = some true)
    (is_NoLog : PySem.W.isClsIn K K_NoLog = true)
    (g_NoNumber : PySem.W.nsIn K mainGlobals "NoNumber" = some (some (.ref K_NoNumber)))
    (q_NoNumber : PySem.W.excIn K K_NoNumber [.type "ValueError", .type "Exception", .type "BaseException", .type "object"] "ValueError.__new__" = true)
    (kp_NoNumber : PySem.W.keepIn K (.ref K_NoNumber) = true)
    (sb_NoNumber : PySem.W.subIn K (.ref K_NoNumber) (.type "BaseException") = some true)
    (ty_NoNumber : PySem.W.typeIn K (.ref K_NoNumber) = some (.type "type"))
    (ga_NoNumber : PySem.W.findIn K (.ref K_NoNumber) "__getattribute__" = some (some (.builtin "BaseException.__getattribute__")))
    (gg_NoNumber : PySem.W.findIn K (.ref K_NoNumber) "__getattr__" = some none)
    (hd_NoNumber : PySem.W.hasDictIn K K_NoNumber = true)
    (cl_NoNumber : PySem.W.findIn K (.ref K_NoNumber) "__class__" = some (some (.builtin "object.__class__")))
    (mo_NoNumber : PySem.W.mroIn K K_NoNumber (.type "object") = some true)
    (is_NoNumber : PySem.W.isClsIn K K_NoNumber = true)
    (g_NoName : PySem.W.nsIn K mainGlobals "NoName" = some (some (.ref K_NoName)))
    (q_NoName : PySem.W.excIn K K_NoName [.type "ValueError", .type "Exception", .type "BaseException", .type "object"] "ValueError.__new__" = true)
    (kp_NoName : PySem.W.keepIn K (.ref K_NoName) = true)
    (sb_NoName : PySem.W.subIn K (.ref K_NoName) (.type "BaseException") = some true)
    (ty_NoName : PySem.W.typeIn K (.ref K_NoName) = some (.type "type"))
    (ga_NoName : PySem.W.findIn K (.ref K_NoName) "__getattribute__" = some (some (.builtin "BaseException.__getattribute__")))
    (gg_NoName : PySem.W.findIn K (.ref K_NoName) "__getattr__" = some none)
    (hd_NoName : PySem.W.hasDictIn K K_NoName = true)
    (cl_NoName : PySem.W.findIn K (.ref K_NoName) "__class__" = some (some (.builtin "object.__class__")))
    (mo_NoName : PySem.W.mroIn K K_NoName (.type "object") = some true)
    (is_NoName : PySem.W.isClsIn K K_NoName = true)
    (g_NoRecord : PySem.W.nsIn K mainGlobals "NoRecord" = some (some (.ref K_NoRecord)))
    (q_NoRecord : PySem.W.excIn K K_NoRecord [.type "ValueError", .type "Exception", .type "BaseException", .type "object"] "ValueError.__new__" = true)
    (kp_NoRecord : PySem.W.keepIn K (.ref K_NoRecord) = true)
    (sb_NoRecord : PySem.W.subIn K (.ref K_NoRecord) (.type "BaseException") = some true)
    (ty_NoRecord : PySem.W.typeIn K (.ref K_NoRecord) = some (.type "type"))
    (ga_NoRecord : PySem.W.findIn K (.ref K_NoRecord) "__getattribute__" = some (some (.builtin "BaseException.__getattribute__")))
    (gg_NoRecord : PySem.W.findIn K (.ref K_NoRecord) "__getattr__" = some none)
    (hd_NoRecord : PySem.W.hasDictIn K K_NoRecord = true)
    (cl_NoRecord : PySem.W.findIn K (.ref K_NoRecord) "__class__" = some (some (.builtin "object.__class__")))
    (mo_NoRecord : PySem.W.mroIn K K_NoRecord (.type "object") = some true)
    (is_NoRecord : PySem.W.isClsIn K K_NoRecord = true)
    (g_NoSeeker : PySem.W.nsIn K mainGlobals "NoSeeker" = some (some (.ref K_NoSeeker)))
    (q_NoSeeker : PySem.W.excIn K K_NoSeeker [.type "ValueError", .type "Exception", .type "BaseException", .type "object"] "ValueError.__new__" = true)
    (kp_NoSeeker : PySem.W.keepIn K (.ref K_NoSeeker) = true)
    (sb_NoSeeker : PySem.W.subIn K (.ref K_NoSeeker) (.type "BaseException") = some true)
    (ty_NoSeeker : PySem.W.typeIn K (.ref K_NoSeeker) = some (.type "type"))
    (ga_NoSeeker : PySem.W.findIn K (.ref K_NoSeeker) "__getattribute__" = some (some (.builtin "BaseException.__getattribute__")))
    (gg_NoSeeker : PySem.W.findIn K (.ref K_NoSeeker) "__getattr__" = some none)
    (hd_NoSeeker : PySem.W.hasDictIn K K_NoSeeker = true)
    (cl_NoSeeker : PySem.W.findIn K (.ref K_NoSeeker) "__class__" = some (some (.builtin "object.__class__")))
    (mo_NoSeeker : PySem.W.mroIn K K_NoSeeker (.type "object") = some true)
    (is_NoSeeker : PySem.W.isClsIn K K_NoSeeker = true)
    (g_NoAnswer : PySem.W.nsIn K mainGlobals "NoAnswer" = some (some (.ref K_NoAnswer)))
    (kp_NoAnswer : PySem.W.keepIn K (.ref K_NoAnswer) = true)
    (sb_NoAnswer : PySem.W.subIn K (.ref K_NoAnswer) (.type "BaseException") = some true)
    (ty_NoAnswer : PySem.W.typeIn K (.ref K_NoAnswer) = some (.type "type"))
    (ga_NoAnswer : PySem.W.findIn K (.ref K_NoAnswer) "__getattribute__" = some (some (.builtin "BaseException.__getattribute__")))
    (gg_NoAnswer : PySem.W.findIn K (.ref K_NoAnswer) "__getattr__" = some none)
    (hd_NoAnswer : PySem.W.hasDictIn K K_NoAnswer = true)
    (cl_NoAnswer : PySem.W.findIn K (.ref K_NoAnswer) "__class__" = some (some (.builtin "object.__class__")))
    (mo_NoAnswer : PySem.W.mroIn K K_NoAnswer (.type "object") = some true)
    (is_NoAnswer : PySem.W.isClsIn K K_NoAnswer = true)
    (xi_NoAnswer : PySem.W.findIn K (.ref K_NoAnswer) "__init__" = some (some (.ref fi_NoAnswer)))
    (xl_NoAnswer : K.lookup fi_NoAnswer = some ⟨oc_NoAnswer, od_NoAnswer, .func (PySem.W.ksFn "__init__" "NoAnswer.__init__" (defArgs sx_NoAnswer) [.Expr (.Call (.Attribute (.Call (.Name "super" ⟨39, 8, 39, 13⟩) [] [] ⟨39, 8, 39, 15⟩) "__init__" ⟨39, 8, 39, 24⟩) [.Constant (.str "not one of the answers") 0 ⟨39, 25, 39, 49⟩] [] ⟨39, 8, 39, 50⟩) ⟨39, 8, 39, 50⟩, .Assign [.Attribute (.Name "self" ⟨40, 8, 40, 12⟩) "answer" ⟨40, 8, 40, 19⟩] (.Name "answer" ⟨40, 22, 40, 28⟩) ⟨40, 8, 40, 28⟩] (defScope sx_NoAnswer) .none kV_NoAnswer dc_NoAnswer pm_NoAnswer an_NoAnswer (.ref ca_NoAnswer) ct_NoAnswer ce_NoAnswer), sl_NoAnswer⟩)
    (xo_NoAnswer : oexIn K K_NoAnswer = true)
    (xsa_NoAnswer : PySem.W.findIn K (.ref K_NoAnswer) "__setattr__" = some (some (.builtin "object.__setattr__")))
    (xno_NoAnswer : PySem.W.findIn K (.ref K_NoAnswer) "answer" = some none)
    (xt_NoAnswer : PySem.W.typeIn K (.ref fi_NoAnswer) = some (.type "function"))
    (xm_NoAnswer : PySem.W.mroIn K K_NoAnswer (.ref K_NoAnswer) = some true)
    (xvs_NoAnswer : PySem.W.subIn K (.ref K_NoAnswer) (.type "ValueError") = some true)
    (xsu_NoAnswer : PySem.W.ks_superIn K K_NoAnswer K_NoAnswer "__init__" = some (some (.builtin "ValueError.__init__")))
    (xcd_NoAnswer : PySem.W.codeIn K (.ref ca_NoAnswer) "NoAnswer.__init__" = true)
    (xcf_NoAnswer : K.lookup ca_NoAnswer = some ⟨c1_NoAnswer, c2_NoAnswer, .fields vs_NoAnswer, c3_NoAnswer⟩)
    (xcv_NoAnswer : vs_NoAnswer[2]? = some (.str PySem.Challenge.rw_selfsort_k03_errors.prog.main.file tf_NoAnswer))
    (xcl_NoAnswer : K.lookup ce_NoAnswer = some ⟨d1_NoAnswer, d2_NoAnswer, .cell (some (.ref K_NoAnswer)), d3_NoAnswer⟩)
    (g_NoMark : PySem.W.nsIn K mainGlobals "NoMark" = some (some (.ref K_NoMark)))
    (kp_NoMark : PySem.W.keepIn K (.ref K_NoMark) = true)
    (sb_NoMark : PySem.W.subIn K (.ref K_NoMark) (.type "BaseException") = some true)
    (ty_NoMark : PySem.W.typeIn K (.ref K_NoMark) = some (.type "type"))
    (ga_NoMark : PySem.W.findIn K (.ref K_NoMark) "__getattribute__" = some (some (.builtin "BaseException.__getattribute__")))
    (gg_NoMark : PySem.W.findIn K (.ref K_NoMark) "__getattr__" = some none)
    (hd_NoMark : PySem.W.hasDictIn K K_NoMark = true)
    (cl_NoMark : PySem.W.findIn K (.ref K_NoMark) "__class__" = some (some (.builtin "object.__class__")))
    (mo_NoMark : PySem.W.mroIn K K_NoMark (.type "object") = some true)
    (is_NoMark : PySem.W.isClsIn K K_NoMark = true)
    (xi_NoMark : PySem.W.findIn K (.ref K_NoMark) "__init__" = some (some (.ref fi_NoMark)))
    (xl_NoMark : K.lookup fi_NoMark = some ⟨oc_NoMark, od_NoMark, .func (PySem.W.ksFn "__init__" "NoMark.__init__" (defArgs sx_NoMark) [.Expr (.Call (.Attribute (.Call (.Name "super" ⟨44, 8, 44, 13⟩) [] [] ⟨44, 8, 44, 15⟩) "__init__" ⟨44, 8, 44, 24⟩) [.Constant (.str "not the number of a mark") 0 ⟨44, 25, 44, 51⟩] [] ⟨44, 8, 44, 52⟩) ⟨44, 8, 44, 52⟩, .Assign [.Attribute (.Name "self" ⟨45, 8, 45, 12⟩) "number" ⟨45, 8, 45, 19⟩] (.Name "number" ⟨45, 22, 45, 28⟩) ⟨45, 8, 45, 28⟩] (defScope sx_NoMark) .none kV_NoMark dc_NoMark pm_NoMark an_NoMark (.ref ca_NoMark) ct_NoMark ce_NoMark), sl_NoMark⟩)
    (xo_NoMark : oexIn K K_NoMark = true)
    (xsa_NoMark : PySem.W.findIn K (.ref K_NoMark) "__setattr__" = some (some (.builtin "object.__setattr__")))
    (xno_NoMark : PySem.W.findIn K (.ref K_NoMark) "number" = some none)
    (xt_NoMark : PySem.W.typeIn K (.ref fi_NoMark) = some (.type "function"))
    (xm_NoMark : PySem.W.mroIn K K_NoMark (.ref K_NoMark) = some true)
    (xvs_NoMark : PySem.W.subIn K (.ref K_NoMark) (.type "ValueError") = some true)
    (xsu_NoMark : PySem.W.ks_superIn K K_NoMark K_NoMark "__init__" = some (some (.builtin "ValueError.__init__")))
    (xcd_NoMark : PySem.W.codeIn K (.ref ca_NoMark) "NoMark.__init__" = true)
    (xcf_NoMark : K.lookup ca_NoMark = some ⟨c1_NoMark, c2_NoMark, .fields vs_NoMark, c3_NoMark⟩)
    (xcv_NoMark : vs_NoMark[2]? = some (.str PySem.Challenge.rw_selfsort_k03_errors.prog.main.file tf_NoMark))
    (xcl_NoMark : K.lookup ce_NoMark = some ⟨d1_NoMark, d2_NoMark, .cell (some (.ref K_NoMark)), d3_NoMark⟩)
    (g_TooMany : PySem.W.nsIn K mainGlobals "TooMany" = some (some (.ref K_TooMany)))
    (kp_TooMany : PySem.W.keepIn K (.ref K_TooMany) = true)
    (sb_TooMany : PySem.W.subIn K (.ref K_TooMany) (.type "BaseException") = some true)
    (ty_TooMany : PySem.W.typeIn K (.ref K_TooMany) = some (.type "type"))
    (ga_TooMany : PySem.W.findIn K (.ref K_TooMany) "__getattribute__" = some (some (.builtin "BaseException.__getattribute__")))
    (gg_TooMany : PySem.W.findIn K (.ref K_TooMany) "__getattr__" = some none)
    (hd_TooMany : PySem.W.hasDictIn K K_TooMany = true)
    (cl_TooMany : PySem.W.findIn K (.ref K_TooMany) "__class__" = some (some (.builtin "object.__class__")))
    (mo_TooMany : PySem.W.mroIn K K_TooMany (.type "object") = some true)
    (is_TooMany : PySem.W.isClsIn K K_TooMany = true)
    (xi_TooMany : PySem.W.findIn K (.ref K_TooMany) "__init__" = some (some (.ref fi_TooMany)))
    (xl_TooMany : K.lookup fi_TooMany = some ⟨oc_TooMany, od_TooMany, .func (PySem.W.ksFn "__init__" "TooMany.__init__" (defArgs sx_TooMany) [.Expr (.Call (.Attribute (.Call (.Name "super" ⟨49, 8, 49, 13⟩) [] [] ⟨49, 8, 49, 15⟩) "__init__" ⟨49, 8, 49, 24⟩) [.Constant (.str "more than the limit allows") 0 ⟨49, 25, 49, 53⟩] [] ⟨49, 8, 49, 54⟩) ⟨49, 8, 49, 54⟩, .Assign [.Attribute (.Name "self" ⟨50, 8, 50, 12⟩) "limit" ⟨50, 8, 50, 18⟩] (.Name "limit" ⟨50, 21, 50, 26⟩) ⟨50, 8, 50, 26⟩] (defScope sx_TooMany) .none kV_TooMany dc_TooMany pm_TooMany an_TooMany (.ref ca_TooMany) ct_TooMany ce_TooMany), sl_TooMany⟩)
    (xo_TooMany : oexIn K K_TooMany = true)
    (xsa_TooMany : PySem.W.findIn K (.ref K_TooMany) "__setattr__" = some (some (.builtin "object.__setattr__")))
    (xno_TooMany : PySem.W.findIn K (.ref K_TooMany) "limit" = some none)
    (xt_TooMany : PySem.W.typeIn K (.ref fi_TooMany) = some (.type "function"))
    (xm_TooMany : PySem.W.mroIn K K_TooMany (.ref K_TooMany) = some true)
    (xvs_TooMany : PySem.W.subIn K (.ref K_TooMany) (.type "ValueError") = some true)
    (xsu_TooMany : PySem.W.ks_superIn K K_TooMany K_TooMany "__init__" = some (some (.builtin "ValueError.__init__")))
    (xcd_TooMany : PySem.W.codeIn K (.ref ca_TooMany) "TooMany.__init__" = true)
    (xcf_TooMany : K.lookup ca_TooMany = some ⟨c1_TooMany, c2_TooMany, .fields vs_TooMany, c3_TooMany⟩)
    (xcv_TooMany : vs_TooMany[2]? = some (.str PySem.Challenge.rw_selfsort_k03_errors.prog.main.file tf_TooMany))
    (xcl_TooMany : K.lookup ce_TooMany = some ⟨d1_TooMany, d2_TooMany, .cell (some (.ref K_TooMany)), d3_TooMany⟩)
    (supx : supRow K supC [(Str.ofString "SortError", K_SortError), (Str.ofString "NoItems", K_NoItems), (Str.ofString "NoOrder", K_NoOrder), (Str.ofString "NoItem", K_NoItem), (Str.ofString "NoPlace", K_NoPlace), (Str.ofString "NoRule", K_NoRule), (Str.ofString "NoStanding", K_NoStanding), (Str.ofString "NoAsks", K_NoAsks), (Str.ofString "NoRules", K_NoRules), (Str.ofString "NoCase", K_NoCase), (Str.ofString "NoLot", K_NoLot), (Str.ofString "NoGoal", K_NoGoal), (Str.ofString "NoLog", K_NoLog), (Str.ofString "NoNumber", K_NoNumber), (Str.ofString "NoName", K_NoName), (Str.ofString "NoRecord", K_NoRecord), (Str.ofString "NoSeeker", K_NoSeeker), (Str.ofString "NoAnswer", K_NoAnswer), (Str.ofString "NoMark", K_NoMark), (Str.ofString "TooMany", K_TooMany)] = true)
    (hn : PySem.W.specialIn K (.builtin "object.__class__") "__get__" = some (some (.builtin "getset_descriptor.__get__")))
    (ht : PySem.W.takesIn K (.builtin "object.__class__") = some true) :
    ∃ (fd : FuncData) (cm : Str → Option Addr), (∀ (s : Shared) (u : Value), BindsTo s fd ⟨[u], []⟩ [("script", u)]) ∧ ∀ base : Heap, K.In base → base.Ns mainGlobals mg → FnG PySem.Challenge.rw_selfsort_k03_errors.prog w K mg base cm 4 fa fd ["script"] f_law := by
  have B : Blt mg := ⟨PySem.W.mg_none_of X G z_len, PySem.W.mg_none_of X G z_int, PySem.W.mg_none_of X G z_list, PySem.W.mg_none_of X G z_tuple, PySem.W.mg_none_of X G z_range, PySem.W.mg_none_of X G z_enumerate, PySem.W.mg_none_of X G z_isinstance, PySem.W.mg_none_of X G z_repr, PySem.W.mg_none_of X G z_type, PySem.W.mg_none_of X G z_all, PySem.W.mg_none_of X G z_any, PySem.W.mg_none_of X G z_max, PySem.W.mg_none_of X G z_min, PySem.W.mg_none_of X G z_set, PySem.W.mg_none_of X G z_sorted, PySem.W.mg_none_of X G z_sum, PySem.W.mg_none_of X G z_str, PySem.W.mg_none_of X G z_bool, PySem.W.mg_none_of X G z_zip⟩
  have cc_SortError := cc_SortError K_SortError K_NoItems K_NoOrder K_NoItem K_NoPlace K_NoRule K_NoStanding K_NoAsks K_NoRules K_NoCase K_NoLot K_NoGoal K_NoLog K_NoNumber K_NoName K_NoRecord K_NoSeeker K_NoAnswer K_NoMark K_TooMany
  have cc_NoItems := cc_NoItems K_SortError K_NoItems K_NoOrder K_NoItem K_NoPlace K_NoRule K_NoStanding K_NoAsks K_NoRules K_NoCase K_NoLot K_NoGoal K_NoLog K_NoNumber K_NoName K_NoRecord K_NoSeeker K_NoAnswer K_NoMark K_TooMany
  have cc_NoOrder := cc_NoOrder K_SortError K_NoItems K_NoOrder K_NoItem K_NoPlace K_NoRule K_NoStanding K_NoAsks K_NoRules K_NoCase K_NoLot K_NoGoal K_NoLog K_NoNumber K_NoName K_NoRecord K_NoSeeker K_NoAnswer K_NoMark K_TooMany
  have cc_NoItem := cc_NoItem K_SortError K_NoItems K_NoOrder K_NoItem K_NoPlace K_NoRule K_NoStanding K_NoAsks K_NoRules K_NoCase K_NoLot K_NoGoal K_NoLog K_NoNumber K_NoName K_NoRecord K_NoSeeker K_NoAnswer K_NoMark K_TooMany
  have cc_NoPlace := cc_NoPlace K_SortError K_NoItems K_NoOrder K_NoItem K_NoPlace K_NoRule K_NoStanding K_NoAsks K_NoRules K_NoCase K_NoLot K_NoGoal K_NoLog K_NoNumber K_NoName K_NoRecord K_NoSeeker K_NoAnswer K_NoMark K_TooMany
  have cc_NoRule := cc_NoRule K_SortError K_NoItems K_NoOrder K_NoItem K_NoPlace K_NoRule K_NoStanding K_NoAsks K_NoRules K_NoCase K_NoLot K_NoGoal K_NoLog K_NoNumber K_NoName K_NoRecord K_NoSeeker K_NoAnswer K_NoMark K_TooMany
  have cc_NoStanding := cc_NoStanding K_SortError K_NoItems K_NoOrder K_NoItem K_NoPlace K_NoRule K_NoStanding K_NoAsks K_NoRules K_NoCase K_NoLot K_NoGoal K_NoLog K_NoNumber K_NoName K_NoRecord K_NoSeeker K_NoAnswer K_NoMark K_TooMany
  have cc_NoAsks := cc_NoAsks K_SortError K_NoItems K_NoOrder K_NoItem K_NoPlace K_NoRule K_NoStanding K_NoAsks K_NoRules K_NoCase K_NoLot K_NoGoal K_NoLog K_NoNumber K_NoName K_NoRecord K_NoSeeker K_NoAnswer K_NoMark K_TooMany
  have cc_NoRules := cc_NoRules K_SortError K_NoItems K_NoOrder K_NoItem K_NoPlace K_NoRule K_NoStanding K_NoAsks K_NoRules K_NoCase K_NoLot K_NoGoal K_NoLog K_NoNumber K_NoName K_NoRecord K_NoSeeker K_NoAnswer K_NoMark K_TooMany
  have cc_NoCase := cc_NoCase K_SortError K_NoItems K_NoOrder K_NoItem K_NoPlace K_NoRule K_NoStanding K_NoAsks K_NoRules K_NoCase K_NoLot K_NoGoal K_NoLog K_NoNumber K_NoName K_NoRecord K_NoSeeker K_NoAnswer K_NoMark K_TooMany
  have cc_NoLot := cc_NoLot K_SortError K_NoItems K_NoOrder K_NoItem K_NoPlace K_NoRule K_NoStanding K_NoAsks K_NoRules K_NoCase K_NoLot K_NoGoal K_NoLog K_NoNumber K_NoName K_NoRecord K_NoSeeker K_NoAnswer K_NoMark K_TooMany
  have cc_NoGoal := cc_NoGoal K_SortError K_NoItems K_NoOrder K_NoItem K_NoPlace K_NoRule K_NoStanding K_NoAsks K_NoRules K_NoCase K_NoLot K_NoGoal K_NoLog K_NoNumber K_NoName K_NoRecord K_NoSeeker K_NoAnswer K_NoMark K_TooMany
  have cc_NoLog := cc_NoLog K_SortError K_NoItems K_NoOrder K_NoItem K_NoPlace K_NoRule K_NoStanding K_NoAsks K_NoRules K_NoCase K_NoLot K_NoGoal K_NoLog K_NoNumber K_NoName K_NoRecord K_NoSeeker K_NoAnswer K_NoMark K_TooMany
  have cc_NoNumber := cc_NoNumber K_SortError K_NoItems K_NoOrder K_NoItem K_NoPlace K_NoRule K_NoStanding K_NoAsks K_NoRules K_NoCase K_NoLot K_NoGoal K_NoLog K_NoNumber K_NoName K_NoRecord K_NoSeeker K_NoAnswer K_NoMark K_TooMany
  have cc_NoName := cc_NoName K_SortError K_NoItems K_NoOrder K_NoItem K_NoPlace K_NoRule K_NoStanding K_NoAsks K_NoRules K_NoCase K_NoLot K_NoGoal K_NoLog K_NoNumber K_NoName K_NoRecord K_NoSeeker K_NoAnswer K_NoMark K_TooMany
  have cc_NoRecord := cc_NoRecord K_SortError K_NoItems K_NoOrder K_NoItem K_NoPlace K_NoRule K_NoStanding K_NoAsks K_NoRules K_NoCase K_NoLot K_NoGoal K_NoLog K_NoNumber K_NoName K_NoRecord K_NoSeeker K_NoAnswer K_NoMark K_TooMany
  have cc_NoSeeker := cc_NoSeeker K_SortError K_NoItems K_NoOrder K_NoItem K_NoPlace K_NoRule K_NoStanding K_NoAsks K_NoRules K_NoCase K_NoLot K_NoGoal K_NoLog K_NoNumber K_NoName K_NoRecord K_NoSeeker K_NoAnswer K_NoMark K_TooMany
  have cc_NoAnswer := cc_NoAnswer K_SortError K_NoItems K_NoOrder K_NoItem K_NoPlace K_NoRule K_NoStanding K_NoAsks K_NoRules K_NoCase K_NoLot K_NoGoal K_NoLog K_NoNumber K_NoName K_NoRecord K_NoSeeker K_NoAnswer K_NoMark K_TooMany
  have cc_NoMark := cc_NoMark K_SortError K_NoItems K_NoOrder K_NoItem K_NoPlace K_NoRule K_NoStanding K_NoAsks K_NoRules K_NoCase K_NoLot K_NoGoal K_NoLog K_NoNumber K_NoName K_NoRecord K_NoSeeker K_NoAnswer K_NoMark K_TooMany
  have cc_TooMany := cc_TooMany K_SortError K_NoItems K_NoOrder K_NoItem K_NoPlace K_NoRule K_NoStanding K_NoAsks K_NoRules K_NoCase K_NoLot K_NoGoal K_NoLog K_NoNumber K_NoName K_NoRecord K_NoSeeker K_NoAnswer K_NoMark K_TooMany
  have F0 := fun_mk (st := s__law_spread) l0 c0 k0
  have T0 : At K mg "_law_spread" s__law_spread ["cell", "at"] := ⟨⟨f0, _, F0, PySem.W.mg_of X G a0, F0.binds (ps := ["cell", "at"]) fun _ _ _ _ _ _ us hl => match us, hl with | [_, _], _ => rfl⟩⟩
  have F1 := fun_mk (st := s__law_open) l1 c1 k1
  have T1 : At K mg "_law_open" s__law_open ["script"] := ⟨⟨f1, _, F1, PySem.W.mg_of X G a1, F1.binds (ps := ["script"]) fun _ _ _ _ _ _ us hl => match us, hl with | [_], _ => rfl⟩⟩
  have F2 := fun_mk (st := s__law_take) l2 c2 k2
  have T2 : At K mg "_law_take" s__law_take ["pen", "many"] := ⟨⟨f2, _, F2, PySem.W.mg_of X G a2, F2.binds (ps := ["pen", "many"]) fun _ _ _ _ _ _ us hl => match us, hl with | [_, _], _ => rfl⟩⟩
  have F3 := fun_mk (st := s__law_one) l3 c3 k3
  have T3 : At K mg "_law_one" s__law_one ["pen", "some"] := ⟨⟨f3, _, F3, PySem.W.mg_of X G a3, F3.binds (ps := ["pen", "some"]) fun _ _ _ _ _ _ us hl => match us, hl with | [_, _], _ => rfl⟩⟩
  have F4 := fun_mk (st := s__law_kinds) l4 c4 k4
  have T4 : At K mg "_law_kinds" s__law_kinds ["one"] := ⟨⟨f4, _, F4, PySem.W.mg_of X G a4, F4.binds (ps := ["one"]) fun _ _ _ _ _ _ us hl => match us, hl with | [_], _ => rfl⟩⟩
  have F5 := fun_mk (st := s_law) l5 c5 k5
  have T5 : At K mg "law" s_law ["script"] := ⟨⟨f5, _, F5, PySem.W.mg_of X G a5, F5.binds (ps := ["script"]) fun _ _ _ _ _ _ us hl => match us, hl with | [_], _ => rfl⟩⟩
  have ini_NoAnswer : XInit PySem.Challenge.rw_selfsort_k03_errors.prog K mg (cmC K_SortError K_NoItems K_NoOrder K_NoItem K_NoPlace K_NoRule K_NoStanding K_NoAsks K_NoRules K_NoCase K_NoLot K_NoGoal K_NoLog K_NoNumber K_NoName K_NoRecord K_NoSeeker K_NoAnswer K_NoMark K_TooMany) "NoAnswer" "answer" := by
    refine ⟨⟨K_NoAnswer, fi_NoAnswer, ce_NoAnswer, ca_NoAnswer, "NoAnswer.__init__", "self", "answer", "not one of the answers", defArgs sx_NoAnswer, defScope sx_NoAnswer, ⟨39, 8, 39, 13⟩, ⟨39, 8, 39, 15⟩, ⟨39, 8, 39, 24⟩, ⟨39, 25, 39, 49⟩, ⟨39, 8, 39, 50⟩, ⟨39, 8, 39, 50⟩, ⟨40, 8, 40, 12⟩, ⟨40, 8, 40, 19⟩, ⟨40, 22, 40, 28⟩, ⟨40, 8, 40, 28⟩, 0, kV_NoAnswer, dc_NoAnswer, pm_NoAnswer, ct_NoAnswer, an_NoAnswer, PySem.W.mg_of X G g_NoAnswer, cc_NoAnswer, ?_⟩⟩
    exact ⟨PySem.W.mg_none_of X G z_super, xo_NoAnswer, xsa_NoAnswer, xno_NoAnswer, kp_NoAnswer, xi_NoAnswer, xt_NoAnswer, xm_NoAnswer, xvs_NoAnswer, xsu_NoAnswer, xop, ⟨_, _, _, xl_NoAnswer⟩, xcd_NoAnswer, ⟨_, _, _, _, _, xcf_NoAnswer, xcv_NoAnswer⟩, ⟨_, _, _, xcl_NoAnswer⟩, ⟨_, rfl, rfl⟩, fun s u v => .of_eq rfl, by decide +kernel, rfl, rfl, rfl, rfl, by decide +kernel, by decide +kernel, by decide +kernel, rfl, rfl, rfl, by kernel_rfl, ⟨_, fun L => rfl⟩, fun L => rfl, fun e => rfl, fun e => rfl⟩
  have ini_NoMark : XInit PySem.Challenge.rw_selfsort_k03_errors.prog K mg (cmC K_SortError K_NoItems K_NoOrder K_NoItem K_NoPlace K_NoRule K_NoStanding K_NoAsks K_NoRules K_NoCase K_NoLot K_NoGoal K_NoLog K_NoNumber K_NoName K_NoRecord K_NoSeeker K_NoAnswer K_NoMark K_TooMany) "NoMark" "number" := by
    refine ⟨⟨K_NoMark, fi_NoMark, ce_NoMark, ca_NoMark, "NoMark.__init__", "self", "number", "not the number of a mark", defArgs sx_NoMark, defScope sx_NoMark, ⟨44, 8, 44, 13⟩, ⟨44, 8, 44, 15⟩, ⟨44, 8, 44, 24⟩, ⟨44, 25, 44, 51⟩, ⟨44, 8, 44, 52⟩, ⟨44, 8, 44, 52⟩, ⟨45, 8, 45, 12⟩, ⟨45, 8, 45, 19⟩, ⟨45, 22, 45, 28⟩, ⟨45, 8, 45, 28⟩, 0, kV_NoMark, dc_NoMark, pm_NoMark, ct_NoMark, an_NoMark, PySem.W.mg_of X G g_NoMark, cc_NoMark, ?_⟩⟩
    exact ⟨PySem.W.mg_none_of X G z_super, xo_NoMark, xsa_NoMark, xno_NoMark, kp_NoMark, xi_NoMark, xt_NoMark, xm_NoMark, xvs_NoMark, xsu_NoMark, xop, ⟨_, _, _, xl_NoMark⟩, xcd_NoMark, ⟨_, _, _, _, _, xcf_NoMark, xcv_NoMark⟩, ⟨_, _, _, xcl_NoMark⟩, ⟨_, rfl, rfl⟩, fun s u v => .of_eq rfl, by decide +kernel, rfl, rfl, rfl, rfl, by decide +kernel, by decide +kernel, by decide +kernel, rfl, rfl, rfl, by kernel_rfl, ⟨_, fun L => rfl⟩, fun L => rfl, fun e => rfl, fun e => rfl⟩
  have ini_TooMany : XInit PySem.Challenge.rw_selfsort_k03_errors.prog K mg (cmC K_SortError K_NoItems K_NoOrder K_NoItem K_NoPlace K_NoRule K_NoStanding K_NoAsks K_NoRules K_NoCase K_NoLot K_NoGoal K_NoLog K_NoNumber K_NoName K_NoRecord K_NoSeeker K_NoAnswer K_NoMark K_TooMany) "TooMany" "limit" := by
    refine ⟨⟨K_TooMany, fi_TooMany, ce_TooMany, ca_TooMany, "TooMany.__init__", "self", "limit", "more than the limit allows", defArgs sx_TooMany, defScope sx_TooMany, ⟨49, 8, 49, 13⟩, ⟨49, 8, 49, 15⟩, ⟨49, 8, 49, 24⟩, ⟨49, 25, 49, 53⟩, ⟨49, 8, 49, 54⟩, ⟨49, 8, 49, 54⟩, ⟨50, 8, 50, 12⟩, ⟨50, 8, 50, 18⟩, ⟨50, 21, 50, 26⟩, ⟨50, 8, 50, 26⟩, 0, kV_TooMany, dc_TooMany, pm_TooMany, ct_TooMany, an_TooMany, PySem.W.mg_of X G g_TooMany, cc_TooMany, ?_⟩⟩
    exact ⟨PySem.W.mg_none_of X G z_super, xo_TooMany, xsa_TooMany, xno_TooMany, kp_TooMany, xi_TooMany, xt_TooMany, xm_TooMany, xvs_TooMany, xsu_TooMany, xop, ⟨_, _, _, xl_TooMany⟩, xcd_TooMany, ⟨_, _, _, _, _, xcf_TooMany, xcv_TooMany⟩, ⟨_, _, _, xcl_TooMany⟩, ⟨_, rfl, rfl⟩, fun s u v => .of_eq rfl, by decide +kernel, rfl, rfl, rfl, rfl, by decide +kernel, by decide +kernel, by decide +kernel, rfl, rfl, rfl, by kernel_rfl, ⟨_, fun L => rfl⟩, fun L => rfl, fun e => rfl, fun e => rfl⟩
  have sv := sup_of (cm := (cmC K_SortError K_NoItems K_NoOrder K_NoItem K_NoPlace K_NoRule K_NoStanding K_NoAsks K_NoRules K_NoCase K_NoLot K_NoGoal K_NoLog K_NoNumber K_NoName K_NoRecord K_NoSeeker K_NoAnswer K_NoMark K_TooMany)) (cm_inv K_SortError K_NoItems K_NoOrder K_NoItem K_NoPlace K_NoRule K_NoStanding K_NoAsks K_NoRules K_NoCase K_NoLot K_NoGoal K_NoLog K_NoNumber K_NoName K_NoRecord K_NoSeeker K_NoAnswer K_NoMark K_TooMany) supx hn ht
  have C : Cst PySem.Challenge.rw_selfsort_k03_errors.prog K mg (cmC K_SortError K_NoItems K_NoOrder K_NoItem K_NoPlace K_NoRule K_NoStanding K_NoAsks K_NoRules K_NoCase K_NoLot K_NoGoal K_NoLog K_NoNumber K_NoName K_NoRecord K_NoSeeker K_NoAnswer K_NoMark K_TooMany) := ⟨⟨⟨K_SortError, ⟨PySem.W.mg_of X G g_SortError, cc_SortError, q_SortError, kp_SortError, sb_SortError, ty_SortError, ga_SortError, gg_SortError, hd_SortError, cl_SortError, mo_SortError⟩⟩⟩, ⟨⟨K_NoItems, ⟨PySem.W.mg_of X G g_NoItems, cc_NoItems, q_NoItems, kp_NoItems, sb_NoItems, ty_NoItems, ga_NoItems, gg_NoItems, hd_NoItems, cl_NoItems, mo_NoItems⟩⟩⟩, ⟨⟨K_NoOrder, ⟨PySem.W.mg_of X G g_NoOrder, cc_NoOrder, q_NoOrder, kp_NoOrder, sb_NoOrder, ty_NoOrder, ga_NoOrder, gg_NoOrder, hd_NoOrder, cl_NoOrder, mo_NoOrder⟩⟩⟩, ⟨⟨K_NoItem, ⟨PySem.W.mg_of X G g_NoItem, cc_NoItem, q_NoItem, kp_NoItem, sb_NoItem, ty_NoItem, ga_NoItem, gg_NoItem, hd_NoItem, cl_NoItem, mo_NoItem⟩⟩⟩, ⟨⟨K_NoPlace, ⟨PySem.W.mg_of X G g_NoPlace, cc_NoPlace, q_NoPlace, kp_NoPlace, sb_NoPlace, ty_NoPlace, ga_NoPlace, gg_NoPlace, hd_NoPlace, cl_NoPlace, mo_NoPlace⟩⟩⟩, ⟨⟨K_NoRule, ⟨PySem.W.mg_of X G g_NoRule, cc_NoRule, q_NoRule, kp_NoRule, sb_NoRule, ty_NoRule, ga_NoRule, gg_NoRule, hd_NoRule, cl_NoRule, mo_NoRule⟩⟩⟩, ⟨⟨K_NoStanding, ⟨PySem.W.mg_of X G g_NoStanding, cc_NoStanding, q_NoStanding, kp_NoStanding, sb_NoStanding, ty_NoStanding, ga_NoStanding, gg_NoStanding, hd_NoStanding, cl_NoStanding, mo_NoStanding⟩⟩⟩, ⟨⟨K_NoAsks, ⟨PySem.W.mg_of X G g_NoAsks, cc_NoAsks, q_NoAsks, kp_NoAsks, sb_NoAsks, ty_NoAsks, ga_NoAsks, gg_NoAsks, hd_NoAsks, cl_NoAsks, mo_NoAsks⟩⟩⟩, ⟨⟨K_NoRules, ⟨PySem.W.mg_of X G g_NoRules, cc_NoRules, q_NoRules, kp_NoRules, sb_NoRules, ty_NoRules, ga_NoRules, gg_NoRules, hd_NoRules, cl_NoRules, mo_NoRules⟩⟩⟩, ⟨⟨K_NoCase, ⟨PySem.W.mg_of X G g_NoCase, cc_NoCase, q_NoCase, kp_NoCase, sb_NoCase, ty_NoCase, ga_NoCase, gg_NoCase, hd_NoCase, cl_NoCase, mo_NoCase⟩⟩⟩, ⟨⟨K_NoLot, ⟨PySem.W.mg_of X G g_NoLot, cc_NoLot, q_NoLot, kp_NoLot, sb_NoLot, ty_NoLot, ga_NoLot, gg_NoLot, hd_NoLot, cl_NoLot, mo_NoLot⟩⟩⟩, ⟨⟨K_NoGoal, ⟨PySem.W.mg_of X G g_NoGoal, cc_NoGoal, q_NoGoal, kp_NoGoal, sb_NoGoal, ty_NoGoal, ga_NoGoal, gg_NoGoal, hd_NoGoal, cl_NoGoal, mo_NoGoal⟩⟩⟩, ⟨⟨K_NoLog, ⟨PySem.W.mg_of X G g_NoLog, cc_NoLog, q_NoLog, kp_NoLog, sb_NoLog, ty_NoLog, ga_NoLog, gg_NoLog, hd_NoLog, cl_NoLog, mo_NoLog⟩⟩⟩, ⟨⟨K_NoNumber, ⟨PySem.W.mg_of X G g_NoNumber, cc_NoNumber, q_NoNumber, kp_NoNumber, sb_NoNumber, ty_NoNumber, ga_NoNumber, gg_NoNumber, hd_NoNumber, cl_NoNumber, mo_NoNumber⟩⟩⟩, ⟨⟨K_NoName, ⟨PySem.W.mg_of X G g_NoName, cc_NoName, q_NoName, kp_NoName, sb_NoName, ty_NoName, ga_NoName, gg_NoName, hd_NoName, cl_NoName, mo_NoName⟩⟩⟩, ⟨⟨K_NoRecord, ⟨PySem.W.mg_of X G g_NoRecord, cc_NoRecord, q_NoRecord, kp_NoRecord, sb_NoRecord, ty_NoRecord, ga_NoRecord, gg_NoRecord, hd_NoRecord, cl_NoRecord, mo_NoRecord⟩⟩⟩, ⟨⟨K_NoSeeker, ⟨PySem.W.mg_of X G g_NoSeeker, cc_NoSeeker, q_NoSeeker, kp_NoSeeker, sb_NoSeeker, ty_NoSeeker, ga_NoSeeker, gg_NoSeeker, hd_NoSeeker, cl_NoSeeker, mo_NoSeeker⟩⟩⟩, ini_NoAnswer, ini_NoMark, ini_TooMany, sv.1, sv.2, PySem.W.mg_none_of X G z_ValueError, ⟨fun C hc => by
    have e := cc_NoAnswer.symm.trans hc
    cases e
    exact ⟨⟨ga_NoAnswer, gg_NoAnswer, sb_NoAnswer, hd_NoAnswer⟩, xno_NoAnswer⟩⟩, ⟨fun C hc => by
    have e := cc_NoMark.symm.trans hc
    cases e
    exact ⟨⟨ga_NoMark, gg_NoMark, sb_NoMark, hd_NoMark⟩, xno_NoMark⟩⟩, ⟨fun C hc => by
    have e := cc_TooMany.symm.trans hc
    cases e
    exact ⟨⟨ga_TooMany, gg_TooMany, sb_TooMany, hd_TooMany⟩, xno_TooMany⟩⟩⟩
  have same := hfa.symm.trans (PySem.W.mg_of X G a5)
  cases same
  refine ⟨PySem.W.fnOf "law" "law" (defArgs s_law) (defBody s_law) (defScope s_law) .none kV5 dc5 pm5 an5 cd5 ct5, (cmC K_SortError K_NoItems K_NoOrder K_NoItem K_NoPlace K_NoRule K_NoStanding K_NoAsks K_NoRules K_NoCase K_NoLot K_NoGoal K_NoLog K_NoNumber K_NoName K_NoRecord K_NoSeeker K_NoAnswer K_NoMark K_TooMany), fun s u => .of_eq rfl, fun base _ _ => ?_⟩
  have D__law_kinds := ok__law_kinds (P := PySem.Challenge.rw_selfsort_k03_errors.prog) (w := w) (base := base) B C T4 
  have D__law_spread := ok__law_spread (P := PySem.Challenge.rw_selfsort_k03_errors.prog) (w := w) (base := base) B C T0 
  have D__law_take := ok__law_take (P := PySem.Challenge.rw_selfsort_k03_errors.prog) (w := w) (base := base) B C T2 D__law_spread
  have D__law_one := ok__law_one (P := PySem.Challenge.rw_selfsort_k03_errors.prog) (w := w) (base := base) B C T3 D__law_take
  have D__law_open := ok__law_open (P := PySem.Challenge.rw_selfsort_k03_errors.prog) (w := w) (base := base) B C T1 
  exact okF_law (P := PySem.Challenge.rw_selfsort_k03_errors.prog) (w := w) (base := base) B C F5 D__law_kinds D__law_one D__law_open
end G2
end

section
set_option Elab.async false
set_option linter.all false
set_option maxRecDepth 100000
open PyProof.Rows PySem PySem.W
set_option maxHeartbeats 0 in
theorem PySem.Challenge.cw_selfsort_k03_errors_holds : PySem.Challenge.rw_selfsort_k03_errors.Holds := by
  w_on; o_law; k_head
  (case hw => w_witness2)
  k_fill
  refine Mach.walk_G (l := PySem.Challenge.rw_selfsort_k03_errors) (n := 63) (k := 4) (x := "script") (fn := G2.f_law) rfl (by decide) rfl ⟨rfl, by decide, by decide⟩ (fun w h Y => PySem.W.kIn_of Y) ?F G2.law_ok
  case F =>
    intro w mg fa h KX G hmg
    refine' G2.all_mk KX G hmg ?a0 ?l0 ?c0 ?k0 ?a1 ?l1 ?c1 ?k1 ?a2 ?l2 ?c2 ?k2 ?a3 ?l3 ?c3 ?k3 ?a4 ?l4 ?c4 ?k4 ?a5 ?l5 ?c5 ?k5 ?z_len ?z_int ?z_list ?z_tuple ?z_range ?z_enumerate ?z_isinstance ?z_repr ?z_type ?z_all ?z_any ?z_max ?z_min ?z_set ?z_sorted ?z_sum ?z_str ?z_bool ?z_zip ?z_super ?xop ?z_ValueError ?g_SortError ?q_SortError ?kp_SortError ?sb_SortError ?ty_SortError ?ga_SortError ?gg_SortError ?hd_SortError ?cl_SortError ?mo_SortError ?is_SortError ?g_NoItems ?q_NoItems ?kp_NoItems ?sb_NoItems ?ty_NoItems ?ga_NoItems ?gg_NoItems ?hd_NoItems ?cl_NoItems ?mo_NoItems ?is_NoItems ?g_NoOrder ?q_NoOrder ?kp_NoOrder ?sb_NoOrder ?ty_NoOrder ?ga_NoOrder ?gg_NoOrder ?hd_NoOrder ?cl_NoOrder ?mo_NoOrder ?is_NoOrder ?g_NoItem ?q_NoItem ?kp_NoItem ?sb_NoItem ?ty_NoItem ?ga_NoItem ?gg_NoItem ?hd_NoItem ?cl_NoItem ?mo_NoItem ?is_NoItem ?g_NoPlace ?q_NoPlace ?kp_NoPlace ?sb_NoPlace ?ty_NoPlace ?ga_NoPlace ?gg_NoPlace ?hd_NoPlace ?cl_NoPlace ?mo_NoPlace ?is_NoPlace ?g_NoRule ?q_NoRule ?kp_NoRule ?sb_NoRule ?ty_NoRule ?ga_NoRule ?gg_NoRule ?hd_NoRule ?cl_NoRule ?mo_NoRule ?is_NoRule ?g_NoStanding ?q_NoStanding ?kp_NoStanding ?sb_NoStanding ?ty_NoStanding ?ga_NoStanding ?gg_NoStanding ?hd_NoStanding ?cl_NoStanding ?mo_NoStanding ?is_NoStanding ?g_NoAsks ?q_NoAsks ?kp_NoAsks ?sb_NoAsks ?ty_NoAsks ?ga_NoAsks ?gg_NoAsks ?hd_NoAsks ?cl_NoAsks ?mo_NoAsks ?is_NoAsks ?g_NoRules ?q_NoRules ?kp_NoRules ?sb_NoRules ?ty_NoRules ?ga_NoRules ?gg_NoRules ?hd_NoRules ?cl_NoRules ?mo_NoRules ?is_NoRules ?g_NoCase ?q_NoCase ?kp_NoCase ?sb_NoCase ?ty_NoCase ?ga_NoCase ?gg_NoCase ?hd_NoCase ?cl_NoCase ?mo_NoCase ?is_NoCase ?g_NoLot ?q_NoLot ?kp_NoLot ?sb_NoLot ?ty_NoLot ?ga_NoLot ?gg_NoLot ?hd_NoLot ?cl_NoLot ?mo_NoLot ?is_NoLot ?g_NoGoal ?q_NoGoal ?kp_NoGoal ?sb_NoGoal ?ty_NoGoal ?ga_NoGoal ?gg_NoGoal ?hd_NoGoal ?cl_NoGoal ?mo_NoGoal ?is_NoGoal ?g_NoLog ?q_NoLog ?kp_NoLog ?sb_NoLog ?ty_NoLog ?ga_NoLog ?gg_NoLog ?hd_NoLog ?cl_NoLog ?mo_NoLog ?is_NoLog ?g_NoNumber ?q_NoNumber ?kp_NoNumber ?sb_NoNumber ?ty_NoNumber ?ga_NoNumber ?gg_NoNumber ?hd_NoNumber ?cl_NoNumber ?mo_NoNumber ?is_NoNumber ?g_NoName ?q_NoName ?kp_NoName ?sb_NoName ?ty_NoName ?ga_NoName ?gg_NoName ?hd_NoName ?cl_NoName ?mo_NoName ?is_NoName ?g_NoRecord ?q_NoRecord ?kp_NoRecord ?sb_NoRecord ?ty_NoRecord ?ga_NoRecord ?gg_NoRecord ?hd_NoRecord ?cl_NoRecord ?mo_NoRecord ?is_NoRecord ?g_NoSeeker ?q_NoSeeker ?kp_NoSeeker ?sb_NoSeeker ?ty_NoSeeker ?ga_NoSeeker ?gg_NoSeeker ?hd_NoSeeker ?cl_NoSeeker ?mo_NoSeeker ?is_NoSeeker ?g_NoAnswer ?kp_NoAnswer ?sb_NoAnswer ?ty_NoAnswer ?ga_NoAnswer ?gg_NoAnswer ?hd_NoAnswer ?cl_NoAnswer ?mo_NoAnswer ?is_NoAnswer ?xi_NoAnswer ?xl_NoAnswer ?xo_NoAnswer ?xsa_NoAnswer ?xno_NoAnswer ?xt_NoAnswer ?xm_NoAnswer ?xvs_NoAnswer ?xsu_NoAnswer ?xcd_NoAnswer ?xcf_NoAnswer ?xcv_NoAnswer ?xcl_NoAnswer ?g_NoMark ?kp_NoMark ?sb_NoMark ?ty_NoMark ?ga_NoMark ?gg_NoMark ?hd_NoMark ?cl_NoMark ?mo_NoMark ?is_NoMark ?xi_NoMark ?xl_NoMark ?xo_NoMark ?xsa_NoMark ?xno_NoMark ?xt_NoMark ?xm_NoMark ?xvs_NoMark ?xsu_NoMark ?xcd_NoMark ?xcf_NoMark ?xcv_NoMark ?xcl_NoMark ?g_TooMany ?kp_TooMany ?sb_TooMany ?ty_TooMany ?ga_TooMany ?gg_TooMany ?hd_TooMany ?cl_TooMany ?mo_TooMany ?is_TooMany ?xi_TooMany ?xl_TooMany ?xo_TooMany ?xsa_TooMany ?xno_TooMany ?xt_TooMany ?xm_TooMany ?xvs_TooMany ?xsu_TooMany ?xcd_TooMany ?xcf_TooMany ?xcv_TooMany ?xcl_TooMany ?supx ?hn ?ht
    (case g_SortError => k_is)
    (case g_NoItems => k_is)
    (case g_NoOrder => k_is)
    (case g_NoItem => k_is)
    (case g_NoPlace => k_is)
    (case g_NoRule => k_is)
    (case g_NoStanding => k_is)
    (case g_NoAsks => k_is)
    (case g_NoRules => k_is)
    (case g_NoCase => k_is)
    (case g_NoLot => k_is)
    (case g_NoGoal => k_is)
    (case g_NoLog => k_is)
    (case g_NoNumber => k_is)
    (case g_NoName => k_is)
    (case g_NoRecord => k_is)
    (case g_NoSeeker => k_is)
    (case g_NoAnswer => k_is)
    (case g_NoMark => k_is)
    (case g_TooMany => k_is)
    (case xi_NoAnswer => k_is)
    (case xi_NoMark => k_is)
    (case xi_TooMany => k_is)
    (case xl_NoAnswer => k_is)
    (case xl_NoMark => k_is)
    (case xl_TooMany => k_is)
    (case xcf_NoAnswer => k_is)
    (case xcf_NoMark => k_is)
    (case xcf_TooMany => k_is)
    (case a0 => k_is)
    (case l0 => k_is)
    (case c0 => k_is)
    (case k0 => k_is)
    (case a1 => k_is)
    (case l1 => k_is)
    (case c1 => k_is)
    (case k1 => k_is)
    (case a2 => k_is)
    (case l2 => k_is)
    (case c2 => k_is)
    (case k2 => k_is)
    (case a3 => k_is)
    (case l3 => k_is)
    (case c3 => k_is)
    (case k3 => k_is)
    (case a4 => k_is)
    (case l4 => k_is)
    (case c4 => k_is)
    (case k4 => k_is)
    (case a5 => k_is)
    (case l5 => k_is)
    (case c5 => k_is)
    (case k5 => k_is)
    (case z_len => k_is)
    (case z_int => k_is)
    (case z_list => k_is)
    (case z_tuple => k_is)
    (case z_range => k_is)
    (case z_enumerate => k_is)
    (case z_isinstance => k_is)
    (case z_repr => k_is)
    (case z_type => k_is)
    (case z_all => k_is)
    (case z_any => k_is)
    (case z_max => k_is)
    (case z_min => k_is)
    (case z_set => k_is)
    (case z_sorted => k_is)
    (case z_sum => k_is)
    (case z_str => k_is)
    (case z_bool => k_is)
    (case z_zip => k_is)
    (case z_super => k_is)
    (case xop => k_is)
    (case z_ValueError => k_is)
    (case q_SortError => k_exc)
    (case kp_SortError => k_is)
    (case sb_SortError => k_is)
    (case ty_SortError => k_is)
    (case ga_SortError => k_is)
    (case gg_SortError => k_is)
    (case hd_SortError => k_is)
    (case cl_SortError => k_is)
    (case mo_SortError => k_is)
    (case is_SortError => k_is)
    (case q_NoItems => k_exc)
    (case kp_NoItems => k_is)
    (case sb_NoItems => k_is)
    (case ty_NoItems => k_is)
    (case ga_NoItems => k_is)
    (case gg_NoItems => k_is)
    (case hd_NoItems => k_is)
    (case cl_NoItems => k_is)
    (case mo_NoItems => k_is)
    (case is_NoItems => k_is)
    (case q_NoOrder => k_exc)
    (case kp_NoOrder => k_is)
    (case sb_NoOrder => k_is)
    (case ty_NoOrder => k_is)
    (case ga_NoOrder => k_is)
    (case gg_NoOrder => k_is)
    (case hd_NoOrder => k_is)
    (case cl_NoOrder => k_is)
    (case mo_NoOrder => k_is)
    (case is_NoOrder => k_is)
    (case q_NoItem => k_exc)
    (case kp_NoItem => k_is)
    (case sb_NoItem => k_is)
    (case ty_NoItem => k_is)
    (case ga_NoItem => k_is)
    (case gg_NoItem => k_is)
    (case hd_NoItem => k_is)
    (case cl_NoItem => k_is)
    (case mo_NoItem => k_is)
    (case is_NoItem => k_is)
    (case q_NoPlace => k_exc)
    (case kp_NoPlace => k_is)
    (case sb_NoPlace => k_is)
    (case ty_NoPlace => k_is)
    (case ga_NoPlace => k_is)
    (case gg_NoPlace => k_is)
    (case hd_NoPlace => k_is)
    (case cl_NoPlace => k_is)
    (case mo_NoPlace => k_is)
    (case is_NoPlace => k_is)
    (case q_NoRule => k_exc)
    (case kp_NoRule => k_is)
    (case sb_NoRule => k_is)
    (case ty_NoRule => k_is)
    (case ga_NoRule => k_is)
    (case gg_NoRule => k_is)
    (case hd_NoRule => k_is)
    (case cl_NoRule => k_is)
    (case mo_NoRule => k_is)
    (case is_NoRule => k_is)
    (case q_NoStanding => k_exc)
    (case kp_NoStanding => k_is)
    (case sb_NoStanding => k_is)
    (case ty_NoStanding => k_is)
    (case ga_NoStanding => k_is)
    (case gg_NoStanding => k_is)
    (case hd_NoStanding => k_is)
    (case cl_NoStanding => k_is)
    (case mo_NoStanding => k_is)
    (case is_NoStanding => k_is)
    (case q_NoAsks => k_exc)
    (case kp_NoAsks => k_is)
    (case sb_NoAsks => k_is)
    (case ty_NoAsks => k_is)
    (case ga_NoAsks => k_is)
    (case gg_NoAsks => k_is)
    (case hd_NoAsks => k_is)
    (case cl_NoAsks => k_is)
    (case mo_NoAsks => k_is)
    (case is_NoAsks => k_is)
    (case q_NoRules => k_exc)
    (case kp_NoRules => k_is)
    (case sb_NoRules => k_is)
    (case ty_NoRules => k_is)
    (case ga_NoRules => k_is)
    (case gg_NoRules => k_is)
    (case hd_NoRules => k_is)
    (case cl_NoRules => k_is)
    (case mo_NoRules => k_is)
    (case is_NoRules => k_is)
    (case q_NoCase => k_exc)
    (case kp_NoCase => k_is)
    (case sb_NoCase => k_is)
    (case ty_NoCase => k_is)
    (case ga_NoCase => k_is)
    (case gg_NoCase => k_is)
    (case hd_NoCase => k_is)
    (case cl_NoCase => k_is)
    (case mo_NoCase => k_is)
    (case is_NoCase => k_is)
    (case q_NoLot => k_exc)
    (case kp_NoLot => k_is)
    (case sb_NoLot => k_is)
    (case ty_NoLot => k_is)
    (case ga_NoLot => k_is)
    (case gg_NoLot => k_is)
    (case hd_NoLot => k_is)
    (case cl_NoLot => k_is)
    (case mo_NoLot => k_is)
    (case is_NoLot => k_is)
    (case q_NoGoal => k_exc)
    (case kp_NoGoal => k_is)
    (case sb_NoGoal => k_is)
    (case ty_NoGoal => k_is)
    (case ga_NoGoal => k_is)
    (case gg_NoGoal => k_is)
    (case hd_NoGoal => k_is)
    (case cl_NoGoal => k_is)
    (case mo_NoGoal => k_is)
    (case is_NoGoal => k_is)
    (case q_NoLog => k_exc)
    (case kp_NoLog => k_is)
    (case sb_NoLog => k_is)
    (case ty_NoLog => k_is)
    (case ga_NoLog => k_is)
    (case gg_NoLog => k_is)
    (case hd_NoLog => k_is)
    (case cl_NoLog => k_is)
    (case mo_NoLog => k_is)
    (case is_NoLog => k_is)
    (case q_NoNumber => k_exc)
    (case kp_NoNumber => k_is)
    (case sb_NoNumber => k_is)
    (case ty_NoNumber => k_is)
    (case ga_NoNumber => k_is)
    (case gg_NoNumber => k_is)
    (case hd_NoNumber => k_is)
    (case cl_NoNumber => k_is)
    (case mo_NoNumber => k_is)
    (case is_NoNumber => k_is)
    (case q_NoName => k_exc)
    (case kp_NoName => k_is)
    (case sb_NoName => k_is)
    (case ty_NoName => k_is)
    (case ga_NoName => k_is)
    (case gg_NoName => k_is)
    (case hd_NoName => k_is)
    (case cl_NoName => k_is)
    (case mo_NoName => k_is)
    (case is_NoName => k_is)
    (case q_NoRecord => k_exc)
    (case kp_NoRecord => k_is)
    (case sb_NoRecord => k_is)
    (case ty_NoRecord => k_is)
    (case ga_NoRecord => k_is)
    (case gg_NoRecord => k_is)
    (case hd_NoRecord => k_is)
    (case cl_NoRecord => k_is)
    (case mo_NoRecord => k_is)
    (case is_NoRecord => k_is)
    (case q_NoSeeker => k_exc)
    (case kp_NoSeeker => k_is)
    (case sb_NoSeeker => k_is)
    (case ty_NoSeeker => k_is)
    (case ga_NoSeeker => k_is)
    (case gg_NoSeeker => k_is)
    (case hd_NoSeeker => k_is)
    (case cl_NoSeeker => k_is)
    (case mo_NoSeeker => k_is)
    (case is_NoSeeker => k_is)
    (case kp_NoAnswer => k_is)
    (case sb_NoAnswer => k_is)
    (case ty_NoAnswer => k_is)
    (case ga_NoAnswer => k_is)
    (case gg_NoAnswer => k_is)
    (case hd_NoAnswer => k_is)
    (case cl_NoAnswer => k_is)
    (case mo_NoAnswer => k_is)
    (case is_NoAnswer => k_is)
    (case xo_NoAnswer => kernel_rfl)
    (case xsa_NoAnswer => k_is)
    (case xno_NoAnswer => k_is)
    (case xt_NoAnswer => k_is)
    (case xm_NoAnswer => k_is)
    (case xvs_NoAnswer => k_is)
    (case xsu_NoAnswer => ks_is)
    (case xcd_NoAnswer => k_is)
    (case xcv_NoAnswer => rfl)
    (case xcl_NoAnswer => k_is)
    (case kp_NoMark => k_is)
    (case sb_NoMark => k_is)
    (case ty_NoMark => k_is)
    (case ga_NoMark => k_is)
    (case gg_NoMark => k_is)
    (case hd_NoMark => k_is)
    (case cl_NoMark => k_is)
    (case mo_NoMark => k_is)
    (case is_NoMark => k_is)
    (case xo_NoMark => kernel_rfl)
    (case xsa_NoMark => k_is)
    (case xno_NoMark => k_is)
    (case xt_NoMark => k_is)
    (case xm_NoMark => k_is)
    (case xvs_NoMark => k_is)
    (case xsu_NoMark => ks_is)
    (case xcd_NoMark => k_is)
    (case xcv_NoMark => rfl)
    (case xcl_NoMark => k_is)
    (case kp_TooMany => k_is)
    (case sb_TooMany => k_is)
    (case ty_TooMany => k_is)
    (case ga_TooMany => k_is)
    (case gg_TooMany => k_is)
    (case hd_TooMany => k_is)
    (case cl_TooMany => k_is)
    (case mo_TooMany => k_is)
    (case is_TooMany => k_is)
    (case xo_TooMany => kernel_rfl)
    (case xsa_TooMany => k_is)
    (case xno_TooMany => k_is)
    (case xt_TooMany => k_is)
    (case xm_TooMany => k_is)
    (case xvs_TooMany => k_is)
    (case xsu_TooMany => ks_is)
    (case xcd_TooMany => k_is)
    (case xcv_TooMany => rfl)
    (case xcl_TooMany => k_is)
    (case supx => kernel_rfl)
    (case hn => k_is)
    (case ht => k_is)
end
