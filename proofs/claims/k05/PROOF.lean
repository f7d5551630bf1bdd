import PyProof.Rows.All
import Wide.All
import OpenK.AllK
import Wide.FinOn
import HandS.ForMost
import HandS.More
import HandS.SortInts
import HandS.Zip
import KE.GoesZip
import KE.GoesMore
import HandS.IsInst
import HandS.CallLocal
import HandS.TupAny
import HandS.NoneIn
import HandS.StrMore
import HandS.Codes
import KE.KFromBytes
import HandS.ForExc
import HandS.ExcInit
import HandS.FStr
import HandS.Defaults
import HandS.TupMul
import PyProof.StrLawsIn
import PySem.Challenge.RW_eachsecond_k05_weeks_and_bands
set_option Elab.async false
set_option linter.all false
set_option maxRecDepth 100000
set_option maxHeartbeats 4000000
/-! Rules of the layer that were not there: sorted(d) of a dict with whole numbers as keys. -/
namespace PvR
open PySem PySem.Spec PyProof.Rows L2
theorem ints_at : ∀ {us : List Value} {ks : List Int}, us.length = ks.length → (∀ (j : Nat) (v : Value), us[j]? = some v → ∃ (x : Int) (t : Tok), ks[j]? = some x ∧ v = Value.int x t) → IntsAre us ks
  | [], [], _, _ => .nil
  | u :: us, k :: ks, hl, h => by
    obtain ⟨x, t, e1, e2⟩ := h 0 u rfl
    have e1' : k = x := Option.some.inj e1
    subst e1'
    subst e2
    refine .cons _ _ (ints_at (by simpa using hl) fun j v e => ?_)
    obtain ⟨x, t, a, b⟩ := h (j + 1) v (by simpa using e)
    exact ⟨x, t, by simpa using a, b⟩
  | [], _ :: _, hl, _ => by simp at hl
  | _ :: _, [], hl, _ => by simp at hl
def rSortedDI : List V → Hp → VK → Prop := fun xs H Q => ∃ (a : Addr) (kvs : List (Key × V)) (ks : List Int), xs = [.ref a] ∧ Rd H a (.dK kvs) ∧ kvs.map (·.1) = ks.map Sum.inl ∧
    ∀ (ns' : List Int) (p : Addr), ns'.Perm ks → ns'.Pairwise (· ≤ ·) → H p = none → Q (.ref p) (upd H p (.lst (ns'.map V.int)))
theorem call_sortedDI {X : Cx} (hcalm : X.calm = true) : CallR X (.builtin "sorted") rSortedDI := by
  intro pins s σ H xs us Q I r q
  obtain ⟨a, kvs, ks, ex, hd, hks, q⟩ := q
  subst ex
  obtain ⟨u, eu, rx⟩ := vals1 r
  subst eu
  cases rx
  obtain ⟨z, lo, vs, rel, dd⟩ := dk_rd I.hok hd
  obtain ⟨ep, hat⟩ := dd.dictAt
  have hkeys : vs.map (·.1) = ks.map Sum.inl := rel.keys.symm.trans hks
  have hl : vs.length = ks.length := by
    have e := congrArg List.length hkeys
    rw [List.length_map, List.length_map] at e
    exact e
  have h16 : vs.length ≤ sizeLine := by rw [← rel.length]; exact z
  refine Calls.call_function_entry PyProof.Rows.kind_sorted PyProof.Rows.plain_sorted PyProof.Rows.entry_sorted (PyProof.Rows.args_sorted1 _) ?_
  unfold Builtin.«sorted»
  refine wpAny_bind (m := checkCount "sorted" 1 1 _) (wpAny_pure ?_)
  refine wpAny_bind (PySem.W.kdu_collect (A := X.A.in1) (PySem.W.kdl_dict (knd := mixKind X.prog X.w) (kvs := vs) (ep := ep) lo) (I.ok.hd hcalm) hat h16 fun h' tk acc hk hacc => ?_)
  have hal : acc.toList.length = ks.length := by rw [Array.length_toList, hacc.1, hl]
  have hS : IntsAre acc.toList ks := ints_at hal fun j v e => by
    obtain ⟨k, x, e1, e2⟩ := hacc.2 j v (by rw [← Array.getElem?_toList]; exact e)
    have e3 : (vs.map (·.1))[j]? = some k := by rw [List.getElem?_map, e1]; all_goals rfl
    rw [hkeys, List.getElem?_map] at e3
    cases e4 : ks[j]? with
    | none => rw [e4] at e3; cases e3
    | some y =>
      rw [e4] at e3
      have e5 : Sum.inl y = k := Option.some.inj e3
      subst e5
      obtain ⟨t, ev⟩ := Value.isInt_shape (k := y) (v := v) e2
      exact ⟨y, t, rfl, ev⟩
  have hsz : acc.toList.length ≤ sizeLine := by rw [hal, ← hl]; exact h16
  have I1 : Inv X pins σ H { s with heap := h', toks := tk } := I.kept hk
  refine wpAny_bind (wpAny_newList ?_ hsz)
  have hoL : (h'.push (seqObj "list" acc.toList.toArray 0)).get? h'.objs.size = some (seqObj "list" acc.toList.toArray 0) := Heap.get?_push_size _ rfl
  show wpAny _ _ _ _ _ { s with heap := h'.push (seqObj "list" acc.toList.toArray 0), toks := tk }
  refine wpAny_bind (wpAny_holding (wpAny_call_entry PyProof.Rows.slot_list_sort ⟨_, hoL, rfl⟩ PyProof.Rows.entry_list_sort
    (SrtO.list_sort_ord SrtO.swo_int (s := { s with heap := h'.push (seqObj "list" acc.toList.toArray 0), toks := tk }) hoL hsz (fun h2 => SrtO.ints_sortable hS h2) fun out h1 h2 => ⟨_, rfl, ?_⟩)
    (PyProof.Rows.args_list_sort _)))
  obtain ⟨k1, k2, k3⟩ := SrtO.ints_out hS h1 h2
  obtain ⟨e', he'⟩ := PyProof.Rows.sortedHeap_at (vs := acc.toList) (out := out.toArray) hoL
  have hlen : ((out.map SrtO.iv).map V.int).length ≤ sizeLine := by
    rw [List.length_map, k2.length_eq, ← hal]
    exact hsz
  refine wpAny_pure ⟨_, rfl, .ref h'.objs.size, upd H h'.objs.size (.lst ((out.map SrtO.iv).map V.int)), I1.laid (t' := tk) (fun b u e => ?_) (Nat.le_refl _)
    (show ObjOk X.prog X.w _ _ _ (.lst ((out.map SrtO.iv).map V.int)) from ⟨hlen, out, e', vals_of_ints k1, he'⟩), rfl, q _ _ k2 k3 (I1.hok.fresh (Nat.le_refl _))⟩
  have hb : b < h'.objs.size := Heap.lt_size e
  rw [PyProof.Rows.sortedHeap_old (Nat.ne_of_lt hb) (by rw [size_push']; exact Nat.lt_succ_of_lt hb)]
  exact Heap.get?_push_of_some _ e
/-! zip of lists and tuples, in any mix -/
def SqX (k : Bool) (K : PySem.W.Frag) (H : Hp) (a : Addr) (xs : List V) : Prop := cond k (SqT K H a xs) (SqL K H a xs)
def IterX (k : Bool) (h : Heap) (it a : Addr) (i : Nat) : Prop := cond k (h.IsTupleIter it a i) (h.IsListIter it a i)
def IsX (k : Bool) (h : Heap) (a : Addr) (xs : Array Value) : Prop := cond k (h.IsTuple a xs) (h.IsList a xs)
theorem inv_x {X : Cx} {pins : List (Addr × Obj)} {σ : L2.St} {H : Hp} {s : Shared} {k : Bool} {a : Addr} {xs : List V} (I : Inv X pins σ H s) (h : SqX k X.K H a xs) : ∃ its : List Value, Vals xs its ∧ IsX k s.heap a its.toArray ∧ a < s.heap.objs.size := by
  cases k with
  | true =>
    obtain ⟨its, rv, p, _⟩ := I.tuple h
    exact ⟨its, rv, (show s.heap.IsTuple a its.toArray from p), IsTup.lt p⟩
  | false =>
    obtain ⟨its, rv, p, _⟩ := I.list h
    exact ⟨its, rv, p.isList, p.lt⟩
theorem x_inj {X : Cx} {pins : List (Addr × Obj)} {σ : L2.St} {H : Hp} {s : Shared} {k : Bool} {a : Addr} {xs ys : List V} (I : Inv X pins σ H s) (h : SqX k X.K H a xs) (h' : SqX k X.K H a ys) : xs = ys := by
  cases k with
  | true => exact I.tuple_inj h h'
  | false => exact I.list_inj h h'
theorem draws_x {prog : Program} {w : World} {A : Around} (k : Bool) (hh : A.handled = none) (it l : Addr) (hne : l ≠ it) (items : Array Value) :
    Draws prog w A it [it, l] items.size (fun i v => items[i]? = some v) (fun i h => IterX k h it l i ∧ IsX k h l items) := by
  cases k with
  | true => exact Draws.tuple hh it l hne items
  | false => exact Draws.list hh it l hne items
theorem iterX_at {k : Bool} {h h' : Heap} {it a : Addr} {i : Nat} (x : IterX k h it a i) (q : ∀ o, h.get? it = some o → h'.get? it = some o) : IterX k h' it a i := by
  cases k with
  | true => exact Heap.IsTupleIter.at x q
  | false => exact Heap.IsListIter.at x q
theorem iterX_obj {k : Bool} {h : Heap} {it a : Addr} {i : Nat} (x : IterX k h it a i) : ∃ o, h.get? it = some o ∧ ∀ v, o.data ≠ .cell v := by
  cases k with
  | true => obtain ⟨o, e, _, d⟩ := x; exact ⟨o, e, fun v q => by rw [d] at q; cases q⟩
  | false => obtain ⟨o, e, _, d⟩ := x; exact ⟨o, e, fun v q => by rw [d] at q; cases q⟩
def ItzX (K : PySem.W.Frag) (k1 k2 : Bool) (a b : Addr) : L2.It :=
  ⟨fun i H => ∃ (xs ys : List V) (x y : V), SqX k1 K H a xs ∧ SqX k2 K H b ys ∧ xs[i]? = some x ∧ ys[i]? = some y,
    fun i H v H' => ∃ T x y, v = .ref T ∧ H T = none ∧ H' = upd H T (.tup [x, y]) ∧ (∀ xs, SqX k1 K H a xs → xs[i]? = some x) ∧ ∀ ys, SqX k2 K H b ys → ys[i]? = some y,
    fun i H => ∃ xs ys : List V, SqX k1 K H a xs ∧ SqX k2 K H b ys ∧ i ≤ xs.length ∧ i ≤ ys.length ∧ (i = xs.length ∨ i = ys.length)⟩
theorem sep_of {z TI TO i1 i2 a b : Addr} (D : ZipApart z TI TO i1 i2 a b) : ZipSep2 z TI TO i1 i2 [i1, a] [i2, b] where
  TIz := D.TIz
  TOz := D.TOz
  TITO := D.TITO
  TIi1 := D.TIi1
  mem1 := by simp
  zf1 := by simp [D.i1z.symm, D.l1z.symm]
  Tf1 := by simp [D.TOi1, D.l1TO.symm]
  TIi2 := D.TIi2
  mem2 := by simp
  zf2 := by simp [D.i2z.symm, D.l2z.symm]
  Tf2 := by simp [D.TOi2, D.l2TO.symm]
  sep1_2 := by simp [D.i12, D.l2i1.symm]
  sep2_1 := by simp [D.i12.symm, D.l1i2.symm]
theorem turn_zipX {P : Program} {w : World} {K : PySem.W.Frag} {k1 k2 : Bool} {elts : List Expr} {kk : Nat} {tpos : Pos} {a b z TI TO i1 i2 : Addr} (D : ZipApart z TI TO i1 i2 a b) :
    Turn P w K (.Tuple elts kk tpos) (ItzX K k1 k2 a b) [z, TI, TO, i1, i2] z (fun i h => IsZip h z TI TO .none ∧ IsPair h TI (.ref i1) (.ref i2) ∧ (∃ x y, IsPair h TO x y) ∧ IterX k1 h i1 a i ∧ IterX k2 h i2 b i) where
  mem := by simp
  obj := fun i h st c hc => by
    obtain ⟨hz, hTI, ⟨x, y, hTO⟩, h1, h2⟩ := st
    have e' : c = z ∨ c = TI ∨ c = TO ∨ c = i1 ∨ c = i2 := by simpa using hc
    rcases e' with q | q | q | q | q
    · rw [q]; exact ⟨_, hz, fun v q => nomatch q⟩
    · rw [q]; exact ⟨_, hTI, fun v q => nomatch q⟩
    · rw [q]; exact ⟨_, hTO, fun v q => nomatch q⟩
    · rw [q]; exact iterX_obj h1
    · rw [q]; exact iterX_obj h2
  keep := fun i h h' st k => by
    obtain ⟨hz, hTI, ⟨x, y, hTO⟩, h1, h2⟩ := st
    exact ⟨k z (by simp) _ hz, k TI (by simp) _ hTI, ⟨x, y, k TO (by simp) _ hTO⟩, iterX_at h1 fun o q => k i1 (by simp) o q, iterX_at h2 fun o q => k i2 (by simp) o q⟩
  item := by
    intro X hP hw hK hc i pins s σ H E I hf st hg
    subst hP hw hK
    obtain ⟨hz, hTI, ⟨x0, y0, hTO⟩, h1, h2⟩ := st
    obtain ⟨xs, ys, x, y, hqx, hqy, hx, hy⟩ := hg
    obtain ⟨its, rv, p, _⟩ := inv_x I hqx
    obtain ⟨its2, rv2, p2, _⟩ := inv_x I hqy
    obtain ⟨u, hu, ru⟩ := rv.get hx
    obtain ⟨u2, hu2, ru2⟩ := rv2.get hy
    have hzl : z < s.heap.objs.size := Heap.lt_size hz
    have hh : X.A.in1.handled = none := I.ok.hd hc
    have b1 : i < its.toArray.size := by simpa using (List.getElem?_eq_some_iff.mp hu).1
    have b2 : i < its2.toArray.size := by simpa using (List.getElem?_eq_some_iff.mp hu2).1
    refine wpAny_pyNext_zipD2_item (sep_of D) (draws_x k1 hh i1 a D.l1i1 its.toArray) (draws_x k2 hh i2 b D.l2i2 its2.toArray) hz hTI hTO ⟨h1, p⟩ ⟨h2, p2⟩ b1 b2 fun x1 x2 h' tk e1 e2 z' TO' h1' h2' hT hsz hk => ?_
    have e1' : x1 = u := by
      have : its[i]? = some x1 := by simpa using e1
      rw [hu] at this; exact (Option.some.inj this).symm
    have e2' : x2 = u2 := by
      have : its2[i]? = some x2 := by simpa using e2
      rw [hu2] at this; exact (Option.some.inj this).symm
    subst e1' e2'
    refine ⟨_, rfl, wpAny_letOwnedTupleGo_zip (s := { s with heap := h', toks := tk }) z' fun h'' z'' sb => ?_⟩
    have hT2 : h''.get? s.heap.objs.size = some { cls := .type "tuple", data := .seq #[x1, x2] } := (sb.2 _ (Nat.ne_of_gt hzl)).trans hT
    have new : ObjOk X.prog X.w (upd H s.heap.objs.size (.tup [x, y])) h'' s.heap.objs.size (.tup [x, y]) :=
      ⟨by show 2 ≤ sizeLine; decide, [x1, x2], .cons ru (.cons ru2 .nil), ⟨_, hT2, rfl, _, rfl⟩⟩
    have I1 : Inv X pins σ (upd H s.heap.objs.size (.tup [x, y])) { s with heap := h'', toks := tk } :=
      I.turnedNew (t' := tk) (ch := [z, TI, TO, i1, i2]) (fun c o hb q => (sb.2 c (fun q' => hb (by simp [q']))).trans (hk c o (fun q' => hb (by simp [q'])) (fun q' => hb (by simp [q'])) (fun q' => hb (by simp [q'])) (fun q' => hb (by simp [q'])) q)) hf (Nat.le_refl _) new
    refine ⟨.ref s.heap.objs.size, _, I1, rfl, ⟨_, x, y, rfl, I.hok.fresh (Nat.le_refl _), rfl, fun l hl => by rw [x_inj I hl hqx]; exact hx, fun l hl => by rw [x_inj I hl hqy]; exact hy⟩, ⟨z'', ?_, ⟨x1, x2, ?_⟩, ?_, ?_⟩, fun c hcm => ?_⟩
    · exact (sb.2 _ D.TIz).trans (hk _ _ D.TIz D.TITO D.TIi1 D.TIi2 hTI)
    · exact (sb.2 _ D.TOz).trans TO'
    · exact iterX_at h1'.1 fun o q => (sb.2 _ D.i1z).trans q
    · exact iterX_at h2'.1 fun o q => (sb.2 _ D.i2z).trans q
    · have hlt : c < s.heap.objs.size := by
        have e' : c = z ∨ c = TI ∨ c = TO ∨ c = i1 ∨ c = i2 := by simpa using hcm
        rcases e' with q | q | q | q | q
        · rw [q]; exact hzl
        · rw [q]; exact Heap.lt_size hTI
        · rw [q]; exact Heap.lt_size hTO
        · rw [q]; obtain ⟨_, e1, _⟩ := iterX_obj h1; exact Heap.lt_size e1
        · rw [q]; obtain ⟨_, e1, _⟩ := iterX_obj h2; exact Heap.lt_size e1
      rw [upd_ne (Nat.ne_of_lt hlt)]
      exact (hf c hcm).1
  done := by
    intro X hP hw hK hc i pins s σ H E I hf st hg
    subst hP hw hK
    obtain ⟨hz, hTI, ⟨x0, y0, hTO⟩, h1, h2⟩ := st
    obtain ⟨xs, ys, hqx, hqy, l1, l2, hend⟩ := hg
    obtain ⟨its, rv, p, _⟩ := inv_x I hqx
    obtain ⟨its2, rv2, p2, _⟩ := inv_x I hqy
    have e1 := rv.length
    have e2 := rv2.length
    have hh : X.A.in1.handled = none := I.ok.hd hc
    exact wpAny_pyNext_zipD2_end (sep_of D) (draws_x k1 hh i1 a D.l1i1 its.toArray) (draws_x k2 hh i2 b D.l2i2 its2.toArray) hz hTI hTO ⟨h1, p⟩ ⟨h2, p2⟩ (by simp; omega) (by simp; omega) (by simp; omega) fun h' tk hk =>
      ⟨rfl, I.turnedL (t' := tk) (ch := [z, TI, TO, i1, i2]) (fun c o hb q => hk c o (fun q' => hb (by simp [q'])) (fun q' => hb (by simp [q'])) (fun q' => hb (by simp [q'])) (fun q' => hb (by simp [q'])) q) hf⟩
  self := fun A i s Q E st h => wpAny_pyIter_zip st.1 h
def iZipX (K : PySem.W.Frag) (ta : TA) : TI := fun σ H R => ta σ H fun vs H1 => ∃ k1 k2 a b xs ys, vs = [.ref a, .ref b] ∧ SqX k1 K H1 a xs ∧ SqX k2 K H1 b ys ∧ R (ItzX K k1 k2 a b) H1
theorem begins_x (k : Bool) (l : Addr) (items : Array Value) : ∃ o, Begins (.ref l) o (fun h => IsX k h l items) ∧ ∀ (h : Heap) (it : Addr), h.get? it = some o → IterX k h it l 0 := by
  cases k with
  | true => exact ⟨_, begins_tuple l items, fun h it e => ⟨_, e, rfl, rfl⟩⟩
  | false => exact ⟨_, begins_list l items, fun h it e => ⟨_, e, rfl, rfl⟩⟩
theorem pi_zipX {X : Cx} {e e2 : Expr} {ta : TA} {p pos tpos : Pos} {elts : List Expr} {kk : Nat} (hg : Gl X "zip") (hm : X.mg "zip" = none) (ha : PA X [e, e2] ta)
    (hs : starEach [e, e2] X.env = (false, eval e X.env) :: starEach [e2] X.env := by rfl) (hpl : (backTo pos (starEach [e2] X.env)).any (·.1) = false := by rfl) :
    PI X (.Tuple elts kk tpos) (.Call (.Name "zip" p) [e, e2] [] pos) (iZipX X.K ta) := by
  refine ⟨fun pins s σ H R I h => ?_⟩
  refine Call_ (ld_blt I hg hm PyProof.Rows.boot_zip (PyProof.Rows.callWith_type1 (thn (ha.run pos pins s σ H _ I h) fun us s1 ⟨vs, H1, I1, r1, q1⟩ => ?_) hs hpl))
  obtain ⟨k1, k2, a, b, xs, ys, ex, hqx, hqy, q⟩ := q1
  subst ex
  cases r1 with
  | cons r rr =>
    cases rr with
    | cons r' rr =>
      cases rr
      cases r
      cases r'
      have fresh5 : ∀ c, c ∈ [s1.heap.objs.size + 4, s1.heap.objs.size + 2, s1.heap.objs.size + 3, s1.heap.objs.size, s1.heap.objs.size + 1] → FpOk X pins H1 c := fun c hcm => by
        have e' : c = s1.heap.objs.size + 4 ∨ c = s1.heap.objs.size + 2 ∨ c = s1.heap.objs.size + 3 ∨ c = s1.heap.objs.size ∨ c = s1.heap.objs.size + 1 := by simpa using hcm
        have hle : s1.heap.objs.size ≤ c := by
          rcases e' with z | z | z | z | z
          · rw [z]; exact Nat.le_add_right _ _
          · rw [z]; exact Nat.le_add_right _ _
          · rw [z]; exact Nat.le_add_right _ _
          · rw [z]; exact Nat.le_refl _
          · rw [z]; exact Nat.le_add_right _ _
        exact I1.fpOk hle (I1.hok.fresh hle)
      obtain ⟨its, rv, p1, la⟩ := inv_x I1 hqx
      obtain ⟨its2, rv2, p2, lb⟩ := inv_x I1 hqy
      obtain ⟨o1, B1, b1⟩ := begins_x k1 a its.toArray
      obtain ⟨o2, B2, b2⟩ := begins_x k2 b its2.toArray
      refine zip_begins2 B1 B2 p1 p2 fun h' hz hTI hTO h1 h2 hsz hk => wpAny_pyIter_zip hz ?_
      have I2 : Inv X pins σ H1 { s1 with heap := h' } := I1.kept (t' := s1.toks) hk
      exact ⟨s1.heap.objs.size + 4, [s1.heap.objs.size + 4, s1.heap.objs.size + 2, s1.heap.objs.size + 3, s1.heap.objs.size, s1.heap.objs.size + 1], _, _, H1, rfl, I2, turn_zipX (PySem.W.ktu_apart s1.heap.objs.size a b la lb), ⟨hz, hTI, ⟨_, _, hTO⟩, b1 _ _ h1, b2 _ _ h2⟩, fresh5, q⟩
end PvR

set_option Elab.async false
set_option linter.all false
set_option maxRecDepth 100000
set_option maxHeartbeats 4000000
/-! Pure values, a store of changeable things, and what stands for them in the heap. -/
namespace Pv
open PySem L2

inductive D where
  | non | bl (b : Bool) | int (i : Int) | str (x : Str)
  | tup (ds : List D) | lst (ds : List D)
  | dK (ks : List Key) (ds : List D) | dT (ks : List (List Key)) (ds : List D)
  | fn (n : Nat) | scr (ns : List Int)
inductive W where
  | d (x : D) | mu (n : Nat)
inductive MO where
  | dead | lst (ds : List D) | dK (ks : List Key) (ds : List D) | dT (ks : List (List Key)) (ds : List D)
abbrev Store := List MO
abbrev En := List (Option W)

abbrev nilH : Hp := fun _ => none

/-! ### what stands for what -/
section
variable (K : PySem.W.Frag) (fa : Nat → Addr) (G : Hp)
mutual
def RepD : V → D → Prop
  | v, .non => v = .non
  | v, .bl b => v = .bl b
  | v, .int i => v = .int i
  | v, .str x => v = .str x
  | v, .tup ds => ∃ a vs, v = .ref a ∧ (G a = some (.tup vs) ∨ SqT K nilH a vs) ∧ RepDs vs ds
  | v, .lst ds => ∃ a vs, v = .ref a ∧ G a = some (.lst vs) ∧ RepDs vs ds
  | v, .dK ks ds => ∃ a kvs, v = .ref a ∧ G a = some (.dK kvs) ∧ kvs.map (·.1) = ks ∧ RepDs (kvs.map (·.2)) ds
  | v, .dT ks ds => ∃ a kvs, v = .ref a ∧ G a = some (.dT kvs) ∧ kvs.map (·.1) = ks ∧ RepDs (kvs.map (·.2)) ds
  | v, .fn n => v = .ref (fa n)
  | v, .scr ns => ∃ a, v = .ref a ∧ SqL K G a (ns.map V.int)
def RepDs : List V → List D → Prop
  | vs, [] => vs = []
  | vs, d :: ds => ∃ v r, vs = v :: r ∧ RepD v d ∧ RepDs r ds
end
end

theorem sqT_nil {K : PySem.W.Frag} {H : Hp} {a : Addr} {vs : List V} (h : SqT K nilH a vs) : SqT K H a vs := by
  rcases h with (h | ⟨o, h⟩) | h
  · cases h
  · cases h
  · exact .inr h
theorem sqL_nil {K : PySem.W.Frag} {H : Hp} {a : Addr} {vs : List V} (h : SqL K nilH a vs) : SqL K H a vs := by
  rcases h with (h | ⟨o, h⟩) | h
  · cases h
  · cases h
  · exact .inr h

abbrev GLe (G G' : Hp) : Prop := ∀ a u, G a = some u → G' a = some u
section
variable {K : PySem.W.Frag} {fa : Nat → Addr} {G G' : Hp}
mutual
theorem RepD.mono (l : GLe G G') : ∀ {d : D} {v : V}, RepD K fa G v d → RepD K fa G' v d
  | .non, _, h | .bl _, _, h | .int _, _, h | .str _, _, h | .fn _, _, h => by simpa only [RepD] using h
  | .tup ds, _, h => by
    simp only [RepD] at h ⊢
    obtain ⟨a, vs, e, q, r⟩ := h
    exact ⟨a, vs, e, q.imp (l _ _) id, RepDs.mono l r⟩
  | .lst ds, _, h => by
    simp only [RepD] at h ⊢
    obtain ⟨a, vs, e, q, r⟩ := h
    exact ⟨a, vs, e, l _ _ q, RepDs.mono l r⟩
  | .scr ns, _, h => by
    simp only [RepD] at h ⊢
    obtain ⟨a, e, q⟩ := h
    refine ⟨a, e, ?_⟩
    rcases q with (q | ⟨o, q⟩) | q
    · exact .inl (.inl (l _ _ q))
    · exact .inl (.inr ⟨o, l _ _ q⟩)
    · exact .inr q
  | .dK ks ds, _, h => by
    simp only [RepD] at h ⊢
    obtain ⟨a, kvs, e, q, e2, r⟩ := h
    exact ⟨a, kvs, e, l _ _ q, e2, RepDs.mono l r⟩
  | .dT ks ds, _, h => by
    simp only [RepD] at h ⊢
    obtain ⟨a, kvs, e, q, e2, r⟩ := h
    exact ⟨a, kvs, e, l _ _ q, e2, RepDs.mono l r⟩
theorem RepDs.mono (l : GLe G G') : ∀ {ds : List D} {vs : List V}, RepDs K fa G vs ds → RepDs K fa G' vs ds
  | [], _, h => by simpa only [RepDs] using h
  | d :: ds, _, h => by
    simp only [RepDs] at h ⊢
    obtain ⟨v, r, e, h1, h2⟩ := h
    exact ⟨v, r, e, RepD.mono l h1, RepDs.mono l h2⟩
end
theorem RepDs.length : ∀ {ds : List D} {vs : List V}, RepDs K fa G vs ds → vs.length = ds.length
  | [], _, h => by simp only [RepDs] at h; subst h; rfl
  | d :: ds, _, h => by
    simp only [RepDs] at h
    obtain ⟨v, r, rfl, h1, h2⟩ := h
    simp [RepDs.length h2]
theorem RepDs.nil : RepDs K fa G [] [] := by simp only [RepDs]
theorem RepDs.cons {v : V} {vs : List V} {d : D} {ds : List D} (h1 : RepD K fa G v d) (h2 : RepDs K fa G vs ds) : RepDs K fa G (v :: vs) (d :: ds) := by
  simp only [RepDs]
  exact ⟨v, vs, rfl, h1, h2⟩
theorem RepDs.get : ∀ {ds : List D} {vs : List V} {i : Nat} {d : D}, RepDs K fa G vs ds → ds[i]? = some d → ∃ v, vs[i]? = some v ∧ RepD K fa G v d
  | [], _, _, _, _, e => by simp at e
  | d' :: ds, _, 0, d, h, e => by
    simp only [RepDs] at h
    obtain ⟨v, r, rfl, h1, h2⟩ := h
    simp at e; subst e
    exact ⟨v, rfl, h1⟩
  | d' :: ds, _, i + 1, d, h, e => by
    simp only [RepDs] at h
    obtain ⟨v, r, rfl, h1, h2⟩ := h
    obtain ⟨v', q1, q2⟩ := RepDs.get (i := i) (d := d) h2 (by simpa using e)
    exact ⟨v', by simpa using q1, q2⟩
theorem RepDs.append : ∀ {ds es : List D} {vs us : List V}, RepDs K fa G vs ds → RepDs K fa G us es → RepDs K fa G (vs ++ us) (ds ++ es)
  | [], es, _, us, h, q => by simp only [RepDs] at h; subst h; exact q
  | d :: ds, es, _, us, h, q => by
    simp only [RepDs] at h
    obtain ⟨v, r, rfl, h1, h2⟩ := h
    exact RepDs.cons h1 (RepDs.append h2 q)
theorem RepDs.take : ∀ {ds : List D} {vs : List V} (n : Nat), RepDs K fa G vs ds → RepDs K fa G (vs.take n) (ds.take n)
  | [], _, n, h => by simp only [RepDs] at h; subst h; simpa using RepDs.nil
  | d :: ds, _, 0, h => by simpa using RepDs.nil
  | d :: ds, _, n + 1, h => by
    simp only [RepDs] at h
    obtain ⟨v, r, rfl, h1, h2⟩ := h
    simpa using RepDs.cons h1 (RepDs.take n h2)
theorem RepDs.drop : ∀ {ds : List D} {vs : List V} (n : Nat), RepDs K fa G vs ds → RepDs K fa G (vs.drop n) (ds.drop n)
  | [], _, n, h => by simp only [RepDs] at h; subst h; simpa using RepDs.nil
  | d :: ds, _, 0, h => by simpa using h
  | d :: ds, _, n + 1, h => by
    simp only [RepDs] at h
    obtain ⟨v, r, rfl, h1, h2⟩ := h
    simpa using RepDs.drop n h2
theorem RepDs.set : ∀ {ds : List D} {vs : List V} (i : Nat) {v : V} {d : D}, RepDs K fa G vs ds → RepD K fa G v d → RepDs K fa G (vs.set i v) (ds.set i d)
  | [], _, i, _, _, h, _ => by simp only [RepDs] at h; subst h; simpa using RepDs.nil
  | d' :: ds, _, 0, _, _, h, q => by
    simp only [RepDs] at h
    obtain ⟨v, r, rfl, h1, h2⟩ := h
    simpa using RepDs.cons q h2
  | d' :: ds, _, n + 1, _, _, h, q => by
    simp only [RepDs] at h
    obtain ⟨v, r, rfl, h1, h2⟩ := h
    simpa using RepDs.cons h1 (RepDs.set n h2 q)
theorem RepDs.ints : ∀ {ns : List Int} {vs : List V}, RepDs K fa G vs (ns.map D.int) → vs = ns.map V.int
  | [], _, h => by simpa [RepDs] using h
  | n :: ns, _, h => by
    simp only [List.map_cons, RepDs] at h
    obtain ⟨v, r, rfl, h1, h2⟩ := h
    simp only [RepD] at h1
    rw [h1, RepDs.ints h2]; rfl
theorem RepDs.of_ints : ∀ {ns : List Int}, RepDs K fa G (ns.map V.int) (ns.map D.int)
  | [] => RepDs.nil
  | n :: ns => RepDs.cons (by simp only [RepD]) RepDs.of_ints
theorem RepDs.bls : ∀ {ns : List Bool} {vs : List V}, RepDs K fa G vs (ns.map D.bl) → vs = ns.map V.bl
  | [], _, h => by simpa [RepDs] using h
  | n :: ns, _, h => by
    simp only [List.map_cons, RepDs] at h
    obtain ⟨v, r, rfl, h1, h2⟩ := h
    simp only [RepD] at h1
    rw [h1, RepDs.bls h2]; rfl
end

/-! ### the ghost, and when heap and store agree -/
structure Gh where
  G : Hp
  φ : Nat → Addr
  n : Nat
  lk : Bool
  F : Hp
def isDic : HO → Bool
  | .dK _ => true
  | .dT _ => true
  | _ => false
structure Gh.le (g g' : Gh) : Prop where
  G : GLe g.G g'.G
  φ : ∀ i, i < g.n → g'.φ i = g.φ i
  n : g.n ≤ g'.n
  lk : g'.lk = g.lk
  F : g'.F = g.F
theorem Gh.le.refl (g : Gh) : g.le g := ⟨fun _ _ h => h, fun _ _ => rfl, Nat.le_refl _, rfl, rfl⟩
theorem Gh.le.trans {a b c : Gh} (h : a.le b) (q : b.le c) : a.le c :=
  ⟨fun x u e => q.G x u (h.G x u e), fun i hi => (q.φ i (Nat.lt_of_lt_of_le hi h.n)).trans (h.φ i hi), Nat.le_trans h.n q.n, q.lk.trans h.lk, q.F.trans h.F⟩

section
variable (K : PySem.W.Frag) (fa : Nat → Addr)
def RepW (g : Gh) (v : V) : W → Prop
  | .d x => RepD K fa g.G v x
  | .mu i => v = .ref (g.φ i) ∧ i < g.n
def RepM (G : Hp) (u : HO) : MO → Prop
  | .dead => False
  | .lst ds => ∃ vs, u = .lst vs ∧ RepDs K fa G vs ds
  | .dK ks ds => ∃ kvs, u = .dK kvs ∧ kvs.map (·.1) = ks ∧ RepDs K fa G (kvs.map (·.2)) ds
  | .dT ks ds => ∃ kvs, u = .dT kvs ∧ kvs.map (·.1) = ks ∧ RepDs K fa G (kvs.map (·.2)) ds
structure Rel (g : Gh) (H : Hp) (S : Store) : Prop where
  len : S.length = g.n
  ext : ∀ a u, g.G a = some u → H a = some u ∨ (isDic u = true ∧ g.lk = true ∧ ∃ o, H a = some (.frz o u))
  live : ∀ (i : Nat) mo, S[i]? = some mo → mo ≠ .dead → ∃ u, H (g.φ i) = some u ∧ RepM K fa g.G u mo ∧ g.G (g.φ i) = none
  inj : ∀ (i j : Nat) mi mj, S[i]? = some mi → S[j]? = some mj → mi ≠ .dead → mj ≠ .dead → g.φ i = g.φ j → i = j
  frm : ∀ a u, g.F a = some u → H a = some u ∧ g.G a = none ∧ ∀ (i : Nat) mo, S[i]? = some mo → mo ≠ .dead → g.φ i ≠ a
def RepEn (g : Gh) (σ : L2.St) (ρ : En) : Prop := σ.length = ρ.length ∧ ∀ (i : Nat) w, ρ[i]? = some (some w) → ∃ v, σ[i]? = some (some v) ∧ RepW K fa g v w
end

section
variable {K : PySem.W.Frag} {fa : Nat → Addr} {g g' : Gh} {H : Hp} {S : Store} {σ : L2.St} {ρ : En}
theorem RepW.mono (l : g.le g') {v : V} : ∀ {w : W}, RepW K fa g v w → RepW K fa g' v w
  | .d _, h => RepD.mono l.G h
  | .mu i, h => ⟨h.1.trans (congrArg V.ref (l.φ i h.2).symm), Nat.lt_of_lt_of_le h.2 l.n⟩
theorem RepEn.mono (l : g.le g') (h : RepEn K fa g σ ρ) : RepEn K fa g' σ ρ := ⟨h.1, fun i w e => let ⟨v, a, b⟩ := h.2 i w e; ⟨v, a, RepW.mono l b⟩⟩
theorem Rel.rd (r : Rel K fa g H S) {a : Addr} {u : HO} (e : g.G a = some u) : Rd H a u := by
  rcases r.ext a u e with h | ⟨_, _, h⟩
  · exact .inl h
  · exact .inr h
theorem Rel.sqT (r : Rel K fa g H S) {a : Addr} {vs : List V} (e : g.G a = some (.tup vs) ∨ SqT K nilH a vs) : SqT K H a vs := by
  rcases e with e | e
  · exact .inl (r.rd e)
  · exact sqT_nil e
theorem Rel.lst (r : Rel K fa g H S) {a : Addr} {vs : List V} (e : g.G a = some (.lst vs)) : H a = some (.lst vs) := by
  rcases r.ext a _ e with h | ⟨h, _⟩
  · exact h
  · cases h
theorem Rel.scr (r : Rel K fa g H S) {a : Addr} {vs : List V} (e : SqL K g.G a vs) : SqL K H a vs := by
  rcases e with (e | ⟨o, e⟩) | e
  · exact .inl (r.rd e)
  · rcases r.ext a _ e with h | ⟨h, _⟩
    · exact .inl (.inr ⟨o, h⟩)
    · cases h
  · exact .inr e
theorem Rel.fresh (r : Rel K fa g H S) {p : Addr} (hp : H p = none) : g.G p = none := by
  cases q : g.G p with
  | none => rfl
  | some u =>
    rcases r.ext p u q with h | ⟨_, _, o, h⟩ <;> rw [hp] at h <;> cases h
theorem Rel.ne_live (r : Rel K fa g H S) {p : Addr} (hp : H p = none) {i : Nat} {mo : MO} (e : S[i]? = some mo) (hm : mo ≠ .dead) : g.φ i ≠ p := by
  obtain ⟨u, h, _⟩ := r.live i mo e hm
  rintro rfl
  rw [hp] at h; cases h

/-- a new object is laid and known for good -/
def Gh.add (g : Gh) (p : Addr) (o : HO) : Gh := { g with G := upd g.G p o }
theorem Gh.le_add {p : Addr} {o : HO} (hp : g.G p = none) : g.le (g.add p o) :=
  ⟨fun a u e => by show upd g.G p o a = some u; rw [upd_ne (ne_of_none e hp)]; exact e, fun _ _ => rfl, Nat.le_refl _, rfl, rfl⟩
theorem RepM.mono {G G' : Hp} (l : GLe G G') {u : HO} : ∀ {mo : MO}, RepM K fa G u mo → RepM K fa G' u mo
  | .dead, h => h
  | .lst _, ⟨vs, e, h⟩ => ⟨vs, e, RepDs.mono l h⟩
  | .dK _ _, ⟨vs, e, e2, h⟩ => ⟨vs, e, e2, RepDs.mono l h⟩
  | .dT _ _, ⟨vs, e, e2, h⟩ => ⟨vs, e, e2, RepDs.mono l h⟩
theorem Rel.add (r : Rel K fa g H S) {p : Addr} {o : HO} (hp : H p = none) : Rel K fa (g.add p o) (upd H p o) S := by
  have hg := r.fresh hp
  refine ⟨r.len, fun a u e => ?_, fun i mo e hm => ?_, r.inj, fun a u e => ?_⟩
  · by_cases ha : a = p
    · subst ha
      have e' : upd g.G a o a = some u := e
      rw [upd_same] at e'; cases e'
      exact .inl upd_same
    · have e' : upd g.G p o a = some u := e
      rw [upd_ne ha] at e'
      rw [upd_ne ha]
      exact r.ext a u e'
  · obtain ⟨u, h1, h2, h3⟩ := r.live i mo e hm
    have ne : g.φ i ≠ p := r.ne_live hp e hm
    refine ⟨u, by show upd H p o (g.φ i) = some u; rw [upd_ne ne]; exact h1, RepM.mono (Gh.le_add hg).G h2, ?_⟩
    show upd g.G p o (g.φ i) = none
    rw [upd_ne ne]; exact h3
  · obtain ⟨h1, h2, h3⟩ := r.frm a u e
    have ne : a ≠ p := ne_of_none h1 hp
    refine ⟨by rw [upd_ne ne]; exact h1, ?_, h3⟩
    show upd g.G p o a = none
    rw [upd_ne ne]; exact h2
/-- a new object is laid and may change: it gets the next number -/
def Gh.push (g : Gh) (p : Addr) : Gh := { g with φ := fun i => if i = g.n then p else g.φ i, n := g.n + 1 }
theorem Gh.le_push {p : Addr} : g.le (g.push p) :=
  ⟨fun _ _ e => e, fun i hi => by show (if i = g.n then p else g.φ i) = g.φ i; rw [if_neg (by omega)], Nat.le_succ _, rfl, rfl⟩
theorem getElem?_push {S : Store} {mo m : MO} {i : Nat} (h : (S ++ [mo])[i]? = some m) : S[i]? = some m ∧ i < S.length ∨ i = S.length ∧ m = mo := by
  rcases Nat.lt_or_ge i S.length with hi | hi
  · rw [List.getElem?_append_left hi] at h
    exact .inl ⟨h, hi⟩
  · rw [List.getElem?_append_right hi] at h
    rcases Nat.eq_or_lt_of_le hi with e | e
    · subst e
      simp at h
      exact .inr ⟨rfl, h.symm⟩
    · rw [List.getElem?_eq_none (by simp; omega)] at h; cases h
theorem Rel.push (r : Rel K fa g H S) {p : Addr} {o : HO} {mo : MO} (hp : H p = none) (hm : RepM K fa g.G o mo) : Rel K fa (g.push p) (upd H p o) (S ++ [mo]) := by
  have hg := r.fresh hp
  have old : ∀ {i : Nat}, i < S.length → (g.push p).φ i = g.φ i := fun {i} hi => by
    show (if i = g.n then p else g.φ i) = g.φ i
    rw [if_neg (by rw [r.len] at hi; omega)]
  have new : (g.push p).φ S.length = p := by
    show (if S.length = g.n then p else g.φ S.length) = p
    rw [if_pos r.len]
  refine ⟨by simp [Gh.push, r.len], fun a u e => ?_, fun i m e hm' => ?_, fun i j mi mj ei ej hi hj q => ?_, fun a u e => ?_⟩
  · have e' : g.G a = some u := e
    have ha : a ≠ p := ne_of_none e' hg
    rw [upd_ne ha]
    exact r.ext a u e'
  · rcases getElem?_push e with ⟨e1, hl⟩ | ⟨rfl, rfl⟩
    · rw [old hl]
      obtain ⟨u, h1, h2, h3⟩ := r.live i m e1 hm'
      exact ⟨u, by rw [upd_ne (r.ne_live hp e1 hm')]; exact h1, h2, h3⟩
    · rw [new]
      exact ⟨o, upd_same, hm, hg⟩
  · rcases getElem?_push ei with ⟨e1, l1⟩ | ⟨rfl, rfl⟩
    · rcases getElem?_push ej with ⟨e2, l2⟩ | ⟨rfl, rfl⟩
      · rw [old l1, old l2] at q
        exact r.inj i j mi mj e1 e2 hi hj q
      · rw [old l1, new] at q
        exact absurd q (r.ne_live hp e1 hi)
    · rcases getElem?_push ej with ⟨e2, l2⟩ | ⟨rfl, rfl⟩
      · rw [new, old l2] at q
        exact absurd q.symm (r.ne_live hp e2 hj)
      · rfl
  · obtain ⟨h1, h2, h3⟩ := r.frm a u e
    have ne : a ≠ p := ne_of_none h1 hp
    refine ⟨by rw [upd_ne ne]; exact h1, h2, fun i m ei hi => ?_⟩
    rcases getElem?_push ei with ⟨e1, l1⟩ | ⟨rfl, rfl⟩
    · rw [old l1]; exact h3 i m e1 hi
    · rw [new]; exact ne.symm
/-- a live object is changed -/
theorem getElem?_setS {S : Store} {mo m : MO} {i n : Nat} (h : (S.set n mo)[i]? = some m) : i = n ∧ m = mo ∧ n < S.length ∨ i ≠ n ∧ S[i]? = some m := by
  by_cases hi : i = n
  · subst hi
    by_cases hl : i < S.length
    · rw [List.getElem?_set_self hl] at h
      cases h
      exact .inl ⟨rfl, rfl, hl⟩
    · rw [List.getElem?_eq_none (by simpa using hl)] at h; cases h
  · rw [List.getElem?_set_ne (Ne.symm hi)] at h
    exact .inr ⟨hi, h⟩
theorem Rel.write (r : Rel K fa g H S) {n : Nat} {m0 mo : MO} {o : HO} (e0 : S[n]? = some m0) (h0 : m0 ≠ .dead) (hm : RepM K fa g.G o mo) : Rel K fa g (upd H (g.φ n) o) (S.set n mo) := by
  obtain ⟨u0, l1, l2, l3⟩ := r.live n m0 e0 h0
  have key : ∀ (i : Nat) mi, (S.set n mo)[i]? = some mi → mi ≠ .dead → ∃ m', S[i]? = some m' ∧ m' ≠ .dead := fun i mi ei hi => by
    rcases getElem?_setS ei with ⟨rfl, _, _⟩ | ⟨_, e1⟩
    · exact ⟨m0, e0, h0⟩
    · exact ⟨mi, e1, hi⟩
  refine ⟨by simpa using r.len, fun a u e => ?_, fun i m e hm' => ?_, fun i j mi mj ei ej hi hj q => ?_, fun a u e => ?_⟩
  · have ha : a ≠ g.φ n := ne_of_none e l3
    rw [upd_ne ha]
    exact r.ext a u e
  · rcases getElem?_setS e with ⟨rfl, rfl, _⟩ | ⟨hi, e1⟩
    · exact ⟨o, upd_same, hm, l3⟩
    · obtain ⟨u, h1, h2, h3⟩ := r.live i m e1 hm'
      refine ⟨u, ?_, h2, h3⟩
      rw [upd_ne fun q => hi (r.inj i n m m0 e1 e0 hm' h0 q)]
      exact h1
  · obtain ⟨m1, a1, a2⟩ := key i mi ei hi
    obtain ⟨m2, b1, b2⟩ := key j mj ej hj
    exact r.inj i j m1 m2 a1 b1 a2 b2 q
  · obtain ⟨h1, h2, h3⟩ := r.frm a u e
    refine ⟨by rw [upd_ne (h3 n m0 e0 h0).symm]; exact h1, h2, fun i m ei hi => ?_⟩
    obtain ⟨m1, a1, a2⟩ := key i m ei hi
    exact h3 i m1 a1 a2
/-- a live object is known for good from now on -/
theorem Rel.freeze (r : Rel K fa g H S) {n : Nat} {m0 : MO} (e0 : S[n]? = some m0) (h0 : m0 ≠ .dead) :
    ∃ u, g.G (g.φ n) = none ∧ RepM K fa g.G u m0 ∧ Rel K fa (g.add (g.φ n) u) H (S.set n .dead) := by
  obtain ⟨u, l1, l2, l3⟩ := r.live n m0 e0 h0
  refine ⟨u, l3, l2, by simpa [Gh.add] using r.len, fun a w e => ?_, fun i m e hm' => ?_, fun i j mi mj ei ej hi hj q => ?_, fun a w e => ?_⟩
  · have e' : upd g.G (g.φ n) u a = some w := e
    by_cases ha : a = g.φ n
    · rw [ha, upd_same] at e'; cases e'
      rw [ha]
      exact .inl l1
    · rw [upd_ne ha] at e'
      exact r.ext a w e'
  · rcases getElem?_setS e with ⟨rfl, rfl, _⟩ | ⟨hi, e1⟩
    · exact absurd rfl hm'
    · obtain ⟨w, h1, h2, h3⟩ := r.live i m e1 hm'
      refine ⟨w, h1, RepM.mono (Gh.le_add l3).G h2, ?_⟩
      show upd g.G (g.φ n) u (g.φ i) = none
      rw [upd_ne fun q => hi (r.inj i n m m0 e1 e0 hm' h0 q)]
      exact h3
  · rcases getElem?_setS ei with ⟨rfl, rfl, _⟩ | ⟨_, e1⟩
    · exact absurd rfl hi
    · rcases getElem?_setS ej with ⟨rfl, rfl, _⟩ | ⟨_, e2⟩
      · exact absurd rfl hj
      · exact r.inj i j mi mj e1 e2 hi hj q
  · obtain ⟨h1, h2, h3⟩ := r.frm a w e
    refine ⟨h1, ?_, fun i m ei hi => ?_⟩
    · show upd g.G (g.φ n) u a = none
      rw [upd_ne (h3 n m0 e0 h0).symm]; exact h2
    · rcases getElem?_setS ei with ⟨rfl, rfl, _⟩ | ⟨_, e1⟩
      · exact absurd rfl hi
      · exact h3 i m e1 hi

/-- a frame: an object that is held as it is, and nobody knows -/
def Gh.hold (g : Gh) (p : Addr) (o : HO) : Gh := { g with F := upd g.F p o }
theorem Rel.hold (r : Rel K fa g H S) {p : Addr} {o : HO} (hp : H p = none) : Rel K fa (g.hold p o) (upd H p o) S := by
  have hg := r.fresh hp
  refine ⟨r.len, fun a u e => ?_, fun i mo e hm => ?_, r.inj, fun a u e => ?_⟩
  · rw [upd_ne (ne_of_none (show g.G a = some u from e) hg)]
    exact r.ext a u e
  · obtain ⟨u, h1, h2, h3⟩ := r.live i mo e hm
    exact ⟨u, by show upd H p o (g.φ i) = some u; rw [upd_ne (r.ne_live hp e hm)]; exact h1, h2, h3⟩
  · have e' : upd g.F p o a = some u := e
    by_cases ha : a = p
    · subst ha
      rw [upd_same] at e'; cases e'
      exact ⟨upd_same, hg, fun i mo e hm => r.ne_live hp e hm⟩
    · rw [upd_ne ha] at e'
      obtain ⟨h1, h2, h3⟩ := r.frm a u e'
      exact ⟨by rw [upd_ne ha]; exact h1, h2, h3⟩
/-- the frame's object is changed -/
theorem Rel.rehold (r : Rel K fa g H S) {p : Addr} {o o' : HO} (hp : g.F p = some o) : Rel K fa { g with F := upd g.F p o' } (upd H p o') S := by
  obtain ⟨q1, q2, q3⟩ := r.frm p o hp
  refine ⟨r.len, fun a u e => ?_, fun i mo e hm => ?_, r.inj, fun a u e => ?_⟩
  · rw [upd_ne (ne_of_none (show g.G a = some u from e) q2)]
    exact r.ext a u e
  · obtain ⟨u, h1, h2, h3⟩ := r.live i mo e hm
    exact ⟨u, by show upd H p o' (g.φ i) = some u; rw [upd_ne (q3 i mo e hm)]; exact h1, h2, h3⟩
  · have e' : upd g.F p o' a = some u := e
    by_cases ha : a = p
    · subst ha
      rw [upd_same] at e'; cases e'
      exact ⟨upd_same, q2, q3⟩
    · rw [upd_ne ha] at e'
      obtain ⟨h1, h2, h3⟩ := r.frm a u e'
      exact ⟨by rw [upd_ne ha]; exact h1, h2, h3⟩
/-- the frame's object is known for good from now on -/
theorem Rel.unhold (r : Rel K fa g H S) {p : Addr} {o : HO} {F0 : Hp} (hp : g.F p = some o) (hF : ∀ a u, F0 a = some u → a ≠ p ∧ g.F a = some u) : Rel K fa { g.add p o with F := F0 } H S ∧ g.G p = none := by
  obtain ⟨q1, q2, q3⟩ := r.frm p o hp
  refine ⟨⟨r.len, fun a u e => ?_, fun i mo e hm => ?_, r.inj, fun a u e => ?_⟩, q2⟩
  · have e' : upd g.G p o a = some u := e
    by_cases ha : a = p
    · subst ha
      rw [upd_same] at e'; cases e'
      exact .inl q1
    · rw [upd_ne ha] at e'
      exact r.ext a u e'
  · obtain ⟨u, h1, h2, h3⟩ := r.live i mo e hm
    refine ⟨u, h1, RepM.mono (Gh.le_add q2).G h2, ?_⟩
    show upd g.G p o (g.φ i) = none
    rw [upd_ne (q3 i mo e hm)]; exact h3
  · obtain ⟨n1, n2⟩ := hF a u e
    obtain ⟨h1, h2, h3⟩ := r.frm a u n2
    refine ⟨h1, ?_, h3⟩
    show upd g.G p o a = none
    rw [upd_ne n1]; exact h2
/-- only the first n things of the store are kept -/
theorem Rel.cut (r : Rel K fa g H S) {n : Nat} (hn : n ≤ g.n) : Rel K fa { g with n := n } H (S.take n) := by
  have key : ∀ (i : Nat) mo, (S.take n)[i]? = some mo → S[i]? = some mo := fun i mo e => by
    rw [List.getElem?_take] at e
    split at e
    · exact e
    · cases e
  refine ⟨by have := r.len; rw [List.length_take]; show min n S.length = n; omega, r.ext, fun i mo e hm => r.live i mo (key i mo e) hm, fun i j mi mj ei ej => r.inj i j mi mj (key i mi ei) (key j mj ej), fun a u e => ?_⟩
  obtain ⟨h1, h2, h3⟩ := r.frm a u e
  exact ⟨h1, h2, fun i mo ei hi => h3 i mo (key i mo ei) hi⟩
end
end Pv

set_option Elab.async false
set_option linter.all false
set_option maxRecDepth 100000
set_option maxHeartbeats 4000000
/-! An error of the program: its class at C over a class at B over Exception; its __init__ calls B's and stores one field. -/
namespace Pv
open PySem PySem.W PySem.Calls PyProof.Rows PySem.HandSPX

abbrev xTl : List Value := [.type "Exception", .type "BaseException", .type "object"]
theorem has_tl {C B : Addr} (X : String) : (Value.ref C :: Value.ref B :: xTl).contains (.type X) = xTl.contains (.type X) := by
  rw [List.contains_cons, List.contains_cons]; rfl
theorem has_tl1 {B : Addr} (X : String) : (Value.ref B :: xTl).contains (.type X) = xTl.contains (.type X) := by
  rw [List.contains_cons]; rfl

section
open Builtin Builtin.ObjectAttr
variable {prog : Program} {w : World} {A : Around} {R : Result → Shared → Prop} {hp : Heap} {g : Array GenState} {d : Drawn} {t : Nat} {os : OsState}
/-- self.f = v on such an error that has no dict yet -/
theorem osaE {K : Frag} {fl : Str} {tk : Tok} {v : Value} {x C B : Addr} {fv : Array Value} {cd : ClassData}
    (X : K.In hp) (gx : hp.get? x = some { cls := .ref C, data := .fields fv }) (gcd : clsIn K C = some cd) (gm : cd.mro = .ref C :: .ref B :: xTl) (gd : cd.hasDict = true) (ga : findIn K (.ref C) fl = some none)
    (end_ : ∀ h' tk' dx, (∀ b o, b ≠ x → hp.get? b = some o → h'.get? b = some o) → hp.objs.size ≤ dx → dx ≠ x → h'.get? x = some { cls := .ref C, dict := some dx, data := .fields fv } → h'.Ns1 dx (fun y => if y = fl then some v else none) → R (.ok (.ret .none)) ⟨h', g, d, tk', os⟩) :
    codeAny (model prog w) A (.call (.builtin "object.__setattr__") ⟨[.ref x, .str fl tk, v], []⟩) R ⟨hp, g, d, t, os⟩ := by
  have I0 : InstAt hp x { cls := .ref C, data := .fields fv } C none := ⟨gx, rfl, rfl, trivial⟩
  have sto := F.store_object
  have ob : cd.mro.contains (.type "object") = true := by rw [gm, has_tl]; decide +kernel
  have nem : cd.mro.isEmpty = false := by rw [gm]; rfl
  have xne : x ≠ hp.objs.size := Nat.ne_of_lt (Heap.lt_size gx)
  have isub : Looks (model prog w) hp (isInstance (.ref x) (.type "object")) true := I0.type.andThen (looks_mroIn X (by unfold mroIn; rw [gcd, Option.bind_some, if_neg (by rw [nem]; decide), ob]))
  refine codeAny_call_builtin sto.slot.plain sto.entry (@check_slot (model prog w) _ _ ⟨hp, g, d, t, os⟩ "object.__setattr__" "object" "__setattr__" (.ref x) [.str fl tk, v] [] _ sto.kind sto.split isub (sto.args (.ref x) (.str fl tk) v) ?_)
  have lmro : Looks (model prog w) hp (mroOf (.ref C)) cd.mro := (looks_clsIn X gcd).andThen .now
  have ltk : Looks (model prog w) hp (storeTaker? none) none := .now
  have lcd : Looks (model prog w) hp (classData C) cd := looks_clsIn X gcd
  have pass : refuseLoop (.ref x) "__setattr__" cd.mro = pure () := by rw [gm, refuseLoop_ref, refuseLoop_ref]; exact F.store_Exception.passes _
  rw [osa_eq, refuse_eq]
  refine wpAny_bind (wpAny_bind (I0.type.at (wpAny_bind (lmro.at ?_)))); rw [pass]
  refine wpAny_pure (wpAny_bind (I0.type.at (wpAny_bind ((looks_findIn X ga).at (wpAny_bind (ltk.at ?_))))))
  show wpAny _ _ (storeInOwnDict (.ref x) (.ref C) (.str fl tk) fl v false) _ _ _
  obtain ⟨n0, b0, m0, s0, q0, hd0, sn0, sb0, ab0, co0, de0⟩ := cd
  dsimp only at gd; subst gd
  unfold storeInOwnDict ownDictForStores
  repeat (first | with_reducible refine store_in_new ?_ ?_ | with_reducible refine wpAny_loadPart_at gx ?_ | with_reducible refine lcd.at ?_ | wp_step)
  · exact ⟨_, #[], _, (Heap.get?_update_ne _ _ _ _ xne.symm).trans (Heap.get?_push_at rfl rfl), rfl, fun e he => absurd he (by simp), fun _ => rfl⟩
  · intro h' tk' hn' sb'
    have gx₁ : (hp.push { cls := .type "dict", data := .dict #[] }).get? x = some { cls := .ref C, data := .fields fv } := Heap.get?_push_of_some _ gx
    refine end_ h' tk' hp.objs.size (fun b o hb ho => (sb'.2 b (Nat.ne_of_lt (Heap.lt_size ho))).trans ((Heap.get?_update_ne _ _ _ _ hb).trans (Heap.get?_push_of_some _ ho))) (Nat.le_refl _) xne.symm ?_ hn'
    exact (sb'.2 x xne).trans (Heap.get?_update_self _ gx₁ rfl)
end
end Pv

namespace Pv
open PySem L2 PySem.Spec PyProof.Rows
/-- what the written part says of the error x (field f), its class at C, the class below at B -/
structure ErrC (K : PySem.W.Frag) (mg : Str → Option Value) (x bx f : Str) (C B : Addr) : Prop where
  gC : mg x = some (.ref C)
  cls : ∃ nm q N bs sn sub ab col dd k0 k1 k2 k3 k5, K.lookup C = some (excClassObj nm q C N bs (.ref B :: xTl) true sn sub ab col dd k0 k1 k2 k3 k5 "Exception.__new__")
  sa : PySem.W.findIn K (.ref C) "__setattr__" = some (some (.builtin "object.__setattr__"))
  ga : PySem.W.findIn K (.ref C) "__getattribute__" = some (some (.builtin "BaseException.__getattribute__"))
  gg : PySem.W.findIn K (.ref C) "__getattr__" = some none
  noF : PySem.W.findIn K (.ref C) f = some none
  kC : PySem.W.keepIn K (.ref C) = true
  exC : PySem.W.subIn K (.ref C) (.type "BaseException") = some true
  tyC : PySem.W.typeIn K (.ref C) = some (.type "type")
  hdC : PySem.W.hasDictIn K C = true
  isC : PySem.W.isClsIn K C = true
  seC : PySem.W.subIn K (.ref C) (.ref C) = some true
  gB : mg bx = some (.ref B)
  tyB : PySem.W.typeIn K (.ref B) = some (.type "type")
  spB : PySem.W.specialIn K (.ref B) "__getattribute__" = some (some (.builtin "type.__getattribute__"))
  rdB : PySem.W.readsIn K B (.type "type") = true
  fiB : PySem.W.findCls K (.ref B) (.type "type") "__init__" = some (.val (.builtin "Exception.__init__"))
theorem exmSelf {K : PySem.W.Frag} {S : Addr} (h1 : PySem.W.subIn K (.ref S) (.type "BaseException") = some true) (h2 : PySem.W.isClsIn K S = true) (h3 : PySem.W.typeIn K (.ref S) = some (.type "type")) (h4 : PySem.W.subIn K (.ref S) (.ref S) = some true) :
    PySem.W.exmOne K (.ref S) (.ref S) = some true := by
  have e1 : (PySem.W.subIn K (.ref S) (.type "BaseException") == some true) = true := by rw [h1] <;> rfl
  have e2 : ((PySem.W.clsIn K S).isSome && PySem.W.typeIn K (.ref S) == some (.type "type")) = true := by
    have h2' : (PySem.W.clsIn K S).isSome = true := h2
    rw [h2', h3] <;> rfl
  show (if (PySem.W.subIn K (.ref S) (.type "BaseException") == some true) = true then (if ((PySem.W.clsIn K S).isSome && PySem.W.typeIn K (.ref S) == some (.type "type")) = true then PySem.W.subIn K (.ref S) (.ref S) else none) else none) = some true
  rw [if_pos e1, if_pos e2]
  exact h4
section
variable {X : Cx} {pins : List (Addr × Obj)} {σ : L2.St} {H : Hp} {s : Shared} {a C B dx : Addr} {x bx f : Str} {y : V} {u : Value} {E : Value → Shared → Prop} {A : Around}
theorem ErrC.clsD {K : PySem.W.Frag} {mg : Str → Option Value} (T : ErrC K mg x bx f C B) : ∃ cd, PySem.W.clsIn K C = some cd ∧ cd.mro = .ref C :: .ref B :: xTl ∧ cd.hasDict = true := by
  obtain ⟨nm, q, N, bs, sn, sub, ab, col, dd, k0, k1, k2, k3, k5, hC⟩ := T.cls
  exact ⟨{ name := nm, bases := bs, mro := .ref C :: .ref B :: xTl, ns := N, qualname := q, hasDict := true, slotNames := sn, subclasses := sub, abstract := ab, collection := col, hasDel := false }, by unfold PySem.W.clsIn; rw [hC] <;> rfl, rfl, rfl⟩
/-- self.f = y, the first one -/
theorem ostE {Q : Unit → Shared → Prop} (T : ErrC X.K X.mg x bx f C B) (I : Inv X pins σ H s) (e : H a = some (exo a C none)) (ry : RelV y u)
    (k : ∀ dx s', H dx = none → dx ≠ a → Inv X pins σ (upd (upd H dx (exd dx [(f, y)])) a (exo a C (some dx))) s' → Q () s') : wpAny (model X.prog X.w) A (setAttr (.ref a) f u) Q E s := by
  obtain ⟨cd, c1, c2, c3⟩ := T.clsD
  obtain ⟨t1, ho⟩ := exo_at I.hok e
  obtain ⟨hp, g, d, t, os⟩ := s
  refine PySem.W.set_plain I.kIn (ox := { cls := .ref C, dict := none, data := .fields #[.ref t1, .none, .none, .none, .bool false, .none] }) (od := none) ⟨ho, rfl, rfl, trivial⟩ T.sa ?_
  refine osaE I.kIn ho c1 c2 c3 T.noF (fun h' tk' dx kp dn dne hx hn => ?_)
  have dfr : H dx = none := I.hok.fresh dn
  have ned : ∀ {b : Addr} {o : Obj}, hp.get? b = some o → b ≠ dx := fun {b o} q => Nat.ne_of_lt (Nat.lt_of_lt_of_le (Heap.lt_size q) dn)
  have nea : ∀ {b : Addr}, H b = none → b ≠ a := fun {b} n z => by rw [z, e] at n; cases n
  have un : Un X.fs [] H (upd (upd H dx (exd dx [(f, y)])) a (exo a C (some dx))) hp h' :=
    ⟨fun b o q n _ _ => kp b o (nea n) q, fun b o q n _ _ => ⟨o.slots, kp b o (nea n) q⟩, fun b o q n _ => by rw [upd_ne (nea n), upd_ne (ned q)]; exact n,
      fun b o q _ => by
        by_cases hb : b = a
        · exact ⟨_, by rw [hb]; exact hx⟩
        · exact ⟨o, kp b o hb q⟩,
      fun b xs q => by rw [upd_ne (at_ne e q exo_tup), upd_ne (ne_of_none q dfr)]; exact q, fun b o v q => by rw [upd_ne (at_ne e q exo_frz), upd_ne (ne_of_none q dfr)]; exact q,
      fun b ps q => ⟨#[], by rw [upd_ne (at_ne e q exo_tbl), upd_ne (ne_of_none q dfr), q]; simp⟩⟩
  refine k dx _ dfr dne (I.un (t' := tk') un fun b o q => ?_)
  by_cases hb : b = a
  · subst hb; rw [upd_same] at q; cases q
    exact exo_ok hx
  · rw [upd_ne hb] at q
    by_cases hd : b = dx
    · subst hd; rw [upd_same] at q; cases q
      exact exd_ok hn (relO_put (fs := []) ry fun g => True.intro)
    · rw [upd_ne hd] at q
      refine (I.hok b o q).stay (fun c v hc z => kp c v (hc.elim (fun hc => by rw [hc]; exact hb) fun hc => at_ne e hc exo_own) z) (fun c hc => ?_) fun c xs hc => ?_
      · rw [upd_ne (at_ne e hc exo_own), upd_ne (ne_of_none hc dfr)]; exact hc
      · rw [upd_ne (at_ne e hc exo_tup), upd_ne (ne_of_none hc dfr)]; exact hc
/-- Exception.__init__(self, ..): nothing of it is told -/
theorem initE {us : List Value} {Q : Value → Shared → Prop} (T : ErrC X.K X.mg x bx f C B) (I : Inv X pins σ H s) (e : H a = some (exo a C none)) (hl : us.length ≤ sizeLine) (k : ∀ s', Inv X pins σ H s' → Q .none s') :
    wpAny (model X.prog X.w) A (call (.builtin "Exception.__init__") (.ref a :: us)) Q E s := by
  obtain ⟨nm, q, N, bs, sn, sub, ab, col, dd, k0, k1, k2, k3, k5, hC⟩ := T.cls
  obtain ⟨t1, ho⟩ := exo_at I.hok e
  obtain ⟨hp, g, d, t, os⟩ := s
  refine wpAny_call (PySem.HandSPX.init_base F.excBase_Exception (fun Y => has_tl1 Y) (I.kIn _ _ hC) ho hl fun h' t2 kp hx => ?_)
  have J := I.write (t' := t) (x := a) (e := a) (o := exo a C none) (by rw [e]; exact True.intro) (.inl rfl) kp ⟨_, hx⟩ (exo_ok hx)
  have eu : upd H a (exo a C none) = H := funext fun b => by
    by_cases hb : b = a
    · rw [hb, upd_same, e]
    · rw [upd_ne hb]
  rw [eu] at J
  exact k _ J
end

/-! ### readings and rules -/
/-- B.__init__(self, ..) -/
def tErI (C : Addr) (ta : TA) : TE := fun σ H Q => ta σ H fun vs H1 => ∃ (a : Addr) (ws : List V), vs = .ref a :: ws ∧ ws.length ≤ 1000 ∧ H1 a = some (exo a C none) ∧ Q .non H1
/-- self.f = e -/
def tErF (C : Addr) (f : Str) (to te : TE) : TS := fun D σ H => te σ H fun y H1 => to σ H1 fun x H2 => ∃ a : Addr, x = .ref a ∧ H2 a = some (exo a C none) ∧ ∀ dx, H2 dx = none → dx ≠ a → D.nx σ (upd (upd H2 dx (exd dx [(f, y)])) a (exo a C (some dx)))
/-- C(e) where C's __init__ keeps sp -/
def tErM (C : Addr) (sp : Sp) (ta : TA) : L2.St → Hp → XK → Prop := fun σ H Q => ta σ H fun vs H1 => vs.length ≤ 1000 ∧ ∀ a, H1 a = none → sp (.ref a :: vs) (upd H1 a (exo a C none))
  (fun v H2 => v = .non ∧ ∃ (d : Addr) (fs : List (Str × V)), H2 a = some (exo a C (some d)) ∧ H2 d = some (exd d fs) ∧ H1 d = none ∧ Q (.ref C) (some d) (upd (L2.del H2 a) d (.xd fs))) (fun _ _ _ => False)
section
variable {X : Cx} {C B : Addr} {x bx f : Str} {o e : Expr} {es : List Expr} {to te : TE} {ta : TA} {p p' p1 p2 pos : Pos}
theorem pe_erI {pl : Sem Bool} (T : ErrC X.K X.mg x bx f C B) (hg : Gl X bx) (ha : PA X (e :: es) ta) (hdb : (bx == ("__debug__" : Str)) = false := by decide)
    (hc : eval (.Call (.Attribute (.Name bx p1) "__init__" p2) (e :: es) [] pos) X.env = (do
      let ov ← eval (.Name bx p1) X.env
      standAt p2.atName
      let (f, first) ← holding [ov] (getMethod ov "__init__" pl)
      callWith pos f first (backTo pos (starEach (e :: es) X.env)) (backToKw pos (keywordEach [] X.env))) := by rfl)
    (he : starEach (e :: es) X.env = (false, eval e X.env) :: starEach es X.env := by rfl) (hpl : (backTo pos (starEach es X.env)).any (·.1) = false := by rfl) :
    PE X (.Call (.Attribute (.Name bx p1) "__init__" p2) (e :: es) [] pos) (tErI C ta) := by
  refine ⟨fun pins s σ H Q I h => ?_⟩
  refine PySem.W.methodCall_KW (ld_glob I hg T.gB ?_ hdb) hc
  obtain ⟨m, fr⟩ := I.fr
  refine PySem.W.method_of_cls fr I.ok.mod.kin T.spB (PySem.W.cls_val fr I.ok.mod.kin (mc := .type "type") T.tyB T.rdB T.fiB (by decide +kernel) ?_)
  show wpAny _ _ (callWith pos (Value.builtin "Exception.__init__") [] (backTo pos (starEach (e :: es) X.env)) []) _ _ _
  refine PyProof.Rows.callWith_method1 (thn (ha.run pos pins _ σ H _ (I.tok _) h) fun us s1 ⟨vs, H1, I1, r1, a, ws, ev, hl, ea, q⟩ => ?_) he hpl
  subst ev
  cases r1 with
  | @cons _ u0 _ ur ra rw' =>
    obtain rfl : u0 = Value.ref a := ra
    have hlen : ur.length ≤ sizeLine := by rw [← Paired.length rw', sizeLine_eq]; omega
    exact initE T I1 ea hlen fun s' J => ⟨.non, H1, J, rfl, q⟩
theorem ps_erF (T : ErrC X.K X.mg x bx f C B) (ho : PE X o to) (he : PE X e te) (hs : swapsWith e (some (.Attribute o f p')) pos.line X.env = pure false := by rfl) : PS X (.Assign [.Attribute o f p'] e pos) (tErF C f to te) := by
  refine ⟨fun pins s σ H D I h => ?_⟩
  refine plainObj_wpAny_Assign_Attribute (thn (he.run pins s σ H _ I h) fun v s1 ⟨y, H1, I1, r1, q1⟩ => thn (ho.run pins s1 σ H1 _ I1 q1) fun u s2 ⟨z, H2, I2, r2, a, ex, ea, q⟩ => ?_) hs
  subst ex
  obtain rfl : u = Value.ref a := r2
  exact ostE T I2 ea r1 fun dx s' n ne J => ⟨σ, _, J, q dx n ne⟩
theorem pmk_er {CX : CXT} {fI : Addr} {k : Nat} {fd : FuncData} {ps : List Str} {sp : Sp} (T : ErrC X.K X.mg x bx f C B) (iC : PySem.W.findIn X.K (.ref C) "__init__" = some (some (.ref fI))) (tI : PySem.W.typeIn X.K (.ref fI) = some (.type "function"))
    (F1 : FnOk X.prog X.w X.K X.mg X.base CX k fI fd ps sp) (hr : Room (k + 1) X.A) (hb : Binds X.K fd ps []) (hx : Passes CX X (fun _ _ _ => False)) (hg : Gl X x) (ha : PA X (e :: es) ta)
    (hdb : (x == ("__debug__" : Str)) = false := by decide) (he : starEach (e :: es) X.env = (false, eval e X.env) :: starEach es X.env := by rfl) (hpl : (backTo pos (starEach es X.env)).any (·.1) = false := by rfl) :
    PMk X (.Call (.Name x p) (e :: es) [] pos) (tErM C sp ta) := by
  intro pins s σ H Q I h
  obtain ⟨nm, q, N, bs, sn, sub, ab, col, dd, k0, k1, k2, k3, k5, hC⟩ := T.cls
  refine wpAny_Call_Name_kw (ld_glob I hg T.gC ?_ hdb)
  refine PySem.W.callWith_K (h₀ := X.base) I.ok.mod.kin T.kC (thn (ha.run pos pins s σ H _ I h) fun us s1 ⟨vs, H1, I1, r1, hz, q1⟩ => ⟨I1.kIn, ?_⟩) he hpl
  show wpAny _ _ (call (.ref C) us) _ _ _
  obtain ⟨hp, g, dr, tk, os⟩ := s1
  have hsz : hp.objs.size ≤ hp.objs.size + 1 := Nat.le_succ _
  have hn : H1 (hp.objs.size + 1) = none := I1.hok.fresh hsz
  have hq := q1 (hp.objs.size + 1) hn
  have kk : ∀ b o, hp.get? b = some o → ((hp.push (PySem.W.kdv_tup us)).push (PySem.HandSPX.excO C hp.objs.size)).get? b = some o := fun b o e => Heap.get?_push_of_some _ (Heap.get?_push_of_some _ e)
  have hget : ((hp.push (PySem.W.kdv_tup us)).push (PySem.HandSPX.excO C hp.objs.size)).get? (hp.objs.size + 1) = some (PySem.HandSPX.excO C hp.objs.size) := by heap_get
  have I2 : Inv X pins σ (upd H1 (hp.objs.size + 1) (exo (hp.objs.size + 1) C none)) ⟨(hp.push (PySem.W.kdv_tup us)).push (PySem.HandSPX.excO C hp.objs.size), g, dr, tk, os⟩ :=
    I1.laid (t' := tk) (a := hp.objs.size + 1) (o := exo (hp.objs.size + 1) C none) (h' := (hp.push (PySem.W.kdv_tup us)).push (PySem.HandSPX.excO C hp.objs.size)) kk hsz (exo_ok hget)
  have r2 : Vals (V.ref (hp.objs.size + 1) :: vs) (Value.ref (hp.objs.size + 1) :: us) := .cons rfl r1
  have hl : (Value.ref (hp.objs.size + 1) :: us ++ []).length = ps.length := by
    have e := r2.length
    rw [F1.len _ _ _ _ hq] at e
    rw [List.append_nil]
    exact e.symm
  have hus : us.length ≤ sizeLine := by rw [← Paired.length r1, sizeLine_eq]; omega
  refine wpAny_call (PySem.HandSPX.call_own F.excBase_Exception (fun Y => has_tl1 Y) (I1.kIn _ _ hC) (PySem.W.looks_findIn I1.kIn iC) (fun self => PySem.W.bind_fn I1.kIn self tI) hus
    (codeAny_mono (F1.run _ X.stack _ _ ⟨Value.ref (hp.objs.size + 1) :: us, []⟩ (Value.ref (hp.objs.size + 1) :: us) _ _ (fun _ _ _ => False) (hr.make C us []) (I2.env0.make C us []) (by simpa using hb _ (Value.ref (hp.objs.size + 1) :: us) I2.kIn hl) r2 hq) fun r s' hq' => ?_))
  cases r with
  | error er => exact hx pins σ _ _ er s' I2 hq'
  | ok fl =>
    cases fl with
    | ret u =>
      obtain ⟨v, H2, os2, bare2, un2, hok2, rv, ev, d, fs, ea, ed, hd1, q2⟩ := hq'
      subst ev
      obtain ⟨h2, g2, d2, t2, os'⟩ := s'
      exact ⟨rv, mk_end (raises_own T.exC T.tyC) I1 hsz kk un2 hok2 os2 bare2 ea ed hd1 q2⟩
    | next => exact False.elim hq'
    | brk => exact False.elim hq'
    | cont => exact False.elim hq'
end
/-- how far an error's own number goes -/
def atOk (i : Int) : Bool := decide (0 ≤ i ∧ i < 1000)
theorem at_len : ∀ i : Fin 1000, ((toString (i.val : Int) : Str)).length ≤ 20 := by decide +kernel
theorem atOk_len {i : Int} (h : atOk i = true) : ((toString i : Str)).length ≤ 20 := by
  simp only [atOk, decide_eq_true_eq] at h
  have := at_len ⟨i.toNat, by omega⟩
  rw [show i = ((i.toNat : Nat) : Int) by omega]
  exact this
theorem atOk_log {i : Int} (h : atOk i = true) : i.natAbs.log2 < 1920 := by
  simp only [atOk, decide_eq_true_eq] at h
  refine Nat.lt_of_le_of_lt (Nat.log2_le_self _) (by omega)
/-- C's __init__ -/
def spI (C : Addr) : Sp := fun vs H Q _ => ∃ (a : Addr) (i : Int), vs = [.ref a, .int i] ∧ atOk i = true ∧ H a = some (exo a C none) ∧ ∀ dx, H dx = none → dx ≠ a → Q .non (upd (upd H dx (exd dx [(("at" : Str), .int i)])) a (exo a C (some dx)))
/-- B.__init__(self, f'..{at}..'); self.at = at -/
def tErB (C : Addr) (x y : Str) : TS := tSeq (tDrop (tErI C (tCons (tVar 0) (tCons (fun σ H Q => tJs [tC (.str x), tFmt (tVar 1), tC (.str y)] Str.empty σ H fun out H1 => Q (.str out) H1) tNil)))) (tErF C "at" (tVar 0) (tVar 1))
theorem pure_init {C : Addr} {x y : Str} (hx : x.length ≤ 1000) (hy : y.length ≤ 1000) {vs : List V} {H : Hp} {Q : VK} {E : XK} (h : spI C vs H Q E) : tErB C x y { nx := fun _ H' => Q .non H', rt := Q } (L2.start ["self", "at"] vs) H := by
  obtain ⟨a, i, rfl, hi, ha, k⟩ := h
  have hl := atOk_len hi
  have app : ∀ u v : Str, (u ++ v).length = u.length + v.length := fun u v => by first | exact Str.length_append u v | simp [Str.length]
  refine ⟨_, rfl, x, rfl, ?_, _, rfl, .inr ⟨i, rfl, atOk_log hi, toString i, rfl, ?_, y, rfl, ?_, a, [_], rfl, by show 1 ≤ 1000; decide, ha, ?_⟩⟩
  · rw [app, sizeLine_eq]; show 0 + _ ≤ _; omega
  · rw [app, app, sizeLine_eq]; show 0 + _ + _ ≤ _; omega
  · rw [app, app, app, sizeLine_eq]; show 0 + _ + _ + _ ≤ _; omega
  · exact ⟨_, rfl, _, rfl, a, rfl, ha, k⟩
end Pv

set_option Elab.async false
set_option linter.all false
set_option maxRecDepth 100000
set_option maxHeartbeats 4000000
/-! The little language, its meaning over pure values, and what it reads as in the layer. -/
namespace Pv
open PySem L2

/-! ### what the operations give -/
def toPys (f : D → PyData) : List D → List PyData := List.map f
mutual
def toPy : D → PyData
  | .non => .none
  | .bl b => .bool b
  | .int i => .int i
  | .str x => .str x
  | .tup ds => .tuple (toPyL ds)
  | .lst ds => .list (toPyL ds)
  | .dK _ _ => .dict []
  | .dT _ _ => .dict []
  | .fn _ => .dict []
  | .scr _ => .dict []
def toPyL : List D → List PyData
  | [] => []
  | d :: ds => toPy d :: toPyL ds
end
def flatD : D → Bool
  | .non => true | .bl _ => true | .int _ => true | .str _ => true
  | _ => false
def scalD : D → D → Bool
  | .non, .non => true | .non, .int _ => true | .int _, .non => true | .non, .bl _ => true | .bl _, .non => true | .non, .str _ => true | .str _, .non => true
  | .int _, .int _ => true | .bl _, .bl _ => true | .str _, .str _ => true
  | .int _, .str _ => true | .str _, .int _ => true | .bl _, .str _ => true | .str _, .bl _ => true
  | _, _ => false
def eqS : D → D → Bool
  | .non, .non => true
  | .int i, .int j => decide (i = j)
  | .bl i, .bl j => decide (i = j)
  | .str i, .str j => decide (i = j)
  | _, _ => false
def cEq (a b : D) : Option Bool :=
  if scalD a b then some (eqS a b) else if SeqAt.shaped (toPy a) && SeqAt.shaped (toPy b) then some (PyData.eqv (toPy a) (toPy b)) else none
def cLt : D → D → Option Bool
  | .int i, .int j => some (decide (i < j))
  | .str x, .str y => some (decide (x.cps.toList < y.cps.toList))
  | _, _ => none
def cLe : D → D → Option Bool
  | .int i, .int j => some (decide (i ≤ j))
  | .str x, .str y => some (!decide (y.cps.toList < x.cps.toList))
  | _, _ => none
def inD1 (x : D) : D → Bool := fun y => match y, x with
  | .non, .non => true
  | .bl a, .bl b => a == b
  | .bl a, .int b => (if a then 1 else 0) == b
  | .int a, .bl b => a == (if b then 1 else 0)
  | .int a, .int b => a == b
  | .str a, .str b => a == b
  | _, _ => false
def inDs (x : D) (ys : List D) : Bool := ys.any (inD1 x)
def cIn (x : D) : D → Option Bool
  | .lst ys => if flatD x && ys.all flatD then some (inDs x ys) else none
  | .tup ys => if flatD x && ys.all flatD then some (inDs x ys) else none
  | .str y => match x with
    | .str z => some (!(Builtin.Str.occurrences y z 0 y.length 1).isEmpty)
    | _ => none
  | _ => none

inductive BOp | add | sub | mul | div | mod | pow
inductive COp | eq | ne | lt | le | gt | ge | inn | nin
inductive Bi | len | int | all | any | sum | max2 | min2 | str | tuple | list | sorted | minL | maxL
inductive Me | isascii | isalpha | islower | isdigit | startswith

instance (i j : Int) : Decidable (CMul i j) := inferInstanceAs (Decidable (_ ∨ _))
instance (i j : Int) : Decidable (CPow i j) := inferInstanceAs (Decidable (_ ∧ _))
instance (i j : Int) : Decidable (CDiv i j) := inferInstanceAs (Decidable (_ ∧ _))

def bRun : BOp → D → D → Option D
  | .add, .int i, .int j => some (.int (i + j))
  | .add, .str x, .str y => if x.length + y.length ≤ sizeLine then some (.str (x ++ y)) else none
  | .add, .tup x, .tup y => if x.length + y.length ≤ sizeLine then some (.tup (x ++ y)) else none
  | .add, .lst x, .lst y => if x.length + y.length ≤ sizeLine then some (.lst (x ++ y)) else none
  | .sub, .int i, .int j => some (.int (i - j))
  | .mul, .int i, .int j => if CMul i j then some (.int (i * j)) else none
  | .mul, .tup xs, .int k => if xs.isEmpty = false ∧ 2 ≤ k ∧ k ≤ 1000 ∧ xs.length ≤ 1000 then some (.tup (List.replicate k.toNat xs).flatten) else none
  | .div, .int i, .int j => if CDiv i j then some (.int (i / j)) else none
  | .mod, .int i, .int j => if 0 < j then some (.int (i % j)) else none
  | .pow, .int i, .int j => if CPow i j then some (.int (i ^ j.toNat)) else none
  | _, _, _ => none
def cRun : COp → D → D → Option Bool
  | .eq, a, b => cEq a b
  | .ne, a, b => (cEq a b).map (!·)
  | .lt, a, b => cLt a b
  | .le, a, b => cLe a b
  | .gt, a, b => cLt b a
  | .ge, a, b => cLe b a
  | .inn, a, b => cIn a b
  | .nin, a, b => (cIn a b).map (!·)
def blsOf : List D → Option (List Bool)
  | [] => some []
  | .bl b :: ds => (blsOf ds).map (b :: ·)
  | _ => none
def intsOf : List D → Option (List Int)
  | [] => some []
  | .int b :: ds => (intsOf ds).map (b :: ·)
  | _ => none
def intsK : List Key → Option (List Int)
  | [] => some []
  | .inl b :: ds => (intsK ds).map (b :: ·)
  | _ => none
def insI (x : Int) : List Int → List Int
  | [] => [x]
  | y :: ys => if x ≤ y then x :: y :: ys else y :: insI x ys
def sortI : List Int → List Int
  | [] => []
  | x :: xs => insI x (sortI xs)
def minI : List Int → Option Int
  | [] => none
  | x :: xs => match minI xs with
    | none => some x
    | some m => some (if m < x then m else x)
def maxI : List Int → Option Int
  | [] => none
  | x :: xs => match maxI xs with
    | none => some x
    | some m => some (if m > x then m else x)
def biRun : Bi → List D → Option D
  | .len, [.tup ds] => some (.int ds.length)
  | .len, [.lst ds] => some (.int ds.length)
  | .len, [.str x] => if x.length ≤ sizeLine then some (.int x.length) else none
  | .int, [.int i] => some (.int i)
  | .all, [.lst ds] => (blsOf ds).map fun bs => .bl (bs.all id)
  | .any, [.lst ds] => (blsOf ds).map fun bs => .bl (bs.any id)
  | .sum, [.lst ds] => (intsOf ds).map fun ns => .int ns.sum
  | .max2, [.int i, .int j] => some (.int (if j > i then j else i))
  | .min2, [.int i, .int j] => some (.int (if j < i then j else i))
  | .str, [.int i] => if i.natAbs.log2 < 1920 then some (.str (toString i)) else none
  | .tuple, [.lst ds] => some (.tup ds)
  | .tuple, [.tup ds] => some (.tup ds)
  | .list, [.lst ds] => some (.lst ds)
  | .list, [.tup ds] => some (.lst ds)
  | .minL, [.lst ds] => (intsOf ds).bind fun ns => (minI ns).map .int
  | .maxL, [.lst ds] => (intsOf ds).bind fun ns => (maxI ns).map .int
  | .sorted, [.lst ds] => (intsOf ds).map fun ns => .lst ((sortI ns).map .int)
  | .sorted, [.dK ks _] => (intsK ks).map fun ns => .lst ((sortI ns).map .int)
  | _, _ => none
def meRun0 : Me → D → Option D
  | .isascii, .str x => some (.bl (Txt.isascii x))
  | .isalpha, .str x => some (.bl (Txt.isalpha x))
  | .islower, .str x => some (.bl (Txt.islower x))
  | .isdigit, .str x => some (.bl (Txt.isdigit x))
  | _, _ => none
def meRun1 : Me → D → D → Option D
  | .startswith, .str x, .str y => some (.bl (Txt.startswith x y))
  | _, _, _ => none
def tyD : D → Option String
  | .non => some "NoneType" | .bl _ => some "bool" | .int _ => some "int" | .str _ => some "str" | .tup _ => some "tuple" | .lst _ => some "list" | .dK _ _ => some "dict"
  | _ => none
def isi1 (d : D) (t : String) : Option Bool := (tyD d).bind fun k => kitB k t
def isi2 (d : D) (t u : String) : Option Bool := match isi1 d t with
  | some true => some true
  | some false => isi1 d u
  | none => none
def ixRun : D → D → Option D
  | .lst ds, .int i => atI ds i
  | .tup ds, .int i => atI ds i
  | .str x, .int i => if x.length ≤ sizeLine then (atI x.cps.toList i).map fun c => .str ⟨#[c]⟩ else none
  | _, _ => none
def cutD (xs : List D) (lo hi : Option Int) : List D := (xs.drop (HT.sIx xs.length 0 lo)).take (HT.sIx xs.length xs.length hi - HT.sIx xs.length 0 lo)
def slRun : D → Option Int → Option Int → Option D
  | .lst ds, lo, hi => some (.lst (cutD ds lo hi))
  | .tup ds, lo, hi => some (.tup (cutD ds lo hi))
  | .str x, lo, hi => if x.length ≤ sizeLine then some (.str (cutS x lo hi)) else none
  | .scr ns, lo, hi => some (.lst (cutD (ns.map .int) lo hi))
  | _, _, _ => none

/-! ### the language -/
inductive Tg where
  | name (i : Nat) | tnil | tcons (a r : Tg) | tup (ts : Tg)
mutual
inductive E where
  | var (i : Nat) | cst (d : D) | fnv (f : Nat)
  | bin (o : BOp) (a b : E) | neg (a : E)
  | cmp (o : COp) (a b : E) | chain (o o' : COp) (a b c : E) | isN (a : E) | notN (a : E)
  | and (a b : E) | or (a b : E) | not (a : E) | ite (c : T) (a b : E)
  | call (f : Nat) (as : Es) | callv (i : Nat) (as : Es)
  | bi (b : Bi) (as : Es)
  | isi1 (a : E) (t : String) | isi2 (a : E) (t u : String)
  | mt0 (m : Me) (a : E) | mt1 (m : Me) (a b : E)
  | ix (a i : E) | sl (a : E) (lo hi : Eo)
  | tup (as : Es) | lst (as : Es)
  | comp (vs : List Nat) (tg : Tg) (it : It) (cond : To) (elt : E)
inductive T where
  | val (e : E) | and (a b : T) | or (a b : T) | not (a : T)
inductive To where
  | none | some (t : T)
inductive Es where
  | nil | cons (e : E) (es : Es)
inductive Eo where
  | none | some (e : E)
inductive It where
  | seq (e : E) | r1 (e : E) | r2 (a b : E) | zip (a b : E)
end
/-- what may raise: calls, one of two, or what raises nothing -/
inductive XE where
  | call (f : Nat) (as : Es) | ite (c : T) (a b : XE) | pure (e : E)
mutual
inductive S where
  | asg (tg : Tg) (e : E) | par (i j : Nat) (a b : E)
  | newD (i : Nat) | newL (i : Nat) (as : Es) | newC (i : Nat) (vs : List Nat) (tg : Tg) (it : It) (cond : To) (elt : E)
  | app (i : Nat) (e : E) | setL (i : Nat) (k e : E) | setD (i : Nat) (k e : E)
  | drop (e : E) | ret (e : E) | retN
  | newDK (i : Nat) (ps : Es) | rais (e : E) | dropX (x : XE) | retX (x : XE) | asgX (i : Nat) (x : XE) | tryR (x : XE) (i : Nat) (word : Str)
  | ifs (c : T) (a b : Ss) | forS (tg : Tg) (it : It) (body : Ss) | brk | cnt | pass | never
inductive Ss where
  | nil | cons (s : S) (ss : Ss)
end

/-! ### its meaning -/
def rdW : W → Store → Option D
  | .d x, _ => some x
  | .mu n, S => match S[n]? with
    | some (.lst ds) => some (.lst ds)
    | some (.dK ks ds) => some (.dK ks ds)
    | some (.dT ks ds) => some (.dT ks ds)
    | _ => none
def fzW : W → Store → Option (D × Store)
  | .d x, S => some (x, S)
  | .mu n, S => match S[n]? with
    | some (.lst ds) => some (.lst ds, S.set n .dead)
    | some (.dK ks ds) => some (.dK ks ds, S.set n .dead)
    | some (.dT ks ds) => some (.dT ks ds, S.set n .dead)
    | _ => none
mutual
def asgn : Tg → D → En → Option En
  | .name i, d, ρ => if i < ρ.length then some (ρ.set i (some (.d d))) else none
  | .tup ts, .tup ds, ρ => asgns ts ds ρ
  | .tup ts, .lst ds, ρ => asgns ts ds ρ
  | _, _, _ => none
def asgns : Tg → List D → En → Option En
  | .tnil, [], ρ => some ρ
  | .tcons a r, d :: ds, ρ => (asgn a d ρ).bind fun ρ' => asgns r ds ρ'
  | _, _, _ => none
end
mutual
/-- the slots that a target stores are among these -/
def tgIn : Tg → List Nat → Bool
  | .name i, vs => vs.contains i
  | .tup ts, vs => tgsIn ts vs
  | _, _ => false
def tgsIn : Tg → List Nat → Bool
  | .tnil, _ => true
  | .tcons a r, vs => tgIn a vs && tgsIn r vs
  | _, _ => false
end
def wipeE (ρ : En) : List Nat → En
  | [] => ρ
  | v :: vs => (wipeE ρ vs).set v none
def compL (f : D → Store → Option (Option D × Store)) : List D → Store → List D → Option (List D × Store)
  | [], S, acc => some (acc, S)
  | d :: ds, S, acc => (f d S).bind fun (r, S') => match r with
    | none => compL f ds S' acc
    | some x => if acc.length < sizeLine then compL f ds S' (acc ++ [x]) else none
def zipD : List D → List D → List D
  | a :: as, b :: bs => .tup [a, b] :: zipD as bs
  | _, _ => []
def seqOf : W → Option (List D)
  | .d (.lst ds) => some ds
  | .d (.tup ds) => some ds
  | _ => none
def rangeD (lo : Int) : Nat → List D
  | 0 => []
  | n + 1 => .int lo :: rangeD (lo + 1) n
def isNonW : W → Bool
  | .d .non => true
  | _ => false
/-- what the defs answer, and what they raise (the value told with it) -/
structure Call where
  c : Nat → List W → Store → Option (D × Store)
  x : Nat → List W → Store → Option (D × Store)
instance : CoeFun Call fun _ => Nat → List W → Store → Option (D × Store) := ⟨Call.c⟩
section
variable (c : Call)
mutual
def evE : E → En → Store → Option (W × Store)
  | .var i, ρ, S => match ρ[i]? with
    | some (some w) => some (w, S)
    | _ => none
  | .cst d, _, S => if flatD d then some (.d d, S) else none
  | .fnv f, _, S => some (.d (.fn f), S)
  | .bin o a b, ρ, S => (evE a ρ S).bind fun (x, S) => (evE b ρ S).bind fun (y, S) => (rdW x S).bind fun x => (rdW y S).bind fun y => (bRun o x y).map fun z => (.d z, S)
  | .neg a, ρ, S => (evE a ρ S).bind fun (x, S) => match x with
    | .d (.int i) => some (.d (.int (-i)), S)
    | _ => none
  | .cmp o a b, ρ, S => (evE a ρ S).bind fun (x, S) => (evE b ρ S).bind fun (y, S) => (rdW x S).bind fun x => (rdW y S).bind fun y => (cRun o x y).map fun z => (.d (.bl z), S)
  | .chain o o' a b k, ρ, S => (evE a ρ S).bind fun (x, S) => (evE b ρ S).bind fun (y, S) => (rdW x S).bind fun x => (rdW y S).bind fun y' => (cRun o x y').bind fun z =>
      if z then (evE k ρ S).bind fun (w, S) => (rdW y S).bind fun y => (rdW w S).bind fun w => (cRun o' y w).map fun z => (.d (.bl z), S) else some (.d (.bl false), S)
  | .isN a, ρ, S => (evE a ρ S).map fun (x, S) => (.d (.bl (isNonW x)), S)
  | .notN a, ρ, S => (evE a ρ S).map fun (x, S) => (.d (.bl (!isNonW x)), S)
  | .and a b, ρ, S => (evE a ρ S).bind fun (x, S) => match x with
    | .d (.bl true) => evE b ρ S
    | .d (.bl false) => some (.d (.bl false), S)
    | _ => none
  | .or a b, ρ, S => (evE a ρ S).bind fun (x, S) => match x with
    | .d (.bl false) => evE b ρ S
    | .d (.bl true) => some (.d (.bl true), S)
    | _ => none
  | .not a, ρ, S => (evE a ρ S).bind fun (x, S) => match x with
    | .d (.bl b) => some (.d (.bl (!b)), S)
    | _ => none
  | .ite k a b, ρ, S => (evT k ρ S).bind fun (x, S) => if x = true then evE a ρ S else evE b ρ S
  | .call f as, ρ, S => (evEs as ρ S).bind fun (ws, S) => (c f ws S).map fun (d, S) => (.d d, S)
  | .callv i as, ρ, S => match ρ[i]? with
    | some (some (.d (.fn f))) => (evEs as ρ S).bind fun (ws, S) => (c f ws S).map fun (d, S) => (.d d, S)
    | _ => none
  | .bi b as, ρ, S => (evEs as ρ S).bind fun (ws, S) => (ws.mapM fun w => rdW w S).bind fun ds => (biRun b ds).map fun d => (.d d, S)
  | .isi1 a t, ρ, S => (evE a ρ S).bind fun (x, S) => (rdW x S).bind fun x => (isi1 x t).map fun b => (.d (.bl b), S)
  | .isi2 a t u, ρ, S => (evE a ρ S).bind fun (x, S) => (rdW x S).bind fun x => (isi2 x t u).map fun b => (.d (.bl b), S)
  | .mt0 m a, ρ, S => (evE a ρ S).bind fun (x, S) => (rdW x S).bind fun x => (meRun0 m x).map fun d => (.d d, S)
  | .mt1 m a b, ρ, S => (evE a ρ S).bind fun (x, S) => (evE b ρ S).bind fun (y, S) => (rdW x S).bind fun x => (rdW y S).bind fun y => (meRun1 m x y).map fun d => (.d d, S)
  | .ix a i, ρ, S => (evE a ρ S).bind fun (x, S) => (evE i ρ S).bind fun (y, S) => (rdW x S).bind fun x => (rdW y S).bind fun y => (ixRun x y).map fun d => (.d d, S)
  | .sl a lo hi, ρ, S => (evE a ρ S).bind fun (x, S) => (evO lo ρ S).bind fun (l, S) => (evO hi ρ S).bind fun (h, S) => (rdW x S).bind fun x => (slRun x l h).map fun d => (.d d, S)
  | .tup as, ρ, S => (evZ as ρ S).bind fun (ds, S) => if ds.length ≤ sizeLine then some (.d (.tup ds), S) else none
  | .lst as, ρ, S => (evZ as ρ S).bind fun (ds, S) => if ds.length ≤ sizeLine then some (.d (.lst ds), S) else none
  | .comp vs tg it cond elt, ρ, S => if tgIn tg vs = true then (evI it ρ S).bind fun p => (compL (fun d S => (asgn tg d (wipeE ρ vs)).bind fun ρ' => (evTo cond ρ' S).bind fun q =>
      if q.1 = true then (evE elt ρ' q.2).bind fun w => (fzW w.1 w.2).map fun z => (some z.1, z.2) else some (none, q.2)) p.1 p.2 []).map fun r => (.d (.lst r.1), r.2) else none
def evTo : To → En → Store → Option (Bool × Store)
  | .none, _, S => some (true, S)
  | .some t, ρ, S => evT t ρ S
def evT : T → En → Store → Option (Bool × Store)
  | .val e, ρ, S => (evE e ρ S).bind fun (x, S) => match x with
    | .d (.bl b) => some (b, S)
    | _ => none
  | .and a b, ρ, S => (evT a ρ S).bind fun (x, S) => if x = true then evT b ρ S else some (false, S)
  | .or a b, ρ, S => (evT a ρ S).bind fun (x, S) => if x = true then some (true, S) else evT b ρ S
  | .not a, ρ, S => (evT a ρ S).map fun (x, S) => (!x, S)
/-- arguments of a call, as they are -/
def evEs : Es → En → Store → Option (List W × Store)
  | .nil, _, S => some ([], S)
  | .cons e es, ρ, S => (evE e ρ S).bind fun (w, S) => (evEs es ρ S).map fun (ws, S) => (w :: ws, S)
/-- items of a display: what they hold is known for good -/
def evZ : Es → En → Store → Option (List D × Store)
  | .nil, _, S => some ([], S)
  | .cons e es, ρ, S => (evE e ρ S).bind fun (w, S) => (fzW w S).bind fun (d, S) => (evZ es ρ S).map fun (ds, S) => (d :: ds, S)
def evO : Eo → En → Store → Option (Option Int × Store)
  | .none, _, S => some (none, S)
  | .some e, ρ, S => (evE e ρ S).bind fun (x, S) => match x with
    | .d (.int i) => some (some i, S)
    | _ => none
def evI : It → En → Store → Option (List D × Store)
  | .seq e, ρ, S => (evE e ρ S).bind fun (w, S) => match w with
    | .d (.lst ds) => some (ds, S)
    | .d (.tup ds) => some (ds, S)
    | .d (.str x) => some (x.cps.toList.map fun c => .str ⟨#[c]⟩, S)
    | _ => none
  | .r1 a, ρ, S => (evE a ρ S).bind fun (w, S) => match w with
    | .d (.int j) => if -(2 ^ 62) ≤ j ∧ j < 2 ^ 62 then some (rangeD 0 j.toNat, S) else none
    | _ => none
  | .r2 a b, ρ, S => (evE a ρ S).bind fun (w, S) => (evE b ρ S).bind fun (u, S) => match w, u with
    | .d (.int i), .d (.int j) => if -(2 ^ 62) ≤ i ∧ i < 2 ^ 62 ∧ -(2 ^ 62) ≤ j ∧ j < 2 ^ 62 then some (rangeD i (j - i).toNat, S) else none
    | _, _ => none
  | .zip a b, ρ, S => (evE a ρ S).bind fun (w, S) => (evE b ρ S).bind fun (u, S) => (seqOf w).bind fun xs => (seqOf u).map fun ys => (zipD xs ys, S)
end
inductive Out where
  | nx (ρ : En) (S : Store) | bk (ρ : En) (S : Store) | ct (ρ : En) (S : Store) | rt (d : D) (S : Store) | xc (d : D) (S : Store)
def evX : XE → En → Store → Option Out
  | .call f as, ρ, S => (evEs c as ρ S).bind fun (ws, S) => match c f ws S with
    | some (d, S) => some (.rt d S)
    | none => (c.x f ws S).map fun (d, S) => .xc d S
  | .ite k a b, ρ, S => (evT c k ρ S).bind fun (x, S) => if x = true then evX a ρ S else evX b ρ S
  | .pure e, ρ, S => (evE c e ρ S).bind fun (w, S) => (fzW w S).map fun (d, S) => .rt d S
def forL (f : D → En → Store → Option Out) : List D → En → Store → Option Out
  | [], ρ, S => some (.nx ρ S)
  | d :: ds, ρ, S => (f d ρ S).bind fun o => match o with
    | .nx ρ S => forL f ds ρ S
    | .ct ρ S => forL f ds ρ S
    | .bk ρ S => some (.nx ρ S)
    | .rt r S => some (.rt r S)
    | .xc r S => some (.xc r S)
def repl {κ : Type} [DecidableEq κ] (k : κ) (d : D) : List κ → List D → List D
  | q :: ks, x :: ds => (if q = k then d else x) :: repl k d ks ds
  | _, ds => ds
def putD {κ : Type} [DecidableEq κ] (k : κ) (d : D) (ks : List κ) (ds : List D) : List κ × List D :=
  if (ks.any fun q => decide (q = k)) = true then (ks, repl k d ks ds) else (ks ++ [k], ds ++ [d])
def lstAt (S : Store) (n : Nat) : Option (List D) := match S[n]? with
  | some (.lst ds) => some ds
  | _ => none
def keyOf : D → Option Key
  | .int i => some (.inl i)
  | .str x => some (.inr x)
  | _ => none
def evP : Es → En → Store → Option (List (Key × D) × Store)
  | .nil, _, S => some ([], S)
  | .cons k (.cons e r), ρ, S => (evE c k ρ S).bind fun (x, S) => match x with
    | .d kd => (keyOf kd).bind fun kk => (evE c e ρ S).bind fun (w, S) => (fzW w S).bind fun (d, S) => (evP r ρ S).map fun (ps, S) => ((kk, d) :: ps, S)
    | _ => none
  | _, _, _ => none
def putAll (ps : List (Key × D)) : List Key × List D := ps.foldl (fun a p => putD p.1 p.2 a.1 a.2) ([], [])
mutual
def evS : S → En → Store → Option Out
  | .asg tg e, ρ, S => (evE c e ρ S).bind fun (w, S) => match tg with
    | .name i => if i < ρ.length then some (.nx (ρ.set i (some w)) S) else none
    | tg => match w with
      | .d d => (asgn tg d ρ).map fun ρ' => .nx ρ' S
      | _ => none
  | .par i j a b, ρ, S => (evE c a ρ S).bind fun (x, S) => (evE c b ρ S).bind fun (y, S) => if i < ρ.length ∧ j < ρ.length then some (.nx ((ρ.set i (some x)).set j (some y)) S) else none
  | .newD i, ρ, S => if i < ρ.length then some (.nx (ρ.set i (some (.mu S.length))) (S ++ [.dK [] []])) else none
  | .newL i as, ρ, S => (evZ c as ρ S).bind fun (ds, S) => if i < ρ.length ∧ ds.length ≤ sizeLine then some (.nx (ρ.set i (some (.mu S.length))) (S ++ [.lst ds])) else none
  | .newC i vs tg it cond elt, ρ, S => (evE c (.comp vs tg it cond elt) ρ S).bind fun (w, S) => match w with
    | .d (.lst ds) => if i < ρ.length then some (.nx (ρ.set i (some (.mu S.length))) (S ++ [.lst ds])) else none
    | _ => none
  | .app i e, ρ, S => match ρ[i]? with
    | some (some (.mu n)) => (lstAt S n).bind fun _ => (evE c e ρ S).bind fun w => (fzW w.1 w.2).bind fun z => (lstAt z.2 n).bind fun ds =>
        if ds.length < sizeLine then some (.nx ρ (z.2.set n (.lst (ds ++ [z.1])))) else none
    | _ => none
  | .setL i k e, ρ, S => match ρ[i]? with
    | some (some (.mu n)) => (evE c e ρ S).bind fun w => (fzW w.1 w.2).bind fun z => (evE c k ρ z.2).bind fun q => match q.1 with
      | .d (.int i) => (lstAt q.2 n).bind fun ds => (ixN ds.length i).map fun j => .nx ρ (q.2.set n (.lst (ds.set j z.1)))
      | _ => none
    | _ => none
  | .setD i k e, ρ, S => match ρ[i]? with
    | some (some (.mu n)) => (evE c e ρ S).bind fun w => (fzW w.1 w.2).bind fun z => (evE c k ρ z.2).bind fun q => match q.1, q.2[n]? with
      | .d kd, some (.dK ks ds) => (keyOf kd).bind fun k => if ks.length < sizeLine then some (.nx ρ (q.2.set n (.dK (putD k z.1 ks ds).1 (putD k z.1 ks ds).2))) else none
      | _, _ => none
    | _ => none
  | .newDK i ps, ρ, S => (evP c ps ρ S).bind fun (kvs, S) => if i < ρ.length ∧ kvs.length ≤ 15 then some (.nx (ρ.set i (some (.mu S.length))) (S ++ [.dK (putAll kvs).1 (putAll kvs).2])) else none
  | .rais e, ρ, S => (evE c e ρ S).bind fun (w, S) => match w with
    | .d (.int i) => if atOk i = true then some (.xc (.int i) S) else none
    | _ => none
  | .dropX x, ρ, S => (evX c x ρ S).bind fun o => match o with
    | .rt _ S => some (.nx ρ S)
    | .xc d S => some (.xc d S)
    | _ => none
  | .retX x, ρ, S => evX c x ρ S
  | .asgX i x, ρ, S => (evX c x ρ S).bind fun o => match o with
    | .rt d S => if i < ρ.length then some (.nx (ρ.set i (some (.d d))) S) else none
    | .xc d S => some (.xc d S)
    | _ => none
  | .tryR x i word, ρ, S => if i < ρ.length then (evX c x ρ S).bind fun o => match o with
    | .rt d S => some (.rt d S)
    | .xc d S => some (.rt (.tup [.str word, d]) S)
    | _ => none else none
  | .drop e, ρ, S => (evE c e ρ S).map fun (_, S) => .nx ρ S
  | .ret e, ρ, S => (evE c e ρ S).bind fun (w, S) => (fzW w S).map fun (d, S) => .rt d S
  | .retN, _, S => some (.rt .non S)
  | .ifs k a b, ρ, S => (evT c k ρ S).bind fun (x, S) => if x = true then evSs a ρ S else evSs b ρ S
  | .forS tg it body, ρ, S => (evI c it ρ S).bind fun (ds, S) => forL (fun d ρ S => (asgn tg d ρ).bind fun ρ' => evSs body ρ' S) ds ρ S
  | .brk, ρ, S => some (.bk ρ S)
  | .cnt, ρ, S => some (.ct ρ S)
  | .pass, ρ, S => some (.nx ρ S)
  | .never, _, _ => none
def evSs : Ss → En → Store → Option Out
  | .nil, ρ, S => some (.nx ρ S)
  | .cons s ss, ρ, S => (evS s ρ S).bind fun o => match o with
    | .nx ρ S => evSs ss ρ S
    | o => some o
end
end
/-- a def: how many parameters, how many slots, its body -/
structure Fn where
  ar : Nat
  sl : Nat
  body : Ss
def startE (n : Nat) (ws : List W) : En := ws.map some ++ List.replicate (n - ws.length) none
def callF (P : Nat → Option Fn) : Nat → Call
  | 0 => ⟨fun _ _ _ => none, fun _ _ _ => none⟩
  | k + 1 => ⟨fun f ws S => (P f).bind fun q => if ws.length = q.ar ∧ q.ar ≤ q.sl then (evSs (callF P k) q.body (startE q.sl ws) S).bind fun o => match o with
      | .rt d S' => some (d, S'.take S.length)
      | .nx _ S' => some (.non, S'.take S.length)
      | _ => none
    else none,
    fun f ws S => (P f).bind fun q => if ws.length = q.ar ∧ q.ar ≤ q.sl then (evSs (callF P k) q.body (startE q.sl ws) S).bind fun o => match o with
      | .xc d S' => some (d, S'.take S.length)
      | _ => none
    else none⟩
end Pv

set_option Elab.async false
set_option linter.all false
set_option maxRecDepth 100000
set_option maxHeartbeats 4000000
/-! What the little language reads as in the layer, and that its meaning holds there. -/
namespace Pv
open PySem L2

/-! ### readings -/
def vOf : D → V
  | .bl b => .bl b
  | .int i => .int i
  | .str x => .str x
  | _ => .non
section
variable (K : PySem.W.Frag)
def rB : BOp → R2
  | .add => fun x y H Q => (rI0 fun i j => .int (i + j)) x y H Q ∨ (∃ i j, x = .str i ∧ y = .str j ∧ i.length + j.length ≤ sizeLine ∧ Q (.str (i ++ j)) H) ∨ rCatA K x y H Q ∨ rCat x y H Q
  | .sub => rI0 fun i j => .int (i - j)
  | .mul => fun x y H Q => (rI CMul fun i j => .int (i * j)) x y H Q ∨ rRepT K x y H Q
  | .div => rI CDiv fun i j => .int (i / j)
  | .mod => rI (fun _ j => 0 < j) fun i j => .int (i % j)
  | .pow => rI CPow fun i j => .int (i ^ j.toNat)
def rStr (p : Str → Str → Bool) : R2 := fun x y H Q => ∃ i j, x = .str i ∧ y = .str j ∧ Q (.bl (p i j)) H
def rC : COp → R2
  | .eq => fun x y H Q => rEq x y H Q ∨ rEqD K x y H Q
  | .ne => fun x y H Q => rNe x y H Q ∨ rNeD K x y H Q
  | .lt => fun x y H Q => (rI0 fun i j => .bl (decide (i < j))) x y H Q ∨ rStr (fun i j => decide (i.cps.toList < j.cps.toList)) x y H Q
  | .le => fun x y H Q => (rI0 fun i j => .bl (decide (i ≤ j))) x y H Q ∨ rStr (fun i j => !decide (j.cps.toList < i.cps.toList)) x y H Q
  | .gt => fun x y H Q => (rI0 fun i j => .bl (decide (j < i))) x y H Q ∨ rStr (fun i j => decide (j.cps.toList < i.cps.toList)) x y H Q
  | .ge => fun x y H Q => (rI0 fun i j => .bl (decide (j ≤ i))) x y H Q ∨ rStr (fun i j => !decide (i.cps.toList < j.cps.toList)) x y H Q
  | .inn => fun x y H Q => rIn K false x y H Q ∨ rStr (fun i j => !(Builtin.Str.occurrences j i 0 j.length 1).isEmpty) x y H Q
  | .nin => fun x y H Q => rIn K true x y H Q ∨ rStr (fun i j => !(!(Builtin.Str.occurrences j i 0 j.length 1).isEmpty)) x y H Q
def rBi : Bi → List V → Hp → VK → Prop
  | .len => fun xs H Q => (∃ p ys, xs = [.ref p] ∧ (SqL K H p ys ∨ SqT K H p ys) ∧ Q (.int ys.length) H) ∨ ∃ z, xs = [.str z] ∧ z.length ≤ sizeLine ∧ Q (.int z.length) H
  | .int => fun xs H Q => (∃ i, xs = [.int i] ∧ Q (.int i) H) ∨ ∃ k, xs = [.bl k] ∧ Q (.int (if k then 1 else 0)) H
  | .all => rAll K
  | .any => rAny K
  | .sum => rSum K
  | .max2 => fun xs H Q => ∃ i j, xs = [.int i, .int j] ∧ Q (.int (if j > i then j else i)) H
  | .min2 => fun xs H Q => ∃ i j, xs = [.int i, .int j] ∧ Q (.int (if j < i then j else i)) H
  | .str => fun xs H Q => ∃ i, xs = [.int i] ∧ i.natAbs.log2 < 1920 ∧ Q (.str (toString i)) H
  | .tuple => fun xs H Q => ∃ p ys, xs = [.ref p] ∧ ((SqL K H p ys ∧ ∀ l, H l = none → Q (.ref l) (upd H l (.tup ys))) ∨ (SqT K H p ys ∧ Q (.ref p) H))
  | .list => fun xs H Q => ∃ p ys, xs = [.ref p] ∧ (SqL K H p ys ∨ SqT K H p ys) ∧ ∀ l, H l = none → Q (.ref l) (upd H l (.lst ys))
  | .minL => rMin K
  | .maxL => rMax K
  | .sorted => fun xs H Q => rSortedI K xs H Q ∨ PvR.rSortedDI xs H Q
def rMe : Me → V → List V → Hp → VK → Prop
  | .isascii => fun x xs H Q => ∃ a, x = .str a ∧ xs = [] ∧ True ∧ Q (.bl (Txt.isascii a)) H
  | .isalpha => fun x xs H Q => ∃ a, x = .str a ∧ xs = [] ∧ True ∧ Q (.bl (Txt.isalpha a)) H
  | .islower => fun x xs H Q => ∃ a, x = .str a ∧ xs = [] ∧ True ∧ Q (.bl (Txt.islower a)) H
  | .isdigit => fun x xs H Q => ∃ a, x = .str a ∧ xs = [] ∧ True ∧ Q (.bl (Txt.isdigit a)) H
  | .startswith => fun x xs H Q => ∃ a b, x = .str a ∧ xs = [.str b] ∧ Q (.bl (Txt.startswith a b)) H
def rSl : V → Option Int → Option Int → Hp → VK → Prop := fun x lo hi H Q => rSlL K x lo hi H Q ∨ rSlA K x lo hi H Q ∨ rSlS x lo hi H Q
variable (fa : Nat → Addr) (sp : Nat → Sp) (tb : Nat → Prop)
def rIsN (b : Bool) : R2 := fun x y H Q => y = .non ∧ Q (.bl (if b then decide (x = .non) else !decide (x = .non))) H
def tgLen : Tg → Nat
  | .tcons _ r => tgLen r + 1
  | _ => 0
def tTg : Tg → TG
  | .name i => gName i
  | .tup ts => fun v σ H Q => ∃ a xs, v = .ref a ∧ (SqT K H a xs ∨ SqL K H a xs) ∧ xs.length = tgLen ts ∧ go ts xs σ H Q
  | .tnil => fun _ _ _ _ => False
  | .tcons _ _ => fun _ _ _ _ => False
where go : Tg → TGs
  | .tnil => gNil
  | .tcons a r => gCons (tTg a) (go r)
  | _ => fun _ _ _ _ => False
mutual
def tE : E → TE
  | .var i => tVar i
  | .cst d => tC (vOf d)
  | .fnv f => tC (.ref (fa f))
  | .bin o a b => tOp (rB K o) (tE a) (tE b)
  | .neg a => tUn (rU fun i => .int (-i)) (tE a)
  | .cmp o a b => tOp (rC K o) (tE a) (tE b)
  | .chain o o' a b c => tChain (rC K o) (rC K o') (tE a) (tE b) (tE c)
  | .isN a => tIsN (tE a)
  | .notN a => tNotN (tE a)
  | .and a b => tAndV (tE a) (tE b)
  | .or a b => tOrV (tE a) (tE b)
  | .not a => tNotV (tE a)
  | .ite c a b => tIf (tT c) (tE a) (tE b)
  | .call f as => tCall (sp f) [] E0 (tEs as)
  | .callv i as => fun σ H Q => ∃ f, tb f ∧ tCallL i (fa f) (sp f) [] E0 (tEs as) σ H Q
  | .bi b as => tCB (rBi K b) (tEs as)
  | .isi1 a t => tCB (rIsi K) (tCons (tE a) (tCons (tC (.ty t)) tNil))
  | .isi2 a t u => tCB (rIsiT K) (tCons (tE a) (tCons (tTup (tCons (tC (.ty t)) (tCons (tC (.ty u)) tNil))) tNil))
  | .mt0 m a => tM0 (rMe m) (tE a)
  | .mt1 m a b => tM1 (rMe m) (tE a) (tE b)
  | .ix a i => tOp (rIx K) (tE a) (tE i)
  | .sl a lo hi => tSl (rSl K) (tE a) (tO lo) (tO hi)
  | .tup as => tTup (tEs as)
  | .lst as => tLst (tEs as)
  | .comp vs tg it cond elt => tLc (tI it) (tTg K tg) (tTo cond) (tE elt) vs
def tT : T → TT
  | .val e => tB (tE e)
  | .and a b => tAnd (tT a) (tT b)
  | .or a b => tOr (tT a) (tT b)
  | .not a => tNot (tT a)
def tTo : To → TT
  | .none => tYes
  | .some t => tT t
def tEs : Es → TA
  | .nil => tNil
  | .cons e es => tCons (tE e) (tEs es)
def tO : Eo → TO
  | .none => tNoPart
  | .some e => tPart (tE e)
def tI : It → TI
  | .seq e => fun σ H R => iList K (tE e) σ H R ∨ iTup K (tE e) σ H R ∨ iStr (tE e) σ H R
  | .r1 a => iRng1 (tCons (tE a) tNil)
  | .r2 a b => iRng2 (tCons (tE a) (tCons (tE b) tNil))
  | .zip a b => PvR.iZipX K (tCons (tE a) (tCons (tE b) tNil))
end
/-- what may raise: W is what an error wishes -/
def tX (W : WX) : XE → TE
  | .call f as => tCallS (sp f) (WE W) (tEs K fa sp tb as)
  | .ite c a b => tIf (tT K fa sp tb c) (tX W a) (tX W b)
  | .pure e => tE K fa sp tb e
def tPs : Es → List (TE × TE)
  | .cons k (.cons e r) => (tE K fa sp tb k, tE K fa sp tb e) :: tPs r
  | _ => []
/-- raise C(e) -/
def tRais (C : Addr) (W : WX) (te : TE) : TS := fun _ σ H => tErM C (spI C) (tCons te tNil) σ H fun cls d H' => W cls d σ H'
/-- wrong.at, the error that the suite holds at a (its class cls, its dict d) in slot i -/
def tAt (C : Addr) (i : Nat) (a : Addr) (cls : Value) (d : Option Addr) : TE := fun σ H Q => tVar i σ H fun x H1 => x = .ref a ∧ cls = .ref C ∧ ∃ (dd : Addr) (v : V), d = some dd ∧ H1 dd = some (.xd [(("at" : Str), v)]) ∧ Q v H1
def tSuite (C : Addr) (i : Nat) (word : Str) : Addr → Value → Option Addr → TS := fun a cls d => tRet (tTup (tCons (tC (.str word)) (tCons (tAt C i a cls d) tNil)))
def wTry (C : Addr) (i : Nat) (word : Str) (D : Ends) : WX := wAs K (.ref C) i (tSuite C i word) (fun _ _ _ _ => False) D
variable (C : Addr) (W : WX)
mutual
def tS : S → TS
  | .asg tg e => tAsg (tE K fa sp tb e) (tTg K tg)
  | .par i j a b => tPar i j (tCons (tE K fa sp tb a) (tCons (tE K fa sp tb b) tNil))
  | .newD i => tAsg tDNewK (gName i)
  | .newL i as => tAsg (tLst (tEs K fa sp tb as)) (gName i)
  | .newC i vs tg it cond elt => tAsg (tE K fa sp tb (.comp vs tg it cond elt)) (gName i)
  | .app i e => tDrop (tBM K "list" rAppend (tVar i) (tCons (tE K fa sp tb e) tNil))
  | .setL i k e => tAsg (tE K fa sp tb e) (gSub (tVar i) (tE K fa sp tb k) rSetL)
  | .setD i k e => sDPut (tVar i) (tE K fa sp tb k) (tE K fa sp tb e)
  | .newDK i ps => tAsg (tDisp (tPs K fa sp tb ps)) (gName i)
  | .rais e => tRais C W (tE K fa sp tb e)
  | .dropX x => tDrop (tX K fa sp tb W x)
  | .retX x => tRet (tX K fa sp tb W x)
  | .asgX i x => tAsg (tX K fa sp tb W x) (gName i)
  | .tryR x i word => fun D σ H => tRet (tX K fa sp tb (wTry K C i word D) x) D σ H
  | .drop e => tDrop (tE K fa sp tb e)
  | .ret e => tRet (tE K fa sp tb e)
  | .retN => tRetN
  | .ifs c a b => tIfS (tT K fa sp tb c) (tSs a) (tSs b)
  | .forS tg it body => tFor (tI K fa sp tb it) (tTg K tg) (tSs body)
  | .brk => tBreak
  | .cnt => tCont
  | .pass => tNext
  | .never => tNever
def tSs : Ss → TS
  | .nil => tNext
  | .cons s ss => tSeq (tS s) (tSs ss)
end
end

/-! ### what stands shallowly in the heap -/
section
variable (K : PySem.W.Frag) (fa : Nat → Addr)
def Sh (G H : Hp) (v : V) : D → Prop
  | .tup ds => ∃ a vs, v = .ref a ∧ SqT K H a vs ∧ RepDs K fa G vs ds ∧ RepD K fa G v (.tup ds)
  | .lst ds => ∃ a vs, v = .ref a ∧ H a = some (.lst vs) ∧ RepDs K fa G vs ds
  | .dK ks ds => ∃ a kvs, v = .ref a ∧ Rd H a (.dK kvs) ∧ kvs.map (·.1) = ks ∧ RepDs K fa G (kvs.map (·.2)) ds
  | .dT ks ds => ∃ a kvs, v = .ref a ∧ Rd H a (.dT kvs) ∧ kvs.map (·.1) = ks ∧ RepDs K fa G (kvs.map (·.2)) ds
  | .scr ns => ∃ a, v = .ref a ∧ SqL K H a (ns.map V.int)
  | .non => v = .non
  | .bl b => v = .bl b
  | .int i => v = .int i
  | .str x => v = .str x
  | .fn n => v = .ref (fa n)
end
section
variable {K : PySem.W.Frag} {fa : Nat → Addr} {g g' : Gh} {H H' : Hp} {S : Store} {σ : L2.St} {ρ : En}
theorem Rel.sh (r : Rel K fa g H S) {v : V} : ∀ {d : D}, RepD K fa g.G v d → Sh K fa g.G H v d
  | .non, h | .bl _, h | .int _, h | .str _, h | .fn _, h => by simpa only [RepD, Sh] using h
  | .tup ds, h => by
    have h0 := h
    simp only [RepD] at h
    obtain ⟨a, vs, e, q, h2⟩ := h
    exact ⟨a, vs, e, r.sqT q, h2, h0⟩
  | .lst ds, h => by
    simp only [RepD] at h
    obtain ⟨a, vs, e, q, h2⟩ := h
    exact ⟨a, vs, e, r.lst q, h2⟩
  | .dK ks ds, h => by
    simp only [RepD] at h
    obtain ⟨a, vs, e, q, e2, h2⟩ := h
    exact ⟨a, vs, e, r.rd q, e2, h2⟩
  | .dT ks ds, h => by
    simp only [RepD] at h
    obtain ⟨a, vs, e, q, e2, h2⟩ := h
    exact ⟨a, vs, e, r.rd q, e2, h2⟩
  | .scr ns, h => by
    simp only [RepD] at h
    obtain ⟨a, e, q⟩ := h
    exact ⟨a, e, r.scr q⟩
theorem Rel.shW (r : Rel K fa g H S) {v : V} {w : W} {d : D} (h : RepW K fa g v w) (e : rdW w S = some d) : Sh K fa g.G H v d := by
  cases w with
  | d x =>
    have e' : x = d := Option.some.inj e
    subst e'
    exact r.sh h
  | mu n =>
    obtain ⟨rfl, hn⟩ := h
    simp only [rdW] at e
    split at e
    · rename_i ds hs
      cases e
      obtain ⟨u, h1, ⟨vs, rfl, h2⟩, h3⟩ := r.live n _ hs (fun z => nomatch z)
      exact ⟨_, vs, rfl, h1, h2⟩
    · rename_i ks ds hs
      cases e
      obtain ⟨u, h1, ⟨vs, rfl, e2, h2⟩, h3⟩ := r.live n _ hs (fun z => nomatch z)
      exact ⟨_, vs, rfl, .inl h1, e2, h2⟩
    · rename_i ks ds hs
      cases e
      obtain ⟨u, h1, ⟨vs, rfl, e2, h2⟩, h3⟩ := r.live n _ hs (fun z => nomatch z)
      exact ⟨_, vs, rfl, .inl h1, e2, h2⟩
    · cases e
/-- it becomes known for good -/
theorem Rel.fz (r : Rel K fa g H S) {v : V} {w : W} {d : D} {S' : Store} (h : RepW K fa g v w) (e : fzW w S = some (d, S')) : ∃ g', g.le g' ∧ Rel K fa g' H S' ∧ RepD K fa g'.G v d := by
  cases w with
  | d x =>
    have e' := Option.some.inj e
    cases e'
    exact ⟨g, .refl g, r, h⟩
  | mu n =>
    obtain ⟨rfl, hn⟩ := h
    simp only [fzW] at e
    split at e
    · rename_i ds hs
      cases e
      obtain ⟨u, h1, ⟨vs, rfl, h2⟩, h3⟩ := r.freeze hs (fun z => nomatch z)
      have l := Gh.le_add (g := g) (p := g.φ n) (o := HO.lst vs) h1
      refine ⟨_, l, h3, ?_⟩
      simp only [RepD]
      exact ⟨_, vs, rfl, upd_same, RepDs.mono l.G h2⟩
    · rename_i ks ds hs
      cases e
      obtain ⟨u, h1, ⟨vs, rfl, e2, h2⟩, h3⟩ := r.freeze hs (fun z => nomatch z)
      have l := Gh.le_add (g := g) (p := g.φ n) (o := HO.dK vs) h1
      refine ⟨_, l, h3, ?_⟩
      simp only [RepD]
      exact ⟨_, vs, rfl, upd_same, e2, RepDs.mono l.G h2⟩
    · rename_i ks ds hs
      cases e
      obtain ⟨u, h1, ⟨vs, rfl, e2, h2⟩, h3⟩ := r.freeze hs (fun z => nomatch z)
      have l := Gh.le_add (g := g) (p := g.φ n) (o := HO.dT vs) h1
      refine ⟨_, l, h3, ?_⟩
      simp only [RepD]
      exact ⟨_, vs, rfl, upd_same, e2, RepDs.mono l.G h2⟩
    · cases e

/-! ### operations -/
/-- wanted of a pure result -/
abbrev PD (K : PySem.W.Frag) (fa : Nat → Addr) (g : Gh) (S : Store) (Q : VK) (d : D) : Prop := ∀ g' H' v, g.le g' → Rel K fa g' H' S → RepD K fa g'.G v d → Q v H'
theorem PD.at (r : Rel K fa g H S) {Q : VK} {d : D} {v : V} (h : PD K fa g S Q d) (q : RepD K fa g.G v d) : Q v H := h g H v (.refl g) r q
theorem PD.int (r : Rel K fa g H S) {Q : VK} {i : Int} (h : PD K fa g S Q (.int i)) : Q (.int i) H := h.at r (by simp only [RepD])
theorem PD.bl (r : Rel K fa g H S) {Q : VK} {i : Bool} (h : PD K fa g S Q (.bl i)) : Q (.bl i) H := h.at r (by simp only [RepD])
theorem PD.str (r : Rel K fa g H S) {Q : VK} {i : Str} (h : PD K fa g S Q (.str i)) : Q (.str i) H := h.at r (by simp only [RepD])
/-- a new object -/
theorem PD.tup (r : Rel K fa g H S) {Q : VK} {ds : List D} {vs : List V} (h : PD K fa g S Q (.tup ds)) (q : RepDs K fa g.G vs ds) (p : Addr) (hp : H p = none) : Q (.ref p) (upd H p (.tup vs)) := by
  have l := Gh.le_add (g := g) (p := p) (o := HO.tup vs) (r.fresh hp)
  refine h _ _ _ l (r.add hp) ?_
  simp only [RepD]
  exact ⟨p, vs, rfl, .inl upd_same, RepDs.mono l.G q⟩
theorem PD.lst (r : Rel K fa g H S) {Q : VK} {ds : List D} {vs : List V} (h : PD K fa g S Q (.lst ds)) (q : RepDs K fa g.G vs ds) (p : Addr) (hp : H p = none) : Q (.ref p) (upd H p (.lst vs)) := by
  have l := Gh.le_add (g := g) (p := p) (o := HO.lst vs) (r.fresh hp)
  refine h _ _ _ l (r.add hp) ?_
  simp only [RepD]
  exact ⟨p, vs, rfl, upd_same, RepDs.mono l.G q⟩

theorem rep_ok {G : Hp} {vs : List V} {ds : List D} (h : RepDs K fa G vs ds) : ∀ n : Nat, RepDs K fa G (List.replicate n vs).flatten (List.replicate n ds).flatten
  | 0 => by simpa using RepDs.nil
  | n + 1 => by
    rw [List.replicate_succ, List.replicate_succ, List.flatten_cons, List.flatten_cons]
    exact h.append (rep_ok h n)
theorem bRun_ok (r : Rel K fa g H S) {o : BOp} {x y : V} {a b z : D} {Q : VK} (hx : Sh K fa g.G H x a) (hy : Sh K fa g.G H y b) (e : bRun o a b = some z) (h : PD K fa g S Q z) : rB K o x y H Q := by
  unfold bRun at e
  split at e
  · cases e
    exact .inl ⟨_, _, hx, hy, h.int r⟩
  · split at e
    · cases e
      exact .inr (.inl ⟨_, _, hx, hy, ‹_›, h.str r⟩)
    · cases e
  · split at e
    · rename_i xs ys hl
      cases e
      obtain ⟨p, vs, rfl, h1, h2, h3⟩ := hx
      obtain ⟨q, us, rfl, k1, k2, k3⟩ := hy
      refine .inr (.inr (.inl ⟨p, q, vs, us, rfl, rfl, h1, k1, by rw [h2.length, k2.length]; exact hl, fun e => ?_, fun _ e => ?_, fun _ _ => h.tup r (h2.append k2)⟩))
      · subst e
        have : xs = [] := List.eq_nil_of_length_eq_zero (by rw [← h2.length]; rfl)
        subst this
        exact h.at r k3
      · subst e
        have : ys = [] := List.eq_nil_of_length_eq_zero (by rw [← k2.length]; rfl)
        subst this
        rw [List.append_nil] at h
        exact h.at r h3
    · cases e
  · split at e
    · cases e
      obtain ⟨p, vs, rfl, h1, h2⟩ := hx
      obtain ⟨q, us, rfl, k1, k2⟩ := hy
      exact .inr (.inr (.inr ⟨p, q, vs, us, rfl, rfl, h1, k1, by rw [h2.length, k2.length]; assumption, h.lst r (h2.append k2)⟩))
    · cases e
  · cases e
    exact ⟨_, _, hx, hy, h.int r⟩
  · split at e
    · cases e
      exact .inl ⟨_, _, hx, hy, ‹_›, h.int r⟩
    · cases e
  · split at e
    · rename_i xs k hz
      cases e
      obtain ⟨p, vs, rfl, h1, h2, h3⟩ := hx
      have hl := h2.length
      refine .inr ⟨p, k, vs, rfl, hy, h1, ?_, hz.2.1, hz.2.2.1, by rw [hl]; exact hz.2.2.2, fun q hq => h.tup r (rep_ok h2 k.toNat) q hq⟩
      rintro rfl
      cases xs with
      | nil => simp at hz
      | cons _ _ => simp at hl
    · cases e
  · split at e
    · cases e
      exact ⟨_, _, hx, hy, ‹_›, h.int r⟩
    · cases e
  · split at e
    · cases e
      exact ⟨_, _, hx, hy, ‹_›, h.int r⟩
    · cases e
  · split at e
    · cases e
      exact ⟨_, _, hx, hy, ‹_›, h.int r⟩
    · cases e
  · cases e
end
end Pv

set_option Elab.async false
set_option linter.all false
set_option maxRecDepth 100000
set_option maxHeartbeats 4000000
/-! The operations' meaning holds in the layer. -/
namespace Pv
open PySem L2

section
variable {K : PySem.W.Frag} {fa : Nat → Addr} {g g' : Gh} {H H' : Hp} {S : Store} {σ : L2.St} {ρ : En}
mutual
theorem dpD (r : Rel K fa g H S) : ∀ {d : D} {v : V}, (toPy d).canLay0 = true → RepD K fa g.G v d → Dp K H v (toPy d)
  | .non, _, _, h => by simp only [RepD] at h; subst h; exact .non
  | .bl b, _, _, h => by simp only [RepD] at h; subst h; exact .bl b
  | .int b, _, _, h => by simp only [RepD] at h; subst h; exact .int b
  | .str b, _, _, h => by simp only [RepD] at h; subst h; exact .str b
  | .tup ds, _, c, h => by
    simp only [RepD] at h
    obtain ⟨a, vs, rfl, q, h2⟩ := h
    simp only [toPy, PyData.canLay0] at c ⊢
    exact .tup (r.sqT q) (dpDs r c h2)
  | .lst ds, _, c, h => by
    simp only [RepD] at h
    obtain ⟨a, vs, rfl, q, h2⟩ := h
    simp only [toPy, PyData.canLay0] at c ⊢
    exact .lst (.of (r.lst q)) (dpDs r c h2)
  | .dK _ _, _, c, _ | .dT _ _, _, c, _ | .fn _, _, c, _ | .scr _, _, c, _ => by simp [toPy, PyData.canLay0] at c
theorem dpDs (r : Rel K fa g H S) : ∀ {ds : List D} {vs : List V}, PyData.canLayAll0 (toPyL ds) = true → RepDs K fa g.G vs ds → DpAll K H vs (toPyL ds)
  | [], _, _, h => by simp only [RepDs] at h; subst h; exact .nil
  | d :: ds, _, c, h => by
    simp only [RepDs] at h
    obtain ⟨v, t, rfl, h1, h2⟩ := h
    simp only [toPyL, PyData.canLayAll0, Bool.and_eq_true] at c ⊢
    exact .cons (dpD r c.1 h1) (dpDs r c.2 h2)
end
theorem shDp (r : Rel K fa g H S) {v : V} : ∀ {d : D}, (toPy d).canLay0 = true → Sh K fa g.G H v d → Dp K H v (toPy d)
  | .non, _, h => by obtain rfl : v = _ := h; exact .non
  | .bl b, _, h => by obtain rfl : v = _ := h; exact .bl b
  | .int b, _, h => by obtain rfl : v = _ := h; exact .int b
  | .str b, _, h => by obtain rfl : v = _ := h; exact .str b
  | .tup ds, c, h => by
    obtain ⟨a, vs, rfl, q, h2, _⟩ := h
    simp only [toPy, PyData.canLay0] at c ⊢
    exact .tup q (dpDs r c h2)
  | .lst ds, c, h => by
    obtain ⟨a, vs, rfl, q, h2⟩ := h
    simp only [toPy, PyData.canLay0] at c ⊢
    exact .lst (.of q) (dpDs r c h2)
  | .dK _ _, c, _ | .dT _ _, c, _ | .fn _, c, _ | .scr _, c, _ => by simp [toPy, PyData.canLay0] at c
theorem canLay_of {p : PyData} (h : SeqAt.shaped p = true) : p.canLay0 = true := SeqAt.canLay_of_shaped h

theorem scal_ok {x y : V} : ∀ {a b : D}, Sh K fa g.G H x a → Sh K fa g.G H y b → scalD a b = true → scal x y = true ∧ decide (x = y) = eqS a b := by
  intro a b hx hy h
  unfold scalD at h
  split at h <;> first
    | (cases h; done)
    | (simp only [Sh] at hx hy; subst hx; subst hy; exact ⟨rfl, by simp [eqS]⟩)
theorem cEq_ok (r : Rel K fa g H S) {x y : V} {a b : D} {z : Bool} {Q : VK} (hx : Sh K fa g.G H x a) (hy : Sh K fa g.G H y b) (e : cEq a b = some z) (h : Q (.bl z) H) : rC K .eq x y H Q := by
  unfold cEq at e
  split at e
  · rename_i hs
    cases e
    obtain ⟨h1, h2⟩ := scal_ok hx hy hs
    exact .inl ⟨h1, by rw [h2]; exact h⟩
  · split at e
    · rename_i hs
      cases e
      rw [Bool.and_eq_true] at hs
      exact .inr ⟨_, _, shDp r (canLay_of hs.1) hx, shDp r (canLay_of hs.2) hy, hs.1, hs.2, h⟩
    · cases e
theorem cNe_ok (r : Rel K fa g H S) {x y : V} {a b : D} {z : Bool} {Q : VK} (hx : Sh K fa g.G H x a) (hy : Sh K fa g.G H y b) (e : cEq a b = some z) (h : Q (.bl (!z)) H) : rC K .ne x y H Q := by
  unfold cEq at e
  split at e
  · rename_i hs
    cases e
    obtain ⟨h1, h2⟩ := scal_ok hx hy hs
    exact .inl ⟨h1, by rw [h2]; exact h⟩
  · split at e
    · rename_i hs
      cases e
      rw [Bool.and_eq_true] at hs
      exact .inr ⟨_, _, shDp r (canLay_of hs.1) hx, shDp r (canLay_of hs.2) hy, hs.1, hs.2, h⟩
    · cases e
theorem flat_v {G : Hp} {v : V} : ∀ {d : D}, flatD d = true → RepD K fa G v d → v = vOf d ∧ flatV v = true
  | .non, _, h | .bl _, _, h | .int _, _, h | .str _, _, h => by simp only [RepD] at h; subst h; exact ⟨rfl, rfl⟩
  | .tup _, c, _ | .lst _, c, _ | .dK _ _, c, _ | .dT _ _, c, _ | .fn _, c, _ | .scr _, c, _ => by simp [flatD] at c
theorem flat_sh {G : Hp} {v : V} : ∀ {d : D}, flatD d = true → Sh K fa G H v d → v = vOf d ∧ flatV v = true
  | .non, _, h | .bl _, _, h | .int _, _, h | .str _, _, h => by obtain rfl : v = _ := h; exact ⟨rfl, rfl⟩
  | .tup _, c, _ | .lst _, c, _ | .dK _ _, c, _ | .dT _ _, c, _ | .fn _, c, _ | .scr _, c, _ => by simp [flatD] at c
theorem flat_vs {G : Hp} : ∀ {ds : List D} {vs : List V}, ds.all flatD = true → RepDs K fa G vs ds → vs = ds.map vOf ∧ vs.all flatV = true
  | [], _, _, h => by simp only [RepDs] at h; subst h; exact ⟨rfl, rfl⟩
  | d :: ds, _, c, h => by
    simp only [RepDs] at h
    obtain ⟨v, t, rfl, h1, h2⟩ := h
    rw [List.all_cons, Bool.and_eq_true] at c
    obtain ⟨e1, f1⟩ := flat_v c.1 h1
    obtain ⟨e2, f2⟩ := flat_vs c.2 h2
    exact ⟨by rw [List.map_cons, ← e1, ← e2], by rw [List.all_cons, f1, f2]; rfl⟩
theorem inD1_ok : ∀ {x y : D}, flatD x = true → flatD y = true → eqV (vOf y) (vOf x) = inD1 x y := by
  intro x y hx hy
  cases x <;> cases y <;> first
    | (simp [flatD] at hx; done)
    | (simp [flatD] at hy; done)
    | rfl
theorem inDs_ok {x : D} (hx : flatD x = true) : ∀ {ys : List D}, ys.all flatD = true → inV (vOf x) (ys.map vOf) = inDs x ys
  | [], _ => rfl
  | y :: ys, c => by
    rw [List.all_cons, Bool.and_eq_true] at c
    have ih := inDs_ok hx c.2
    unfold inV inDs at ih ⊢
    rw [List.map_cons, List.any_cons, List.any_cons, ih, inD1_ok hx c.1]
theorem cIn_ok (r : Rel K fa g H S) {x y : V} {a b : D} {z : Bool} (hx : Sh K fa g.G H x a) (hy : Sh K fa g.G H y b) (e : cIn a b = some z) :
    (∃ p xs, y = .ref p ∧ (SqL K H p xs ∨ SqT K H p xs) ∧ flatV x = true ∧ xs.all flatV = true ∧ inV x xs = z) ∨ ∃ i j, x = .str i ∧ y = .str j ∧ (!(Builtin.Str.occurrences j i 0 j.length 1).isEmpty) = z := by
  unfold cIn at e
  split at e
  · split at e
    · rename_i hs
      cases e
      rw [Bool.and_eq_true] at hs
      obtain ⟨p, vs, rfl, h1, h2⟩ := hy
      obtain ⟨rfl, f1⟩ := flat_sh hs.1 hx
      obtain ⟨rfl, f2⟩ := flat_vs hs.2 h2
      exact .inl ⟨p, _, rfl, .inl (.of h1), f1, f2, inDs_ok hs.1 hs.2⟩
    · cases e
  · split at e
    · rename_i hs
      cases e
      rw [Bool.and_eq_true] at hs
      obtain ⟨p, vs, rfl, h1, h2, _⟩ := hy
      obtain ⟨rfl, f1⟩ := flat_sh hs.1 hx
      obtain ⟨rfl, f2⟩ := flat_vs hs.2 h2
      exact .inl ⟨p, _, rfl, .inr h1, f1, f2, inDs_ok hs.1 hs.2⟩
    · cases e
  · split at e
    · cases e
      exact .inr ⟨_, _, hx, hy, rfl⟩
    · cases e
  · cases e
theorem cLt_ok {x y : V} {a b : D} {z : Bool} (hx : Sh K fa g.G H x a) (hy : Sh K fa g.G H y b) (e : cLt a b = some z) :
    (∃ i j, x = .int i ∧ y = .int j ∧ decide (i < j) = z) ∨ ∃ i j, x = .str i ∧ y = .str j ∧ decide (i.cps.toList < j.cps.toList) = z := by
  unfold cLt at e
  split at e
  · cases e; exact .inl ⟨_, _, hx, hy, rfl⟩
  · cases e; exact .inr ⟨_, _, hx, hy, rfl⟩
  · cases e
theorem cLe_ok {x y : V} {a b : D} {z : Bool} (hx : Sh K fa g.G H x a) (hy : Sh K fa g.G H y b) (e : cLe a b = some z) :
    (∃ i j, x = .int i ∧ y = .int j ∧ decide (i ≤ j) = z) ∨ ∃ i j, x = .str i ∧ y = .str j ∧ (!decide (j.cps.toList < i.cps.toList)) = z := by
  unfold cLe at e
  split at e
  · cases e; exact .inl ⟨_, _, hx, hy, rfl⟩
  · cases e; exact .inr ⟨_, _, hx, hy, rfl⟩
  · cases e
theorem cRun_ok (r : Rel K fa g H S) {o : COp} {x y : V} {a b : D} {z : Bool} {Q : VK} (hx : Sh K fa g.G H x a) (hy : Sh K fa g.G H y b) (e : cRun o a b = some z) (h : Q (.bl z) H) : rC K o x y H Q := by
  cases o with
  | eq => exact cEq_ok r hx hy e h
  | ne =>
    obtain ⟨z', e', rfl⟩ := Option.map_eq_some_iff.mp e
    exact cNe_ok r hx hy e' h
  | lt =>
    rcases cLt_ok hx hy e with ⟨i, j, rfl, rfl, rfl⟩ | ⟨i, j, rfl, rfl, rfl⟩
    · exact .inl ⟨i, j, rfl, rfl, h⟩
    · exact .inr ⟨i, j, rfl, rfl, h⟩
  | le =>
    rcases cLe_ok hx hy e with ⟨i, j, rfl, rfl, rfl⟩ | ⟨i, j, rfl, rfl, rfl⟩
    · exact .inl ⟨i, j, rfl, rfl, h⟩
    · exact .inr ⟨i, j, rfl, rfl, h⟩
  | gt =>
    rcases cLt_ok hy hx e with ⟨i, j, rfl, rfl, rfl⟩ | ⟨i, j, rfl, rfl, rfl⟩
    · exact .inl ⟨_, _, rfl, rfl, h⟩
    · exact .inr ⟨_, _, rfl, rfl, h⟩
  | ge =>
    rcases cLe_ok hy hx e with ⟨i, j, rfl, rfl, rfl⟩ | ⟨i, j, rfl, rfl, rfl⟩
    · exact .inl ⟨_, _, rfl, rfl, h⟩
    · exact .inr ⟨_, _, rfl, rfl, h⟩
  | inn =>
    rcases cIn_ok r hx hy e with ⟨p, xs, h1, h2, h3, h4, rfl⟩ | ⟨i, j, rfl, rfl, rfl⟩
    · exact .inl ⟨p, xs, h1, h2, h3, h4, h⟩
    · exact .inr ⟨i, j, rfl, rfl, h⟩
  | nin =>
    obtain ⟨z', e', rfl⟩ := Option.map_eq_some_iff.mp e
    rcases cIn_ok r hx hy e' with ⟨p, xs, h1, h2, h3, h4, rfl⟩ | ⟨i, j, rfl, rfl, rfl⟩
    · exact .inl ⟨p, xs, h1, h2, h3, h4, h⟩
    · exact .inr ⟨i, j, rfl, rfl, h⟩

/-! ### built-ins -/
theorem blsOf_ok : ∀ {ds : List D} {bs : List Bool}, blsOf ds = some bs → ds = bs.map D.bl
  | [], bs, h => by cases h; rfl
  | d :: ds, bs, h => by
    unfold blsOf at h
    split at h
    · cases h
      rename_i e; cases e
    · obtain ⟨bs', e', rfl⟩ := Option.map_eq_some_iff.mp h
      rename_i e; cases e
      rw [blsOf_ok e']; rfl
    · cases h
theorem intsOf_ok : ∀ {ds : List D} {bs : List Int}, intsOf ds = some bs → ds = bs.map D.int
  | [], bs, h => by cases h; rfl
  | d :: ds, bs, h => by
    unfold intsOf at h
    split at h
    · cases h
      rename_i e; cases e
    · obtain ⟨bs', e', rfl⟩ := Option.map_eq_some_iff.mp h
      rename_i e; cases e
      rw [intsOf_ok e']; rfl
    · cases h
theorem intsK_ok : ∀ {ks : List Key} {bs : List Int}, intsK ks = some bs → ks = bs.map Sum.inl
  | [], bs, h => by cases h; rfl
  | d :: ds, bs, h => by
    unfold intsK at h
    split at h
    · cases h
      rename_i e; cases e
    · obtain ⟨bs', e', rfl⟩ := Option.map_eq_some_iff.mp h
      rename_i e; cases e
      rw [intsK_ok e']; rfl
    · cases h
theorem insI_perm (x : Int) : ∀ ys : List Int, (insI x ys).Perm (x :: ys)
  | [] => .refl _
  | y :: ys => by
    unfold insI
    split
    · exact .refl _
    · exact ((insI_perm x ys).cons y).trans (.swap x y ys)
theorem sortI_perm : ∀ xs : List Int, (sortI xs).Perm xs
  | [] => .refl _
  | x :: xs => (insI_perm x (sortI xs)).trans ((sortI_perm xs).cons x)
theorem insI_up (x : Int) : ∀ {ys : List Int}, ys.Pairwise (· ≤ ·) → (insI x ys).Pairwise (· ≤ ·)
  | [], _ => by simp [insI]
  | y :: ys, h => by
    unfold insI
    rw [List.pairwise_cons] at h
    split
    · rename_i hxy
      rw [List.pairwise_cons, List.pairwise_cons]
      refine ⟨fun a ha => ?_, h⟩
      rcases List.mem_cons.mp ha with rfl | ha
      · exact hxy
      · exact Int.le_trans hxy (h.1 a ha)
    · rename_i hxy
      rw [List.pairwise_cons]
      refine ⟨fun a ha => ?_, insI_up x h.2⟩
      have := (insI_perm x ys).mem_iff.mp ha
      rcases List.mem_cons.mp this with rfl | ha
      · omega
      · exact h.1 a ha
theorem sortI_up : ∀ xs : List Int, (sortI xs).Pairwise (· ≤ ·)
  | [] => .nil
  | x :: xs => insI_up x (sortI_up xs)
theorem sortI_only {xs ys : List Int} (p : ys.Perm xs) (h : ys.Pairwise (· ≤ ·)) : ys = sortI xs :=
  List.Perm.eq_of_pairwise (fun a b _ _ h1 h2 => Int.le_antisymm h1 h2) h (sortI_up xs) (p.trans (sortI_perm xs).symm)

/-- what stands shallowly for a list of values -/
inductive Shs (K : PySem.W.Frag) (fa : Nat → Addr) (G H : Hp) : List V → List D → Prop
  | nil : Shs K fa G H [] []
  | cons {v : V} {vs : List V} {d : D} {ds : List D} : Sh K fa G H v d → Shs K fa G H vs ds → Shs K fa G H (v :: vs) (d :: ds)
theorem minI_ok : ∀ {ns : List Int} {m : Int}, minI ns = some m → m ∈ ns ∧ ∀ y, y ∈ ns → m ≤ y
  | [], _, h => by simp [minI] at h
  | x :: xs, m, h => by
    unfold minI at h
    split at h
    · rename_i hn
      cases h
      have : xs = [] := by
        cases xs with
        | nil => rfl
        | cons a t =>
          unfold minI at hn
          split at hn <;> cases hn
      subst this
      exact ⟨List.mem_cons_self, fun y hy => by simp at hy; omega⟩
    · rename_i m' hm
      obtain ⟨h1, h2⟩ := minI_ok hm
      cases h
      split
      · exact ⟨List.mem_cons_of_mem _ h1, fun y hy => by
          rcases List.mem_cons.mp hy with rfl | hy
          · omega
          · exact h2 y hy⟩
      · exact ⟨List.mem_cons_self, fun y hy => by
          rcases List.mem_cons.mp hy with rfl | hy
          · omega
          · have := h2 y hy; omega⟩
theorem maxI_ok : ∀ {ns : List Int} {m : Int}, maxI ns = some m → m ∈ ns ∧ ∀ y, y ∈ ns → y ≤ m
  | [], _, h => by simp [maxI] at h
  | x :: xs, m, h => by
    unfold maxI at h
    split at h
    · rename_i hn
      cases h
      have : xs = [] := by
        cases xs with
        | nil => rfl
        | cons a t =>
          unfold maxI at hn
          split at hn <;> cases hn
      subst this
      exact ⟨List.mem_cons_self, fun y hy => by simp at hy; omega⟩
    · rename_i m' hm
      obtain ⟨h1, h2⟩ := maxI_ok hm
      cases h
      split
      · exact ⟨List.mem_cons_of_mem _ h1, fun y hy => by
          rcases List.mem_cons.mp hy with rfl | hy
          · omega
          · exact h2 y hy⟩
      · exact ⟨List.mem_cons_self, fun y hy => by
          rcases List.mem_cons.mp hy with rfl | hy
          · omega
          · have := h2 y hy; omega⟩
theorem biRun_ok (r : Rel K fa g H S) {b : Bi} {vs : List V} {ds : List D} {z : D} {Q : VK} (hv : Shs K fa g.G H vs ds) (e : biRun b ds = some z) (h : PD K fa g S Q z) : rBi K b vs H Q := by
  unfold biRun at e
  split at e
  · cases e
    cases hv with | cons h1 t => cases t with | nil =>
    obtain ⟨p, us, rfl, q, h2, _⟩ := h1
    exact .inl ⟨p, us, rfl, .inr q, by rw [h2.length]; exact h.int r⟩
  · cases e
    cases hv with | cons h1 t => cases t with | nil =>
    obtain ⟨p, us, rfl, q, h2⟩ := h1
    exact .inl ⟨p, us, rfl, .inl (.of q), by rw [h2.length]; exact h.int r⟩
  · split at e
    · cases e
      cases hv with | cons h1 t => cases t with | nil =>
      obtain rfl : _ = _ := h1
      exact .inr ⟨_, rfl, ‹_›, h.int r⟩
    · cases e
  · cases e
    cases hv with | cons h1 t => cases t with | nil =>
    obtain rfl : _ = _ := h1
    exact .inl ⟨_, rfl, h.int r⟩
  · obtain ⟨bs, e', rfl⟩ := Option.map_eq_some_iff.mp e
    cases hv with | cons h1 t => cases t with | nil =>
    obtain ⟨p, us, rfl, q, h2⟩ := h1
    rw [blsOf_ok e'] at h2
    rw [h2.bls] at q
    exact ⟨p, bs, rfl, .of q, h.bl r⟩
  · obtain ⟨bs, e', rfl⟩ := Option.map_eq_some_iff.mp e
    cases hv with | cons h1 t => cases t with | nil =>
    obtain ⟨p, us, rfl, q, h2⟩ := h1
    rw [blsOf_ok e'] at h2
    rw [h2.bls] at q
    exact ⟨p, bs, rfl, .of q, h.bl r⟩
  · obtain ⟨bs, e', rfl⟩ := Option.map_eq_some_iff.mp e
    cases hv with | cons h1 t => cases t with | nil =>
    obtain ⟨p, us, rfl, q, h2⟩ := h1
    rw [intsOf_ok e'] at h2
    rw [h2.ints] at q
    exact ⟨p, bs, rfl, .of q, h.int r⟩
  · cases e
    cases hv with | cons h1 t => cases t with | cons h2 t => cases t with | nil =>
    obtain rfl : _ = _ := h1
    obtain rfl : _ = _ := h2
    exact ⟨_, _, rfl, h.int r⟩
  · cases e
    cases hv with | cons h1 t => cases t with | cons h2 t => cases t with | nil =>
    obtain rfl : _ = _ := h1
    obtain rfl : _ = _ := h2
    exact ⟨_, _, rfl, h.int r⟩
  · split at e
    · cases e
      cases hv with | cons h1 t => cases t with | nil =>
      obtain rfl : _ = _ := h1
      exact ⟨_, rfl, ‹_›, h.str r⟩
    · cases e
  · cases e
    cases hv with | cons h1 t => cases t with | nil =>
    obtain ⟨p, us, rfl, q, h2⟩ := h1
    exact ⟨p, us, rfl, .inl ⟨.of q, h.tup r h2⟩⟩
  · cases e
    cases hv with | cons h1 t => cases t with | nil =>
    obtain ⟨p, us, rfl, q, h2, h3⟩ := h1
    exact ⟨p, us, rfl, .inr ⟨q, h.at r h3⟩⟩
  · cases e
    cases hv with | cons h1 t => cases t with | nil =>
    obtain ⟨p, us, rfl, q, h2⟩ := h1
    exact ⟨p, us, rfl, .inl (.of q), h.lst r h2⟩
  · cases e
    cases hv with | cons h1 t => cases t with | nil =>
    obtain ⟨p, us, rfl, q, h2, h3⟩ := h1
    exact ⟨p, us, rfl, .inr q, h.lst r h2⟩
  · obtain ⟨bs, e', e⟩ := Option.bind_eq_some_iff.mp e
    obtain ⟨m, e2, rfl⟩ := Option.map_eq_some_iff.mp e
    cases hv with | cons h1 t => cases t with | nil =>
    obtain ⟨p, us, rfl, q, h2⟩ := h1
    rw [intsOf_ok e'] at h2
    rw [h2.ints] at q
    obtain ⟨m1, m2⟩ := minI_ok e2
    refine ⟨p, bs, rfl, .of q, List.length_pos_of_mem m1, fun m' h3 h4 => ?_⟩
    have := h4 m m1
    have := m2 m' h3
    obtain rfl : m' = m := by omega
    exact h.int r
  · obtain ⟨bs, e', e⟩ := Option.bind_eq_some_iff.mp e
    obtain ⟨m, e2, rfl⟩ := Option.map_eq_some_iff.mp e
    cases hv with | cons h1 t => cases t with | nil =>
    obtain ⟨p, us, rfl, q, h2⟩ := h1
    rw [intsOf_ok e'] at h2
    rw [h2.ints] at q
    obtain ⟨m1, m2⟩ := maxI_ok e2
    refine ⟨p, bs, rfl, .of q, List.length_pos_of_mem m1, fun m' h3 h4 => ?_⟩
    have := h4 m m1
    have := m2 m' h3
    obtain rfl : m' = m := by omega
    exact h.int r
  · obtain ⟨bs, e', rfl⟩ := Option.map_eq_some_iff.mp e
    cases hv with | cons h1 t => cases t with | nil =>
    obtain ⟨p, us, rfl, q, h2⟩ := h1
    rw [intsOf_ok e'] at h2
    rw [h2.ints] at q
    refine .inl ⟨p, bs, rfl, .of q, fun ns' p' pm up hp => ?_⟩
    rw [sortI_only pm up]
    exact h.lst r RepDs.of_ints p' hp
  · obtain ⟨bs, e', rfl⟩ := Option.map_eq_some_iff.mp e
    cases hv with | cons h1 t => cases t with | nil =>
    obtain ⟨p, kvs, rfl, q, hk, h2⟩ := h1
    rw [intsK_ok e'] at hk
    refine .inr ⟨p, kvs, bs, rfl, q, hk, fun ns' p' pm up hp => ?_⟩
    rw [sortI_only pm up]
    exact h.lst r RepDs.of_ints p' hp
  · cases e
theorem meRun0_ok (r : Rel K fa g H S) {m : Me} {x : V} {a z : D} {Q : VK} (hx : Sh K fa g.G H x a) (e : meRun0 m a = some z) (h : PD K fa g S Q z) : (∃ a, x = .str a) ∧ rMe m x [] H Q := by
  unfold meRun0 at e
  split at e
  all_goals first
    | (cases e
       obtain rfl : _ = _ := hx
       exact ⟨⟨_, rfl⟩, _, rfl, rfl, trivial, h.bl r⟩)
    | cases e
theorem meRun1_ok (r : Rel K fa g H S) {m : Me} {x y : V} {a b z : D} {Q : VK} (hx : Sh K fa g.G H x a) (hy : Sh K fa g.G H y b) (e : meRun1 m a b = some z) (h : PD K fa g S Q z) : rMe m x [y] H Q := by
  unfold meRun1 at e
  split at e
  · cases e
    obtain rfl : _ = _ := hx
    obtain rfl : _ = _ := hy
    exact ⟨_, _, rfl, rfl, h.bl r⟩
  · cases e
theorem meRun1_str {m : Me} {x : V} {a b z : D} (hx : Sh K fa g.G H x a) (e : meRun1 m a b = some z) : ∃ s, x = .str s := by
  unfold meRun1 at e
  split at e
  · exact ⟨_, hx⟩
  · cases e
theorem ty_ok {x : V} : ∀ {a : D} {t : String}, Sh K fa g.G H x a → tyD a = some t → TyX K H x (.type t)
  | .non, _, h, e => by cases e; obtain rfl : x = _ := h; exact .base .non
  | .bl _, _, h, e => by cases e; obtain rfl : x = _ := h; exact .base (.bl _)
  | .int _, _, h, e => by cases e; obtain rfl : x = _ := h; exact .base (.int _)
  | .str _, _, h, e => by cases e; obtain rfl : x = _ := h; exact .base (.str _)
  | .tup _, _, h, e => by
    cases e
    obtain ⟨p, us, rfl, q, h2⟩ := h
    rcases q with (q | ⟨o, q⟩) | ⟨o, _, _, q, c, _⟩
    · exact .base (.tup q)
    · exact .fTuple q
    · exact .kTuple q c
  | .lst _, _, h, e => by
    cases e
    obtain ⟨p, us, rfl, q, h2⟩ := h
    exact .base (.lst q)
  | .dK _ _, _, h, e => by
    cases e
    obtain ⟨p, us, rfl, q, h2⟩ := h
    rcases q with q | ⟨o, q⟩
    · exact .base (.dK q)
    · exact .fDict q
  | .dT _ _, _, _, e | .fn _, _, _, e | .scr _, _, _, e => by cases e
theorem isi1_ok {x : V} {a : D} {t : String} {z : Bool} {Q : VK} (hx : Sh K fa g.G H x a) (e : isi1 a t = some z) (h : Q (.bl z) H) : rIsi K [x, .ty t] H Q := by
  unfold isi1 at e
  obtain ⟨k, e1, e2⟩ := Option.bind_eq_some_iff.mp e
  exact ⟨x, .ty t, _, _, z, rfl, .ty t, ty_ok hx e1, kit_ty e2, h⟩
theorem isi2_ok {x : V} {a : D} {t u : String} {z : Bool} {Q : VK} {tp : Addr} (hx : Sh K fa g.G H x a) (hp : H tp = some (.tup [.ty t, .ty u])) (e : isi2 a t u = some z) (h : Q (.bl z) H) : rIsiT K [x, .ref tp] H Q := by
  unfold isi2 at e
  split at e
  · rename_i e0
    cases e
    unfold isi1 at e0
    obtain ⟨k, e1, e2⟩ := Option.bind_eq_some_iff.mp e0
    exact ⟨x, tp, _, _, [.type t, .type u], true, rfl, hp, .cons (.ty t) (.cons (.ty u) .nil), ty_ok hx e1, kitAny_cons (kit_ty e2) (fun z => nomatch z) fun _ => rfl, h⟩
  · rename_i e0
    unfold isi1 at e0 e
    obtain ⟨k, e1, e2⟩ := Option.bind_eq_some_iff.mp e0
    obtain ⟨k', e3, e4⟩ := Option.bind_eq_some_iff.mp e
    rw [e1] at e3; cases e3
    refine ⟨x, tp, _, _, [.type t, .type u], z, rfl, hp, .cons (.ty t) (.cons (.ty u) .nil), ty_ok hx e1, kitAny_cons (kit_ty e2) (fun _ => kitAny_cons (kit_ty e4) (fun hz => ?_) fun hz => hz) (fun z => nomatch z), h⟩
    rw [hz]; exact kitAny_nil
  · cases e
theorem RepDs.atI {G : Hp} {ds : List D} {vs : List V} {i : Int} {d : D} (h : RepDs K fa G vs ds) (e : L2.atI ds i = some d) : ∃ v, L2.atI vs i = some v ∧ RepD K fa G v d := by
  unfold L2.atI at e ⊢
  rw [h.length]
  obtain ⟨j, e1, e2⟩ := Option.bind_eq_some_iff.mp e
  obtain ⟨v, q1, q2⟩ := h.get e2
  exact ⟨v, by rw [e1]; exact q1, q2⟩
theorem ixRun_ok (r : Rel K fa g H S) {x y : V} {a b z : D} {Q : VK} (hx : Sh K fa g.G H x a) (hy : Sh K fa g.G H y b) (e : ixRun a b = some z) (h : PD K fa g S Q z) : rIx K x y H Q := by
  unfold ixRun at e
  split at e
  · obtain ⟨p, us, rfl, q, h2⟩ := hx
    obtain rfl : _ = _ := hy
    obtain ⟨v, e1, e2⟩ := h2.atI e
    exact .inl ⟨p, us, _, v, rfl, rfl, .of q, e1, h.at r e2⟩
  · obtain ⟨p, us, rfl, q, h2, _⟩ := hx
    obtain rfl : _ = _ := hy
    obtain ⟨v, e1, e2⟩ := h2.atI e
    exact .inr (.inl ⟨p, us, _, v, rfl, rfl, q, e1, h.at r e2⟩)
  · split at e
    · obtain rfl : _ = _ := hx
      obtain rfl : _ = _ := hy
      obtain ⟨c, e1, rfl⟩ := Option.map_eq_some_iff.mp e
      exact .inr (.inr ⟨_, _, c, rfl, rfl, ‹_›, e1, h.str r⟩)
    · cases e
  · cases e
theorem RepDs.cut {G : Hp} {ds : List D} {vs : List V} (h : RepDs K fa G vs ds) (lo hi : Option Int) : RepDs K fa G (cutV vs lo hi) (cutD ds lo hi) := by
  unfold cutV cutD
  rw [h.length]
  exact (h.drop _).take _
theorem slRun_ok (r : Rel K fa g H S) {x : V} {a z : D} {lo hi : Option Int} {Q : VK} (hx : Sh K fa g.G H x a) (e : slRun a lo hi = some z) (h : PD K fa g S Q z) : rSl K x lo hi H Q := by
  unfold slRun at e
  split at e
  · cases e
    obtain ⟨p, us, rfl, q, h2⟩ := hx
    exact .inl ⟨p, us, rfl, .of q, h.lst r (h2.cut lo hi)⟩
  · cases e
    obtain ⟨p, us, rfl, q, h2, h3⟩ := hx
    rename_i ds
    refine .inr (.inl ⟨p, us, rfl, q, fun w => ?_, fun _ => h.tup r (h2.cut lo hi)⟩)
    have e : cutD ds lo hi = ds := by
      unfold cutD
      rw [h2.length] at w
      rw [w.1, w.2]
      simp
    rw [e] at h
    exact h.at r h3
  · split at e
    · cases e
      obtain rfl : _ = _ := hx
      exact .inr (.inr ⟨_, rfl, ‹_›, h.str r⟩)
    · cases e
  · cases e
    obtain ⟨p, rfl, q⟩ := hx
    exact .inl ⟨p, _, rfl, q, h.lst r (RepDs.of_ints.cut lo hi)⟩
  · cases e
end
end Pv

set_option Elab.async false
set_option linter.all false
set_option maxRecDepth 100000
set_option maxHeartbeats 4000000
/-! The language's meaning holds in the layer. -/
namespace Pv
open PySem L2

section
variable {K : PySem.W.Frag} {fa : Nat → Addr} {g g' : Gh} {H H' : Hp} {S : Store} {σ : L2.St} {ρ : En}
/-! ### targets -/
theorem RepEn.set (h : RepEn K fa g σ ρ) {i : Nat} {v : V} {w : W} (hw : RepW K fa g v w) : RepEn K fa g (σ.set i (some v)) (ρ.set i (some w)) := by
  refine ⟨by simpa using h.1, fun j w' e => ?_⟩
  by_cases hj : j = i
  · subst hj
    by_cases hl : j < ρ.length
    · rw [List.getElem?_set_self hl] at e
      cases e
      exact ⟨v, by rw [List.getElem?_set_self (by rw [h.1]; exact hl)], hw⟩
    · rw [List.getElem?_eq_none (by simpa using hl)] at e; cases e
  · rw [List.getElem?_set_ne (Ne.symm hj)] at e
    obtain ⟨v', a, b⟩ := h.2 j w' e
    exact ⟨v', by rw [List.getElem?_set_ne (Ne.symm hj)]; exact a, b⟩
theorem wipe_length' (ρ : En) : ∀ vs, (wipeE ρ vs).length = ρ.length
  | [] => rfl
  | v :: vs => by unfold wipeE; rw [List.length_set, wipe_length' ρ vs]
theorem RepEn.wipe (h : RepEn K fa g σ ρ) : ∀ vs : List Nat, RepEn K fa g (L2.wipe σ vs) (wipeE ρ vs)
  | [] => h
  | v :: vs => by
    have ih := h.wipe vs
    unfold L2.wipe wipeE
    refine ⟨by simpa using ih.1, fun j w' e => ?_⟩
    by_cases hj : j = v
    · subst hj
      by_cases hl : j < (wipeE ρ vs).length
      · rw [List.getElem?_set_self hl] at e; cases e
      · rw [List.getElem?_eq_none (by simpa using hl)] at e; cases e
    · rw [List.getElem?_set_ne (Ne.symm hj)] at e
      rw [List.getElem?_set_ne (Ne.symm hj)]
      exact ih.2 j w' e
theorem wipe_get (σ : L2.St) (vs : List Nat) (j : Nat) : (L2.wipe σ vs)[j]? = if j ∈ vs then (if j < σ.length then some none else none) else σ[j]? := by
  induction vs with
  | nil => simp [L2.wipe]
  | cons v vs ih =>
    unfold L2.wipe
    by_cases hj : j = v
    · subst hj
      rw [if_pos List.mem_cons_self]
      by_cases hl : j < σ.length
      · rw [if_pos hl, List.getElem?_set_self (by rw [L2.wipe_length]; exact hl)]
      · rw [if_neg hl, List.getElem?_eq_none (by rw [List.length_set, L2.wipe_length]; omega)]
    · rw [List.getElem?_set_ne (Ne.symm hj), ih]
      by_cases hm : j ∈ vs
      · rw [if_pos hm, if_pos (List.mem_cons_of_mem _ hm)]
      · rw [if_neg hm, if_neg]
        intro z
        rcases List.mem_cons.mp z with z | z
        · exact hj z
        · exact hm z
theorem wipe_set {σ : L2.St} {vs : List Nat} {i : Nat} {x : Option V} (h : i ∈ vs) : L2.wipe (σ.set i x) vs = L2.wipe σ vs := by
  apply List.ext_getElem?
  intro j
  rw [wipe_get, wipe_get, List.length_set]
  by_cases hj : j ∈ vs
  · rw [if_pos hj, if_pos hj]
  · rw [if_neg hj, if_neg hj, List.getElem?_set_ne]
    rintro rfl
    exact hj h
theorem wipe_wipe {σ : L2.St} {vs : List Nat} : L2.wipe (L2.wipe σ vs) vs = L2.wipe σ vs := by
  apply List.ext_getElem?
  intro j
  rw [wipe_get, wipe_get, L2.wipe_length]
  by_cases hj : j ∈ vs
  · rw [if_pos hj, if_pos hj]
  · rw [if_neg hj, if_neg hj]
theorem asgns_len : ∀ {tg : Tg} {ds : List D} {ρ ρ' : En}, asgns tg ds ρ = some ρ' → ds.length = tgLen tg
  | .tnil, ds, _, _, e => by cases ds <;> simp [asgns, tgLen] at e ⊢
  | .tcons a r, ds, _, _, e => by
    cases ds with
    | nil => simp [asgns] at e
    | cons d ds =>
      simp only [asgns] at e
      obtain ⟨ρ1, e1, e2⟩ := Option.bind_eq_some_iff.mp e
      simp only [tgLen, List.length_cons, asgns_len e2]
  | .name _, ds, _, _, e => by cases ds <;> simp [asgns] at e
  | .tup _, ds, _, _, e => by cases ds <;> simp [asgns] at e
mutual
theorem tg_ok (r : Rel K fa g H S) : ∀ {tg : Tg} {d : D} {v : V} {σ : L2.St} {ρ ρ' : En} {Q : L2.St → Hp → Prop}, asgn tg d ρ = some ρ' → RepD K fa g.G v d → RepEn K fa g σ ρ →
    (∀ σ', RepEn K fa g σ' ρ' → (∀ vs, tgIn tg vs = true → L2.wipe σ' vs = L2.wipe σ vs) → Q σ' H) → tTg K tg v σ H Q
  | .name i, d, v, σ, ρ, ρ', Q, e, hv, hσ, k => by
    simp only [asgn] at e
    split at e
    · cases e
      exact k _ (hσ.set hv) fun vs h => wipe_set (by simpa [tgIn] using h)
    · cases e
  | .tup ts, d, v, σ, ρ, ρ', Q, e, hv, hσ, k => by
    cases d with
    | tup ds =>
      simp only [asgn] at e
      simp only [RepD] at hv
      obtain ⟨a, us, rfl, q, h2⟩ := hv
      exact ⟨a, us, rfl, .inl (r.sqT q), h2.length.trans (asgns_len e), tgs_ok r e h2 hσ fun σ' h1 h2 => k σ' h1 fun vs h => h2 vs (by simpa [tgIn] using h)⟩
    | lst ds =>
      simp only [asgn] at e
      simp only [RepD] at hv
      obtain ⟨a, us, rfl, q, h2⟩ := hv
      exact ⟨a, us, rfl, .inr (.of (r.lst q)), h2.length.trans (asgns_len e), tgs_ok r e h2 hσ fun σ' h1 h2 => k σ' h1 fun vs h => h2 vs (by simpa [tgIn] using h)⟩
    | _ => simp [asgn] at e
  | .tnil, d, _, _, _, _, _, e, _, _, _ => by cases d <;> simp [asgn] at e
  | .tcons _ _, d, _, _, _, _, _, e, _, _, _ => by cases d <;> simp [asgn] at e
theorem tgs_ok (r : Rel K fa g H S) : ∀ {tg : Tg} {ds : List D} {us : List V} {σ : L2.St} {ρ ρ' : En} {Q : L2.St → Hp → Prop}, asgns tg ds ρ = some ρ' → RepDs K fa g.G us ds → RepEn K fa g σ ρ →
    (∀ σ', RepEn K fa g σ' ρ' → (∀ vs, tgsIn tg vs = true → L2.wipe σ' vs = L2.wipe σ vs) → Q σ' H) → tTg.go K tg us σ H Q
  | .tnil, ds, us, σ, ρ, ρ', Q, e, hv, hσ, k => by
    cases ds with
    | nil =>
      simp only [asgns] at e
      cases e
      simp only [RepDs] at hv
      exact ⟨hv, k σ hσ fun _ _ => rfl⟩
    | cons _ _ => simp [asgns] at e
  | .tcons a t, ds, us, σ, ρ, ρ', Q, e, hv, hσ, k => by
    cases ds with
    | nil => simp [asgns] at e
    | cons d ds =>
      simp only [asgns] at e
      obtain ⟨ρ1, e1, e2⟩ := Option.bind_eq_some_iff.mp e
      simp only [RepDs] at hv
      obtain ⟨v, us', rfl, h1, h2⟩ := hv
      exact ⟨v, us', rfl, tg_ok r e1 h1 hσ fun σ1 q1 w1 => tgs_ok r e2 h2 q1 fun σ2 q2 w2 => k σ2 q2 fun vs h => by
        simp only [tgsIn, Bool.and_eq_true] at h
        exact (w2 vs h.2).trans (w1 vs h.1)⟩
  | .name _, ds, _, _, _, _, _, e, _, _, _ => by cases ds <;> simp [asgns] at e
  | .tup _, ds, _, _, _, _, _, e, _, _, _ => by cases ds <;> simp [asgns] at e
end

/-! ### what is walked -/
/-- J walks the values ds -/
def Src (K : PySem.W.Frag) (fa : Nat → Addr) (g : Gh) (J : L2.It) (ds : List D) : Prop :=
  ∀ (i : Nat) (g' : Gh) (H : Hp) (S : Store), GLe g.G g'.G → Rel K fa g' H S →
    (∀ d, ds[i]? = some d → J.go i H ∧ ∀ x H', J.yld i H x H' → ∃ g'', g'.le g'' ∧ Rel K fa g'' H' S ∧ RepD K fa g''.G x d) ∧ (i = ds.length → J.stop i H)
theorem src_list {a : Addr} {vs : List V} {ds : List D} (q : g.G a = some (.lst vs)) (h : RepDs K fa g.G vs ds) : Src K fa g (Itl K a) ds := fun i g' H S l r => by
  have hs : SqL K H a vs := .of (r.lst (l _ _ q))
  refine ⟨fun d e => ?_, fun hi => ⟨vs, hs, by rw [h.length]; omega⟩⟩
  obtain ⟨v, e1, e2⟩ := h.get e
  refine ⟨⟨vs, v, hs, e1⟩, fun x H' y => ?_⟩
  obtain ⟨rfl, y2⟩ := y
  have := y2 vs hs
  rw [e1] at this; cases this
  exact ⟨g', .refl g', r, RepD.mono l e2⟩
theorem src_tup {a : Addr} {vs : List V} {ds : List D} (q : g.G a = some (.tup vs) ∨ SqT K nilH a vs) (h : RepDs K fa g.G vs ds) : Src K fa g (Itt K a) ds := fun i g' H S l r => by
  have hs : SqT K H a vs := r.sqT (q.imp (l _ _) id)
  refine ⟨fun d e => ?_, fun hi => ⟨vs, hs, by rw [h.length]; omega⟩⟩
  obtain ⟨v, e1, e2⟩ := h.get e
  refine ⟨⟨vs, v, hs, e1⟩, fun x H' y => ?_⟩
  obtain ⟨rfl, y2⟩ := y
  have := y2 vs hs
  rw [e1] at this; cases this
  exact ⟨g', .refl g', r, RepD.mono l e2⟩
theorem rangeD_get : ∀ {n : Nat} {lo : Int} {i : Nat} {d : D}, (rangeD lo n)[i]? = some d → i < n ∧ d = .int (lo + i)
  | 0, _, _, _, e => by simp [rangeD] at e
  | n + 1, lo, 0, d, e => by
    simp [rangeD] at e
    exact ⟨Nat.succ_pos _, by rw [← e]; simp⟩
  | n + 1, lo, i + 1, d, e => by
    obtain ⟨h1, h2⟩ := rangeD_get (n := n) (lo := lo + 1) (i := i) (d := d) (by simpa [rangeD] using e)
    exact ⟨by omega, by rw [h2]; congr 1; omega⟩
theorem rangeD_length : ∀ (n : Nat) (lo : Int), (rangeD lo n).length = n
  | 0, _ => rfl
  | n + 1, lo => by simp [rangeD, rangeD_length n]
theorem src_range (lo : Int) (n : Nat) : Src K fa g (Itr lo n) (rangeD lo n) := fun i g' H S l r => by
  refine ⟨fun d e => ?_, fun hi => by rw [rangeD_length] at hi; show _ ≤ _; omega⟩
  obtain ⟨h1, rfl⟩ := rangeD_get e
  refine ⟨h1, fun x H' y => ?_⟩
  obtain ⟨rfl, rfl⟩ := y
  exact ⟨g', .refl g', r, by simp only [RepD]⟩
theorem src_str (y : Str) : Src K fa g (Its y) (y.cps.toList.map fun c => D.str ⟨#[c]⟩) := fun i g' H S l r => by
  refine ⟨fun d e => ?_, fun hi => by show y.cps.size ≤ i; simp at hi; omega⟩
  rw [List.getElem?_map] at e
  obtain ⟨c, e1, rfl⟩ := Option.map_eq_some_iff.mp e
  have e2 : y.cps[i]? = some c := by simpa using e1
  refine ⟨(Array.getElem?_eq_some_iff.mp e2).1, fun x H' q => ?_⟩
  obtain ⟨rfl, c', e3, rfl⟩ := q
  rw [e2] at e3; cases e3
  exact ⟨g', .refl g', r, by simp only [RepD]⟩
theorem zipD_get : ∀ {as bs : List D} {i : Nat} {d : D}, (zipD as bs)[i]? = some d → ∃ a b, as[i]? = some a ∧ bs[i]? = some b ∧ d = .tup [a, b]
  | [], bs, i, d, e => by simp [zipD] at e
  | a :: as, [], i, d, e => by simp [zipD] at e
  | a :: as, b :: bs, 0, d, e => by
    simp [zipD] at e
    exact ⟨a, b, rfl, rfl, e.symm⟩
  | a :: as, b :: bs, i + 1, d, e => by
    obtain ⟨x, y, h1, h2, h3⟩ := zipD_get (as := as) (bs := bs) (i := i) (d := d) (by simpa [zipD] using e)
    exact ⟨x, y, by simpa using h1, by simpa using h2, h3⟩
theorem zipD_length : ∀ (as bs : List D), (zipD as bs).length = min as.length bs.length
  | [], bs => by simp [zipD]
  | a :: as, [] => by simp [zipD]
  | a :: as, b :: bs => by simp [zipD, zipD_length as bs]
/-- what a list or a tuple is known by -/
def KnX (K : PySem.W.Frag) (k : Bool) (G : Hp) (a : Addr) (vs : List V) : Prop := cond k (G a = some (.tup vs) ∨ SqT K nilH a vs) (G a = some (.lst vs))
theorem KnX.sq {k : Bool} {a : Addr} {vs : List V} (r : Rel K fa g H S) (h : KnX K k g.G a vs) : PvR.SqX k K H a vs := by
  cases k with
  | true => exact r.sqT h
  | false => exact .of (r.lst h)
theorem KnX.mono {k : Bool} {G G' : Hp} {a : Addr} {vs : List V} (l : GLe G G') (h : KnX K k G a vs) : KnX K k G' a vs := by
  cases k with
  | true => exact Or.imp (l _ _) id h
  | false => exact l _ _ h
theorem seqOf_ok {w : W} {ds : List D} {v : V} (e : seqOf w = some ds) (h : RepW K fa g v w) : ∃ k a vs, v = .ref a ∧ KnX K k g.G a vs ∧ RepDs K fa g.G vs ds := by
  unfold seqOf at e
  split at e
  · cases e
    simp only [RepW, RepD] at h
    obtain ⟨a, vs, e, q, h⟩ := h
    exact ⟨false, a, vs, e, q, h⟩
  · cases e
    simp only [RepW, RepD] at h
    obtain ⟨a, vs, e, q, h⟩ := h
    exact ⟨true, a, vs, e, q, h⟩
  · cases e
theorem src_zip {k1 k2 : Bool} {a b : Addr} {vs us : List V} {ds es : List D} (q : KnX K k1 g.G a vs) (h : RepDs K fa g.G vs ds) (q' : KnX K k2 g.G b us) (h' : RepDs K fa g.G us es) : Src K fa g (PvR.ItzX K k1 k2 a b) (zipD ds es) := fun i g' H S l r => by
  have hs : PvR.SqX k1 K H a vs := (q.mono l).sq r
  have hs' : PvR.SqX k2 K H b us := (q'.mono l).sq r
  have e1 := h.length
  have e2 := h'.length
  refine ⟨fun d e => ?_, fun hi => ⟨vs, us, hs, hs', by rw [zipD_length] at hi; omega, by rw [zipD_length] at hi; omega, by rw [zipD_length] at hi; omega⟩⟩
  obtain ⟨x, y, e1, e2, rfl⟩ := zipD_get e
  obtain ⟨v, f1, f2⟩ := h.get e1
  obtain ⟨u, k1, k2⟩ := h'.get e2
  refine ⟨⟨vs, us, v, u, hs, hs', f1, k1⟩, fun z H' y => ?_⟩
  obtain ⟨T, v', u', rfl, hT, rfl, y1, y2⟩ := y
  have e3 := y1 vs hs
  have e4 := y2 us hs'
  rw [f1] at e3; cases e3
  rw [k1] at e4; cases e4
  have lt := Gh.le_add (g := g') (p := T) (o := HO.tup [v, u]) (r.fresh hT)
  refine ⟨_, lt, r.add hT, ?_⟩
  simp only [RepD]
  exact ⟨T, _, rfl, .inl upd_same, RepDs.cons (RepD.mono lt.G (RepD.mono l f2)) (RepDs.cons (RepD.mono lt.G (RepD.mono l k2)) RepDs.nil)⟩

/-! ### the whole -/
inductive RWs (K : PySem.W.Frag) (fa : Nat → Addr) (g : Gh) : List V → List W → Prop
  | nil : RWs K fa g [] []
  | cons {v : V} {vs : List V} {w : W} {ws : List W} : RepW K fa g v w → RWs K fa g vs ws → RWs K fa g (v :: vs) (w :: ws)
theorem RWs.mono (l : g.le g') : ∀ {vs : List V} {ws : List W}, RWs K fa g vs ws → RWs K fa g' vs ws
  | _, _, .nil => .nil
  | _, _, .cons h t => .cons (RepW.mono l h) (RWs.mono l t)
theorem RWs.length : ∀ {vs : List V} {ws : List W}, RWs K fa g vs ws → vs.length = ws.length
  | _, _, .nil => rfl
  | _, _, .cons h t => by simp [RWs.length t]
theorem RWs.sh (r : Rel K fa g H S) : ∀ {vs : List V} {ws : List W} {ds : List D}, RWs K fa g vs ws → (ws.mapM fun w => rdW w S) = some ds → Shs K fa g.G H vs ds
  | _, _, _, .nil, e => by simp at e; subst e; exact .nil
  | _, _, _, .cons h t, e => by
    rw [List.mapM_cons] at e
    obtain ⟨d, e1, e2⟩ := Option.bind_eq_some_iff.mp e
    obtain ⟨ds, e3, e4⟩ := Option.bind_eq_some_iff.mp e2
    cases e4
    exact .cons (r.shW h e1) (RWs.sh r t e3)
theorem RWs.get : ∀ {vs : List V} {ws : List W} {i : Nat} {w : W}, RWs K fa g vs ws → ws[i]? = some w → ∃ v, vs[i]? = some v ∧ RepW K fa g v w
  | _, _, _, _, .nil, e => by simp at e
  | _, _, 0, _, .cons h t, e => by simp at e; subst e; exact ⟨_, rfl, h⟩
  | _, _, i + 1, _, .cons h t, e => by
    obtain ⟨v, a, b⟩ := RWs.get (i := i) t (by simpa using e)
    exact ⟨v, by simpa using a, b⟩
/-- what is wished of an error: its own dict holds the value told with it -/
def PX (K : PySem.W.Frag) (fa : Nat → Addr) (C : Addr) (g : Gh) (S : Store) (E : XK) (v : D) : Prop :=
  ∀ g' H' dd vv, g.le g' → Rel K fa g' H' S → H' dd = some (.xd [(("at" : Str), vv)]) → RepD K fa g'.G vv v → E (.ref C) (some dd) H'
/-- a def's promise: it gives, or raises, what the meaning says -/
def spC (K : PySem.W.Frag) (fa : Nat → Addr) (C : Addr) (c : Call) (f : Nat) : Sp := fun vs H Q E => ∃ g S ws, Rel K fa g H S ∧ RWs K fa g vs ws ∧
  ((∃ d S', c f ws S = some (d, S') ∧ PD K fa g S' Q d) ∨ ∃ v S', c.x f ws S = some (v, S') ∧ PX K fa C g S' E v)
end

section
variable {K : PySem.W.Frag} {fa : Nat → Addr} {C : Addr} {c : Call} {tb : Nat → Prop} (htb : ∀ f ws S r, c f ws S = some r → tb f)
abbrev PWs (K : PySem.W.Frag) (fa : Nat → Addr) (g : Gh) (S : Store) (Q : VK) (w : W) : Prop := ∀ g' H' v, g.le g' → Rel K fa g' H' S → RepW K fa g' v w → Q v H'
def OkE (K : PySem.W.Frag) (fa : Nat → Addr) (C : Addr) (c : Call) (tb : Nat → Prop) (e : E) : Prop := ∀ ρ S w S', evE c e ρ S = some (w, S') → ∀ g σ H, Rel K fa g H S → RepEn K fa g σ ρ → ∀ Q : VK, PWs K fa g S' Q w → tE K fa (spC K fa C c) tb e σ H Q
def OkT (K : PySem.W.Frag) (fa : Nat → Addr) (C : Addr) (c : Call) (tb : Nat → Prop) (e : T) : Prop := ∀ ρ S w S', evT c e ρ S = some (w, S') → ∀ g σ H, Rel K fa g H S → RepEn K fa g σ ρ → ∀ Q : Bool → Hp → Prop, (∀ g' H', g.le g' → Rel K fa g' H' S' → Q w H') → tT K fa (spC K fa C c) tb e σ H Q
def OkEs (K : PySem.W.Frag) (fa : Nat → Addr) (C : Addr) (c : Call) (tb : Nat → Prop) (e : Es) : Prop := ∀ ρ S w S', evEs c e ρ S = some (w, S') → ∀ g σ H, Rel K fa g H S → RepEn K fa g σ ρ → ∀ Q : List V → Hp → Prop, (∀ g' H' vs, g.le g' → Rel K fa g' H' S' → RWs K fa g' vs w → Q vs H') → tEs K fa (spC K fa C c) tb e σ H Q
def OkZ (K : PySem.W.Frag) (fa : Nat → Addr) (C : Addr) (c : Call) (tb : Nat → Prop) (e : Es) : Prop := ∀ ρ S w S', evZ c e ρ S = some (w, S') → ∀ g σ H, Rel K fa g H S → RepEn K fa g σ ρ → ∀ Q : List V → Hp → Prop, (∀ g' H' vs, g.le g' → Rel K fa g' H' S' → RepDs K fa g'.G vs w → Q vs H') → tEs K fa (spC K fa C c) tb e σ H Q
def OkO (K : PySem.W.Frag) (fa : Nat → Addr) (C : Addr) (c : Call) (tb : Nat → Prop) (e : Eo) : Prop := ∀ ρ S w S', evO c e ρ S = some (w, S') → ∀ g σ H, Rel K fa g H S → RepEn K fa g σ ρ → ∀ Q : Option Int → Hp → Prop, (∀ g' H', g.le g' → Rel K fa g' H' S' → Q w H') → tO K fa (spC K fa C c) tb e σ H Q
def OkI (K : PySem.W.Frag) (fa : Nat → Addr) (C : Addr) (c : Call) (tb : Nat → Prop) (e : It) : Prop := ∀ ρ S ds S', evI c e ρ S = some (ds, S') → ∀ g σ H, Rel K fa g H S → RepEn K fa g σ ρ → ∀ R : L2.It → Hp → Prop, (∀ g' H' J, g.le g' → Rel K fa g' H' S' → Src K fa g' J ds → R J H') → tI K fa (spC K fa C c) tb e σ H R
def OkTo (K : PySem.W.Frag) (fa : Nat → Addr) (C : Addr) (c : Call) (tb : Nat → Prop) : To → Prop
  | .none => True
  | .some t => OkT K fa C c tb t

theorem ok_bin {o : BOp} {a b : E} (ha : OkE K fa C c tb a) (hb : OkE K fa C c tb b) : OkE K fa C c tb (.bin o a b) := fun ρ S w S' e g σ H r hσ Q k => by
  simp only [evE] at e
  obtain ⟨⟨x, S1⟩, e1, e⟩ := Option.bind_eq_some_iff.mp e
  obtain ⟨⟨y, S2⟩, e2, e⟩ := Option.bind_eq_some_iff.mp e
  obtain ⟨x', e3, e⟩ := Option.bind_eq_some_iff.mp e
  obtain ⟨y', e4, e⟩ := Option.bind_eq_some_iff.mp e
  obtain ⟨z, e5, e⟩ := Option.map_eq_some_iff.mp e
  cases e
  refine ha _ _ _ _ e1 g σ H r hσ _ fun g1 H1 v l1 r1 h1 => hb _ _ _ _ e2 g1 σ H1 r1 (hσ.mono l1) _ fun g2 H2 u l2 r2 h2 => ?_
  exact bRun_ok r2 (r2.shW (RepW.mono l2 h1) e3) (r2.shW h2 e4) e5 fun g3 H3 v3 l3 r3 h3 => k g3 H3 v3 (l1.trans (l2.trans l3)) r3 h3
theorem ok_cmp {o : COp} {a b : E} (ha : OkE K fa C c tb a) (hb : OkE K fa C c tb b) : OkE K fa C c tb (.cmp o a b) := fun ρ S w S' e g σ H r hσ Q k => by
  simp only [evE] at e
  obtain ⟨⟨x, S1⟩, e1, e⟩ := Option.bind_eq_some_iff.mp e
  obtain ⟨⟨y, S2⟩, e2, e⟩ := Option.bind_eq_some_iff.mp e
  obtain ⟨x', e3, e⟩ := Option.bind_eq_some_iff.mp e
  obtain ⟨y', e4, e⟩ := Option.bind_eq_some_iff.mp e
  obtain ⟨z, e5, e⟩ := Option.map_eq_some_iff.mp e
  cases e
  refine ha _ _ _ _ e1 g σ H r hσ _ fun g1 H1 v l1 r1 h1 => hb _ _ _ _ e2 g1 σ H1 r1 (hσ.mono l1) _ fun g2 H2 u l2 r2 h2 => ?_
  exact cRun_ok r2 (r2.shW (RepW.mono l2 h1) e3) (r2.shW h2 e4) e5 (k g2 H2 _ (l1.trans l2) r2 (by simp only [RepW, RepD]))
theorem ok_chain {o o' : COp} {a b q : E} (ha : OkE K fa C c tb a) (hb : OkE K fa C c tb b) (hq : OkE K fa C c tb q) : OkE K fa C c tb (.chain o o' a b q) := fun ρ S w S' e g σ H r hσ Q k => by
  simp only [evE] at e
  obtain ⟨⟨x, S1⟩, e1, e⟩ := Option.bind_eq_some_iff.mp e
  obtain ⟨⟨y, S2⟩, e2, e⟩ := Option.bind_eq_some_iff.mp e
  obtain ⟨x', e3, e⟩ := Option.bind_eq_some_iff.mp e
  obtain ⟨y', e4, e⟩ := Option.bind_eq_some_iff.mp e
  obtain ⟨z, e5, e⟩ := Option.bind_eq_some_iff.mp e
  refine ha _ _ _ _ e1 g σ H r hσ _ fun g1 H1 v l1 r1 h1 => hb _ _ _ _ e2 g1 σ H1 r1 (hσ.mono l1) _ fun g2 H2 u l2 r2 h2 => ?_
  refine cRun_ok r2 (r2.shW (RepW.mono l2 h1) e3) (r2.shW h2 e4) e5 ⟨z, rfl, ?_⟩
  cases z with
  | false =>
    cases e
    exact k g2 H2 _ (l1.trans l2) r2 (by simp only [RepW, RepD])
  | true =>
    obtain ⟨⟨t, S3⟩, e6, e⟩ := Option.bind_eq_some_iff.mp e
    obtain ⟨y'', e7, e⟩ := Option.bind_eq_some_iff.mp e
    obtain ⟨t', e8, e⟩ := Option.bind_eq_some_iff.mp e
    obtain ⟨z, e9, e⟩ := Option.map_eq_some_iff.mp e
    cases e
    refine hq _ _ _ _ e6 g2 σ H2 r2 ((hσ.mono l1).mono l2) _ fun g3 H3 v3 l3 r3 h3 => ?_
    exact cRun_ok r3 (r3.shW (RepW.mono l3 h2) e7) (r3.shW h3 e8) e9 (k g3 H3 _ (l1.trans (l2.trans l3)) r3 (by simp only [RepW, RepD]))
end
end Pv

set_option Elab.async false
set_option linter.all false
set_option maxRecDepth 100000
set_option maxHeartbeats 4000000
/-! The language's meaning holds in the layer: expressions. -/
namespace Pv
open PySem L2

section
variable {K : PySem.W.Frag} {fa : Nat → Addr} {C : Addr} {c : Call} {tb : Nat → Prop}
theorem vOf_rep {G : Hp} {d : D} (h : flatD d = true) : RepD K fa G (vOf d) d := by
  cases d <;> first
    | (simp [flatD] at h; done)
    | simp only [RepD, vOf]
theorem ok_var {i : Nat} : OkE K fa C c tb (.var i) := fun ρ S w S' e g σ H r hσ Q k => by
  simp only [evE] at e
  split at e
  · rename_i w' h
    cases e
    obtain ⟨v, h1, h2⟩ := hσ.2 i _ h
    exact ⟨v, h1, k g H v (.refl g) r h2⟩
  · cases e
theorem ok_cst {d : D} : OkE K fa C c tb (.cst d) := fun ρ S w S' e g σ H r hσ Q k => by
  simp only [evE] at e
  split at e
  · cases e
    exact k g H _ (.refl g) r (vOf_rep ‹_›)
  · cases e
theorem ok_fnv {f : Nat} : OkE K fa C c tb (.fnv f) := fun ρ S w S' e g σ H r hσ Q k => by
  simp only [evE] at e
  cases e
  exact k g H _ (.refl g) r (by simp only [RepW, RepD])
theorem ok_neg {a : E} (ha : OkE K fa C c tb a) : OkE K fa C c tb (.neg a) := fun ρ S w S' e g σ H r hσ Q k => by
  simp only [evE] at e
  obtain ⟨⟨x, S1⟩, e1, e⟩ := Option.bind_eq_some_iff.mp e
  split at e
  · rename_i h
    cases e
    obtain rfl : x = _ := h
    refine ha _ _ _ _ e1 g σ H r hσ _ fun g1 H1 v l1 r1 h1 => ?_
    simp only [RepW, RepD] at h1
    exact ⟨_, h1, k g1 H1 _ l1 r1 (by simp only [RepW, RepD])⟩
  · cases e
theorem isN_dec {g : Gh} {v : V} {x : W} (h : RepW K fa g v x) : decide (v = .non) = isNonW x := by
  cases x with
  | mu n => obtain ⟨rfl, _⟩ := h; exact decide_eq_false (fun z => nomatch z)
  | d y =>
    cases y <;> simp only [RepW, RepD] at h
    case non => subst h; rfl
    case bl => subst h; exact decide_eq_false (fun z => nomatch z)
    case int => subst h; exact decide_eq_false (fun z => nomatch z)
    case str => subst h; exact decide_eq_false (fun z => nomatch z)
    case fn => subst h; exact decide_eq_false (fun z => nomatch z)
    all_goals (obtain ⟨a, h⟩ := h)
    case scr => obtain ⟨rfl, _⟩ := h; exact decide_eq_false (fun z => nomatch z)
    all_goals (obtain ⟨b, rfl, _⟩ := h; exact decide_eq_false (fun z => nomatch z))
theorem ok_isN {a : E} (ha : OkE K fa C c tb a) : OkE K fa C c tb (.isN a) := fun ρ S w S' e g σ H r hσ Q k => by
  simp only [evE] at e
  obtain ⟨⟨x, S1⟩, e1, e⟩ := Option.map_eq_some_iff.mp e
  cases e
  refine ha _ _ _ _ e1 g σ H r hσ _ fun g1 H1 v l1 r1 h1 => ?_
  show Q (.bl (decide (v = .non))) H1
  rw [isN_dec h1]
  exact k g1 H1 _ l1 r1 (by simp only [RepW, RepD])
theorem ok_notN {a : E} (ha : OkE K fa C c tb a) : OkE K fa C c tb (.notN a) := fun ρ S w S' e g σ H r hσ Q k => by
  simp only [evE] at e
  obtain ⟨⟨x, S1⟩, e1, e⟩ := Option.map_eq_some_iff.mp e
  cases e
  refine ha _ _ _ _ e1 g σ H r hσ _ fun g1 H1 v l1 r1 h1 => ?_
  show Q (.bl (!decide (v = .non))) H1
  rw [isN_dec h1]
  exact k g1 H1 _ l1 r1 (by simp only [RepW, RepD])
theorem ok_and {a b : E} (ha : OkE K fa C c tb a) (hb : OkE K fa C c tb b) : OkE K fa C c tb (.and a b) := fun ρ S w S' e g σ H r hσ Q k => by
  simp only [evE] at e
  obtain ⟨⟨x, S1⟩, e1, e⟩ := Option.bind_eq_some_iff.mp e
  refine ha _ _ _ _ e1 g σ H r hσ _ fun g1 H1 v l1 r1 h1 => ?_
  split at e
  · rename_i h
    obtain rfl : x = _ := h
    simp only [RepW, RepD] at h1
    refine ⟨true, h1, ?_⟩
    rw [if_pos rfl]
    exact hb _ _ _ _ e g1 σ H1 r1 (hσ.mono l1) Q fun g2 H2 v2 l2 r2 h2 => k g2 H2 v2 (l1.trans l2) r2 h2
  · rename_i h
    cases e
    obtain rfl : x = _ := h
    simp only [RepW, RepD] at h1
    refine ⟨false, h1, ?_⟩
    rw [if_neg (fun z => nomatch z)]
    exact k g1 H1 _ l1 r1 (by simp only [RepW, RepD])
  · cases e
theorem ok_or {a b : E} (ha : OkE K fa C c tb a) (hb : OkE K fa C c tb b) : OkE K fa C c tb (.or a b) := fun ρ S w S' e g σ H r hσ Q k => by
  simp only [evE] at e
  obtain ⟨⟨x, S1⟩, e1, e⟩ := Option.bind_eq_some_iff.mp e
  refine ha _ _ _ _ e1 g σ H r hσ _ fun g1 H1 v l1 r1 h1 => ?_
  split at e
  · rename_i h
    obtain rfl : x = _ := h
    simp only [RepW, RepD] at h1
    refine ⟨false, h1, ?_⟩
    rw [if_neg (fun z => nomatch z)]
    exact hb _ _ _ _ e g1 σ H1 r1 (hσ.mono l1) Q fun g2 H2 v2 l2 r2 h2 => k g2 H2 v2 (l1.trans l2) r2 h2
  · rename_i h
    cases e
    obtain rfl : x = _ := h
    simp only [RepW, RepD] at h1
    refine ⟨true, h1, ?_⟩
    rw [if_pos rfl]
    exact k g1 H1 _ l1 r1 (by simp only [RepW, RepD])
  · cases e
theorem ok_not {a : E} (ha : OkE K fa C c tb a) : OkE K fa C c tb (.not a) := fun ρ S w S' e g σ H r hσ Q k => by
  simp only [evE] at e
  obtain ⟨⟨x, S1⟩, e1, e⟩ := Option.bind_eq_some_iff.mp e
  refine ha _ _ _ _ e1 g σ H r hσ _ fun g1 H1 v l1 r1 h1 => ?_
  split at e
  · rename_i b h
    cases e
    obtain rfl : x = _ := h
    simp only [RepW, RepD] at h1
    exact ⟨b, h1, k g1 H1 _ l1 r1 (by simp only [RepW, RepD])⟩
  · cases e
theorem ok_ite {t : T} {a b : E} (ht : OkT K fa C c tb t) (ha : OkE K fa C c tb a) (hb : OkE K fa C c tb b) : OkE K fa C c tb (.ite t a b) := fun ρ S w S' e g σ H r hσ Q k => by
  simp only [evE] at e
  obtain ⟨⟨x, S1⟩, e1, e⟩ := Option.bind_eq_some_iff.mp e
  refine ht _ _ _ _ e1 g σ H r hσ _ fun g1 H1 l1 r1 => ?_
  cases x with
  | true =>
    rw [if_pos rfl] at e
    rw [if_pos rfl]
    exact ha _ _ _ _ e g1 σ H1 r1 (hσ.mono l1) Q fun g2 H2 v2 l2 r2 h2 => k g2 H2 v2 (l1.trans l2) r2 h2
  | false =>
    rw [if_neg (fun z => nomatch z)] at e
    rw [if_neg (fun z => nomatch z)]
    exact hb _ _ _ _ e g1 σ H1 r1 (hσ.mono l1) Q fun g2 H2 v2 l2 r2 h2 => k g2 H2 v2 (l1.trans l2) r2 h2
theorem ok_call {f : Nat} {as : Es} (ha : OkEs K fa C c tb as) : OkE K fa C c tb (.call f as) := fun ρ S w S' e g σ H r hσ Q k => by
  simp only [evE] at e
  obtain ⟨⟨ws, S1⟩, e1, e⟩ := Option.bind_eq_some_iff.mp e
  obtain ⟨⟨d, S2⟩, e2, e⟩ := Option.map_eq_some_iff.mp e
  cases e
  refine ha _ _ _ _ e1 g σ H r hσ _ fun g1 H1 vs l1 r1 h1 => ?_
  show spC K fa C c f (vs ++ []) H1 Q E0
  rw [List.append_nil]
  exact ⟨g1, S1, ws, r1, h1, .inl ⟨d, S2, e2, fun g2 H2 v l2 r2 h2 => k g2 H2 v (l1.trans l2) r2 h2⟩⟩
theorem ok_callv (htb : ∀ f ws S r, c f ws S = some r → tb f) {i : Nat} {as : Es} (ha : OkEs K fa C c tb as) : OkE K fa C c tb (.callv i as) := fun ρ S w S' e g σ H r hσ Q k => by
  simp only [evE] at e
  split at e
  · rename_i f hf
    obtain ⟨⟨ws, S1⟩, e1, e⟩ := Option.bind_eq_some_iff.mp e
    obtain ⟨⟨d, S2⟩, e2, e⟩ := Option.map_eq_some_iff.mp e
    cases e
    obtain ⟨v, q1, q2⟩ := hσ.2 i _ hf
    simp only [RepW, RepD] at q2
    subst q2
    refine ⟨f, htb _ _ _ _ e2, q1, ha _ _ _ _ e1 g σ H r hσ _ fun g1 H1 vs l1 r1 h1 => ?_⟩
    show spC K fa C c f (vs ++ []) H1 Q E0
    rw [List.append_nil]
    exact ⟨g1, S1, ws, r1, h1, .inl ⟨d, S2, e2, fun g2 H2 v l2 r2 h2 => k g2 H2 v (l1.trans l2) r2 h2⟩⟩
  · cases e
theorem ok_bi {b : Bi} {as : Es} (ha : OkEs K fa C c tb as) : OkE K fa C c tb (.bi b as) := fun ρ S w S' e g σ H r hσ Q k => by
  simp only [evE] at e
  obtain ⟨⟨ws, S1⟩, e1, e⟩ := Option.bind_eq_some_iff.mp e
  obtain ⟨ds, e2, e⟩ := Option.bind_eq_some_iff.mp e
  obtain ⟨d, e3, e⟩ := Option.map_eq_some_iff.mp e
  cases e
  refine ha _ _ _ _ e1 g σ H r hσ _ fun g1 H1 vs l1 r1 h1 => ?_
  exact biRun_ok r1 (h1.sh r1 e2) e3 fun g2 H2 v l2 r2 h2 => k g2 H2 v (l1.trans l2) r2 h2
theorem ok_isi1 {a : E} {t : String} (ha : OkE K fa C c tb a) : OkE K fa C c tb (.isi1 a t) := fun ρ S w S' e g σ H r hσ Q k => by
  simp only [evE] at e
  obtain ⟨⟨x, S1⟩, e1, e⟩ := Option.bind_eq_some_iff.mp e
  obtain ⟨d, e2, e⟩ := Option.bind_eq_some_iff.mp e
  obtain ⟨b, e3, e⟩ := Option.map_eq_some_iff.mp e
  cases e
  refine ha _ _ _ _ e1 g σ H r hσ _ fun g1 H1 v l1 r1 h1 => ?_
  exact isi1_ok (r1.shW h1 e2) e3 (k g1 H1 _ l1 r1 (by simp only [RepW, RepD]))
theorem ok_isi2 {a : E} {t u : String} (ha : OkE K fa C c tb a) : OkE K fa C c tb (.isi2 a t u) := fun ρ S w S' e g σ H r hσ Q k => by
  simp only [evE] at e
  obtain ⟨⟨x, S1⟩, e1, e⟩ := Option.bind_eq_some_iff.mp e
  obtain ⟨d, e2, e⟩ := Option.bind_eq_some_iff.mp e
  obtain ⟨b, e3, e⟩ := Option.map_eq_some_iff.mp e
  cases e
  refine ha _ _ _ _ e1 g σ H r hσ _ fun g1 H1 v l1 r1 h1 => ⟨by show 2 ≤ sizeLine; decide, fun p hp => ?_⟩
  have r2 := r1.add (p := p) (o := .tup [.ty t, .ty u]) hp
  have l2 := Gh.le_add (g := g1) (p := p) (o := HO.tup [.ty t, .ty u]) (r1.fresh hp)
  exact isi2_ok (r2.shW (RepW.mono l2 h1) e2) upd_same e3 (k _ _ _ (l1.trans l2) r2 (by simp only [RepW, RepD]))
theorem ok_mt0 {m : Me} {a : E} (ha : OkE K fa C c tb a) : OkE K fa C c tb (.mt0 m a) := fun ρ S w S' e g σ H r hσ Q k => by
  simp only [evE] at e
  obtain ⟨⟨x, S1⟩, e1, e⟩ := Option.bind_eq_some_iff.mp e
  obtain ⟨d, e2, e⟩ := Option.bind_eq_some_iff.mp e
  obtain ⟨b, e3, e⟩ := Option.map_eq_some_iff.mp e
  cases e
  refine ha _ _ _ _ e1 g σ H r hσ _ fun g1 H1 v l1 r1 h1 => ?_
  exact meRun0_ok r1 (r1.shW h1 e2) e3 fun g2 H2 v l2 r2 h2 => k g2 H2 v (l1.trans l2) r2 h2
theorem ok_mt1 {m : Me} {a b : E} (ha : OkE K fa C c tb a) (hb : OkE K fa C c tb b) : OkE K fa C c tb (.mt1 m a b) := fun ρ S w S' e g σ H r hσ Q k => by
  simp only [evE] at e
  obtain ⟨⟨x, S1⟩, e1, e⟩ := Option.bind_eq_some_iff.mp e
  obtain ⟨⟨y, S2⟩, e2, e⟩ := Option.bind_eq_some_iff.mp e
  obtain ⟨x', e3, e⟩ := Option.bind_eq_some_iff.mp e
  obtain ⟨y', e4, e⟩ := Option.bind_eq_some_iff.mp e
  obtain ⟨z, e5, e⟩ := Option.map_eq_some_iff.mp e
  cases e
  refine ha _ _ _ _ e1 g σ H r hσ _ fun g1 H1 v l1 r1 h1 => ⟨?_, ?_⟩
  · cases x with
    | d x =>
      have : x = x' := Option.some.inj e3
      subst this
      exact meRun1_str (r1.sh h1) e5
    | mu n =>
      simp only [rdW] at e3
      split at e3 <;> cases e3 <;> cases m <;> simp [meRun1] at e5
  · refine hb _ _ _ _ e2 g1 σ H1 r1 (hσ.mono l1) _ fun g2 H2 u l2 r2 h2 => ?_
    exact meRun1_ok r2 (r2.shW (RepW.mono l2 h1) e3) (r2.shW h2 e4) e5 fun g3 H3 v3 l3 r3 h3 => k g3 H3 v3 (l1.trans (l2.trans l3)) r3 h3
theorem ok_ix {a b : E} (ha : OkE K fa C c tb a) (hb : OkE K fa C c tb b) : OkE K fa C c tb (.ix a b) := fun ρ S w S' e g σ H r hσ Q k => by
  simp only [evE] at e
  obtain ⟨⟨x, S1⟩, e1, e⟩ := Option.bind_eq_some_iff.mp e
  obtain ⟨⟨y, S2⟩, e2, e⟩ := Option.bind_eq_some_iff.mp e
  obtain ⟨x', e3, e⟩ := Option.bind_eq_some_iff.mp e
  obtain ⟨y', e4, e⟩ := Option.bind_eq_some_iff.mp e
  obtain ⟨z, e5, e⟩ := Option.map_eq_some_iff.mp e
  cases e
  refine ha _ _ _ _ e1 g σ H r hσ _ fun g1 H1 v l1 r1 h1 => hb _ _ _ _ e2 g1 σ H1 r1 (hσ.mono l1) _ fun g2 H2 u l2 r2 h2 => ?_
  exact ixRun_ok r2 (r2.shW (RepW.mono l2 h1) e3) (r2.shW h2 e4) e5 fun g3 H3 v3 l3 r3 h3 => k g3 H3 v3 (l1.trans (l2.trans l3)) r3 h3
theorem ok_sl {a : E} {lo hi : Eo} (ha : OkE K fa C c tb a) (hl : OkO K fa C c tb lo) (hh : OkO K fa C c tb hi) : OkE K fa C c tb (.sl a lo hi) := fun ρ S w S' e g σ H r hσ Q k => by
  simp only [evE] at e
  obtain ⟨⟨x, S1⟩, e1, e⟩ := Option.bind_eq_some_iff.mp e
  obtain ⟨⟨l, S2⟩, e2, e⟩ := Option.bind_eq_some_iff.mp e
  obtain ⟨⟨u, S3⟩, e3, e⟩ := Option.bind_eq_some_iff.mp e
  obtain ⟨x', e4, e⟩ := Option.bind_eq_some_iff.mp e
  obtain ⟨z, e5, e⟩ := Option.map_eq_some_iff.mp e
  cases e
  refine ha _ _ _ _ e1 g σ H r hσ _ fun g1 H1 v l1 r1 h1 => hl _ _ _ _ e2 g1 σ H1 r1 (hσ.mono l1) _ fun g2 H2 l2 r2 => hh _ _ _ _ e3 g2 σ H2 r2 ((hσ.mono l1).mono l2) _ fun g3 H3 l3 r3 => ?_
  exact slRun_ok r3 (r3.shW (RepW.mono (l2.trans l3) h1) e4) e5 fun g4 H4 v4 l4 r4 h4 => k g4 H4 v4 (l1.trans (l2.trans (l3.trans l4))) r4 h4
theorem ok_tup {as : Es} (ha : OkZ K fa C c tb as) : OkE K fa C c tb (.tup as) := fun ρ S w S' e g σ H r hσ Q k => by
  simp only [evE] at e
  obtain ⟨⟨ds, S1⟩, e1, e⟩ := Option.bind_eq_some_iff.mp e
  split at e
  · cases e
    refine ha _ _ _ _ e1 g σ H r hσ _ fun g1 H1 vs l1 r1 h1 => ⟨by rw [h1.length]; assumption, PD.tup r1 (fun g2 H2 v l2 r2 h2 => k g2 H2 v (l1.trans l2) r2 h2) h1⟩
  · cases e
theorem ok_lst {as : Es} (ha : OkZ K fa C c tb as) : OkE K fa C c tb (.lst as) := fun ρ S w S' e g σ H r hσ Q k => by
  simp only [evE] at e
  obtain ⟨⟨ds, S1⟩, e1, e⟩ := Option.bind_eq_some_iff.mp e
  split at e
  · cases e
    refine ha _ _ _ _ e1 g σ H r hσ _ fun g1 H1 vs l1 r1 h1 => ⟨by rw [h1.length]; assumption, PD.lst r1 (fun g2 H2 v l2 r2 h2 => k g2 H2 v (l1.trans l2) r2 h2) h1⟩
  · cases e

/-! ### a comprehension -/
theorem leF {g1 gb g4 : Gh} {p : Addr} {o : HO} (l1 : g1.le gb) (l2 : (gb.hold p o).le g4) : g1.le { g4 with F := g1.F } :=
  ⟨fun a u e => l2.G a u (l1.G a u e), fun i hi => (l2.φ i (Nat.lt_of_lt_of_le hi l1.n)).trans (l1.φ i hi), Nat.le_trans l1.n l2.n, l2.lk.trans l1.lk, rfl⟩
/-- the list is made and held: whoever asked may know it for good, or change it -/
theorem comp_core {vs : List Nat} {tg : Tg} {it : It} {cond : To} {elt : E} (hi : OkI K fa C c tb it) (hc : OkTo K fa C c tb cond) (he : OkE K fa C c tb elt) {ρ : En} {S S2 : Store} {res : List D}
    (e : evE c (.comp vs tg it cond elt) ρ S = some (.d (.lst res), S2)) {g : Gh} {σ : L2.St} {H : Hp} (r : Rel K fa g H S) (hσ : RepEn K fa g σ ρ) {Q : VK}
    (k : ∀ gb H' p accV, g.le gb → (∀ a u, gb.F a = some u → a ≠ p) → Rel K fa (gb.hold p (.lst accV)) H' S2 → RepDs K fa gb.G accV res → Q (.ref p) H') : tE K fa (spC K fa C c) tb (.comp vs tg it cond elt) σ H Q := by
  simp only [evE] at e
  split at e
  case isFalse => cases e
  rename_i htg
  obtain ⟨⟨ds, S1⟩, e1, e⟩ := Option.bind_eq_some_iff.mp e
  obtain ⟨⟨res, S2⟩, e2, e⟩ := Option.map_eq_some_iff.mp e
  cases e
  refine hi _ _ _ _ e1 g σ H r hσ _ fun g1 H1 J l1 r1 src => fun p hp => ?_
  have hFp : ∀ a u, g1.F a = some u → a ≠ p ∧ g1.F a = some u := fun a u ea => ⟨ne_of_none (r1.frm a u ea).1 hp, ea⟩
  generalize hf : (fun (d : D) (S : Store) => (asgn tg d (wipeE ρ vs)).bind fun ρ' => (evTo c cond ρ' S).bind fun q =>
      if q.1 = true then (evE c elt ρ' q.2).bind fun w => (fzW w.1 w.2).map fun z => (some z.1, z.2) else some (none, q.2)) = f at e2
  refine ⟨fun i m H => m = ds.length - i ∧ i ≤ ds.length ∧ ∃ gb S' acc accV, g1.le gb ∧ Rel K fa (gb.hold p (.lst accV)) H S' ∧ RepDs K fa gb.G accV acc ∧ compL f (ds.drop i) S' acc = some (res, S2),
    ⟨_, rfl, Nat.zero_le _, g1, S1, [], [], .refl g1, r1.hold hp, RepDs.nil, by simpa using e2⟩, ?_⟩
  rintro i m H ⟨rfl, hil, gb, S', acc, accV, lb, rb, hacc, ec⟩
  have s0 := src i _ H S' (show GLe g1.G (gb.hold p (.lst accV)).G from lb.G) rb
  rcases Nat.eq_or_lt_of_le hil with hi | hi
  · left
    refine ⟨s0.2 (by omega), ?_⟩
    subst hi
    rw [List.drop_length] at ec
    simp only [compL] at ec
    cases ec
    exact k gb H p accV (l1.trans lb) (fun a u ea => by rw [lb.F] at ea; exact (hFp a u ea).1) rb hacc
  · right
    have hd : ds[i]? = some ds[i] := List.getElem?_eq_getElem hi
    obtain ⟨hgo, hy⟩ := s0.1 _ hd
    have edrop : ds.drop i = ds[i] :: ds.drop (i + 1) := List.drop_eq_getElem_cons hi
    rw [edrop] at ec
    simp only [compL] at ec
    obtain ⟨⟨o, S3⟩, e3, ec⟩ := Option.bind_eq_some_iff.mp ec
    refine ⟨hgo, fun H => ∃ gb S' acc accV, g1.le gb ∧ Rel K fa (gb.hold p (.lst accV)) H S' ∧ RepDs K fa gb.G accV acc ∧ compL f (ds.drop (i + 1)) S' acc = some (res, S2),
      fun H' q => ⟨ds.length - (i + 1), by omega, rfl, hi, q⟩, fun x H' y => ?_⟩
    obtain ⟨g2, l2, r2, hx⟩ := hy x H' y
    rw [← hf] at e3
    obtain ⟨ρ', e4, e3⟩ := Option.bind_eq_some_iff.mp e3
    have hσ2 : RepEn K fa g2 (L2.wipe σ vs) (wipeE ρ vs) := by
      have h1 := (hσ.mono l1).wipe vs
      refine ⟨h1.1, fun j w ej => ?_⟩
      obtain ⟨v, a, b⟩ := h1.2 j w ej
      refine ⟨v, a, ?_⟩
      have b2 := RepW.mono (leF lb l2) b
      cases w with
      | d z => exact b2
      | mu n => exact b2
    refine tg_ok r2 e4 hx hσ2 fun σ2 hσ3 hw => ⟨(hw vs htg).trans wipe_wipe, ?_⟩
    -- the element, once the test has let it in
    have elem : ∀ g3 H3 S4, g2.le g3 → Rel K fa g3 H3 S4 → ((evE c elt ρ' S4).bind fun w => (fzW w.1 w.2).map fun z => (some z.1, z.2)) = some (o, S3) →
        tE K fa (spC K fa C c) tb elt σ2 H3 fun y H4 => ∃ acc, H4 p = some (.lst acc) ∧ acc.length < sizeLine ∧ (fun H => ∃ gb S' acc accV, g1.le gb ∧ Rel K fa (gb.hold p (.lst accV)) H S' ∧ RepDs K fa gb.G accV acc ∧ compL f (ds.drop (i + 1)) S' acc = some (res, S2)) (upd H4 p (.lst (acc ++ [y]))) := fun g3 H3 S4 l3 r3 e5 => by
      obtain ⟨⟨w5, S5⟩, e6, e5⟩ := Option.bind_eq_some_iff.mp e5
      obtain ⟨⟨d5, S6⟩, e7, e5⟩ := Option.map_eq_some_iff.mp e5
      cases e5
      refine he _ _ _ _ e6 g3 σ2 H3 r3 (hσ3.mono l3) _ fun g4 H4 y l4 r4 h4 => ?_
      obtain ⟨g5, l5, r5, h5⟩ := r4.fz h4 e7
      have l25 := l2.trans (l3.trans (l4.trans l5))
      have hF5 : g5.F p = some (.lst accV) := by rw [l25.F]; exact upd_same
      simp only at ec
      split at ec
      case isFalse => cases ec
      rename_i hz
      refine ⟨accV, (r5.frm p _ hF5).1, by rw [hacc.length]; exact hz, { g5 with F := g1.F }, _, acc ++ [d5], accV ++ [y], leF lb l25, ?_, RepDs.append (RepDs.mono l25.G hacc) (RepDs.cons h5 RepDs.nil), ec⟩
      have r6 := r5.rehold (o' := .lst (accV ++ [y])) hF5
      have ef : upd g5.F p (HO.lst (accV ++ [y])) = upd g1.F p (HO.lst (accV ++ [y])) := by
        rw [l25.F]
        show upd (upd gb.F p _) p _ = _
        rw [upd_upd, lb.F]
      rw [ef] at r6
      exact r6
    obtain ⟨⟨b, S4⟩, e5, e3⟩ := Option.bind_eq_some_iff.mp e3
    cases cond with
    | none =>
      simp only [evTo] at e5
      cases e5
      simp only [tTo]
      unfold tYes
      simp only [if_true] at e3 ⊢
      exact elem g2 H' S' (Gh.le.refl g2) r2 e3
    | some t =>
      simp only [evTo] at e5
      refine hc _ _ _ _ e5 g2 σ2 H' r2 hσ3 _ fun g3 H3 l3 r3 => ?_
      cases b with
      | true =>
        rw [if_pos rfl]
        simp only [if_true] at e3
        exact elem g3 H3 S4 l3 r3 e3
      | false =>
        rw [if_neg (fun z => nomatch z)]
        simp only [Bool.false_eq_true, if_false] at e3
        cases e3
        have l23 := l2.trans l3
        refine ⟨{ g3 with F := g1.F }, S3, acc, accV, leF lb l23, ?_, RepDs.mono l23.G hacc, ec⟩
        have hF3 : g3.F = upd g1.F p (.lst accV) := by rw [l23.F, ← lb.F]; rfl
        have r6 := r3
        show Rel K fa { g3 with F := upd g1.F p (.lst accV) } H3 S3
        rw [← hF3]
        exact r6

theorem ok_comp {vs : List Nat} {tg : Tg} {it : It} {cond : To} {elt : E} (hi : OkI K fa C c tb it) (hc : OkTo K fa C c tb cond) (he : OkE K fa C c tb elt) : OkE K fa C c tb (.comp vs tg it cond elt) := fun ρ S w S' e g σ H r hσ Q k => by
  have ew : ∃ res, w = .d (.lst res) := by
    simp only [evE] at e
    split at e
    case isFalse => cases e
    obtain ⟨⟨ds, S1⟩, e1, e⟩ := Option.bind_eq_some_iff.mp e
    obtain ⟨⟨res, S2⟩, e2, e⟩ := Option.map_eq_some_iff.mp e
    cases e
    exact ⟨_, rfl⟩
  obtain ⟨res, rfl⟩ := ew
  refine comp_core hi hc he e r hσ fun gb H' p accV lb hF rb hacc => ?_
  obtain ⟨rf, hg⟩ := rb.unhold (p := p) (o := .lst accV) (F0 := gb.F) upd_same fun a u ea => ⟨hF a u ea, by show upd gb.F p _ a = some u; rw [upd_ne (hF a u ea)]; exact ea⟩
  have la := (Gh.le_add (g := gb.hold p (.lst accV)) (p := p) (o := HO.lst accV) hg)
  refine k _ H' _ (lb.trans (leF (.refl gb) la)) rf ?_
  simp only [RepW, RepD]
  exact ⟨p, accV, rfl, upd_same, RepDs.mono la.G hacc⟩

/-! ### tests, arguments, parts, walks -/
theorem okT_val {e : E} (h : OkE K fa C c tb e) : OkT K fa C c tb (.val e) := fun ρ S w S' ev g σ H r hσ Q k => by
  simp only [evT] at ev
  obtain ⟨⟨x, S1⟩, e1, ev⟩ := Option.bind_eq_some_iff.mp ev
  split at ev
  · rename_i b hb
    cases ev
    obtain rfl : x = _ := hb
    refine h _ _ _ _ e1 g σ H r hσ _ fun g1 H1 v l1 r1 h1 => ?_
    simp only [RepW, RepD] at h1
    exact ⟨w, h1, k g1 H1 l1 r1⟩
  · cases ev
theorem okT_and {a b : T} (ha : OkT K fa C c tb a) (hb : OkT K fa C c tb b) : OkT K fa C c tb (.and a b) := fun ρ S w S' e g σ H r hσ Q k => by
  simp only [evT] at e
  obtain ⟨⟨x, S1⟩, e1, e⟩ := Option.bind_eq_some_iff.mp e
  refine ha _ _ _ _ e1 g σ H r hσ _ fun g1 H1 l1 r1 => ?_
  cases x with
  | true =>
    rw [if_pos rfl] at e ⊢
    exact hb _ _ _ _ e g1 σ H1 r1 (hσ.mono l1) Q fun g2 H2 l2 r2 => k g2 H2 (l1.trans l2) r2
  | false =>
    rw [if_neg (fun z => nomatch z)] at e ⊢
    cases e
    exact k g1 H1 l1 r1
theorem okT_or {a b : T} (ha : OkT K fa C c tb a) (hb : OkT K fa C c tb b) : OkT K fa C c tb (.or a b) := fun ρ S w S' e g σ H r hσ Q k => by
  simp only [evT] at e
  obtain ⟨⟨x, S1⟩, e1, e⟩ := Option.bind_eq_some_iff.mp e
  refine ha _ _ _ _ e1 g σ H r hσ _ fun g1 H1 l1 r1 => ?_
  cases x with
  | true =>
    rw [if_pos rfl] at e ⊢
    cases e
    exact k g1 H1 l1 r1
  | false =>
    rw [if_neg (fun z => nomatch z)] at e ⊢
    exact hb _ _ _ _ e g1 σ H1 r1 (hσ.mono l1) Q fun g2 H2 l2 r2 => k g2 H2 (l1.trans l2) r2
theorem okT_not {a : T} (ha : OkT K fa C c tb a) : OkT K fa C c tb (.not a) := fun ρ S w S' e g σ H r hσ Q k => by
  simp only [evT] at e
  obtain ⟨⟨x, S1⟩, e1, e⟩ := Option.map_eq_some_iff.mp e
  cases e
  exact ha _ _ _ _ e1 g σ H r hσ _ fun g1 H1 l1 r1 => k g1 H1 l1 r1
theorem okEs_nil : OkEs K fa C c tb .nil := fun ρ S w S' e g σ H r hσ Q k => by
  simp only [evEs] at e
  cases e
  exact k g H [] (.refl g) r .nil
theorem okEs_cons {a : E} {as : Es} (ha : OkE K fa C c tb a) (h : OkEs K fa C c tb as) : OkEs K fa C c tb (.cons a as) := fun ρ S w S' e g σ H r hσ Q k => by
  simp only [evEs] at e
  obtain ⟨⟨x, S1⟩, e1, e⟩ := Option.bind_eq_some_iff.mp e
  obtain ⟨⟨ws, S2⟩, e2, e⟩ := Option.map_eq_some_iff.mp e
  cases e
  refine ha _ _ _ _ e1 g σ H r hσ _ fun g1 H1 v l1 r1 h1 => h _ _ _ _ e2 g1 σ H1 r1 (hσ.mono l1) _ fun g2 H2 vs l2 r2 h2 => ?_
  exact k g2 H2 _ (l1.trans l2) r2 (.cons (RepW.mono l2 h1) h2)
theorem okZ_nil : OkZ K fa C c tb .nil := fun ρ S w S' e g σ H r hσ Q k => by
  simp only [evZ] at e
  cases e
  exact k g H [] (.refl g) r RepDs.nil
theorem okZ_cons {a : E} {as : Es} (ha : OkE K fa C c tb a) (h : OkZ K fa C c tb as) : OkZ K fa C c tb (.cons a as) := fun ρ S w S' e g σ H r hσ Q k => by
  simp only [evZ] at e
  obtain ⟨⟨x, S1⟩, e1, e⟩ := Option.bind_eq_some_iff.mp e
  obtain ⟨⟨d, S2⟩, e2, e⟩ := Option.bind_eq_some_iff.mp e
  obtain ⟨⟨ws, S3⟩, e3, e⟩ := Option.map_eq_some_iff.mp e
  cases e
  refine ha _ _ _ _ e1 g σ H r hσ _ fun g1 H1 v l1 r1 h1 => ?_
  obtain ⟨g2, l2, r2, h2⟩ := r1.fz h1 e2
  refine h _ _ _ _ e3 g2 σ H1 r2 ((hσ.mono l1).mono l2) _ fun g3 H3 vs l3 r3 h3 => ?_
  exact k g3 H3 _ (l1.trans (l2.trans l3)) r3 (RepDs.cons (RepD.mono l3.G h2) h3)
theorem okO_none : OkO K fa C c tb .none := fun ρ S w S' e g σ H r hσ Q k => by
  simp only [evO] at e
  cases e
  exact k g H (.refl g) r
theorem okO_some {a : E} (ha : OkE K fa C c tb a) : OkO K fa C c tb (.some a) := fun ρ S w S' e g σ H r hσ Q k => by
  simp only [evO] at e
  obtain ⟨⟨x, S1⟩, e1, e⟩ := Option.bind_eq_some_iff.mp e
  split at e
  · rename_i i hb
    cases e
    obtain rfl : x = _ := hb
    refine ha _ _ _ _ e1 g σ H r hσ _ fun g1 H1 v l1 r1 h1 => ?_
    simp only [RepW, RepD] at h1
    exact ⟨i, h1, k g1 H1 l1 r1⟩
  · cases e
theorem okI_seq {a : E} (ha : OkE K fa C c tb a) : OkI K fa C c tb (.seq a) := fun ρ S ds S' e g σ H r hσ R k => by
  simp only [evI] at e
  obtain ⟨⟨x, S1⟩, e1, e⟩ := Option.bind_eq_some_iff.mp e
  split at e
  · rename_i ds' hb
    cases e
    obtain rfl : x = _ := hb
    left
    refine ha _ _ _ _ e1 g σ H r hσ _ fun g1 H1 v l1 r1 h1 => ?_
    simp only [RepW, RepD] at h1
    obtain ⟨a, vs, rfl, q, h2⟩ := h1
    exact ⟨a, rfl, ⟨vs, .of (r1.lst q)⟩, k g1 H1 _ l1 r1 (src_list q h2)⟩
  · rename_i ds' hb
    cases e
    obtain rfl : x = _ := hb
    refine .inr (.inl ?_)
    refine ha _ _ _ _ e1 g σ H r hσ _ fun g1 H1 v l1 r1 h1 => ?_
    simp only [RepW, RepD] at h1
    obtain ⟨a, vs, rfl, q, h2⟩ := h1
    exact ⟨a, rfl, ⟨vs, r1.sqT q⟩, k g1 H1 _ l1 r1 (src_tup q h2)⟩
  · rename_i y hb
    cases e
    obtain rfl : x = _ := hb
    refine .inr (.inr ?_)
    refine ha _ _ _ _ e1 g σ H r hσ _ fun g1 H1 v l1 r1 h1 => ?_
    simp only [RepW, RepD] at h1
    exact ⟨y, h1, k g1 H1 _ l1 r1 (src_str y)⟩
  · cases e
theorem okI_r1 {a : E} (ha : OkE K fa C c tb a) : OkI K fa C c tb (.r1 a) := fun ρ S ds S' e g σ H r hσ R k => by
  simp only [evI] at e
  obtain ⟨⟨x, S1⟩, e1, e⟩ := Option.bind_eq_some_iff.mp e
  split at e
  · rename_i i hb
    obtain rfl : x = _ := hb
    split at e
    · rename_i hz
      cases e
      refine ha _ _ _ _ e1 g σ H r hσ _ fun g1 H1 v l1 r1 h1 => ?_
      simp only [RepW, RepD] at h1
      subst h1
      exact ⟨i, rfl, hz.1, hz.2, k g1 H1 _ l1 r1 (src_range 0 _)⟩
    · cases e
  · cases e
theorem okI_r2 {a b : E} (ha : OkE K fa C c tb a) (hb : OkE K fa C c tb b) : OkI K fa C c tb (.r2 a b) := fun ρ S ds S' e g σ H r hσ R k => by
  simp only [evI] at e
  obtain ⟨⟨x, S1⟩, e1, e⟩ := Option.bind_eq_some_iff.mp e
  obtain ⟨⟨y, S2⟩, e2, e⟩ := Option.bind_eq_some_iff.mp e
  split at e
  · rename_i i j h1 h2
    obtain rfl : x = _ := h1
    obtain rfl : y = _ := h2
    split at e
    · rename_i hz
      cases e
      refine ha _ _ _ _ e1 g σ H r hσ _ fun g1 H1 v l1 r1 h1 => hb _ _ _ _ e2 g1 σ H1 r1 (hσ.mono l1) _ fun g2 H2 u l2 r2 h2 => ?_
      simp only [RepW, RepD] at h1 h2
      subst h1; subst h2
      exact ⟨i, j, rfl, hz, k g2 H2 _ (l1.trans l2) r2 (src_range i _)⟩
    · cases e
  · cases e
theorem okI_zip {a b : E} (ha : OkE K fa C c tb a) (hb : OkE K fa C c tb b) : OkI K fa C c tb (.zip a b) := fun ρ S ds S' e g σ H r hσ R k => by
  simp only [evI] at e
  obtain ⟨⟨x, S1⟩, e1, e⟩ := Option.bind_eq_some_iff.mp e
  obtain ⟨⟨y, S2⟩, e2, e⟩ := Option.bind_eq_some_iff.mp e
  obtain ⟨xs, e3, e⟩ := Option.bind_eq_some_iff.mp e
  obtain ⟨ys, e4, e⟩ := Option.map_eq_some_iff.mp e
  cases e
  refine ha _ _ _ _ e1 g σ H r hσ _ fun g1 H1 v l1 r1 h1 => hb _ _ _ _ e2 g1 σ H1 r1 (hσ.mono l1) _ fun g2 H2 u l2 r2 h2 => ?_
  obtain ⟨k1, p, vs, rfl, q1, q2⟩ := seqOf_ok e3 (RepW.mono l2 h1)
  obtain ⟨k2, p', vs', rfl, q1', q2'⟩ := seqOf_ok e4 h2
  exact ⟨k1, k2, p, p', vs, vs', rfl, q1.sq r2, q1'.sq r2, k g2 H2 _ (l1.trans l2) r2 (src_zip q1 q2 q1' q2')⟩

mutual
theorem okE (htb : ∀ f ws S r, c f ws S = some r → tb f) : ∀ e : E, OkE K fa C c tb e
  | .var _ => ok_var
  | .cst _ => ok_cst
  | .fnv _ => ok_fnv
  | .bin _ a b => ok_bin (okE htb a) (okE htb b)
  | .neg a => ok_neg (okE htb a)
  | .cmp _ a b => ok_cmp (okE htb a) (okE htb b)
  | .chain _ _ a b q => ok_chain (okE htb a) (okE htb b) (okE htb q)
  | .isN a => ok_isN (okE htb a)
  | .notN a => ok_notN (okE htb a)
  | .and a b => ok_and (okE htb a) (okE htb b)
  | .or a b => ok_or (okE htb a) (okE htb b)
  | .not a => ok_not (okE htb a)
  | .ite t a b => ok_ite (okT htb t) (okE htb a) (okE htb b)
  | .call _ as => ok_call (okEs htb as)
  | .callv _ as => ok_callv htb (okEs htb as)
  | .bi _ as => ok_bi (okEs htb as)
  | .isi1 a _ => ok_isi1 (okE htb a)
  | .isi2 a _ _ => ok_isi2 (okE htb a)
  | .mt0 _ a => ok_mt0 (okE htb a)
  | .mt1 _ a b => ok_mt1 (okE htb a) (okE htb b)
  | .ix a b => ok_ix (okE htb a) (okE htb b)
  | .sl a lo hi => ok_sl (okE htb a) (okO htb lo) (okO htb hi)
  | .tup as => ok_tup (okZ htb as)
  | .lst as => ok_lst (okZ htb as)
  | .comp _ _ it cond elt => ok_comp (okI htb it) (okTo htb cond) (okE htb elt)
theorem okT (htb : ∀ f ws S r, c f ws S = some r → tb f) : ∀ e : T, OkT K fa C c tb e
  | .val e => okT_val (okE htb e)
  | .and a b => okT_and (okT htb a) (okT htb b)
  | .or a b => okT_or (okT htb a) (okT htb b)
  | .not a => okT_not (okT htb a)
theorem okTo (htb : ∀ f ws S r, c f ws S = some r → tb f) : ∀ e : To, OkTo K fa C c tb e
  | .none => trivial
  | .some t => okT htb t
theorem okEs (htb : ∀ f ws S r, c f ws S = some r → tb f) : ∀ e : Es, OkEs K fa C c tb e
  | .nil => okEs_nil
  | .cons a as => okEs_cons (okE htb a) (okEs htb as)
theorem okZ (htb : ∀ f ws S r, c f ws S = some r → tb f) : ∀ e : Es, OkZ K fa C c tb e
  | .nil => okZ_nil
  | .cons a as => okZ_cons (okE htb a) (okZ htb as)
theorem okO (htb : ∀ f ws S r, c f ws S = some r → tb f) : ∀ e : Eo, OkO K fa C c tb e
  | .none => okO_none
  | .some a => okO_some (okE htb a)
theorem okI (htb : ∀ f ws S r, c f ws S = some r → tb f) : ∀ e : It, OkI K fa C c tb e
  | .seq a => okI_seq (okE htb a)
  | .r1 a => okI_r1 (okE htb a)
  | .r2 a b => okI_r2 (okE htb a) (okE htb b)
  | .zip a b => okI_zip (okE htb a) (okE htb b)
end
end
end Pv

set_option Elab.async false
set_option linter.all false
set_option maxRecDepth 100000
set_option maxHeartbeats 4000000
/-! The language's meaning holds in the layer: statements, defs. -/
namespace Pv
open PySem L2

section
variable {K : PySem.W.Frag} {fa : Nat → Addr} {C : Addr} {W : WX} {c : Call} {tb : Nat → Prop} {g : Gh} {H : Hp} {S : Store}
/-- a held list may change from now on -/
theorem Rel.pushHeld {p : Addr} {o : HO} {mo : MO} (r : Rel K fa (g.hold p o) H S) (hF : ∀ a u, g.F a = some u → a ≠ p) (hm : RepM K fa g.G o mo) : Rel K fa (g.push p) H (S ++ [mo]) := by
  obtain ⟨q1, q2, q3⟩ := r.frm p o upd_same
  have rl : S.length = g.n := r.len
  have old : ∀ {i : Nat}, i < S.length → (g.push p).φ i = g.φ i := fun {i} hi => by
    show (if i = g.n then p else g.φ i) = g.φ i
    rw [if_neg (by omega)]
  have new : (g.push p).φ S.length = p := by
    show (if S.length = g.n then p else g.φ S.length) = p
    rw [if_pos rl]
  refine ⟨by simp [Gh.push, rl], r.ext, fun i m e hm' => ?_, fun i j mi mj ei ej hi hj q => ?_, fun a u e => ?_⟩
  · rcases getElem?_push e with ⟨e1, hl⟩ | ⟨rfl, rfl⟩
    · rw [old hl]; exact r.live i m e1 hm'
    · rw [new]; exact ⟨o, q1, hm, q2⟩
  · rcases getElem?_push ei with ⟨e1, l1⟩ | ⟨rfl, rfl⟩
    · rcases getElem?_push ej with ⟨e2, l2⟩ | ⟨rfl, rfl⟩
      · rw [old l1, old l2] at q
        exact r.inj i j mi mj e1 e2 hi hj q
      · rw [old l1, new] at q
        exact absurd q (q3 i mi e1 hi)
    · rcases getElem?_push ej with ⟨e2, l2⟩ | ⟨rfl, rfl⟩
      · rw [new, old l2] at q
        exact absurd q.symm (q3 j mj e2 hj)
      · rfl
  · have ne : a ≠ p := hF a u e
    obtain ⟨h1, h2, h3⟩ := r.frm a u (by show upd g.F p o a = some u; rw [upd_ne ne]; exact e)
    refine ⟨h1, h2, fun i m ei hi => ?_⟩
    rcases getElem?_push ei with ⟨e1, l1⟩ | ⟨rfl, rfl⟩
    · rw [old l1]; exact h3 i m e1 hi
    · rw [new]; exact ne.symm
theorem lstAt_some {S : Store} {n : Nat} {ds : List D} (h : lstAt S n = some ds) : S[n]? = some (.lst ds) := by
  unfold lstAt at h
  split at h
  · cases h; assumption
  · cases h
theorem repl_ok {κ : Type} [DecidableEq κ] {G : Hp} {k : κ} {d : D} {v : V} (hv : RepD K fa G v d) : ∀ {kvs : List (κ × V)} {ds : List D}, RepDs K fa G (kvs.map (·.2)) ds →
    RepDs K fa G ((kvs.map fun kv => if kv.1 = k then (kv.1, v) else kv).map (·.2)) (repl k d (kvs.map (·.1)) ds)
  | [], ds, h => by
    have := h.length
    cases ds with
    | nil => exact RepDs.nil
    | cons => simp at this
  | kv :: kvs, ds, h => by
    cases ds with
    | nil => have := h.length; simp at this
    | cons x ds =>
      simp only [List.map_cons, RepDs] at h
      obtain ⟨v', t, e, h1, h2⟩ := h
      injection e with e1 e2
      subst e1; subst e2
      simp only [List.map_cons, repl]
      refine RepDs.cons ?_ (repl_ok hv h2)
      split
      · exact hv
      · exact h1
theorem putD_ok {κ : Type} [DecidableEq κ] {G : Hp} {k : κ} {d : D} {v : V} (hv : RepD K fa G v d) {kvs : List (κ × V)} {ds : List D} (h : RepDs K fa G (kvs.map (·.2)) ds) :
    (putK kvs k v).map (·.1) = (putD k d (kvs.map (·.1)) ds).1 ∧ RepDs K fa G ((putK kvs k v).map (·.2)) (putD k d (kvs.map (·.1)) ds).2 := by
  have ea : ((kvs.map (·.1)).any fun q => decide (q = k)) = kvs.any fun kv => decide (kv.1 = k) := by
    rw [List.any_map]; rfl
  unfold putK putD
  rw [ea]
  split
  · refine ⟨?_, repl_ok hv h⟩
    show List.map _ (List.map _ kvs) = List.map _ kvs
    rw [List.map_map]
    apply List.map_congr_left
    intro kv _
    show (if kv.1 = k then (kv.1, v) else kv).1 = kv.1
    split <;> rfl
  · refine ⟨by simp, ?_⟩
    rw [List.map_append]
    exact RepDs.append h (RepDs.cons hv RepDs.nil)

/-! ### what is wanted behind a statement -/
def POut (K : PySem.W.Frag) (fa : Nat → Addr) (C : Addr) (W : WX) (g : Gh) (Z : Ends) : Out → Prop
  | .nx ρ S => ∀ g' σ H, g.le g' → Rel K fa g' H S → RepEn K fa g' σ ρ → Z.nx σ H
  | .bk ρ S => ∀ g' σ H, g.le g' → Rel K fa g' H S → RepEn K fa g' σ ρ → Z.bk σ H
  | .ct ρ S => ∀ g' σ H, g.le g' → Rel K fa g' H S → RepEn K fa g' σ ρ → Z.ct σ H
  | .rt d S => PD K fa g S Z.rt d
  | .xc d S => ∀ σ, PX K fa C g S (WE W σ) d
theorem POut.mono {g g' : Gh} {Z : Ends} (l : g.le g') : ∀ {o : Out}, POut K fa C W g Z o → POut K fa C W g' Z o
  | .nx _ _, h => fun g2 σ H l2 => h g2 σ H (l.trans l2)
  | .bk _ _, h => fun g2 σ H l2 => h g2 σ H (l.trans l2)
  | .ct _ _, h => fun g2 σ H l2 => h g2 σ H (l.trans l2)
  | .rt _ _, h => fun g2 H v l2 => h g2 H v (l.trans l2)
  | .xc _ _, h => fun σ g2 H dd vv l2 => h σ g2 H dd vv (l.trans l2)
def OkS (K : PySem.W.Frag) (fa : Nat → Addr) (C : Addr) (W : WX) (c : Call) (tb : Nat → Prop) (s : Pv.S) : Prop := ∀ ρ S o, evS c s ρ S = some o → ∀ g σ H, Rel K fa g H S → RepEn K fa g σ ρ → ∀ Z : Ends, POut K fa C W g Z o → tS K fa (spC K fa C c) tb C W s Z σ H
def OkSs (K : PySem.W.Frag) (fa : Nat → Addr) (C : Addr) (W : WX) (c : Call) (tb : Nat → Prop) (s : Ss) : Prop := ∀ ρ S o, evSs c s ρ S = some o → ∀ g σ H, Rel K fa g H S → RepEn K fa g σ ρ → ∀ Z : Ends, POut K fa C W g Z o → tSs K fa (spC K fa C c) tb C W s Z σ H

variable (htb : ∀ f ws S r, c f ws S = some r → tb f)
theorem okS_asg {tg : Tg} {e : E} (he : OkE K fa C c tb e) : OkS K fa C W c tb (.asg tg e) := fun ρ S o ev g σ H r hσ Z k => by
  simp only [evS] at ev
  obtain ⟨⟨w, S1⟩, e1, ev⟩ := Option.bind_eq_some_iff.mp ev
  refine he _ _ _ _ e1 g σ H r hσ _ fun g1 H1 v l1 r1 h1 => ?_
  have gen : ∀ {tg : Tg} {d : D} {o : Out}, RepD K fa g1.G v d → ((asgn tg d ρ).map fun ρ' => Out.nx ρ' S1) = some o → POut K fa C W g Z o → tTg K tg v σ H1 Z.nx := fun h1 ev k => by
    obtain ⟨ρ', e2, ev⟩ := Option.map_eq_some_iff.mp ev
    cases ev
    exact tg_ok r1 e2 h1 (hσ.mono l1) fun σ' h2 _ => k g1 σ' H1 l1 r1 h2
  split at ev
  · split at ev
    · cases ev
      exact k g1 _ H1 l1 r1 ((hσ.mono l1).set h1)
    · cases ev
  · split at ev
    · rename_i d hw
      obtain rfl : w = _ := hw
      exact gen h1 ev k
    · cases ev
theorem okS_par {i j : Nat} {a b : E} (ha : OkE K fa C c tb a) (hb : OkE K fa C c tb b) : OkS K fa C W c tb (.par i j a b) := fun ρ S o ev g σ H r hσ Z k => by
  simp only [evS] at ev
  obtain ⟨⟨x, S1⟩, e1, ev⟩ := Option.bind_eq_some_iff.mp ev
  obtain ⟨⟨y, S2⟩, e2, ev⟩ := Option.bind_eq_some_iff.mp ev
  split at ev
  · cases ev
    refine ha _ _ _ _ e1 g σ H r hσ _ fun g1 H1 v l1 r1 h1 => hb _ _ _ _ e2 g1 σ H1 r1 (hσ.mono l1) _ fun g2 H2 u l2 r2 h2 => ?_
    exact ⟨v, u, rfl, k g2 _ H2 (l1.trans l2) r2 ((((hσ.mono l1).mono l2).set (RepW.mono l2 h1)).set h2)⟩
  · cases ev
theorem okS_newD {i : Nat} : OkS K fa C W c tb (.newD i) := fun ρ S o ev g σ H r hσ Z k => by
  simp only [evS] at ev
  split at ev
  · cases ev
    intro p hp
    have r1 := r.push (o := .dK []) (mo := .dK [] []) hp ⟨[], rfl, rfl, RepDs.nil⟩
    refine k (g.push p) _ _ Gh.le_push r1 ((hσ.mono Gh.le_push).set ?_)
    refine ⟨?_, by show S.length < g.n + 1; rw [r.len]; omega⟩
    show V.ref p = V.ref (if S.length = g.n then p else g.φ S.length)
    rw [if_pos r.len]
  · cases ev
theorem mu_new {p : Addr} (hl : S.length = g.n) : RepW K fa (g.push p) (.ref p) (.mu S.length) := by
  refine ⟨?_, by show S.length < g.n + 1; omega⟩
  show V.ref p = V.ref (if S.length = g.n then p else g.φ S.length)
  rw [if_pos hl]
theorem okS_newL {i : Nat} {as : Es} (ha : OkZ K fa C c tb as) : OkS K fa C W c tb (.newL i as) := fun ρ S o ev g σ H r hσ Z k => by
  simp only [evS] at ev
  obtain ⟨⟨ds, S1⟩, e1, ev⟩ := Option.bind_eq_some_iff.mp ev
  split at ev
  · rename_i hz
    cases ev
    refine ha _ _ _ _ e1 g σ H r hσ _ fun g1 H1 vs l1 r1 h1 => ⟨by rw [h1.length]; exact hz.2, fun p hp => ?_⟩
    have r2 := r1.push (o := .lst vs) (mo := .lst ds) hp ⟨vs, rfl, h1⟩
    exact k (g1.push p) _ _ (l1.trans Gh.le_push) r2 (((hσ.mono l1).mono Gh.le_push).set (mu_new r1.len))
  · cases ev
theorem okS_newC {i : Nat} {vs : List Nat} {tg : Tg} {it : It} {cond : To} {elt : E} (hi : OkI K fa C c tb it) (hc : OkTo K fa C c tb cond) (he : OkE K fa C c tb elt) : OkS K fa C W c tb (.newC i vs tg it cond elt) := fun ρ S o ev g σ H r hσ Z k => by
  simp only [evS] at ev
  obtain ⟨⟨w, S1⟩, e1, ev⟩ := Option.bind_eq_some_iff.mp ev
  split at ev
  · rename_i ds hw
    obtain rfl : w = _ := hw
    split at ev
    · cases ev
      refine comp_core (Q := fun v H1 => gName i v σ H1 Z.nx) hi hc he e1 r hσ fun gb H' p accV lb hF rb hacc => ?_
      have r2 := rb.pushHeld (mo := .lst ds) hF ⟨accV, rfl, hacc⟩
      exact k (gb.push p) _ _ (lb.trans Gh.le_push) r2 (((hσ.mono lb).mono Gh.le_push).set (mu_new rb.len))
    · cases ev
  · cases ev
theorem okS_app {i : Nat} {e : E} (he : OkE K fa C c tb e) : OkS K fa C W c tb (.app i e) := fun ρ S o ev g σ H r hσ Z k => by
  simp only [evS] at ev
  split at ev
  · rename_i n hn
    obtain ⟨ds0, e0, ev⟩ := Option.bind_eq_some_iff.mp ev
    obtain ⟨⟨w, S1⟩, e1, ev⟩ := Option.bind_eq_some_iff.mp ev
    obtain ⟨⟨d, S2⟩, e2, ev⟩ := Option.bind_eq_some_iff.mp ev
    obtain ⟨ds, e3, ev⟩ := Option.bind_eq_some_iff.mp ev
    split at ev
    · rename_i hz
      cases ev
      obtain ⟨v, q1, rfl, q3⟩ := hσ.2 i _ hn
      obtain ⟨u0, m1, ⟨vs0, rfl, m2⟩, m3⟩ := r.live n _ (lstAt_some e0) (fun z => nomatch z)
      refine ⟨_, q1, .inl ⟨rfl, vs0, .of m1⟩, he _ _ _ _ e1 g σ H r hσ _ fun g1 H1 v1 l1 r1 h1 => ?_⟩
      obtain ⟨g2, l2, r2, h2⟩ := r1.fz h1 e2
      obtain ⟨u, n1, ⟨vs, rfl, n2⟩, n3⟩ := r2.live n _ (lstAt_some e3) (fun z => nomatch z)
      have ef : g2.φ n = g.φ n := ((l1.trans l2).φ n q3)
      have r3 := r2.write (mo := .lst (ds ++ [d])) (o := .lst (vs ++ [v1])) (lstAt_some e3) (fun z => nomatch z) ⟨_, rfl, RepDs.append n2 (RepDs.cons h2 RepDs.nil)⟩
      rw [ef] at n1 r3
      exact ⟨g.φ n, vs, v1, rfl, rfl, n1, by rw [n2.length]; exact hz, k g2 σ _ (l1.trans l2) r3 ((hσ.mono l1).mono l2)⟩
    · cases ev
  · cases ev
theorem okS_setL {i : Nat} {q e : E} (hq : OkE K fa C c tb q) (he : OkE K fa C c tb e) : OkS K fa C W c tb (.setL i q e) := fun ρ S o ev g σ H r hσ Z k => by
  simp only [evS] at ev
  split at ev
  · rename_i n hn
    obtain ⟨⟨w, S1⟩, e1, ev⟩ := Option.bind_eq_some_iff.mp ev
    obtain ⟨⟨d, S2⟩, e2, ev⟩ := Option.bind_eq_some_iff.mp ev
    obtain ⟨⟨x, S3⟩, e3, ev⟩ := Option.bind_eq_some_iff.mp ev
    split at ev
    · rename_i z hx
      obtain rfl : x = _ := hx
      obtain ⟨ds, e4, ev⟩ := Option.bind_eq_some_iff.mp ev
      obtain ⟨j, e5, ev⟩ := Option.map_eq_some_iff.mp ev
      cases ev
      refine he _ _ _ _ e1 g σ H r hσ _ fun g1 H1 v1 l1 r1 h1 => ?_
      obtain ⟨g2, l2, r2, h2⟩ := r1.fz h1 e2
      obtain ⟨v, q1, rfl, q3⟩ := hσ.2 i _ hn
      refine ⟨_, q1, hq _ _ _ _ e3 g2 σ H1 r2 ((hσ.mono l1).mono l2) _ fun g3 H3 v3 l3 r3 h3 => ?_⟩
      simp only [RepW, RepD] at h3
      subst h3
      obtain ⟨u, n1, ⟨vs, rfl, n2⟩, n3⟩ := r3.live n _ (lstAt_some e4) (fun z => nomatch z)
      have lt := l1.trans (l2.trans l3)
      have ef : g3.φ n = g.φ n := lt.φ n q3
      have r4 := r3.write (mo := .lst (ds.set j d)) (o := .lst (vs.set j v1)) (lstAt_some e4) (fun z => nomatch z) ⟨_, rfl, RepDs.set j n2 (RepD.mono l3.G h2)⟩
      rw [ef] at n1 r4
      exact ⟨g.φ n, vs, z, j, rfl, rfl, n1, by rw [n2.length]; exact e5, k g3 σ _ lt r4 (hσ.mono lt)⟩
    · cases ev
  · cases ev
theorem keyOf_ok {G : Hp} {d : D} {k : Key} {v : V} (h : keyOf d = some k) (q : RepD K fa G v d) : v = kV k := by
  unfold keyOf at h
  split at h
  · cases h; simp only [RepD] at q; exact q
  · cases h; simp only [RepD] at q; exact q
  · cases h
theorem okS_setD {i : Nat} {q e : E} (hq : OkE K fa C c tb q) (he : OkE K fa C c tb e) : OkS K fa C W c tb (.setD i q e) := fun ρ S o ev g σ H r hσ Z k => by
  simp only [evS] at ev
  split at ev
  · rename_i n hn
    obtain ⟨⟨w, S1⟩, e1, ev⟩ := Option.bind_eq_some_iff.mp ev
    obtain ⟨⟨d, S2⟩, e2, ev⟩ := Option.bind_eq_some_iff.mp ev
    obtain ⟨⟨x, S3⟩, e3, ev⟩ := Option.bind_eq_some_iff.mp ev
    split at ev
    · rename_i kd ks ds hx hs
      obtain rfl : x = _ := hx
      obtain ⟨kk, e5, ev⟩ := Option.bind_eq_some_iff.mp ev
      split at ev
      · rename_i hz
        cases ev
        refine he _ _ _ _ e1 g σ H r hσ _ fun g1 H1 v1 l1 r1 h1 => ?_
        obtain ⟨g2, l2, r2, h2⟩ := r1.fz h1 e2
        obtain ⟨v, q1, rfl, q3⟩ := hσ.2 i _ hn
        refine ⟨_, q1, hq _ _ _ _ e3 g2 σ H1 r2 ((hσ.mono l1).mono l2) _ fun g3 H3 v3 l3 r3 h3 => ?_⟩
        obtain rfl := keyOf_ok e5 h3
        obtain ⟨u, n1, ⟨kvs, rfl, rfl, n2⟩, n3⟩ := r3.live n _ hs (fun z => nomatch z)
        have lt := l1.trans (l2.trans l3)
        have ef : g3.φ n = g.φ n := lt.φ n q3
        obtain ⟨p1, p2⟩ := putD_ok (k := kk) (RepD.mono l3.G h2) n2
        have r4 := r3.write (mo := .dK _ _) (o := .dK (putK kvs kk v1)) hs (fun z => nomatch z) ⟨_, rfl, p1, p2⟩
        rw [ef] at n1 r4
        refine ⟨g.φ n, _, rfl, DPut.k n1 (by simpa using hz), k g3 σ _ lt r4 (hσ.mono lt)⟩
      · cases ev
    · cases ev
  · cases ev
theorem okS_drop {e : E} (he : OkE K fa C c tb e) : OkS K fa C W c tb (.drop e) := fun ρ S o ev g σ H r hσ Z k => by
  simp only [evS] at ev
  obtain ⟨⟨w, S1⟩, e1, ev⟩ := Option.map_eq_some_iff.mp ev
  cases ev
  exact he _ _ _ _ e1 g σ H r hσ _ fun g1 H1 v l1 r1 h1 => k g1 σ H1 l1 r1 (hσ.mono l1)
theorem okS_ret {e : E} (he : OkE K fa C c tb e) : OkS K fa C W c tb (.ret e) := fun ρ S o ev g σ H r hσ Z k => by
  simp only [evS] at ev
  obtain ⟨⟨w, S1⟩, e1, ev⟩ := Option.bind_eq_some_iff.mp ev
  obtain ⟨⟨d, S2⟩, e2, ev⟩ := Option.map_eq_some_iff.mp ev
  cases ev
  refine he _ _ _ _ e1 g σ H r hσ _ fun g1 H1 v l1 r1 h1 => ?_
  obtain ⟨g2, l2, r2, h2⟩ := r1.fz h1 e2
  exact k g2 H1 v (l1.trans l2) r2 h2
theorem okS_retN : OkS K fa C W c tb .retN := fun ρ S o ev g σ H r hσ Z k => by
  simp only [evS] at ev
  cases ev
  exact k g H .non (.refl g) r (by simp only [RepD])
theorem okS_ifs {t : T} {a b : Ss} (ht : OkT K fa C c tb t) (ha : OkSs K fa C W c tb a) (hb : OkSs K fa C W c tb b) : OkS K fa C W c tb (.ifs t a b) := fun ρ S o ev g σ H r hσ Z k => by
  simp only [evS] at ev
  obtain ⟨⟨x, S1⟩, e1, ev⟩ := Option.bind_eq_some_iff.mp ev
  refine ht _ _ _ _ e1 g σ H r hσ _ fun g1 H1 l1 r1 => ?_
  cases x with
  | true =>
    rw [if_pos rfl] at ev ⊢
    exact ha _ _ _ ev g1 σ H1 r1 (hσ.mono l1) Z (k.mono l1)
  | false =>
    rw [if_neg (fun z => nomatch z)] at ev ⊢
    exact hb _ _ _ ev g1 σ H1 r1 (hσ.mono l1) Z (k.mono l1)
theorem okS_for {tg : Tg} {it : It} {body : Ss} (hi : OkI K fa C c tb it) (hb : OkSs K fa C W c tb body) : OkS K fa C W c tb (.forS tg it body) := fun ρ S o ev g σ H r hσ Z k => by
  simp only [evS] at ev
  obtain ⟨⟨ds, S1⟩, e1, ev⟩ := Option.bind_eq_some_iff.mp ev
  refine hi _ _ _ _ e1 g σ H r hσ _ fun g1 H1 J l1 r1 src => ?_
  generalize hf : (fun (d : D) (ρ : En) (S : Store) => (asgn tg d ρ).bind fun ρ' => evSs c body ρ' S) = f at ev
  refine ⟨fun i m σ H => m = ds.length - i ∧ i ≤ ds.length ∧ ∃ g' ρ' S', g1.le g' ∧ Rel K fa g' H S' ∧ RepEn K fa g' σ ρ' ∧ forL f (ds.drop i) ρ' S' = some o,
    ⟨_, rfl, Nat.zero_le _, g1, ρ, S1, .refl g1, r1, hσ.mono l1, by simpa using ev⟩, ?_⟩
  rintro i m σ' H ⟨rfl, hil, g2, ρ2, S2, l2, r2, hσ2, ef⟩
  have s0 := src i g2 H S2 l2.G r2
  rcases Nat.eq_or_lt_of_le hil with hi | hi
  · left
    refine ⟨s0.2 (by omega), ?_⟩
    subst hi
    rw [List.drop_length] at ef
    simp only [forL] at ef
    cases ef
    exact k g2 σ' H (l1.trans l2) r2 hσ2
  · right
    have hd : ds[i]? = some ds[i] := List.getElem?_eq_getElem hi
    obtain ⟨hgo, hy⟩ := s0.1 _ hd
    have edrop : ds.drop i = ds[i] :: ds.drop (i + 1) := List.drop_eq_getElem_cons hi
    rw [edrop] at ef
    simp only [forL] at ef
    obtain ⟨o1, e3, ef⟩ := Option.bind_eq_some_iff.mp ef
    refine ⟨hgo, fun σ H => ∃ g' ρ' S', g1.le g' ∧ Rel K fa g' H S' ∧ RepEn K fa g' σ ρ' ∧ forL f (ds.drop (i + 1)) ρ' S' = some o, fun σ' H' q => ⟨ds.length - (i + 1), by omega, rfl, hi, q⟩, fun x H' y => ?_⟩
    obtain ⟨g3, l3, r3, hx⟩ := hy x H' y
    rw [← hf] at e3
    obtain ⟨ρ4, e4, e3⟩ := Option.bind_eq_some_iff.mp e3
    refine tg_ok r3 e4 hx (hσ2.mono l3) fun σ4 h4 _ => hb _ _ _ e3 g3 σ4 H' r3 h4 _ ?_
    have l23 := l2.trans l3
    cases o1 with
    | nx ρ5 S5 => exact fun g5 σ5 H5 l5 r5 h5 => ⟨g5, ρ5, S5, l23.trans l5, r5, h5, ef⟩
    | ct ρ5 S5 => exact fun g5 σ5 H5 l5 r5 h5 => ⟨g5, ρ5, S5, l23.trans l5, r5, h5, ef⟩
    | bk ρ5 S5 =>
      cases ef
      exact fun g5 σ5 H5 l5 r5 h5 => k g5 σ5 H5 (l1.trans (l23.trans l5)) r5 h5
    | rt d5 S5 =>
      cases ef
      exact fun g5 H5 v5 l5 r5 h5 => k g5 H5 v5 (l1.trans (l23.trans l5)) r5 h5
    | xc d5 S5 =>
      cases ef
      exact fun σ5 g5 H5 dd vv l5 => k σ5 g5 H5 dd vv (l1.trans (l23.trans l5))
theorem okSs_nil : OkSs K fa C W c tb .nil := fun ρ S o ev g σ H r hσ Z k => by
  simp only [evSs] at ev
  cases ev
  exact k g σ H (.refl g) r hσ
theorem okSs_cons {s : Pv.S} {ss : Ss} (h1 : OkS K fa C W c tb s) (h2 : OkSs K fa C W c tb ss) : OkSs K fa C W c tb (.cons s ss) := fun ρ S o ev g σ H r hσ Z k => by
  simp only [evSs] at ev
  obtain ⟨o1, e1, ev⟩ := Option.bind_eq_some_iff.mp ev
  refine h1 _ _ _ e1 g σ H r hσ _ ?_
  cases o1 with
  | nx ρ1 S1 => exact fun g1 σ1 H1 l1 r1 hσ1 => h2 _ _ _ ev g1 σ1 H1 r1 hσ1 Z (k.mono l1)
  | bk ρ1 S1 => cases ev; exact k
  | ct ρ1 S1 => cases ev; exact k
  | rt d S1 => cases ev; exact k
  | xc d S1 => cases ev; exact k
/-! ### what may raise -/
def XOut (K : PySem.W.Frag) (fa : Nat → Addr) (C : Addr) (g : Gh) (Q : VK) (E : XK) : Out → Prop
  | .rt d S => PD K fa g S Q d
  | .xc d S => PX K fa C g S E d
  | _ => True
theorem XOut.mono {g g' : Gh} {Q : VK} {E : XK} (l : g.le g') : ∀ {o : Out}, XOut K fa C g Q E o → XOut K fa C g' Q E o
  | .nx _ _, h | .bk _ _, h | .ct _ _, h => h
  | .rt _ _, h => fun g2 H v l2 => h g2 H v (l.trans l2)
  | .xc _ _, h => fun g2 H dd vv l2 => h g2 H dd vv (l.trans l2)
theorem okX (htb : ∀ f ws S r, c f ws S = some r → tb f) : ∀ (x : XE) (ρ : En) (S : Store) (o : Out), evX c x ρ S = some o → ∀ (g : Gh) (σ : L2.St) (H : Hp), Rel K fa g H S → RepEn K fa g σ ρ → ∀ (W : WX) (Q : VK), XOut K fa C g Q (WE W σ) o → tX K fa (spC K fa C c) tb W x σ H Q
  | .call f as, ρ, S, o, e, g, σ, H, r, hσ, W, Q, k => by
    simp only [evX] at e
    obtain ⟨⟨ws, S1⟩, e1, e⟩ := Option.bind_eq_some_iff.mp e
    refine okEs htb as _ _ _ _ e1 g σ H r hσ _ fun g1 H1 vs l1 r1 h1 => ?_
    refine ⟨g1, S1, ws, r1, h1, ?_⟩
    split at e
    · rename_i d S2 hc
      cases e
      exact .inl ⟨d, S2, hc, fun g2 H2 v l2 r2 h2 => k g2 H2 v (l1.trans l2) r2 h2⟩
    · obtain ⟨⟨d, S2⟩, e2, e⟩ := Option.map_eq_some_iff.mp e
      cases e
      exact .inr ⟨d, S2, e2, fun g2 H2 dd vv l2 => k g2 H2 dd vv (l1.trans l2)⟩
  | .ite t a b, ρ, S, o, e, g, σ, H, r, hσ, W, Q, k => by
    simp only [evX] at e
    obtain ⟨⟨x, S1⟩, e1, e⟩ := Option.bind_eq_some_iff.mp e
    refine okT htb t _ _ _ _ e1 g σ H r hσ _ fun g1 H1 l1 r1 => ?_
    cases x with
    | true =>
      rw [if_pos rfl] at e ⊢
      exact okX htb a _ _ _ e g1 σ H1 r1 (hσ.mono l1) W Q (k.mono l1)
    | false =>
      rw [if_neg (fun z => nomatch z)] at e ⊢
      exact okX htb b _ _ _ e g1 σ H1 r1 (hσ.mono l1) W Q (k.mono l1)
  | .pure a, ρ, S, o, e, g, σ, H, r, hσ, W, Q, k => by
    simp only [evX] at e
    obtain ⟨⟨w, S1⟩, e1, e⟩ := Option.bind_eq_some_iff.mp e
    obtain ⟨⟨d, S2⟩, e2, e⟩ := Option.map_eq_some_iff.mp e
    cases e
    refine okE htb a _ _ _ _ e1 g σ H r hσ _ fun g1 H1 v l1 r1 h1 => ?_
    obtain ⟨g2, l2, r2, h2⟩ := r1.fz h1 e2
    exact k g2 H1 v (l1.trans l2) r2 h2
theorem okS_dropX (htb : ∀ f ws S r, c f ws S = some r → tb f) {x : XE} : OkS K fa C W c tb (.dropX x) := fun ρ S o ev g σ H r hσ Z k => by
  simp only [evS] at ev
  obtain ⟨o1, e1, ev⟩ := Option.bind_eq_some_iff.mp ev
  refine okX htb x _ _ _ e1 g σ H r hσ W _ ?_
  cases o1 with
  | rt d S1 => cases ev; exact fun g1 H1 v l1 r1 h1 => k g1 σ H1 l1 r1 (hσ.mono l1)
  | xc d S1 => cases ev; exact k σ
  | _ => trivial
theorem okS_retX (htb : ∀ f ws S r, c f ws S = some r → tb f) {x : XE} : OkS K fa C W c tb (.retX x) := fun ρ S o ev g σ H r hσ Z k => by
  simp only [evS] at ev
  refine okX htb x _ _ _ ev g σ H r hσ W _ ?_
  cases o with
  | rt d S1 => exact k
  | xc d S1 => exact k σ
  | _ => trivial
theorem okS_asgX (htb : ∀ f ws S r, c f ws S = some r → tb f) {i : Nat} {x : XE} : OkS K fa C W c tb (.asgX i x) := fun ρ S o ev g σ H r hσ Z k => by
  simp only [evS] at ev
  obtain ⟨o1, e1, ev⟩ := Option.bind_eq_some_iff.mp ev
  refine okX htb x _ _ _ e1 g σ H r hσ W _ ?_
  cases o1 with
  | rt d S1 =>
    simp only at ev
    split at ev
    · cases ev; exact fun g1 H1 v l1 r1 h1 => k g1 _ H1 l1 r1 ((hσ.mono l1).set (w := .d d) h1)
    · cases ev
  | xc d S1 => cases ev; exact k σ
  | _ => trivial
theorem okS_rais {e : E} (he : OkE K fa C c tb e) : OkS K fa C W c tb (.rais e) := fun ρ S o ev g σ H r hσ Z k => by
  simp only [evS] at ev
  obtain ⟨⟨w, S1⟩, e1, ev⟩ := Option.bind_eq_some_iff.mp ev
  split at ev
  · rename_i i hw
    obtain rfl : w = _ := hw
    split at ev
    · rename_i hi
      cases ev
      refine he _ _ _ _ e1 g σ H r hσ _ fun g1 H1 v l1 r1 h1 => ?_
      simp only [RepW, RepD] at h1
      subst h1
      refine ⟨by show 1 ≤ 1000; decide, fun a ha => ⟨a, i, rfl, hi, upd_same, fun d hd hne => ?_⟩⟩
      have hd1 : H1 d = none := by rw [upd_ne hne] at hd; exact hd
      refine ⟨rfl, d, _, upd_same, by rw [upd_ne hne, upd_same], hd1, ?_⟩
      have eH : upd (L2.del (upd (upd (upd H1 a (exo a C none)) d (exd d [(("at" : Str), V.int i)])) a (exo a C (some d))) a) d (.xd [(("at" : Str), V.int i)]) = upd H1 d (.xd [(("at" : Str), V.int i)]) := by
        funext b
        by_cases hb : b = d
        · subst hb; rw [upd_same, upd_same]
        · rw [upd_ne hb, upd_ne hb]
          by_cases hba : b = a
          · subst hba; rw [L2.del_same]; exact ha.symm
          · rw [L2.del_ne hba, upd_ne hba, upd_ne hb, upd_ne hba]
      rw [eH]
      exact k σ _ _ d (.int i) (l1.trans (Gh.le_add (r1.fresh hd1))) (r1.add hd1) upd_same (by simp only [RepD])
    · cases ev
  · cases ev
theorem okS_tryR (te : PySem.W.exmOne K (.ref C) (.ref C) = some true) (htb : ∀ f ws S r, c f ws S = some r → tb f) {x : XE} {i : Nat} {word : Str} : OkS K fa C W c tb (.tryR x i word) := fun ρ S o ev g σ H r hσ Z k => by
  simp only [evS] at ev
  split at ev
  case isFalse => cases ev
  rename_i hi
  obtain ⟨o1, e1, ev⟩ := Option.bind_eq_some_iff.mp ev
  show tX K fa (spC K fa C c) tb (wTry K C i word Z) x σ H Z.rt
  refine okX htb x _ _ _ e1 g σ H r hσ (wTry K C i word Z) _ ?_
  cases o1 with
  | rt d S1 => cases ev; exact k
  | xc d S1 =>
    cases ev
    intro g1 H1 dd vv l1 r1 hd hv
    refine ⟨true, te, fun _ a ha => ?_, fun z => Bool.noConfusion z⟩
    refine ⟨_, List.getElem?_set_self (by rw [hσ.1]; exact hi), rfl, rfl, dd, vv, rfl, hd, ?_⟩
    refine ⟨by show 2 ≤ sizeLine; rw [sizeLine_eq]; decide, fun p hp => ?_⟩
    refine PD.tup r1 (Q := Z.rt) (ds := [.str word, d]) (fun g2 H2 v l2 r2 h2 => k g2 H2 v (l1.trans l2) r2 h2) (RepDs.cons (by simp only [RepD]) (RepDs.cons hv RepDs.nil)) p hp
  | _ => cases ev
/-! ### a dict that is written -/
theorem RepEn.hold {σ : L2.St} {ρ : En} {p : Addr} {o : HO} (h : RepEn K fa g σ ρ) : RepEn K fa (g.hold p o) σ ρ := ⟨h.1, fun i w e => by
  obtain ⟨v, a, b⟩ := h.2 i w e
  refine ⟨v, a, ?_⟩
  cases w <;> exact b⟩
theorem okP (htb : ∀ f ws S r, c f ws S = some r → tb f) : ∀ (ps : Es) (ρ : En) (S : Store) (kvs : List (Key × D)) (S' : Store), evP c ps ρ S = some (kvs, S') → ∀ (g : Gh) (σ : L2.St) (H : Hp), Rel K fa g H S → RepEn K fa g σ ρ → ∀ Q : List (V × V) → Hp → Prop,
    (∀ g' H' (ks : List (Key × V)), g.le g' → Rel K fa g' H' S' → ks.map (·.1) = kvs.map (·.1) → RepDs K fa g'.G (ks.map (·.2)) (kvs.map (·.2)) → Q (ks.map fun kv => (kV kv.1, kv.2)) H') → tPairs (tPs K fa (spC K fa C c) tb ps) σ H Q
  | .nil, ρ, S, kvs, S', e, g, σ, H, r, hσ, Q, k => by
    simp only [evP] at e
    cases e
    exact k g H [] (.refl g) r rfl RepDs.nil
  | .cons a .nil, ρ, S, kvs, S', e, g, σ, H, r, hσ, Q, k => by simp [evP] at e
  | .cons a (.cons b t), ρ, S, kvs, S', e, g, σ, H, r, hσ, Q, k => by
    simp only [evP] at e
    obtain ⟨⟨x, S1⟩, e1, e⟩ := Option.bind_eq_some_iff.mp e
    split at e
    · rename_i kd hx
      obtain rfl : x = _ := hx
      obtain ⟨kk, e2, e⟩ := Option.bind_eq_some_iff.mp e
      obtain ⟨⟨w, S2⟩, e3, e⟩ := Option.bind_eq_some_iff.mp e
      obtain ⟨⟨d, S3⟩, e4, e⟩ := Option.bind_eq_some_iff.mp e
      obtain ⟨⟨kr, S4⟩, e5, e⟩ := Option.map_eq_some_iff.mp e
      cases e
      refine okE htb a _ _ _ _ e1 g σ H r hσ _ fun g1 H1 u l1 r1 h1 => okE htb b _ _ _ _ e3 g1 σ H1 r1 (hσ.mono l1) _ fun g2 H2 v l2 r2 h2 => ?_
      obtain rfl := keyOf_ok e2 h1
      obtain ⟨g3, l3, r3, h3⟩ := r2.fz h2 e4
      refine okP htb t _ _ _ _ e5 g3 σ H2 r3 (((hσ.mono l1).mono l2).mono l3) _ fun g4 H4 ks l4 r4 q1 q2 => ?_
      exact k g4 H4 ((kk, v) :: ks) (l1.trans (l2.trans (l3.trans l4))) r4 (by simp [q1]) (RepDs.cons (RepD.mono l4.G h3) q2)
    · cases e
theorem merge_ok {G : Hp} : ∀ (ks : List (Key × V)) (kvs : List (Key × D)) (acc : List (Key × V)) (ad : List Key × List D), ks.map (·.1) = kvs.map (·.1) → RepDs K fa G (ks.map (·.2)) (kvs.map (·.2)) → acc.map (·.1) = ad.1 → RepDs K fa G (acc.map (·.2)) ad.2 →
    (mergeK acc ks).map (·.1) = (kvs.foldl (fun a p => putD p.1 p.2 a.1 a.2) ad).1 ∧ RepDs K fa G ((mergeK acc ks).map (·.2)) (kvs.foldl (fun a p => putD p.1 p.2 a.1 a.2) ad).2
  | [], kvs, acc, ad, e, h, e2, h2 => by
    cases kvs with
    | nil => exact ⟨e2, h2⟩
    | cons _ _ => simp at e
  | x :: ks, kvs, acc, ad, e, h, e2, h2 => by
    cases kvs with
    | nil => simp at e
    | cons y kvs =>
      simp only [List.map_cons, List.cons.injEq] at e
      simp only [List.map_cons, RepDs] at h
      obtain ⟨v, t, q, h3, h4⟩ := h
      injection q with q1 q2
      subst q1; subst q2
      obtain ⟨y1, y2⟩ := y
      obtain ⟨x1, x2⟩ := x
      simp only at e h3
      obtain ⟨rfl, e⟩ := e
      obtain ⟨p1, p2⟩ := putD_ok (k := x1) h3 h2
      rw [e2] at p1 p2
      exact merge_ok ks kvs (putK acc x1 x2) (putD x1 y2 ad.1 ad.2) e h4 p1 p2
theorem okS_newDK (htb : ∀ f ws S r, c f ws S = some r → tb f) {i : Nat} {ps : Es} : OkS K fa C W c tb (.newDK i ps) := fun ρ S o ev g σ H r hσ Z k => by
  simp only [evS] at ev
  obtain ⟨⟨kvs, S1⟩, e1, ev⟩ := Option.bind_eq_some_iff.mp ev
  split at ev
  · rename_i hz
    cases ev
    intro p hp
    have hF : ∀ a u, g.F a = some u → a ≠ p := fun a u ea => ne_of_none (r.frm a u ea).1 hp
    refine okP htb ps _ _ _ _ e1 (g.hold p (.dK [])) σ _ (r.hold hp) hσ.hold _ fun g2 H2 ks l2 r2 q1 q2 => ?_
    have hF2 : g2.F p = some (.dK []) := by rw [l2.F]; exact upd_same
    refine ⟨(r2.frm p _ hF2).1, ks, rfl, ?_, ?_⟩
    · have : ks.length = kvs.length := by simpa using congrArg List.length q1
      rw [this]; exact hz.2
    · have r6 := r2.rehold (o' := .dK (mergeK [] ks)) hF2
      have ef : upd g2.F p (HO.dK (mergeK [] ks)) = upd g.F p (HO.dK (mergeK [] ks)) := by
        rw [l2.F]
        show upd (upd g.F p _) p _ = _
        rw [upd_upd]
      rw [ef] at r6
      have lb : g.le { g2 with F := g.F } := leF (.refl g) l2
      obtain ⟨m1, m2⟩ := merge_ok ks kvs [] ([], []) q1 q2 rfl RepDs.nil
      have r7 := Rel.pushHeld (g := { g2 with F := g.F }) (mo := .dK (putAll kvs).1 (putAll kvs).2) r6 hF ⟨_, rfl, m1, m2⟩
      exact k _ _ _ (lb.trans Gh.le_push) r7 (((hσ.mono lb).mono Gh.le_push).set (mu_new r6.len))
  · cases ev
mutual
theorem okS (te : PySem.W.exmOne K (.ref C) (.ref C) = some true) (htb : ∀ f ws S r, c f ws S = some r → tb f) : ∀ s : Pv.S, OkS K fa C W c tb s
  | .asg _ e => okS_asg (okE htb e)
  | .par _ _ a b => okS_par (okE htb a) (okE htb b)
  | .newD _ => okS_newD
  | .newL _ as => okS_newL (okZ htb as)
  | .newC _ _ _ it cond elt => okS_newC (okI htb it) (okTo htb cond) (okE htb elt)
  | .app _ e => okS_app (okE htb e)
  | .setL _ q e => okS_setL (okE htb q) (okE htb e)
  | .setD _ q e => okS_setD (okE htb q) (okE htb e)
  | .newDK _ _ => okS_newDK htb
  | .rais e => okS_rais (okE htb e)
  | .dropX _ => okS_dropX htb
  | .retX _ => okS_retX htb
  | .asgX _ _ => okS_asgX htb
  | .tryR _ _ _ => okS_tryR te htb
  | .drop e => okS_drop (okE htb e)
  | .ret e => okS_ret (okE htb e)
  | .retN => okS_retN
  | .ifs t a b => okS_ifs (okT htb t) (okSs te htb a) (okSs te htb b)
  | .forS _ it body => okS_for (okI htb it) (okSs te htb body)
  | .brk => fun ρ S o ev g σ H r hσ Z k => by
    simp only [evS] at ev
    cases ev
    exact k g σ H (.refl g) r hσ
  | .cnt => fun ρ S o ev g σ H r hσ Z k => by
    simp only [evS] at ev
    cases ev
    exact k g σ H (.refl g) r hσ
  | .pass => fun ρ S o ev g σ H r hσ Z k => by
    simp only [evS] at ev
    cases ev
    exact k g σ H (.refl g) r hσ
  | .never => fun ρ S o ev g σ H r hσ Z k => by
    simp only [evS] at ev
    cases ev
theorem okSs (te : PySem.W.exmOne K (.ref C) (.ref C) = some true) (htb : ∀ f ws S r, c f ws S = some r → tb f) : ∀ s : Ss, OkSs K fa C W c tb s
  | .nil => okSs_nil
  | .cons s ss => okSs_cons (okS te htb s) (okSs te htb ss)
end

/-! ### a def -/
theorem start_ok {g : Gh} {vs : List V} {ws : List Pv.W} {N : List Str} {n : Nat} (h : RWs K fa g vs ws) (hn : N.length = n) (hl : ws.length ≤ n) : RepEn K fa g (L2.start N vs) (startE n ws) := by
  have hlen := h.length
  unfold L2.start startE
  rw [hn, hlen]
  refine ⟨by simp [hlen], fun i w e => ?_⟩
  rcases Nat.lt_or_ge i ws.length with hi | hi
  · rw [List.getElem?_append_left (by simpa using hi), List.getElem?_map] at e
    cases ew : ws[i]? with
    | none => rw [ew] at e; cases e
    | some w' =>
      rw [ew] at e
      have : w' = w := by simpa using e
      subst this
      obtain ⟨v, q1, q2⟩ := h.get ew
      exact ⟨v, by rw [List.getElem?_append_left (by simpa [hlen] using hi), List.getElem?_map, q1]; rfl, q2⟩
  · rw [List.getElem?_append_right (by simpa using hi), List.getElem?_replicate] at e
    split at e <;> cases e
/-- the body's reading, from the meaning of the def -/
theorem body_ok {P : Nat → Option Fn} {k : Nat} {f : Nat} {q : Fn} {N : List Str} (hq : P f = some q) (hN : N.length = q.sl) (te : PySem.W.exmOne K (.ref C) (.ref C) = some true) (htb : ∀ f ws S r, callF P k f ws S = some r → tb f)
    {vs : List V} {H : Hp} {Q : VK} {E : XK} (h : spC K fa C (callF P (k + 1)) f vs H Q E) :
    tSs K fa (spC K fa C (callF P k)) tb C (fun cls d _ H => E cls d H) q.body { nx := fun _ H' => Q .non H', rt := Q } (L2.start N vs) H := by
  obtain ⟨g, S, ws, r, hv, h⟩ := h
  have fin : ∀ g' H' S1, g.le g' → Rel K fa g' H' S1 → g.le { g' with n := g.n } ∧ Rel K fa { g' with n := g.n } H' (S1.take S.length) := fun g' H' S1 l r1 =>
    ⟨⟨l.G, l.φ, Nat.le_refl _, l.lk, l.F⟩, by rw [r.len]; exact r1.cut l.n⟩
  rcases h with ⟨d, S', e, kk⟩ | ⟨d, S', e, kk⟩
  all_goals
    simp only [callF] at e
    rw [hq] at e
    simp only [Option.bind_some] at e
    split at e
    case isFalse => cases e
    rename_i hz
    obtain ⟨o, e1, e⟩ := Option.bind_eq_some_iff.mp e
    refine okSs te htb q.body _ _ _ e1 g _ H r (start_ok hv hN (by omega)) _ ?_
  · cases o with
    | nx ρ1 S1 =>
      cases e
      exact fun g1 σ1 H1 l1 r1 _ => kk _ H1 .non (fin g1 H1 S1 l1 r1).1 (fin g1 H1 S1 l1 r1).2 (by simp only [RepD])
    | rt d1 S1 =>
      cases e
      exact fun g1 H1 v1 l1 r1 h1 => kk _ H1 v1 (fin g1 H1 S1 l1 r1).1 (fin g1 H1 S1 l1 r1).2 h1
    | _ => cases e
  · cases o with
    | xc d1 S1 =>
      cases e
      exact fun _ g1 H1 dd vv l1 r1 hd h1 => kk _ H1 dd vv (fin g1 H1 S1 l1 r1).1 (fin g1 H1 S1 l1 r1).2 hd h1
    | _ => cases e
theorem len_ok {P : Nat → Option Fn} {k : Nat} {f : Nat} {q : Fn} (hq : P f = some q) {vs : List V} {H : Hp} {Q : VK} {E : XK} (h : spC K fa C (callF P (k + 1)) f vs H Q E) : vs.length = q.ar := by
  obtain ⟨g, S, ws, r, hv, h⟩ := h
  rcases h with ⟨d, S', e, kk⟩ | ⟨d, S', e, kk⟩
  all_goals
    simp only [callF] at e
    rw [hq] at e
    simp only [Option.bind_some] at e
    split at e
    · rename_i hz
      rw [hv.length]; exact hz.1
    · cases e
end
end Pv

set_option Elab.async false
set_option linter.all false
set_option maxRecDepth 100000
set_option maxHeartbeats 4000000
/-! Reading Python as the little language. -/
namespace Pv
open PySem L2

theorem pe_exs {X : Cx} {e : Expr} {t : Nat → TE} {p : Nat → Prop} (h : ∀ f, p f → PE X e (t f)) : PE X e (fun σ H Q => ∃ f, p f ∧ t f σ H Q) :=
  ⟨fun pins s σ H Q I ⟨f, hf, q⟩ => (h f hf).run pins s σ H Q I q⟩
theorem pg_or {X : Cx} {e : Expr} {t u : TG} (h : PG X e t) (h' : PG X e u) : PG X e (fun v σ H Q => t v σ H Q ∨ u v σ H Q) :=
  ⟨fun pins s σ H v u Q I r q => q.elim (h.run pins s σ H v u Q I r) (h'.run pins s σ H v u Q I r)⟩
theorem pi_or {X : Cx} {tg e : Expr} {t u : TI} (h : PI X tg e t) (h' : PI X tg e u) : PI X tg e (fun σ H R => t σ H R ∨ u σ H R) :=
  ⟨fun pins s σ H R I q => q.elim (h.run pins s σ H R I) (h'.run pins s σ H R I)⟩
theorem pg_imp {X : Cx} {e : Expr} {t u : TG} (h : PG X e t) (i : ∀ v σ H Q, u v σ H Q → t v σ H Q) : PG X e u :=
  ⟨fun pins s σ H v u Q I r q => h.run pins s σ H v u Q I r (i _ _ _ _ q)⟩

theorem fn_zero {P : Program} {w : World} {K : PySem.W.Frag} {mg : Str → Option Value} {base : Heap} {fa : Nat → Addr} {C : Addr} {CX : CXT} {g : Nat → Option Fn} {f : Nat} {a : Addr} {fd : FuncData} {ps : List Str} {k : Nat} : FnOk P w K mg base CX k a fd ps (spC K fa C (callF g 0) f) where
  len := fun vs H Q E h => by
    obtain ⟨_, _, _, _, _, h⟩ := h
    rcases h with ⟨_, _, e, _⟩ | ⟨_, _, e, _⟩ <;> cases e
  run := fun A outer s H args us vs Q E _ _ _ _ h => by
    obtain ⟨_, _, _, _, _, h⟩ := h
    rcases h with ⟨_, _, e, _⟩ | ⟨_, _, e, _⟩ <;> cases e
/-- how a call with all its arguments by name binds -/
def KBd (K : PySem.W.Frag) (fd : FuncData) (ps : List Str) : Prop := ∀ (s : Shared) (ws : List Value), K.In s.heap → ws.length = ps.length → BindsTo s fd ⟨[], ps.zip ws⟩ (ps.zip ws)
theorem kbd_of {K : PySem.W.Frag} {x qual : Str} {st : Stmt} {f : Addr} {fd : FuncData} {ps : List Str} (F : Fun K x qual st f fd)
    (h : ∀ (kV doc pm : Value) (an : Option Addr) (cdv ct : Value) (us : List Value), us.length = ps.length → bindArgs (PySem.W.fnOf x qual (defArgs st) (defBody st) (defScope st) .none kV doc pm an cdv ct) ⟨[], ps.zip us⟩ = pure (ps.zip us)) : KBd K fd ps := by
  obtain ⟨oc, od, kV, doc, pm, an, cdv, ct, osl, rfl, lk, hcd⟩ := F.ex
  exact fun s ws _ hl => .of_eq (h kV doc pm an cdv ct ws hl)
/-- the program's error, ready to be raised -/
structure ErrOk (P : Program) (w : World) (K : PySem.W.Frag) (mg : Str → Option Value) (base : Heap) (C : Addr) : Prop where
  ex : ∃ (B fI : Addr) (fd : FuncData), ErrC K mg "BadValue" "SecondError" "at" C B ∧ PySem.W.findIn K (.ref C) "__init__" = some (some (.ref fI)) ∧ PySem.W.typeIn K (.ref fI) = some (.type "function") ∧
    FnOk P w K mg base (L2.CX P w) 1 fI fd ["self", "at"] (spI C) ∧ Binds K fd ["self", "at"] []
theorem ErrOk.te {P : Program} {w : World} {K : PySem.W.Frag} {mg : Str → Option Value} {base : Heap} {C : Addr} (r : ErrOk P w K mg base C) : PySem.W.exmOne K (.ref C) (.ref C) = some true := by
  obtain ⟨B, fI, fd, T, _⟩ := r.ex
  exact exmSelf T.exC T.isC T.tyC T.seC
theorem passF {P : Program} {w : World} {X : Cx} : Passes (L2.CX P w) X E0 := fun pins σ H s e s' I c => by
  obtain ⟨_, _, _, _, _, _, _, _, _, _, _, _, q⟩ := c
  exact False.elim q
/-- law's own def, whose promise wishes nothing of errors -/
theorem fn_noX {P : Program} {w : World} {K : PySem.W.Frag} {mg : Str → Option Value} {base : Heap} {k : Nat} {f : Addr} {fd : FuncData} {ps : List Str} {sp : Sp} (F : FnOk P w K mg base (L2.CX P w) k f fd ps sp) (h : ∀ vs H Q E, sp vs H Q E → sp vs H Q E0) : FnOk P w K mg base CX0 k f fd ps sp where
  len := F.len
  run := fun A outer s H args us vs Q E hr e b r q => codeAny_mono (F.run A outer s H args us vs Q E0 hr e b r (h vs H Q E q)) fun r s' hq => by
    cases r with
    | error er =>
      obtain ⟨_, _, _, _, _, _, _, _, _, _, _, _, q⟩ := hq
      exact False.elim q
    | ok fl => cases fl <;> exact hq
structure Tbl (P : Program) (w : World) (K : PySem.W.Frag) (mg : Str → Option Value) (base : Heap) (k : Nat) (fa : Nat → Addr) (sp : Nat → Sp) (tb : Nat → Prop) (nm : Nat → Str) (pn : Nat → List Str) : Prop where
  fn : ∀ f, tb f → ∃ fd, FnOk P w K mg base (L2.CX P w) k (fa f) fd (pn f) (sp f) ∧ PySem.W.keepIn K (.ref (fa f)) = true ∧ Binds K fd (pn f) [] ∧ mg (nm f) = some (.ref (fa f)) ∧ KBd K fd (pn f)
theorem spLaw_of {K : PySem.W.Frag} {fa : Nat → Addr} {C : Addr} {g : Nat → Option Fn} {lv f : Nat} {H : Hp} {a : Addr} {ns : List Int} (M : ∃ S, callF g lv f [.d (.scr ns)] [] = some (.bl true, S)) (hS : SqL K H a (ns.map V.int)) {Q : VK} {E : XK} (h : ∀ H, Q (.bl true) H) :
    spC K fa C (callF g lv) f [.ref a] H Q E := by
  obtain ⟨S, e⟩ := M
  -- what is known at the start is the script alone
  have key : ∃ G : Hp, (∀ b u, G b = some u → H b = some u) ∧ SqL K G a (ns.map V.int) := by
    have up : ∀ o, H a = some o → ∀ b u, upd nilH a o b = some u → H b = some u := fun o q b u e => by
      by_cases hb : b = a
      · subst hb
        rw [upd_same] at e; cases e; exact q
      · rw [upd_ne hb] at e; cases e
    rcases hS with (q | ⟨o, q⟩) | q
    · exact ⟨upd nilH a _, up _ q, Or.inl (Or.inl upd_same)⟩
    · exact ⟨upd nilH a _, up _ q, Or.inl (Or.inr ⟨o, upd_same⟩)⟩
    · exact ⟨nilH, fun _ _ e => (nomatch e), Or.inr q⟩
  obtain ⟨G, g1, g2⟩ := key
  refine ⟨⟨G, fun _ => 0, 0, false, fun _ => none⟩, [], [.d (.scr ns)], ⟨rfl, fun b u e => .inl (g1 b u e), fun i mo e => by simp at e, fun i j mi mj e => by simp at e, fun b u e => by cases e⟩, .cons ?_ .nil, .inl ⟨.bl true, S, e, fun g' H' v _ _ hv => ?_⟩⟩
  · simp only [RepW, RepD]
    exact ⟨a, rfl, g2⟩
  · simp only [RepD] at hv
    subst hv
    exact h H'
/-- law's own promise -/
def spLawP (K : PySem.W.Frag) : Sp := fun vs H Q _ => ∃ (a : Addr) (ns : List Int), vs = [.ref a] ∧ SqL K H a (ns.map V.int) ∧ ns.length ≤ 63 ∧ ∀ H', Q (.bl true) H'
structure Bt (mg : Str → Option Value) : Prop where
  len : mg "len" = none
  int : mg "int" = none
  isinstance : mg "isinstance" = none
  range : mg "range" = none
  all : mg "all" = none
  any : mg "any" = none
  sum : mg "sum" = none
  max : mg "max" = none
  min : mg "min" = none
  str : mg "str" = none
  tuple : mg "tuple" = none
  list : mg "list" = none
  sorted : mg "sorted" = none
  zip : mg "zip" = none
  bool : mg "bool" = none
  dict : mg "dict" = none
structure Okx (X : Cx) (k : Nat) (fa : Nat → Addr) (sp : Nat → Sp) (tb : Nat → Prop) (nm : Nat → Str) (pn : Nat → List Str) : Prop where
  calm : X.calm = true
  room : Room k X.A
  nd : X.N.Nodup
  tbl : Tbl X.prog X.w X.K X.mg X.base k fa sp tb nm pn
  bt : Bt X.mg

section
variable {X : Cx} {k : Nat} {fa : Nat → Addr} {sp : Nat → Sp} {tb : Nat → Prop} {nm : Nat → Str} {pn : Nat → List Str} {a b q e : Expr} {es : List Expr} {a' b' q' e' : E} {as' : Es} {pos p : Pos} {x : Str} {C : Addr} {Wx : WX}
theorem Okx.blk (h : Okx X k fa sp tb nm pn) {s : Shared} {H : Hp} {scope : Scope} {cenv : Env} {fp : List Addr} : Okx (X.blk s H scope cenv fp) k fa sp tb nm pn := ⟨h.calm, h.room, h.nd, h.tbl, h.bt⟩
theorem Okx.hu (h : Okx X k fa sp tb nm pn) : X.A.units + 64 < cLine := h.room.units
theorem d_int {i : Int} {j : Nat} : PE X (.Constant (.int i) j pos) ((tE X.K fa sp tb) (.cst (.int i))) := pe_int
theorem d_bl {i : Bool} {j : Nat} : PE X (.Constant (.bool i) j pos) ((tE X.K fa sp tb) (.cst (.bl i))) := pe_bl
theorem d_non {j : Nat} : PE X (.Constant .none j pos) ((tE X.K fa sp tb) (.cst .non)) := pe_non
theorem d_str {i : Str} {j : Nat} : PE X (.Constant (.str i) j pos) ((tE X.K fa sp tb) (.cst (.str i))) := pe_str
theorem d_glob {i : Int} (hm : ∃ t, X.mg x = some (.int i t)) (hg : Gl X x := by rfl) (hd : (x == ("__debug__" : Str)) = false := by decide) : PE X (.Name x pos) ((tE X.K fa sp tb) (.cst (.int i))) := by
  obtain ⟨t, hm⟩ := hm
  exact pe_glob hg hm ⟨t, rfl⟩ hd
theorem d_fn (h : Okx X k fa sp tb nm pn) (f : Nat) (hf : tb f) (hx : nm f = x := by rfl) (hg : Gl X x := by rfl) (hd : (x == ("__debug__" : Str)) = false := by decide) : PE X (.Name x pos) ((tE X.K fa sp tb) (.fnv f)) := by
  obtain ⟨fd, F, kp, bd, m, kb⟩ := h.tbl.fn f hf
  exact pe_glob hg (hx ▸ m) rfl hd
theorem d_add (ha : PE X a ((tE X.K fa sp tb) a')) (hb : PE X b ((tE X.K fa sp tb) b')) : PE X (.BinOp a .Add b pos) ((tE X.K fa sp tb) (.bin .add a' b')) := pe_op (op_add.or (op_add_str.or (op_catA.or op_cat))) ha hb
theorem d_sub (ha : PE X a ((tE X.K fa sp tb) a')) (hb : PE X b ((tE X.K fa sp tb) b')) : PE X (.BinOp a .Sub b pos) ((tE X.K fa sp tb) (.bin .sub a' b')) := pe_op op_sub ha hb
theorem d_mul (ha : PE X a ((tE X.K fa sp tb) a')) (hb : PE X b ((tE X.K fa sp tb) b')) : PE X (.BinOp a .Mult b pos) ((tE X.K fa sp tb) (.bin .mul a' b')) := pe_op (op_mul.or op_repT) ha hb
theorem d_div (ha : PE X a ((tE X.K fa sp tb) a')) (hb : PE X b ((tE X.K fa sp tb) b')) : PE X (.BinOp a .FloorDiv b pos) ((tE X.K fa sp tb) (.bin .div a' b')) := pe_op op_fdiv ha hb
theorem d_mod (ha : PE X a ((tE X.K fa sp tb) a')) (hb : PE X b ((tE X.K fa sp tb) b')) : PE X (.BinOp a .Mod b pos) ((tE X.K fa sp tb) (.bin .mod a' b')) := pe_op op_mod ha hb
theorem d_pow (ha : PE X a ((tE X.K fa sp tb) a')) (hb : PE X b ((tE X.K fa sp tb) b')) : PE X (.BinOp a .Pow b pos) ((tE X.K fa sp tb) (.bin .pow a' b')) := pe_op op_pow ha hb
theorem d_neg (ha : PE X a ((tE X.K fa sp tb) a')) : PE X (.UnaryOp .USub a pos) ((tE X.K fa sp tb) (.neg a')) := pe_un un_neg ha
def cop : COp → CmpOp
  | .eq => .Eq | .ne => .NotEq | .lt => .Lt | .le => .LtE | .gt => .Gt | .ge => .GtE | .inn => .In | .nin => .NotIn
theorem cop_ok (h : Okx X k fa sp tb nm pn) : ∀ o : COp, OpR X (compareOp (cop o)) (rC X.K o)
  | .eq => op_eq.or (op_eqD h.hu)
  | .ne => op_ne.or (op_neD h.hu)
  | .lt => op_lt.or op_lt_str
  | .le => op_le.or op_le_str
  | .gt => op_gt.or op_gt_str
  | .ge => op_ge.or op_ge_str
  | .inn => op_in_seq.or op_in_str
  | .nin => op_notIn_seq.or op_notIn_str
theorem d_cmp (h : Okx X k fa sp tb nm pn) (o : COp) (ha : PE X a ((tE X.K fa sp tb) a')) (hb : PE X b ((tE X.K fa sp tb) b')) (hm : behindInMarks (cop o) b = false := by rfl) : PE X (.Compare a [cop o] [b] pos) ((tE X.K fa sp tb) (.cmp o a' b')) := pe_cmpR (cop_ok h o) ha hb hm
theorem d_chain (h : Okx X k fa sp tb nm pn) (o o' : COp) (ha : PE X a ((tE X.K fa sp tb) a')) (hb : PE X b ((tE X.K fa sp tb) b')) (hq : PE X q ((tE X.K fa sp tb) q')) (hm : lastMarks [cop o, cop o'] [b, q] = false := by with_unfolding_all rfl) : PE X (.Compare a [cop o, cop o'] [b, q] pos) ((tE X.K fa sp tb) (.chain o o' a' b' q')) :=
  pe_chain (cop_ok h o) (cop_ok h o') ha hb hq hm
theorem d_isN {j : Nat} {pos' : Pos} (ha : PE X a ((tE X.K fa sp tb) a')) : PE X (.Compare a [.Is] [.Constant .none j pos'] pos) ((tE X.K fa sp tb) (.isN a')) := pe_cmp (pc_isN ha) rfl
theorem d_notN {j : Nat} {pos' : Pos} (ha : PE X a ((tE X.K fa sp tb) a')) : PE X (.Compare a [.IsNot] [.Constant .none j pos'] pos) ((tE X.K fa sp tb) (.notN a')) := pe_cmp (pc_notN ha) rfl
theorem d_one {op : BoolOp} (ha : PE X a ((tE X.K fa sp tb) a')) : PE X (.BoolOp op [a] pos) ((tE X.K fa sp tb) a') := pe_one ha
theorem d_and {r : List Expr} (ha : PE X a ((tE X.K fa sp tb) a')) (hb : PE X (.BoolOp .And (b :: r) pos) ((tE X.K fa sp tb) b')) : PE X (.BoolOp .And (a :: b :: r) pos) ((tE X.K fa sp tb) (.and a' b')) := pe_and ha hb
theorem d_or {r : List Expr} (ha : PE X a ((tE X.K fa sp tb) a')) (hb : PE X (.BoolOp .Or (b :: r) pos) ((tE X.K fa sp tb) b')) : PE X (.BoolOp .Or (a :: b :: r) pos) ((tE X.K fa sp tb) (.or a' b')) := pe_or ha hb
theorem d_not (ha : PE X a ((tE X.K fa sp tb) a')) : PE X (.UnaryOp .Not a pos) ((tE X.K fa sp tb) (.not a')) := pe_not ha
theorem d_ite {t : T} (hc : PT X q ((tT X.K fa sp tb) t)) (ha : PE X a ((tE X.K fa sp tb) a')) (hb : PE X b ((tE X.K fa sp tb) b')) : PE X (.IfExp q a b pos) ((tE X.K fa sp tb) (.ite t a' b')) := pe_ifExp hc ha hb
theorem d_nil : PA X [] ((tEs X.K fa sp tb) .nil) := pa_nil
theorem d_cons (ha : PE X a ((tE X.K fa sp tb) a')) (hr : PA X es ((tEs X.K fa sp tb) as')) (hs : starEach (a :: es) X.env = (false, eval a X.env) :: starEach es X.env := by rfl) : PA X (a :: es) ((tEs X.K fa sp tb) (.cons a' as')) := pa_cons ha hr hs
theorem d_call (h : Okx X k fa sp tb nm pn) (f : Nat) (hf : tb f) (ha : PA X (e :: es) ((tEs X.K fa sp tb) as')) (hx : nm f = x := by rfl) (hg : Gl X x := by rfl) (hdb : (x == ("__debug__" : Str)) = false := by decide)
    (he : starEach (e :: es) X.env = (false, eval e X.env) :: starEach es X.env := by rfl) (hpl : (backTo pos (starEach es X.env)).any (·.1) = false := by rfl) : PE X (.Call (.Name x p) (e :: es) [] pos) ((tE X.K fa sp tb) (.call f as')) := by
  obtain ⟨fd, F, kp, bd, m, kb⟩ := h.tbl.fn f hf
  exact pe_call F h.room hg (hx ▸ m) kp bd .nil passF ha hdb he hpl
theorem pe_callN0 {CX : CXT} {k : Nat} {f : Addr} {fd : FuncData} {ps : List Str} {sp : Sp} {E : L2.St → XK} {kws : List Keyword} {tk : TA} (F : FnOk X.prog X.w X.K X.mg X.base CX k f fd ps sp) (hr : Room k X.A) (hg : Gl X x) (hm : X.mg x = some (.ref f)) (hk : PySem.W.keepIn X.K (.ref f) = true)
    (hb : KBd X.K fd ps) (hx : ∀ σ, PassesAt CX X σ (E σ)) (hkw : PK X kws tk) (hall : (backToKw pos (keywordEach kws X.env)).all (·.1.isSome) = true) (hks : (backToKw pos (keywordEach kws X.env)).filterMap (·.1) = ps) (hdb : (x == ("__debug__" : Str)) = false)
    (hpl : ((backTo pos (starEach [] X.env)).any (·.1) || (backToKw pos (keywordEach kws X.env)).any (·.1.isNone)) = false) : PE X (.Call (.Name x p) [] kws pos) (tCallS sp E tk) := by
  refine ⟨fun pins s σ H Q I h => ?_⟩
  refine wpAny_Call_Name_kw (ld_glob I hg hm ?_ hdb)
  refine PySem.W.callWith_KW0 (h₀ := X.base) I.ok.mod.kin hk hall (L2.thn (hkw.run pos pins s σ H _ I h) fun ws s2 ⟨zs, H2, I2, rz, q2⟩ => ⟨I2.kIn, ?_⟩) hpl
  rw [hks]
  have hl : ws.length = ps.length := rz.length.symm.trans (F.len _ _ _ _ q2)
  refine wpAny_call (codeAny_mono (F.run X.A X.stack s2 H2 ⟨[], ps.zip ws⟩ ws zs Q (E σ) hr I2.env0 (hb s2 ws I2.kIn hl) rz q2) fun r s' hq => ?_)
  cases r with
  | error e => exact hx σ pins H2 s2 e s' I2 hq
  | ok fl =>
    cases fl with
    | ret u => exact I2.after hq
    | next => exact False.elim hq
    | brk => exact False.elim hq
    | cont => exact False.elim hq
theorem k_nil : PK X [] ((tEs X.K fa sp tb) .nil) := pk_nil
theorem k_cons {n : Str} {kp : Pos} {kws : List Keyword} (ha : PE X a ((tE X.K fa sp tb) a')) (hr : PK X kws ((tEs X.K fa sp tb) as')) : PK X (⟨some n, a, kp⟩ :: kws) ((tEs X.K fa sp tb) (.cons a' as')) := pk_cons ha hr
theorem app_nilE {sp : Sp} {t : TA} : tCallS sp (fun _ => E0) t = tCall sp [] E0 t := by
  funext σ H Q
  simp only [tCallS, tCall, List.append_nil]
theorem d_callK (h : Okx X k fa sp tb nm pn) (f : Nat) (hf : tb f) {kws : List Keyword} (hkw : PK X kws ((tEs X.K fa sp tb) as'))
    (hx : nm f = x := by rfl) (hg : Gl X x := by rfl) (hdb : (x == ("__debug__" : Str)) = false := by decide) (hall : (backToKw pos (keywordEach kws X.env)).all (·.1.isSome) = true := by rfl) (hks : (backToKw pos (keywordEach kws X.env)).filterMap (·.1) = pn f := by rfl)
    (hpl : ((backTo pos (starEach [] X.env)).any (·.1) || (backToKw pos (keywordEach kws X.env)).any (·.1.isNone)) = false := by rfl) : PE X (.Call (.Name x p) [] kws pos) ((tE X.K fa sp tb) (.call f as')) := by
  obtain ⟨fd, F, kp, bd, m, kb⟩ := h.tbl.fn f hf
  show PE X _ (tCall (sp f) [] E0 ((tEs X.K fa sp tb) as'))
  rw [← app_nilE]
  exact pe_callN0 F h.room hg (hx ▸ m) kp kb (fun σ pins H s e s' I c => passF pins σ H s e s' I c) hkw hall hks hdb hpl
/-! what may raise -/
theorem x_pure (ha : PE X a ((tE X.K fa sp tb) a')) : PE X a (tX X.K fa sp tb Wx (.pure a')) := ha
theorem x_call (h : Okx X k fa sp tb nm pn) (tk : Takes X Wx) (f : Nat) (hf : tb f) (ha : PA X (e :: es) ((tEs X.K fa sp tb) as')) (hx : nm f = x := by rfl) (hg : Gl X x := by rfl) (hdb : (x == ("__debug__" : Str)) = false := by decide)
    (he : starEach (e :: es) X.env = (false, eval e X.env) :: starEach es X.env := by rfl) (hpl : (backTo pos (starEach es X.env)).any (·.1) = false := by rfl) : PE X (.Call (.Name x p) (e :: es) [] pos) (tX X.K fa sp tb Wx (.call f as')) := by
  obtain ⟨fd, F, kp, bd, m, kb⟩ := h.tbl.fn f hf
  exact pe_callS F h.room hg (hx ▸ m) kp bd (fun σ => passAt tk σ) ha hdb he hpl
theorem x_callK (h : Okx X k fa sp tb nm pn) (tk : Takes X Wx) (f : Nat) (hf : tb f) {kws : List Keyword} (hkw : PK X kws ((tEs X.K fa sp tb) as'))
    (hx : nm f = x := by rfl) (hg : Gl X x := by rfl) (hdb : (x == ("__debug__" : Str)) = false := by decide) (hall : (backToKw pos (keywordEach kws X.env)).all (·.1.isSome) = true := by rfl) (hks : (backToKw pos (keywordEach kws X.env)).filterMap (·.1) = pn f := by rfl)
    (hpl : ((backTo pos (starEach [] X.env)).any (·.1) || (backToKw pos (keywordEach kws X.env)).any (·.1.isNone)) = false := by rfl) : PE X (.Call (.Name x p) [] kws pos) (tX X.K fa sp tb Wx (.call f as')) := by
  obtain ⟨fd, F, kp, bd, m, kb⟩ := h.tbl.fn f hf
  exact pe_callN0 F h.room hg (hx ▸ m) kp kb (fun σ => passAt tk σ) hkw hall hks hdb hpl
theorem x_ite {t : T} {x1 x2 : XE} (hc : PT X q ((tT X.K fa sp tb) t)) (ha : PE X a (tX X.K fa sp tb Wx x1)) (hb : PE X b (tX X.K fa sp tb Wx x2)) : PE X (.IfExp q a b pos) (tX X.K fa sp tb Wx (.ite t x1 x2)) := pe_ifExp hc ha hb
theorem d_callv (h : Okx X k fa sp tb nm pn) {i : Nat} (ha : PA X (e :: es) ((tEs X.K fa sp tb) as')) (hN : X.N[i]? = some x := by rfl) (hv : Vis X.env.scope x := by first | exact Or.inl rfl | exact Or.inr (Or.inl rfl) | exact Or.inr (Or.inr rfl))
    (hdb : (x == ("__debug__" : Str)) = false := by decide) (hcd : (x == ("__classdict__" : Str)) = false := by decide)
    (he : starEach (e :: es) X.env = (false, eval e X.env) :: starEach es X.env := by rfl) (hpl : (backTo pos (starEach es X.env)).any (·.1) = false := by rfl) : PE X (.Call (.Name x p) (e :: es) [] pos) ((tE X.K fa sp tb) (.callv i as')) := by
  show PE X _ (fun σ H Q => ∃ f, tb f ∧ tCallL i (fa f) (sp f) [] E0 ((tEs X.K fa sp tb) as') σ H Q)
  refine pe_exs fun f hf => ?_
  obtain ⟨fd, F, kp, bd, m, kb⟩ := h.tbl.fn f hf
  exact pe_callL F h.room hN hv kp bd .nil passF ha hdb hcd he hpl
theorem d_len (h : Okx X k fa sp tb nm pn) (ha : PA X [e] ((tEs X.K fa sp tb) as')) (hg : Gl X "len" := by rfl) (he : starEach [e] X.env = (false, eval e X.env) :: starEach [] X.env := by rfl) (hpl : (backTo pos (starEach [] X.env)).any (·.1) = false := by rfl) :
    PE X (.Call (.Name "len" p) [e] [] pos) ((tE X.K fa sp tb) (.bi .len as')) := pe_callB (call_len_seq.or call_len_str) hg h.bt.len boot_len ha (by decide) (by decide) he hpl
theorem d_intf (h : Okx X k fa sp tb nm pn) (ha : PA X [e] ((tEs X.K fa sp tb) as')) (hg : Gl X "int" := by rfl) (he : starEach [e] X.env = (false, eval e X.env) :: starEach [] X.env := by rfl) (hpl : (backTo pos (starEach [] X.env)).any (·.1) = false := by rfl) :
    PE X (.Call (.Name "int" p) [e] [] pos) ((tE X.K fa sp tb) (.bi .int as')) := pe_callTy call_int1 hg h.bt.int (by decide +kernel) ha (by decide) (by decide) he hpl
theorem d_all (h : Okx X k fa sp tb nm pn) (ha : PA X [e] ((tEs X.K fa sp tb) as')) (hg : Gl X "all" := by rfl) (he : starEach [e] X.env = (false, eval e X.env) :: starEach [] X.env := by rfl) (hpl : (backTo pos (starEach [] X.env)).any (·.1) = false := by rfl) :
    PE X (.Call (.Name "all" p) [e] [] pos) ((tE X.K fa sp tb) (.bi .all as')) := pe_callB (cr_all h.calm) hg h.bt.all (by decide +kernel) ha (by decide) (by decide) he hpl
theorem d_any (h : Okx X k fa sp tb nm pn) (ha : PA X [e] ((tEs X.K fa sp tb) as')) (hg : Gl X "any" := by rfl) (he : starEach [e] X.env = (false, eval e X.env) :: starEach [] X.env := by rfl) (hpl : (backTo pos (starEach [] X.env)).any (·.1) = false := by rfl) :
    PE X (.Call (.Name "any" p) [e] [] pos) ((tE X.K fa sp tb) (.bi .any as')) := pe_callB (cr_any h.calm) hg h.bt.any (by decide +kernel) ha (by decide) (by decide) he hpl
theorem d_sum (h : Okx X k fa sp tb nm pn) (ha : PA X [e] ((tEs X.K fa sp tb) as')) (hg : Gl X "sum" := by rfl) (he : starEach [e] X.env = (false, eval e X.env) :: starEach [] X.env := by rfl) (hpl : (backTo pos (starEach [] X.env)).any (·.1) = false := by rfl) :
    PE X (.Call (.Name "sum" p) [e] [] pos) ((tE X.K fa sp tb) (.bi .sum as')) := pe_callB (cr_sum h.calm) hg h.bt.sum (by decide +kernel) ha (by decide) (by decide) he hpl
theorem d_minL (h : Okx X k fa sp tb nm pn) (ha : PA X [e] ((tEs X.K fa sp tb) as')) (hg : Gl X "min" := by rfl) (he : starEach [e] X.env = (false, eval e X.env) :: starEach [] X.env := by rfl) (hpl : (backTo pos (starEach [] X.env)).any (·.1) = false := by rfl) :
    PE X (.Call (.Name "min" p) [e] [] pos) ((tE X.K fa sp tb) (.bi .minL as')) := pe_callB (cr_min h.calm) hg h.bt.min (by decide +kernel) ha (by decide) (by decide) he hpl
theorem d_maxL (h : Okx X k fa sp tb nm pn) (ha : PA X [e] ((tEs X.K fa sp tb) as')) (hg : Gl X "max" := by rfl) (he : starEach [e] X.env = (false, eval e X.env) :: starEach [] X.env := by rfl) (hpl : (backTo pos (starEach [] X.env)).any (·.1) = false := by rfl) :
    PE X (.Call (.Name "max" p) [e] [] pos) ((tE X.K fa sp tb) (.bi .maxL as')) := pe_callB (cr_max h.calm) hg h.bt.max (by decide +kernel) ha (by decide) (by decide) he hpl
theorem d_max2 (h : Okx X k fa sp tb nm pn) (ha : PA X [a, b] ((tEs X.K fa sp tb) as')) (hg : Gl X "max" := by rfl) (he : starEach [a, b] X.env = (false, eval a X.env) :: starEach [b] X.env := by rfl) (hpl : (backTo pos (starEach [b] X.env)).any (·.1) = false := by rfl) :
    PE X (.Call (.Name "max" p) [a, b] [] pos) ((tE X.K fa sp tb) (.bi .max2 as')) := pe_callB (call_max2 h.calm) hg h.bt.max (by decide +kernel) ha (by decide) (by decide) he hpl
theorem d_min2 (h : Okx X k fa sp tb nm pn) (ha : PA X [a, b] ((tEs X.K fa sp tb) as')) (hg : Gl X "min" := by rfl) (he : starEach [a, b] X.env = (false, eval a X.env) :: starEach [b] X.env := by rfl) (hpl : (backTo pos (starEach [b] X.env)).any (·.1) = false := by rfl) :
    PE X (.Call (.Name "min" p) [a, b] [] pos) ((tE X.K fa sp tb) (.bi .min2 as')) := pe_callB (call_min2 h.calm) hg h.bt.min (by decide +kernel) ha (by decide) (by decide) he hpl
theorem d_strf (h : Okx X k fa sp tb nm pn) (ha : PA X [e] ((tEs X.K fa sp tb) as')) (hg : Gl X "str" := by rfl) (he : starEach [e] X.env = (false, eval e X.env) :: starEach [] X.env := by rfl) (hpl : (backTo pos (starEach [] X.env)).any (·.1) = false := by rfl) :
    PE X (.Call (.Name "str" p) [e] [] pos) ((tE X.K fa sp tb) (.bi .str as')) := pe_callTy call_str_int hg h.bt.str (by decide +kernel) ha (by decide) (by decide) he hpl
theorem d_tuplef (h : Okx X k fa sp tb nm pn) (ha : PA X [e] ((tEs X.K fa sp tb) as')) (hg : Gl X "tuple" := by rfl) (he : starEach [e] X.env = (false, eval e X.env) :: starEach [] X.env := by rfl) (hpl : (backTo pos (starEach [] X.env)).any (·.1) = false := by rfl) :
    PE X (.Call (.Name "tuple" p) [e] [] pos) ((tE X.K fa sp tb) (.bi .tuple as')) := pe_callTy call_tuple_of hg h.bt.tuple (by decide +kernel) ha (by decide) (by decide) he hpl
theorem d_listf (h : Okx X k fa sp tb nm pn) (ha : PA X [e] ((tEs X.K fa sp tb) as')) (hg : Gl X "list" := by rfl) (he : starEach [e] X.env = (false, eval e X.env) :: starEach [] X.env := by rfl) (hpl : (backTo pos (starEach [] X.env)).any (·.1) = false := by rfl) :
    PE X (.Call (.Name "list" p) [e] [] pos) ((tE X.K fa sp tb) (.bi .list as')) := pe_callTy call_list_of hg h.bt.list (by decide +kernel) ha (by decide) (by decide) he hpl
theorem d_sorted (h : Okx X k fa sp tb nm pn) (ha : PA X [e] ((tEs X.K fa sp tb) as')) (hg : Gl X "sorted" := by rfl) (he : starEach [e] X.env = (false, eval e X.env) :: starEach [] X.env := by rfl) (hpl : (backTo pos (starEach [] X.env)).any (·.1) = false := by rfl) :
    PE X (.Call (.Name "sorted" p) [e] [] pos) ((tE X.K fa sp tb) (.bi .sorted as')) := pe_callB (cr_sortedI.or (PvR.call_sortedDI h.calm)) hg h.bt.sorted (by decide +kernel) ha (by decide) (by decide) he hpl
theorem d_isi1 (h : Okx X k fa sp tb nm pn) {y : Str} {p2 : Pos} {t : String} (ha : PE X e ((tE X.K fa sp tb) e')) (hm : X.mg y = none) (hv : bootBuiltins y = some (.type t)) (hg : Gl X "isinstance" := by rfl) (hy : Gl X y := by rfl)
    (hn : y ≠ "__name__" := by decide) (hd : (y == ("__debug__" : Str)) = false := by decide)
    (he : starEach [e, .Name y p2] X.env = (false, eval e X.env) :: starEach [.Name y p2] X.env := by rfl) (he2 : starEach [.Name y p2] X.env = (false, eval (.Name y p2) X.env) :: starEach [] X.env := by rfl) (hpl : (backTo pos (starEach [.Name y p2] X.env)).any (·.1) = false := by rfl) :
    PE X (.Call (.Name "isinstance" p) [e, .Name y p2] [] pos) ((tE X.K fa sp tb) (.isi1 e' t)) :=
  pe_callB call_isi hg h.bt.isinstance (by decide +kernel) (pa_cons ha (pa_cons (pe_bltn hy hm hv rfl hn hd) pa_nil he2) he) (by decide) (by decide) he hpl
theorem d_isi2 (h : Okx X k fa sp tb nm pn) {y z : Str} {p2 p3 p4 : Pos} {t u : String} {j : Nat} (ha : PE X e ((tE X.K fa sp tb) e')) (hm : X.mg y = none) (hv : bootBuiltins y = some (.type t)) (hm2 : X.mg z = none) (hv2 : bootBuiltins z = some (.type u))
    (hg : Gl X "isinstance" := by rfl) (hy : Gl X y := by rfl) (hz : Gl X z := by rfl)
    (hn : y ≠ "__name__" := by decide) (hd : (y == ("__debug__" : Str)) = false := by decide) (hn2 : z ≠ "__name__" := by decide) (hd2 : (z == ("__debug__" : Str)) = false := by decide)
    (h1 : starEach [.Name y p2, .Name z p3] X.env = (false, eval (.Name y p2) X.env) :: starEach [.Name z p3] X.env := by rfl) (h2 : starEach [.Name z p3] X.env = (false, eval (.Name z p3) X.env) :: starEach [] X.env := by rfl)
    (he : starEach [e, .Tuple [.Name y p2, .Name z p3] j p4] X.env = (false, eval e X.env) :: starEach [.Tuple [.Name y p2, .Name z p3] j p4] X.env := by rfl)
    (he2 : starEach [.Tuple [.Name y p2, .Name z p3] j p4] X.env = (false, eval (.Tuple [.Name y p2, .Name z p3] j p4) X.env) :: starEach [] X.env := by rfl)
    (hpl : (backTo pos (starEach [.Tuple [.Name y p2, .Name z p3] j p4] X.env)).any (·.1) = false := by rfl) :
    PE X (.Call (.Name "isinstance" p) [e, .Tuple [.Name y p2, .Name z p3] j p4] [] pos) ((tE X.K fa sp tb) (.isi2 e' t u)) :=
  pe_callB call_isiT hg h.bt.isinstance (by decide +kernel) (pa_cons ha (pa_cons (pe_tup (pa_cons (pe_bltn hy hm hv rfl hn hd) (pa_cons (pe_bltn hz hm2 hv2 rfl hn2 hd2) pa_nil h2) h1)) pa_nil he2) he) (by decide) (by decide) he hpl
theorem d_isascii {ap : Pos} (ha : PE X a ((tE X.K fa sp tb) a')) (h1 : attributeBase a "isascii" X.env (eval a X.env) = eval a X.env := by rfl) (h2 : (ap.endLine == pos.line) = true := by rfl) : PE X (.Call (.Attribute a "isascii" ap) [] [] pos) ((tE X.K fa sp tb) (.mt0 .isascii a')) :=
  pe_m0 PySem.F.slot_str_isascii PySem.F.type_str_isascii mt_isascii ha h1 h2
theorem d_isalpha {ap : Pos} (ha : PE X a ((tE X.K fa sp tb) a')) (h1 : attributeBase a "isalpha" X.env (eval a X.env) = eval a X.env := by rfl) (h2 : (ap.endLine == pos.line) = true := by rfl) : PE X (.Call (.Attribute a "isalpha" ap) [] [] pos) ((tE X.K fa sp tb) (.mt0 .isalpha a')) :=
  pe_m0 PySem.F.slot_str_isalpha PySem.F.type_str_isalpha mt_isalpha ha h1 h2
theorem d_islower {ap : Pos} (ha : PE X a ((tE X.K fa sp tb) a')) (h1 : attributeBase a "islower" X.env (eval a X.env) = eval a X.env := by rfl) (h2 : (ap.endLine == pos.line) = true := by rfl) : PE X (.Call (.Attribute a "islower" ap) [] [] pos) ((tE X.K fa sp tb) (.mt0 .islower a')) :=
  pe_m0 PySem.F.slot_str_islower PySem.F.type_str_islower mt_islower ha h1 h2
theorem d_isdigit {ap : Pos} (ha : PE X a ((tE X.K fa sp tb) a')) (h1 : attributeBase a "isdigit" X.env (eval a X.env) = eval a X.env := by rfl) (h2 : (ap.endLine == pos.line) = true := by rfl) : PE X (.Call (.Attribute a "isdigit" ap) [] [] pos) ((tE X.K fa sp tb) (.mt0 .isdigit a')) :=
  pe_m0 PySem.F.slot_str_isdigit PySem.F.type_str_isdigit mt_isdigit ha h1 h2
theorem d_ix (ha : PE X a ((tE X.K fa sp tb) a')) (hb : PE X b ((tE X.K fa sp tb) b')) (hs : PlainIx b := by exact fun _ _ => rfl) : PE X (.Subscript a b pos) ((tE X.K fa sp tb) (.ix a' b')) := pe_ix ix_seq ha hb hs
theorem d_sl {lo hi : Option Expr} {lo' hi' : Eo} {p2 : Pos} (ha : PE X a ((tE X.K fa sp tb) a')) (h1 : PO X lo (tO X.K fa sp tb lo')) (h2 : PO X hi (tO X.K fa sp tb hi')) : PE X (.Subscript a (.Slice lo hi none p2) pos) ((tE X.K fa sp tb) (.sl a' lo' hi')) :=
  pe_slice (sl_list.or (sl_tupA.or sl_str)) ha h1 h2
theorem d_on : PO X none (tO X.K fa sp tb .none) := po_none
theorem d_os (ha : PE X a ((tE X.K fa sp tb) a')) : PO X (some a) (tO X.K fa sp tb (.some a')) := po_some ha
theorem d_tup {j : Nat} (h : PA X es ((tEs X.K fa sp tb) as')) : PE X (.Tuple es j pos) ((tE X.K fa sp tb) (.tup as')) := pe_tup h
theorem d_lst (h : PA X es ((tEs X.K fa sp tb) as')) : PE X (.List es pos) ((tE X.K fa sp tb) (.lst as')) := pe_lst h
theorem d_comp (h : Okx X k fa sp tb nm pn) {elt tg iter : Expr} {ifs : List Expr} {scope : Scope} (own : List (Str × Nat)) {tg' : Tg} {it' : It} {c' : To} {elt' : E} {vs : List Nat}
    (hi : PI X tg iter (tI X.K fa sp tb it')) (ok : BlkOk X.N X.env.scope scope own)
    (hg : ∀ (s : Shared) (H : Hp) (C : Addr) (cl : List (Str × Addr)) (fp : List Addr), PG (X.blk s H scope (compEnvC scope cl C X.env) fp) tg (tTg X.K tg'))
    (ht : ∀ (s : Shared) (H : Hp) (C : Addr) (cl : List (Str × Addr)) (fp : List Addr), PTs (X.blk s H scope (compEnvC scope cl C X.env) fp) ifs (tTo X.K fa sp tb c'))
    (he : ∀ (s : Shared) (H : Hp) (C : Addr) (cl : List (Str × Addr)) (fp : List Addr), PE (X.blk s H scope (compEnvC scope cl C X.env) fp) elt ((tE X.K fa sp tb) elt'))
    (hv : own.map (·.2) = vs := by rfl) (hs : ∀ x, foldedSetIterable iter X.env x = pure x := by intro _; rfl) : PE X (.ListComp elt [⟨tg, iter, ifs, 0⟩] scope pos) ((tE X.K fa sp tb) (.comp vs tg' it' c' elt')) := by
  subst hv
  exact pe_lc h.calm h.nd hi ok hg ht he hs
theorem d_tn : PTs X [] (tTo X.K fa sp tb .none) := pts_nil
theorem d_ts {t : T} (h : PT X a ((tT X.K fa sp tb) t)) : PTs X [a] (tTo X.K fa sp tb (.some t)) := pts_one h
/-! walks -/
theorem d_seq {tg : Expr} (ha : PE X a ((tE X.K fa sp tb) a')) : PI X tg a (tI X.K fa sp tb (.seq a')) := pi_or (pi_list ha) (pi_or (pi_tup ha) (pi_str ha))
theorem d_r1 (h : Okx X k fa sp tb nm pn) {tg : Expr} (ha : PE X a ((tE X.K fa sp tb) a')) (hg : Gl X "range" := by rfl) (hs : starEach [a] X.env = [(false, eval a X.env)] := by rfl) : PI X tg (.Call (.Name "range" p) [a] [] pos) (tI X.K fa sp tb (.r1 a')) :=
  pi_range1 hg h.bt.range (pa_cons ha pa_nil hs) hs
theorem d_r2 (h : Okx X k fa sp tb nm pn) {tg : Expr} (ha : PE X a ((tE X.K fa sp tb) a')) (hb : PE X b ((tE X.K fa sp tb) b')) (hg : Gl X "range" := by rfl) (hs : starEach [a, b] X.env = [(false, eval a X.env), (false, eval b X.env)] := by rfl)
    (hs2 : starEach [b] X.env = [(false, eval b X.env)] := by rfl) : PI X tg (.Call (.Name "range" p) [a, b] [] pos) (tI X.K fa sp tb (.r2 a' b')) :=
  pi_range2 hg h.bt.range (pa_cons ha (pa_cons hb pa_nil hs2) (by rw [hs, hs2])) hs hs2
theorem d_zip (h : Okx X k fa sp tb nm pn) {ts : List Expr} {kk : Nat} {tp : Pos} (ha : PE X a ((tE X.K fa sp tb) a')) (hb : PE X b ((tE X.K fa sp tb) b')) (hg : Gl X "zip" := by rfl) (hs : starEach [a, b] X.env = (false, eval a X.env) :: starEach [b] X.env := by rfl)
    (hs2 : starEach [b] X.env = (false, eval b X.env) :: starEach [] X.env := by rfl) (hpl : (backTo pos (starEach [b] X.env)).any (·.1) = false := by rfl) :
    PI X (.Tuple ts kk tp) (.Call (.Name "zip" p) [a, b] [] pos) (tI X.K fa sp tb (.zip a' b')) :=
  PvR.pi_zipX hg h.bt.zip (pa_cons ha (pa_cons hb pa_nil hs2) hs) hs hpl
/-! tests -/
theorem d_val (h : PE X a ((tE X.K fa sp tb) a')) (hv : ∀ whole, PySem.isTrue a X.env whole = (do let v ← whole; standAt a.pos; holding [v] (truthy v)) := by intro _; rfl) : PT X a ((tT X.K fa sp tb) (.val a')) := pt_val h hv
theorem d_tcmp (h : Okx X k fa sp tb nm pn) (o : COp) (ha : PE X a ((tE X.K fa sp tb) a')) (hb : PE X b ((tE X.K fa sp tb) b')) (hm : behindInMarks (cop o) b = false := by rfl) : PT X (.Compare a [cop o] [b] pos) ((tT X.K fa sp tb) (.val (.cmp o a' b'))) := pt_cmpR (cop_ok h o) ha hb hm
theorem d_tchain (h : Okx X k fa sp tb nm pn) (o o' : COp) (ha : PE X a ((tE X.K fa sp tb) a')) (hb : PE X b ((tE X.K fa sp tb) b')) (hq : PE X q ((tE X.K fa sp tb) q')) (hm : lastMarks [cop o, cop o'] [b, q] = false := by with_unfolding_all rfl) : PT X (.Compare a [cop o, cop o'] [b, q] pos) ((tT X.K fa sp tb) (.val (.chain o o' a' b' q'))) :=
  pt_chain (cop_ok h o) (cop_ok h o') ha hb hq hm
theorem d_tisN {j : Nat} {pos' : Pos} (ha : PE X a ((tE X.K fa sp tb) a')) : PT X (.Compare a [.Is] [.Constant .none j pos'] pos) ((tT X.K fa sp tb) (.val (.isN a'))) := pt_cmp (pc_isN ha) rfl
theorem d_tnotN {j : Nat} {pos' : Pos} (ha : PE X a ((tE X.K fa sp tb) a')) : PT X (.Compare a [.IsNot] [.Constant .none j pos'] pos) ((tT X.K fa sp tb) (.val (.notN a'))) := pt_cmp (pc_notN ha) rfl
variable {t u : T}
theorem d_tnot (h : PT X a ((tT X.K fa sp tb) t)) : PT X (.UnaryOp .Not a pos) ((tT X.K fa sp tb) (.not t)) := pt_not h
theorem d_wand1 (h : PT X a ((tT X.K fa sp tb) t)) : PW X (.BoolOp .And [a] pos) ((tT X.K fa sp tb) t) := pw_and1 h
theorem d_wor1 (h : PT X a ((tT X.K fa sp tb) t)) : PW X (.BoolOp .Or [a] pos) ((tT X.K fa sp tb) t) := pw_or1 h
theorem d_wand {r : List Expr} (ha : PT X a ((tT X.K fa sp tb) t)) (hb : PW X (.BoolOp .And (b :: r) pos) ((tT X.K fa sp tb) u)) : PW X (.BoolOp .And (a :: b :: r) pos) ((tT X.K fa sp tb) (.and t u)) := pw_and ha hb
theorem d_wor {r : List Expr} (ha : PT X a ((tT X.K fa sp tb) t)) (hb : PW X (.BoolOp .Or (b :: r) pos) ((tT X.K fa sp tb) u)) : PW X (.BoolOp .Or (a :: b :: r) pos) ((tT X.K fa sp tb) (.or t u)) := pw_or ha hb
theorem d_w (h : PW X a ((tT X.K fa sp tb) t)) : PT X a ((tT X.K fa sp tb) t) := h.pt
/-! targets -/
theorem d_gn (h : Okx X k fa sp tb nm pn) {i : Nat} (hi : X.N[i]? = some x := by rfl) (hx : L2.Loc X.env.scope x := by first | exact Or.inl rfl | exact Or.inr rfl) (hf : X.fn x = true ∨ X.env.scope.names.lookup x = some .local := by first | exact .inl rfl | exact .inr rfl) : PG X (.Name x pos) (tTg X.K (.name i)) := pg_name h.nd hi hx hf
theorem d_gs0 : PGs X [] (tTg.go X.K .tnil) := pgs_nil
theorem d_gs {g r : Tg} (h1 : PG X e (tTg X.K g)) (h2 : PGs X es (tTg.go X.K r)) (hs : (assignEach (e :: es) X.env).map (·.2) = assign e X.env :: (assignEach es X.env).map (·.2) := by rfl) : PGs X (e :: es) (tTg.go X.K (.tcons g r)) := pgs_cons h1 h2 hs
theorem d_gt (h : Okx X k fa sp tb nm pn) {ts : Tg} {j : Nat} (h1 : PGs X es (tTg.go X.K ts)) (hn : (assignEach es X.env).length = tgLen ts := by rfl) (hst : (assignEach es X.env).findIdx? (·.1) = none := by rfl) : PG X (.Tuple es j pos) (tTg X.K (.tup ts)) :=
  pg_imp (pg_or (pg_tup h.calm h1 hn hst) (pg_unl h.calm h1 hn hst)) fun v σ H Q ⟨a, xs, e, s, l, q⟩ => s.elim (fun s => .inl ⟨a, xs, e, s, l, q⟩) fun s => .inr ⟨a, xs, e, s, l, q⟩
end

section
variable {X : Cx} {k : Nat} {fa : Nat → Addr} {sp : Nat → Sp} {tb : Nat → Prop} {nm : Nat → Str} {pn : Nat → List Str} {a b q e : Expr} {es : List Expr} {a' b' q' e' : E} {as' : Es} {pos p : Pos} {x : Str} {C : Addr} {Wx : WX}
theorem s_nil : PSs X [] ((tSs X.K fa sp tb C Wx) .nil) := pss_nil
theorem s_cons {st : Stmt} {rest : List Stmt} {s : Pv.S} {ss : Ss} (h1 : PS X st ((tS X.K fa sp tb C Wx) s)) (h2 : PSs X rest ((tSs X.K fa sp tb C Wx) ss)) : PSs X (st :: rest) ((tSs X.K fa sp tb C Wx) (.cons s ss)) := pss_cons h1 h2
theorem s_set (h : Okx X k fa sp tb nm pn) {i : Nat} {p' : Pos} (he : PE X e ((tE X.K fa sp tb) e')) (hi : X.N[i]? = some x := by rfl) (hx : L2.Loc X.env.scope x := by first | exact Or.inl rfl | exact Or.inr rfl)
    (hs : swapsWith e (some (.Name x p')) pos.line X.env = pure false := by rfl) (hf : X.fn x = true ∨ X.env.scope.names.lookup x = some .local := by first | exact .inl rfl | exact .inr rfl) : PS X (.Assign [.Name x p'] e pos) ((tS X.K fa sp tb C Wx) (.asg (.name i) e')) := ps_set h.nd hi hx he hs hf
theorem s_asg {tg : Expr} {g : Tg} (he : PE X e ((tE X.K fa sp tb) e')) (hg : PG X tg (tTg X.K g)) (h1 : swapsWithSole [tg] e pos.line X.env = pure false := by rfl) (h2 : swappedStores [tg] e X.env = pure none := by rfl)
    (h3 : (assignEach [tg] X.env).map (·.2) = [assign tg X.env] := by rfl) : PS X (.Assign [tg] e pos) ((tS X.K fa sp tb C Wx) (.asg g e')) := ps_asg he hg h1 h2 h3
theorem s_par (h : Okx X k fa sp tb nm pn) {i j : Nat} {y : Str} {px py pt : Pos} {kt k2 : Nat} {pt2 : Pos} (ha : PE X a ((tE X.K fa sp tb) a')) (hb : PE X b ((tE X.K fa sp tb) b')) (hi : X.N[i]? = some x := by rfl) (hj : X.N[j]? = some y := by rfl) (hij : i ≠ j := by decide)
    (hx : X.env.scope.names.lookup x = some .local := by rfl) (hy : X.env.scope.names.lookup y = some .local := by rfl)
    (hw : swappedStores [.Tuple [.Name x px, .Name y py] kt pt] (.Tuple [a, b] k2 pt2) X.env = pure (some [x, y]) := by rfl) (hs : swapsWithSole [.Tuple [.Name x px, .Name y py] kt pt] (.Tuple [a, b] k2 pt2) pos.line X.env = pure false := by rfl)
    (h1 : starEach [a, b] X.env = (false, eval a X.env) :: starEach [b] X.env := by rfl) (h2 : starEach [b] X.env = (false, eval b X.env) :: starEach [] X.env := by rfl) :
    PS X (.Assign [.Tuple [.Name x px, .Name y py] kt pt] (.Tuple [a, b] k2 pt2) pos) ((tS X.K fa sp tb C Wx) (.par i j a' b')) := ps_par h.calm h.nd hi hj hij hx hy (pa_cons ha (pa_cons hb pa_nil h2) h1) hw hs
theorem s_newD (h : Okx X k fa sp tb nm pn) {i : Nat} {p' p2 : Pos} (hi : X.N[i]? = some x := by rfl) (hx : L2.Loc X.env.scope x := by first | exact Or.inl rfl | exact Or.inr rfl)
    (hs : swapsWith (.Dict [] [] p2) (some (.Name x p')) pos.line X.env = pure false := by rfl) (hf : X.fn x = true ∨ X.env.scope.names.lookup x = some .local := by first | exact .inl rfl | exact .inr rfl) : PS X (.Assign [.Name x p'] (.Dict [] [] p2) pos) ((tS X.K fa sp tb C Wx) (.newD i)) := ps_set h.nd hi hx pe_dnewK hs hf
theorem s_newL (h : Okx X k fa sp tb nm pn) {i : Nat} {p' p2 : Pos} (ha : PA X es (tEs X.K fa sp tb as')) (hi : X.N[i]? = some x := by rfl) (hx : L2.Loc X.env.scope x := by first | exact Or.inl rfl | exact Or.inr rfl)
    (hs : swapsWith (.List es p2) (some (.Name x p')) pos.line X.env = pure false := by rfl) (hf : X.fn x = true ∨ X.env.scope.names.lookup x = some .local := by first | exact .inl rfl | exact .inr rfl) : PS X (.Assign [.Name x p'] (.List es p2) pos) ((tS X.K fa sp tb C Wx) (.newL i as')) := ps_set h.nd hi hx (pe_lst ha) hs hf
theorem s_setLc (h : Okx X k fa sp tb nm pn) {i : Nat} {elt tg iter : Expr} {ifs : List Expr} {scope : Scope} (own : List (Str × Nat)) {tg' : Tg} {it' : It} {c' : To} {elt' : E} {vs : List Nat} {py cpos : Pos}
    (hi : PI X tg iter (tI X.K fa sp tb it')) (ok : BlkOk X.N X.env.scope scope own)
    (hg : ∀ (s : Shared) (H : Hp) (C : Addr) (cl : List (Str × Addr)) (fp : List Addr), PG (X.blk s H scope (compEnvC scope cl C X.env) fp) tg (tTg X.K tg'))
    (ht : ∀ (s : Shared) (H : Hp) (C : Addr) (cl : List (Str × Addr)) (fp : List Addr), PTs (X.blk s H scope (compEnvC scope cl C X.env) fp) ifs (tTo X.K fa sp tb c'))
    (he : ∀ (s : Shared) (H : Hp) (C : Addr) (cl : List (Str × Addr)) (fp : List Addr), PE (X.blk s H scope (compEnvC scope cl C X.env) fp) elt ((tE X.K fa sp tb) elt'))
    (hsw : swapsWith (.ListComp elt [⟨tg, iter, ifs, 0⟩] scope cpos) (some (.Name x py)) pos.line X.env = pure true)
    (hy : X.N[i]? = some x := by rfl) (hyl : X.env.scope.names.lookup x = some .local := by rfl)
    (hv : own.map (·.2) = vs := by rfl) (hs : ∀ x, foldedSetIterable iter X.env x = pure x := by intro _; rfl) : PS X (.Assign [.Name x py] (.ListComp elt [⟨tg, iter, ifs, 0⟩] scope cpos) pos) (tAsg ((tE X.K fa sp tb) (.comp vs tg' it' c' elt')) (gName i)) := by
  subst hv
  exact ps_setLc h.calm h.nd hy hyl hsw hi ok hg ht he hs
theorem s_app {i : Nat} {ap p2 : Pos} (ha : PE X a ((tE X.K fa sp tb) a')) (hN : X.N[i]? = some x := by rfl) (hv : Vis X.env.scope x := by first | exact Or.inl rfl | exact Or.inr (Or.inl rfl) | exact Or.inr (Or.inr rfl))
    (hd : (x == ("__debug__" : Str)) = false := by decide) (hcd : (x == ("__classdict__" : Str)) = false := by decide)
    (h1 : attributeBase (.Name x p) "append" X.env (eval (.Name x p) X.env) = eval (.Name x p) X.env := by rfl)
    (h2 : ((((backTo p2 (starEach [a] X.env)).all fun x => !x.1) && (backToKw p2 (keywordEach [] X.env)).all fun x => x.1.isSome) && decide (([a].length + ([] : List Keyword).length + if ([] : List Keyword).isEmpty = true then 0 else 1) < 30)) = true := by rfl)
    (h3 : (ap.endLine == p2.line) = true := by rfl) (h4 : starEach [a] X.env = (false, eval a X.env) :: starEach [] X.env := by rfl) (h5 : (backTo p2 (starEach [] X.env)).any (·.1) = false := by rfl)
    (hs : swapsWith (.Call (.Attribute (.Name x p) "append" ap) [a] [] p2) none pos.line X.env = pure false := by rfl) :
    PS X (.Expr (.Call (.Attribute (.Name x p) "append" ap) [a] [] p2) pos) ((tS X.K fa sp tb C Wx) (.app i a')) :=
  ps_expr (pe_bm PySem.F.plainAttrs_list PySem.F.slot_list_append PySem.F.type_list_append mt_append (pv i hN hv hd hcd) (pa_cons ha pa_nil h4) h1 h2 h3 h4 h5) hs
theorem s_setL {i : Nat} {p' : Pos} (hk : PE X a ((tE X.K fa sp tb) a')) (he : PE X e ((tE X.K fa sp tb) e')) (hN : X.N[i]? = some x := by rfl) (hv : Vis X.env.scope x := by first | exact Or.inl rfl | exact Or.inr (Or.inl rfl) | exact Or.inr (Or.inr rfl))
    (hd : (x == ("__debug__" : Str)) = false := by decide) (hcd : (x == ("__classdict__" : Str)) = false := by decide)
    (h0 : ∀ v, assign (.Subscript (.Name x p) a p') X.env v = (do let ov ← holding [v] (eval (.Name x p) X.env); let iv ← holding [v, ov] (eval a X.env); standAt p'; holding [v, ov, iv] (setItem ov iv v); release [v, ov, iv] []) := by intro _; rfl)
    (h1 : swapsWithSole [.Subscript (.Name x p) a p'] e pos.line X.env = pure false := by rfl) (h2 : swappedStores [.Subscript (.Name x p) a p'] e X.env = pure none := by rfl)
    (h3 : (assignEach [.Subscript (.Name x p) a p'] X.env).map (·.2) = [assign (.Subscript (.Name x p) a p') X.env] := by rfl) :
    PS X (.Assign [.Subscript (.Name x p) a p'] e pos) ((tS X.K fa sp tb C Wx) (.setL i a' e')) := ps_asg he (pg_sub (pv i hN hv hd hcd) hk set_list h0) h1 h2 h3
theorem s_setD (h : Okx X k fa sp tb nm pn) {i : Nat} {p' : Pos} (hk : PE X a ((tE X.K fa sp tb) a')) (he : PE X e ((tE X.K fa sp tb) e')) (hN : X.N[i]? = some x := by rfl) (hv : Vis X.env.scope x := by first | exact Or.inl rfl | exact Or.inr (Or.inl rfl) | exact Or.inr (Or.inr rfl))
    (hd : (x == ("__debug__" : Str)) = false := by decide) (hcd : (x == ("__classdict__" : Str)) = false := by decide)
    (hs : swapsWith e (some (.Subscript (.Name x p) a p')) pos.line X.env = pure false := by rfl) :
    PS X (.Assign [.Subscript (.Name x p) a p'] e pos) ((tS X.K fa sp tb C Wx) (.setD i a' e')) := ps_dput (by have := h.hu; omega) (pv i hN hv hd hcd) hk he hs
theorem s_dropX {xe : XE} (he : PE X e (tX X.K fa sp tb Wx xe)) (hs : swapsWith e none pos.line X.env = pure false := by rfl) : PS X (.Expr e pos) ((tS X.K fa sp tb C Wx) (.dropX xe)) := ps_expr he hs
theorem s_retX {xe : XE} (he : PE X e (tX X.K fa sp tb Wx xe)) : PS X (.Return (some e) pos) ((tS X.K fa sp tb C Wx) (.retX xe)) := ps_ret he
theorem s_setX (h : Okx X k fa sp tb nm pn) {i : Nat} {p' : Pos} {xe : XE} (he : PE X e (tX X.K fa sp tb Wx xe)) (hi : X.N[i]? = some x := by rfl) (hx : L2.Loc X.env.scope x := by first | exact Or.inl rfl | exact Or.inr rfl)
    (hs : swapsWith e (some (.Name x p')) pos.line X.env = pure false := by rfl) (hf : X.fn x = true ∨ X.env.scope.names.lookup x = some .local := by first | exact .inl rfl | exact .inr rfl) : PS X (.Assign [.Name x p'] e pos) ((tS X.K fa sp tb C Wx) (.asgX i xe)) := ps_set h.nd hi hx he hs hf
theorem s_rais (h : Okx X (k + 2) fa sp tb nm pn) (re : ErrOk X.prog X.w X.K X.mg X.base C) (tk : Takes X Wx) {p2 : Pos} (he : PE X e ((tE X.K fa sp tb) e')) (hg : Gl X "BadValue" := by rfl) (hs1 : starEach [e] X.env = (false, eval e X.env) :: starEach [] X.env := by rfl) (hpl : (backTo pos (starEach [] X.env)).any (·.1) = false := by rfl) :
    PS X (.Raise (some (.Call (.Name "BadValue" p) [e] [] pos)) none p2) ((tS X.K fa sp tb C Wx) (.rais e')) := by
  obtain ⟨B, fI, fd, T, iC, tI, F1, bd⟩ := re.ex
  exact ps_raise h.calm tk (pmk_er T iC tI F1 (h.room.mono (Nat.le_add_left 2 k)) bd passF hg (pa_cons he pa_nil hs1) (by decide) hs1 hpl)
theorem Okx.tr (h : Okx X k fa sp tb nm pn) {q : List (Addr × Obj)} {xe : Value → Shared → Prop} : Okx (X.tr q xe) k fa sp tb nm pn := ⟨h.calm, h.room, h.nd, h.tbl, h.bt⟩
theorem pe_at {B : Addr} {a : Addr} {oe : Obj} {cls : Value} {d : Option Addr} {pn : List (Addr × Obj)} {e : Expr} {i : Nat} {pos : Pos} (T : ErrC X.K X.mg "BadValue" "SecondError" "at" C B) (hz : Zc cls d oe) (hf : ∃ vs, oe.data = .fields vs) (he : PE (X.suite a ((a, oe) :: pn)) e (tVar i))
    (hb : attributeBase e "at" X.env (eval e X.env) = eval e X.env := by rfl) :
    PE (X.suite a ((a, oe) :: pn)) (.Attribute e "at" pos) (tAt C i a cls d) := by
  refine ⟨fun pins s σ H Q I h => ?_⟩
  refine attr_of hb (L2.thn (he.run pins s σ H _ I h) fun u s1 hh => ?_)
  obtain ⟨x, H1, I1, rx, ex, ec, dd, v, ed, ea, q⟩ := hh
  subst ex
  obtain rfl : u = Value.ref a := rx
  subst ec
  subst ed
  obtain ⟨ha, _⟩ := I1.pin (a, oe) (List.mem_append_left _ List.mem_cons_self)
  obtain ⟨vs, hd⟩ := hf
  have hx : ObjOk X.prog X.w H1 s1.heap dd (.xd [(("at" : Str), v)]) := I1.hok dd _ ea
  obtain ⟨mA, hns, hr⟩ := hx
  obtain ⟨od, ho, hl⟩ := lookIn_ns hns
  have l : List.lookup ("at" : Str) [(("at" : Str), v)] = some v := by simp [List.lookup]
  obtain ⟨u, hu, ru⟩ := RelO.some_of (v := v) (o := mA "at") (by rw [← l]; exact hr "at")
  have J : PySem.W.InstAt s1.heap a oe C (some od) := ⟨ha, hz.1, by unfold PySem.W.notCls; rw [hd] <;> rfl, by rw [hz.2]; exact ho⟩
  exact HandSPX.exc_get I1.kIn J T.ga T.gg T.exC (PySem.W.findObj_own T.hdC T.noF rfl (by rw [hl, hu])) (handed_of ru) ⟨v, H1, I1.tok _, ru, q⟩
theorem s_tryR (h : Okx X k fa sp tb nm pn) (re : ErrOk X.prog X.w X.K X.mg X.base C) {i j j2 : Nat} {n word : Str} {p1 p2 np pos' c1 c2 c3 c4 : Pos} {xe : XE}
    (hx : ∀ (W : WX) (pn : List (Addr × Obj)) (xw : Value → Shared → Prop), Takes (X.tr pn xw) W → PE (X.tr pn xw) e (tX X.K fa sp tb W xe)) (hst : X.stack = X.env :: X.outer := by rfl) (hfr : X.env.frame = some X.env.locals := by rfl)
    (hi : X.N[i]? = some n := by rfl) (hln : X.env.kindOf n = some .local := by rfl) (hg : Gl X "BadValue" := by rfl)
    (hv : Vis X.env.scope n := by first | exact Or.inl rfl | exact Or.inr (Or.inl rfl) | exact Or.inr (Or.inr rfl)) (hd : (n == ("__debug__" : Str)) = false := by decide) (hcd : (n == ("__classdict__" : Str)) = false := by decide)
    (hb : attributeBase (.Name n c2) "at" X.env (eval (.Name n c2) X.env) = eval (.Name n c2) X.env := by rfl)
    (hs1 : starEach [.Constant (.str word) j c1, .Attribute (.Name n c2) "at" c3] X.env = (false, eval (.Constant (.str word) j c1) X.env) :: starEach [.Attribute (.Name n c2) "at" c3] X.env := by rfl)
    (hs2 : starEach [.Attribute (.Name n c2) "at" c3] X.env = (false, eval (.Attribute (.Name n c2) "at" c3) X.env) :: starEach [] X.env := by rfl) :
    PS X (.Try [.Return (some e) p1] [.ExceptHandler (some (.Name "BadValue" np)) (some n) [.Return (some (.Tuple [.Constant (.str word) j c1, .Attribute (.Name n c2) "at" c3] j2 c4)) p2] pos'] [] [] pos) ((tS X.K fa sp tb C Wx) (.tryR xe i word)) := by
  obtain ⟨B, fI, fd, T, iC, tI, F1, bd⟩ := re.ex
  exact ps_try_as (i := i) (tb := fun W => tRet (tX X.K fa sp tb W xe)) (ts := tSuite C i word) (Wout := fun _ _ _ _ => False) hst hfr h.nd hi hln ⟨hg, by decide, .inl T.gC⟩ takes0 (fun W pn xw tk _ => pss_one (ps_ret (hx W pn xw tk)))
    (fun a oe cls d pn hz hf => pss_one (ps_ret (pe_tup (pa_cons pe_str (pa_cons (pe_at T hz hf (pe_var hi hv hd hcd) hb) pa_nil hs2) hs1))))
theorem s_newDK (h : Okx X k fa sp tb nm pn) {i : Nat} {p' p2 : Pos} {keys : List (Option Expr)} {vals : List Expr} {ps : Es} (hp : PPs X p2 keys vals (tPs X.K fa sp tb ps)) (hi : X.N[i]? = some x := by rfl) (hx : L2.Loc X.env.scope x := by first | exact Or.inl rfl | exact Or.inr rfl)
    (hall : keys.all (·.isSome) = true := by rfl) (hl : keys.length = vals.length := by rfl) (h0 : keys ≠ [] := by exact fun z => nomatch z) (h15 : keys.length ≤ 15 := by decide)
    (hs : swapsWith (.Dict keys vals p2) (some (.Name x p')) pos.line X.env = pure false := by rfl) (hf : X.fn x = true ∨ X.env.scope.names.lookup x = some .local := by first | exact .inl rfl | exact .inr rfl) : PS X (.Assign [.Name x p'] (.Dict keys vals p2) pos) ((tS X.K fa sp tb C Wx) (.newDK i ps)) := ps_set h.nd hi hx (pe_disp hp hall hl h0 h15) hs hf
theorem p_nil : PPs X pos [] [] (tPs X.K fa sp tb .nil) := pps_nil
theorem p_cons {ks : List (Option Expr)} {vs : List Expr} {r : Es} (ha : PE X a ((tE X.K fa sp tb) a')) (hb : PE X b ((tE X.K fa sp tb) b')) (hr : PPs X pos ks vs (tPs X.K fa sp tb r)) : PPs X pos (some a :: ks) (b :: vs) (tPs X.K fa sp tb (.cons a' (.cons b' r))) := pps_cons ha hb hr
theorem s_drop (he : PE X e ((tE X.K fa sp tb) e')) (hs : swapsWith e none pos.line X.env = pure false := by rfl) : PS X (.Expr e pos) ((tS X.K fa sp tb C Wx) (.drop e')) := ps_expr he hs
theorem s_ret (he : PE X e ((tE X.K fa sp tb) e')) : PS X (.Return (some e) pos) ((tS X.K fa sp tb C Wx) (.ret e')) := ps_ret he
theorem s_retN : PS X (.Return none pos) ((tS X.K fa sp tb C Wx) .retN) := ps_retN
theorem s_if {t : T} {A B : List Stmt} {A' B' : Ss} (hc : PT X q (tT X.K fa sp tb t)) (ha : PSs X A ((tSs X.K fa sp tb C Wx) A')) (hb : PSs X B ((tSs X.K fa sp tb C Wx) B')) : PS X (.If q A B pos) ((tS X.K fa sp tb C Wx) (.ifs t A' B')) := ps_if hc ha hb
theorem s_for (h : Okx X k fa sp tb nm pn) {iter tg : Expr} {body : List Stmt} {it' : It} {g : Tg} {B' : Ss} (hp : PassesOwn (model X.prog X.w) X.A X.env X.xe) (hi : PI X tg iter (tI X.K fa sp tb it')) (hg : PG X tg (tTg X.K g)) (hb : PSs X body ((tSs X.K fa sp tb C Wx) B'))
    (hs : ∀ x, foldedSetIterable iter X.env x = pure x := by intro _; rfl) : PS X (.For tg iter body [] pos) ((tS X.K fa sp tb C Wx) (.forS g it' B')) := ps_for hp h.calm hi hg hb hs
theorem s_brk : PS X (.Break pos) ((tS X.K fa sp tb C Wx) .brk) := ps_break
theorem s_cnt : PS X (.Continue pos) ((tS X.K fa sp tb C Wx) .cnt) := ps_continue
theorem s_pass : PS X (.Pass pos) ((tS X.K fa sp tb C Wx) .pass) := ps_pass
theorem s_never {st : Stmt} : PS X st ((tS X.K fa sp tb C Wx) .never) := ps_never
end
end Pv

set_option Elab.async false
set_option linter.all false
set_option maxRecDepth 100000
set_option maxHeartbeats 4000000
/-! Working out what the little language means. -/
namespace Pv
open PySem L2

/-- what a def gives, of what its body gives -/
def fin (n : Nat) : Out → Option (D × Store)
  | .rt d S => some (d, S.take n)
  | .nx _ S => some (.non, S.take n)
  | _ => none
theorem callF_eq {P : Nat → Option Fn} {k f : Nat} {ws : List W} {S : Store} {q : Fn} (h : P f = some q) (h1 : ws.length = q.ar) (h2 : q.ar ≤ q.sl) :
    callF P (k + 1) f ws S = (evSs (callF P k) q.body (startE q.sl ws) S).bind (fin S.length) := by
  simp only [callF, h, Option.bind_some, if_pos (And.intro h1 h2)]
  cases evSs (callF P k) q.body (startE q.sl ws) S with
  | none => rfl
  | some o => cases o <;> rfl

theorem kit_tt {t : String} (h : kitB t t = some true) : kitB t t = some true := h
theorem kB1 : kitB "int" "int" = some true := by decide +kernel
theorem kB2 : kitB "int" "bool" = some false := by decide +kernel
theorem kB3 : kitB "int" "str" = some false := by decide +kernel
theorem kB4 : kitB "int" "list" = some false := by decide +kernel
theorem kB5 : kitB "int" "tuple" = some false := by decide +kernel
theorem kB6 : kitB "bool" "int" = some true := by decide +kernel
theorem kB7 : kitB "bool" "bool" = some true := by decide +kernel
theorem kB8 : kitB "bool" "str" = some false := by decide +kernel
theorem kB9 : kitB "bool" "list" = some false := by decide +kernel
theorem kB10 : kitB "bool" "tuple" = some false := by decide +kernel
theorem kB11 : kitB "str" "int" = some false := by decide +kernel
theorem kB12 : kitB "str" "bool" = some false := by decide +kernel
theorem kB13 : kitB "str" "str" = some true := by decide +kernel
theorem kB14 : kitB "str" "list" = some false := by decide +kernel
theorem kB15 : kitB "str" "tuple" = some false := by decide +kernel
theorem kB16 : kitB "list" "int" = some false := by decide +kernel
theorem kB17 : kitB "list" "bool" = some false := by decide +kernel
theorem kB18 : kitB "list" "str" = some false := by decide +kernel
theorem kB19 : kitB "list" "list" = some true := by decide +kernel
theorem kB20 : kitB "list" "tuple" = some false := by decide +kernel
theorem kB21 : kitB "tuple" "int" = some false := by decide +kernel
theorem kB22 : kitB "tuple" "bool" = some false := by decide +kernel
theorem kB23 : kitB "tuple" "str" = some false := by decide +kernel
theorem kB24 : kitB "tuple" "list" = some false := by decide +kernel
theorem kB25 : kitB "tuple" "tuple" = some true := by decide +kernel
theorem kB26 : kitB "NoneType" "int" = some false := by decide +kernel
theorem kB27 : kitB "NoneType" "bool" = some false := by decide +kernel
theorem kB28 : kitB "NoneType" "str" = some false := by decide +kernel
theorem kB29 : kitB "NoneType" "list" = some false := by decide +kernel
theorem kB30 : kitB "NoneType" "tuple" = some false := by decide +kernel
theorem run_def {P : Nat → Option Fn} {k f : Nat} {ws : List W} {S : Store} {q : Fn} {ρ : En} {o : Out} {r : Option (D × Store)} (h : P f = some q) (h1 : ws.length = q.ar) (h2 : q.ar ≤ q.sl) (hρ : startE q.sl ws = ρ)
    (e : evSs (callF P k) q.body ρ S = some o) (hr : fin S.length o = r) : callF P (k + 1) f ws S = r := by
  rw [callF_eq h h1 h2, hρ, e]
  exact hr
/-- what a def raises, of what its body gives -/
def finX (n : Nat) : Out → Option (D × Store)
  | .xc d S => some (d, S.take n)
  | _ => none
theorem callX_eq {P : Nat → Option Fn} {k f : Nat} {ws : List W} {S : Store} {q : Fn} (h : P f = some q) (h1 : ws.length = q.ar) (h2 : q.ar ≤ q.sl) :
    (callF P (k + 1)).x f ws S = (evSs (callF P k) q.body (startE q.sl ws) S).bind (finX S.length) := by
  simp only [callF, h, Option.bind_some, if_pos (And.intro h1 h2)]
  cases evSs (callF P k) q.body (startE q.sl ws) S with
  | none => rfl
  | some o => cases o <;> rfl
theorem run_defX {P : Nat → Option Fn} {k f : Nat} {ws : List W} {S : Store} {q : Fn} {ρ : En} {o : Out} {r : Option (D × Store)} (h : P f = some q) (h1 : ws.length = q.ar) (h2 : q.ar ≤ q.sl) (hρ : startE q.sl ws = ρ)
    (e : evSs (callF P k) q.body ρ S = some o) (hr : finX S.length o = r) : (callF P (k + 1)).x f ws S = r := by
  rw [callX_eq h h1 h2, hρ, e]
  exact hr
/-! one step at a time -/
theorem rd_d {x : D} {S : Store} : rdW (.d x) S = some x := rfl
theorem rd_l {n : Nat} {S : Store} {ds : List D} (h : S[n]? = some (.lst ds)) : rdW (.mu n) S = some (.lst ds) := by simp [rdW, h]
theorem rd_k {n : Nat} {S : Store} {ks : List Key} {ds : List D} (h : S[n]? = some (.dK ks ds)) : rdW (.mu n) S = some (.dK ks ds) := by simp [rdW, h]
theorem fz_d {x : D} {S : Store} : fzW (.d x) S = some (x, S) := rfl
theorem fz_l {n : Nat} {S : Store} {ds : List D} (h : S[n]? = some (.lst ds)) : fzW (.mu n) S = some (.lst ds, S.set n .dead) := by simp [fzW, h]
theorem lstAt_l {n : Nat} {S : Store} {ds : List D} (h : S[n]? = some (.lst ds)) : lstAt S n = some ds := by simp [lstAt, h]
theorem b_add {i j : Int} : bRun .add (.int i) (.int j) = some (.int (i + j)) := rfl
theorem b_sub {i j : Int} : bRun .sub (.int i) (.int j) = some (.int (i - j)) := rfl
theorem b_mul {i j : Int} (h1 : -18446744073709551616 < j) (h2 : j < 18446744073709551616) : bRun .mul (.int i) (.int j) = some (.int (i * j)) := if_pos (.inr ⟨h1, h2⟩)
theorem b_mul' {i j : Int} (h1 : -18446744073709551616 < i) (h2 : i < 18446744073709551616) : bRun .mul (.int i) (.int j) = some (.int (i * j)) := if_pos (.inl ⟨h1, h2⟩)
theorem b_div {i j : Int} (h1 : 0 < j) (h2 : j < 1073741824) : bRun .div (.int i) (.int j) = some (.int (i / j)) := if_pos ⟨h1, h2⟩
theorem b_mod {i j : Int} (h1 : 0 < j) : bRun .mod (.int i) (.int j) = some (.int (i % j)) := if_pos h1
theorem b_pow {i j : Int} (h : CPow i j) : bRun .pow (.int i) (.int j) = some (.int (i ^ j.toNat)) := if_pos h
theorem b_p18 : bRun .pow (.int 10) (.int 18) = some (.int 1000000000000000000) := (b_pow ⟨by decide, by decide, by decide⟩).trans (congrArg (fun x => some (D.int x)) (by decide : (10 : Int) ^ (18 : Int).toNat = 1000000000000000000))
theorem b_p8 : bRun .pow (.int 10) (.int 8) = some (.int 100000000) := (b_pow ⟨by decide, by decide, by decide⟩).trans (congrArg (fun x => some (D.int x)) (by decide : (10 : Int) ^ (8 : Int).toNat = 100000000))
theorem b_p7 : bRun .pow (.int 10) (.int 7) = some (.int 10000000) := (b_pow ⟨by decide, by decide, by decide⟩).trans (congrArg (fun x => some (D.int x)) (by decide : (10 : Int) ^ (7 : Int).toNat = 10000000))
theorem b_p6 : bRun .pow (.int 10) (.int 6) = some (.int 1000000) := (b_pow ⟨by decide, by decide, by decide⟩).trans (congrArg (fun x => some (D.int x)) (by decide : (10 : Int) ^ (6 : Int).toNat = 1000000))
theorem c_lt {i j : Int} : cRun .lt (.int i) (.int j) = some (decide (i < j)) := rfl
theorem c_le {i j : Int} : cRun .le (.int i) (.int j) = some (decide (i ≤ j)) := rfl
theorem c_gt {i j : Int} : cRun .gt (.int i) (.int j) = some (decide (j < i)) := rfl
theorem c_ge {i j : Int} : cRun .ge (.int i) (.int j) = some (decide (j ≤ i)) := rfl
theorem c_eq {i j : Int} : cRun .eq (.int i) (.int j) = some (decide (i = j)) := rfl
theorem c_ne {i j : Int} : cRun .ne (.int i) (.int j) = some (!decide (i = j)) := rfl
theorem c_eqs {i j : Str} : cRun .eq (.str i) (.str j) = some (decide (i = j)) := rfl
theorem c_nes {i j : Str} : cRun .ne (.str i) (.str j) = some (!decide (i = j)) := rfl
theorem c_nes0 {j : Str} : cRun .ne .non (.str j) = some true := rfl
theorem c_nes1 {j : Str} : cRun .ne (.str j) .non = some true := rfl
theorem c_eqs0 {j : Str} : cRun .eq .non (.str j) = some false := rfl
theorem c_eqs1 {j : Str} : cRun .eq (.str j) .non = some false := rfl
theorem l_t {ds : List D} : biRun .len [.tup ds] = some (.int ds.length) := rfl
theorem l_l {ds : List D} : biRun .len [.lst ds] = some (.int ds.length) := rfl
theorem l_s {x : Str} (h : x.length ≤ sizeLine) : biRun .len [.str x] = some (.int x.length) := if_pos h
theorem bi_i {i : Int} : biRun .int [.int i] = some (.int i) := rfl
theorem bi_max {i j : Int} : biRun .max2 [.int i, .int j] = some (.int (if j > i then j else i)) := rfl
theorem bi_min {i j : Int} : biRun .min2 [.int i, .int j] = some (.int (if j < i then j else i)) := rfl
theorem bi_tl {ds : List D} : biRun .tuple [.lst ds] = some (.tup ds) := rfl
theorem bi_tt {ds : List D} : biRun .tuple [.tup ds] = some (.tup ds) := rfl
theorem ix_l {ds : List D} {i : Int} : ixRun (.lst ds) (.int i) = L2.atI ds i := rfl
theorem ix_t {ds : List D} {i : Int} : ixRun (.tup ds) (.int i) = L2.atI ds i := rfl
theorem m_nil {S : Store} : (([] : List W).mapM fun w => rdW w S) = some [] := rfl
theorem m_cons {S : Store} {w : W} {ws : List W} : ((w :: ws).mapM fun w => rdW w S) = (rdW w S).bind fun d => (ws.mapM fun w => rdW w S).map fun ds => d :: ds := by
  rw [List.mapM_cons]
  cases rdW w S with
  | none => rfl
  | some d => cases ws.mapM fun w => rdW w S <;> rfl
theorem at0 {x : D} {xs : List D} : L2.atI (x :: xs) 0 = some x := L2.atI_nat (j := 0) rfl
theorem at1 {x y : D} {xs : List D} : L2.atI (x :: y :: xs) 1 = some y := L2.atI_nat (j := 1) rfl
theorem at2 {x y z : D} {xs : List D} : L2.atI (x :: y :: z :: xs) 2 = some z := L2.atI_nat (j := 2) rfl
theorem asgn_n {i : Nat} {d : D} {ρ : En} (h : i < ρ.length) : asgn (.name i) d ρ = some (ρ.set i (some (.d d))) := by simp only [asgn, if_pos h]

/-! blocks, loops -/
theorem ss_nx {c : Call} {s : Pv.S} {ss : Ss} {ρ ρ' : En} {S S' : Store} (e : evS c s ρ S = some (.nx ρ' S')) : evSs c (.cons s ss) ρ S = evSs c ss ρ' S' := by
  simp only [evSs, e, Option.bind_some]
theorem ss_rt {c : Call} {s : Pv.S} {ss : Ss} {ρ : En} {S S' : Store} {d : D} (e : evS c s ρ S = some (.rt d S')) : evSs c (.cons s ss) ρ S = some (.rt d S') := by
  simp only [evSs, e, Option.bind_some]
theorem ss_bk {c : Call} {s : Pv.S} {ss : Ss} {ρ ρ' : En} {S S' : Store} (e : evS c s ρ S = some (.bk ρ' S')) : evSs c (.cons s ss) ρ S = some (.bk ρ' S') := by
  simp only [evSs, e, Option.bind_some]
theorem ss_xc {c : Call} {s : Pv.S} {ss : Ss} {ρ : En} {S S' : Store} {d : D} (e : evS c s ρ S = some (.xc d S')) : evSs c (.cons s ss) ρ S = some (.xc d S') := by
  simp only [evSs, e, Option.bind_some]
theorem ss_0 {c : Call} {ρ : En} {S : Store} : evSs c .nil ρ S = some (.nx ρ S) := by simp only [evSs]
/-- what a turn leads to -/
def Next (I : En → Store → Prop) (Z : Out → Prop) : Out → Prop
  | .nx ρ S => I ρ S
  | .ct ρ S => I ρ S
  | .bk ρ S => Z (.nx ρ S)
  | .rt d S => Z (.rt d S)
  | .xc d S => Z (.xc d S)
theorem forL_gen {f : D → En → Store → Option Out} {Z : Out → Prop} : ∀ {ds : List D} (I : Nat → En → Store → Prop) {ρ : En} {S : Store}, I 0 ρ S →
    (∀ (i : Nat) d ρ S, ds[i]? = some d → I i ρ S → ∃ o, f d ρ S = some o ∧ Next (I (i + 1)) Z o) → (∀ ρ S, I ds.length ρ S → Z (.nx ρ S)) → ∃ o, forL f ds ρ S = some o ∧ Z o
  | [], I, ρ, S, h0, _, he => ⟨_, rfl, he ρ S h0⟩
  | d :: ds, I, ρ, S, h0, hs, he => by
    obtain ⟨o, e, z⟩ := hs 0 d ρ S rfl h0
    have rec' : ∀ ρ' S', I 1 ρ' S' → ∃ o, forL f ds ρ' S' = some o ∧ Z o := fun ρ' S' h1 =>
      forL_gen (fun i => I (i + 1)) h1 (fun i d ρ S hd h => hs (i + 1) d ρ S (by simpa using hd) h) (fun ρ S h => he ρ S h)
    cases o with
    | nx ρ' S' => simpa only [forL, e, Option.bind_some] using rec' ρ' S' z
    | ct ρ' S' => simpa only [forL, e, Option.bind_some] using rec' ρ' S' z
    | bk ρ' S' => exact ⟨_, by simp only [forL, e, Option.bind_some], z⟩
    | rt r S' => exact ⟨_, by simp only [forL, e, Option.bind_some], z⟩
    | xc r S' => exact ⟨_, by simp only [forL, e, Option.bind_some], z⟩
theorem x_for {c : Call} {tg : Tg} {it : It} {body : Ss} {ρ : En} {S S1 : Store} {ds : List D} {Z : Out → Prop} (hi : evI c it ρ S = some (ds, S1)) (I : Nat → En → Store → Prop) (h0 : I 0 ρ S1)
    (hs : ∀ (i : Nat) d ρ S, ds[i]? = some d → I i ρ S → ∃ ρ' o, asgn tg d ρ = some ρ' ∧ evSs c body ρ' S = some o ∧ Next (I (i + 1)) Z o) (he : ∀ ρ S, I ds.length ρ S → Z (.nx ρ S)) : ∃ o, evS c (.forS tg it body) ρ S = some o ∧ Z o := by
  simp only [evS, hi, Option.bind_some]
  refine forL_gen I h0 (fun i d ρ S hd h => ?_) he
  obtain ⟨ρ', o, e1, e2, z⟩ := hs i d ρ S hd h
  exact ⟨o, by rw [e1]; exact e2, z⟩
/-- pointwise -/
inductive All2 {α β : Type} (R : α → β → Prop) : List α → List β → Prop
  | nil : All2 R [] []
  | cons {a : α} {b : β} {as : List α} {bs : List β} : R a b → All2 R as bs → All2 R (a :: as) (b :: bs)
theorem All2.length {α β : Type} {R : α → β → Prop} : ∀ {as : List α} {bs : List β}, All2 R as bs → as.length = bs.length
  | _, _, .nil => rfl
  | _, _, .cons _ t => by simp [All2.length t]
theorem All2.get {α β : Type} {R : α → β → Prop} : ∀ {as : List α} {bs : List β} {i : Nat} {b : β}, All2 R as bs → bs[i]? = some b → ∃ a, as[i]? = some a ∧ R a b
  | _, _, _, _, .nil, e => by simp at e
  | _, _, 0, _, .cons h _, e => by simp at e; subst e; exact ⟨_, rfl, h⟩
  | _, _, i + 1, _, .cons _ t, e => by
    obtain ⟨a, h1, h2⟩ := All2.get (i := i) t (by simpa using e)
    exact ⟨a, by simpa using h1, h2⟩
theorem All2.imp {α β : Type} {R R' : α → β → Prop} (h : ∀ a b, R a b → R' a b) : ∀ {as : List α} {bs : List β}, All2 R as bs → All2 R' as bs
  | _, _, .nil => .nil
  | _, _, .cons x t => .cons (h _ _ x) (All2.imp h t)
theorem All2.map_eq {α β : Type} {g : β → α} : ∀ {as : List α} {bs : List β}, All2 (fun a b => a = g b) as bs → as = bs.map g
  | _, _, .nil => rfl
  | _, _, .cons x t => by rw [List.map_cons, x, All2.map_eq t]
theorem All2.of_map {α β : Type} {R : α → β → Prop} {g : β → α} : ∀ {bs : List β}, (∀ b ∈ bs, R (g b) b) → All2 R (bs.map g) bs
  | [], _ => .nil
  | b :: bs, h => .cons (h b List.mem_cons_self) (All2.of_map fun b hb => h b (List.mem_cons_of_mem _ hb))
/-- a comprehension all of whose items are kept -/
theorem compL_all {f : D → Store → Option (Option D × Store)} {R : D → D → Prop} {J : Store → Prop} : ∀ {ds : List D} {S : Store} {acc : List D}, (∀ d ∈ ds, ∀ S, J S → ∃ d' S', f d S = some (some d', S') ∧ R d' d ∧ J S') → J S → acc.length + ds.length ≤ sizeLine →
    ∃ ds' S', compL f ds S acc = some (acc ++ ds', S') ∧ All2 R ds' ds ∧ J S'
  | [], S, acc, _, hJ, _ => ⟨[], S, by simp [compL], .nil, hJ⟩
  | d :: ds, S, acc, h, hJ, hl => by
    obtain ⟨d', S1, e, r, j1⟩ := h d List.mem_cons_self S hJ
    obtain ⟨ds', S2, e2, r2, j2⟩ := compL_all (S := S1) (acc := acc ++ [d']) (fun d hd => h d (List.mem_cons_of_mem _ hd)) j1 (by simp at hl ⊢; omega)
    refine ⟨d' :: ds', S2, ?_, .cons r r2, j2⟩
    have : acc.length < sizeLine := by simp at hl; omega
    simp only [compL, e, Option.bind_some, if_pos this, e2]
    simp
/-- .. and that changes nothing -/
theorem compL_map {f : D → Store → Option (Option D × Store)} {g : D → D} {S : Store} {ds acc : List D} (h : ∀ d ∈ ds, f d S = some (some (g d), S)) (hl : acc.length + ds.length ≤ sizeLine) : compL f ds S acc = some (acc ++ ds.map g, S) := by
  obtain ⟨ds', S', e, r, rfl⟩ := compL_all (R := fun a b => a = g b) (J := fun S' => S' = S) (fun d hd S' hS => ⟨g d, S, by subst hS; exact h d hd, rfl, rfl⟩) rfl hl
  rw [e, All2.map_eq r]
/-- with a test -/
theorem compL_filter {f : D → Store → Option (Option D × Store)} {p : D → Bool} {g : D → D} {S : Store} : ∀ {ds acc : List D}, (∀ d ∈ ds, f d S = some (if p d then some (g d) else none, S)) → acc.length + ds.length ≤ sizeLine → compL f ds S acc = some (acc ++ (ds.filter p).map g, S)
  | [], acc, _, _ => by simp [compL]
  | d :: ds, acc, h, hl => by
    have e := h d List.mem_cons_self
    have hl' : acc.length < sizeLine := by simp at hl; omega
    by_cases hp : p d = true
    · rw [if_pos hp] at e
      have ih := compL_filter (acc := acc ++ [g d]) (fun d hd => h d (List.mem_cons_of_mem _ hd)) (by simp at hl ⊢; omega)
      simp only [compL, e, Option.bind_some, if_pos hl', ih]
      simp [hp]
    · rw [if_neg hp] at e
      have ih := compL_filter (acc := acc) (fun d hd => h d (List.mem_cons_of_mem _ hd)) (by simp at hl ⊢; omega)
      simp only [compL, e, Option.bind_some, ih]
      simp [hp]
theorem e_comp {c : Call} {vs : List Nat} {tg : Tg} {it : It} {cond : To} {elt : E} {ρ : En} {S S1 S2 : Store} {ds res : List D} (ht : tgIn tg vs = true) (hi : evI c it ρ S = some (ds, S1))
    (h : compL (fun d S => (asgn tg d (wipeE ρ vs)).bind fun ρ' => (evTo c cond ρ' S).bind fun q => if q.1 = true then (evE c elt ρ' q.2).bind fun w => (fzW w.1 w.2).map fun z => (some z.1, z.2) else some (none, q.2)) ds S1 [] = some (res, S2)) :
    evE c (.comp vs tg it cond elt) ρ S = some (.d (.lst res), S2) := by
  simp only [evE, if_pos ht, hi, Option.bind_some, h, Option.map_some]

theorem callF_b {P : Nat → Option Fn} {k f a s : Nat} {b : Ss} {ws : List W} {S : Store} (h : P f = some ⟨a, s, b⟩) (h1 : ws.length = a) (h2 : a ≤ s) : callF P (k + 1) f ws S = (evSs (callF P k) b (startE s ws) S).bind (fin S.length) :=
  callF_eq h h1 h2
theorem x_ift {c : Call} {t : T} {a b : Ss} {ρ : En} {S S1 : Store} {r : Option Out} (e : evT c t ρ S = some (true, S1)) (h : evSs c a ρ S1 = r) : evS c (.ifs t a b) ρ S = r := by
  simp only [evS, e, Option.bind_some, if_true, h]
theorem x_iff {c : Call} {t : T} {a b : Ss} {ρ : En} {S S1 : Store} {r : Option Out} (e : evT c t ρ S = some (false, S1)) (h : evSs c b ρ S1 = r) : evS c (.ifs t a b) ρ S = r := by
  simp only [evS, e, Option.bind_some, Bool.false_eq_true, if_false, h]
theorem x_ret {c : Call} {e : E} {ρ : En} {S S1 : Store} {d : D} (h : evE c e ρ S = some (.d d, S1)) : evS c (.ret e) ρ S = some (.rt d S1) := by
  simp only [evS, h, Option.bind_some, fz_d, Option.map_some]
theorem x_asg {c : Call} {i : Nat} {e : E} {ρ : En} {S S1 : Store} {w : W} (h : evE c e ρ S = some (w, S1)) (hi : i < ρ.length) : evS c (.asg (.name i) e) ρ S = some (.nx (ρ.set i (some w)) S1) := by
  simp only [evS, h, Option.bind_some, if_pos hi]
theorem x_newC {c : Call} {i : Nat} {vs : List Nat} {tg : Tg} {it : It} {cond : To} {elt : E} {ρ : En} {S S1 : Store} {ds : List D} (h : evE c (.comp vs tg it cond elt) ρ S = some (.d (.lst ds), S1)) (hi : i < ρ.length) :
    evS c (.newC i vs tg it cond elt) ρ S = some (.nx (ρ.set i (some (.mu S1.length))) (S1 ++ [.lst ds])) := by
  simp only [evS, h, Option.bind_some, if_pos hi]
theorem rt_fin {c : Call} {b : Ss} {ρ : En} {S S1 : Store} {d : D} (h : evSs c b ρ S = some (.rt d S1)) (hl : S1.length = S.length) : (evSs c b ρ S).bind (fin S.length) = some (d, S1) := by
  rw [h]
  simp [fin, List.take_of_length_le, hl]

theorem p62 : (2 : Int) ^ 62 = 4611686018427387904 := by decide
theorem x_r1 {c : Call} {a : E} {ρ : En} {S S1 : Store} {j : Int} (h : evE c a ρ S = some (.d (.int j), S1)) (h1 : -4611686018427387904 ≤ j) (h2 : j < 4611686018427387904) : evI c (.r1 a) ρ S = some (rangeD 0 j.toNat, S1) := by
  simp only [evI, h, Option.bind_some]
  exact if_pos ⟨by rw [p62]; exact h1, by rw [p62]; exact h2⟩
theorem x_r2 {c : Call} {a b : E} {ρ : En} {S S1 S2 : Store} {i j : Int} (h : evE c a ρ S = some (.d (.int i), S1)) (h' : evE c b ρ S1 = some (.d (.int j), S2)) (h1 : -4611686018427387904 ≤ i) (h2 : i < 4611686018427387904) (h3 : -4611686018427387904 ≤ j) (h4 : j < 4611686018427387904) :
    evI c (.r2 a b) ρ S = some (rangeD i (j - i).toNat, S2) := by
  simp only [evI, h, h', Option.bind_some]
  exact if_pos ⟨by rw [p62]; exact h1, by rw [p62]; exact h2, by rw [p62]; exact h3, by rw [p62]; exact h4⟩
theorem x_rn {c : Call} {a : E} {ρ : En} {S S1 : Store} {j : Int} (n : Nat) (h : evE c a ρ S = some (.d (.int j), S1)) (hj : j = (n : Int)) (h2 : n < 4611686018427387904) : evI c (.r1 a) ρ S = some (rangeD 0 n, S1) := by
  subst hj
  have := x_r1 h (by omega) (by omega)
  rw [this]
  rfl
end Pv

set_option Elab.async false
set_option linter.all false
set_option maxRecDepth 100000
set_option maxHeartbeats 4000000
/-! What the laws' own helpers mean: the row of numbers, the draws, the lists that are handed in. -/
namespace Pv
open PySem L2
/-- _law_so: 2 parameters, slots found meant k -/
def B_law_so (i_law_so : Nat) : Ss := .cons (.ifs (.val (.isN (.var 1))) (.cons (.ret (.isN (.var 0))) (.nil)) (.nil)) (.cons (.ifs (.val (.isi1 (.var 1) "tuple")) (.cons (.ifs (.or (.not (.val (.isi1 (.var 0) "tuple"))) (.val (.cmp .ne (.bi .len (.cons (.var 0) (.nil))) (.bi .len (.cons (.var 1) (.nil)))))) (.cons (.ret (.cst (.bl false))) (.nil)) (.nil)) (.cons (.forS (.name 2) (.r1 (.bi .len (.cons (.var 1) (.nil)))) (.cons (.ifs (.not (.val (.call i_law_so (.cons (.ix (.var 0) (.var 2)) (.cons (.ix (.var 1) (.var 2)) (.nil)))))) (.cons (.ret (.cst (.bl false))) (.nil)) (.nil)) (.nil))) (.cons (.ret (.cst (.bl true))) (.nil)))) (.nil)) (.cons (.ifs (.or (.val (.isi1 (.var 1) "bool")) (.val (.isi1 (.var 0) "bool"))) (.cons (.ret (.and (.isi1 (.var 1) "bool") (.and (.isi1 (.var 0) "bool") (.cmp .eq (.var 0) (.var 1))))) (.nil)) (.nil)) (.cons (.ifs (.val (.isi1 (.var 1) "int")) (.cons (.ret (.and (.isi1 (.var 0) "int") (.cmp .eq (.var 0) (.var 1)))) (.nil)) (.nil)) (.cons (.ret (.and (.isi1 (.var 1) "str") (.and (.isi1 (.var 0) "str") (.cmp .eq (.var 0) (.var 1))))) (.nil)))))
/-- _law_numbers: 1 parameters, slots script row cell left k mixed -/
def B_law_numbers : Ss := .cons (.newL 1 (.nil)) (.cons (.forS (.name 2) (.seq (.sl (.var 0) (.none) (.some (.cst (.int 63))))) (.cons (.ifs (.val (.cmp .ge (.var 2) (.bin .pow (.cst (.int 10)) (.cst (.int 18))))) (.cons (.asg (.name 3) (.var 2)) (.cons (.forS (.name 4) (.r1 (.cst (.int 60))) (.cons (.ifs (.val (.cmp .eq (.var 3) (.cst (.int 0)))) (.cons (.brk) (.nil)) (.nil)) (.cons (.app 1 (.bin .mod (.bi .int (.cons (.var 3) (.nil))) (.cst (.int 997)))) (.cons (.asg (.name 3) (.bin .div (.var 3) (.cst (.int 997)))) (.nil))))) (.nil))) (.cons (.forS (.name 4) (.r1 (.cst (.int 4))) (.cons (.asg (.name 5) (.bin .mod (.bi .int (.cons (.bin .add (.bin .add (.bin .mul (.var 2) (.cst (.int 48271))) (.bin .mul (.var 4) (.cst (.int 69621)))) (.cst (.int 11))) (.nil))) (.cst (.int 2147483647)))) (.cons (.app 1 (.bin .mod (.bi .int (.cons (.bin .add (.bin .mul (.var 5) (.cst (.int 16807))) (.var 4)) (.nil))) (.cst (.int 2147483629)))) (.nil)))) (.nil))) (.nil))) (.cons (.ifs (.val (.cmp .eq (.bi .len (.cons (.var 1) (.nil))) (.cst (.int 0)))) (.cons (.app 1 (.cst (.int 0))) (.nil)) (.nil)) (.cons (.ret (.var 1)) (.nil))))
/-- _law_draw: 3 parameters, slots row at limit mixed -/
def B_law_draw : Ss := .cons (.ifs (.val (.cmp .lt (.var 1) (.bi .len (.cons (.var 0) (.nil))))) (.cons (.ret (.bin .mod (.bi .int (.cons (.ix (.var 0) (.var 1)) (.nil))) (.var 2))) (.nil)) (.nil)) (.cons (.asg (.name 3) (.bin .mod (.bi .int (.cons (.bin .add (.bin .add (.bin .mul (.ix (.var 0) (.bin .mod (.bi .int (.cons (.var 1) (.nil))) (.bi .len (.cons (.var 0) (.nil))))) (.cst (.int 40692))) (.bin .mul (.var 1) (.cst (.int 7919)))) (.cst (.int 3))) (.nil))) (.cst (.int 2147483399)))) (.cons (.ret (.bin .mod (.bi .int (.cons (.bin .mod (.bi .int (.cons (.bin .add (.bin .mul (.var 3) (.cst (.int 48271))) (.var 1)) (.nil))) (.cst (.int 2147483647))) (.nil))) (.var 2))) (.nil)))
/-- _law_take: 3 parameters, slots row spot limit -/
def B_law_take (i_law_draw : Nat) : Ss := .cons (.setL 1 (.cst (.int 0)) (.bin .add (.ix (.var 1) (.cst (.int 0))) (.cst (.int 1)))) (.cons (.ret (.call i_law_draw (.cons (.var 0) (.cons (.bin .sub (.ix (.var 1) (.cst (.int 0))) (.cst (.int 1))) (.cons (.var 2) (.nil)))))) (.nil))
/-- _law_wide: 3 parameters, slots row spot limit first second third -/
def B_law_wide (i_law_take : Nat) : Ss := .cons (.asg (.name 3) (.call i_law_take (.cons (.var 0) (.cons (.var 1) (.cons (.cst (.int 997)) (.nil)))))) (.cons (.asg (.name 4) (.call i_law_take (.cons (.var 0) (.cons (.var 1) (.cons (.cst (.int 997)) (.nil)))))) (.cons (.asg (.name 5) (.call i_law_take (.cons (.var 0) (.cons (.var 1) (.cons (.cst (.int 997)) (.nil)))))) (.cons (.ret (.bin .mod (.bi .int (.cons (.bin .add (.bin .add (.bin .mul (.var 3) (.cst (.int 994009))) (.bin .mul (.var 4) (.cst (.int 997)))) (.var 5)) (.nil))) (.var 2))) (.nil))))
/-- _law_listed: 1 parameters, slots value one -/
def B_law_listed (i_law_listed : Nat) : Ss := .cons (.ifs (.val (.isi1 (.var 0) "tuple")) (.cons (.ret (.comp [1] (.name 1) (.seq (.var 0)) (.none) (.call i_law_listed (.cons (.var 1) (.nil))))) (.nil)) (.nil)) (.cons (.ret (.var 0)) (.nil))
/-- _law_either: 3 parameters, slots row spot value parts one -/
def B_law_either (i_law_take i_law_either : Nat) : Ss := .cons (.ifs (.val (.isi1 (.var 2) "tuple")) (.cons (.asg (.name 3) (.comp [4] (.name 4) (.seq (.var 2)) (.none) (.call i_law_either (.cons (.var 0) (.cons (.var 1) (.cons (.var 4) (.nil))))))) (.cons (.ret (.ite (.val (.cmp .eq (.call i_law_take (.cons (.var 0) (.cons (.var 1) (.cons (.cst (.int 2)) (.nil))))) (.cst (.int 0)))) (.var 3) (.bi .tuple (.cons (.var 3) (.nil))))) (.nil))) (.nil)) (.cons (.ret (.var 2)) (.nil))
/-- _law_handed: 3 parameters, slots row spot value kind -/
def B_law_handed (i_law_take i_law_listed i_law_either : Nat) : Ss := .cons (.asg (.name 3) (.call i_law_take (.cons (.var 0) (.cons (.var 1) (.cons (.cst (.int 3)) (.nil)))))) (.cons (.ifs (.val (.cmp .eq (.var 3) (.cst (.int 2)))) (.cons (.ret (.call i_law_either (.cons (.var 0) (.cons (.var 1) (.cons (.var 2) (.nil)))))) (.nil)) (.nil)) (.cons (.ret (.ite (.val (.cmp .eq (.var 3) (.cst (.int 0)))) (.call i_law_listed (.cons (.var 2) (.nil))) (.var 2))) (.nil)))
/-- _law_pick: 3 parameters, slots row spot things -/
def B_law_pick (i_law_take : Nat) : Ss := .cons (.ret (.ix (.var 2) (.call i_law_take (.cons (.var 0) (.cons (.var 1) (.cons (.bi .len (.cons (.var 2) (.nil))) (.nil))))))) (.nil)
section
variable {P : Nat → Option Fn} {k f : Nat} {S : Store}
theorem sizeLine_val : sizeLine = 16777216 := rfl
theorem atI_map {ns : List Int} {i : Int} (h0 : 0 ≤ i) (h1 : i < ns.length) : L2.atI (ns.map D.int) i = some (.int (ns.getD i.toNat 0)) := by
  have hj : i.toNat < ns.length := by omega
  have q : (ns.map D.int)[i.toNat]? = some (.int (ns.getD i.toNat 0)) := by simp [List.getElem?_map, hj]
  have e : i = (i.toNat : Int) := by omega
  rw [e]
  exact L2.atI_nat q
def drawI (ns : List Int) (i lim : Int) : Int :=
  if i < ns.length then ns.getD i.toNat 0 % lim else ((ns.getD (i % (ns.length : Int)).toNat 0 * 40692 + i * 7919 + 3) % 2147483399 * 48271 + i) % 2147483647 % lim
theorem drawI_nn {ns : List Int} {i lim : Int} (h : 0 < lim) : 0 ≤ drawI ns i lim := by
  unfold drawI
  split
  · exact Int.emod_nonneg _ (by omega)
  · exact Int.emod_nonneg _ (by omega)
theorem drawI_lt {ns : List Int} {i lim : Int} (h : 0 < lim) : drawI ns i lim < lim := by
  unfold drawI
  split
  · exact Int.emod_lt_of_pos _ h
  · exact Int.emod_lt_of_pos _ h
theorem cmul_r {i j : Int} (h : -(2 ^ 64) < j ∧ j < 2 ^ 64) : CMul i j := .inr h
theorem draw_eq {ns : List Int} {i lim : Int} (hP : P f = some ⟨3, 4, B_law_draw⟩) (hne : ns ≠ []) (hi : 0 ≤ i) (hl : 0 < lim) :
    callF P (k + 1) f [.d (.lst (ns.map .int)), .d (.int i), .d (.int lim)] S = some (.int (drawI ns i lim), S) := by
  have hpos : 0 < ns.length := List.length_pos_iff.mpr hne
  rw [callF_b hP rfl (by decide)]
  show (evSs (callF P k) B_law_draw [some (.d (.lst (ns.map .int))), some (.d (.int i)), some (.d (.int lim)), none] S).bind _ = _
  by_cases h : i < ns.length
  · simp [B_law_draw, evSs, evS, evE, evEs, evZ, evO, evI, evT, evTo, rd_d, fz_d, b_add, b_sub, b_mul, b_div, b_mod, b_p18, b_p8, b_p7, b_p6, c_lt, c_le, c_gt, c_ge, c_eq, c_ne, c_eqs, c_nes, c_nes0, c_nes1, c_eqs0, c_eqs1, l_t, l_l, bi_i, bi_max, bi_min, bi_tl, bi_tt, ix_l, ix_t, m_nil, m_cons, at0, at1, at2, flatD, seqOf, isNonW, fin, evX, atI_map hi h, h, hl, drawI]
  · have h0 : 0 ≤ i % (ns.length : Int) := Int.emod_nonneg _ (by omega)
    have h1 : i % (ns.length : Int) < ns.length := Int.emod_lt_of_pos _ (by omega)
    simp [B_law_draw, evSs, evS, evE, evEs, evZ, evO, evI, evT, evTo, rd_d, fz_d, b_add, b_sub, b_mul, b_div, b_mod, b_p18, b_p8, b_p7, b_p6, c_lt, c_le, c_gt, c_ge, c_eq, c_ne, c_eqs, c_nes, c_nes0, c_nes1, c_eqs0, c_eqs1, l_t, l_l, bi_i, bi_max, bi_min, bi_tl, bi_tt, ix_l, ix_t, m_nil, m_cons, at0, at1, at2, flatD, seqOf, isNonW, fin, evX, atI_map h0 h1, h, hl, hpos, drawI]
theorem take_eq {d n : Nat} {ns : List Int} {i lim : Int} (hP : P f = some ⟨3, 3, B_law_take d⟩) (hD : P d = some ⟨3, 4, B_law_draw⟩) (hne : ns ≠ []) (hi : 0 ≤ i) (hl : 0 < lim) (hS : S[n]? = some (.lst [.int i])) :
    callF P (k + 2) f [.d (.lst (ns.map .int)), .mu n, .d (.int lim)] S = some (.int (drawI ns i lim), S.set n (.lst [.int (i + 1)])) := by
  have hn : n < S.length := (List.getElem?_eq_some_iff.mp hS).1
  rw [callF_eq hP rfl (Nat.le_refl 3)]
  show (evSs (callF P (k + 1)) (B_law_take d) [some (.d (.lst (ns.map .int))), some (.mu n), some (.d (.int lim))] S).bind _ = _
  have e1 : L2.ixN 1 0 = some 0 := by decide
  have hS2 : (S.set n (.lst [.int (i + 1)]))[n]? = some (.lst [.int (i + 1)]) := List.getElem?_set_self hn
  have e4 : i + 1 - 1 = i := by omega
  simp [B_law_take, evSs, evS, evE, evEs, evZ, evO, evI, evT, evTo, rd_d, fz_d, b_add, b_sub, b_mul, b_div, b_mod, b_p18, b_p8, b_p7, b_p6, c_lt, c_le, c_gt, c_ge, c_eq, c_ne, c_eqs, c_nes, c_nes0, c_nes1, c_eqs0, c_eqs1, l_t, l_l, bi_i, bi_max, bi_min, bi_tl, bi_tt, ix_l, ix_t, m_nil, m_cons, at0, at1, at2, flatD, seqOf, isNonW, fin, evX, rd_l hS, lstAt_l hS, hn, e1, e4, draw_eq hD hne hi hl, rd_l hS2, List.take_of_length_le]

/-- the draws' own state: the place in the row, the rest as it stood -/
def Sp (S0 : Store) (n : Nat) (S : Store) : Prop := ∃ i : Int, 0 ≤ i ∧ S = S0.set n (.lst [.int i])
theorem Sp.at {S0 S : Store} {n : Nat} (h : Sp S0 n S) (hn : n < S0.length) : ∃ i : Int, 0 ≤ i ∧ S[n]? = some (.lst [.int i]) ∧ ∀ x, S.set n x = S0.set n x := by
  obtain ⟨i, hi, rfl⟩ := h
  exact ⟨i, hi, List.getElem?_set_self hn, fun x => List.set_set ..⟩
/-- the row of a script -/
structure Row (r : D) : Prop where
  ex : ∃ ns : List Int, ns ≠ [] ∧ r = .lst (ns.map .int)
theorem take_ex {d n : Nat} {r : D} {lim : Int} {S0 : Store} (hP : P f = some ⟨3, 3, B_law_take d⟩) (hD : P d = some ⟨3, 4, B_law_draw⟩) (hr : Row r) (hn : n < S0.length) (hS : Sp S0 n S) (hl : 0 < lim) :
    ∃ t S', callF P (k + 2) f [.d r, .mu n, .d (.int lim)] S = some (.int t, S') ∧ 0 ≤ t ∧ t < lim ∧ Sp S0 n S' := by
  obtain ⟨ns, hne, rfl⟩ := hr.ex
  obtain ⟨i, hi, e, st⟩ := hS.at hn
  exact ⟨_, _, take_eq hP hD hne hi hl e, drawI_nn hl, drawI_lt hl, i + 1, by omega, st _⟩
/-- wide draws -/
theorem wide_ex {g d n : Nat} {r : D} {lim : Int} {S0 : Store} (hW : P f = some ⟨3, 6, B_law_wide g⟩) (hP : P g = some ⟨3, 3, B_law_take d⟩) (hD : P d = some ⟨3, 4, B_law_draw⟩) (hr : Row r) (hn : n < S0.length) (hS : Sp S0 n S) (hl : 0 < lim) :
    ∃ t S', callF P (k + 3) f [.d r, .mu n, .d (.int lim)] S = some (.int t, S') ∧ 0 ≤ t ∧ t < lim ∧ Sp S0 n S' := by
  obtain ⟨t1, S1, e1, _, _, p1⟩ := take_ex (k := k) (lim := 997) hP hD hr hn hS (by decide)
  obtain ⟨t2, S2, e2, _, _, p2⟩ := take_ex (k := k) (lim := 997) hP hD hr hn p1 (by decide)
  obtain ⟨t3, S3, e3, _, _, p3⟩ := take_ex (k := k) (lim := 997) hP hD hr hn p2 (by decide)
  have hlen : S3.length = S.length := by
    obtain ⟨_, _, rfl⟩ := p3
    obtain ⟨_, _, rfl⟩ := hS
    simp
  refine ⟨(t1 * 994009 + t2 * 997 + t3) % lim, S3, ?_, Int.emod_nonneg _ (by omega), Int.emod_lt_of_pos _ hl, p3⟩
  rw [callF_eq hW rfl (by show 3 ≤ 6; decide)]
  show (evSs (callF P (k + 2)) (B_law_wide g) [some (.d r), some (.mu n), some (.d (.int lim)), none, none, none] S).bind _ = _
  simp [B_law_wide, evSs, evS, evE, evEs, evZ, evO, evI, evT, evTo, rd_d, fz_d, b_add, b_sub, b_mul, b_div, b_mod, b_p18, b_p8, b_p7, b_p6, c_lt, c_le, c_gt, c_ge, c_eq, c_ne, c_eqs, c_nes, c_nes0, c_nes1, c_eqs0, c_eqs1, l_t, l_l, bi_i, bi_max, bi_min, bi_tl, bi_tt, ix_l, ix_t, m_nil, m_cons, at0, at1, at2, flatD, seqOf, isNonW, fin, evX, e1, e2, e3, hl, List.take_of_length_le, hlen]
theorem atI_ok {ds : List D} {t : Int} (h0 : 0 ≤ t) (h1 : t < ds.length) : ∃ x ∈ ds, L2.atI ds t = some x := by
  have hj : t.toNat < ds.length := by omega
  have q : L2.atI ds (t.toNat : Int) = some ds[t.toNat] := L2.atI_nat (List.getElem?_eq_getElem hj)
  refine ⟨ds[t.toNat], List.getElem_mem hj, ?_⟩
  rw [← q]
  congr 1
  omega
theorem pick_ex {g d n : Nat} {r x : D} {ds : List D} {S0 : Store} (hK : P f = some ⟨3, 3, B_law_pick g⟩) (hP : P g = some ⟨3, 3, B_law_take d⟩) (hD : P d = some ⟨3, 4, B_law_draw⟩) (hr : Row r) (hn : n < S0.length) (hS : Sp S0 n S)
    (hx : x = .lst ds ∨ x = .tup ds) (hne : ds ≠ []) : ∃ y S', callF P (k + 3) f [.d r, .mu n, .d x] S = some (y, S') ∧ y ∈ ds ∧ Sp S0 n S' := by
  have hpos : 0 < ds.length := List.length_pos_iff.mpr hne
  obtain ⟨t, S1, e1, h0, h1, p1⟩ := take_ex (k := k) (lim := ds.length) hP hD hr hn hS (by omega)
  have hlen : S1.length = S.length := by
    obtain ⟨_, _, rfl⟩ := p1
    obtain ⟨_, _, rfl⟩ := hS
    simp
  obtain ⟨y, hy, ey⟩ := atI_ok h0 h1
  refine ⟨y, S1, ?_, hy, p1⟩
  rw [callF_eq hK rfl (Nat.le_refl 3)]
  show (evSs (callF P (k + 2)) (B_law_pick g) [some (.d r), some (.mu n), some (.d x)] S).bind _ = _
  rcases hx with rfl | rfl
  · simp [B_law_pick, evSs, evS, evE, evEs, evZ, evO, evI, evT, evTo, rd_d, fz_d, b_add, b_sub, b_mul, b_div, b_mod, b_p18, b_p8, b_p7, b_p6, c_lt, c_le, c_gt, c_ge, c_eq, c_ne, c_eqs, c_nes, c_nes0, c_nes1, c_eqs0, c_eqs1, l_t, l_l, bi_i, bi_max, bi_min, bi_tl, bi_tt, ix_l, ix_t, m_nil, m_cons, at0, at1, at2, flatD, seqOf, isNonW, fin, evX, e1, ey, List.take_of_length_le, hlen]
  · simp [B_law_pick, evSs, evS, evE, evEs, evZ, evO, evI, evT, evTo, rd_d, fz_d, b_add, b_sub, b_mul, b_div, b_mod, b_p18, b_p8, b_p7, b_p6, c_lt, c_le, c_gt, c_ge, c_eq, c_ne, c_eqs, c_nes, c_nes0, c_nes1, c_eqs0, c_eqs1, l_t, l_l, bi_i, bi_max, bi_min, bi_tl, bi_tt, ix_l, ix_t, m_nil, m_cons, at0, at1, at2, flatD, seqOf, isNonW, fin, evX, e1, ey, List.take_of_length_le, hlen]

/-! ### lists handed in for tuples -/
/-- flat, or a tuple of such, so deep and no longer than a list may be -/
def Tv : Nat → D → Bool
  | n + 1, .tup ds => decide (ds.length ≤ sizeLine) && ds.all (Tv n)
  | _, d => flatD d
/-- the same but for lists in place of tuples -/
def Lk : Nat → D → D → Prop
  | n + 1, d', .tup ds => ∃ ds', (d' = .lst ds' ∨ d' = .tup ds') ∧ All2 (Lk n) ds' ds
  | _, d', d => d' = d
theorem Lk.refl : ∀ (n : Nat) (d : D), Lk n d d
  | 0, d => by simp only [Lk]
  | n + 1, d => by
    cases d <;> simp only [Lk]
    case tup ds =>
      have e : ds.map id = ds := List.map_id ds
      refine ⟨ds, .inr rfl, ?_⟩
      have := All2.of_map (R := Lk n) (g := id) (bs := ds) fun b _ => Lk.refl n b
      rw [e] at this
      exact this
theorem isi_flat {d : D} (h : flatD d = true) : isi1 d "tuple" = some false := by
  cases d <;> simp [flatD] at h <;> simp [isi1, tyD, kB5, kB10, kB15, kB30]
theorem isi_tup {ds : List D} : isi1 (.tup ds) "tuple" = some true := by simp [isi1, tyD, kB25]
theorem listed_ex (hP : P f = some ⟨1, 2, B_law_listed f⟩) : ∀ (m : Nat) {k : Nat} {S : Store} {d : D}, Tv m d = true → ∃ d', callF P (k + m + 1) f [.d d] S = some (d', S) ∧ Lk m d' d := by
  intro m
  induction m with
  | zero =>
    intro k S d h
    refine ⟨d, ?_, Lk.refl _ _⟩
    rw [callF_b hP rfl (by decide)]
    show (evSs (callF P (k + 0)) (B_law_listed f) [some (.d d), none] S).bind _ = _
    simp [B_law_listed, evSs, evS, evE, evEs, evZ, evO, evI, evT, evTo, rd_d, fz_d, b_add, b_sub, b_mul, b_div, b_mod, b_p18, b_p8, b_p7, b_p6, c_lt, c_le, c_gt, c_ge, c_eq, c_ne, c_eqs, c_nes, c_nes0, c_nes1, c_eqs0, c_eqs1, l_t, l_l, bi_i, bi_max, bi_min, bi_tl, bi_tt, ix_l, ix_t, m_nil, m_cons, at0, at1, at2, flatD, seqOf, isNonW, fin, evX, isi_flat (d := d) (by simpa [Tv] using h)]
  | succ m ih =>
    intro k S d h
    by_cases hf : flatD d = true
    · refine ⟨d, ?_, Lk.refl _ _⟩
      rw [show k + (m + 1) + 1 = (k + m + 1) + 1 from rfl, callF_b hP rfl (by decide)]
      show (evSs (callF P (k + m + 1)) (B_law_listed f) [some (.d d), none] S).bind _ = _
      simp [B_law_listed, evSs, evS, evE, evEs, evZ, evO, evI, evT, evTo, rd_d, fz_d, b_add, b_sub, b_mul, b_div, b_mod, b_p18, b_p8, b_p7, b_p6, c_lt, c_le, c_gt, c_ge, c_eq, c_ne, c_eqs, c_nes, c_nes0, c_nes1, c_eqs0, c_eqs1, l_t, l_l, bi_i, bi_max, bi_min, bi_tl, bi_tt, ix_l, ix_t, m_nil, m_cons, at0, at1, at2, flatD, seqOf, isNonW, fin, evX, isi_flat hf]
    · cases d with
      | tup ds =>
        simp only [Tv, Bool.and_eq_true, decide_eq_true_eq] at h
        obtain ⟨hl, ha⟩ := h
        rw [List.all_eq_true] at ha
        have each : ∀ d ∈ ds, ∀ S' : Store, S' = S → ∃ d' S1, ((asgn (.name 1) d (wipeE [some (.d (.tup ds)), none] [1])).bind fun ρ' => (evTo (callF P (k + m + 1)) .none ρ' S').bind fun q => if q.1 = true then (evE (callF P (k + m + 1)) (.call f (.cons (.var 1) .nil)) ρ' q.2).bind fun w => (fzW w.1 w.2).map fun z => (some z.1, z.2) else some (none, q.2)) = some (some d', S1) ∧ Lk m d' d ∧ S1 = S := by
          intro d hd S' hS'
          subst hS'
          obtain ⟨d', e, l⟩ := ih (k := k) (S := S') (ha d hd)
          refine ⟨d', S', ?_, l, rfl⟩
          simp [wipeE, asgn, evSs, evS, evE, evEs, evZ, evO, evI, evT, evTo, rd_d, fz_d, b_add, b_sub, b_mul, b_div, b_mod, b_p18, b_p8, b_p7, b_p6, c_lt, c_le, c_gt, c_ge, c_eq, c_ne, c_eqs, c_nes, c_nes0, c_nes1, c_eqs0, c_eqs1, l_t, l_l, bi_i, bi_max, bi_min, bi_tl, bi_tt, ix_l, ix_t, m_nil, m_cons, at0, at1, at2, flatD, seqOf, isNonW, fin, evX, e]
        obtain ⟨ds', S1, e1, l1, rfl⟩ := compL_all (acc := []) each rfl (by simpa using hl)
        refine ⟨.lst ds', ?_, ds', .inl rfl, l1⟩
        rw [show k + (m + 1) + 1 = (k + m + 1) + 1 from rfl, callF_b hP rfl (by decide)]
        show (evSs (callF P (k + m + 1)) (B_law_listed f) [some (.d (.tup ds)), none] S1).bind _ = _
        have hc := e_comp (c := callF P (k + m + 1)) (vs := [1]) (tg := .name 1) (it := .seq (.var 0)) (cond := .none) (elt := .call f (.cons (.var 1) .nil)) (ρ := [some (.d (.tup ds)), none]) (S := S1) (S1 := S1) (ds := ds) rfl (by simp [evSs, evS, evE, evEs, evZ, evO, evI, evT, evTo, rd_d, fz_d, b_add, b_sub, b_mul, b_div, b_mod, b_p18, b_p8, b_p7, b_p6, c_lt, c_le, c_gt, c_ge, c_eq, c_ne, c_eqs, c_nes, c_nes0, c_nes1, c_eqs0, c_eqs1, l_t, l_l, bi_i, bi_max, bi_min, bi_tl, bi_tt, ix_l, ix_t, m_nil, m_cons, at0, at1, at2, flatD, seqOf, isNonW, fin, evX]) e1
        simp only [List.nil_append] at hc
        unfold B_law_listed
        refine rt_fin (ss_rt (x_ift (S1 := S1) ?_ (ss_rt (x_ret hc)))) rfl
        simp [evSs, evS, evE, evEs, evZ, evO, evI, evT, evTo, rd_d, fz_d, b_add, b_sub, b_mul, b_div, b_mod, b_p18, b_p8, b_p7, b_p6, c_lt, c_le, c_gt, c_ge, c_eq, c_ne, c_eqs, c_nes, c_nes0, c_nes1, c_eqs0, c_eqs1, l_t, l_l, bi_i, bi_max, bi_min, bi_tl, bi_tt, ix_l, ix_t, m_nil, m_cons, at0, at1, at2, flatD, seqOf, isNonW, fin, evX, isi_tup]
      | _ => simp [Tv, flatD] at h hf
theorem either_ex {g d : Nat} {r : D} {n : Nat} {S0 : Store} (hE : P f = some ⟨3, 5, B_law_either g f⟩) (hP : P g = some ⟨3, 3, B_law_take d⟩) (hD : P d = some ⟨3, 4, B_law_draw⟩) (hr : Row r) (hn : n < S0.length) :
    ∀ (m : Nat) {k : Nat} {S : Store} {x : D}, Tv m x = true → Sp S0 n S → ∃ x' S', callF P (k + m + 3) f [.d r, .mu n, .d x] S = some (x', S') ∧ Lk m x' x ∧ Sp S0 n S' := by
  have flat : ∀ {m k : Nat} {S : Store} {x : D}, flatD x = true → Sp S0 n S → ∃ x' S', callF P (k + m + 3) f [.d r, .mu n, .d x] S = some (x', S') ∧ Lk m x' x ∧ Sp S0 n S' := by
    intro m k S x hf hS
    refine ⟨x, S, ?_, Lk.refl _ _, hS⟩
    rw [callF_b hE rfl (by decide)]
    show (evSs (callF P (k + m + 2)) (B_law_either g f) [some (.d r), some (.mu n), some (.d x), none, none] S).bind _ = _
    simp [B_law_either, evSs, evS, evE, evEs, evZ, evO, evI, evT, evTo, rd_d, fz_d, b_add, b_sub, b_mul, b_div, b_mod, b_p18, b_p8, b_p7, b_p6, c_lt, c_le, c_gt, c_ge, c_eq, c_ne, c_eqs, c_nes, c_nes0, c_nes1, c_eqs0, c_eqs1, l_t, l_l, bi_i, bi_max, bi_min, bi_tl, bi_tt, ix_l, ix_t, m_nil, m_cons, at0, at1, at2, flatD, seqOf, isNonW, fin, evX, isi_flat hf]
  intro m
  induction m with
  | zero => intro k S x h hS; exact flat (m := 0) (by simpa [Tv] using h) hS
  | succ m ih =>
    intro k S x h hS
    by_cases hf : flatD x = true
    · exact flat hf hS
    · cases x with
      | tup ds =>
        simp only [Tv, Bool.and_eq_true, decide_eq_true_eq] at h
        obtain ⟨hl, ha⟩ := h
        rw [List.all_eq_true] at ha
        have each : ∀ d ∈ ds, ∀ S' : Store, Sp S0 n S' → ∃ d' S1, ((asgn (.name 4) d (wipeE [some (.d r), some (.mu n), some (.d (.tup ds)), none, none] [4])).bind fun ρ' => (evTo (callF P (k + m + 3)) .none ρ' S').bind fun q => if q.1 = true then (evE (callF P (k + m + 3)) (.call f (.cons (.var 0) (.cons (.var 1) (.cons (.var 4) .nil)))) ρ' q.2).bind fun w => (fzW w.1 w.2).map fun z => (some z.1, z.2) else some (none, q.2)) = some (some d', S1) ∧ Lk m d' d ∧ Sp S0 n S1 := by
          intro d hd S' hS'
          obtain ⟨d', S1, e, l, p⟩ := ih (k := k) (S := S') (ha d hd) hS'
          refine ⟨d', S1, ?_, l, p⟩
          simp [wipeE, asgn, evSs, evS, evE, evEs, evZ, evO, evI, evT, evTo, rd_d, fz_d, b_add, b_sub, b_mul, b_div, b_mod, b_p18, b_p8, b_p7, b_p6, c_lt, c_le, c_gt, c_ge, c_eq, c_ne, c_eqs, c_nes, c_nes0, c_nes1, c_eqs0, c_eqs1, l_t, l_l, bi_i, bi_max, bi_min, bi_tl, bi_tt, ix_l, ix_t, m_nil, m_cons, at0, at1, at2, flatD, seqOf, isNonW, fin, evX, e]
        obtain ⟨ds', S1, e1, l1, p1⟩ := compL_all (acc := []) each hS (by simpa using hl)
        have hc := e_comp (c := callF P (k + m + 3)) (vs := [4]) (tg := .name 4) (it := .seq (.var 2)) (cond := .none) (elt := .call f (.cons (.var 0) (.cons (.var 1) (.cons (.var 4) .nil)))) (ρ := [some (.d r), some (.mu n), some (.d (.tup ds)), none, none]) (S := S) (S1 := S) (ds := ds) rfl (by simp [evSs, evS, evE, evEs, evZ, evO, evI, evT, evTo, rd_d, fz_d, b_add, b_sub, b_mul, b_div, b_mod, b_p18, b_p8, b_p7, b_p6, c_lt, c_le, c_gt, c_ge, c_eq, c_ne, c_eqs, c_nes, c_nes0, c_nes1, c_eqs0, c_eqs1, l_t, l_l, bi_i, bi_max, bi_min, bi_tl, bi_tt, ix_l, ix_t, m_nil, m_cons, at0, at1, at2, flatD, seqOf, isNonW, fin, evX]) e1
        obtain ⟨t, S2, e2, _, _, p2⟩ := take_ex (k := k + m + 1) (lim := 2) hP hD hr hn p1 (by decide)
        have hlen : S2.length = S.length := by
          obtain ⟨_, _, rfl⟩ := p2
          obtain ⟨_, _, rfl⟩ := hS
          simp
        refine ⟨if t = 0 then .lst ds' else .tup ds', S2, ?_, ?_, p2⟩
        · rw [show k + (m + 1) + 3 = (k + m + 3) + 1 from rfl, callF_b hE rfl (by decide)]
          show (evSs (callF P (k + m + 3)) (B_law_either g f) [some (.d r), some (.mu n), some (.d (.tup ds)), none, none] S).bind _ = _
          unfold B_law_either
          refine rt_fin (ss_rt (x_ift (S1 := S) (by simp [evSs, evS, evE, evEs, evZ, evO, evI, evT, evTo, rd_d, fz_d, b_add, b_sub, b_mul, b_div, b_mod, b_p18, b_p8, b_p7, b_p6, c_lt, c_le, c_gt, c_ge, c_eq, c_ne, c_eqs, c_nes, c_nes0, c_nes1, c_eqs0, c_eqs1, l_t, l_l, bi_i, bi_max, bi_min, bi_tl, bi_tt, ix_l, ix_t, m_nil, m_cons, at0, at1, at2, flatD, seqOf, isNonW, fin, evX, isi_tup]) ((ss_nx (x_asg hc (by simp))).trans (ss_rt (x_ret ?_))))) hlen
          by_cases ht : t = 0 <;> simp [evSs, evS, evE, evEs, evZ, evO, evI, evT, evTo, rd_d, fz_d, b_add, b_sub, b_mul, b_div, b_mod, b_p18, b_p8, b_p7, b_p6, c_lt, c_le, c_gt, c_ge, c_eq, c_ne, c_eqs, c_nes, c_nes0, c_nes1, c_eqs0, c_eqs1, l_t, l_l, bi_i, bi_max, bi_min, bi_tl, bi_tt, ix_l, ix_t, m_nil, m_cons, at0, at1, at2, flatD, seqOf, isNonW, fin, evX, e2, ht]
        · simp only [Lk]
          refine ⟨ds', ?_, l1⟩
          split
          · exact .inl rfl
          · exact .inr rfl
      | _ => simp [Tv, flatD] at h hf
theorem handed_ex {g li ei d : Nat} {r : D} {n m : Nat} {S0 : Store} {x : D} (hH : P f = some ⟨3, 4, B_law_handed g li ei⟩) (hL : P li = some ⟨1, 2, B_law_listed li⟩) (hE : P ei = some ⟨3, 5, B_law_either g ei⟩) (hP : P g = some ⟨3, 3, B_law_take d⟩) (hD : P d = some ⟨3, 4, B_law_draw⟩)
    (hr : Row r) (hn : n < S0.length) (hx : Tv m x = true) (hS : Sp S0 n S) : ∃ x' S', callF P (k + m + 4) f [.d r, .mu n, .d x] S = some (x', S') ∧ Lk m x' x ∧ Sp S0 n S' := by
  obtain ⟨t, S1, e1, _, _, p1⟩ := take_ex (k := k + m + 1) (lim := 3) hP hD hr hn hS (by decide)
  have len1 : S1.length = S.length := by
    obtain ⟨_, _, rfl⟩ := p1
    obtain ⟨_, _, rfl⟩ := hS
    simp
  have start : ∀ {z : D} {S2 : Store}, S2.length = S.length → evSs (callF P (k + m + 3)) (B_law_handed g li ei) [some (.d r), some (.mu n), some (.d x), none] S = some (.rt z S2) → callF P (k + m + 4) f [.d r, .mu n, .d x] S = some (z, S2) := by
    intro z S2 hl e
    rw [callF_b hH rfl (by decide)]
    exact rt_fin e hl
  by_cases h2 : t = 2
  · obtain ⟨x', S2, e2, l2, p2⟩ := either_ex hE hP hD hr hn m (k := k) hx p1
    have len2 : S2.length = S.length := by
      obtain ⟨_, _, rfl⟩ := p2
      obtain ⟨_, _, rfl⟩ := hS
      simp
    refine ⟨x', S2, start len2 ?_, l2, p2⟩
    simp [B_law_handed, evSs, evS, evE, evEs, evZ, evO, evI, evT, evTo, rd_d, fz_d, b_add, b_sub, b_mul, b_div, b_mod, b_p18, b_p8, b_p7, b_p6, c_lt, c_le, c_gt, c_ge, c_eq, c_ne, c_eqs, c_nes, c_nes0, c_nes1, c_eqs0, c_eqs1, l_t, l_l, bi_i, bi_max, bi_min, bi_tl, bi_tt, ix_l, ix_t, m_nil, m_cons, at0, at1, at2, flatD, seqOf, isNonW, fin, evX, e1, h2, e2]
  · by_cases h0 : t = 0
    · obtain ⟨x', e2, l2⟩ := listed_ex hL m (k := k + 2) (S := S1) hx
      rw [show k + 2 + m + 1 = k + m + 3 by omega] at e2
      refine ⟨x', S1, start len1 ?_, l2, p1⟩
      simp [B_law_handed, evSs, evS, evE, evEs, evZ, evO, evI, evT, evTo, rd_d, fz_d, b_add, b_sub, b_mul, b_div, b_mod, b_p18, b_p8, b_p7, b_p6, c_lt, c_le, c_gt, c_ge, c_eq, c_ne, c_eqs, c_nes, c_nes0, c_nes1, c_eqs0, c_eqs1, l_t, l_l, bi_i, bi_max, bi_min, bi_tl, bi_tt, ix_l, ix_t, m_nil, m_cons, at0, at1, at2, flatD, seqOf, isNonW, fin, evX, e1, h0, e2]
    · refine ⟨x, S1, start len1 ?_, Lk.refl _ _, p1⟩
      simp [B_law_handed, evSs, evS, evE, evEs, evZ, evO, evI, evT, evTo, rd_d, fz_d, b_add, b_sub, b_mul, b_div, b_mod, b_p18, b_p8, b_p7, b_p6, c_lt, c_le, c_gt, c_ge, c_eq, c_ne, c_eqs, c_nes, c_nes0, c_nes1, c_eqs0, c_eqs1, l_t, l_l, bi_i, bi_max, bi_min, bi_tl, bi_tt, ix_l, ix_t, m_nil, m_cons, at0, at1, at2, flatD, seqOf, isNonW, fin, evX, e1, h2, h0]
end
end Pv

set_option Elab.async false
set_option linter.all false
set_option maxRecDepth 100000
set_option maxHeartbeats 1000000
/-! The row of a script. -/
namespace Pv
open PySem L2
def IB1 : Ss := .cons (.ifs (.val (.cmp .eq (.var 3) (.cst (.int 0)))) (.cons (.brk) (.nil)) (.nil)) (.cons (.app 1 (.bin .mod (.bi .int (.cons (.var 3) (.nil))) (.cst (.int 997)))) (.cons (.asg (.name 3) (.bin .div (.var 3) (.cst (.int 997)))) (.nil)))
def IB2 : Ss := .cons (.asg (.name 5) (.bin .mod (.bi .int (.cons (.bin .add (.bin .add (.bin .mul (.var 2) (.cst (.int 48271))) (.bin .mul (.var 4) (.cst (.int 69621)))) (.cst (.int 11))) (.nil))) (.cst (.int 2147483647)))) (.cons (.app 1 (.bin .mod (.bi .int (.cons (.bin .add (.bin .mul (.var 5) (.cst (.int 16807))) (.var 4)) (.nil))) (.cst (.int 2147483629)))) (.nil))
def OB : Ss := .cons (.ifs (.val (.cmp .ge (.var 2) (.bin .pow (.cst (.int 10)) (.cst (.int 18))))) (.cons (.asg (.name 3) (.var 2)) (.cons (.forS (.name 4) (.r1 (.cst (.int 60))) IB1) (.nil))) (.cons (.forS (.name 4) (.r1 (.cst (.int 4))) IB2) (.nil))) (.nil)
section
variable {P : Nat → Option Fn} {k f : Nat} {S0 : Store} {c : Call} {ns : List Int}
def NumI (ns : List Int) (S0 : Store) (N : Nat) (ρ : En) (S : Store) : Prop :=
  ∃ (a b c d : Option W) (ms : List Int), ρ = [some (.d (.scr ns)), some (.mu S0.length), a, b, c, d] ∧ S = S0 ++ [.lst (ms.map .int)] ∧ ms.length ≤ N
theorem get_last {S0 : Store} {x : MO} : (S0 ++ [x])[S0.length]? = some x := by simp
theorem set_last {S0 : Store} {x y : MO} : (S0 ++ [x]).set S0.length y = S0 ++ [y] := by simp
theorem x_appN {e : E} {ρ : En} {ms : List Int} {z : Int} (h1 : ρ[1]? = some (some (.mu S0.length))) (hl : ms.length < 16777216) (he : evE c e ρ (S0 ++ [.lst (ms.map .int)]) = some (.d (.int z), S0 ++ [.lst (ms.map .int)])) :
    evS c (.app 1 e) ρ (S0 ++ [.lst (ms.map .int)]) = some (.nx ρ (S0 ++ [.lst ((ms ++ [z]).map .int)])) := by
  have hl' : (ms.map D.int).length < sizeLine := by rw [sizeLine_val]; simpa using hl
  simp only [evS, h1, lstAt_l get_last, he, Option.bind_some, fz_d, if_pos hl', set_last, List.map_append, List.map_cons, List.map_nil]
theorem n_1 {z : Int} {i : Nat} {a b d : Option W} {ms : List Int} (hl : ms.length ≤ 60 * i) (hi : i < 63) : ∃ ρ' S', evS c (.forS (.name 4) (.r1 (.cst (.int 60))) IB1) [some (.d (.scr ns)), some (.mu S0.length), some (.d (.int z)), some (.d (.int z)), b, d] (S0 ++ [.lst (ms.map .int)]) = some (.nx ρ' S') ∧ NumI ns S0 (60 * (i + 1)) ρ' S' := by
  have loop := x_for (c := c) (tg := .name 4) (it := .r1 (.cst (.int 60))) (ρ := [some (.d (.scr ns)), some (.mu S0.length), some (.d (.int z)), some (.d (.int z)), b, d]) (S := S0 ++ [.lst (ms.map .int)]) (S1 := S0 ++ [.lst (ms.map .int)]) (ds := rangeD 0 60)
    (body := IB1) (Z := fun o => ∃ ρ' S', o = .nx ρ' S' ∧ NumI ns S0 (60 * (i + 1)) ρ' S') (x_rn (j := 60) _ (by simp only [evE, flatD, if_true]) rfl (by decide))
    (fun j ρ' S' => ∃ (y : Int) (b d : Option W) (ms' : List Int), ρ' = [some (.d (.scr ns)), some (.mu S0.length), some (.d (.int z)), some (.d (.int y)), b, d] ∧ S' = S0 ++ [.lst (ms'.map .int)] ∧ ms'.length ≤ 60 * i + j) ⟨z, b, d, ms, rfl, rfl, hl⟩ ?_ ?_
  · obtain ⟨o, e2, ρ', S', rfl, q⟩ := loop
    exact ⟨ρ', S', e2, q⟩
  · rintro j x ρ S' hj ⟨y, b, d, ms', rfl, rfl, hl'⟩
    have hj60 : j < 60 := (rangeD_get hj).1
    by_cases hy : y = 0
    · subst hy
      refine ⟨_, .bk [some (.d (.scr ns)), some (.mu S0.length), some (.d (.int z)), some (.d (.int 0)), some (.d x), d] (S0 ++ [.lst (ms'.map .int)]), rfl, ?_, ?_⟩
      · simp [IB1, evSs, evS, evE, evEs, evZ, evO, evI, evT, evTo, rd_d, fz_d, b_add, b_sub, b_mul, b_div, b_mod, b_p18, b_p8, b_p7, b_p6, c_lt, c_le, c_gt, c_ge, c_eq, c_ne, c_eqs, c_nes, c_nes0, c_nes1, c_eqs0, c_eqs1, l_t, l_l, bi_i, bi_max, bi_min, bi_tl, bi_tt, ix_l, ix_t, m_nil, m_cons, at0, at1, at2, flatD, seqOf, isNonW, fin, evX]
      · exact ⟨_, _, rfl, _, _, _, _, ms', rfl, rfl, by omega⟩
    · refine ⟨_, .nx [some (.d (.scr ns)), some (.mu S0.length), some (.d (.int z)), some (.d (.int (y / 997))), some (.d x), d] (S0 ++ [.lst ((ms' ++ [y % 997]).map .int)]), rfl, ?_, ?_⟩
      · unfold IB1
        rw [ss_nx (ρ' := [some (.d (.scr ns)), some (.mu S0.length), some (.d (.int z)), some (.d (.int y)), some (.d x), d]) (S' := S0 ++ [.lst (ms'.map .int)]) (x_iff (S1 := S0 ++ [.lst (ms'.map .int)]) (by simp [evSs, evS, evE, evEs, evZ, evO, evI, evT, evTo, rd_d, fz_d, b_add, b_sub, b_mul, b_div, b_mod, b_p18, b_p8, b_p7, b_p6, c_lt, c_le, c_gt, c_ge, c_eq, c_ne, c_eqs, c_nes, c_nes0, c_nes1, c_eqs0, c_eqs1, l_t, l_l, bi_i, bi_max, bi_min, bi_tl, bi_tt, ix_l, ix_t, m_nil, m_cons, at0, at1, at2, flatD, seqOf, isNonW, fin, evX, hy]) ss_0)]
        rw [ss_nx (x_appN (ms := ms') (z := y % 997) rfl (by omega) (by simp [evSs, evS, evE, evEs, evZ, evO, evI, evT, evTo, rd_d, fz_d, b_add, b_sub, b_mul, b_div, b_mod, b_p18, b_p8, b_p7, b_p6, c_lt, c_le, c_gt, c_ge, c_eq, c_ne, c_eqs, c_nes, c_nes0, c_nes1, c_eqs0, c_eqs1, l_t, l_l, bi_i, bi_max, bi_min, bi_tl, bi_tt, ix_l, ix_t, m_nil, m_cons, at0, at1, at2, flatD, seqOf, isNonW, fin, evX]))]
        simp [evSs, evS, evE, evEs, evZ, evO, evI, evT, evTo, rd_d, fz_d, b_add, b_sub, b_mul, b_div, b_mod, b_p18, b_p8, b_p7, b_p6, c_lt, c_le, c_gt, c_ge, c_eq, c_ne, c_eqs, c_nes, c_nes0, c_nes1, c_eqs0, c_eqs1, l_t, l_l, bi_i, bi_max, bi_min, bi_tl, bi_tt, ix_l, ix_t, m_nil, m_cons, at0, at1, at2, flatD, seqOf, isNonW, fin, evX]
      · exact ⟨_, _, _, _, rfl, rfl, by simp; omega⟩
  · rintro ρ S' ⟨y, b, d, ms', rfl, rfl, hl'⟩
    rw [rangeD_length] at hl'
    exact ⟨_, _, rfl, _, _, _, _, ms', rfl, rfl, by omega⟩
theorem n_2s {z q : Int} {a d : Option W} {ms' : List Int} (hl : ms'.length < 16777216) : evSs c IB2 [some (.d (.scr ns)), some (.mu S0.length), some (.d (.int z)), a, some (.d (.int q)), d] (S0 ++ [.lst (ms'.map .int)]) =
    some (.nx [some (.d (.scr ns)), some (.mu S0.length), some (.d (.int z)), a, some (.d (.int q)), some (.d (.int ((z * 48271 + q * 69621 + 11) % 2147483647)))] (S0 ++ [.lst ((ms' ++ [((z * 48271 + q * 69621 + 11) % 2147483647 * 16807 + q) % 2147483629]).map .int)])) := by
  have e1 : evS c (.asg (.name 5) (.bin .mod (.bi .int (.cons (.bin .add (.bin .add (.bin .mul (.var 2) (.cst (.int 48271))) (.bin .mul (.var 4) (.cst (.int 69621)))) (.cst (.int 11))) (.nil))) (.cst (.int 2147483647)))) [some (.d (.scr ns)), some (.mu S0.length), some (.d (.int z)), a, some (.d (.int q)), d] (S0 ++ [.lst (ms'.map .int)]) = some (.nx [some (.d (.scr ns)), some (.mu S0.length), some (.d (.int z)), a, some (.d (.int q)), some (.d (.int ((z * 48271 + q * 69621 + 11) % 2147483647)))] (S0 ++ [.lst (ms'.map .int)])) := by
    simp [evSs, evS, evE, evEs, evZ, evO, evI, evT, evTo, rd_d, fz_d, b_add, b_sub, b_mul, b_div, b_mod, b_p18, b_p8, b_p7, b_p6, c_lt, c_le, c_gt, c_ge, c_eq, c_ne, c_eqs, c_nes, c_nes0, c_nes1, c_eqs0, c_eqs1, l_t, l_l, bi_i, bi_max, bi_min, bi_tl, bi_tt, ix_l, ix_t, m_nil, m_cons, at0, at1, at2, flatD, seqOf, isNonW, fin, evX]
  generalize (z * 48271 + q * 69621 + 11) % 2147483647 = u at e1 ⊢
  have e2 : evE c (.bin .mod (.bi .int (.cons (.bin .add (.bin .mul (.var 5) (.cst (.int 16807))) (.var 4)) (.nil))) (.cst (.int 2147483629))) [some (.d (.scr ns)), some (.mu S0.length), some (.d (.int z)), a, some (.d (.int q)), some (.d (.int u))] (S0 ++ [.lst (ms'.map .int)]) = some (.d (.int ((u * 16807 + q) % 2147483629)), (S0 ++ [.lst (ms'.map .int)])) := by
    simp [evSs, evS, evE, evEs, evZ, evO, evI, evT, evTo, rd_d, fz_d, b_add, b_sub, b_mul, b_div, b_mod, b_p18, b_p8, b_p7, b_p6, c_lt, c_le, c_gt, c_ge, c_eq, c_ne, c_eqs, c_nes, c_nes0, c_nes1, c_eqs0, c_eqs1, l_t, l_l, bi_i, bi_max, bi_min, bi_tl, bi_tt, ix_l, ix_t, m_nil, m_cons, at0, at1, at2, flatD, seqOf, isNonW, fin, evX]
  unfold IB2
  rw [ss_nx e1, ss_nx (x_appN (ms := ms') rfl hl e2), ss_0]
theorem n_2 {z : Int} {i : Nat} {a b d : Option W} {ms : List Int} (hl : ms.length ≤ 60 * i) (hi : i < 63) : ∃ ρ' S', evS c (.forS (.name 4) (.r1 (.cst (.int 4))) IB2) [some (.d (.scr ns)), some (.mu S0.length), some (.d (.int z)), a, b, d] (S0 ++ [.lst (ms.map .int)]) = some (.nx ρ' S') ∧ NumI ns S0 (60 * (i + 1)) ρ' S' := by
  have loop := x_for (c := c) (tg := .name 4) (it := .r1 (.cst (.int 4))) (ρ := [some (.d (.scr ns)), some (.mu S0.length), some (.d (.int z)), a, b, d]) (S := S0 ++ [.lst (ms.map .int)]) (S1 := S0 ++ [.lst (ms.map .int)]) (ds := rangeD 0 4)
    (body := IB2) (Z := fun o => ∃ ρ' S', o = .nx ρ' S' ∧ NumI ns S0 (60 * (i + 1)) ρ' S') (x_rn (j := 4) _ (by simp only [evE, flatD, if_true]) rfl (by decide))
    (fun j ρ' S' => ∃ (a b d : Option W) (ms' : List Int), ρ' = [some (.d (.scr ns)), some (.mu S0.length), some (.d (.int z)), a, b, d] ∧ S' = S0 ++ [.lst (ms'.map .int)] ∧ ms'.length ≤ 60 * i + j) ⟨a, b, d, ms, rfl, rfl, hl⟩ ?_ ?_
  · obtain ⟨o, e2, ρ', S', rfl, q⟩ := loop
    exact ⟨ρ', S', e2, q⟩
  · rintro j x ρ S' hj ⟨a, b, d, ms', rfl, rfl, hl'⟩
    obtain ⟨hj4, rfl⟩ := rangeD_get hj
    refine ⟨_, _, rfl, n_2s (by omega), ?_⟩
    exact ⟨_, _, _, _, rfl, rfl, by simp; omega⟩
  · rintro ρ S' ⟨a, b, d, ms', rfl, rfl, hl'⟩
    rw [rangeD_length] at hl'
    exact ⟨_, _, rfl, _, _, _, _, ms', rfl, rfl, by omega⟩
theorem n_o {z : Int} {i : Nat} {b c' d : Option W} {ms : List Int} (hl : ms.length ≤ 60 * i) (hi : i < 63) : ∃ ρ' S', evSs c OB [some (.d (.scr ns)), some (.mu S0.length), some (.d (.int z)), b, c', d] (S0 ++ [.lst (ms.map .int)]) = some (.nx ρ' S') ∧ NumI ns S0 (60 * (i + 1)) ρ' S' := by
  by_cases hz : 1000000000000000000 ≤ z
  · obtain ⟨ρ', S', e, q⟩ := n_1 (c := c) (ns := ns) (S0 := S0) (z := z) (a := none) (b := c') (d := d) hl hi
    refine ⟨ρ', S', ?_, q⟩
    have e1 : evT c (.val (.cmp .ge (.var 2) (.bin .pow (.cst (.int 10)) (.cst (.int 18))))) [some (.d (.scr ns)), some (.mu S0.length), some (.d (.int z)), b, c', d] (S0 ++ [.lst (ms.map .int)]) = some (true, S0 ++ [.lst (ms.map .int)]) := by
      simp [evSs, evS, evE, evEs, evZ, evO, evI, evT, evTo, rd_d, fz_d, b_add, b_sub, b_mul, b_div, b_mod, b_p18, b_p8, b_p7, b_p6, c_lt, c_le, c_gt, c_ge, c_eq, c_ne, c_eqs, c_nes, c_nes0, c_nes1, c_eqs0, c_eqs1, l_t, l_l, bi_i, bi_max, bi_min, bi_tl, bi_tt, ix_l, ix_t, m_nil, m_cons, at0, at1, at2, flatD, seqOf, isNonW, fin, evX, hz]
    have e2 : evS c (.asg (.name 3) (.var 2)) [some (.d (.scr ns)), some (.mu S0.length), some (.d (.int z)), b, c', d] (S0 ++ [.lst (ms.map .int)]) = some (.nx [some (.d (.scr ns)), some (.mu S0.length), some (.d (.int z)), some (.d (.int z)), c', d] (S0 ++ [.lst (ms.map .int)])) := by
      simp [evSs, evS, evE, evEs, evZ, evO, evI, evT, evTo, rd_d, fz_d, b_add, b_sub, b_mul, b_div, b_mod, b_p18, b_p8, b_p7, b_p6, c_lt, c_le, c_gt, c_ge, c_eq, c_ne, c_eqs, c_nes, c_nes0, c_nes1, c_eqs0, c_eqs1, l_t, l_l, bi_i, bi_max, bi_min, bi_tl, bi_tt, ix_l, ix_t, m_nil, m_cons, at0, at1, at2, flatD, seqOf, isNonW, fin, evX]
    unfold OB
    rw [ss_nx (x_ift e1 ((ss_nx e2).trans ((ss_nx e).trans ss_0))), ss_0]
  · obtain ⟨ρ', S', e, q⟩ := n_2 (c := c) (ns := ns) (S0 := S0) (z := z) (a := b) (b := c') (d := d) hl hi
    refine ⟨ρ', S', ?_, q⟩
    have e1 : evT c (.val (.cmp .ge (.var 2) (.bin .pow (.cst (.int 10)) (.cst (.int 18))))) [some (.d (.scr ns)), some (.mu S0.length), some (.d (.int z)), b, c', d] (S0 ++ [.lst (ms.map .int)]) = some (false, S0 ++ [.lst (ms.map .int)]) := by
      simp [evSs, evS, evE, evEs, evZ, evO, evI, evT, evTo, rd_d, fz_d, b_add, b_sub, b_mul, b_div, b_mod, b_p18, b_p8, b_p7, b_p6, c_lt, c_le, c_gt, c_ge, c_eq, c_ne, c_eqs, c_nes, c_nes0, c_nes1, c_eqs0, c_eqs1, l_t, l_l, bi_i, bi_max, bi_min, bi_tl, bi_tt, ix_l, ix_t, m_nil, m_cons, at0, at1, at2, flatD, seqOf, isNonW, fin, evX, hz]
    unfold OB
    rw [ss_nx (x_iff e1 ((ss_nx e).trans ss_0)), ss_0]
theorem numbers_ex {S : Store} (hN : P f = some ⟨1, 6, B_law_numbers⟩) : ∃ r, Row r ∧ callF P (k + 1) f [.d (.scr ns)] S = some (r, S) := by
  have b63 : (cutD (ns.map .int) none (some 63)).length ≤ 63 := by
    unfold cutD
    rw [List.length_take]
    have : HT.sIx (ns.map D.int).length (ns.map D.int).length (some 63) ≤ 63 := by
      unfold HT.sIx
      simp
      omega
    omega
  have allI : ∀ x ∈ cutD (ns.map .int) none (some 63), ∃ z, x = .int z := by
    intro x hx
    unfold cutD at hx
    have := List.mem_of_mem_drop (List.mem_of_mem_take hx)
    obtain ⟨z, _, rfl⟩ := List.mem_map.mp this
    exact ⟨z, rfl⟩
  generalize hds : cutD (ns.map .int) none (some 63) = ds at b63 allI
  rw [callF_b hN rfl (by decide)]
  show ∃ r, Row r ∧ (evSs (callF P k) B_law_numbers [some (.d (.scr ns)), none, none, none, none, none] S).bind _ = _
  have e1 : evS (callF P k) (.newL 1 .nil) [some (.d (.scr ns)), none, none, none, none, none] S = some (.nx [some (.d (.scr ns)), some (.mu S.length), none, none, none, none] (S ++ [.lst []])) := by
    simp [evSs, evS, evE, evEs, evZ, evO, evI, evT, evTo, rd_d, fz_d, b_add, b_sub, b_mul, b_div, b_mod, b_p18, b_p8, b_p7, b_p6, c_lt, c_le, c_gt, c_ge, c_eq, c_ne, c_eqs, c_nes, c_nes0, c_nes1, c_eqs0, c_eqs1, l_t, l_l, bi_i, bi_max, bi_min, bi_tl, bi_tt, ix_l, ix_t, m_nil, m_cons, at0, at1, at2, flatD, seqOf, isNonW, fin, evX]
  have loop := x_for (c := callF P k) (tg := .name 2) (it := .seq (.sl (.var 0) .none (.some (.cst (.int 63))))) (ρ := [some (.d (.scr ns)), some (.mu S.length), none, none, none, none]) (S := S ++ [.lst []]) (S1 := S ++ [.lst []]) (ds := ds)
    (body := OB) (Z := fun o => ∃ ρ' S', o = .nx ρ' S' ∧ NumI ns S 4000 ρ' S')
    (by simp [evSs, evS, evE, evEs, evZ, evO, evI, evT, evTo, rd_d, fz_d, b_add, b_sub, b_mul, b_div, b_mod, b_p18, b_p8, b_p7, b_p6, c_lt, c_le, c_gt, c_ge, c_eq, c_ne, c_eqs, c_nes, c_nes0, c_nes1, c_eqs0, c_eqs1, l_t, l_l, bi_i, bi_max, bi_min, bi_tl, bi_tt, ix_l, ix_t, m_nil, m_cons, at0, at1, at2, flatD, seqOf, isNonW, fin, evX, slRun, hds]) (fun i ρ' S' => NumI ns S (60 * i) ρ' S') ⟨none, none, none, none, [], rfl, rfl, by simp⟩ (fun i x ρ S' hi h => by
      obtain ⟨a, b, c, d, ms, rfl, rfl, hl⟩ := h
      obtain ⟨z, rfl⟩ := allI x (List.mem_of_getElem? hi)
      have hi63 : i < 63 := by
        have := (List.getElem?_eq_some_iff.mp hi).1
        omega
      obtain ⟨ρ', S', e2, q⟩ := n_o (c := callF P k) (ns := ns) (S0 := S) (z := z) (b := b) (c' := c) (d := d) hl hi63
      exact ⟨_, .nx ρ' S', rfl, e2, q⟩) (fun ρ S' h => by
      obtain ⟨a, b, c, d, ms, rfl, rfl, hl⟩ := h
      exact ⟨_, _, rfl, a, b, c, d, ms, rfl, rfl, by omega⟩)
  obtain ⟨o, e2, ρ', S', rfl, a, b, c, d, ms, rfl, rfl, hl⟩ := loop
  unfold B_law_numbers
  rw [ss_nx e1]
  erw [ss_nx e2]
  by_cases h0 : ms = []
  · subst h0
    refine ⟨.lst [.int 0], ⟨[0], by simp, rfl⟩, ?_⟩
    have e4 : evT (callF P k) (.val (.cmp .eq (.bi .len (.cons (.var 1) (.nil))) (.cst (.int 0)))) [some (.d (.scr ns)), some (.mu S.length), a, b, c, d] (S ++ [.lst (([] : List Int).map .int)]) = some (true, S ++ [.lst (([] : List Int).map .int)]) := by
      simp [evSs, evS, evE, evEs, evZ, evO, evI, evT, evTo, rd_d, fz_d, b_add, b_sub, b_mul, b_div, b_mod, b_p18, b_p8, b_p7, b_p6, c_lt, c_le, c_gt, c_ge, c_eq, c_ne, c_eqs, c_nes, c_nes0, c_nes1, c_eqs0, c_eqs1, l_t, l_l, bi_i, bi_max, bi_min, bi_tl, bi_tt, ix_l, ix_t, m_nil, m_cons, at0, at1, at2, flatD, seqOf, isNonW, fin, evX, rd_l get_last]
    have e5 := x_appN (S0 := S) (c := callF P k) (e := .cst (.int 0)) (ρ := [some (.d (.scr ns)), some (.mu S.length), a, b, c, d]) (ms := []) (z := 0) rfl (by simp) (by simp [evSs, evS, evE, evEs, evZ, evO, evI, evT, evTo, rd_d, fz_d, b_add, b_sub, b_mul, b_div, b_mod, b_p18, b_p8, b_p7, b_p6, c_lt, c_le, c_gt, c_ge, c_eq, c_ne, c_eqs, c_nes, c_nes0, c_nes1, c_eqs0, c_eqs1, l_t, l_l, bi_i, bi_max, bi_min, bi_tl, bi_tt, ix_l, ix_t, m_nil, m_cons, at0, at1, at2, flatD, seqOf, isNonW, fin, evX])
    rw [ss_nx (x_ift e4 ((ss_nx e5).trans ss_0))]
    simp [evSs, evS, evE, evEs, evZ, evO, evI, evT, evTo, rd_d, fz_d, b_add, b_sub, b_mul, b_div, b_mod, b_p18, b_p8, b_p7, b_p6, c_lt, c_le, c_gt, c_ge, c_eq, c_ne, c_eqs, c_nes, c_nes0, c_nes1, c_eqs0, c_eqs1, l_t, l_l, bi_i, bi_max, bi_min, bi_tl, bi_tt, ix_l, ix_t, m_nil, m_cons, at0, at1, at2, flatD, seqOf, isNonW, fin, evX, fz_l get_last, set_last]
  · refine ⟨.lst (ms.map .int), ⟨ms, h0, rfl⟩, ?_⟩
    have e4 : evT (callF P k) (.val (.cmp .eq (.bi .len (.cons (.var 1) (.nil))) (.cst (.int 0)))) [some (.d (.scr ns)), some (.mu S.length), a, b, c, d] (S ++ [.lst (ms.map .int)]) = some (false, S ++ [.lst (ms.map .int)]) := by
      simp [evSs, evS, evE, evEs, evZ, evO, evI, evT, evTo, rd_d, fz_d, b_add, b_sub, b_mul, b_div, b_mod, b_p18, b_p8, b_p7, b_p6, c_lt, c_le, c_gt, c_ge, c_eq, c_ne, c_eqs, c_nes, c_nes0, c_nes1, c_eqs0, c_eqs1, l_t, l_l, bi_i, bi_max, bi_min, bi_tl, bi_tt, ix_l, ix_t, m_nil, m_cons, at0, at1, at2, flatD, seqOf, isNonW, fin, evX, rd_l get_last, h0]
    rw [ss_nx (x_iff e4 ss_0)]
    simp [evSs, evS, evE, evEs, evZ, evO, evI, evT, evTo, rd_d, fz_d, b_add, b_sub, b_mul, b_div, b_mod, b_p18, b_p8, b_p7, b_p6, c_lt, c_le, c_gt, c_ge, c_eq, c_ne, c_eqs, c_nes, c_nes0, c_nes1, c_eqs0, c_eqs1, l_t, l_l, bi_i, bi_max, bi_min, bi_tl, bi_tt, ix_l, ix_t, m_nil, m_cons, at0, at1, at2, flatD, seqOf, isNonW, fin, evX, fz_l get_last, set_last]
end
end Pv

set_option Elab.async false
set_option linter.all false
set_option maxRecDepth 100000
set_option maxHeartbeats 1000000
/-! What the checks of plain values mean. -/
namespace Pv
open PySem L2
/-- need: 2 parameters, slots good at -/
def B_need : Ss := .cons (.ifs (.not (.val (.var 0))) (.cons (.rais (.var 1)) (.nil)) (.nil)) (.nil)
/-- is_integer: 1 parameters, slots value -/
def B_is_integer : Ss := .cons (.ret (.and (.isi1 (.var 0) "int") (.not (.isi1 (.var 0) "bool")))) (.nil)
/-- is_within: 3 parameters, slots value low high -/
def B_is_within (i_is_integer : Nat) : Ss := .cons (.ret (.and (.call i_is_integer (.cons (.var 0) (.nil))) (.chain .le .le (.var 1) (.var 0) (.var 2)))) (.nil)
/-- is_word: 1 parameters, slots value -/
def B_is_word : Ss := .cons (.ifs (.or (.not (.val (.isi1 (.var 0) "str"))) (.not (.val (.chain .le .le (.cst (.int 1)) (.bi .len (.cons (.var 0) (.nil))) (.cst (.int 8)))))) (.cons (.ret (.cst (.bl false))) (.nil)) (.nil)) (.cons (.ret (.and (.mt0 .isascii (.var 0)) (.and (.mt0 .isalpha (.var 0)) (.mt0 .islower (.var 0))))) (.nil))
/-- is_second: 1 parameters, slots value -/
def B_is_second (i_is_within : Nat) : Ss := .cons (.ret (.call i_is_within (.cons (.var 0) (.cons (.cst (.int 0)) (.cons (.cst (.int 100000000)) (.nil)))))) (.nil)
/-- is_rows: 3 parameters, slots value low high -/
def B_is_rows : Ss := .cons (.ret (.and (.isi2 (.var 0) "list" "tuple") (.chain .le .le (.var 1) (.bi .len (.cons (.var 0) (.nil))) (.var 2)))) (.nil)
/-- is_rows_of: 4 parameters, slots value low high is_member member -/
def B_is_rows_of (i_is_rows : Nat) : Ss := .cons (.ret (.and (.call i_is_rows (.cons (.var 0) (.cons (.var 1) (.cons (.var 2) (.nil))))) (.bi .all (.cons (.comp [4] (.name 4) (.seq (.var 0)) (.none) (.callv 3 (.cons (.var 4) (.nil)))) (.nil))))) (.nil)
/-- is_ascending: 1 parameters, slots keys at -/
def B_is_ascending : Ss := .cons (.ret (.bi .all (.cons (.comp [1] (.name 1) (.r1 (.bin .sub (.bi .len (.cons (.var 0) (.nil))) (.cst (.int 1)))) (.none) (.cmp .lt (.ix (.var 0) (.var 1)) (.ix (.var 0) (.bin .add (.var 1) (.cst (.int 1)))))) (.nil)))) (.nil)
section
variable {P : Nat → Option Fn} {k f g : Nat} {S : Store}
theorem need_ok {at' : D} (h : P f = some ⟨2, 2, B_need⟩) : callF P (k + 1) f [.d (.bl true), .d at'] S = some (.non, S) := by
  rw [callF_b h rfl (by decide)]
  show (evSs (callF P k) B_need [some (.d (.bl true)), some (.d at')] S).bind _ = _
  simp [B_need, evSs, evS, evE, evEs, evZ, evO, evI, evT, evTo, rd_d, fz_d, b_add, b_sub, b_mul, b_div, b_mod, b_p18, b_p8, b_p7, b_p6, c_lt, c_le, c_gt, c_ge, c_eq, c_ne, c_eqs, c_nes, c_nes0, c_nes1, c_eqs0, c_eqs1, l_t, l_l, bi_i, bi_max, bi_min, bi_tl, bi_tt, ix_l, ix_t, m_nil, m_cons, at0, at1, at2, flatD, seqOf, isNonW, fin, evX]
theorem need_no {a : Int} (h : P f = some ⟨2, 2, B_need⟩) (ha : atOk a = true) : callF P (k + 1) f [.d (.bl false), .d (.int a)] S = none ∧ (callF P (k + 1)).x f [.d (.bl false), .d (.int a)] S = some (.int a, S) := by
  have e : evSs (callF P k) B_need (startE 2 [.d (.bl false), .d (.int a)]) S = some (.xc (.int a) S) := by
    show evSs (callF P k) B_need [some (.d (.bl false)), some (.d (.int a))] S = _
    simp [B_need, evSs, evS, evE, evEs, evZ, evO, evI, evT, evTo, rd_d, fz_d, b_add, b_sub, b_mul, b_div, b_mod, b_p18, b_p8, b_p7, b_p6, c_lt, c_le, c_gt, c_ge, c_eq, c_ne, c_eqs, c_nes, c_nes0, c_nes1, c_eqs0, c_eqs1, l_t, l_l, bi_i, bi_max, bi_min, bi_tl, bi_tt, ix_l, ix_t, m_nil, m_cons, at0, at1, at2, flatD, seqOf, isNonW, fin, evX, ha]
  refine ⟨?_, ?_⟩
  · rw [callF_eq h rfl (by decide), e]; rfl
  · rw [callX_eq h rfl (by decide), e]
    show some (D.int a, S.take S.length) = _
    rw [List.take_length]
/-- what a call leads to, where it may raise -/
inductive Rz (P : Nat → Option Fn) (k f : Nat) (ws : List W) (S : Store) : Out → Prop where
  | rt {d : D} {S' : Store} (h : callF P k f ws S = some (d, S')) : Rz P k f ws S (.rt d S')
  | xc {d : D} {S' : Store} (h : callF P k f ws S = none) (h' : (callF P k).x f ws S = some (d, S')) : Rz P k f ws S (.xc d S')
theorem Rz.ev {ws : List W} {S1 : Store} {o : Out} {as : Es} {ρ : En} (h : Rz P k f ws S1 o) (e : evEs (callF P k) as ρ S = some (ws, S1)) : evX (callF P k) (.call f as) ρ S = some o := by
  cases h with
  | rt h => simp only [evX, e, Option.bind_some, h]
  | xc h h' => simp only [evX, e, Option.bind_some, h, h', Option.map_some]
/-- a def that may raise, by its body -/
theorem Rz.of {q : Fn} {ws : List W} {ρ : En} {o : Out} (h : P f = some q) (h1 : ws.length = q.ar) (h2 : q.ar ≤ q.sl) (hρ : startE q.sl ws = ρ) (e : evSs (callF P k) q.body ρ S = some o) :
    match o with
    | .rt d S' => Rz P (k + 1) f ws S (.rt d (S'.take S.length))
    | .xc d S' => Rz P (k + 1) f ws S (.xc d (S'.take S.length))
    | _ => True := by
  subst hρ
  cases o with
  | rt d S' => exact .rt (by rw [callF_eq h h1 h2, e]; rfl)
  | xc d S' => exact .xc (by rw [callF_eq h h1 h2, e]; rfl) (by rw [callX_eq h h1 h2, e]; rfl)
  | _ => trivial
/-- isinstance knows what it is -/
def okV : D → Bool
  | .dK _ _ => false | .dT _ _ => false | .fn _ => false | .scr _ => false
  | _ => true
def isI : D → Bool
  | .int _ => true
  | _ => false
theorem integer_ok {d : D} (h : P f = some ⟨1, 1, B_is_integer⟩) (hd : okV d = true) : callF P (k + 1) f [.d d] S = some (.bl (isI d), S) := by
  rw [callF_b h rfl (by decide)]
  show (evSs (callF P k) B_is_integer [some (.d d)] S).bind _ = _
  cases d <;> first
    | (simp [okV] at hd; done)
    | simp [B_is_integer, evSs, evS, evE, evEs, evZ, evO, evI, evT, evTo, rd_d, fz_d, b_add, b_sub, b_mul, b_div, b_mod, b_p18, b_p8, b_p7, b_p6, c_lt, c_le, c_gt, c_ge, c_eq, c_ne, c_eqs, c_nes, c_nes0, c_nes1, c_eqs0, c_eqs1, l_t, l_l, bi_i, bi_max, bi_min, bi_tl, bi_tt, ix_l, ix_t, m_nil, m_cons, at0, at1, at2, flatD, seqOf, isNonW, fin, evX, isi1, tyD, kB1, kB2, kB6, kB7, kB11, kB12, kB16, kB17, kB21, kB22, kB26, kB27, isI]
def isW (lo hi : Int) : D → Bool
  | .int i => decide (lo ≤ i) && decide (i ≤ hi)
  | _ => false
theorem within_ok {d : D} {lo hi : Int} (h : P f = some ⟨3, 3, B_is_within g⟩) (h1 : P g = some ⟨1, 1, B_is_integer⟩) (hd : okV d = true) : callF P (k + 2) f [.d d, .d (.int lo), .d (.int hi)] S = some (.bl (isW lo hi d), S) := by
  have e := integer_ok (k := k) (S := S) h1 hd
  rw [callF_b h rfl (by decide)]
  show (evSs (callF P (k + 1)) (B_is_within g) [some (.d d), some (.d (.int lo)), some (.d (.int hi))] S).bind _ = _
  cases d <;> first
    | (simp [okV] at hd; done)
    | simp [B_is_within, evSs, evS, evE, evEs, evZ, evO, evI, evT, evTo, rd_d, fz_d, b_add, b_sub, b_mul, b_div, b_mod, b_p18, b_p8, b_p7, b_p6, c_lt, c_le, c_gt, c_ge, c_eq, c_ne, c_eqs, c_nes, c_nes0, c_nes1, c_eqs0, c_eqs1, l_t, l_l, bi_i, bi_max, bi_min, bi_tl, bi_tt, ix_l, ix_t, m_nil, m_cons, at0, at1, at2, flatD, seqOf, isNonW, fin, evX, e, isI, isW]
  rename_i i
  by_cases h1 : lo ≤ i <;> simp [h1, evSs, evS, evE, evEs, evZ, evO, evI, evT, evTo, rd_d, fz_d, b_add, b_sub, b_mul, b_div, b_mod, b_p18, b_p8, b_p7, b_p6, c_lt, c_le, c_gt, c_ge, c_eq, c_ne, c_eqs, c_nes, c_nes0, c_nes1, c_eqs0, c_eqs1, l_t, l_l, bi_i, bi_max, bi_min, bi_tl, bi_tt, ix_l, ix_t, m_nil, m_cons, at0, at1, at2, flatD, seqOf, isNonW, fin, evX]
theorem second_ok {d : D} {g' : Nat} (h0 : P f = some ⟨1, 1, B_is_second g⟩) (h : P g = some ⟨3, 3, B_is_within g'⟩) (h1 : P g' = some ⟨1, 1, B_is_integer⟩) (hd : okV d = true) : callF P (k + 3) f [.d d] S = some (.bl (isW 0 100000000 d), S) := by
  have e := within_ok (k := k) (S := S) (lo := 0) (hi := 100000000) h h1 hd
  rw [callF_b h0 rfl (by decide)]
  show (evSs (callF P (k + 2)) (B_is_second g) [some (.d d)] S).bind _ = _
  simp [B_is_second, evSs, evS, evE, evEs, evZ, evO, evI, evT, evTo, rd_d, fz_d, b_add, b_sub, b_mul, b_div, b_mod, b_p18, b_p8, b_p7, b_p6, c_lt, c_le, c_gt, c_ge, c_eq, c_ne, c_eqs, c_nes, c_nes0, c_nes1, c_eqs0, c_eqs1, l_t, l_l, bi_i, bi_max, bi_min, bi_tl, bi_tt, ix_l, ix_t, m_nil, m_cons, at0, at1, at2, flatD, seqOf, isNonW, fin, evX, e]
/-- a list or a tuple of these -/
def Sq (d : D) (ds : List D) : Prop := d = .lst ds ∨ d = .tup ds
theorem isi2_sq {d : D} {ds : List D} (h : Sq d ds) : isi2 d "list" "tuple" = some true := by
  rcases h with rfl | rfl <;> simp [isi2, isi1, tyD, kB19, kB24, kB25]
theorem rows_ok {d : D} {ds : List D} {lo hi : Int} (h : P f = some ⟨3, 3, B_is_rows⟩) (hd : Sq d ds) : callF P (k + 1) f [.d d, .d (.int lo), .d (.int hi)] S = some (.bl (decide (lo ≤ ds.length) && decide ((ds.length : Int) ≤ hi)), S) := by
  have e := isi2_sq hd
  rw [callF_b h rfl (by decide)]
  show (evSs (callF P k) B_is_rows [some (.d d), some (.d (.int lo)), some (.d (.int hi))] S).bind _ = _
  by_cases h1 : lo ≤ (ds.length : Int)
  · rcases hd with rfl | rfl <;> simp [B_is_rows, evSs, evS, evE, evEs, evZ, evO, evI, evT, evTo, rd_d, fz_d, b_add, b_sub, b_mul, b_div, b_mod, b_p18, b_p8, b_p7, b_p6, c_lt, c_le, c_gt, c_ge, c_eq, c_ne, c_eqs, c_nes, c_nes0, c_nes1, c_eqs0, c_eqs1, l_t, l_l, bi_i, bi_max, bi_min, bi_tl, bi_tt, ix_l, ix_t, m_nil, m_cons, at0, at1, at2, flatD, seqOf, isNonW, fin, evX, e, h1]
  · rcases hd with rfl | rfl <;> simp [B_is_rows, evSs, evS, evE, evEs, evZ, evO, evI, evT, evTo, rd_d, fz_d, b_add, b_sub, b_mul, b_div, b_mod, b_p18, b_p8, b_p7, b_p6, c_lt, c_le, c_gt, c_ge, c_eq, c_ne, c_eqs, c_nes, c_nes0, c_nes1, c_eqs0, c_eqs1, l_t, l_l, bi_i, bi_max, bi_min, bi_tl, bi_tt, ix_l, ix_t, m_nil, m_cons, at0, at1, at2, flatD, seqOf, isNonW, fin, evX, e, h1]
theorem blsOf_map (p : D → Bool) : ∀ ds : List D, blsOf (ds.map fun d => .bl (p d)) = some (ds.map p)
  | [] => rfl
  | d :: ds => by simp [blsOf, blsOf_map p ds]
theorem all_bls (p : D → Bool) (ds : List D) : biRun .all [.lst (ds.map fun d => .bl (p d))] = some (.bl (ds.all p)) := by
  simp [biRun, blsOf_map]
theorem rows_of_ok {d : D} {ds : List D} {lo hi : Int} {m : Nat} {p : D → Bool} (h : P f = some ⟨4, 5, B_is_rows_of g⟩) (h1 : P g = some ⟨3, 3, B_is_rows⟩) (hd : Sq d ds) (hl : ds.length ≤ sizeLine)
    (hm : ∀ x ∈ ds, callF P (k + 1) m [.d x] S = some (.bl (p x), S)) : callF P (k + 2) f [.d d, .d (.int lo), .d (.int hi), .d (.fn m)] S = some (.bl ((decide (lo ≤ ds.length) && decide ((ds.length : Int) ≤ hi)) && ds.all p), S) := by
  have e := rows_ok (k := k) (S := S) (lo := lo) (hi := hi) h1 hd
  rw [callF_b h rfl (by decide)]
  show (evSs (callF P (k + 1)) (B_is_rows_of g) [some (.d d), some (.d (.int lo)), some (.d (.int hi)), some (.d (.fn m)), none] S).bind _ = _
  have c1 := compL_map (f := fun d' S => (asgn (.name 4) d' (wipeE [some (.d d), some (.d (.int lo)), some (.d (.int hi)), some (.d (.fn m)), none] [4])).bind fun ρ' => (evTo (callF P (k + 1)) .none ρ' S).bind fun q => if q.1 = true then (evE (callF P (k + 1)) (.callv 3 (.cons (.var 4) .nil)) ρ' q.2).bind fun w => (fzW w.1 w.2).map fun z => (some z.1, z.2) else some (none, q.2))
    (g := fun x => .bl (p x)) (S := S) (ds := ds) (acc := []) (fun x hx => by simp [wipeE, asgn, evSs, evS, evE, evEs, evZ, evO, evI, evT, evTo, rd_d, fz_d, b_add, b_sub, b_mul, b_div, b_mod, b_p18, b_p8, b_p7, b_p6, c_lt, c_le, c_gt, c_ge, c_eq, c_ne, c_eqs, c_nes, c_nes0, c_nes1, c_eqs0, c_eqs1, l_t, l_l, bi_i, bi_max, bi_min, bi_tl, bi_tt, ix_l, ix_t, m_nil, m_cons, at0, at1, at2, flatD, seqOf, isNonW, fin, evX, hm x hx]) (by simpa using hl)
  have hc := e_comp (c := callF P (k + 1)) (vs := [4]) (tg := .name 4) (it := .seq (.var 0)) (cond := .none) (elt := .callv 3 (.cons (.var 4) .nil)) (ρ := [some (.d d), some (.d (.int lo)), some (.d (.int hi)), some (.d (.fn m)), none]) (S := S) (S1 := S) (ds := ds) rfl (by rcases hd with rfl | rfl <;> simp [evSs, evS, evE, evEs, evZ, evO, evI, evT, evTo, rd_d, fz_d, b_add, b_sub, b_mul, b_div, b_mod, b_p18, b_p8, b_p7, b_p6, c_lt, c_le, c_gt, c_ge, c_eq, c_ne, c_eqs, c_nes, c_nes0, c_nes1, c_eqs0, c_eqs1, l_t, l_l, bi_i, bi_max, bi_min, bi_tl, bi_tt, ix_l, ix_t, m_nil, m_cons, at0, at1, at2, flatD, seqOf, isNonW, fin, evX]) c1
  unfold B_is_rows_of
  refine rt_fin (ss_rt (x_ret ?_)) rfl
  have e2 : evE (callF P (k + 1)) (.bi .all (.cons (.comp [4] (.name 4) (.seq (.var 0)) (.none) (.callv 3 (.cons (.var 4) (.nil)))) (.nil))) [some (.d d), some (.d (.int lo)), some (.d (.int hi)), some (.d (.fn m)), none] S = some (.d (.bl (ds.all p)), S) := by
    rw [evE]
    simp only [evEs, hc, Option.bind_some, Option.map_some, m_cons, m_nil, rd_d, List.nil_append, all_bls]
  have e3 : evE (callF P (k + 1)) (.call g (.cons (.var 0) (.cons (.var 1) (.cons (.var 2) (.nil))))) [some (.d d), some (.d (.int lo)), some (.d (.int hi)), some (.d (.fn m)), none] S = some (.d (.bl (decide (lo ≤ ds.length) && decide ((ds.length : Int) ≤ hi))), S) := by
    simp [evSs, evS, evE, evEs, evZ, evO, evI, evT, evTo, rd_d, fz_d, b_add, b_sub, b_mul, b_div, b_mod, b_p18, b_p8, b_p7, b_p6, c_lt, c_le, c_gt, c_ge, c_eq, c_ne, c_eqs, c_nes, c_nes0, c_nes1, c_eqs0, c_eqs1, l_t, l_l, bi_i, bi_max, bi_min, bi_tl, bi_tt, ix_l, ix_t, m_nil, m_cons, at0, at1, at2, flatD, seqOf, isNonW, fin, evX, e]
  rw [evE, e3]
  simp only [Option.bind_some]
  cases hb : (decide (lo ≤ ds.length) && decide ((ds.length : Int) ≤ hi)) with
  | true => simp only [e2, Bool.true_and]
  | false => simp only [Bool.false_and]
/-- each is less than the one behind it -/
def Asc (ns : List Int) : Prop := ∀ (i : Nat) a b, ns[i]? = some a → ns[i + 1]? = some b → a < b
theorem ascending_ok {d : D} {ns : List Int} (h : P f = some ⟨1, 2, B_is_ascending⟩) (hd : Sq d (ns.map .int)) (hl : ns.length ≤ 1000000) (ha : Asc ns) : callF P (k + 1) f [.d d] S = some (.bl true, S) := by
  rw [callF_b h rfl (by decide)]
  show (evSs (callF P k) B_is_ascending [some (.d d), none] S).bind _ = _
  have el : evE (callF P k) (.bin .sub (.bi .len (.cons (.var 0) (.nil))) (.cst (.int 1))) [some (.d d), none] S = some (.d (.int ((ns.length : Int) - 1)), S) := by
    rcases hd with rfl | rfl <;> simp [evSs, evS, evE, evEs, evZ, evO, evI, evT, evTo, rd_d, fz_d, b_add, b_sub, b_mul, b_div, b_mod, b_p18, b_p8, b_p7, b_p6, c_lt, c_le, c_gt, c_ge, c_eq, c_ne, c_eqs, c_nes, c_nes0, c_nes1, c_eqs0, c_eqs1, l_t, l_l, bi_i, bi_max, bi_min, bi_tl, bi_tt, ix_l, ix_t, m_nil, m_cons, at0, at1, at2, flatD, seqOf, isNonW, fin, evX]
  have hi := x_r1 el (by omega) (by omega)
  have ex : ∀ (ρ : En), ρ[0]? = some (some (.d d)) → ∀ (j : Nat) a e', ns[j]? = some a → evE (callF P k) e' ρ S = some (.d (.int j), S) → evE (callF P k) (.ix (.var 0) e') ρ S = some (.d (.int a), S) := by
    intro ρ h0 j a e' hj he
    have : L2.atI (ns.map D.int) (j : Int) = some (.int a) := L2.atI_nat (by simp [hj])
    rcases hd with rfl | rfl <;> simp [evE, h0, he, rd_d, ix_l, ix_t, this]
  have c1 := compL_map (f := fun d' S => (asgn (.name 1) d' (wipeE [some (.d d), none] [1])).bind fun ρ' => (evTo (callF P k) .none ρ' S).bind fun q => if q.1 = true then (evE (callF P k) (.cmp .lt (.ix (.var 0) (.var 1)) (.ix (.var 0) (.bin .add (.var 1) (.cst (.int 1))))) ρ' q.2).bind fun w => (fzW w.1 w.2).map fun z => (some z.1, z.2) else some (none, q.2))
    (g := fun _ => .bl true) (S := S) (ds := rangeD 0 ((ns.length : Int) - 1).toNat) (acc := []) (fun x hx => by
      obtain ⟨j, hj⟩ := List.mem_iff_getElem?.mp hx
      obtain ⟨hj1, rfl⟩ := rangeD_get hj
      have l1 : j < ns.length := by omega
      have l2 : j + 1 < ns.length := by omega
      have e1 : ns[j]? = some ns[j] := List.getElem?_eq_getElem l1
      have e2 : ns[j + 1]? = some ns[j + 1] := List.getElem?_eq_getElem l2
      have lt := ha j _ _ e1 e2
      have q1 := ex [some (.d d), some (.d (.int (0 + (j : Int))))] rfl j _ (.var 1) e1 (by simp [evSs, evS, evE, evEs, evZ, evO, evI, evT, evTo, rd_d, fz_d, b_add, b_sub, b_mul, b_div, b_mod, b_p18, b_p8, b_p7, b_p6, c_lt, c_le, c_gt, c_ge, c_eq, c_ne, c_eqs, c_nes, c_nes0, c_nes1, c_eqs0, c_eqs1, l_t, l_l, bi_i, bi_max, bi_min, bi_tl, bi_tt, ix_l, ix_t, m_nil, m_cons, at0, at1, at2, flatD, seqOf, isNonW, fin, evX])
      have q2 := ex [some (.d d), some (.d (.int (0 + (j : Int))))] rfl (j + 1) _ (.bin .add (.var 1) (.cst (.int 1))) e2 (by simp [evSs, evS, evE, evEs, evZ, evO, evI, evT, evTo, rd_d, fz_d, b_add, b_sub, b_mul, b_div, b_mod, b_p18, b_p8, b_p7, b_p6, c_lt, c_le, c_gt, c_ge, c_eq, c_ne, c_eqs, c_nes, c_nes0, c_nes1, c_eqs0, c_eqs1, l_t, l_l, bi_i, bi_max, bi_min, bi_tl, bi_tt, ix_l, ix_t, m_nil, m_cons, at0, at1, at2, flatD, seqOf, isNonW, fin, evX])
      simp only [wipeE, asgn, List.set_cons_succ, List.set_cons_zero, List.length_cons, List.length_nil, Nat.lt_add_one, if_true, Option.bind_some, evTo]
      rw [evE]
      simp only [q1, q2, Option.bind_some, rd_d, c_lt, Option.map_some, fz_d, decide_eq_true lt])
    (by rw [rangeD_length]; simp [sizeLine_val]; omega)
  have hc := e_comp (c := callF P k) (vs := [1]) (tg := .name 1) (cond := .none) (ρ := [some (.d d), none]) (S := S) (S1 := S) rfl hi c1
  unfold B_is_ascending
  refine rt_fin (ss_rt (x_ret ?_)) rfl
  rw [evE]
  simp only [evEs, hc, Option.bind_some, Option.map_some, m_cons, m_nil, rd_d, List.nil_append]
  have := all_bls (fun _ => true) (rangeD 0 ((ns.length : Int) - 1).toNat)
  simp only [this, Option.map_some]
  simp
end
end Pv

set_option Elab.async false
set_option linter.all false
set_option maxRecDepth 100000
set_option maxHeartbeats 1000000
/-! What the checks of a week mean; the rows of a day. -/
namespace Pv
open PySem L2
/-- is_start: 1 parameters, slots value -/
def B_is_start (i_is_within i_is_word i_is_rows : Nat) : Ss := .cons (.ret (.and (.call i_is_rows (.cons (.var 0) (.cons (.cst (.int 2)) (.cons (.cst (.int 2)) (.nil))))) (.and (.call i_is_within (.cons (.ix (.var 0) (.cst (.int 0))) (.cons (.cst (.int 0)) (.cons (.bin .sub (.cst (.int 86400)) (.cst (.int 1))) (.nil))))) (.call i_is_word (.cons (.ix (.var 0) (.cst (.int 1))) (.nil)))))) (.nil)
/-- is_day: 1 parameters, slots value starts pair -/
def B_is_day (i_is_rows_of i_is_ascending i_is_start : Nat) : Ss := .cons (.ifs (.not (.val (.call i_is_rows_of (.cons (.var 0) (.cons (.cst (.int 1)) (.cons (.cst (.int 8)) (.cons (.fnv i_is_start) (.nil)))))))) (.cons (.ret (.cst (.bl false))) (.nil)) (.nil)) (.cons (.asg (.name 1) (.comp [2] (.name 2) (.seq (.var 0)) (.none) (.ix (.var 2) (.cst (.int 0))))) (.cons (.ret (.and (.cmp .eq (.ix (.var 1) (.cst (.int 0))) (.cst (.int 0))) (.call i_is_ascending (.cons (.var 1) (.nil))))) (.nil)))
/-- is_feast: 1 parameters, slots value -/
def B_is_feast (i_is_within : Nat) : Ss := .cons (.ret (.call i_is_within (.cons (.var 0) (.cons (.cst (.int 0)) (.cons (.cst (.int 1000)) (.nil)))))) (.nil)
/-- is_week: 1 parameters, slots value days feasts -/
def B_is_week (i_is_rows i_is_rows_of i_is_ascending i_is_day i_is_feast : Nat) : Ss := .cons (.ifs (.not (.val (.call i_is_rows (.cons (.var 0) (.cons (.cst (.int 2)) (.cons (.cst (.int 2)) (.nil))))))) (.cons (.ret (.cst (.bl false))) (.nil)) (.nil)) (.cons (.asg (.tup (.tcons (.name 1) (.tcons (.name 2) (.tnil)))) (.var 0)) (.cons (.ifs (.not (.val (.call i_is_rows_of (.cons (.var 1) (.cons (.cst (.int 8)) (.cons (.cst (.int 8)) (.cons (.fnv i_is_day) (.nil)))))))) (.cons (.ret (.cst (.bl false))) (.nil)) (.nil)) (.cons (.ret (.and (.call i_is_rows_of (.cons (.var 2) (.cons (.cst (.int 0)) (.cons (.cst (.int 20)) (.cons (.fnv i_is_feast) (.nil)))))) (.call i_is_ascending (.cons (.var 2) (.nil))))) (.nil))))
/-- day_of: 2 parameters, slots week number days feasts -/
def B_day_of : Ss := .cons (.asg (.tup (.tcons (.name 2) (.tcons (.name 3) (.tnil)))) (.var 0)) (.cons (.ret (.ite (.val (.cmp .inn (.var 1) (.var 3))) (.ix (.var 2) (.cst (.int 7))) (.ix (.var 2) (.bin .mod (.var 1) (.cst (.int 7)))))) (.nil))
/-- _law_day_row: 2 parameters, slots week day -/
def B_law_day_row : Ss := .cons (.ret (.ix (.ix (.var 0) (.cst (.int 0))) (.ite (.val (.cmp .inn (.var 1) (.ix (.var 0) (.cst (.int 1))))) (.cst (.int 7)) (.bin .sub (.var 1) (.bin .mul (.bin .div (.var 1) (.cst (.int 7))) (.cst (.int 7))))))) (.nil)
section
variable {P : Nat → Option Fn} {k f g : Nat} {S : Store}
/-- a word of one to eight small letters -/
def wordB (w : Str) : Bool := (decide (w.length ≤ 8) && decide (1 ≤ w.length)) && (Txt.isascii w && (Txt.isalpha w && Txt.islower w))
theorem word_ok {w : Str} (h : P f = some ⟨1, 1, B_is_word⟩) (hw : wordB w = true) : callF P (k + 1) f [.d (.str w)] S = some (.bl true, S) := by
  simp only [wordB, Bool.and_eq_true, decide_eq_true_eq] at hw
  obtain ⟨⟨h8, h1⟩, ha, hb, hc⟩ := hw
  rw [callF_b h rfl (by decide)]
  show (evSs (callF P k) B_is_word [some (.d (.str w))] S).bind _ = _
  have hl : biRun .len [.str w] = some (.int w.length) := l_s (by rw [sizeLine_val]; omega)
  have q1 : (1 : Int) ≤ (w.length : Int) := by omega
  have q8 : (w.length : Int) ≤ 8 := by omega
  simp [B_is_word, evSs, evS, evE, evEs, evZ, evO, evI, evT, evTo, rd_d, fz_d, b_add, b_sub, b_mul, b_div, b_mod, b_p18, b_p8, b_p7, b_p6, c_lt, c_le, c_gt, c_ge, c_eq, c_ne, c_eqs, c_nes, c_nes0, c_nes1, c_eqs0, c_eqs1, l_t, l_l, bi_i, bi_max, bi_min, bi_tl, bi_tt, ix_l, ix_t, m_nil, m_cons, at0, at1, at2, flatD, seqOf, isNonW, fin, evX, isi1, tyD, kB13, hl, q1, q8, meRun0, ha, hb, hc]
/-- a comprehension, item by item -/
theorem compL_rel {f : D → Store → Option (Option D × Store)} {S : Store} : ∀ {ys ds acc : List D}, All2 (fun y d => f d S = some (some y, S)) ys ds → acc.length + ds.length ≤ sizeLine → compL f ds S acc = some (acc ++ ys, S)
  | _, _, acc, .nil, _ => by simp [compL]
  | y :: ys, d :: ds, acc, .cons h t, hl => by
    have hl' : acc.length < sizeLine := by simp at hl; omega
    have ih := compL_rel (acc := acc ++ [y]) t (by simp at hl ⊢; omega)
    simp only [compL, h, Option.bind_some, if_pos hl', ih]
    simp
theorem All2.mapL {α β γ : Type} {R : α → β → Prop} {R' : γ → α → Prop} {g : β → γ} (h : ∀ a b, R a b → R' (g b) a) : ∀ {as : List α} {bs : List β}, All2 R as bs → All2 R' (bs.map g) as
  | _, _, .nil => .nil
  | _, _, .cons x t => .cons (h _ _ x) (All2.mapL h t)
theorem All2.mem {α β : Type} {R : α → β → Prop} : ∀ {as : List α} {bs : List β} {a : α}, All2 R as bs → a ∈ as → ∃ b ∈ bs, R a b
  | _, _, _, .nil, h => by simp at h
  | _, _, _, .cons x t, h => by
    rcases List.mem_cons.mp h with rfl | h
    · exact ⟨_, List.mem_cons_self, x⟩
    · obtain ⟨b, hb, r⟩ := All2.mem t h
      exact ⟨b, List.mem_cons_of_mem _ hb, r⟩
theorem All2.cases2 {α β γ : Type} {R : α → β → Prop} {g : γ → β} {as : List α} {cs : List γ} (h : All2 R as (cs.map g)) : All2 (fun a c => R a (g c)) as cs := by
  induction cs generalizing as with
  | nil => cases h; exact .nil
  | cons c cs ih => cases h with | cons x t => exact .cons x (ih t)
/-- a start and its word -/
abbrev St := Int × Str
def stD (p : St) : D := .tup [.int p.1, .str p.2]
def dayD (r : List St) : D := .tup (r.map stD)
def weekD (days : List (List St)) (feasts : List Int) : D := .tup [.tup (days.map dayD), .tup (feasts.map .int)]
/-- lists or tuples at each level -/
def IsSt (y : D) (p : St) : Prop := Sq y [.int p.1, .str p.2]
def IsDay (x : D) (r : List St) : Prop := ∃ rs, Sq x rs ∧ All2 IsSt rs r
def IsDays (x : D) (days : List (List St)) : Prop := ∃ xs, Sq x xs ∧ All2 IsDay xs days
def IsWeek (d : D) (days : List (List St)) (feasts : List Int) : Prop := ∃ a b, Sq d [a, b] ∧ IsDays a days ∧ Sq b (feasts.map .int)
theorem Lk_flat {m : Nat} {d' d : D} (h : Lk m d' d) (hf : flatD d = true) : d' = d := by
  cases m with
  | zero => simpa only [Lk] using h
  | succ m => cases d <;> first | (simp [flatD] at hf; done) | simpa only [Lk] using h
theorem All2_flat {m : Nat} : ∀ {ds' ds : List D}, All2 (Lk m) ds' ds → (∀ d ∈ ds, flatD d = true) → ds' = ds
  | _, _, .nil, _ => rfl
  | _, _, .cons x t, h => by rw [Lk_flat x (h _ List.mem_cons_self), All2_flat t fun d hd => h d (List.mem_cons_of_mem _ hd)]
theorem Lk_tup {m : Nat} {d' : D} {ds : List D} (h : Lk (m + 1) d' (.tup ds)) : ∃ ds', Sq d' ds' ∧ All2 (Lk m) ds' ds := by
  simp only [Lk] at h
  obtain ⟨ds', q, a⟩ := h
  exact ⟨ds', q, a⟩
theorem IsSt_of {m : Nat} {d' : D} {p : St} (h : Lk (m + 1) d' (stD p)) : IsSt d' p := by
  obtain ⟨ds', q, a⟩ := Lk_tup h
  rw [All2_flat a (by simp [flatD])] at q
  exact q
theorem IsDay_of {m : Nat} {d' : D} {r : List St} (h : Lk (m + 2) d' (dayD r)) : IsDay d' r := by
  obtain ⟨ds', q, a⟩ := Lk_tup h
  exact ⟨ds', q, (All2.cases2 a).imp fun _ _ => IsSt_of⟩
theorem IsWeek_of {m : Nat} {d' : D} {days : List (List St)} {feasts : List Int} (h : Lk (m + 4) d' (weekD days feasts)) : IsWeek d' days feasts := by
  obtain ⟨ds', q, a⟩ := Lk_tup h
  cases a with
  | cons x t => cases t with
    | cons y t => cases t with
      | nil =>
        obtain ⟨xs, q1, a1⟩ := Lk_tup x
        obtain ⟨ys, q2, a2⟩ := Lk_tup y
        rw [All2_flat a2 (by intro d hd; obtain ⟨i, _, rfl⟩ := List.mem_map.mp hd; rfl)] at q2
        exact ⟨_, _, q, ⟨xs, q1, (All2.cases2 a1).imp fun _ _ => IsDay_of⟩, q2⟩
theorem IsWeek_self {days : List (List St)} {feasts : List Int} : IsWeek (weekD days feasts) days feasts := IsWeek_of (m := 0) (Lk.refl _ _)
/-- what a week keeps -/
structure StOk (p : St) : Prop where
  lo : 0 ≤ p.1
  hi : p.1 < 86400
  word : wordB p.2 = true
structure DayOk (r : List St) : Prop where
  len : r.length ≤ 8
  head : ∃ w t, r = (0, w) :: t
  asc : Asc (r.map Prod.fst)
  each : ∀ p ∈ r, StOk p
structure WeekOk (days : List (List St)) (feasts : List Int) : Prop where
  len : days.length = 8
  each : ∀ r ∈ days, DayOk r
  flen : feasts.length ≤ 20
  fasc : Asc feasts
  feach : ∀ x ∈ feasts, 0 ≤ x ∧ x ≤ 1000
theorem st_ok {iw ii id_ ir : Nat} {y : D} {p : St} (h : P f = some ⟨1, 1, B_is_start iw id_ ir⟩) (h1 : P iw = some ⟨3, 3, B_is_within ii⟩) (h2 : P ii = some ⟨1, 1, B_is_integer⟩) (h3 : P id_ = some ⟨1, 1, B_is_word⟩) (h4 : P ir = some ⟨3, 3, B_is_rows⟩)
    (hy : IsSt y p) (hp : StOk p) : callF P (k + 3) f [.d y] S = some (.bl true, S) := by
  have e1 := rows_ok (k := k + 1) (S := S) (lo := 2) (hi := 2) h4 hy
  have e2 := within_ok (k := k) (S := S) (d := .int p.1) (lo := 0) (hi := 86399) h1 h2 rfl
  have e3 := word_ok (k := k + 1) (S := S) h3 hp.word
  have q0 := hp.lo
  have q1 : p.1 ≤ 86399 := by have := hp.hi; omega
  rw [callF_b h rfl (by decide)]
  show (evSs (callF P (k + 2)) (B_is_start iw id_ ir) [some (.d y)] S).bind _ = _
  have e1' : callF P (k + 2) ir [.d y, .d (.int 2), .d (.int 2)] S = some (.bl true, S) := by rw [e1]; simp
  have e2' : callF P (k + 2) iw [.d (.int p.1), .d (.int 0), .d (.int 86399)] S = some (.bl true, S) := by rw [e2]; simp [isW, q0, q1]
  rcases hy with rfl | rfl <;> simp [B_is_start, evSs, evS, evE, evEs, evZ, evO, evI, evT, evTo, rd_d, fz_d, b_add, b_sub, b_mul, b_div, b_mod, b_p18, b_p8, b_p7, b_p6, c_lt, c_le, c_gt, c_ge, c_eq, c_ne, c_eqs, c_nes, c_nes0, c_nes1, c_eqs0, c_eqs1, l_t, l_l, bi_i, bi_max, bi_min, bi_tl, bi_tt, ix_l, ix_t, m_nil, m_cons, at0, at1, at2, flatD, seqOf, isNonW, fin, evX, e1', e2', e3]
theorem day_ok {iw ii id_ ir ro ia is_ : Nat} {x : D} {r : List St} (h : P f = some ⟨1, 3, B_is_day ro ia is_⟩) (h5 : P ro = some ⟨4, 5, B_is_rows_of ir⟩) (h6 : P ia = some ⟨1, 2, B_is_ascending⟩) (h7 : P is_ = some ⟨1, 1, B_is_start iw id_ ir⟩)
    (h1 : P iw = some ⟨3, 3, B_is_within ii⟩) (h2 : P ii = some ⟨1, 1, B_is_integer⟩) (h3 : P id_ = some ⟨1, 1, B_is_word⟩) (h4 : P ir = some ⟨3, 3, B_is_rows⟩) (hx : IsDay x r) (hr : DayOk r) : callF P (k + 5) f [.d x] S = some (.bl true, S) := by
  obtain ⟨rs, sq, a⟩ := hx
  have len := a.length
  have hl := hr.len
  obtain ⟨w, t, hd⟩ := hr.head
  have hpos : 1 ≤ rs.length := by rw [len, hd]; simp
  have e1 := rows_of_ok (k := k + 2) (S := S) (lo := 1) (hi := 8) (m := is_) (p := fun _ => true) h5 h4 sq (by rw [sizeLine_val]; omega) (fun y hy => by
    obtain ⟨p, hp, q⟩ := a.mem hy
    exact st_ok (k := k) h7 h1 h2 h3 h4 q (hr.each p hp))
  have e1' : callF P (k + 4) ro [.d x, .d (.int 1), .d (.int 8), .d (.fn is_)] S = some (.bl true, S) := by
    have q1 : (rs.length : Int) ≤ 8 := by omega
    have q2 : (1 : Int) ≤ rs.length := by omega
    rw [e1, decide_eq_true q1, decide_eq_true q2]
    simp
  rw [callF_b h rfl (by decide)]
  show (evSs (callF P (k + 4)) (B_is_day ro ia is_) [some (.d x), none, none] S).bind _ = _
  have c1 := compL_rel (f := fun d' S => (asgn (.name 2) d' (wipeE [some (.d x), none, none] [2])).bind fun ρ' => (evTo (callF P (k + 4)) .none ρ' S).bind fun q => if q.1 = true then (evE (callF P (k + 4)) (.ix (.var 2) (.cst (.int 0))) ρ' q.2).bind fun w => (fzW w.1 w.2).map fun z => (some z.1, z.2) else some (none, q.2))
    (S := S) (ys := r.map fun p => .int p.1) (ds := rs) (acc := []) (a.mapL fun y p q => by
      rcases q with rfl | rfl <;> simp [wipeE, asgn, evSs, evS, evE, evEs, evZ, evO, evI, evT, evTo, rd_d, fz_d, b_add, b_sub, b_mul, b_div, b_mod, b_p18, b_p8, b_p7, b_p6, c_lt, c_le, c_gt, c_ge, c_eq, c_ne, c_eqs, c_nes, c_nes0, c_nes1, c_eqs0, c_eqs1, l_t, l_l, bi_i, bi_max, bi_min, bi_tl, bi_tt, ix_l, ix_t, m_nil, m_cons, at0, at1, at2, flatD, seqOf, isNonW, fin, evX]) (by simp [sizeLine_val]; omega)
  have hc := e_comp (c := callF P (k + 4)) (vs := [2]) (tg := .name 2) (it := .seq (.var 0)) (cond := .none) (ρ := [some (.d x), none, none]) (S := S) (S1 := S) (ds := rs) rfl (by rcases sq with rfl | rfl <;> simp [evSs, evS, evE, evEs, evZ, evO, evI, evT, evTo, rd_d, fz_d, b_add, b_sub, b_mul, b_div, b_mod, b_p18, b_p8, b_p7, b_p6, c_lt, c_le, c_gt, c_ge, c_eq, c_ne, c_eqs, c_nes, c_nes0, c_nes1, c_eqs0, c_eqs1, l_t, l_l, bi_i, bi_max, bi_min, bi_tl, bi_tt, ix_l, ix_t, m_nil, m_cons, at0, at1, at2, flatD, seqOf, isNonW, fin, evX]) c1
  have em : (r.map fun p => D.int p.1) = (r.map Prod.fst).map .int := by simp
  have e2 := ascending_ok (k := k + 3) (S := S) (d := .lst (r.map fun p => .int p.1)) (ns := r.map Prod.fst) h6 (.inl (by rw [em])) (by simp; omega) hr.asc
  simp only [List.nil_append] at hc
  have hz : L2.atI (r.map fun p => D.int p.1) 0 = some (.int 0) := by rw [hd]; exact at0
  have s1 : evS (callF P (k + 4)) (.asg (.name 1) (.comp [2] (.name 2) (.seq (.var 0)) (.none) (.ix (.var 2) (.cst (.int 0))))) [some (.d x), none, none] S = some (.nx [some (.d x), some (.d (.lst (r.map fun p => .int p.1))), none] S) := by
    rw [x_asg hc (by simp)]
    rfl
  unfold B_is_day
  refine rt_fin ?_ rfl
  rw [ss_nx (x_iff (S1 := S) (by simp [evSs, evS, evE, evEs, evZ, evO, evI, evT, evTo, rd_d, fz_d, b_add, b_sub, b_mul, b_div, b_mod, b_p18, b_p8, b_p7, b_p6, c_lt, c_le, c_gt, c_ge, c_eq, c_ne, c_eqs, c_nes, c_nes0, c_nes1, c_eqs0, c_eqs1, l_t, l_l, bi_i, bi_max, bi_min, bi_tl, bi_tt, ix_l, ix_t, m_nil, m_cons, at0, at1, at2, flatD, seqOf, isNonW, fin, evX, e1']) ss_0), ss_nx s1]
  simp [evSs, evS, evE, evEs, evZ, evO, evI, evT, evTo, rd_d, fz_d, b_add, b_sub, b_mul, b_div, b_mod, b_p18, b_p8, b_p7, b_p6, c_lt, c_le, c_gt, c_ge, c_eq, c_ne, c_eqs, c_nes, c_nes0, c_nes1, c_eqs0, c_eqs1, l_t, l_l, bi_i, bi_max, bi_min, bi_tl, bi_tt, ix_l, ix_t, m_nil, m_cons, at0, at1, at2, flatD, seqOf, isNonW, fin, evX, hz, e2]
theorem feast_ok {iw ii : Nat} {i : Int} (h : P f = some ⟨1, 1, B_is_feast iw⟩) (h1 : P iw = some ⟨3, 3, B_is_within ii⟩) (h2 : P ii = some ⟨1, 1, B_is_integer⟩) (q0 : 0 ≤ i) (q1 : i ≤ 1000) : callF P (k + 3) f [.d (.int i)] S = some (.bl true, S) := by
  have e2 := within_ok (k := k) (S := S) (d := .int i) (lo := 0) (hi := 1000) h1 h2 rfl
  have e2' : callF P (k + 2) iw [.d (.int i), .d (.int 0), .d (.int 1000)] S = some (.bl true, S) := by rw [e2]; simp [isW, q0, q1]
  rw [callF_b h rfl (by decide)]
  show (evSs (callF P (k + 2)) (B_is_feast iw) [some (.d (.int i))] S).bind _ = _
  simp [B_is_feast, evSs, evS, evE, evEs, evZ, evO, evI, evT, evTo, rd_d, fz_d, b_add, b_sub, b_mul, b_div, b_mod, b_p18, b_p8, b_p7, b_p6, c_lt, c_le, c_gt, c_ge, c_eq, c_ne, c_eqs, c_nes, c_nes0, c_nes1, c_eqs0, c_eqs1, l_t, l_l, bi_i, bi_max, bi_min, bi_tl, bi_tt, ix_l, ix_t, m_nil, m_cons, at0, at1, at2, flatD, seqOf, isNonW, fin, evX, e2']
theorem week_ok {iw ii id_ ir ro ia is_ iy ife : Nat} {d : D} {days : List (List St)} {feasts : List Int} (h : P f = some ⟨1, 3, B_is_week ir ro ia iy ife⟩) (h8 : P iy = some ⟨1, 3, B_is_day ro ia is_⟩) (h9 : P ife = some ⟨1, 1, B_is_feast iw⟩)
    (h5 : P ro = some ⟨4, 5, B_is_rows_of ir⟩) (h6 : P ia = some ⟨1, 2, B_is_ascending⟩) (h7 : P is_ = some ⟨1, 1, B_is_start iw id_ ir⟩)
    (h1 : P iw = some ⟨3, 3, B_is_within ii⟩) (h2 : P ii = some ⟨1, 1, B_is_integer⟩) (h3 : P id_ = some ⟨1, 1, B_is_word⟩) (h4 : P ir = some ⟨3, 3, B_is_rows⟩) (hx : IsWeek d days feasts) (hr : WeekOk days feasts) : callF P (k + 7) f [.d d] S = some (.bl true, S) := by
  obtain ⟨a, b, sq, ⟨xs, sa, a2⟩, sb⟩ := hx
  have len := a2.length
  have hl := hr.len
  have hf := hr.flen
  have e1 := rows_ok (k := k + 5) (S := S) (lo := 2) (hi := 2) h4 sq
  have e1' : callF P (k + 6) ir [.d d, .d (.int 2), .d (.int 2)] S = some (.bl true, S) := by rw [e1]; simp
  have e2 := rows_of_ok (k := k + 4) (S := S) (lo := 8) (hi := 8) (m := iy) (p := fun _ => true) h5 h4 sa (by rw [sizeLine_val]; omega) (fun y hy => by
    obtain ⟨p, hp, q⟩ := a2.mem hy
    exact day_ok (k := k) h8 h5 h6 h7 h1 h2 h3 h4 q (hr.each p hp))
  have e2' : callF P (k + 6) ro [.d a, .d (.int 8), .d (.int 8), .d (.fn iy)] S = some (.bl true, S) := by
    have q1 : (xs.length : Int) ≤ 8 := by omega
    have q2 : (8 : Int) ≤ xs.length := by omega
    rw [e2, decide_eq_true q1, decide_eq_true q2]
    simp
  have e3 := rows_of_ok (k := k + 4) (S := S) (lo := 0) (hi := 20) (m := ife) (p := fun _ => true) h5 h4 sb (by simp [sizeLine_val]; omega) (fun y hy => by
    obtain ⟨i, hi, rfl⟩ := List.mem_map.mp hy
    exact feast_ok (k := k + 2) h9 h1 h2 (hr.feach i hi).1 (hr.feach i hi).2)
  have e3' : callF P (k + 6) ro [.d b, .d (.int 0), .d (.int 20), .d (.fn ife)] S = some (.bl true, S) := by
    have q1 : ((feasts.map D.int).length : Int) ≤ 20 := by simp; omega
    have q2 : (0 : Int) ≤ (feasts.map D.int).length := by omega
    rw [e3, decide_eq_true q1, decide_eq_true q2]
    simp
  have e4 := ascending_ok (k := k + 5) (S := S) (d := b) (ns := feasts) h6 sb (by omega) hr.fasc
  rw [callF_b h rfl (by decide)]
  show (evSs (callF P (k + 6)) (B_is_week ir ro ia iy ife) [some (.d d), none, none] S).bind _ = _
  have s1 : evS (callF P (k + 6)) (.asg (.tup (.tcons (.name 1) (.tcons (.name 2) (.tnil)))) (.var 0)) [some (.d d), none, none] S = some (.nx [some (.d d), some (.d a), some (.d b)] S) := by
    rcases sq with rfl | rfl <;> rfl
  unfold B_is_week
  refine rt_fin ?_ rfl
  rw [ss_nx (x_iff (S1 := S) (by simp [evSs, evS, evE, evEs, evZ, evO, evI, evT, evTo, rd_d, fz_d, b_add, b_sub, b_mul, b_div, b_mod, b_p18, b_p8, b_p7, b_p6, c_lt, c_le, c_gt, c_ge, c_eq, c_ne, c_eqs, c_nes, c_nes0, c_nes1, c_eqs0, c_eqs1, l_t, l_l, bi_i, bi_max, bi_min, bi_tl, bi_tt, ix_l, ix_t, m_nil, m_cons, at0, at1, at2, flatD, seqOf, isNonW, fin, evX, e1']) ss_0), ss_nx s1, ss_nx (x_iff (S1 := S) (by simp [evSs, evS, evE, evEs, evZ, evO, evI, evT, evTo, rd_d, fz_d, b_add, b_sub, b_mul, b_div, b_mod, b_p18, b_p8, b_p7, b_p6, c_lt, c_le, c_gt, c_ge, c_eq, c_ne, c_eqs, c_nes, c_nes0, c_nes1, c_eqs0, c_eqs1, l_t, l_l, bi_i, bi_max, bi_min, bi_tl, bi_tt, ix_l, ix_t, m_nil, m_cons, at0, at1, at2, flatD, seqOf, isNonW, fin, evX, e2']) ss_0)]
  simp [evSs, evS, evE, evEs, evZ, evO, evI, evT, evTo, rd_d, fz_d, b_add, b_sub, b_mul, b_div, b_mod, b_p18, b_p8, b_p7, b_p6, c_lt, c_le, c_gt, c_ge, c_eq, c_ne, c_eqs, c_nes, c_nes0, c_nes1, c_eqs0, c_eqs1, l_t, l_l, bi_i, bi_max, bi_min, bi_tl, bi_tt, ix_l, ix_t, m_nil, m_cons, at0, at1, at2, flatD, seqOf, isNonW, fin, evX, e3', e4]
end
end Pv

set_option Elab.async false
set_option linter.all false
set_option maxRecDepth 100000
set_option maxHeartbeats 1000000
/-! The day of a number, the band of a second. -/
namespace Pv
open PySem L2
/-- band_at: 2 parameters, slots week second found start name -/
def B_band_at (i_day_of : Nat) : Ss := .cons (.asg (.name 2) (.cst .non)) (.cons (.forS (.tup (.tcons (.name 3) (.tcons (.name 4) (.tnil)))) (.seq (.call i_day_of (.cons (.var 0) (.cons (.bin .div (.var 1) (.cst (.int 86400))) (.nil))))) (.cons (.ifs (.val (.cmp .le (.var 3) (.bin .mod (.var 1) (.cst (.int 86400))))) (.cons (.asg (.name 2) (.var 4)) (.nil)) (.nil)) (.nil))) (.cons (.ret (.var 2)) (.nil)))
/-- band: 2 parameters, slots week second -/
def B_band (i_need i_is_second i_is_week i_band_at : Nat) : Ss := .cons (.dropX (.call i_need (.cons (.call i_is_week (.cons (.var 0) (.nil))) (.cons (.cst (.int 0)) (.nil))))) (.cons (.dropX (.call i_need (.cons (.call i_is_second (.cons (.var 1) (.nil))) (.cons (.cst (.int 1)) (.nil))))) (.cons (.ret (.call i_band_at (.cons (.var 0) (.cons (.var 1) (.nil))))) (.nil)))
/-- _law_band: 2 parameters, slots week second made start word -/
def B_law_band (i_law_day_row : Nat) : Ss := .cons (.asg (.name 2) (.cst .non)) (.cons (.forS (.tup (.tcons (.name 3) (.tcons (.name 4) (.tnil)))) (.seq (.call i_law_day_row (.cons (.var 0) (.cons (.bin .div (.var 1) (.cst (.int 86400))) (.nil))))) (.cons (.ifs (.val (.cmp .le (.var 3) (.bin .sub (.var 1) (.bin .mul (.bin .div (.var 1) (.cst (.int 86400))) (.cst (.int 86400)))))) (.cons (.asg (.name 2) (.var 4)) (.nil)) (.nil)) (.nil))) (.cons (.ret (.var 2)) (.nil)))
section
variable {P : Nat → Option Fn} {k f g : Nat} {S : Store}
theorem getD_at {α : Type} {l : List α} {j : Nat} {d : α} (h : j < l.length) : l[j]? = some (l.getD j d) := by
  simp [List.getD_eq_getElem?_getD, h]
def rowAt (days : List (List St)) (feasts : List Int) (n : Int) : List St := if n ∈ feasts then days.getD 7 [] else days.getD (n % 7).toNat []
theorem rowAt_mem {days : List (List St)} {feasts : List Int} {n : Int} (h : days.length = 8) : rowAt days feasts n ∈ days := by
  have h0 : 0 ≤ n % 7 := Int.emod_nonneg _ (by decide)
  have h1 : n % 7 < 7 := Int.emod_lt_of_pos _ (by decide)
  have : ∀ j, j < days.length → days.getD j [] ∈ days := fun j hj => by
    exact List.mem_of_getElem? (getD_at hj)
  unfold rowAt
  split
  · exact this _ (by omega)
  · exact this _ (by omega)
theorem inDs_ints {n : Int} : ∀ {fs : List Int}, inDs (.int n) (fs.map .int) = decide (n ∈ fs)
  | [] => rfl
  | x :: fs => by
    have ih := inDs_ints (n := n) (fs := fs)
    unfold inDs at ih ⊢
    rw [List.map_cons, List.any_cons, ih]
    by_cases h : x = n
    · subst h; simp [inD1]
    · have : ¬ n = x := fun e => h e.symm
      simp [inD1, h, this]
theorem cIn_ints {n : Int} {b : D} {fs : List Int} (h : Sq b (fs.map .int)) : cRun .inn (.int n) b = some (decide (n ∈ fs)) := by
  have : (fs.map D.int).all flatD = true := by
    rw [List.all_eq_true]
    intro d hd
    obtain ⟨i, _, rfl⟩ := List.mem_map.mp hd
    rfl
  rcases h with rfl | rfl <;> simp only [cRun, cIn, this, flatD, Bool.and_self, if_true, inDs_ints]
theorem ix_sq {x d : D} {ds : List D} {j : Nat} (h : Sq x ds) (e : ds[j]? = some d) : ixRun x (.int j) = some d := by
  rcases h with rfl | rfl
  · exact L2.atI_nat e
  · exact L2.atI_nat e
theorem ix_days {x : D} {days : List (List St)} {j : Nat} (h : IsDays x days) (hj : j < days.length) : ∃ y, ixRun x (.int j) = some y ∧ IsDay y (days.getD j []) := by
  obtain ⟨xs, sq, a⟩ := h
  have e : days[j]? = some (days.getD j []) := getD_at hj
  obtain ⟨y, e1, q⟩ := a.get e
  exact ⟨y, ix_sq sq e1, q⟩
theorem day_of_ok {d : D} {days : List (List St)} {feasts : List Int} {n : Int} (h : P f = some ⟨2, 4, B_day_of⟩) (hd : IsWeek d days feasts) (hl : days.length = 8) :
    ∃ x, callF P (k + 1) f [.d d, .d (.int n)] S = some (x, S) ∧ IsDay x (rowAt days feasts n) := by
  obtain ⟨a, b, sq, sa, sb⟩ := hd
  have h0 : 0 ≤ n % 7 := Int.emod_nonneg _ (by decide)
  have h1 : n % 7 < 7 := Int.emod_lt_of_pos _ (by decide)
  have s1 : evS (callF P k) (.asg (.tup (.tcons (.name 2) (.tcons (.name 3) (.tnil)))) (.var 0)) [some (.d d), some (.d (.int n)), none, none] S = some (.nx [some (.d d), some (.d (.int n)), some (.d a), some (.d b)] S) := by
    rcases sq with rfl | rfl <;> rfl
  have hin : cRun .inn (.int n) b = some (decide (n ∈ feasts)) := cIn_ints sb
  obtain ⟨y7, e7, q7⟩ := ix_days (j := 7) sa (by omega)
  obtain ⟨ym, em, qm⟩ := ix_days (j := (n % 7).toNat) sa (by omega)
  have et : ((n % 7).toNat : Int) = n % 7 := by omega
  rw [et] at em
  have e7' : ixRun a (.int 7) = some y7 := e7
  by_cases hm : n ∈ feasts
  · refine ⟨y7, ?_, by rw [rowAt, if_pos hm]; exact q7⟩
    rw [callF_b h rfl (by decide)]
    unfold B_day_of
    refine rt_fin ?_ rfl
    show evSs (callF P k) _ [some (.d d), some (.d (.int n)), none, none] S = _
    rw [ss_nx s1]
    simp [evSs, evS, evE, evT, rd_d, fz_d, hin, hm, e7', flatD]
  · refine ⟨ym, ?_, by rw [rowAt, if_neg hm]; exact qm⟩
    rw [callF_b h rfl (by decide)]
    unfold B_day_of
    refine rt_fin ?_ rfl
    show evSs (callF P k) _ [some (.d d), some (.d (.int n)), none, none] S = _
    rw [ss_nx s1]
    simp [evSs, evS, evE, evT, rd_d, fz_d, hin, hm, em, flatD, b_mod]
theorem law_day_ok {d : D} {days : List (List St)} {feasts : List Int} {n : Int} (h : P f = some ⟨2, 2, B_law_day_row⟩) (hd : IsWeek d days feasts) (hl : days.length = 8) :
    ∃ x, callF P (k + 1) f [.d d, .d (.int n)] S = some (x, S) ∧ IsDay x (rowAt days feasts n) := by
  obtain ⟨a, b, sq, sa, sb⟩ := hd
  have h0 : 0 ≤ n % 7 := Int.emod_nonneg _ (by decide)
  have h1 : n % 7 < 7 := Int.emod_lt_of_pos _ (by decide)
  have hin : cRun .inn (.int n) b = some (decide (n ∈ feasts)) := cIn_ints sb
  have i0 : ixRun d (.int 0) = some a := ix_sq (j := 0) sq rfl
  have i1 : ixRun d (.int 1) = some b := ix_sq (j := 1) sq rfl
  obtain ⟨y7, e7, q7⟩ := ix_days (j := 7) sa (by omega)
  obtain ⟨ym, em, qm⟩ := ix_days (j := (n % 7).toNat) sa (by omega)
  have et : ((n % 7).toNat : Int) = n - n / 7 * 7 := by omega
  rw [et] at em
  have e7' : ixRun a (.int 7) = some y7 := e7
  by_cases hm : n ∈ feasts
  · refine ⟨y7, ?_, by rw [rowAt, if_pos hm]; exact q7⟩
    rw [callF_b h rfl (by decide)]
    unfold B_law_day_row
    refine rt_fin ?_ rfl
    show evSs (callF P k) _ [some (.d d), some (.d (.int n))] S = _
    simp [evSs, evS, evE, evT, rd_d, fz_d, hin, hm, e7', i0, i1, flatD]
  · refine ⟨ym, ?_, by rw [rowAt, if_neg hm]; exact qm⟩
    rw [callF_b h rfl (by decide)]
    unfold B_law_day_row
    refine rt_fin ?_ rfl
    show evSs (callF P k) _ [some (.d d), some (.d (.int n))] S = _
    simp [evSs, evS, evE, evT, rd_d, fz_d, hin, hm, em, i0, i1, flatD, b_sub, b_mul, b_div]
/-- the last start that is no later -/
def bandR (s : Int) : List St → D → D
  | [], b => b
  | p :: t, b => bandR s t (if p.1 ≤ s then .str p.2 else b)
def bandOf (days : List (List St)) (feasts : List Int) (x : Int) : D := bandR (x % 86400) (rowAt days feasts (x / 86400)) .non
theorem x_for' {c : Call} {tg : Tg} {it : It} {body : Ss} {ρ : En} {S S1 : Store} {ds : List D} {r : Option Out} (hi : evI c it ρ S = some (ds, S1)) (h : forL (fun d ρ S => (asgn tg d ρ).bind fun ρ' => evSs c body ρ' S) ds ρ S1 = r) : evS c (.forS tg it body) ρ S = r := by
  simp only [evS, hi, Option.bind_some, h]
theorem asgn_st {y : D} {p : St} {i j : Nat} {ρ : En} (hy : IsSt y p) (hi : i < ρ.length) (hj : j < ρ.length) : asgn (.tup (.tcons (.name i) (.tcons (.name j) (.tnil)))) y ρ = some ((ρ.set i (some (.d (.int p.1)))).set j (some (.d (.str p.2)))) := by
  rcases hy with rfl | rfl <;> simp [asgn, asgns, hi, hj]
theorem band_loop {f : D → En → Store → Option Out} {a0 a1 : Option W} {s : Int} (hf : ∀ y p b v3 v4, IsSt y p → f y [a0, a1, some (.d b), v3, v4] S = some (.nx [a0, a1, some (.d (if p.1 ≤ s then .str p.2 else b)), some (.d (.int p.1)), some (.d (.str p.2))] S)) :
    ∀ {r : List St} {rs : List D} {b : D} {v3 v4 : Option W}, All2 IsSt rs r → ∃ v3' v4', forL f rs [a0, a1, some (.d b), v3, v4] S = some (.nx [a0, a1, some (.d (bandR s r b)), v3', v4'] S)
  | _, _, b, v3, v4, .nil => ⟨v3, v4, rfl⟩
  | _, _, b, v3, v4, .cons x t => by
    obtain ⟨v3', v4', e⟩ := band_loop hf t
    exact ⟨v3', v4', by simp only [forL, hf _ _ _ _ _ x, Option.bind_some]; exact e⟩
theorem seq_day {c : Call} {e : E} {ρ : En} {x : D} {r : List St} (h : evE c e ρ S = some (.d x, S)) (hx : IsDay x r) : ∃ rs, evI c (.seq e) ρ S = some (rs, S) ∧ All2 IsSt rs r := by
  obtain ⟨rs, sq, a⟩ := hx
  refine ⟨rs, ?_, a⟩
  rcases sq with rfl | rfl <;> simp only [evI, h, Option.bind_some]
theorem band_at_ok {d : D} {days : List (List St)} {feasts : List Int} {x : Int} (h : P f = some ⟨2, 5, B_band_at g⟩) (h1 : P g = some ⟨2, 4, B_day_of⟩) (hd : IsWeek d days feasts) (hl : days.length = 8) :
    callF P (k + 2) f [.d d, .d (.int x)] S = some (bandOf days feasts x, S) := by
  obtain ⟨y, e, q⟩ := day_of_ok (k := k) (S := S) (n := x / 86400) h1 hd hl
  rw [callF_b h rfl (by decide)]
  unfold B_band_at
  refine rt_fin ?_ rfl
  show evSs (callF P (k + 1)) _ [some (.d d), some (.d (.int x)), none, none, none] S = _
  rw [ss_nx (ρ' := [some (.d d), some (.d (.int x)), some (.d .non), none, none]) (S' := S) (by rfl)]
  obtain ⟨rs, ei, a⟩ := seq_day (c := callF P (k + 1)) (S := S) (e := .call g (.cons (.var 0) (.cons (.bin .div (.var 1) (.cst (.int 86400))) (.nil)))) (ρ := [some (.d d), some (.d (.int x)), some (.d .non), none, none]) (x := y)
    (by simp [evE, evEs, rd_d, b_div, flatD, e]) q
  obtain ⟨v3, v4, el⟩ := band_loop (f := fun d ρ S => (asgn (.tup (.tcons (.name 3) (.tcons (.name 4) (.tnil)))) d ρ).bind fun ρ' => evSs (callF P (k + 1)) (.cons (.ifs (.val (.cmp .le (.var 3) (.bin .mod (.var 1) (.cst (.int 86400))))) (.cons (.asg (.name 2) (.var 4)) (.nil)) (.nil)) (.nil)) ρ' S)
    (S := S) (a0 := some (.d d)) (a1 := some (.d (.int x))) (s := x % 86400) (b := .non) (v3 := none) (v4 := none) (fun y p b v3 v4 hy => by
      rw [asgn_st hy (by simp) (by simp)]
      by_cases hp : p.1 ≤ x % 86400 <;> simp [evSs, evS, evE, evT, rd_d, b_mod, c_le, flatD, hp]) a
  rw [ss_nx (x_for' ei el)]
  refine ss_rt (x_ret ?_)
  rfl
theorem law_band_ok {d : D} {days : List (List St)} {feasts : List Int} {x : Int} (h : P f = some ⟨2, 5, B_law_band g⟩) (h1 : P g = some ⟨2, 2, B_law_day_row⟩) (hd : IsWeek d days feasts) (hl : days.length = 8) :
    callF P (k + 2) f [.d d, .d (.int x)] S = some (bandOf days feasts x, S) := by
  obtain ⟨y, e, q⟩ := law_day_ok (k := k) (S := S) (n := x / 86400) h1 hd hl
  have em : x - x / 86400 * 86400 = x % 86400 := by omega
  rw [callF_b h rfl (by decide)]
  unfold B_law_band
  refine rt_fin ?_ rfl
  show evSs (callF P (k + 1)) _ [some (.d d), some (.d (.int x)), none, none, none] S = _
  rw [ss_nx (ρ' := [some (.d d), some (.d (.int x)), some (.d .non), none, none]) (S' := S) (by rfl)]
  obtain ⟨rs, ei, a⟩ := seq_day (c := callF P (k + 1)) (S := S) (e := .call g (.cons (.var 0) (.cons (.bin .div (.var 1) (.cst (.int 86400))) (.nil)))) (ρ := [some (.d d), some (.d (.int x)), some (.d .non), none, none]) (x := y)
    (by simp [evE, evEs, rd_d, b_div, flatD, e]) q
  obtain ⟨v3, v4, el⟩ := band_loop (f := fun d ρ S => (asgn (.tup (.tcons (.name 3) (.tcons (.name 4) (.tnil)))) d ρ).bind fun ρ' => evSs (callF P (k + 1)) (.cons (.ifs (.val (.cmp .le (.var 3) (.bin .sub (.var 1) (.bin .mul (.bin .div (.var 1) (.cst (.int 86400))) (.cst (.int 86400)))))) (.cons (.asg (.name 2) (.var 4)) (.nil)) (.nil)) (.nil)) ρ' S)
    (S := S) (a0 := some (.d d)) (a1 := some (.d (.int x))) (s := x % 86400) (b := .non) (v3 := none) (v4 := none) (fun y p b v3 v4 hy => by
      rw [asgn_st hy (by simp) (by simp)]
      by_cases hp : p.1 ≤ x % 86400 <;> simp [evSs, evS, evE, evT, rd_d, b_sub, b_mul, b_div, c_le, flatD, em, hp]) a
  rw [ss_nx (x_for' ei el)]
  refine ss_rt (x_ret ?_)
  rfl
end
end Pv

set_option Elab.async false
set_option linter.all false
set_option maxRecDepth 100000
set_option maxHeartbeats 1000000
/-! The next second of another band. -/
namespace Pv
open PySem L2
/-- next_change: 2 parameters, slots week second now number start name begin -/
def B_next_change (i_need i_is_second i_is_week i_day_of i_band_at : Nat) : Ss := .cons (.dropX (.call i_need (.cons (.call i_is_week (.cons (.var 0) (.nil))) (.cons (.cst (.int 0)) (.nil))))) (.cons (.dropX (.call i_need (.cons (.call i_is_second (.cons (.var 1) (.nil))) (.cons (.cst (.int 1)) (.nil))))) (.cons (.asg (.name 2) (.call i_band_at (.cons (.var 0) (.cons (.var 1) (.nil))))) (.cons (.forS (.name 3) (.r2 (.bin .div (.var 1) (.cst (.int 86400))) (.bin .add (.bin .div (.cst (.int 100000000)) (.cst (.int 86400))) (.cst (.int 1)))) (.cons (.forS (.tup (.tcons (.name 4) (.tcons (.name 5) (.tnil)))) (.seq (.call i_day_of (.cons (.var 0) (.cons (.var 3) (.nil))))) (.cons (.asg (.name 6) (.bin .add (.bin .mul (.var 3) (.cst (.int 86400))) (.var 4))) (.cons (.ifs (.and (.val (.cmp .gt (.var 6) (.var 1))) (.val (.cmp .ne (.var 5) (.var 2)))) (.cons (.ret (.ite (.val (.cmp .le (.var 6) (.cst (.int 100000000)))) (.var 6) (.cst .non))) (.nil)) (.nil)) (.nil)))) (.nil))) (.cons (.ret (.cst .non)) (.nil)))))
/-- _law_next_change: 2 parameters, slots week second here day start word at -/
def B_law_next_change (i_law_day_row i_law_band : Nat) : Ss := .cons (.asg (.name 2) (.call i_law_band (.cons (.var 0) (.cons (.var 1) (.nil))))) (.cons (.forS (.name 3) (.r2 (.bin .div (.var 1) (.cst (.int 86400))) (.bin .add (.bin .div (.bin .pow (.cst (.int 10)) (.cst (.int 8))) (.cst (.int 86400))) (.cst (.int 1)))) (.cons (.forS (.tup (.tcons (.name 4) (.tcons (.name 5) (.tnil)))) (.seq (.call i_law_day_row (.cons (.var 0) (.cons (.var 3) (.nil))))) (.cons (.asg (.name 6) (.bin .add (.bin .mul (.var 3) (.cst (.int 86400))) (.var 4))) (.cons (.ifs (.and (.val (.chain .lt .le (.var 1) (.var 6) (.bin .pow (.cst (.int 10)) (.cst (.int 8))))) (.val (.cmp .ne (.var 5) (.var 2)))) (.cons (.ret (.var 6)) (.nil)) (.nil)) (.nil)))) (.cons (.ifs (.val (.cmp .gt (.var 3) (.bin .add (.bin .div (.var 1) (.cst (.int 86400))) (.cst (.int 2100))))) (.cons (.brk) (.nil)) (.nil)) (.nil)))) (.cons (.ret (.cst .non)) (.nil)))
/-- where the checks and the days stand in the table -/
structure Ix where
  need : Nat
  int : Nat
  within : Nat
  word : Nat
  sec : Nat
  rows : Nat
  rowsOf : Nat
  asc : Nat
  start : Nat
  day : Nat
  feast : Nat
  week : Nat
  dayOf : Nat
  bandAt : Nat
structure IxB (P : Nat → Option Fn) (x : Ix) : Prop where
  need : P x.need = some ⟨2, 2, B_need⟩
  int : P x.int = some ⟨1, 1, B_is_integer⟩
  within : P x.within = some ⟨3, 3, B_is_within x.int⟩
  word : P x.word = some ⟨1, 1, B_is_word⟩
  sec : P x.sec = some ⟨1, 1, B_is_second x.within⟩
  rows : P x.rows = some ⟨3, 3, B_is_rows⟩
  rowsOf : P x.rowsOf = some ⟨4, 5, B_is_rows_of x.rows⟩
  asc : P x.asc = some ⟨1, 2, B_is_ascending⟩
  start : P x.start = some ⟨1, 1, B_is_start x.within x.word x.rows⟩
  day : P x.day = some ⟨1, 3, B_is_day x.rowsOf x.asc x.start⟩
  feast : P x.feast = some ⟨1, 1, B_is_feast x.within⟩
  week : P x.week = some ⟨1, 3, B_is_week x.rows x.rowsOf x.asc x.day x.feast⟩
  dayOf : P x.dayOf = some ⟨2, 4, B_day_of⟩
structure IxOk (P : Nat → Option Fn) (x : Ix) : Prop extends IxB P x where
  bandAt : P x.bandAt = some ⟨2, 5, B_band_at x.dayOf⟩
section
variable {P : Nat → Option Fn} {k f g : Nat} {S : Store} {x : Ix}
theorem IxB.weekB (h : IxB P x) {d : D} {days : List (List St)} {feasts : List Int} (hx : IsWeek d days feasts) (hr : WeekOk days feasts) : callF P (k + 7) x.week [.d d] S = some (.bl true, S) :=
  week_ok h.week h.day h.feast h.rowsOf h.asc h.start h.within h.int h.word h.rows hx hr
theorem IxB.secB (h : IxB P x) {i : Int} (h0 : 0 ≤ i) (h1 : i ≤ 100000000) : callF P (k + 3) x.sec [.d (.int i)] S = some (.bl true, S) := by
  rw [second_ok h.sec h.within h.int rfl]
  simp [isW, h0, h1]
theorem IxB.needE (h : IxB P x) {e1 e2 : E} {ρ : En} {a : D} (h1 : evE (callF P (k + 1)) e1 ρ S = some (.d (.bl true), S)) (h2 : evE (callF P (k + 1)) e2 ρ S = some (.d a, S)) : evS (callF P (k + 1)) (.dropX (.call x.need (.cons e1 (.cons e2 (.nil))))) ρ S = some (.nx ρ S) := by
  simp only [evS, evX, evE, evEs, h1, h2, Option.bind_some, Option.map_some, need_ok h.need]
theorem IxB.needN (h : IxB P x) {e1 e2 : E} {ρ : En} {a : Int} (ha : atOk a = true) (h1 : evE (callF P (k + 1)) e1 ρ S = some (.d (.bl false), S)) (h2 : evE (callF P (k + 1)) e2 ρ S = some (.d (.int a), S)) : evS (callF P (k + 1)) (.dropX (.call x.need (.cons e1 (.cons e2 (.nil))))) ρ S = some (.xc (.int a) S) := by
  obtain ⟨q1, q2⟩ := need_no (k := k) (S := S) h.need ha
  simp only [evS, evX, evE, evEs, h1, h2, Option.bind_some, Option.map_some, q1, q2]
theorem IxB.needW (h : IxB P x) {ρ : En} {d : D} {days : List (List St)} {feasts : List Int} (h0 : ρ[0]? = some (some (.d d))) (hx : IsWeek d days feasts) (hr : WeekOk days feasts) :
    evS (callF P (k + 7)) (.dropX (.call x.need (.cons (.call x.week (.cons (.var 0) (.nil))) (.cons (.cst (.int 0)) (.nil))))) ρ S = some (.nx ρ S) :=
  h.needE (a := .int 0) (by simp only [evE, evEs, h0, Option.bind_some, Option.map_some, h.weekB hx hr]) (by simp [evE, flatD])
theorem IxB.needS (h : IxB P x) {ρ : En} {i a : Int} {j : Nat} (hj : ρ[j]? = some (some (.d (.int i)))) (h0 : 0 ≤ i) (h1 : i ≤ 100000000) :
    evS (callF P (k + 7)) (.dropX (.call x.need (.cons (.call x.sec (.cons (.var j) (.nil))) (.cons (.cst (.int a)) (.nil))))) ρ S = some (.nx ρ S) :=
  h.needE (a := .int a) (by simp only [evE, evEs, hj, Option.bind_some, Option.map_some]; rw [h.secB (k := k + 4) h0 h1]; rfl) (by simp [evE, flatD])

/-! seconds at which a row begins -/
def candD (n : Int) (r : List St) : List St := r.map fun p => (n * 86400 + p.1, p.2)
def cands (days : List (List St)) (feasts : List Int) : Int → Nat → List St
  | _, 0 => []
  | lo, m + 1 => candD lo (rowAt days feasts lo) ++ cands days feasts (lo + 1) m
theorem Asc.tail {a : Int} {t : List Int} (h : Asc (a :: t)) : Asc t := fun i x y h1 h2 => h (i + 1) x y (by simpa using h1) (by simpa using h2)
theorem Asc.all {a : Int} {t : List Int} (h : Asc (a :: t)) : ∀ b ∈ t, a < b := by
  induction t generalizing a with
  | nil => intro b hb; simp at hb
  | cons c t ih =>
    intro b hb
    have hac : a < c := h 0 a c rfl rfl
    rcases List.mem_cons.mp hb with rfl | hb
    · exact hac
    · have := ih h.tail b hb
      omega
def Up (l : List St) : Prop := l.Pairwise fun p q => p.1 < q.1
theorem candD_up {n : Int} : ∀ {r : List St}, Asc (r.map Prod.fst) → Up (candD n r)
  | [], _ => List.Pairwise.nil
  | p :: r, h => by
    refine List.Pairwise.cons ?_ (candD_up h.tail)
    intro q hq
    obtain ⟨s, hs, rfl⟩ := List.mem_map.mp hq
    have := h.all s.1 (List.mem_map.mpr ⟨s, hs, rfl⟩)
    show n * 86400 + p.1 < n * 86400 + s.1
    omega
theorem cands_lo {days : List (List St)} {feasts : List Int} (hw : WeekOk days feasts) : ∀ {m : Nat} {lo : Int} {q : St}, q ∈ cands days feasts lo m → lo * 86400 ≤ q.1
  | 0, _, _, h => by simp [cands] at h
  | m + 1, lo, q, h => by
    rcases List.mem_append.mp h with h | h
    · obtain ⟨p, hp, rfl⟩ := List.mem_map.mp h
      have := ((hw.each _ (rowAt_mem hw.len)).each p hp).lo
      show lo * 86400 ≤ lo * 86400 + p.1
      omega
    · have := cands_lo hw h
      omega
theorem cands_up {days : List (List St)} {feasts : List Int} (hw : WeekOk days feasts) : ∀ {m : Nat} {lo : Int}, Up (cands days feasts lo m)
  | 0, _ => List.Pairwise.nil
  | m + 1, lo => by
    refine List.pairwise_append.mpr ⟨candD_up (hw.each _ (rowAt_mem hw.len)).asc, cands_up hw, ?_⟩
    intro a ha b hb
    obtain ⟨p, hp, rfl⟩ := List.mem_map.mp ha
    have h1 := ((hw.each _ (rowAt_mem hw.len)).each p hp).hi
    have h2 := cands_lo hw hb
    show lo * 86400 + p.1 < b.1
    omega
def hitP (x : Int) (now : Str) (q : St) : Bool := decide (x < q.1) && !decide (q.2 = now)
def hitL (x : Int) (now : Str) (q : St) : Bool := (decide (x < q.1) && decide (q.1 ≤ 100000000)) && !decide (q.2 = now)
def resP (i : Int) : D := if i ≤ 100000000 then .int i else .non
def fstD (e : D) (f : Int → D) : Option St → D
  | some q => f q.1
  | none => e
theorem find_none {x : Int} {now : Str} : ∀ {l : List St}, (∀ q ∈ l, 100000000 < q.1) → l.find? (hitL x now) = none
  | [], _ => rfl
  | q :: t, h => by
    have := h q List.mem_cons_self
    have hq : ¬ q.1 ≤ 100000000 := by omega
    rw [List.find?_cons_of_neg (by simp [hitL, hq])]
    exact find_none fun q hq => h q (List.mem_cons_of_mem _ hq)
theorem find_cut {x : Int} {now : Str} : ∀ {l : List St}, Up l → fstD .non resP (l.find? (hitP x now)) = fstD .non .int (l.find? (hitL x now))
  | [], _ => rfl
  | q :: t, h => by
    obtain ⟨h1, h2⟩ := List.pairwise_cons.mp h
    cases hp : hitP x now q with
    | true =>
      rw [List.find?_cons_of_pos hp]
      by_cases hq : q.1 ≤ 100000000
      · have : hitL x now q = true := by
          simp only [hitP, Bool.and_eq_true] at hp
          simp only [hitL, Bool.and_eq_true, hp.1, hp.2, hq, decide_true, and_self]
        rw [List.find?_cons_of_pos this]
        simp only [fstD, resP, if_pos hq]
      · have : ¬ hitL x now q = true := by simp [hitL, hq]
        rw [List.find?_cons_of_neg this, find_none]
        · simp only [fstD, resP, if_neg hq]
        · intro r hr
          have := h1 r hr
          omega
    | false =>
      have : ¬ hitL x now q = true := by
        intro e
        simp only [hitL, Bool.and_eq_true] at e
        simp [hitP, e.1.1, e.2] at hp
      rw [List.find?_cons_of_neg (by simp [hp]), List.find?_cons_of_neg this]
      exact find_cut h2
/-! the two loops -/
theorem in_loop {G : D → En → Store → Option Out} {a0 a1 a2 : Option W} {hit : St → Bool} {res : Int → D} {n : Int}
    (hG : ∀ y p v4 v5 v6, IsSt y p → G y [a0, a1, a2, some (.d (.int n)), v4, v5, v6] S = if hit (n * 86400 + p.1, p.2) = true then some (.rt (res (n * 86400 + p.1)) S) else some (.nx [a0, a1, a2, some (.d (.int n)), some (.d (.int p.1)), some (.d (.str p.2)), some (.d (.int (n * 86400 + p.1)))] S)) :
    ∀ {r : List St} {rs : List D} {v4 v5 v6 : Option W}, All2 IsSt rs r → match (candD n r).find? hit with
      | some q => forL G rs [a0, a1, a2, some (.d (.int n)), v4, v5, v6] S = some (.rt (res q.1) S)
      | none => ∃ v4' v5' v6', forL G rs [a0, a1, a2, some (.d (.int n)), v4, v5, v6] S = some (.nx [a0, a1, a2, some (.d (.int n)), v4', v5', v6'] S)
  | _, _, v4, v5, v6, .nil => ⟨v4, v5, v6, rfl⟩
  | p :: r, _, v4, v5, v6, .cons h t => by
    have e := hG _ _ v4 v5 v6 h
    have ih := in_loop hG (v4 := some (.d (.int p.1))) (v5 := some (.d (.str p.2))) (v6 := some (.d (.int (n * 86400 + p.1)))) t
    have ec : candD n (p :: r) = (n * 86400 + p.1, p.2) :: candD n r := rfl
    rw [ec]
    cases hh : hit (n * 86400 + p.1, p.2) with
    | true =>
      rw [List.find?_cons_of_pos hh]
      rw [if_pos hh] at e
      simp only [forL, e, Option.bind_some]
    | false =>
      rw [List.find?_cons_of_neg (by simp [hh])]
      rw [if_neg (by simp [hh])] at e
      simpa only [forL, e, Option.bind_some] using ih
theorem out_loop {F : D → En → Store → Option Out} {a0 a1 a2 : Option W} {hit : St → Bool} {res : Int → D} {days : List (List St)} {feasts : List Int} : ∀ {m : Nat} {lo : Int} {v3 v4 v5 v6 : Option W},
    (∀ n v3 v4 v5 v6, lo ≤ n → n < lo + m → match (candD n (rowAt days feasts n)).find? hit with
      | some q => F (.int n) [a0, a1, a2, v3, v4, v5, v6] S = some (.rt (res q.1) S)
      | none => ∃ v3' v4' v5' v6', F (.int n) [a0, a1, a2, v3, v4, v5, v6] S = some (.nx [a0, a1, a2, v3', v4', v5', v6'] S)) →
    match (cands days feasts lo m).find? hit with
      | some q => forL F (rangeD lo m) [a0, a1, a2, v3, v4, v5, v6] S = some (.rt (res q.1) S)
      | none => ∃ v3' v4' v5' v6', forL F (rangeD lo m) [a0, a1, a2, v3, v4, v5, v6] S = some (.nx [a0, a1, a2, v3', v4', v5', v6'] S)
  | 0, lo, v3, v4, v5, v6, _ => ⟨v3, v4, v5, v6, rfl⟩
  | m + 1, lo, v3, v4, v5, v6, h => by
    have e := h lo v3 v4 v5 v6 (by omega) (by omega)
    have h' := fun n v3 v4 v5 v6 h1 h2 => h n v3 v4 v5 v6 (by omega) (by omega)
    have ec : cands days feasts lo (m + 1) = candD lo (rowAt days feasts lo) ++ cands days feasts (lo + 1) m := rfl
    rw [ec, List.find?_append]
    cases hh : (candD lo (rowAt days feasts lo)).find? hit with
    | some q =>
      rw [hh] at e
      simp only [Option.some_or]
      simp only [] at e
      simp only [rangeD, forL, e, Option.bind_some]
    | none =>
      rw [hh] at e
      simp only [Option.none_or]
      obtain ⟨w3, w4, w5, w6, e⟩ := e
      have ih := out_loop (m := m) (lo := lo + 1) (v3 := w3) (v4 := w4) (v5 := w5) (v6 := w6) (fun n v3 v4 v5 v6 h1 h2 => h' n v3 v4 v5 v6 (by omega) (by omega))
      simpa only [rangeD, forL, e, Option.bind_some] using ih
theorem bandR_str {s : Int} : ∀ {r : List St} {w : Str}, ∃ w', bandR s r (.str w) = .str w'
  | [], w => ⟨w, rfl⟩
  | p :: r, w => by
    show ∃ w', bandR s r _ = _
    by_cases h : p.1 ≤ s
    · rw [if_pos h]; exact bandR_str
    · rw [if_neg h]; exact bandR_str
theorem bandOf_str {days : List (List St)} {feasts : List Int} {x : Int} (hw : WeekOk days feasts) : ∃ w, bandOf days feasts x = .str w := by
  obtain ⟨w, t, e⟩ := (hw.each _ (rowAt_mem (n := x / 86400) hw.len)).head
  have h0 : 0 ≤ x % 86400 := Int.emod_nonneg _ (by decide)
  unfold bandOf
  rw [e]
  show ∃ w', bandR _ t (if (0 : Int) ≤ x % 86400 then D.str w else _) = _
  rw [if_pos h0]
  exact bandR_str
def nextOf (days : List (List St)) (feasts : List Int) (x : Int) (now : Str) : D := fstD .non .int ((cands days feasts (x / 86400) (1158 - x / 86400).toNat).find? (hitL x now))
theorem next_ok {d : D} {days : List (List St)} {feasts : List Int} {i : Int} {now : Str} (h : IxOk P x) (hn : P f = some ⟨2, 7, B_next_change x.need x.sec x.week x.dayOf x.bandAt⟩) (hd : IsWeek d days feasts) (hw : WeekOk days feasts)
    (hb : bandOf days feasts i = .str now) (h0 : 0 ≤ i) (h1 : i ≤ 100000000) : callF P (k + 8) f [.d d, .d (.int i)] S = some (nextOf days feasts i now, S) := by
  have eb := band_at_ok (k := k + 5) (S := S) (x := i) h.bandAt h.dayOf hd hw.len
  rw [hb] at eb
  rw [callF_b hn rfl (by decide)]
  unfold B_next_change
  refine rt_fin ?_ rfl
  show evSs (callF P (k + 7)) _ [some (.d d), some (.d (.int i)), none, none, none, none, none] S = _
  rw [ss_nx (h.needW rfl hd hw), ss_nx (h.needS rfl h0 h1)]
  rw [ss_nx (x_asg (w := .d (.str now)) (S1 := S) (by simp [evE, evEs, eb]) (by simp))]
  show evSs (callF P (k + 7)) _ [some (.d d), some (.d (.int i)), some (.d (.str now)), none, none, none, none] S = _
  have ei : evI (callF P (k + 7)) (.r2 (.bin .div (.var 1) (.cst (.int 86400))) (.bin .add (.bin .div (.cst (.int 100000000)) (.cst (.int 86400))) (.cst (.int 1)))) [some (.d d), some (.d (.int i)), some (.d (.str now)), none, none, none, none] S = some (rangeD (i / 86400) (1158 - i / 86400).toNat, S) :=
    x_r2 (i := i / 86400) (j := 1158) (S1 := S) (by simp [evE, rd_d, flatD, b_div]) (by simp [evE, rd_d, flatD, b_div, b_add]) (by omega) (by omega) (by omega) (by omega)
  have lp := out_loop (S := S) (F := fun d ρ S => (asgn (.name 3) d ρ).bind fun ρ' => evSs (callF P (k + 7)) (.cons (.forS (.tup (.tcons (.name 4) (.tcons (.name 5) (.tnil)))) (.seq (.call x.dayOf (.cons (.var 0) (.cons (.var 3) (.nil))))) (.cons (.asg (.name 6) (.bin .add (.bin .mul (.var 3) (.cst (.int 86400))) (.var 4))) (.cons (.ifs (.and (.val (.cmp .gt (.var 6) (.var 1))) (.val (.cmp .ne (.var 5) (.var 2)))) (.cons (.ret (.ite (.val (.cmp .le (.var 6) (.cst (.int 100000000)))) (.var 6) (.cst .non))) (.nil)) (.nil)) (.nil)))) (.nil)) ρ' S)
    (a0 := some (.d d)) (a1 := some (.d (.int i))) (a2 := some (.d (.str now))) (hit := hitP i now) (res := resP) (days := days) (feasts := feasts) (m := (1158 - i / 86400).toNat) (lo := i / 86400) (v3 := none) (v4 := none) (v5 := none) (v6 := none) (fun n v3 v4 v5 v6 q1 q2 => by
      obtain ⟨y, e, q⟩ := day_of_ok (k := k + 6) (S := S) (n := n) h.dayOf hd hw.len
      obtain ⟨rs, es, a⟩ := seq_day (c := callF P (k + 7)) (S := S) (e := .call x.dayOf (.cons (.var 0) (.cons (.var 3) (.nil)))) (ρ := [some (.d d), some (.d (.int i)), some (.d (.str now)), some (.d (.int n)), v4, v5, v6]) (x := y) (by simp [evE, evEs, e]) q
      have il := in_loop (S := S) (G := fun d ρ S => (asgn (.tup (.tcons (.name 4) (.tcons (.name 5) (.tnil)))) d ρ).bind fun ρ' => evSs (callF P (k + 7)) (.cons (.asg (.name 6) (.bin .add (.bin .mul (.var 3) (.cst (.int 86400))) (.var 4))) (.cons (.ifs (.and (.val (.cmp .gt (.var 6) (.var 1))) (.val (.cmp .ne (.var 5) (.var 2)))) (.cons (.ret (.ite (.val (.cmp .le (.var 6) (.cst (.int 100000000)))) (.var 6) (.cst .non))) (.nil)) (.nil)) (.nil))) ρ' S)
        (a0 := some (.d d)) (a1 := some (.d (.int i))) (a2 := some (.d (.str now))) (hit := hitP i now) (res := resP) (n := n) (v4 := v4) (v5 := v5) (v6 := v6) (fun y p v4 v5 v6 hy => by
          rw [asgn_st hy (by simp) (by simp)]
          by_cases c1 : i < n * 86400 + p.1
          · by_cases c2 : p.2 = now
            · simp [evSs, evS, evE, evT, rd_d, fz_d, b_mul, b_add, c_gt, c_nes, c_le, flatD, hitP, c1, c2]
            · by_cases c3 : n * 86400 + p.1 ≤ 100000000 <;> simp [evSs, evS, evE, evT, rd_d, fz_d, b_mul, b_add, c_gt, c_nes, c_le, flatD, hitP, c1, c2, c3, resP]
          · simp [evSs, evS, evE, evT, rd_d, fz_d, b_mul, b_add, c_gt, c_nes, c_le, flatD, hitP, c1]) a
      have ea : asgn (.name 3) (.int n) [some (.d d), some (.d (.int i)), some (.d (.str now)), v3, v4, v5, v6] = some [some (.d d), some (.d (.int i)), some (.d (.str now)), some (.d (.int n)), v4, v5, v6] := rfl
      cases hh : (candD n (rowAt days feasts n)).find? (hitP i now) with
      | some p =>
        rw [hh] at il
        simp only [] at il
        show (asgn _ _ _).bind _ = _
        rw [ea, Option.bind_some]
        exact ss_rt (by rw [x_for' es]; exact il)
      | none =>
        rw [hh] at il
        obtain ⟨w4, w5, w6, il⟩ := il
        refine ⟨some (.d (.int n)), w4, w5, w6, ?_⟩
        show (asgn _ _ _).bind _ = _
        rw [ea, Option.bind_some, ss_nx (x_for' es il)]
        exact ss_0)
  have cut := find_cut (x := i) (now := now) (cands_up hw (m := (1158 - i / 86400).toNat) (lo := i / 86400))
  unfold nextOf
  rw [← cut]
  cases hh : (cands days feasts (i / 86400) (1158 - i / 86400).toNat).find? (hitP i now) with
  | some p =>
    rw [hh] at lp
    exact ss_rt (x_for' ei lp)
  | none =>
    rw [hh] at lp
    obtain ⟨w3, w4, w5, w6, lp⟩ := lp
    rw [ss_nx (x_for' ei lp)]
    exact ss_rt (x_ret (by simp [evE, flatD, fstD]))
theorem law_next_ok {a b : Nat} {d : D} {days : List (List St)} {feasts : List Int} {i : Int} {now : Str} (hn : P f = some ⟨2, 7, B_law_next_change a b⟩) (ha : P a = some ⟨2, 2, B_law_day_row⟩) (hB : P b = some ⟨2, 5, B_law_band a⟩) (hd : IsWeek d days feasts) (hw : WeekOk days feasts)
    (hb : bandOf days feasts i = .str now) (h0 : 0 ≤ i) (h1 : i ≤ 100000000) : callF P (k + 3) f [.d d, .d (.int i)] S = some (nextOf days feasts i now, S) := by
  have eb := law_band_ok (k := k) (S := S) (x := i) hB ha hd hw.len
  rw [hb] at eb
  rw [callF_b hn rfl (by decide)]
  unfold B_law_next_change
  refine rt_fin ?_ rfl
  show evSs (callF P (k + 2)) _ [some (.d d), some (.d (.int i)), none, none, none, none, none] S = _
  rw [ss_nx (x_asg (w := .d (.str now)) (S1 := S) (by simp [evE, evEs, eb]) (by simp))]
  show evSs (callF P (k + 2)) _ [some (.d d), some (.d (.int i)), some (.d (.str now)), none, none, none, none] S = _
  have ei : evI (callF P (k + 2)) (.r2 (.bin .div (.var 1) (.cst (.int 86400))) (.bin .add (.bin .div (.bin .pow (.cst (.int 10)) (.cst (.int 8))) (.cst (.int 86400))) (.cst (.int 1)))) [some (.d d), some (.d (.int i)), some (.d (.str now)), none, none, none, none] S = some (rangeD (i / 86400) (1158 - i / 86400).toNat, S) :=
    x_r2 (i := i / 86400) (j := 1158) (S1 := S) (by simp [evE, rd_d, flatD, b_div]) (by simp [evE, rd_d, flatD, b_p8, b_div, b_add]) (by omega) (by omega) (by omega) (by omega)
  have lp := out_loop (S := S) (F := fun d ρ S => (asgn (.name 3) d ρ).bind fun ρ' => evSs (callF P (k + 2)) (.cons (.forS (.tup (.tcons (.name 4) (.tcons (.name 5) (.tnil)))) (.seq (.call a (.cons (.var 0) (.cons (.var 3) (.nil))))) (.cons (.asg (.name 6) (.bin .add (.bin .mul (.var 3) (.cst (.int 86400))) (.var 4))) (.cons (.ifs (.and (.val (.chain .lt .le (.var 1) (.var 6) (.bin .pow (.cst (.int 10)) (.cst (.int 8))))) (.val (.cmp .ne (.var 5) (.var 2)))) (.cons (.ret (.var 6)) (.nil)) (.nil)) (.nil)))) (.cons (.ifs (.val (.cmp .gt (.var 3) (.bin .add (.bin .div (.var 1) (.cst (.int 86400))) (.cst (.int 2100))))) (.cons (.brk) (.nil)) (.nil)) (.nil))) ρ' S)
    (a0 := some (.d d)) (a1 := some (.d (.int i))) (a2 := some (.d (.str now))) (hit := hitL i now) (res := .int) (days := days) (feasts := feasts) (m := (1158 - i / 86400).toNat) (lo := i / 86400) (v3 := none) (v4 := none) (v5 := none) (v6 := none) (fun n v3 v4 v5 v6 q1 q2 => by
      obtain ⟨y, e, q⟩ := law_day_ok (k := k + 1) (S := S) (n := n) ha hd hw.len
      obtain ⟨rs, es, aa⟩ := seq_day (c := callF P (k + 2)) (S := S) (e := .call a (.cons (.var 0) (.cons (.var 3) (.nil)))) (ρ := [some (.d d), some (.d (.int i)), some (.d (.str now)), some (.d (.int n)), v4, v5, v6]) (x := y) (by simp [evE, evEs, e]) q
      have il := in_loop (S := S) (G := fun d ρ S => (asgn (.tup (.tcons (.name 4) (.tcons (.name 5) (.tnil)))) d ρ).bind fun ρ' => evSs (callF P (k + 2)) (.cons (.asg (.name 6) (.bin .add (.bin .mul (.var 3) (.cst (.int 86400))) (.var 4))) (.cons (.ifs (.and (.val (.chain .lt .le (.var 1) (.var 6) (.bin .pow (.cst (.int 10)) (.cst (.int 8))))) (.val (.cmp .ne (.var 5) (.var 2)))) (.cons (.ret (.var 6)) (.nil)) (.nil)) (.nil))) ρ' S)
        (a0 := some (.d d)) (a1 := some (.d (.int i))) (a2 := some (.d (.str now))) (hit := hitL i now) (res := .int) (n := n) (v4 := v4) (v5 := v5) (v6 := v6) (fun y p v4 v5 v6 hy => by
          rw [asgn_st hy (by simp) (by simp)]
          by_cases c1 : i < n * 86400 + p.1
          · by_cases c3 : n * 86400 + p.1 ≤ 100000000
            · by_cases c2 : p.2 = now <;> simp [evSs, evS, evE, evT, rd_d, fz_d, b_mul, b_add, b_p8, c_lt, c_nes, c_le, flatD, hitL, c1, c2, c3]
            · simp [evSs, evS, evE, evT, rd_d, fz_d, b_mul, b_add, b_p8, c_lt, c_nes, c_le, flatD, hitL, c1, c3]
          · simp [evSs, evS, evE, evT, rd_d, fz_d, b_mul, b_add, b_p8, c_lt, c_nes, c_le, flatD, hitL, c1]) aa
      have ea : asgn (.name 3) (.int n) [some (.d d), some (.d (.int i)), some (.d (.str now)), v3, v4, v5, v6] = some [some (.d d), some (.d (.int i)), some (.d (.str now)), some (.d (.int n)), v4, v5, v6] := rfl
      cases hh : (candD n (rowAt days feasts n)).find? (hitL i now) with
      | some p =>
        rw [hh] at il
        simp only [] at il
        show (asgn _ _ _).bind _ = _
        rw [ea, Option.bind_some]
        exact ss_rt (by rw [x_for' es]; exact il)
      | none =>
        rw [hh] at il
        obtain ⟨w4, w5, w6, il⟩ := il
        refine ⟨some (.d (.int n)), w4, w5, w6, ?_⟩
        show (asgn _ _ _).bind _ = _
        rw [ea, Option.bind_some, ss_nx (x_for' es il)]
        have nb : ¬ i / 86400 + 2100 < n := by omega
        simp [evSs, evS, evE, evT, rd_d, b_div, b_add, c_gt, flatD, nb])
  unfold nextOf
  cases hh : (cands days feasts (i / 86400) (1158 - i / 86400).toNat).find? (hitL i now) with
  | some p =>
    rw [hh] at lp
    exact ss_rt (x_for' ei lp)
  | none =>
    rw [hh] at lp
    obtain ⟨w3, w4, w5, w6, lp⟩ := lp
    rw [ss_nx (x_for' ei lp)]
    exact ss_rt (x_ret (by simp [evE, flatD, fstD]))
end
end Pv

set_option Elab.async false
set_option linter.all false
set_option maxRecDepth 100000
set_option maxHeartbeats 1000000
/-! The seconds of a band. -/
namespace Pv
open PySem L2
/-- stretches: 3 parameters, slots week first last found number day ends start name end low high _ -/
def B_stretches (i_day_of : Nat) : Ss := .cons (.newL 3 (.nil)) (.cons (.forS (.name 4) (.r2 (.bin .div (.var 1) (.cst (.int 86400))) (.bin .add (.bin .div (.var 2) (.cst (.int 86400))) (.cst (.int 1)))) (.cons (.asg (.name 5) (.call i_day_of (.cons (.var 0) (.cons (.var 4) (.nil))))) (.cons (.asg (.name 6) (.bin .add (.comp [7, 12] (.tup (.tcons (.name 7) (.tcons (.name 12) (.tnil)))) (.seq (.sl (.var 5) (.some (.cst (.int 1))) (.none))) (.none) (.var 7)) (.lst (.cons (.cst (.int 86400)) (.nil))))) (.cons (.forS (.tup (.tcons (.tup (.tcons (.name 7) (.tcons (.name 8) (.tnil)))) (.tcons (.name 9) (.tnil)))) (.zip (.var 5) (.var 6)) (.cons (.asg (.name 10) (.bi .max2 (.cons (.var 1) (.cons (.bin .add (.bin .mul (.var 4) (.cst (.int 86400))) (.var 7)) (.nil))))) (.cons (.asg (.name 11) (.bi .min2 (.cons (.var 2) (.cons (.bin .add (.bin .mul (.var 4) (.cst (.int 86400))) (.var 9)) (.nil))))) (.cons (.ifs (.val (.cmp .lt (.var 10) (.var 11))) (.cons (.app 3 (.tup (.cons (.var 10) (.cons (.var 11) (.cons (.var 8) (.nil)))))) (.nil)) (.nil)) (.nil))))) (.nil))))) (.cons (.ret (.var 3)) (.nil)))
/-- seconds_in: 4 parameters, slots week first last band begin end name -/
def B_seconds_in (i_need i_is_word i_is_second i_is_week i_stretches : Nat) : Ss := .cons (.dropX (.call i_need (.cons (.call i_is_week (.cons (.var 0) (.nil))) (.cons (.cst (.int 0)) (.nil))))) (.cons (.dropX (.call i_need (.cons (.call i_is_second (.cons (.var 1) (.nil))) (.cons (.cst (.int 1)) (.nil))))) (.cons (.dropX (.call i_need (.cons (.call i_is_second (.cons (.var 2) (.nil))) (.cons (.cst (.int 2)) (.nil))))) (.cons (.dropX (.call i_need (.cons (.call i_is_word (.cons (.var 3) (.nil))) (.cons (.cst (.int 3)) (.nil))))) (.cons (.ret (.bi .sum (.cons (.comp [4, 5, 6] (.tup (.tcons (.name 4) (.tcons (.name 5) (.tcons (.name 6) (.tnil))))) (.seq (.call i_stretches (.cons (.var 0) (.cons (.var 1) (.cons (.var 2) (.nil)))))) (.some (.val (.cmp .eq (.var 6) (.var 3)))) (.bin .sub (.var 5) (.var 4))) (.nil)))) (.nil)))))
/-! pieces of time -/
abbrev Pc := Int × Int × Str
def pcs (n : Int) : List St → List Pc
  | [] => []
  | [p] => [(n * 86400 + p.1, n * 86400 + 86400, p.2)]
  | p :: q :: t => (n * 86400 + p.1, n * 86400 + q.1, p.2) :: pcs n (q :: t)
def allPcs (days : List (List St)) (feasts : List Int) : Int → Nat → List Pc
  | _, 0 => []
  | lo, m + 1 => pcs lo (rowAt days feasts lo) ++ allPcs days feasts (lo + 1) m
inductive Chain : Int → Int → List Pc → Prop
  | nil {a : Int} : Chain a a []
  | cons {a e b : Int} {w : Str} {t : List Pc} : a ≤ e → Chain e b t → Chain a b ((a, e, w) :: t)
theorem Chain.le {a b : Int} {l : List Pc} (h : Chain a b l) : a ≤ b := by
  induction h with
  | nil => omega
  | cons h _ ih => omega
theorem Chain.append {a b c : Int} {l l' : List Pc} (h : Chain a b l) (h' : Chain b c l') : Chain a c (l ++ l') := by
  induction h with
  | nil => exact h'
  | cons q _ ih => exact .cons q (ih h')
def loF (f : Int) (p : Pc) : Int := if p.1 > f then p.1 else f
def hiF (l : Int) (p : Pc) : Int := if p.2.1 < l then p.2.1 else l
def ov (f l : Int) (p : Pc) : Int := if loF f p < hiF l p then hiF l p - loF f p else 0
theorem chain_sum {f l a b : Int} {ps : List Pc} (h : Chain a b ps) : (ps.map (ov f l)).sum = ov f l (a, b, ⟨#[]⟩) ∨ ps = [] ∧ a = b := by
  induction h with
  | nil => exact .inr ⟨rfl, rfl⟩
  | @cons a e b w t q c ih =>
    left
    have le := c.le
    rw [List.map_cons, List.sum_cons]
    rcases ih with ih | ⟨rfl, rfl⟩
    · rw [ih]
      simp only [ov, loF, hiF]
      repeat' split
      all_goals omega
    · simp only [ov, loF, hiF, List.map_nil, List.sum_nil, Int.add_zero]
theorem pcs_chain {n : Int} : ∀ {p : St} {t : List St}, Asc ((p :: t).map Prod.fst) → (∀ q ∈ p :: t, q.1 < 86400) → Chain (n * 86400 + p.1) (n * 86400 + 86400) (pcs n (p :: t))
  | p, [], _, h => .cons (by have := h p List.mem_cons_self; omega) .nil
  | p, q :: t, ha, h => by
    have lt : p.1 < q.1 := ha 0 p.1 q.1 rfl rfl
    exact .cons (by omega) (pcs_chain ha.tail fun r hr => h r (List.mem_cons_of_mem _ hr))
theorem allPcs_chain {days : List (List St)} {feasts : List Int} (hw : WeekOk days feasts) : ∀ {m : Nat} {lo : Int}, Chain (lo * 86400) ((lo + m) * 86400) (allPcs days feasts lo m)
  | 0, lo => by
    have e : lo + ((0 : Nat) : Int) = lo := by omega
    rw [e]
    exact .nil
  | m + 1, lo => by
    have hr := hw.each _ (rowAt_mem (feasts := feasts) (n := lo) hw.len)
    obtain ⟨w, t, e⟩ := hr.head
    have c1 := pcs_chain (n := lo) (p := (0, w)) (t := t) (by rw [← e]; exact hr.asc) (by rw [← e]; exact fun q hq => (hr.each q hq).hi)
    have c2 := allPcs_chain hw (m := m) (lo := lo + 1)
    have e1 : lo * 86400 + (0 : Int) = lo * 86400 := by omega
    have e2 : lo * 86400 + 86400 = (lo + 1) * 86400 := by omega
    have e3 : lo + 1 + (m : Int) = lo + ((m + 1 : Nat) : Int) := by omega
    rw [e3] at c2
    simp only [e1, e2] at c1
    show Chain _ _ (pcs lo (rowAt days feasts lo) ++ _)
    rw [e]
    exact c1.append c2
theorem pcs_cand {n : Int} : ∀ {r : List St} {p : Pc}, p ∈ pcs n r → (p.1, p.2.2) ∈ candD n r
  | [], p, h => by simp [pcs] at h
  | [q], p, h => by
    simp only [pcs, List.mem_singleton] at h
    subst h
    exact List.mem_cons_self
  | q :: q' :: t, p, h => by
    rcases List.mem_cons.mp h with rfl | h
    · exact List.mem_cons_self
    · exact List.mem_cons_of_mem _ (pcs_cand h)
theorem allPcs_cand {days : List (List St)} {feasts : List Int} : ∀ {m m' : Nat} {lo : Int} {p : Pc}, p ∈ allPcs days feasts lo m → m ≤ m' → (p.1, p.2.2) ∈ cands days feasts lo m'
  | 0, _, _, p, h, _ => by simp [allPcs] at h
  | m + 1, 0, _, _, _, h => by omega
  | m + 1, m' + 1, lo, p, h, hl => by
    rcases List.mem_append.mp h with h | h
    · exact List.mem_append_left _ (pcs_cand h)
    · exact List.mem_append_right _ (allPcs_cand h (by omega))
theorem find_before {p : St → Bool} {q r : St} : ∀ {l : List St}, Up l → l.find? p = some q → r ∈ l → r.1 < q.1 → p r = false
  | [], _, e, _, _ => by simp at e
  | a :: t, h, e, hr, lt => by
    obtain ⟨h1, h2⟩ := List.pairwise_cons.mp h
    cases ha : p a with
    | true =>
      rw [List.find?_cons_of_pos ha] at e
      obtain rfl := Option.some.inj e
      rcases List.mem_cons.mp hr with rfl | hr
      · omega
      · have := h1 r hr
        omega
    | false =>
      rw [List.find?_cons_of_neg (by simp [ha])] at e
      rcases List.mem_cons.mp hr with rfl | hr
      · exact ha
      · exact find_before h2 e hr lt
theorem bandR_stay {s : Int} : ∀ {r : List St} {b : D}, (∀ q ∈ r, s < q.1) → bandR s r b = b
  | [], _, _ => rfl
  | q :: t, b, h => by
    have := h q List.mem_cons_self
    show bandR s t (if q.1 ≤ s then _ else b) = b
    rw [if_neg (by omega)]
    exact bandR_stay fun q hq => h q (List.mem_cons_of_mem _ hq)
theorem bandR_pc {n x : Int} : ∀ {r : List St} {p : Pc} {b : D}, Asc (r.map Prod.fst) → p ∈ pcs n r → p.1 ≤ x → x < p.2.1 → bandR (x - n * 86400) r b = .str p.2.2
  | [], _, _, _, h, _, _ => by simp [pcs] at h
  | [q], p, b, _, h, h1, h2 => by
    simp only [pcs, List.mem_singleton] at h
    subst h
    simp only at h1
    show (if q.1 ≤ x - n * 86400 then D.str q.2 else b) = _
    rw [if_pos (by omega)]
  | q :: q' :: t, p, b, ha, h, h1, h2 => by
    rcases List.mem_cons.mp h with rfl | h
    · simp only at h1 h2
      show bandR (x - n * 86400) (q' :: t) (if q.1 ≤ x - n * 86400 then D.str q.2 else b) = _
      rw [if_pos (by omega)]
      refine bandR_stay fun a hm => ?_
      have : q'.1 ≤ a.1 := by
        rcases List.mem_cons.mp hm with rfl | hm
        · omega
        · have := ha.tail.all a.1 (List.mem_map.mpr ⟨a, hm, rfl⟩)
          omega
      omega
    · show bandR (x - n * 86400) (q' :: t) (if q.1 ≤ x - n * 86400 then D.str q.2 else b) = _
      exact bandR_pc ha.tail h h1 h2
theorem pcs_in {n : Int} : ∀ {r : List St} {p : Pc}, (∀ q ∈ r, 0 ≤ q.1 ∧ q.1 < 86400) → p ∈ pcs n r → n * 86400 ≤ p.1 ∧ p.2.1 ≤ n * 86400 + 86400
  | [], _, _, h => by simp [pcs] at h
  | [q], p, hq, h => by
    simp only [pcs, List.mem_singleton] at h
    subst h
    have := hq q List.mem_cons_self
    simp only
    omega
  | q :: q' :: t, p, hq, h => by
    rcases List.mem_cons.mp h with rfl | h
    · have := hq q List.mem_cons_self
      have := hq q' (List.mem_cons_of_mem _ List.mem_cons_self)
      simp only
      omega
    · exact pcs_in (fun q hm => hq q (List.mem_cons_of_mem _ hm)) h
theorem allPcs_day {days : List (List St)} {feasts : List Int} : ∀ {m : Nat} {lo : Int} {p : Pc}, p ∈ allPcs days feasts lo m → ∃ n, lo ≤ n ∧ p ∈ pcs n (rowAt days feasts n)
  | 0, _, p, h => by simp [allPcs] at h
  | m + 1, lo, p, h => by
    rcases List.mem_append.mp h with h | h
    · exact ⟨lo, by omega, h⟩
    · obtain ⟨n, h1, h2⟩ := allPcs_day h
      exact ⟨n, by omega, h2⟩
/-- all that lies between a second and the next change carries one name -/
theorem pc_name {days : List (List St)} {feasts : List Int} (hw : WeekOk days feasts) {x meant : Int} {now : Str} (hb : bandOf days feasts x = .str now) (hn : nextOf days feasts x now = .int meant) {m : Nat} {p : Pc} (hm : m ≤ (1158 - x / 86400).toNat)
    (hp : p ∈ allPcs days feasts (x / 86400) m) (lt : loF x p < hiF meant p) : p.2.2 = now := by
  unfold nextOf at hn
  cases hf : (cands days feasts (x / 86400) (1158 - x / 86400).toNat).find? (hitL x now) with
  | none => rw [hf] at hn; simp [fstD] at hn
  | some q =>
    rw [hf] at hn
    simp only [fstD, D.int.injEq] at hn
    have hq := List.find?_some hf
    simp only [hitL, Bool.and_eq_true, decide_eq_true_eq] at hq
    have l1 : p.1 ≤ loF x p := by unfold loF; split <;> omega
    have l2 : x ≤ loF x p := by unfold loF; split <;> omega
    have l3 : hiF meant p ≤ p.2.1 := by unfold hiF; split <;> omega
    have l4 : hiF meant p ≤ meant := by unfold hiF; split <;> omega
    by_cases hx : x < p.1
    · have nb := find_before (cands_up hw) hf (allPcs_cand hp hm) (by show p.1 < q.1; omega)
      have h3 : p.1 ≤ 100000000 := by omega
      simpa [hitL, hx, h3] using nb
    · obtain ⟨n, h1, h2⟩ := allPcs_day hp
      have hr := hw.each _ (rowAt_mem (feasts := feasts) (n := n) hw.len)
      have hi := pcs_in (fun q hq => ⟨(hr.each q hq).lo, (hr.each q hq).hi⟩) h2
      have en : n = x / 86400 := by omega
      have e := bandR_pc (x := x) (b := .non) hr.asc h2 (by omega) (by omega)
      have ex : x - n * 86400 = x % 86400 := by omega
      rw [ex, en] at e
      unfold bandOf at hb
      rw [hb] at e
      exact (D.str.inj e).symm
theorem pc_sum {days : List (List St)} {feasts : List Int} (hw : WeekOk days feasts) {x l : Int} (hx : x < l) (h0 : 0 ≤ x) : ((allPcs days feasts (x / 86400) (l / 86400 + 1 - x / 86400).toNat).map (ov x l)).sum = l - x := by
  have c := allPcs_chain hw (m := (l / 86400 + 1 - x / 86400).toNat) (lo := x / 86400)
  rcases chain_sum (f := x) (l := l) c with h | ⟨_, h⟩
  · rw [h]
    simp only [ov, loF, hiF]
    repeat' split
    all_goals omega
  · omega
end Pv

set_option Elab.async false
set_option linter.all false
set_option maxRecDepth 100000
set_option maxHeartbeats 1000000
/-! stretches and seconds_in -/
namespace Pv
open PySem L2
section
variable {P : Nat → Option Fn} {k f g : Nat} {S : Store} {x : Ix}
def clipD (f l : Int) (p : Pc) : List D := if loF f p < hiF l p then [.tup [.int (loF f p), .int (hiF l p), .str p.2.2]] else []
def endsD (r : List St) : List D := (r.tail.map fun p => .int p.1) ++ [.int 86400]
theorem cut1 (xs : List D) : cutD xs (some 1) none = xs.tail := by
  have e : HT.sIx xs.length 0 (some 1) = min 1 xs.length := HT.sIx_nat xs.length 0 1
  unfold cutD
  rw [e, HT.sIx_none]
  cases xs with
  | nil => rfl
  | cons x t =>
    have : min 1 (x :: t).length = 1 := Nat.min_eq_left (by simp)
    rw [this]
    simp
theorem st_get (S : Store) (d : MO) : (S ++ [d])[S.length]? = some d := by simp
theorem st_set (S : Store) (d d' : MO) : (S ++ [d]).set S.length d' = S ++ [d'] := by simp [List.set_append]
theorem All2.tl {α β : Type} {R : α → β → Prop} : ∀ {as : List α} {bs : List β}, All2 R as bs → All2 R as.tail bs.tail
  | _, _, .nil => .nil
  | _, _, .cons _ t => t
theorem clip_len (f l : Int) (p : Pc) : (clipD f l p).length ≤ 1 := by
  unfold clipD
  split <;> simp
theorem flat_len {f l : Int} : ∀ {ps : List Pc}, (ps.flatMap (clipD f l)).length ≤ ps.length
  | [] => by simp
  | p :: ps => by
    have h1 := clip_len f l p
    have h2 := flat_len (f := f) (l := l) (ps := ps)
    rw [List.flatMap_cons, List.length_append, List.length_cons]
    omega
theorem pcs_len {n : Int} : ∀ {r : List St}, (pcs n r).length = r.length
  | [] => rfl
  | [_] => rfl
  | _ :: q :: t => by
    show (pcs n (q :: t)).length + 1 = _
    rw [pcs_len]
    rfl
theorem allPcs_len {days : List (List St)} {feasts : List Int} (hw : WeekOk days feasts) : ∀ {m : Nat} {lo : Int}, (allPcs days feasts lo m).length ≤ 8 * m
  | 0, _ => by simp [allPcs]
  | m + 1, lo => by
    have h1 := allPcs_len hw (m := m) (lo := lo + 1)
    have h2 := (hw.each _ (rowAt_mem (feasts := feasts) (n := lo) hw.len)).len
    have h3 := pcs_len (n := lo) (r := rowAt days feasts lo)
    show (pcs lo (rowAt days feasts lo) ++ _).length ≤ _
    rw [List.length_append]
    omega
theorem zip_loop {G : D → En → Store → Option Out} {a0 a1 a2 a3 a4 a5 a6 a12 : Option W} {fi la n : Int}
    (hG : ∀ y p e v7 v8 v9 v10 v11 acc, IsSt y p → acc.length < sizeLine → ∃ w7 w8 w9 w10 w11, G (.tup [y, .int e]) [a0, a1, a2, a3, a4, a5, a6, v7, v8, v9, v10, v11, a12] (S ++ [.lst acc]) = some (.nx [a0, a1, a2, a3, a4, a5, a6, w7, w8, w9, w10, w11, a12] (S ++ [.lst (acc ++ clipD fi la (n * 86400 + p.1, n * 86400 + e, p.2))]))) :
    ∀ {r : List St} {rs : List D} {acc : List D} {v7 v8 v9 v10 v11 : Option W}, All2 IsSt rs r → acc.length + r.length ≤ sizeLine → ∃ w7 w8 w9 w10 w11, forL G (zipD rs (endsD r)) [a0, a1, a2, a3, a4, a5, a6, v7, v8, v9, v10, v11, a12] (S ++ [.lst acc]) = some (.nx [a0, a1, a2, a3, a4, a5, a6, w7, w8, w9, w10, w11, a12] (S ++ [.lst (acc ++ (pcs n r).flatMap (clipD fi la))]))
  | [], _, acc, v7, v8, v9, v10, v11, .nil, _ => ⟨v7, v8, v9, v10, v11, by simp [zipD, forL, pcs]⟩
  | [p], _, acc, v7, v8, v9, v10, v11, .cons h .nil, hl => by
    obtain ⟨w7, w8, w9, w10, w11, e⟩ := hG _ p 86400 v7 v8 v9 v10 v11 acc h (by simp at hl; omega)
    exact ⟨w7, w8, w9, w10, w11, by simp [endsD, zipD, forL, e, pcs]⟩
  | p :: q :: t, _, acc, v7, v8, v9, v10, v11, .cons h (.cons h' t'), hl => by
    obtain ⟨w7, w8, w9, w10, w11, e⟩ := hG _ p q.1 v7 v8 v9 v10 v11 acc h (by simp at hl; omega)
    have hc := clip_len fi la (n * 86400 + p.1, n * 86400 + q.1, p.2)
    obtain ⟨u7, u8, u9, u10, u11, e'⟩ := zip_loop hG (r := q :: t) (acc := acc ++ clipD fi la (n * 86400 + p.1, n * 86400 + q.1, p.2)) (v7 := w7) (v8 := w8) (v9 := w9) (v10 := w10) (v11 := w11) (.cons h' t') (by simp at hl ⊢; omega)
    refine ⟨u7, u8, u9, u10, u11, ?_⟩
    have ee : endsD (p :: q :: t) = .int q.1 :: endsD (q :: t) := rfl
    rw [ee]
    simp only [zipD, forL, e, Option.bind_some]
    rw [e']
    simp [pcs]
theorem days_loop {F : D → En → Store → Option Out} {a0 a1 a2 a3 a12 : Option W} {fi la : Int} {days : List (List St)} {feasts : List Int} (hw : WeekOk days feasts)
    (hF : ∀ n v4 v5 v6 v7 v8 v9 v10 v11 acc, acc.length + 8 ≤ sizeLine → ∃ w4 w5 w6 w7 w8 w9 w10 w11, F (.int n) [a0, a1, a2, a3, v4, v5, v6, v7, v8, v9, v10, v11, a12] (S ++ [.lst acc]) = some (.nx [a0, a1, a2, a3, w4, w5, w6, w7, w8, w9, w10, w11, a12] (S ++ [.lst (acc ++ (pcs n (rowAt days feasts n)).flatMap (clipD fi la))]))) :
    ∀ {m : Nat} {lo : Int} {acc : List D} {v4 v5 v6 v7 v8 v9 v10 v11 : Option W}, acc.length + 8 * m ≤ sizeLine → ∃ w4 w5 w6 w7 w8 w9 w10 w11, forL F (rangeD lo m) [a0, a1, a2, a3, v4, v5, v6, v7, v8, v9, v10, v11, a12] (S ++ [.lst acc]) = some (.nx [a0, a1, a2, a3, w4, w5, w6, w7, w8, w9, w10, w11, a12] (S ++ [.lst (acc ++ (allPcs days feasts lo m).flatMap (clipD fi la))]))
  | 0, lo, acc, v4, v5, v6, v7, v8, v9, v10, v11, _ => ⟨v4, v5, v6, v7, v8, v9, v10, v11, by simp [rangeD, forL, allPcs]⟩
  | m + 1, lo, acc, v4, v5, v6, v7, v8, v9, v10, v11, hl => by
    obtain ⟨w4, w5, w6, w7, w8, w9, w10, w11, e⟩ := hF lo v4 v5 v6 v7 v8 v9 v10 v11 acc (by omega)
    have h1 := flat_len (f := fi) (l := la) (ps := pcs lo (rowAt days feasts lo))
    rw [pcs_len] at h1
    have h2 := (hw.each _ (rowAt_mem (feasts := feasts) (n := lo) hw.len)).len
    obtain ⟨u4, u5, u6, u7, u8, u9, u10, u11, e'⟩ := days_loop hw hF (m := m) (lo := lo + 1) (acc := acc ++ (pcs lo (rowAt days feasts lo)).flatMap (clipD fi la)) (v4 := w4) (v5 := w5) (v6 := w6) (v7 := w7) (v8 := w8) (v9 := w9) (v10 := w10) (v11 := w11) (by rw [List.length_append]; omega)
    refine ⟨u4, u5, u6, u7, u8, u9, u10, u11, ?_⟩
    simp only [rangeD, forL, e, Option.bind_some]
    rw [e']
    simp [allPcs]
theorem bi_maxF {f : Int} {p : Pc} : biRun .max2 [.int f, .int p.1] = some (.int (loF f p)) := rfl
theorem bi_minF {l : Int} {p : Pc} : biRun .min2 [.int l, .int p.2.1] = some (.int (hiF l p)) := rfl
theorem stretches_ok {d : D} {days : List (List St)} {feasts : List Int} {fi la : Int} (hn : P f = some ⟨3, 13, B_stretches g⟩) (h1 : P g = some ⟨2, 4, B_day_of⟩) (hd : IsWeek d days feasts) (hw : WeekOk days feasts) (b0 : 0 ≤ fi) (b1 : la ≤ 100000000) (b2 : fi ≤ la) :
    callF P (k + 2) f [.d d, .d (.int fi), .d (.int la)] S = some (.lst ((allPcs days feasts (fi / 86400) (la / 86400 + 1 - fi / 86400).toNat).flatMap (clipD fi la)), S) := by
  rw [callF_b hn rfl (by decide)]
  show (evSs (callF P (k + 1)) (B_stretches g) [some (.d d), some (.d (.int fi)), some (.d (.int la)), none, none, none, none, none, none, none, none, none, none] S).bind _ = _
  unfold B_stretches
  rw [ss_nx (ρ' := [some (.d d), some (.d (.int fi)), some (.d (.int la)), some (.mu S.length), none, none, none, none, none, none, none, none, none]) (S' := S ++ [.lst []]) (by simp [evS, evZ])]
  have ei : evI (callF P (k + 1)) (.r2 (.bin .div (.var 1) (.cst (.int 86400))) (.bin .add (.bin .div (.var 2) (.cst (.int 86400))) (.cst (.int 1)))) [some (.d d), some (.d (.int fi)), some (.d (.int la)), some (.mu S.length), none, none, none, none, none, none, none, none, none] (S ++ [.lst []]) = some (rangeD (fi / 86400) (la / 86400 + 1 - fi / 86400).toNat, S ++ [.lst []]) :=
    x_r2 (i := fi / 86400) (j := la / 86400 + 1) (S1 := S ++ [.lst []]) (by simp [evE, rd_d, flatD, b_div]) (by simp [evE, rd_d, flatD, b_div, b_add]) (by omega) (by omega) (by omega) (by omega)
  obtain ⟨w4, w5, w6, w7, w8, w9, w10, w11, lp⟩ := days_loop (S := S) (F := fun d ρ S => (asgn (.name 4) d ρ).bind fun ρ' => evSs (callF P (k + 1)) (.cons (.asg (.name 5) (.call g (.cons (.var 0) (.cons (.var 4) (.nil))))) (.cons (.asg (.name 6) (.bin .add (.comp [7, 12] (.tup (.tcons (.name 7) (.tcons (.name 12) (.tnil)))) (.seq (.sl (.var 5) (.some (.cst (.int 1))) (.none))) (.none) (.var 7)) (.lst (.cons (.cst (.int 86400)) (.nil))))) (.cons (.forS (.tup (.tcons (.tup (.tcons (.name 7) (.tcons (.name 8) (.tnil)))) (.tcons (.name 9) (.tnil)))) (.zip (.var 5) (.var 6)) (.cons (.asg (.name 10) (.bi .max2 (.cons (.var 1) (.cons (.bin .add (.bin .mul (.var 4) (.cst (.int 86400))) (.var 7)) (.nil))))) (.cons (.asg (.name 11) (.bi .min2 (.cons (.var 2) (.cons (.bin .add (.bin .mul (.var 4) (.cst (.int 86400))) (.var 9)) (.nil))))) (.cons (.ifs (.val (.cmp .lt (.var 10) (.var 11))) (.cons (.app 3 (.tup (.cons (.var 10) (.cons (.var 11) (.cons (.var 8) (.nil)))))) (.nil)) (.nil)) (.nil))))) (.nil)))) ρ' S)
    (a0 := some (.d d)) (a1 := some (.d (.int fi))) (a2 := some (.d (.int la))) (a3 := some (.mu S.length)) (a12 := none) (fi := fi) (la := la) (days := days) (feasts := feasts) hw (fun n v4 v5 v6 v7 v8 v9 v10 v11 acc hacc => by
      obtain ⟨y, e, q⟩ := day_of_ok (k := k) (S := S ++ [.lst acc]) (n := n) h1 hd hw.len
      obtain ⟨rs, sq, a⟩ := q
      have hr := hw.each _ (rowAt_mem (feasts := feasts) (n := n) hw.len)
      have hlen := a.length
      have ea : asgn (.name 4) (.int n) [some (.d d), some (.d (.int fi)), some (.d (.int la)), some (.mu S.length), v4, v5, v6, v7, v8, v9, v10, v11, none] = some [some (.d d), some (.d (.int fi)), some (.d (.int la)), some (.mu S.length), some (.d (.int n)), v5, v6, v7, v8, v9, v10, v11, none] := rfl
      have s5 : evS (callF P (k + 1)) (.asg (.name 5) (.call g (.cons (.var 0) (.cons (.var 4) (.nil))))) [some (.d d), some (.d (.int fi)), some (.d (.int la)), some (.mu S.length), some (.d (.int n)), v5, v6, v7, v8, v9, v10, v11, none] (S ++ [.lst acc]) = some (.nx [some (.d d), some (.d (.int fi)), some (.d (.int la)), some (.mu S.length), some (.d (.int n)), some (.d y), v6, v7, v8, v9, v10, v11, none] (S ++ [.lst acc])) := by
        rw [x_asg (w := .d y) (S1 := S ++ [.lst acc]) (by simp [evE, evEs, e]) (by simp)]
        rfl
      have at' : All2 IsSt rs.tail (rowAt days feasts n).tail := a.tl
      have c1 := compL_rel (f := fun d' S' => (asgn (.tup (.tcons (.name 7) (.tcons (.name 12) (.tnil)))) d' (wipeE [some (.d d), some (.d (.int fi)), some (.d (.int la)), some (.mu S.length), some (.d (.int n)), some (.d y), v6, v7, v8, v9, v10, v11, none] [7, 12])).bind fun ρ' => (evTo (callF P (k + 1)) .none ρ' S').bind fun q => if q.1 = true then (evE (callF P (k + 1)) (.var 7) ρ' q.2).bind fun w => (fzW w.1 w.2).map fun z => (some z.1, z.2) else some (none, q.2))
        (S := S ++ [.lst acc]) (ys := (rowAt days feasts n).tail.map fun p => .int p.1) (ds := rs.tail) (acc := []) (at'.mapL fun y p q => by
          rcases q with rfl | rfl <;> simp [wipeE, asgn, asgns, evE, evTo, fz_d]) (by have := hr.len; simp [sizeLine_val]; omega)
      have hc := e_comp (c := callF P (k + 1)) (vs := [7, 12]) (tg := .tup (.tcons (.name 7) (.tcons (.name 12) (.tnil)))) (it := .seq (.sl (.var 5) (.some (.cst (.int 1))) (.none))) (cond := .none) (elt := .var 7) (ρ := [some (.d d), some (.d (.int fi)), some (.d (.int la)), some (.mu S.length), some (.d (.int n)), some (.d y), v6, v7, v8, v9, v10, v11, none]) (S := S ++ [.lst acc]) (S1 := S ++ [.lst acc]) (ds := rs.tail) rfl
        (by rcases sq with rfl | rfl <;> simp [evI, evE, evO, rd_d, flatD, slRun, cut1]) c1
      have hend : (endsD (rowAt days feasts n)).length ≤ sizeLine := by have := hr.len; simp [endsD, sizeLine_val]; omega
      have s6 : evS (callF P (k + 1)) (.asg (.name 6) (.bin .add (.comp [7, 12] (.tup (.tcons (.name 7) (.tcons (.name 12) (.tnil)))) (.seq (.sl (.var 5) (.some (.cst (.int 1))) (.none))) (.none) (.var 7)) (.lst (.cons (.cst (.int 86400)) (.nil))))) [some (.d d), some (.d (.int fi)), some (.d (.int la)), some (.mu S.length), some (.d (.int n)), some (.d y), v6, v7, v8, v9, v10, v11, none] (S ++ [.lst acc]) = some (.nx [some (.d d), some (.d (.int fi)), some (.d (.int la)), some (.mu S.length), some (.d (.int n)), some (.d y), some (.d (.lst (endsD (rowAt days feasts n)))), v7, v8, v9, v10, v11, none] (S ++ [.lst acc])) := by
        have hl2 : ((rowAt days feasts n).tail.map fun p => D.int p.1).length + [D.int 86400].length ≤ sizeLine := by simpa [endsD] using hend
        have eb : evE (callF P (k + 1)) (.lst (.cons (.cst (.int 86400)) (.nil))) [some (.d d), some (.d (.int fi)), some (.d (.int la)), some (.mu S.length), some (.d (.int n)), some (.d y), v6, v7, v8, v9, v10, v11, none] (S ++ [.lst acc]) = some (.d (.lst [.int 86400]), S ++ [.lst acc]) := by
          simp [evE, evZ, flatD, fz_d, sizeLine_val]
        have e6 : evE (callF P (k + 1)) (.bin .add (.comp [7, 12] (.tup (.tcons (.name 7) (.tcons (.name 12) (.tnil)))) (.seq (.sl (.var 5) (.some (.cst (.int 1))) (.none))) (.none) (.var 7)) (.lst (.cons (.cst (.int 86400)) (.nil)))) [some (.d d), some (.d (.int fi)), some (.d (.int la)), some (.mu S.length), some (.d (.int n)), some (.d y), v6, v7, v8, v9, v10, v11, none] (S ++ [.lst acc]) = some (.d (.lst (endsD (rowAt days feasts n))), S ++ [.lst acc]) := by
          rw [evE, hc]
          simp only [Option.bind_some, eb, rd_d, List.nil_append, bRun, if_pos hl2, Option.map_some, endsD]
        rw [x_asg e6 (by simp)]
        rfl
      have ez : evI (callF P (k + 1)) (.zip (.var 5) (.var 6)) [some (.d d), some (.d (.int fi)), some (.d (.int la)), some (.mu S.length), some (.d (.int n)), some (.d y), some (.d (.lst (endsD (rowAt days feasts n)))), v7, v8, v9, v10, v11, none] (S ++ [.lst acc]) = some (zipD rs (endsD (rowAt days feasts n)), S ++ [.lst acc]) := by
        rcases sq with rfl | rfl <;> simp [evI, evE, seqOf]
      obtain ⟨w7, w8, w9, w10, w11, il⟩ := zip_loop (S := S) (G := fun d ρ S => (asgn (.tup (.tcons (.tup (.tcons (.name 7) (.tcons (.name 8) (.tnil)))) (.tcons (.name 9) (.tnil)))) d ρ).bind fun ρ' => evSs (callF P (k + 1)) (.cons (.asg (.name 10) (.bi .max2 (.cons (.var 1) (.cons (.bin .add (.bin .mul (.var 4) (.cst (.int 86400))) (.var 7)) (.nil))))) (.cons (.asg (.name 11) (.bi .min2 (.cons (.var 2) (.cons (.bin .add (.bin .mul (.var 4) (.cst (.int 86400))) (.var 9)) (.nil))))) (.cons (.ifs (.val (.cmp .lt (.var 10) (.var 11))) (.cons (.app 3 (.tup (.cons (.var 10) (.cons (.var 11) (.cons (.var 8) (.nil)))))) (.nil)) (.nil)) (.nil)))) ρ' S)
        (a0 := some (.d d)) (a1 := some (.d (.int fi))) (a2 := some (.d (.int la))) (a3 := some (.mu S.length)) (a4 := some (.d (.int n))) (a5 := some (.d y)) (a6 := some (.d (.lst (endsD (rowAt days feasts n))))) (a12 := none) (fi := fi) (la := la) (n := n) (r := rowAt days feasts n) (rs := rs) (acc := acc) (v7 := v7) (v8 := v8) (v9 := v9) (v10 := v10) (v11 := v11)
        (fun z p e v7 v8 v9 v10 v11 acc hz hacc => by
          have b1 : biRun .max2 [.int fi, .int (n * 86400 + p.1)] = some (.int (loF fi (n * 86400 + p.1, n * 86400 + e, p.2))) := rfl
          have b2 : biRun .min2 [.int la, .int (n * 86400 + e)] = some (.int (hiF la (n * 86400 + p.1, n * 86400 + e, p.2))) := rfl
          refine ⟨some (.d (.int p.1)), some (.d (.str p.2)), some (.d (.int e)), some (.d (.int (loF fi (n * 86400 + p.1, n * 86400 + e, p.2)))), some (.d (.int (hiF la (n * 86400 + p.1, n * 86400 + e, p.2)))), ?_⟩
          have ea : asgn (.tup (.tcons (.tup (.tcons (.name 7) (.tcons (.name 8) (.tnil)))) (.tcons (.name 9) (.tnil)))) (.tup [z, .int e]) [some (.d d), some (.d (.int fi)), some (.d (.int la)), some (.mu S.length), some (.d (.int n)), some (.d y), some (.d (.lst (endsD (rowAt days feasts n)))), v7, v8, v9, v10, v11, none] = some [some (.d d), some (.d (.int fi)), some (.d (.int la)), some (.mu S.length), some (.d (.int n)), some (.d y), some (.d (.lst (endsD (rowAt days feasts n)))), some (.d (.int p.1)), some (.d (.str p.2)), some (.d (.int e)), v10, v11, none] := by
            rcases hz with rfl | rfl <;> rfl
          show (asgn _ _ _).bind _ = _
          rw [ea, Option.bind_some]
          by_cases hc : loF fi (n * 86400 + p.1, n * 86400 + e, p.2) < hiF la (n * 86400 + p.1, n * 86400 + e, p.2)
          · rw [sizeLine_val] at hacc
            simp [evSs, evS, evE, evEs, evZ, evT, m_cons, m_nil, rd_d, fz_d, b_mul, b_add, b1, b2, c_lt, flatD, clipD, hc, lstAt_l (st_get S _), st_get, hacc, sizeLine_val, st_set]
          · simp [evSs, evS, evE, evEs, evZ, evT, m_cons, m_nil, rd_d, fz_d, b_mul, b_add, b1, b2, c_lt, flatD, clipD, hc]) a (by have := hr.len; omega)
      refine ⟨some (.d (.int n)), some (.d y), some (.d (.lst (endsD (rowAt days feasts n)))), w7, w8, w9, w10, w11, ?_⟩
      show (asgn _ _ _).bind _ = _
      rw [ea, Option.bind_some, ss_nx s5, ss_nx s6, ss_nx (x_for' ez il)]
      exact ss_0) (m := (la / 86400 + 1 - fi / 86400).toNat) (lo := fi / 86400) (acc := []) (v4 := none) (v5 := none) (v6 := none) (v7 := none) (v8 := none) (v9 := none) (v10 := none) (v11 := none) (by simp [sizeLine_val]; omega)
  rw [ss_nx (x_for' ei lp)]
  simp [evSs, evS, evE, fzW, st_get, fin]
theorem intsOf_map' : ∀ ns : List Int, intsOf (ns.map .int) = some ns
  | [] => rfl
  | n :: ns => by simp [intsOf, intsOf_map' ns]
theorem sum_ints (ns : List Int) : biRun .sum [.lst (ns.map .int)] = some (.int ns.sum) := by
  simp only [biRun, intsOf_map', Option.map_some]
theorem sum_loop {h : D → Store → Option (Option D × Store)} {fi la : Int} {now : Str} (hh : ∀ lo hi, h (.tup [.int lo, .int hi, .str now]) S = some (some (.int (hi - lo)), S)) : ∀ {ps : List Pc}, (∀ p ∈ ps, loF fi p < hiF la p → p.2.2 = now) →
    ∃ ns : List Int, All2 (fun y d => h d S = some (some y, S)) (ns.map .int) (ps.flatMap (clipD fi la)) ∧ ns.sum = (ps.map (ov fi la)).sum
  | [], _ => ⟨[], .nil, rfl⟩
  | p :: ps, hp => by
    obtain ⟨ns, a, e⟩ := sum_loop hh (ps := ps) fun p hm => hp p (List.mem_cons_of_mem _ hm)
    by_cases lt : loF fi p < hiF la p
    · refine ⟨(hiF la p - loF fi p) :: ns, ?_, ?_⟩
      · have ec : clipD fi la p = [.tup [.int (loF fi p), .int (hiF la p), .str now]] := by
          unfold clipD
          rw [if_pos lt, hp p List.mem_cons_self lt]
        rw [List.flatMap_cons, ec]
        exact .cons (hh _ _) a
      · rw [List.sum_cons, List.map_cons, List.sum_cons, e]
        simp only [ov, if_pos lt]
    · refine ⟨ns, ?_, ?_⟩
      · have ec : clipD fi la p = [] := by
          unfold clipD
          rw [if_neg lt]
        rw [List.flatMap_cons, ec]
        exact a
      · rw [List.map_cons, List.sum_cons, e]
        simp only [ov, if_neg lt]
        omega
theorem sum_comp {h : D → Store → Option (Option D × Store)} {fi la : Int} {now : Str} (hh : ∀ lo hi, h (.tup [.int lo, .int hi, .str now]) S = some (some (.int (hi - lo)), S)) {ps : List Pc} (hp : ∀ p ∈ ps, loF fi p < hiF la p → p.2.2 = now) (hl : (ps.flatMap (clipD fi la)).length ≤ sizeLine) :
    ∃ ns : List Int, compL h (ps.flatMap (clipD fi la)) S [] = some (ns.map .int, S) ∧ ns.sum = (ps.map (ov fi la)).sum := by
  obtain ⟨ns, a, e⟩ := sum_loop hh hp
  exact ⟨ns, compL_rel (f := h) (S := S) (acc := []) a (Nat.le_trans (Nat.le_of_eq (Nat.zero_add _)) hl), e⟩
theorem seconds_ok {str : Nat} {d : D} {days : List (List St)} {feasts : List Int} {i meant : Int} {now : Str} (h : IxB P x) (hn : P f = some ⟨4, 7, B_seconds_in x.need x.word x.sec x.week str⟩) (hs : P str = some ⟨3, 13, B_stretches x.dayOf⟩) (hd : IsWeek d days feasts) (hw : WeekOk days feasts)
    (hb : bandOf days feasts i = .str now) (hnow : wordB now = true) (h0 : 0 ≤ i) (hm : nextOf days feasts i now = .int meant) (h1 : i < meant) (h2 : meant ≤ 100000000) : callF P (k + 8) f [.d d, .d (.int i), .d (.int meant), .d (.str now)] S = some (.int (meant - i), S) := by
  have es := stretches_ok (k := k + 5) (S := S) hs h.dayOf hd hw h0 h2 (Int.le_of_lt h1)
  have ps := pc_sum (feasts := feasts) hw h1 h0
  have pn : ∀ p ∈ allPcs days feasts (i / 86400) (meant / 86400 + 1 - i / 86400).toNat, loF i p < hiF meant p → p.2.2 = now := fun p hp lt => pc_name hw hb hm (by omega) hp lt
  rw [callF_b hn rfl (by decide)]
  unfold B_seconds_in
  refine rt_fin ?_ rfl
  show evSs (callF P (k + 7)) _ [some (.d d), some (.d (.int i)), some (.d (.int meant)), some (.d (.str now)), none, none, none] S = _
  rw [ss_nx (h.needW rfl hd hw), ss_nx (h.needS rfl h0 (by omega)), ss_nx (h.needS rfl (by omega) h2)]
  rw [ss_nx (h.needE (k := k + 6) (a := .int 3) (by simp only [evE, evEs, List.getElem?_cons_succ, List.getElem?_cons_zero, Option.bind_some, Option.map_some]; rw [word_ok (k := k + 6) h.word hnow]; rfl) (by simp [evE, flatD]))]
  have hlen : ((allPcs days feasts (i / 86400) (meant / 86400 + 1 - i / 86400).toNat).flatMap (clipD i meant)).length ≤ sizeLine := by
    have h1 := flat_len (f := i) (l := meant) (ps := allPcs days feasts (i / 86400) (meant / 86400 + 1 - i / 86400).toNat)
    have h2 := allPcs_len (feasts := feasts) hw (m := (meant / 86400 + 1 - i / 86400).toNat) (lo := i / 86400)
    rw [sizeLine_val]
    omega
  obtain ⟨ns, c1, e⟩ := sum_comp (S := S) (fi := i) (la := meant) (now := now) (h := fun d' S => (asgn (.tup (.tcons (.name 4) (.tcons (.name 5) (.tcons (.name 6) (.tnil))))) d' (wipeE [some (.d d), some (.d (.int i)), some (.d (.int meant)), some (.d (.str now)), none, none, none] [4, 5, 6])).bind fun ρ' => (evTo (callF P (k + 7)) (.some (.val (.cmp .eq (.var 6) (.var 3)))) ρ' S).bind fun q => if q.1 = true then (evE (callF P (k + 7)) (.bin .sub (.var 5) (.var 4)) ρ' q.2).bind fun w => (fzW w.1 w.2).map fun z => (some z.1, z.2) else some (none, q.2))
    (fun lo hi => by simp [wipeE, asgn, asgns, evTo, evT, evE, rd_d, fz_d, c_eqs, b_sub]) pn hlen
  have hc := e_comp (c := callF P (k + 7)) (vs := [4, 5, 6]) (tg := .tup (.tcons (.name 4) (.tcons (.name 5) (.tcons (.name 6) (.tnil))))) (it := .seq (.call str (.cons (.var 0) (.cons (.var 1) (.cons (.var 2) (.nil)))))) (cond := .some (.val (.cmp .eq (.var 6) (.var 3)))) (elt := .bin .sub (.var 5) (.var 4)) (ρ := [some (.d d), some (.d (.int i)), some (.d (.int meant)), some (.d (.str now)), none, none, none]) (S := S) (S1 := S) rfl
    (by simp [evI, evE, evEs, es]) c1
  refine ss_rt (x_ret ?_)
  rw [evE]
  simp only [evEs, hc, Option.bind_some, Option.map_some, m_cons, m_nil, rd_d, sum_ints, e, ps]
end
end Pv

set_option Elab.async false
set_option linter.all false
set_option maxRecDepth 100000
set_option maxHeartbeats 1000000
/-! law k50: the small parts -/
namespace Pv
open PySem L2
/-- _law_near_second: 2 parameters, slots row spot -/
def B_law_near_second (i_law_take i_law_pick : Nat) : Ss := .cons (.ret (.call i_law_pick (.cons (.var 0) (.cons (.var 1) (.cons (.lst (.cons (.cst (.int 0)) (.cons (.cst (.int 0)) (.cons (.call i_law_take (.cons (.var 0) (.cons (.var 1) (.cons (.cst (.int 900)) (.nil))))) (.cons (.bin .mul (.call i_law_take (.cons (.var 0) (.cons (.var 1) (.cons (.cst (.int 997)) (.nil))))) (.cst (.int 100))) (.cons (.bin .mul (.call i_law_take (.cons (.var 0) (.cons (.var 1) (.cons (.cst (.int 997)) (.nil))))) (.cst (.int 300))) (.nil))))))) (.nil)))))) (.nil)
section
variable {P : Nat → Option Fn} {k f g : Nat} {S : Store} {x : Ix}
theorem so_non (h : P f = some ⟨2, 3, B_law_so f⟩) : callF P (k + 1) f [.d .non, .d .non] S = some (.bl true, S) := by
  rw [callF_b h rfl (by decide)]
  show (evSs (callF P k) (B_law_so f) [some (.d .non), some (.d .non), none] S).bind _ = _
  simp [B_law_so, evSs, evS, evE, evEs, evZ, evO, evI, evT, evTo, rd_d, fz_d, b_add, b_sub, b_mul, b_div, b_mod, b_p18, b_p8, b_p7, b_p6, c_lt, c_le, c_gt, c_ge, c_eq, c_ne, c_eqs, c_nes, c_nes0, c_nes1, c_eqs0, c_eqs1, l_t, l_l, bi_i, bi_max, bi_min, bi_tl, bi_tt, ix_l, ix_t, m_nil, m_cons, at0, at1, at2, flatD, seqOf, isNonW, fin, evX]
theorem so_int {i : Int} (h : P f = some ⟨2, 3, B_law_so f⟩) : callF P (k + 1) f [.d (.int i), .d (.int i)] S = some (.bl true, S) := by
  rw [callF_b h rfl (by decide)]
  show (evSs (callF P k) (B_law_so f) [some (.d (.int i)), some (.d (.int i)), none] S).bind _ = _
  simp [B_law_so, evSs, evS, evE, evEs, evZ, evO, evI, evT, evTo, rd_d, fz_d, b_add, b_sub, b_mul, b_div, b_mod, b_p18, b_p8, b_p7, b_p6, c_lt, c_le, c_gt, c_ge, c_eq, c_ne, c_eqs, c_nes, c_nes0, c_nes1, c_eqs0, c_eqs1, l_t, l_l, bi_i, bi_max, bi_min, bi_tl, bi_tt, ix_l, ix_t, m_nil, m_cons, at0, at1, at2, flatD, seqOf, isNonW, fin, evX, isi1, tyD, kB1, kB2, kB5]
theorem so_str {w : Str} (h : P f = some ⟨2, 3, B_law_so f⟩) : callF P (k + 1) f [.d (.str w), .d (.str w)] S = some (.bl true, S) := by
  rw [callF_b h rfl (by decide)]
  show (evSs (callF P k) (B_law_so f) [some (.d (.str w)), some (.d (.str w)), none] S).bind _ = _
  simp [B_law_so, evSs, evS, evE, evEs, evZ, evO, evI, evT, evTo, rd_d, fz_d, b_add, b_sub, b_mul, b_div, b_mod, b_p18, b_p8, b_p7, b_p6, c_lt, c_le, c_gt, c_ge, c_eq, c_ne, c_eqs, c_nes, c_nes0, c_nes1, c_eqs0, c_eqs1, l_t, l_l, bi_i, bi_max, bi_min, bi_tl, bi_tt, ix_l, ix_t, m_nil, m_cons, at0, at1, at2, flatD, seqOf, isNonW, fin, evX, isi1, tyD, kB11, kB12, kB13, kB15]
theorem nextOf_cases {days : List (List St)} {feasts : List Int} {i : Int} {now : Str} : nextOf days feasts i now = .non ∨ ∃ m, nextOf days feasts i now = .int m ∧ i < m ∧ m ≤ 100000000 := by
  unfold nextOf
  cases hf : (cands days feasts (i / 86400) (1158 - i / 86400).toNat).find? (hitL i now) with
  | none => exact .inl rfl
  | some q =>
    have hq := List.find?_some hf
    simp only [hitL, Bool.and_eq_true, decide_eq_true_eq] at hq
    exact .inr ⟨q.1, rfl, hq.1.1, hq.1.2⟩
theorem so_next {days : List (List St)} {feasts : List Int} {i : Int} {now : Str} (h : P f = some ⟨2, 3, B_law_so f⟩) : callF P (k + 1) f [.d (nextOf days feasts i now), .d (nextOf days feasts i now)] S = some (.bl true, S) := by
  rcases nextOf_cases (days := days) (feasts := feasts) (i := i) (now := now) with e | ⟨m, e, _⟩
  · rw [e]; exact so_non h
  · rw [e]; exact so_int h
theorem band_ok {d : D} {days : List (List St)} {feasts : List Int} {i : Int} (h : IxOk P x) (hn : P f = some ⟨2, 2, B_band x.need x.sec x.week x.bandAt⟩) (hd : IsWeek d days feasts) (hw : WeekOk days feasts)
    (h0 : 0 ≤ i) (h1 : i ≤ 100000000) : callF P (k + 8) f [.d d, .d (.int i)] S = some (bandOf days feasts i, S) := by
  have eb := band_at_ok (k := k + 5) (S := S) (x := i) h.bandAt h.dayOf hd hw.len
  rw [callF_b hn rfl (by decide)]
  unfold B_band
  refine rt_fin ?_ rfl
  show evSs (callF P (k + 7)) _ [some (.d d), some (.d (.int i))] S = _
  rw [ss_nx (h.needW rfl hd hw), ss_nx (h.needS rfl h0 h1)]
  exact ss_rt (x_ret (by simp [evE, evEs, eb]))
theorem bandR_mem {s : Int} : ∀ {r : List St} {b : D}, bandR s r b = b ∨ ∃ p ∈ r, bandR s r b = .str p.2
  | [], _ => .inl rfl
  | p :: r, b => by
    show bandR s r (if p.1 ≤ s then .str p.2 else b) = b ∨ _
    by_cases h : p.1 ≤ s
    · rw [if_pos h]
      rcases bandR_mem (s := s) (r := r) (b := .str p.2) with e | ⟨q, hq, e⟩
      · exact .inr ⟨p, List.mem_cons_self, by show bandR s r (if p.1 ≤ s then .str p.2 else b) = _; rw [if_pos h]; exact e⟩
      · exact .inr ⟨q, List.mem_cons_of_mem _ hq, by show bandR s r (if p.1 ≤ s then .str p.2 else b) = _; rw [if_pos h]; exact e⟩
    · rw [if_neg h]
      rcases bandR_mem (s := s) (r := r) (b := b) with e | ⟨q, hq, e⟩
      · exact .inl e
      · exact .inr ⟨q, List.mem_cons_of_mem _ hq, by show bandR s r (if p.1 ≤ s then .str p.2 else b) = _; rw [if_neg h]; exact e⟩
theorem bandOf_word {days : List (List St)} {feasts : List Int} {i : Int} (hw : WeekOk days feasts) : ∃ w, bandOf days feasts i = .str w ∧ wordB w = true := by
  obtain ⟨w, e⟩ := bandOf_str (x := i) hw
  refine ⟨w, e, ?_⟩
  rcases bandR_mem (s := i % 86400) (r := rowAt days feasts (i / 86400)) (b := .non) with e' | ⟨p, hp, e'⟩
  · unfold bandOf at e
    rw [e'] at e
    cases e
  · unfold bandOf at e
    rw [e'] at e
    obtain rfl := D.str.inj e
    exact ((hw.each _ (rowAt_mem hw.len)).each p hp).word
theorem Sp.len {S0 S : Store} {n : Nat} (h : Sp S0 n S) : S.length = S0.length := by
  obtain ⟨_, _, rfl⟩ := h
  simp
theorem near_ex {t p d n : Nat} {r : D} {S0 : Store} (hN : P f = some ⟨2, 2, B_law_near_second t p⟩) (hK : P p = some ⟨3, 3, B_law_pick t⟩) (hP : P t = some ⟨3, 3, B_law_take d⟩) (hD : P d = some ⟨3, 4, B_law_draw⟩) (hr : Row r) (hn : n < S0.length) (hS : Sp S0 n S) :
    ∃ i S', callF P (k + 4) f [.d r, .mu n] S = some (.int i, S') ∧ 0 ≤ i ∧ i ≤ 100000000 ∧ Sp S0 n S' := by
  obtain ⟨t1, S1, e1, a1, b1, p1⟩ := take_ex (k := k + 1) (lim := 900) hP hD hr hn hS (by decide)
  obtain ⟨t2, S2, e2, a2, b2, p2⟩ := take_ex (k := k + 1) (lim := 997) hP hD hr hn p1 (by decide)
  obtain ⟨t3, S3, e3, a3, b3, p3⟩ := take_ex (k := k + 1) (lim := 997) hP hD hr hn p2 (by decide)
  obtain ⟨y, S4, e4, hy, p4⟩ := pick_ex (k := k) (ds := [.int 0, .int 0, .int t1, .int (t2 * 100), .int (t3 * 300)]) hK hP hD hr hn p3 (.inl rfl) (by simp)
  have : ∃ i, y = .int i ∧ 0 ≤ i ∧ i ≤ 100000000 := by
    simp only [List.mem_cons, List.not_mem_nil, or_false] at hy
    rcases hy with rfl | rfl | rfl | rfl | rfl
    · exact ⟨_, rfl, by omega, by omega⟩
    · exact ⟨_, rfl, by omega, by omega⟩
    · exact ⟨_, rfl, by omega, by omega⟩
    · exact ⟨_, rfl, by omega, by omega⟩
    · exact ⟨_, rfl, by omega, by omega⟩
  obtain ⟨i, rfl, i0, i1⟩ := this
  refine ⟨i, S4, ?_, i0, i1, p4⟩
  rw [callF_b hN rfl (by decide)]
  unfold B_law_near_second
  refine rt_fin (ss_rt (x_ret ?_)) (by rw [p4.len, hS.len])
  show evE (callF P (k + 3)) _ [some (.d r), some (.mu n)] S = _
  simp [evE, evEs, evZ, flatD, fz_d, rd_d, b_mul, e1, e2, e3, e4, sizeLine_val]
/-! sorting -/
theorem insI_mem {a b : Int} : ∀ {l : List Int}, b ∈ insI a l ↔ b = a ∨ b ∈ l
  | [] => by simp [insI]
  | y :: ys => by
    unfold insI
    split
    · simp
    · rw [List.mem_cons, insI_mem (l := ys), List.mem_cons]
      constructor
      · rintro (h | h | h)
        · exact .inr (.inl h)
        · exact .inl h
        · exact .inr (.inr h)
      · rintro (h | h | h)
        · exact .inr (.inl h)
        · exact .inl h
        · exact .inr (.inr h)
theorem insI_upP {a : Int} : ∀ {l : List Int}, l.Pairwise (· < ·) → a ∉ l → (insI a l).Pairwise (· < ·)
  | [], _, _ => by simp [insI]
  | y :: ys, h, hn => by
    obtain ⟨h1, h2⟩ := List.pairwise_cons.mp h
    have ny : a ≠ y := fun e => hn (e ▸ List.mem_cons_self)
    have nys : a ∉ ys := fun e => hn (List.mem_cons_of_mem _ e)
    unfold insI
    split
    · refine List.pairwise_cons.mpr ⟨fun b hb => ?_, h⟩
      rcases List.mem_cons.mp hb with rfl | hb
      · omega
      · have := h1 b hb
        omega
    · refine List.pairwise_cons.mpr ⟨fun b hb => ?_, insI_upP h2 nys⟩
      rcases insI_mem.mp hb with rfl | hb
      · omega
      · exact h1 b hb
theorem insI_len {a : Int} : ∀ {l : List Int}, (insI a l).length = l.length + 1
  | [] => rfl
  | y :: ys => by
    unfold insI
    split
    · rfl
    · rw [List.length_cons, insI_len, List.length_cons]
theorem sortI_mem {b : Int} : ∀ {l : List Int}, b ∈ sortI l ↔ b ∈ l
  | [] => by simp [sortI]
  | x :: xs => by rw [sortI, insI_mem, sortI_mem, List.mem_cons]
theorem sortI_len : ∀ {l : List Int}, (sortI l).length = l.length
  | [] => rfl
  | x :: xs => by rw [sortI, insI_len, sortI_len, List.length_cons]
theorem sortI_upP : ∀ {l : List Int}, l.Nodup → (sortI l).Pairwise (· < ·)
  | [], _ => List.Pairwise.nil
  | x :: xs, h => by
    obtain ⟨h1, h2⟩ := List.nodup_cons.mp h
    exact insI_upP (sortI_upP h2) fun e => h1 (sortI_mem.mp e)
theorem Asc_of_up {l : List Int} (h : l.Pairwise (· < ·)) : Asc l := by
  intro i a b ha hb
  obtain ⟨l1, e1⟩ := List.getElem?_eq_some_iff.mp ha
  obtain ⟨l2, e2⟩ := List.getElem?_eq_some_iff.mp hb
  have := (List.pairwise_iff_getElem.mp h) i (i + 1) l1 l2 (by omega)
  rw [e1, e2] at this
  exact this
theorem intsK_map : ∀ ns : List Int, intsK (ns.map .inl) = some ns
  | [] => rfl
  | n :: ns => by simp [intsK, intsK_map ns]
theorem sorted_keys (ns : List Int) (ds : List D) : biRun .sorted [.dK (ns.map .inl) ds] = some (.lst ((sortI ns).map .int)) := by
  simp only [biRun, intsK_map, Option.map_some]
theorem putD_keys {z : Int} {d : D} {ns : List Int} {ds : List D} : ∃ ds', putD (κ := Key) (.inl z) d (ns.map .inl) ds = ((if z ∈ ns then ns else ns ++ [z]).map .inl, ds') := by
  have e : ((ns.map Sum.inl).any fun q : Key => decide (q = .inl z)) = decide (z ∈ ns) := by
    induction ns with
    | nil => rfl
    | cons a t ih =>
      rw [List.map_cons, List.any_cons, ih]
      by_cases h : a = z
      · subst h; simp
      · have : ¬ z = a := fun e => h e.symm
        simp [h, this]
  unfold putD
  rw [e]
  by_cases h : z ∈ ns
  · simp [h]
  · simp [h]
end
end Pv

set_option Elab.async false
set_option linter.all false
set_option maxRecDepth 100000
set_option maxHeartbeats 1000000
/-! Working out meanings from the front: what an answer must bear. -/
namespace Pv
open PySem L2
/-- there is an answer, and it bears Q -/
def OkR {α : Type} (x : Option α) (Q : α → Prop) : Prop := ∃ a, x = some a ∧ Q a
theorem okR_bind {α β : Type} {x : Option α} {f : α → Option β} {Q : β → Prop} : OkR (x.bind f) Q ↔ OkR x fun a => OkR (f a) Q := by
  cases x with
  | none => simp [OkR]
  | some a => simp [OkR]
theorem okR_map {α β : Type} {x : Option α} {f : α → β} {Q : β → Prop} : OkR (x.map f) Q ↔ OkR x fun a => Q (f a) := by
  cases x with
  | none => simp [OkR]
  | some a => simp [OkR]
theorem okR_some {α : Type} {a : α} {Q : α → Prop} : OkR (some a) Q ↔ Q a := by simp [OkR]
theorem OkR.imp {α : Type} {x : Option α} {Q Q' : α → Prop} (h : OkR x Q) (i : ∀ a, Q a → Q' a) : OkR x Q' := let ⟨a, e, q⟩ := h; ⟨a, e, i a q⟩
theorem OkR.of {α : Type} {x : Option α} {a : α} {Q : α → Prop} (e : x = some a) (q : Q a) : OkR x Q := ⟨a, e, q⟩
/-- behind a statement -/
def NxQ (c : Call) (ss : Ss) (Q : Out → Prop) : Out → Prop
  | .nx ρ S => OkR (evSs c ss ρ S) Q
  | o => Q o
theorem nx_nx {c : Call} {ss : Ss} {Q : Out → Prop} {ρ : En} {S : Store} : NxQ c ss Q (.nx ρ S) ↔ OkR (evSs c ss ρ S) Q := Iff.rfl
theorem nx_rt {c : Call} {ss : Ss} {Q : Out → Prop} {d : D} {S : Store} : NxQ c ss Q (.rt d S) ↔ Q (.rt d S) := Iff.rfl
theorem nx_bk {c : Call} {ss : Ss} {Q : Out → Prop} {ρ : En} {S : Store} : NxQ c ss Q (.bk ρ S) ↔ Q (.bk ρ S) := Iff.rfl
theorem nx_ct {c : Call} {ss : Ss} {Q : Out → Prop} {ρ : En} {S : Store} : NxQ c ss Q (.ct ρ S) ↔ Q (.ct ρ S) := Iff.rfl
theorem nx_xc {c : Call} {ss : Ss} {Q : Out → Prop} {d : D} {S : Store} : NxQ c ss Q (.xc d S) ↔ Q (.xc d S) := Iff.rfl
theorem ss_step {c : Call} {s : Pv.S} {ss : Ss} {ρ : En} {S : Store} {Q : Out → Prop} (h : OkR (evS c s ρ S) (NxQ c ss Q)) : OkR (evSs c (.cons s ss) ρ S) Q := by
  obtain ⟨o, e, q⟩ := h
  simp only [evSs, e, Option.bind_some]
  cases o with
  | nx ρ' S' => exact q
  | _ => exact ⟨_, rfl, q⟩
theorem ss_done {c : Call} {ρ : En} {S : Store} {Q : Out → Prop} (h : Q (.nx ρ S)) : OkR (evSs c .nil ρ S) Q := ⟨_, by simp only [evSs], h⟩
theorem ret_b {c : Call} {ρ : En} {S : Store} {b : Bool} {ss : Ss} {Q : Out → Prop} (h : Q (.rt (.bl b) S)) : OkR (evSs c (.cons (.ret (.cst (.bl b))) ss) ρ S) Q := ⟨.rt (.bl b) S, by simp [evSs, evS, evE, flatD, fzW], h⟩
/-- a def that gives -/
theorem def_ok {P : Nat → Option Fn} {k f : Nat} {ws : List W} {S : Store} {q : Fn} {ρ : En} {Q : D × Store → Prop} (h : P f = some q) (h1 : ws.length = q.ar) (h2 : q.ar ≤ q.sl) (hρ : startE q.sl ws = ρ)
    (e : OkR (evSs (callF P k) q.body ρ S) fun o => OkR (fin S.length o) Q) : OkR (callF P (k + 1) f ws S) Q := by
  obtain ⟨o, e1, e2⟩ := e
  rw [callF_eq h h1 h2, hρ, e1]
  exact e2
theorem fin_rt {n : Nat} {d : D} {S : Store} {Q : D × Store → Prop} (h : Q (d, S.take n)) : OkR (fin n (.rt d S)) Q := ⟨_, rfl, h⟩
/-- ends with a value, the store as long as before -/
theorem fin_rl {n : Nat} {d : D} {S : Store} {Q : D × Store → Prop} (hl : S.length = n) (h : Q (d, S)) : OkR (fin n (.rt d S)) Q := by
  refine fin_rt ?_
  rw [List.take_of_length_le (by omega)]
  exact h
theorem ifs_ok {c : Call} {t : T} {a b : Ss} {ρ : En} {S : Store} {Q : Out → Prop} (h : OkR (evT c t ρ S) fun p => if p.1 = true then OkR (evSs c a ρ p.2) Q else OkR (evSs c b ρ p.2) Q) : OkR (evS c (.ifs t a b) ρ S) Q := by
  obtain ⟨⟨x, S1⟩, e, q⟩ := h
  simp only [evS, e, Option.bind_some]
  cases x with
  | true => simpa using q
  | false => simpa using q
theorem for_ok {c : Call} {tg : Tg} {it : It} {body : Ss} {ρ : En} {S : Store} {Q : Out → Prop} (h : OkR (evI c it ρ S) fun p => OkR (forL (fun d ρ S => (asgn tg d ρ).bind fun ρ' => evSs c body ρ' S) p.1 ρ p.2) Q) : OkR (evS c (.forS tg it body) ρ S) Q := by
  obtain ⟨⟨x, S1⟩, e, q⟩ := h
  simp only [evS, e, Option.bind_some]
  exact q
/-- a loop by its invariant -/
theorem loop_ok {f : D → En → Store → Option Out} {ds : List D} {Q : Out → Prop} (I : Nat → En → Store → Prop) {ρ : En} {S : Store} (h0 : I 0 ρ S)
    (hs : ∀ (i : Nat) d ρ S, ds[i]? = some d → I i ρ S → OkR (f d ρ S) (Next (I (i + 1)) Q)) (he : ∀ ρ S, I ds.length ρ S → Q (.nx ρ S)) : OkR (forL f ds ρ S) Q :=
  forL_gen I h0 (fun i d ρ S hd h => hs i d ρ S hd h) he
theorem next_nx {I : En → Store → Prop} {Z : Out → Prop} {ρ : En} {S : Store} : Next I Z (.nx ρ S) ↔ I ρ S := Iff.rfl
theorem next_ct {I : En → Store → Prop} {Z : Out → Prop} {ρ : En} {S : Store} : Next I Z (.ct ρ S) ↔ I ρ S := Iff.rfl
theorem next_bk {I : En → Store → Prop} {Z : Out → Prop} {ρ : En} {S : Store} : Next I Z (.bk ρ S) ↔ Z (.nx ρ S) := Iff.rfl
theorem next_rt {I : En → Store → Prop} {Z : Out → Prop} {d : D} {S : Store} : Next I Z (.rt d S) ↔ Z (.rt d S) := Iff.rfl
/-- a comprehension all of whose items are kept -/
theorem comp_ok {c : Call} {vs : List Nat} {tg : Tg} {it : It} {elt : E} {ρ : En} {S : Store} {Q : W × Store → Prop} (ht : tgIn tg vs = true) (R : D → D → Prop) (J : Store → Prop)
    (h : OkR (evI c it ρ S) fun p => J p.2 ∧ p.1.length ≤ sizeLine ∧ (∀ d ∈ p.1, ∀ S, J S → OkR (asgn tg d (wipeE ρ vs)) fun ρ' => OkR (evE c elt ρ' S) fun w => OkR (fzW w.1 w.2) fun z => R z.1 d ∧ J z.2) ∧
      ∀ ds' S', All2 R ds' p.1 → J S' → Q (.d (.lst ds'), S')) : OkR (evE c (.comp vs tg it .none elt) ρ S) Q := by
  obtain ⟨⟨ds, S1⟩, e1, hJ, hl, hs, k⟩ := h
  obtain ⟨ds', S2, e2, r, j2⟩ := compL_all (f := fun d S => (asgn tg d (wipeE ρ vs)).bind fun ρ' => (evTo c .none ρ' S).bind fun q => if q.1 = true then (evE c elt ρ' q.2).bind fun w => (fzW w.1 w.2).map fun z => (some z.1, z.2) else some (none, q.2))
    (R := R) (J := J) (acc := []) (fun d hd S hS => by
      obtain ⟨ρ', a1, w, a2, z, a3, a4, a5⟩ := hs d hd S hS
      exact ⟨z.1, z.2, by simp only [a1, Option.bind_some, evTo, if_true, a2, a3, Option.map_some], a4, a5⟩) hJ (by simpa using hl)
  refine ⟨_, e_comp ht e1 e2, ?_⟩
  simpa using k ds' S2 r j2
theorem All2.memR {α β : Type} {R : α → β → Prop} : ∀ {as : List α} {bs : List β} {b : β}, All2 R as bs → b ∈ bs → ∃ a ∈ as, R a b
  | _, _, _, .nil, h => by simp at h
  | _, _, _, .cons x t, h => by
    rcases List.mem_cons.mp h with rfl | h
    · exact ⟨_, List.mem_cons_self, x⟩
    · obtain ⟨b, hb, r⟩ := All2.memR t h
      exact ⟨b, List.mem_cons_of_mem _ hb, r⟩
/-! expressions, one by one (all but comprehensions) -/
theorem ee_var {cc : Call} {ρ : En} {S : Store} {i : Nat} : evE cc (.var i) ρ S = (match ρ[i]? with
    | some (some w) => some (w, S)
    | _ => none) := by first | (simp only [evE]; done) | (simp only [evE]; rfl)
theorem ee_cst {cc : Call} {ρ : En} {S : Store} {d : D} : evE cc (.cst d) ρ S = (if flatD d then some (.d d, S) else none) := by first | (simp only [evE]; done) | (simp only [evE]; rfl)
theorem ee_fnv {cc : Call} {ρ : En} {S : Store} {f : Nat} : evE cc (.fnv f) ρ S = (some (.d (.fn f), S)) := by first | (simp only [evE]; done) | (simp only [evE]; rfl)
theorem ee_bin {cc : Call} {ρ : En} {S : Store} {o : BOp} {a : E} {b : E} : evE cc (.bin o a b) ρ S = ((evE cc a ρ S).bind fun (x, S) => (evE cc b ρ S).bind fun (y, S) => (rdW x S).bind fun x => (rdW y S).bind fun y => (bRun o x y).map fun z => (.d z, S)) := by first | (simp only [evE]; done) | (simp only [evE]; rfl)
theorem ee_neg {cc : Call} {ρ : En} {S : Store} {a : E} : evE cc (.neg a) ρ S = ((evE cc a ρ S).bind fun (x, S) => match x with
    | .d (.int i) => some (.d (.int (-i)), S)
    | _ => none) := by first | (simp only [evE]; done) | (simp only [evE]; rfl)
theorem ee_cmp {cc : Call} {ρ : En} {S : Store} {o : COp} {a : E} {b : E} : evE cc (.cmp o a b) ρ S = ((evE cc a ρ S).bind fun (x, S) => (evE cc b ρ S).bind fun (y, S) => (rdW x S).bind fun x => (rdW y S).bind fun y => (cRun o x y).map fun z => (.d (.bl z), S)) := by first | (simp only [evE]; done) | (simp only [evE]; rfl)
theorem ee_chain {cc : Call} {ρ : En} {S : Store} {o : COp} {o2 : COp} {a : E} {b : E} {k : E} : evE cc (.chain o o2 a b k) ρ S = ((evE cc a ρ S).bind fun (x, S) => (evE cc b ρ S).bind fun (y, S) => (rdW x S).bind fun x => (rdW y S).bind fun y' => (cRun o x y').bind fun z =>
      if z then (evE cc k ρ S).bind fun (w, S) => (rdW y S).bind fun y => (rdW w S).bind fun w => (cRun o2 y w).map fun z => (.d (.bl z), S) else some (.d (.bl false), S)) := by first | (simp only [evE]; done) | (simp only [evE]; rfl)
theorem ee_isN {cc : Call} {ρ : En} {S : Store} {a : E} : evE cc (.isN a) ρ S = ((evE cc a ρ S).map fun (x, S) => (.d (.bl (isNonW x)), S)) := by first | (simp only [evE]; done) | (simp only [evE]; rfl)
theorem ee_notN {cc : Call} {ρ : En} {S : Store} {a : E} : evE cc (.notN a) ρ S = ((evE cc a ρ S).map fun (x, S) => (.d (.bl (!isNonW x)), S)) := by first | (simp only [evE]; done) | (simp only [evE]; rfl)
theorem ee_and {cc : Call} {ρ : En} {S : Store} {a : E} {b : E} : evE cc (.and a b) ρ S = ((evE cc a ρ S).bind fun (x, S) => match x with
    | .d (.bl true) => evE cc b ρ S
    | .d (.bl false) => some (.d (.bl false), S)
    | _ => none) := by first | (simp only [evE]; done) | (simp only [evE]; rfl)
theorem ee_or {cc : Call} {ρ : En} {S : Store} {a : E} {b : E} : evE cc (.or a b) ρ S = ((evE cc a ρ S).bind fun (x, S) => match x with
    | .d (.bl false) => evE cc b ρ S
    | .d (.bl true) => some (.d (.bl true), S)
    | _ => none) := by first | (simp only [evE]; done) | (simp only [evE]; rfl)
theorem ee_not {cc : Call} {ρ : En} {S : Store} {a : E} : evE cc (.not a) ρ S = ((evE cc a ρ S).bind fun (x, S) => match x with
    | .d (.bl b) => some (.d (.bl (!b)), S)
    | _ => none) := by first | (simp only [evE]; done) | (simp only [evE]; rfl)
theorem ee_ite {cc : Call} {ρ : En} {S : Store} {k : T} {a : E} {b : E} : evE cc (.ite k a b) ρ S = ((evT cc k ρ S).bind fun (x, S) => if x = true then evE cc a ρ S else evE cc b ρ S) := by first | (simp only [evE]; done) | (simp only [evE]; rfl)
theorem ee_call {cc : Call} {ρ : En} {S : Store} {f : Nat} {as : Es} : evE cc (.call f as) ρ S = ((evEs cc as ρ S).bind fun (ws, S) => (cc f ws S).map fun (d, S) => (.d d, S)) := by first | (simp only [evE]; done) | (simp only [evE]; rfl)
theorem ee_callv {cc : Call} {ρ : En} {S : Store} {i : Nat} {as : Es} : evE cc (.callv i as) ρ S = (match ρ[i]? with
    | some (some (.d (.fn f))) => (evEs cc as ρ S).bind fun (ws, S) => (cc f ws S).map fun (d, S) => (.d d, S)
    | _ => none) := by first | (simp only [evE]; done) | (simp only [evE]; rfl)
theorem ee_bi {cc : Call} {ρ : En} {S : Store} {b : Bi} {as : Es} : evE cc (.bi b as) ρ S = ((evEs cc as ρ S).bind fun (ws, S) => (ws.mapM fun w => rdW w S).bind fun ds => (biRun b ds).map fun d => (.d d, S)) := by first | (simp only [evE]; done) | (simp only [evE]; rfl)
theorem ee_isi1 {cc : Call} {ρ : En} {S : Store} {a : E} {t : String} : evE cc (.isi1 a t) ρ S = ((evE cc a ρ S).bind fun (x, S) => (rdW x S).bind fun x => (isi1 x t).map fun b => (.d (.bl b), S)) := by first | (simp only [evE]; done) | (simp only [evE]; rfl)
theorem ee_isi2 {cc : Call} {ρ : En} {S : Store} {a : E} {t : String} {u : String} : evE cc (.isi2 a t u) ρ S = ((evE cc a ρ S).bind fun (x, S) => (rdW x S).bind fun x => (isi2 x t u).map fun b => (.d (.bl b), S)) := by first | (simp only [evE]; done) | (simp only [evE]; rfl)
theorem ee_mt0 {cc : Call} {ρ : En} {S : Store} {m : Me} {a : E} : evE cc (.mt0 m a) ρ S = ((evE cc a ρ S).bind fun (x, S) => (rdW x S).bind fun x => (meRun0 m x).map fun d => (.d d, S)) := by first | (simp only [evE]; done) | (simp only [evE]; rfl)
theorem ee_mt1 {cc : Call} {ρ : En} {S : Store} {m : Me} {a : E} {b : E} : evE cc (.mt1 m a b) ρ S = ((evE cc a ρ S).bind fun (x, S) => (evE cc b ρ S).bind fun (y, S) => (rdW x S).bind fun x => (rdW y S).bind fun y => (meRun1 m x y).map fun d => (.d d, S)) := by first | (simp only [evE]; done) | (simp only [evE]; rfl)
theorem ee_ix {cc : Call} {ρ : En} {S : Store} {a : E} {i : E} : evE cc (.ix a i) ρ S = ((evE cc a ρ S).bind fun (x, S) => (evE cc i ρ S).bind fun (y, S) => (rdW x S).bind fun x => (rdW y S).bind fun y => (ixRun x y).map fun d => (.d d, S)) := by first | (simp only [evE]; done) | (simp only [evE]; rfl)
theorem ee_sl {cc : Call} {ρ : En} {S : Store} {a : E} {lo : Eo} {hi : Eo} : evE cc (.sl a lo hi) ρ S = ((evE cc a ρ S).bind fun (x, S) => (evO cc lo ρ S).bind fun (l, S) => (evO cc hi ρ S).bind fun (h, S) => (rdW x S).bind fun x => (slRun x l h).map fun d => (.d d, S)) := by first | (simp only [evE]; done) | (simp only [evE]; rfl)
theorem ee_tup {cc : Call} {ρ : En} {S : Store} {as : Es} : evE cc (.tup as) ρ S = ((evZ cc as ρ S).bind fun (ds, S) => if ds.length ≤ sizeLine then some (.d (.tup ds), S) else none) := by first | (simp only [evE]; done) | (simp only [evE]; rfl)
theorem ee_lst {cc : Call} {ρ : En} {S : Store} {as : Es} : evE cc (.lst as) ρ S = ((evZ cc as ρ S).bind fun (ds, S) => if ds.length ≤ sizeLine then some (.d (.lst ds), S) else none) := by first | (simp only [evE]; done) | (simp only [evE]; rfl)
theorem b_m7 {i : Int} : bRun .mul (.int i) (.int 7) = some (.int (i * 7)) := b_mul (by decide) (by decide)
theorem b_m86400 {i : Int} : bRun .mul (.int i) (.int 86400) = some (.int (i * 86400)) := b_mul (by decide) (by decide)
theorem b_m1000000000 {i : Int} : bRun .mul (.int i) (.int 1000000000) = some (.int (i * 1000000000)) := b_mul (by decide) (by decide)
theorem b_m60 {i : Int} : bRun .mul (.int i) (.int 60) = some (.int (i * 60)) := b_mul (by decide) (by decide)
theorem b_m600 {i : Int} : bRun .mul (.int i) (.int 600) = some (.int (i * 600)) := b_mul (by decide) (by decide)
theorem b_d7 {i : Int} : bRun .div (.int i) (.int 7) = some (.int (i / 7)) := b_div (by decide) (by decide)
theorem b_d86400 {i : Int} : bRun .div (.int i) (.int 86400) = some (.int (i / 86400)) := b_div (by decide) (by decide)
theorem b_d1000 {i : Int} : bRun .div (.int i) (.int 1000) = some (.int (i / 1000)) := b_div (by decide) (by decide)
theorem b_p10_5 : bRun .pow (.int 10) (.int 5) = some (.int 100000) := (b_pow ⟨by decide, by decide, by decide⟩).trans (congrArg (fun x => some (D.int x)) (by decide : (10 : Int) ^ (5 : Int).toNat = 100000))
theorem b_p10_9 : bRun .pow (.int 10) (.int 9) = some (.int 1000000000) := (b_pow ⟨by decide, by decide, by decide⟩).trans (congrArg (fun x => some (D.int x)) (by decide : (10 : Int) ^ (9 : Int).toNat = 1000000000))
theorem b_p10_12 : bRun .pow (.int 10) (.int 12) = some (.int 1000000000000) := (b_pow ⟨by decide, by decide, by decide⟩).trans (congrArg (fun x => some (D.int x)) (by decide : (10 : Int) ^ (12 : Int).toNat = 1000000000000))
theorem b_p10_15 : bRun .pow (.int 10) (.int 15) = some (.int 1000000000000000) := (b_pow ⟨by decide, by decide, by decide⟩).trans (congrArg (fun x => some (D.int x)) (by decide : (10 : Int) ^ (15 : Int).toNat = 1000000000000000))
section
variable {P : Nat → Option Fn} {k f : Nat} {S : Store}
theorem take_ok {d n : Nat} {r : D} {lim : Int} {S0 : Store} {Q : D × Store → Prop} (hP : P f = some ⟨3, 3, B_law_take d⟩) (hD : P d = some ⟨3, 4, B_law_draw⟩) (hr : Row r) (hn : n < S0.length) (hS : Sp S0 n S) (hl : 0 < lim)
    (q : ∀ t S', 0 ≤ t → t < lim → Sp S0 n S' → Q (.int t, S')) : OkR (callF P (k + 2) f [.d r, .mu n, .d (.int lim)] S) Q := by
  obtain ⟨t, S', e, h0, h1, h2⟩ := take_ex (k := k) hP hD hr hn hS hl
  exact ⟨_, e, q t S' h0 h1 h2⟩
theorem wide_ok {g d n : Nat} {r : D} {lim : Int} {S0 : Store} {Q : D × Store → Prop} (hW : P f = some ⟨3, 6, B_law_wide g⟩) (hP : P g = some ⟨3, 3, B_law_take d⟩) (hD : P d = some ⟨3, 4, B_law_draw⟩) (hr : Row r) (hn : n < S0.length) (hS : Sp S0 n S) (hl : 0 < lim)
    (q : ∀ t S', 0 ≤ t → t < lim → Sp S0 n S' → Q (.int t, S')) : OkR (callF P (k + 3) f [.d r, .mu n, .d (.int lim)] S) Q := by
  obtain ⟨t, S', e, h0, h1, h2⟩ := wide_ex (k := k) hW hP hD hr hn hS hl
  exact ⟨_, e, q t S' h0 h1 h2⟩
theorem pick_ok {g d n : Nat} {r x : D} {ds : List D} {S0 : Store} {Q : D × Store → Prop} (hK : P f = some ⟨3, 3, B_law_pick g⟩) (hP : P g = some ⟨3, 3, B_law_take d⟩) (hD : P d = some ⟨3, 4, B_law_draw⟩) (hr : Row r) (hn : n < S0.length) (hS : Sp S0 n S)
    (hx : x = .lst ds ∨ x = .tup ds) (hne : ds ≠ []) (q : ∀ y S', y ∈ ds → Sp S0 n S' → Q (y, S')) : OkR (callF P (k + 3) f [.d r, .mu n, .d x] S) Q := by
  obtain ⟨t, S', e, h0, h1⟩ := pick_ex (k := k) hK hP hD hr hn hS hx hne
  exact ⟨_, e, q t S' h0 h1⟩
end
end Pv

set_option Elab.async false
set_option linter.all false
set_option maxRecDepth 100000
set_option maxHeartbeats 1000000
/-! What is_week says of any value. -/
namespace Pv
open PySem L2
/-- a value that may be handed in: flat, or a list or a tuple of such, so deep -/
def Vt : Nat → D → Bool
  | n + 1, .tup ds => decide (ds.length ≤ sizeLine) && ds.all (Vt n)
  | n + 1, .lst ds => decide (ds.length ≤ sizeLine) && ds.all (Vt n)
  | _, .str w => decide (w.length ≤ sizeLine)
  | _, d => flatD d
def sqL : D → Option (List D)
  | .tup ds => some ds
  | .lst ds => some ds
  | _ => none
theorem sqL_sq {d : D} {ds : List D} (h : sqL d = some ds) : Sq d ds := by
  cases d <;> simp [sqL] at h <;> subst h
  · exact .inr rfl
  · exact .inl rfl
theorem vt_ok {m : Nat} {d : D} (h : Vt m d = true) : okV d = true := by
  cases m <;> cases d <;> first | rfl | (simp [Vt, flatD] at h; done)
theorem vt_sq {m : Nat} {d : D} {ds : List D} (h : Vt m d = true) (e : sqL d = some ds) : ds.length ≤ sizeLine ∧ ∀ x ∈ ds, ∃ m', Vt m' x = true := by
  cases m with
  | zero => cases d <;> simp [sqL, Vt, flatD] at h e
  | succ m =>
    cases d <;> simp [sqL] at e <;> subst e <;> simp [Vt] at h
    · exact ⟨h.1, fun x hx => ⟨m, h.2 x hx⟩⟩
    · exact ⟨h.1, fun x hx => ⟨m, h.2 x hx⟩⟩
theorem vt_nosq {m : Nat} {d : D} (h : Vt m d = true) (e : sqL d = none) : isi2 d "list" "tuple" = some false := by
  cases m <;> cases d <;> first | (simp [Vt, flatD] at h; done) | (simp [sqL] at e; done) | simp [isi2, isi1, tyD, kB4, kB5, kB9, kB10, kB14, kB15, kB29, kB30]
def wordD : D → Bool
  | .str w => wordB w
  | _ => false
def startB (d : D) : Bool := match sqL d with
  | some [a, b] => isW 0 86399 a && wordD b
  | _ => false
def startI (d : D) : Int := match sqL d with
  | some (.int i :: _) => i
  | _ => 0
def ascB (ns : List Int) : Bool := (List.range (ns.length - 1)).all fun j => decide (ns.getD j 0 < ns.getD (j + 1) 0)
def dayB (d : D) : Bool := match sqL d with
  | some ds => (decide (1 ≤ ds.length) && decide (ds.length ≤ 8)) && ds.all startB && (decide ((ds.map startI).getD 0 0 = 0) && ascB (ds.map startI))
  | none => false
def intI : D → Int
  | .int i => i
  | _ => 0
def feastsB (d : D) : Bool := match sqL d with
  | some ds => decide (ds.length ≤ 20) && ds.all (isW 0 1000) && ascB (ds.map intI)
  | none => false
def daysB (d : D) : Bool := match sqL d with
  | some ds => decide (ds.length = 8) && ds.all dayB
  | none => false
def weekB (d : D) : Bool := match sqL d with
  | some [a, b] => daysB a && feastsB b
  | _ => false
theorem ascB_iff {ns : List Int} : ascB ns = true ↔ Asc ns := by
  unfold ascB Asc
  rw [List.all_eq_true]
  constructor
  · intro h i a b h1 h2
    have hi : i + 1 < ns.length := (List.getElem?_eq_some_iff.mp h2).1
    have := h i (List.mem_range.mpr (by omega))
    simp only [decide_eq_true_eq, List.getD_eq_getElem?_getD, h1, h2, Option.getD_some] at this
    exact this
  · intro h j hj
    have hj := List.mem_range.mp hj
    have e1 : ns[j]? = some ns[j] := List.getElem?_eq_getElem (by omega)
    have e2 : ns[j + 1]? = some ns[j + 1] := List.getElem?_eq_getElem (by omega)
    simp only [decide_eq_true_eq, List.getD_eq_getElem?_getD, e1, e2, Option.getD_some]
    exact h j _ _ e1 e2
section
variable {P : Nat → Option Fn} {k f g : Nat} {S : Store} {x : Ix}
theorem rangeD_range : ∀ (n : Nat) (lo : Int), rangeD lo n = (List.range n).map fun j => .int (lo + (j : Int))
  | 0, _ => rfl
  | n + 1, lo => by
    rw [rangeD, rangeD_range n (lo + 1), List.range_succ_eq_map, List.map_cons, List.map_map]
    congr 1
    · simp
    · apply List.map_congr_left
      intro j _
      show D.int _ = D.int _
      congr 1
      simp; omega
theorem ascending_eq {d : D} {ns : List Int} (h : P f = some ⟨1, 2, B_is_ascending⟩) (hd : Sq d (ns.map .int)) (hl : ns.length ≤ 1000000) : callF P (k + 1) f [.d d] S = some (.bl (ascB ns), S) := by
  rw [callF_b h rfl (by decide)]
  show (evSs (callF P k) B_is_ascending [some (.d d), none] S).bind _ = _
  have el : evE (callF P k) (.bin .sub (.bi .len (.cons (.var 0) (.nil))) (.cst (.int 1))) [some (.d d), none] S = some (.d (.int ((ns.length : Int) - 1)), S) := by
    rcases hd with rfl | rfl <;> simp [evSs, evS, evE, evEs, evZ, evO, evI, evT, evTo, rd_d, fz_d, b_add, b_sub, b_mul, b_div, b_mod, b_p18, b_p8, b_p7, b_p6, c_lt, c_le, c_gt, c_ge, c_eq, c_ne, c_eqs, c_nes, c_nes0, c_nes1, c_eqs0, c_eqs1, l_t, l_l, bi_i, bi_max, bi_min, bi_tl, bi_tt, ix_l, ix_t, m_nil, m_cons, at0, at1, at2, flatD, seqOf, isNonW, fin, evX]
  have hi := x_r1 el (by omega) (by omega)
  have ex : ∀ (ρ : En), ρ[0]? = some (some (.d d)) → ∀ (j : Nat) a e', ns[j]? = some a → evE (callF P k) e' ρ S = some (.d (.int j), S) → evE (callF P k) (.ix (.var 0) e') ρ S = some (.d (.int a), S) := by
    intro ρ h0 j a e' hj he
    have : L2.atI (ns.map D.int) (j : Int) = some (.int a) := L2.atI_nat (by simp [hj])
    rcases hd with rfl | rfl <;> simp [evE, h0, he, rd_d, ix_l, ix_t, this]
  have c1 := compL_map (f := fun d' S => (asgn (.name 1) d' (wipeE [some (.d d), none] [1])).bind fun ρ' => (evTo (callF P k) .none ρ' S).bind fun q => if q.1 = true then (evE (callF P k) (.cmp .lt (.ix (.var 0) (.var 1)) (.ix (.var 0) (.bin .add (.var 1) (.cst (.int 1))))) ρ' q.2).bind fun w => (fzW w.1 w.2).map fun z => (some z.1, z.2) else some (none, q.2))
    (g := fun y => .bl (decide (ns.getD (intI y).toNat 0 < ns.getD ((intI y).toNat + 1) 0))) (S := S) (ds := rangeD 0 ((ns.length : Int) - 1).toNat) (acc := []) (fun x hx => by
      obtain ⟨j, hj⟩ := List.mem_iff_getElem?.mp hx
      obtain ⟨hj1, rfl⟩ := rangeD_get hj
      have l1 : j < ns.length := by omega
      have l2 : j + 1 < ns.length := by omega
      have e1 : ns[j]? = some ns[j] := List.getElem?_eq_getElem l1
      have e2 : ns[j + 1]? = some ns[j + 1] := List.getElem?_eq_getElem l2
      have q1 := ex [some (.d d), some (.d (.int (0 + (j : Int))))] rfl j _ (.var 1) e1 (by simp [evSs, evS, evE, evEs, evZ, evO, evI, evT, evTo, rd_d, fz_d, b_add, b_sub, b_mul, b_div, b_mod, b_p18, b_p8, b_p7, b_p6, c_lt, c_le, c_gt, c_ge, c_eq, c_ne, c_eqs, c_nes, c_nes0, c_nes1, c_eqs0, c_eqs1, l_t, l_l, bi_i, bi_max, bi_min, bi_tl, bi_tt, ix_l, ix_t, m_nil, m_cons, at0, at1, at2, flatD, seqOf, isNonW, fin, evX])
      have q2 := ex [some (.d d), some (.d (.int (0 + (j : Int))))] rfl (j + 1) _ (.bin .add (.var 1) (.cst (.int 1))) e2 (by simp [evSs, evS, evE, evEs, evZ, evO, evI, evT, evTo, rd_d, fz_d, b_add, b_sub, b_mul, b_div, b_mod, b_p18, b_p8, b_p7, b_p6, c_lt, c_le, c_gt, c_ge, c_eq, c_ne, c_eqs, c_nes, c_nes0, c_nes1, c_eqs0, c_eqs1, l_t, l_l, bi_i, bi_max, bi_min, bi_tl, bi_tt, ix_l, ix_t, m_nil, m_cons, at0, at1, at2, flatD, seqOf, isNonW, fin, evX])
      have ej : (intI (.int (0 + (j : Int)))).toNat = j := by simp [intI]
      simp only [wipeE, asgn, List.set_cons_succ, List.set_cons_zero, List.length_cons, List.length_nil, Nat.lt_add_one, if_true, Option.bind_some, evTo]
      rw [evE]
      simp only [q1, q2, Option.bind_some, rd_d, c_lt, Option.map_some, fz_d, ej, List.getD_eq_getElem?_getD, e1, e2, Option.getD_some])
    (by rw [rangeD_length]; simp [sizeLine_val]; omega)
  have hc := e_comp (c := callF P k) (vs := [1]) (tg := .name 1) (cond := .none) (ρ := [some (.d d), none]) (S := S) (S1 := S) rfl hi c1
  unfold B_is_ascending
  refine rt_fin (ss_rt (x_ret ?_)) rfl
  rw [evE]
  simp only [evEs, hc, Option.bind_some, Option.map_some, m_cons, m_nil, rd_d, List.nil_append]
  have := all_bls (fun y => decide (ns.getD (intI y).toNat 0 < ns.getD ((intI y).toNat + 1) 0)) (rangeD 0 ((ns.length : Int) - 1).toNat)
  simp only [this, Option.map_some]
  have e2 : (rangeD 0 ((ns.length : Int) - 1).toNat).all (fun y => decide (ns.getD (intI y).toNat 0 < ns.getD ((intI y).toNat + 1) 0)) = ascB ns := by
    rw [rangeD_range, List.all_map]
    unfold ascB
    have : ((ns.length : Int) - 1).toNat = ns.length - 1 := by omega
    rw [this]
    congr 1
    funext j
    simp [intI]
  rw [e2]
theorem word_eq {m : Nat} {d : D} (h : P f = some ⟨1, 1, B_is_word⟩) (hd : Vt m d = true) : callF P (k + 1) f [.d d] S = some (.bl (wordD d), S) := by
  rw [callF_b h rfl (by decide)]
  show (evSs (callF P k) B_is_word [some (.d d)] S).bind _ = _
  have no : ∀ d, okV d = true → isi1 d "str" = some false → wordD d = false → (evSs (callF P k) B_is_word [some (.d d)] S).bind (fin S.length) = some (.bl (wordD d), S) := fun d _ h1 h2 => by
    simp [B_is_word, evSs, evS, evE, evEs, evZ, evO, evI, evT, evTo, rd_d, fz_d, b_add, b_sub, b_mul, b_div, b_mod, b_p18, b_p8, b_p7, b_p6, c_lt, c_le, c_gt, c_ge, c_eq, c_ne, c_eqs, c_nes, c_nes0, c_nes1, c_eqs0, c_eqs1, l_t, l_l, bi_i, bi_max, bi_min, bi_tl, bi_tt, ix_l, ix_t, m_nil, m_cons, at0, at1, at2, flatD, seqOf, isNonW, fin, evX, h1, h2]
  cases d with
  | str w =>
    have hw : w.length ≤ sizeLine := by cases m <;> simpa [Vt] using hd
    have hl : biRun .len [.str w] = some (.int w.length) := l_s hw
    by_cases q1 : (1 : Int) ≤ (w.length : Int)
    · by_cases q8 : (w.length : Int) ≤ 8
      · have b1 : 1 ≤ w.length := by omega
        have b8 : w.length ≤ 8 := by omega
        simp only [wordD, wordB, decide_eq_true b1, decide_eq_true b8, Bool.true_and]
        cases ha : Txt.isascii w <;> cases hb : Txt.isalpha w <;> cases hc : Txt.islower w <;> simp [B_is_word, evSs, evS, evE, evEs, evZ, evO, evI, evT, evTo, rd_d, fz_d, b_add, b_sub, b_mul, b_div, b_mod, b_p18, b_p8, b_p7, b_p6, c_lt, c_le, c_gt, c_ge, c_eq, c_ne, c_eqs, c_nes, c_nes0, c_nes1, c_eqs0, c_eqs1, l_t, l_l, bi_i, bi_max, bi_min, bi_tl, bi_tt, ix_l, ix_t, m_nil, m_cons, at0, at1, at2, flatD, seqOf, isNonW, fin, evX, isi1, tyD, kB13, hl, q1, q8, meRun0, ha, hb, hc]
      · have b8 : ¬ w.length ≤ 8 := by omega
        simp [B_is_word, evSs, evS, evE, evEs, evZ, evO, evI, evT, evTo, rd_d, fz_d, b_add, b_sub, b_mul, b_div, b_mod, b_p18, b_p8, b_p7, b_p6, c_lt, c_le, c_gt, c_ge, c_eq, c_ne, c_eqs, c_nes, c_nes0, c_nes1, c_eqs0, c_eqs1, l_t, l_l, bi_i, bi_max, bi_min, bi_tl, bi_tt, ix_l, ix_t, m_nil, m_cons, at0, at1, at2, flatD, seqOf, isNonW, fin, evX, isi1, tyD, kB13, hl, q1, q8, wordD, wordB, b8]
    · have b1 : ¬ 1 ≤ w.length := by omega
      simp [B_is_word, evSs, evS, evE, evEs, evZ, evO, evI, evT, evTo, rd_d, fz_d, b_add, b_sub, b_mul, b_div, b_mod, b_p18, b_p8, b_p7, b_p6, c_lt, c_le, c_gt, c_ge, c_eq, c_ne, c_eqs, c_nes, c_nes0, c_nes1, c_eqs0, c_eqs1, l_t, l_l, bi_i, bi_max, bi_min, bi_tl, bi_tt, ix_l, ix_t, m_nil, m_cons, at0, at1, at2, flatD, seqOf, isNonW, fin, evX, isi1, tyD, kB13, hl, q1, wordD, wordB, b1]
  | non => exact no _ rfl (by simp [isi1, tyD, kB28]) rfl
  | bl b => exact no _ rfl (by simp [isi1, tyD, kB8]) rfl
  | int i => exact no _ rfl (by simp [isi1, tyD, kB3]) rfl
  | tup ds => exact no _ rfl (by simp [isi1, tyD, kB23]) rfl
  | lst ds => exact no _ rfl (by simp [isi1, tyD, kB18]) rfl
  | _ => cases m <;> simp [Vt, flatD] at hd
def rowsB (lo hi : Int) (d : D) : Bool := match sqL d with
  | some ds => decide (lo ≤ (ds.length : Int)) && decide ((ds.length : Int) ≤ hi)
  | none => false
theorem rows_eq {m : Nat} {d : D} {lo hi : Int} (h : P f = some ⟨3, 3, B_is_rows⟩) (hd : Vt m d = true) : callF P (k + 1) f [.d d, .d (.int lo), .d (.int hi)] S = some (.bl (rowsB lo hi d), S) := by
  cases e : sqL d with
  | some ds =>
    rw [rows_ok h (sqL_sq e)]
    simp only [rowsB, e]
  | none =>
    have e2 := vt_nosq hd e
    rw [callF_b h rfl (by decide)]
    show (evSs (callF P k) B_is_rows [some (.d d), some (.d (.int lo)), some (.d (.int hi))] S).bind _ = _
    simp [B_is_rows, evSs, evS, evE, evEs, evZ, evO, evI, evT, evTo, rd_d, fz_d, b_add, b_sub, b_mul, b_div, b_mod, b_p18, b_p8, b_p7, b_p6, c_lt, c_le, c_gt, c_ge, c_eq, c_ne, c_eqs, c_nes, c_nes0, c_nes1, c_eqs0, c_eqs1, l_t, l_l, bi_i, bi_max, bi_min, bi_tl, bi_tt, ix_l, ix_t, m_nil, m_cons, at0, at1, at2, flatD, seqOf, isNonW, fin, evX, e2, rowsB, e]
theorem rows_of_eq {m n : Nat} {d : D} {lo hi : Int} {p : D → Bool} (h : P f = some ⟨4, 5, B_is_rows_of g⟩) (h1 : P g = some ⟨3, 3, B_is_rows⟩) (hd : Vt m d = true)
    (hm : ∀ y m', Vt m' y = true → callF P (k + 1) n [.d y] S = some (.bl (p y), S)) : callF P (k + 2) f [.d d, .d (.int lo), .d (.int hi), .d (.fn n)] S = some (.bl (match sqL d with | some ds => (decide (lo ≤ (ds.length : Int)) && decide ((ds.length : Int) ≤ hi)) && ds.all p | none => false), S) := by
  cases e : sqL d with
  | some ds =>
    obtain ⟨v1, v2⟩ := vt_sq hd e
    exact rows_of_ok h h1 (sqL_sq e) v1 fun y hy => let ⟨m', v⟩ := v2 y hy; hm y m' v
  | none =>
    have e1 := rows_eq (k := k) (S := S) (lo := lo) (hi := hi) h1 hd
    rw [callF_b h rfl (by decide)]
    show (evSs (callF P (k + 1)) (B_is_rows_of g) [some (.d d), some (.d (.int lo)), some (.d (.int hi)), some (.d (.fn n)), none] S).bind _ = _
    simp [B_is_rows_of, evSs, evS, evE, evEs, evZ, evO, evI, evT, evTo, rd_d, fz_d, b_add, b_sub, b_mul, b_div, b_mod, b_p18, b_p8, b_p7, b_p6, c_lt, c_le, c_gt, c_ge, c_eq, c_ne, c_eqs, c_nes, c_nes0, c_nes1, c_eqs0, c_eqs1, l_t, l_l, bi_i, bi_max, bi_min, bi_tl, bi_tt, ix_l, ix_t, m_nil, m_cons, at0, at1, at2, flatD, seqOf, isNonW, fin, evX, e1, rowsB, e]
theorem len2 {ds : List D} (h : rowsB 2 2 d = true) (e : sqL d = some ds) : ∃ a b, ds = [a, b] := by
  simp [rowsB, e] at h
  match ds, h with
  | [a, b], _ => exact ⟨a, b, rfl⟩
theorem start_eq {iw ii id_ ir : Nat} {m : Nat} {y : D} (h : P f = some ⟨1, 1, B_is_start iw id_ ir⟩) (h1 : P iw = some ⟨3, 3, B_is_within ii⟩) (h2 : P ii = some ⟨1, 1, B_is_integer⟩) (h3 : P id_ = some ⟨1, 1, B_is_word⟩) (h4 : P ir = some ⟨3, 3, B_is_rows⟩)
    (hy : Vt m y = true) : callF P (k + 3) f [.d y] S = some (.bl (startB y), S) := by
  have e1 := rows_eq (k := k + 1) (S := S) (lo := 2) (hi := 2) h4 hy
  rw [callF_b h rfl (by decide)]
  show (evSs (callF P (k + 2)) (B_is_start iw id_ ir) [some (.d y)] S).bind _ = _
  cases hr : rowsB 2 2 y with
  | false =>
    rw [hr] at e1
    have : startB y = false := by
      unfold startB
      split
      · rename_i a b e
        simp [rowsB, e] at hr
      · rfl
    simp [B_is_start, evSs, evS, evE, evEs, evZ, evO, evI, evT, evTo, rd_d, fz_d, b_add, b_sub, b_mul, b_div, b_mod, b_p18, b_p8, b_p7, b_p6, c_lt, c_le, c_gt, c_ge, c_eq, c_ne, c_eqs, c_nes, c_nes0, c_nes1, c_eqs0, c_eqs1, l_t, l_l, bi_i, bi_max, bi_min, bi_tl, bi_tt, ix_l, ix_t, m_nil, m_cons, at0, at1, at2, flatD, seqOf, isNonW, fin, evX, e1, this]
  | true =>
    rw [hr] at e1
    cases e : sqL y with
    | none => simp [rowsB, e] at hr
    | some ds =>
      obtain ⟨a, b, rfl⟩ := len2 hr e
      obtain ⟨_, v⟩ := vt_sq hy e
      obtain ⟨ma, va⟩ := v a (by simp)
      obtain ⟨mb, vb⟩ := v b (by simp)
      have e2 := within_ok (k := k) (S := S) (d := a) (lo := 0) (hi := 86399) h1 h2 (vt_ok va)
      have e3 := word_eq (k := k + 1) (S := S) h3 vb
      have hs : startB y = (isW 0 86399 a && wordD b) := by simp [startB, e]
      rw [hs]
      have sq := sqL_sq e
      cases ha : isW 0 86399 a <;> rw [ha] at e2 <;> rcases sq with rfl | rfl <;> simp [B_is_start, evSs, evS, evE, evEs, evZ, evO, evI, evT, evTo, rd_d, fz_d, b_add, b_sub, b_mul, b_div, b_mod, b_p18, b_p8, b_p7, b_p6, c_lt, c_le, c_gt, c_ge, c_eq, c_ne, c_eqs, c_nes, c_nes0, c_nes1, c_eqs0, c_eqs1, l_t, l_l, bi_i, bi_max, bi_min, bi_tl, bi_tt, ix_l, ix_t, m_nil, m_cons, at0, at1, at2, flatD, seqOf, isNonW, fin, evX, e1, e2, e3]
theorem startI_ix {y : D} (h : startB y = true) : ixRun y (.int 0) = some (.int (startI y)) := by
  unfold startB at h
  split at h
  · rename_i a b e
    simp only [Bool.and_eq_true] at h
    cases a <;> simp [isW] at h
    rename_i i
    rcases sqL_sq e with rfl | rfl <;> simp [startI, sqL, ixRun, at0]
  · cases h
theorem day_eq {iw ii id_ ir ro ia is_ : Nat} {m : Nat} {x : D} (h : P f = some ⟨1, 3, B_is_day ro ia is_⟩) (h5 : P ro = some ⟨4, 5, B_is_rows_of ir⟩) (h6 : P ia = some ⟨1, 2, B_is_ascending⟩) (h7 : P is_ = some ⟨1, 1, B_is_start iw id_ ir⟩)
    (h1 : P iw = some ⟨3, 3, B_is_within ii⟩) (h2 : P ii = some ⟨1, 1, B_is_integer⟩) (h3 : P id_ = some ⟨1, 1, B_is_word⟩) (h4 : P ir = some ⟨3, 3, B_is_rows⟩) (hx : Vt m x = true) : callF P (k + 5) f [.d x] S = some (.bl (dayB x), S) := by
  have e1 := rows_of_eq (k := k + 2) (S := S) (lo := 1) (hi := 8) (n := is_) (p := startB) h5 h4 hx (fun y m' hy => start_eq (k := k) h7 h1 h2 h3 h4 hy)
  rw [callF_b h rfl (by decide)]
  show (evSs (callF P (k + 4)) (B_is_day ro ia is_) [some (.d x), none, none] S).bind _ = _
  cases e : sqL x with
  | none =>
    rw [e] at e1
    have : dayB x = false := by simp [dayB, e]
    simp [B_is_day, evSs, evS, evE, evEs, evZ, evO, evI, evT, evTo, rd_d, fz_d, b_add, b_sub, b_mul, b_div, b_mod, b_p18, b_p8, b_p7, b_p6, c_lt, c_le, c_gt, c_ge, c_eq, c_ne, c_eqs, c_nes, c_nes0, c_nes1, c_eqs0, c_eqs1, l_t, l_l, bi_i, bi_max, bi_min, bi_tl, bi_tt, ix_l, ix_t, m_nil, m_cons, at0, at1, at2, flatD, seqOf, isNonW, fin, evX, e1, this]
  | some ds =>
    rw [e] at e1
    have hd : dayB x = ((decide (1 ≤ ds.length) && decide (ds.length ≤ 8)) && ds.all startB && (decide ((ds.map startI).getD 0 0 = 0) && ascB (ds.map startI))) := by simp [dayB, e]
    have eq1 : (decide ((1 : Int) ≤ (ds.length : Int)) && decide ((ds.length : Int) ≤ 8)) = (decide (1 ≤ ds.length) && decide (ds.length ≤ 8)) := by
      congr 1 <;> congr 1 <;> simp <;> omega
    simp only [eq1] at e1
    rw [hd]
    cases hb : ((decide (1 ≤ ds.length) && decide (ds.length ≤ 8)) && ds.all startB) with
    | false =>
      rw [hb] at e1
      simp [B_is_day, evSs, evS, evE, evEs, evZ, evO, evI, evT, evTo, rd_d, fz_d, b_add, b_sub, b_mul, b_div, b_mod, b_p18, b_p8, b_p7, b_p6, c_lt, c_le, c_gt, c_ge, c_eq, c_ne, c_eqs, c_nes, c_nes0, c_nes1, c_eqs0, c_eqs1, l_t, l_l, bi_i, bi_max, bi_min, bi_tl, bi_tt, ix_l, ix_t, m_nil, m_cons, at0, at1, at2, flatD, seqOf, isNonW, fin, evX, e1]
    | true =>
      rw [hb] at e1
      simp only [Bool.and_eq_true, decide_eq_true_eq, List.all_eq_true] at hb
      obtain ⟨⟨l1, l8⟩, hs⟩ := hb
      have sq := sqL_sq e
      have c1 := compL_map (f := fun d' S => (asgn (.name 2) d' (wipeE [some (.d x), none, none] [2])).bind fun ρ' => (evTo (callF P (k + 4)) .none ρ' S).bind fun q => if q.1 = true then (evE (callF P (k + 4)) (.ix (.var 2) (.cst (.int 0))) ρ' q.2).bind fun w => (fzW w.1 w.2).map fun z => (some z.1, z.2) else some (none, q.2))
        (g := fun y => .int (startI y)) (S := S) (ds := ds) (acc := []) (fun y hy => by
          have := startI_ix (hs y hy)
          simp [wipeE, asgn, evSs, evS, evE, evEs, evZ, evO, evI, evT, evTo, rd_d, fz_d, b_add, b_sub, b_mul, b_div, b_mod, b_p18, b_p8, b_p7, b_p6, c_lt, c_le, c_gt, c_ge, c_eq, c_ne, c_eqs, c_nes, c_nes0, c_nes1, c_eqs0, c_eqs1, l_t, l_l, bi_i, bi_max, bi_min, bi_tl, bi_tt, ix_l, ix_t, m_nil, m_cons, at0, at1, at2, flatD, seqOf, isNonW, fin, evX, this]) (by simp [sizeLine_val]; omega)
      have hc := e_comp (c := callF P (k + 4)) (vs := [2]) (tg := .name 2) (it := .seq (.var 0)) (cond := .none) (ρ := [some (.d x), none, none]) (S := S) (S1 := S) (ds := ds) rfl (by rcases sq with rfl | rfl <;> simp [evSs, evS, evE, evEs, evZ, evO, evI, evT, evTo, rd_d, fz_d, b_add, b_sub, b_mul, b_div, b_mod, b_p18, b_p8, b_p7, b_p6, c_lt, c_le, c_gt, c_ge, c_eq, c_ne, c_eqs, c_nes, c_nes0, c_nes1, c_eqs0, c_eqs1, l_t, l_l, bi_i, bi_max, bi_min, bi_tl, bi_tt, ix_l, ix_t, m_nil, m_cons, at0, at1, at2, flatD, seqOf, isNonW, fin, evX]) c1
      have em : (ds.map fun p => D.int (startI p)) = (ds.map startI).map .int := by simp
      have e2 := ascending_eq (k := k + 3) (S := S) (d := .lst (ds.map fun p => .int (startI p))) (ns := ds.map startI) h6 (.inl (by rw [em])) (by simp; omega)
      simp only [List.nil_append] at hc
      have hz : L2.atI (ds.map fun p => D.int (startI p)) 0 = some (.int ((ds.map startI).getD 0 0)) := by
        cases ds with
        | nil => simp at l1
        | cons d t => exact at0
      have s1 : evS (callF P (k + 4)) (.asg (.name 1) (.comp [2] (.name 2) (.seq (.var 0)) (.none) (.ix (.var 2) (.cst (.int 0))))) [some (.d x), none, none] S = some (.nx [some (.d x), some (.d (.lst (ds.map fun p => .int (startI p)))), none] S) := by
        rw [x_asg hc (by simp)]
        rfl
      unfold B_is_day
      refine rt_fin ?_ rfl
      rw [ss_nx (x_iff (S1 := S) (by simp [evSs, evS, evE, evEs, evZ, evO, evI, evT, evTo, rd_d, fz_d, b_add, b_sub, b_mul, b_div, b_mod, b_p18, b_p8, b_p7, b_p6, c_lt, c_le, c_gt, c_ge, c_eq, c_ne, c_eqs, c_nes, c_nes0, c_nes1, c_eqs0, c_eqs1, l_t, l_l, bi_i, bi_max, bi_min, bi_tl, bi_tt, ix_l, ix_t, m_nil, m_cons, at0, at1, at2, flatD, seqOf, isNonW, fin, evX, e1]) ss_0), ss_nx s1]
      cases hq : decide ((ds.map startI).getD 0 0 = 0) with
      | false =>
        have hq' : ¬ (ds.map startI).getD 0 0 = 0 := by simpa using hq
        simp only [evSs, evS, evE, evEs, Option.bind_some, Option.map_some, rd_d, flatD, if_true, List.getElem?_cons_zero, List.getElem?_cons_succ, ix_l, hz, c_eq, hq, Bool.false_and, fz_d, Bool.true_and]
      | true =>
        simp only [evSs, evS, evE, evEs, Option.bind_some, Option.map_some, rd_d, flatD, if_true, List.getElem?_cons_zero, List.getElem?_cons_succ, ix_l, hz, c_eq, hq, Bool.true_and, e2, fz_d]
theorem feast_eq {iw ii : Nat} {m : Nat} {y : D} (h : P f = some ⟨1, 1, B_is_feast iw⟩) (h1 : P iw = some ⟨3, 3, B_is_within ii⟩) (h2 : P ii = some ⟨1, 1, B_is_integer⟩) (hy : Vt m y = true) : callF P (k + 3) f [.d y] S = some (.bl (isW 0 1000 y), S) := by
  have e2 := within_ok (k := k) (S := S) (d := y) (lo := 0) (hi := 1000) h1 h2 (vt_ok hy)
  rw [callF_b h rfl (by decide)]
  show (evSs (callF P (k + 2)) (B_is_feast iw) [some (.d y)] S).bind _ = _
  simp [B_is_feast, evSs, evS, evE, evEs, evZ, evO, evI, evT, evTo, rd_d, fz_d, b_add, b_sub, b_mul, b_div, b_mod, b_p18, b_p8, b_p7, b_p6, c_lt, c_le, c_gt, c_ge, c_eq, c_ne, c_eqs, c_nes, c_nes0, c_nes1, c_eqs0, c_eqs1, l_t, l_l, bi_i, bi_max, bi_min, bi_tl, bi_tt, ix_l, ix_t, m_nil, m_cons, at0, at1, at2, flatD, seqOf, isNonW, fin, evX, e2]
theorem week_eq {iw ii id_ ir ro ia is_ iy ife : Nat} {m : Nat} {d : D} (h : P f = some ⟨1, 3, B_is_week ir ro ia iy ife⟩) (h8 : P iy = some ⟨1, 3, B_is_day ro ia is_⟩) (h9 : P ife = some ⟨1, 1, B_is_feast iw⟩)
    (h5 : P ro = some ⟨4, 5, B_is_rows_of ir⟩) (h6 : P ia = some ⟨1, 2, B_is_ascending⟩) (h7 : P is_ = some ⟨1, 1, B_is_start iw id_ ir⟩)
    (h1 : P iw = some ⟨3, 3, B_is_within ii⟩) (h2 : P ii = some ⟨1, 1, B_is_integer⟩) (h3 : P id_ = some ⟨1, 1, B_is_word⟩) (h4 : P ir = some ⟨3, 3, B_is_rows⟩) (hx : Vt m d = true) : callF P (k + 7) f [.d d] S = some (.bl (weekB d), S) := by
  have e1 := rows_eq (k := k + 5) (S := S) (lo := 2) (hi := 2) h4 hx
  rw [callF_b h rfl (by decide)]
  show (evSs (callF P (k + 6)) (B_is_week ir ro ia iy ife) [some (.d d), none, none] S).bind _ = _
  cases hr : rowsB 2 2 d with
  | false =>
    rw [hr] at e1
    have : weekB d = false := by
      unfold weekB
      split
      · rename_i a b e
        simp [rowsB, e] at hr
      · rfl
    simp [B_is_week, evSs, evS, evE, evEs, evZ, evO, evI, evT, evTo, rd_d, fz_d, b_add, b_sub, b_mul, b_div, b_mod, b_p18, b_p8, b_p7, b_p6, c_lt, c_le, c_gt, c_ge, c_eq, c_ne, c_eqs, c_nes, c_nes0, c_nes1, c_eqs0, c_eqs1, l_t, l_l, bi_i, bi_max, bi_min, bi_tl, bi_tt, ix_l, ix_t, m_nil, m_cons, at0, at1, at2, flatD, seqOf, isNonW, fin, evX, e1, this]
  | true =>
    rw [hr] at e1
    cases e : sqL d with
    | none => simp [rowsB, e] at hr
    | some ds =>
      obtain ⟨a, b, rfl⟩ := len2 hr e
      obtain ⟨_, v⟩ := vt_sq hx e
      obtain ⟨ma, va⟩ := v a (by simp)
      obtain ⟨mb, vb⟩ := v b (by simp)
      have hw : weekB d = (daysB a && feastsB b) := by simp [weekB, e]
      have e2 := rows_of_eq (k := k + 4) (S := S) (lo := 8) (hi := 8) (n := iy) (p := dayB) h5 h4 va (fun y m' hy => day_eq (k := k) h8 h5 h6 h7 h1 h2 h3 h4 hy)
      have e2' : callF P (k + 6) ro [.d a, .d (.int 8), .d (.int 8), .d (.fn iy)] S = some (.bl (daysB a), S) := by
        rw [e2]
        congr 2
        unfold daysB
        cases sqL a with
        | none => rfl
        | some ds =>
          simp only
          congr 1
          rw [show (decide ((8 : Int) ≤ (ds.length : Int)) && decide ((ds.length : Int) ≤ 8)) = decide (ds.length = 8) by
            rw [← Bool.decide_and]; congr 1; simp; omega]
      have e3 := rows_of_eq (k := k + 4) (S := S) (lo := 0) (hi := 20) (n := ife) (p := isW 0 1000) h5 h4 vb (fun y m' hy => feast_eq (k := k + 2) h9 h1 h2 hy)
      have s1 : evS (callF P (k + 6)) (.asg (.tup (.tcons (.name 1) (.tcons (.name 2) (.tnil)))) (.var 0)) [some (.d d), none, none] S = some (.nx [some (.d d), some (.d a), some (.d b)] S) := by
        rcases sqL_sq e with rfl | rfl <;> rfl
      rw [hw]
      unfold B_is_week
      refine rt_fin ?_ rfl
      rw [ss_nx (x_iff (S1 := S) (by simp [evSs, evS, evE, evEs, evZ, evO, evI, evT, evTo, rd_d, fz_d, b_add, b_sub, b_mul, b_div, b_mod, b_p18, b_p8, b_p7, b_p6, c_lt, c_le, c_gt, c_ge, c_eq, c_ne, c_eqs, c_nes, c_nes0, c_nes1, c_eqs0, c_eqs1, l_t, l_l, bi_i, bi_max, bi_min, bi_tl, bi_tt, ix_l, ix_t, m_nil, m_cons, at0, at1, at2, flatD, seqOf, isNonW, fin, evX, e1]) ss_0), ss_nx s1]
      cases hda : daysB a with
      | false =>
        rw [hda] at e2'
        simp [evSs, evS, evE, evEs, evZ, evO, evI, evT, evTo, rd_d, fz_d, b_add, b_sub, b_mul, b_div, b_mod, b_p18, b_p8, b_p7, b_p6, c_lt, c_le, c_gt, c_ge, c_eq, c_ne, c_eqs, c_nes, c_nes0, c_nes1, c_eqs0, c_eqs1, l_t, l_l, bi_i, bi_max, bi_min, bi_tl, bi_tt, ix_l, ix_t, m_nil, m_cons, at0, at1, at2, flatD, seqOf, isNonW, fin, evX, e2']
      | true =>
        rw [hda] at e2'
        rw [ss_nx (x_iff (S1 := S) (by simp [evSs, evS, evE, evEs, evZ, evO, evI, evT, evTo, rd_d, fz_d, b_add, b_sub, b_mul, b_div, b_mod, b_p18, b_p8, b_p7, b_p6, c_lt, c_le, c_gt, c_ge, c_eq, c_ne, c_eqs, c_nes, c_nes0, c_nes1, c_eqs0, c_eqs1, l_t, l_l, bi_i, bi_max, bi_min, bi_tl, bi_tt, ix_l, ix_t, m_nil, m_cons, at0, at1, at2, flatD, seqOf, isNonW, fin, evX, e2']) ss_0)]
        cases eb : sqL b with
        | none =>
          rw [eb] at e3
          simp [evSs, evS, evE, evEs, evZ, evO, evI, evT, evTo, rd_d, fz_d, b_add, b_sub, b_mul, b_div, b_mod, b_p18, b_p8, b_p7, b_p6, c_lt, c_le, c_gt, c_ge, c_eq, c_ne, c_eqs, c_nes, c_nes0, c_nes1, c_eqs0, c_eqs1, l_t, l_l, bi_i, bi_max, bi_min, bi_tl, bi_tt, ix_l, ix_t, m_nil, m_cons, at0, at1, at2, flatD, seqOf, isNonW, fin, evX, e3, feastsB, eb]
        | some fs =>
          rw [eb] at e3
          have hf : feastsB b = (decide (fs.length ≤ 20) && fs.all (isW 0 1000) && ascB (fs.map intI)) := by simp [feastsB, eb]
          have eq1 : (decide ((0 : Int) ≤ (fs.length : Int)) && decide ((fs.length : Int) ≤ 20)) = decide (fs.length ≤ 20) := by
            rw [decide_eq_true (by omega : (0 : Int) ≤ (fs.length : Int)), Bool.true_and]; congr 1; simp; omega
          simp only [eq1] at e3
          rw [hf]
          cases hz : (decide (fs.length ≤ 20) && fs.all (isW 0 1000)) with
          | false =>
            rw [hz] at e3
            simp [evSs, evS, evE, evEs, evZ, evO, evI, evT, evTo, rd_d, fz_d, b_add, b_sub, b_mul, b_div, b_mod, b_p18, b_p8, b_p7, b_p6, c_lt, c_le, c_gt, c_ge, c_eq, c_ne, c_eqs, c_nes, c_nes0, c_nes1, c_eqs0, c_eqs1, l_t, l_l, bi_i, bi_max, bi_min, bi_tl, bi_tt, ix_l, ix_t, m_nil, m_cons, at0, at1, at2, flatD, seqOf, isNonW, fin, evX, e3]
          | true =>
            rw [hz] at e3
            simp only [Bool.and_eq_true, decide_eq_true_eq, List.all_eq_true] at hz
            have em : fs = (fs.map intI).map .int := by
              rw [List.map_map]
              conv => lhs; rw [← List.map_id fs]
              apply List.map_congr_left
              intro y hy
              have := hz.2 y hy
              cases y <;> simp [isW] at this
              rfl
            have e4 := ascending_eq (k := k + 5) (S := S) (d := b) (ns := fs.map intI) h6 (by rw [← em]; exact sqL_sq eb) (by simp; omega)
            simp [evSs, evS, evE, evEs, evZ, evO, evI, evT, evTo, rd_d, fz_d, b_add, b_sub, b_mul, b_div, b_mod, b_p18, b_p8, b_p7, b_p6, c_lt, c_le, c_gt, c_ge, c_eq, c_ne, c_eqs, c_nes, c_nes0, c_nes1, c_eqs0, c_eqs1, l_t, l_l, bi_i, bi_max, bi_min, bi_tl, bi_tt, ix_l, ix_t, m_nil, m_cons, at0, at1, at2, flatD, seqOf, isNonW, fin, evX, e3, e4]
theorem IxB.weekE (h : IxB P x) {m : Nat} {d : D} (hx : Vt m d = true) : callF P (k + 7) x.week [.d d] S = some (.bl (Pv.weekB d), S) :=
  week_eq h.week h.day h.feast h.rowsOf h.asc h.start h.within h.int h.word h.rows hx
theorem IxB.secE (h : IxB P x) {d : D} (hd : okV d = true) : callF P (k + 3) x.sec [.d d] S = some (.bl (isW 0 100000000 d), S) := second_ok h.sec h.within h.int hd
end
end Pv

set_option Elab.async false
set_option linter.all false
set_option maxRecDepth 100000
set_option maxHeartbeats 1000000
/-! The draws of a law: numbers, days, weeks. -/
namespace Pv
open PySem L2
/-- where a law's own helpers stand -/
structure Lx where
  so : Nat
  num : Nat
  draw : Nat
  take : Nat
  wide : Nat
  listed : Nat
  either : Nat
  handed : Nat
  pick : Nat
structure LxOk (P : Nat → Option Fn) (y : Lx) : Prop where
  so : P y.so = some ⟨2, 3, B_law_so y.so⟩
  num : P y.num = some ⟨1, 6, B_law_numbers⟩
  draw : P y.draw = some ⟨3, 4, B_law_draw⟩
  take : P y.take = some ⟨3, 3, B_law_take y.draw⟩
  wide : P y.wide = some ⟨3, 6, B_law_wide y.take⟩
  listed : P y.listed = some ⟨1, 2, B_law_listed y.listed⟩
  either : P y.either = some ⟨3, 5, B_law_either y.take y.either⟩
  handed : P y.handed = some ⟨3, 4, B_law_handed y.take y.listed y.either⟩
  pick : P y.pick = some ⟨3, 3, B_law_pick y.take⟩
section
variable {P : Nat → Option Fn} {k f : Nat} {r : D} {ms : List MO} {i : Int} {y : Lx}
theorem spA (hi : 0 ≤ i) : Sp (.lst [.int 0] :: ms) 0 (.lst [.int i] :: ms) := ⟨i, hi, rfl⟩
theorem spB {S : Store} (h : Sp (.lst [.int 0] :: ms) 0 S) : ∃ j : Int, 0 ≤ j ∧ S = .lst [.int j] :: ms := by
  obtain ⟨j, hj, e⟩ := h
  exact ⟨j, hj, e⟩
theorem LxOk.take0 (L : LxOk P y) {Q : D × Store → Prop} (hr : Row r) (hi : 0 ≤ i) {lim : Int} (hl : 0 < lim) (q : ∀ t j : Int, 0 ≤ t → t < lim → 0 ≤ j → Q (.int t, .lst [.int j] :: ms)) : OkR (callF P (k + 2) y.take [.d r, .mu 0, .d (.int lim)] (.lst [.int i] :: ms)) Q :=
  take_ok L.take L.draw hr (by simp) (spA (ms := ms) hi) hl fun t S' a b p => by
    obtain ⟨j, hj, rfl⟩ := spB p
    exact q t j a b hj
theorem LxOk.wide0 (L : LxOk P y) {Q : D × Store → Prop} (hr : Row r) (hi : 0 ≤ i) {lim : Int} (hl : 0 < lim) (q : ∀ t j : Int, 0 ≤ t → t < lim → 0 ≤ j → Q (.int t, .lst [.int j] :: ms)) : OkR (callF P (k + 3) y.wide [.d r, .mu 0, .d (.int lim)] (.lst [.int i] :: ms)) Q :=
  wide_ok L.wide L.take L.draw hr (by simp) (spA (ms := ms) hi) hl fun t S' a b p => by
    obtain ⟨j, hj, rfl⟩ := spB p
    exact q t j a b hj
theorem LxOk.pick0 (L : LxOk P y) {Q : D × Store → Prop} {x : D} {ds : List D} (hr : Row r) (hi : 0 ≤ i) (hx : x = .lst ds ∨ x = .tup ds) (hne : ds ≠ []) (q : ∀ y' (j : Int), y' ∈ ds → 0 ≤ j → Q (y', .lst [.int j] :: ms)) : OkR (callF P (k + 3) y.pick [.d r, .mu 0, .d x] (.lst [.int i] :: ms)) Q :=
  pick_ok L.pick L.take L.draw hr (by simp) (spA (ms := ms) hi) hx hne fun t S' a p => by
    obtain ⟨j, hj, rfl⟩ := spB p
    exact q t j a hj
theorem LxOk.pickL (L : LxOk P y) {Q : D × Store → Prop} {ds : List D} (hr : Row r) (hi : 0 ≤ i) (hne : ds ≠ []) (q : ∀ y' (j : Int), y' ∈ ds → 0 ≤ j → Q (y', .lst [.int j] :: ms)) : OkR (callF P (k + 3) y.pick [.d r, .mu 0, .d (.lst ds)] (.lst [.int i] :: ms)) Q := L.pick0 hr hi (.inl rfl) hne q
theorem LxOk.pickT (L : LxOk P y) {Q : D × Store → Prop} {ds : List D} (hr : Row r) (hi : 0 ≤ i) (hne : ds ≠ []) (q : ∀ y' (j : Int), y' ∈ ds → 0 ≤ j → Q (y', .lst [.int j] :: ms)) : OkR (callF P (k + 3) y.pick [.d r, .mu 0, .d (.tup ds)] (.lst [.int i] :: ms)) Q := L.pick0 hr hi (.inr rfl) hne q
theorem LxOk.handed0 (L : LxOk P y) {Q : D × Store → Prop} {m : Nat} {x : D} (hr : Row r) (hi : 0 ≤ i) (hx : Tv m x = true) (q : ∀ x' (j : Int), Lk m x' x → 0 ≤ j → Q (x', .lst [.int j] :: ms)) : OkR (callF P (k + m + 4) y.handed [.d r, .mu 0, .d x] (.lst [.int i] :: ms)) Q := by
  obtain ⟨x', S', e, l, p⟩ := handed_ex (k := k) L.handed L.listed L.either L.take L.draw hr (by simp) hx (spA (ms := ms) hi)
  obtain ⟨j, hj, rfl⟩ := spB p
  exact ⟨_, e, q x' j l hj⟩
/-! keys so far -/
structure KsOk (lo hi : Int) (n : Nat) (fs : List Int) : Prop where
  nd : fs.Nodup
  each : ∀ z ∈ fs, lo ≤ z ∧ z ≤ hi
  len : fs.length ≤ n
theorem KsOk.nil {lo hi : Int} {n : Nat} : KsOk lo hi n [] := ⟨List.nodup_nil, by simp, by simp⟩
def putZ (z : Int) (fs : List Int) : List Int := if z ∈ fs then fs else fs ++ [z]
theorem putZ_mem {z y : Int} {fs : List Int} (h : y ∈ fs) : y ∈ putZ z fs := by
  unfold putZ
  split
  · exact h
  · exact List.mem_append_left _ h
theorem KsOk.put {lo hi : Int} {n : Nat} {fs : List Int} {z : Int} (h : KsOk lo hi n fs) (h0 : lo ≤ z) (h1 : z ≤ hi) : KsOk lo hi (n + 1) (putZ z fs) := by
  have := h.len
  unfold putZ
  split
  · exact ⟨h.nd, h.each, by omega⟩
  · rename_i hz
    refine ⟨?_, ?_, by simp; omega⟩
    · rw [List.nodup_append]
      refine ⟨h.nd, by simp, ?_⟩
      intro a ha b hb e
      simp at hb
      subst hb
      exact hz (e ▸ ha)
    · intro y hy
      rcases List.mem_append.mp hy with hy | hy
      · exact h.each y hy
      · simp at hy
        subst hy
        exact ⟨h0, h1⟩
theorem KsOk.mono {lo hi : Int} {n m : Nat} {fs : List Int} (h : KsOk lo hi n fs) (hl : n ≤ m) : KsOk lo hi m fs := ⟨h.nd, h.each, Nat.le_trans h.len hl⟩
/-- a key is put into a dict of whole numbers -/
theorem setD_ok {c : Call} {s n : Nat} {kx e : E} {ρ : En} {S : Store} {Q : Out → Prop} (h7 : ρ[s]? = some (some (.mu n))) (h : OkR (evE c e ρ S) fun w => OkR (fzW w.1 w.2) fun z => OkR (evE c kx ρ z.2) fun q => ∃ (zz : Int) (fs : List Int) (ds : List D), q.1 = .d (.int zz) ∧ q.2[n]? = some (.dK (fs.map .inl) ds) ∧ fs.length < 1000 ∧
    ∀ ds', Q (.nx ρ (q.2.set n (.dK ((putZ zz fs).map .inl) ds')))) : OkR (evS c (.setD s kx e) ρ S) Q := by
  obtain ⟨w, e1, z, e2, q, e3, zz, fs, ds, e4, e5, e6, k⟩ := h
  obtain ⟨ds', eq⟩ := putD_keys (z := zz) (d := z.1) (ns := fs) (ds := ds)
  have hlen : (fs.map Sum.inl : List Key).length < sizeLine := by rw [List.length_map, sizeLine_val]; omega
  obtain ⟨q1, q2⟩ := q
  simp only at e4 e5
  subst e4
  refine ⟨_, ?_, k ds'⟩
  simp only [evS, h7, e1, Option.bind_some, e2, e3, keyOf, e5, if_pos hlen, eq]
  rfl
theorem i_r1 {c : Call} {e : E} {ρ : En} {S : Store} {Q : List D × Store → Prop} (h : OkR (evE c e ρ S) fun p => ∃ j : Int, p.1 = .d (.int j) ∧ -4611686018427387904 ≤ j ∧ j < 4611686018427387904 ∧ Q (rangeD 0 j.toNat, p.2)) : OkR (evI c (.r1 e) ρ S) Q := by
  obtain ⟨⟨w, S1⟩, e1, j, e2, h1, h2, q⟩ := h
  simp only at e2
  subst e2
  exact ⟨_, x_r1 e1 h1 h2, q⟩
end
end Pv

set_option Elab.async false
set_option linter.all false
set_option maxRecDepth 100000
set_option maxHeartbeats 1000000
/-! A drawn day, a drawn week. -/
namespace Pv
open PySem L2
/-- _law_day: 2 parameters, slots row spot starts k start -/
def B_law_day (i_law_take i_law_wide i_law_pick : Nat) : Ss := .cons (.newDK 2 (.cons (.cst (.int 0)) (.cons (.cst (.bl true)) (.nil)))) (.cons (.forS (.name 3) (.r1 (.call i_law_take (.cons (.var 0) (.cons (.var 1) (.cons (.cst (.int 4)) (.nil)))))) (.cons (.setD 2 (.call i_law_pick (.cons (.var 0) (.cons (.var 1) (.cons (.lst (.cons (.cst (.int 1)) (.cons (.cst (.int 100)) (.cons (.cst (.int 28800)) (.cons (.cst (.int 64800)) (.cons (.cst (.int 86399)) (.cons (.call i_law_wide (.cons (.var 0) (.cons (.var 1) (.cons (.cst (.int 86400)) (.nil))))) (.nil)))))))) (.nil))))) (.cst (.bl true))) (.nil))) (.cons (.ret (.bi .tuple (.cons (.comp [4] (.name 4) (.seq (.bi .sorted (.cons (.var 2) (.nil)))) (.none) (.tup (.cons (.var 4) (.cons (.call i_law_pick (.cons (.var 0) (.cons (.var 1) (.cons (.lst (.cons (.cst (.str "low")) (.cons (.cst (.str "high")) (.cons (.cst (.str "mid")) (.nil))))) (.nil))))) (.nil))))) (.nil)))) (.nil)))
/-- _law_week: 2 parameters, slots row spot day days feasts k -/
def B_law_week (i_law_take i_law_pick i_law_day : Nat) : Ss := .cons (.asg (.name 2) (.call i_law_day (.cons (.var 0) (.cons (.var 1) (.nil))))) (.cons (.asg (.name 3) (.comp [5] (.name 5) (.r1 (.cst (.int 8))) (.none) (.ite (.val (.cmp .eq (.call i_law_take (.cons (.var 0) (.cons (.var 1) (.cons (.cst (.int 2)) (.nil))))) (.cst (.int 0)))) (.var 2) (.call i_law_day (.cons (.var 0) (.cons (.var 1) (.nil))))))) (.cons (.newD 4) (.cons (.forS (.name 5) (.r1 (.call i_law_take (.cons (.var 0) (.cons (.var 1) (.cons (.cst (.int 4)) (.nil)))))) (.cons (.setD 4 (.call i_law_pick (.cons (.var 0) (.cons (.var 1) (.cons (.lst (.cons (.cst (.int 0)) (.cons (.cst (.int 1)) (.cons (.cst (.int 2)) (.cons (.cst (.int 6)) (.cons (.cst (.int 7)) (.cons (.cst (.int 1000)) (.cons (.call i_law_take (.cons (.var 0) (.cons (.var 1) (.cons (.cst (.int 997)) (.nil))))) (.nil))))))))) (.nil))))) (.cst (.bl true))) (.nil))) (.cons (.ret (.tup (.cons (.bi .tuple (.cons (.var 3) (.nil))) (.cons (.bi .tuple (.cons (.bi .sorted (.cons (.var 4) (.nil))) (.nil))) (.nil))))) (.nil)))))
section
variable {P : Nat → Option Fn} {k f : Nat} {r : D} {ms : List MO} {i : Int} {y : Lx}
def words3 : List Str := ["low", "high", "mid"]
theorem words3_ok {w : Str} (h : w ∈ words3) : wordB w = true := by
  simp only [words3, List.mem_cons, List.not_mem_nil, or_false] at h
  rcases h with rfl | rfl | rfl <;> decide +kernel
theorem rows_of_all2 : ∀ {ds' : List D} {ns : List Int}, All2 (fun d' d => ∃ w, d' = D.tup [d, .str w] ∧ w ∈ words3) ds' (ns.map .int) → ∃ r' : List St, ds' = r'.map stD ∧ r'.map Prod.fst = ns ∧ ∀ p ∈ r', p.2 ∈ words3
  | _, [], .nil => ⟨[], rfl, rfl, by simp⟩
  | _, n :: ns, .cons h t => by
    obtain ⟨w, rfl, hw⟩ := h
    obtain ⟨r', rfl, e2, h3⟩ := rows_of_all2 t
    exact ⟨(n, w) :: r', rfl, by simp [e2], fun p hp => by
      rcases List.mem_cons.mp hp with rfl | hp
      · exact hw
      · exact h3 p hp⟩
theorem bi_sortedK (ns : List Int) (ds : List D) : biRun .sorted [.dK (ns.map .inl) ds] = some (.lst ((sortI ns).map .int)) := sorted_keys ns ds
theorem head_sorted {fs : List Int} (h : fs.Nodup) (h0 : 0 ∈ fs) (hp : ∀ z ∈ fs, 0 ≤ z) : ∃ t, sortI fs = 0 :: t := by
  have hm : (0 : Int) ∈ sortI fs := sortI_mem.mpr h0
  have up := sortI_upP h
  cases e : sortI fs with
  | nil => rw [e] at hm; cases hm
  | cons a t =>
    rw [e] at up hm
    rcases List.mem_cons.mp hm with h1 | h1
    · exact ⟨t, by rw [← h1]⟩
    · have h2 := (List.pairwise_cons.mp up).1 0 h1
      have h3 := hp a (sortI_mem.mp (by rw [e]; exact List.mem_cons_self))
      omega
theorem LxOk.day0 (L : LxOk P y) (hD : P f = some ⟨2, 5, B_law_day y.take y.wide y.pick⟩) (hr : Row r) (hi : 0 ≤ i) {Q : D × Store → Prop} (q : ∀ r' (j : Int), DayOk r' → (∀ p ∈ r', p.2 ∈ words3) → 0 ≤ j → Q (dayD r', .lst [.int j] :: ms)) :
    OkR (callF P (k + 4) f [.d r, .mu 0] (.lst [.int i] :: ms)) Q := by
  refine def_ok hD rfl (by show 2 ≤ 5; decide) rfl ?_
  show OkR (evSs (callF P (k + 3)) (B_law_day y.take y.wide y.pick) [some (.d r), some (.mu 0), none, none, none] (.lst [.int i] :: ms)) _
  unfold B_law_day
  refine ss_step ?_
  have e0 : evS (callF P (k + 3)) (.newDK 2 (.cons (.cst (.int 0)) (.cons (.cst (.bl true)) (.nil)))) [some (.d r), some (.mu 0), none, none, none] (.lst [.int i] :: ms) = some (.nx [some (.d r), some (.mu 0), some (.mu (ms.length + 1)), none, none] (.lst [.int i] :: (ms ++ [.dK (([0] : List Int).map .inl) [.bl true]]))) := by
    simp [evS, evP, evE, flatD, keyOf, fz_d]
    exact ⟨rfl, rfl⟩
  refine OkR.of e0 ?_
  simp only [nx_nx]
  refine ss_step (for_ok (i_r1 ?_))
  simp only [okR_bind, okR_map, okR_some, evS, ee_var, ee_cst, ee_fnv, ee_bin, ee_neg, ee_cmp, ee_chain, ee_isN, ee_notN, ee_and, ee_or, ee_not, ee_ite, ee_call, ee_callv, ee_bi, ee_isi1, ee_isi2, ee_mt0, ee_mt1, ee_ix, ee_sl, ee_tup, ee_lst, evEs, evZ, evO, evI, evT, evTo, evX, rd_d, fz_d, b_add, b_sub, b_mul, b_div, b_mod, b_p18, b_p8, b_p7, b_p6, c_lt, c_le, c_gt, c_ge, c_eq, c_ne, c_eqs, c_nes, c_nes0, c_nes1, c_eqs0, c_eqs1, l_t, l_l, bi_i, bi_max, bi_min, bi_tl, bi_tt, ix_l, ix_t, m_nil, m_cons, at0, at1, at2, flatD, seqOf, isNonW, nx_nx, nx_rt, nx_bk, nx_ct, nx_xc, next_nx, next_ct, next_bk, next_rt, Option.bind_some, Option.map_some, List.getElem?_cons_zero, List.getElem?_cons_succ, List.set_cons_zero, List.set_cons_succ, List.length_cons, List.length_nil, if_true, asgn, asgns, Nat.zero_add, Nat.reduceAdd, Nat.reduceLT, Nat.reduceLeDiff, reduceIte, reduceCtorEq, Bool.false_eq_true, Int.reduceNeg, sizeLine_val, and_self, true_and, and_true, b_m7, b_m86400, b_m1000000000, b_m60, b_m600, b_d7, b_d86400, b_d1000, b_p10_5, b_p10_9, b_p10_12, b_p10_15]
  refine L.take0 (k := k + 1) hr hi (by decide) fun t j t0 t1 hj => ⟨t, rfl, by omega, by omega, ?_⟩
  refine loop_ok (fun n ρ S => ∃ (v3 : Option W) (j : Int) (fs : List Int) (ds : List D), ρ = [some (.d r), some (.mu 0), some (.mu (ms.length + 1)), v3, none] ∧ S = .lst [.int j] :: (ms ++ [.dK (fs.map .inl) ds]) ∧ 0 ≤ j ∧ KsOk 0 86399 (n + 1) fs ∧ 0 ∈ fs)
    ⟨none, j, [0], _, rfl, rfl, hj, ⟨by simp, by simp, by simp⟩, by simp⟩ ?_ ?_
  · rintro n d ρ S hn ⟨v3, j, fs, ds, rfl, rfl, hj, hf, h0⟩
    obtain ⟨hn1, rfl⟩ := rangeD_get hn
    simp only [okR_bind, okR_map, okR_some, evS, ee_var, ee_cst, ee_fnv, ee_bin, ee_neg, ee_cmp, ee_chain, ee_isN, ee_notN, ee_and, ee_or, ee_not, ee_ite, ee_call, ee_callv, ee_bi, ee_isi1, ee_isi2, ee_mt0, ee_mt1, ee_ix, ee_sl, ee_tup, ee_lst, evEs, evZ, evO, evI, evT, evTo, evX, rd_d, fz_d, b_add, b_sub, b_mul, b_div, b_mod, b_p18, b_p8, b_p7, b_p6, c_lt, c_le, c_gt, c_ge, c_eq, c_ne, c_eqs, c_nes, c_nes0, c_nes1, c_eqs0, c_eqs1, l_t, l_l, bi_i, bi_max, bi_min, bi_tl, bi_tt, ix_l, ix_t, m_nil, m_cons, at0, at1, at2, flatD, seqOf, isNonW, nx_nx, nx_rt, nx_bk, nx_ct, nx_xc, next_nx, next_ct, next_bk, next_rt, Option.bind_some, Option.map_some, List.getElem?_cons_zero, List.getElem?_cons_succ, List.set_cons_zero, List.set_cons_succ, List.length_cons, List.length_nil, if_true, asgn, asgns, Nat.zero_add, Nat.reduceAdd, Nat.reduceLT, Nat.reduceLeDiff, reduceIte, reduceCtorEq, Bool.false_eq_true, Int.reduceNeg, sizeLine_val, and_self, true_and, and_true, b_m7, b_m86400, b_m1000000000, b_m60, b_m600, b_d7, b_d86400, b_d1000, b_p10_5, b_p10_9, b_p10_12, b_p10_15]
    refine ss_step (setD_ok rfl ?_)
    simp only [okR_bind, okR_map, okR_some, evS, ee_var, ee_cst, ee_fnv, ee_bin, ee_neg, ee_cmp, ee_chain, ee_isN, ee_notN, ee_and, ee_or, ee_not, ee_ite, ee_call, ee_callv, ee_bi, ee_isi1, ee_isi2, ee_mt0, ee_mt1, ee_ix, ee_sl, ee_tup, ee_lst, evEs, evZ, evO, evI, evT, evTo, evX, rd_d, fz_d, b_add, b_sub, b_mul, b_div, b_mod, b_p18, b_p8, b_p7, b_p6, c_lt, c_le, c_gt, c_ge, c_eq, c_ne, c_eqs, c_nes, c_nes0, c_nes1, c_eqs0, c_eqs1, l_t, l_l, bi_i, bi_max, bi_min, bi_tl, bi_tt, ix_l, ix_t, m_nil, m_cons, at0, at1, at2, flatD, seqOf, isNonW, nx_nx, nx_rt, nx_bk, nx_ct, nx_xc, next_nx, next_ct, next_bk, next_rt, Option.bind_some, Option.map_some, List.getElem?_cons_zero, List.getElem?_cons_succ, List.set_cons_zero, List.set_cons_succ, List.length_cons, List.length_nil, if_true, asgn, asgns, Nat.zero_add, Nat.reduceAdd, Nat.reduceLT, Nat.reduceLeDiff, reduceIte, reduceCtorEq, Bool.false_eq_true, Int.reduceNeg, sizeLine_val, and_self, true_and, and_true, b_m7, b_m86400, b_m1000000000, b_m60, b_m600, b_d7, b_d86400, b_d1000, b_p10_5, b_p10_9, b_p10_12, b_p10_15]
    refine L.wide0 (k := k) hr hj (by decide) fun a j1 a0 a1 hj1 => ?_
    simp only [okR_bind, okR_map, okR_some, evS, ee_var, ee_cst, ee_fnv, ee_bin, ee_neg, ee_cmp, ee_chain, ee_isN, ee_notN, ee_and, ee_or, ee_not, ee_ite, ee_call, ee_callv, ee_bi, ee_isi1, ee_isi2, ee_mt0, ee_mt1, ee_ix, ee_sl, ee_tup, ee_lst, evEs, evZ, evO, evI, evT, evTo, evX, rd_d, fz_d, b_add, b_sub, b_mul, b_div, b_mod, b_p18, b_p8, b_p7, b_p6, c_lt, c_le, c_gt, c_ge, c_eq, c_ne, c_eqs, c_nes, c_nes0, c_nes1, c_eqs0, c_eqs1, l_t, l_l, bi_i, bi_max, bi_min, bi_tl, bi_tt, ix_l, ix_t, m_nil, m_cons, at0, at1, at2, flatD, seqOf, isNonW, nx_nx, nx_rt, nx_bk, nx_ct, nx_xc, next_nx, next_ct, next_bk, next_rt, Option.bind_some, Option.map_some, List.getElem?_cons_zero, List.getElem?_cons_succ, List.set_cons_zero, List.set_cons_succ, List.length_cons, List.length_nil, if_true, asgn, asgns, Nat.zero_add, Nat.reduceAdd, Nat.reduceLT, Nat.reduceLeDiff, reduceIte, reduceCtorEq, Bool.false_eq_true, Int.reduceNeg, sizeLine_val, and_self, true_and, and_true, b_m7, b_m86400, b_m1000000000, b_m60, b_m600, b_d7, b_d86400, b_d1000, b_p10_5, b_p10_9, b_p10_12, b_p10_15]
    refine L.pickL (k := k) hr hj1 ?_ fun b j2 hb hj2 => ?_
    · exact fun z => nomatch z
    have : ∃ z, b = .int z ∧ 0 ≤ z ∧ z ≤ 86399 := by
      simp only [List.mem_cons, List.not_mem_nil, or_false] at hb
      rcases hb with rfl | rfl | rfl | rfl | rfl | rfl <;> exact ⟨_, rfl, by omega, by omega⟩
    obtain ⟨z, rfl, z0, z1⟩ := this
    have hl := hf.len
    have ei : (.lst [.int j2] :: (ms ++ [MO.dK (fs.map .inl) ds]))[ms.length + 1]? = some (.dK (fs.map .inl) ds) := by simp
    refine ⟨z, fs, ds, rfl, ei, by omega, fun ds' => ?_⟩
    simp only [nx_nx]
    refine ss_done ⟨_, j2, putZ z fs, ds', rfl, ?_, hj2, hf.put z0 z1, putZ_mem h0⟩
    simp [List.set_append]
  · rintro ρ S ⟨v3, j, fs, ds, rfl, rfl, hj, hf, h0⟩
    rw [rangeD_length] at hf
    have hl := hf.len
    simp only [nx_nx]
    refine ss_step ?_
    have el : (.lst [.int j] :: (ms ++ [MO.dK (fs.map .inl) ds]))[ms.length + 1]? = some (.dK (fs.map .inl) ds) := by simp
    simp only [evS, ee_bi, evEs, okR_bind, okR_map]
    refine comp_ok rfl (fun d' d => ∃ w, d' = D.tup [d, .str w] ∧ w ∈ words3) (fun S => ∃ j : Int, 0 ≤ j ∧ S = .lst [.int j] :: (ms ++ [.dK (fs.map .inl) ds])) ?_
    simp only [okR_bind, okR_map, okR_some, evS, ee_var, ee_cst, ee_fnv, ee_bin, ee_neg, ee_cmp, ee_chain, ee_isN, ee_notN, ee_and, ee_or, ee_not, ee_ite, ee_call, ee_callv, ee_bi, ee_isi1, ee_isi2, ee_mt0, ee_mt1, ee_ix, ee_sl, ee_tup, ee_lst, evEs, evZ, evO, evI, evT, evTo, evX, rd_d, fz_d, b_add, b_sub, b_mul, b_div, b_mod, b_p18, b_p8, b_p7, b_p6, c_lt, c_le, c_gt, c_ge, c_eq, c_ne, c_eqs, c_nes, c_nes0, c_nes1, c_eqs0, c_eqs1, l_t, l_l, bi_i, bi_max, bi_min, bi_tl, bi_tt, ix_l, ix_t, m_nil, m_cons, at0, at1, at2, flatD, seqOf, isNonW, nx_nx, nx_rt, nx_bk, nx_ct, nx_xc, next_nx, next_ct, next_bk, next_rt, Option.bind_some, Option.map_some, List.getElem?_cons_zero, List.getElem?_cons_succ, List.set_cons_zero, List.set_cons_succ, List.length_cons, List.length_nil, if_true, asgn, asgns, Nat.zero_add, Nat.reduceAdd, Nat.reduceLT, Nat.reduceLeDiff, reduceIte, reduceCtorEq, Bool.false_eq_true, Int.reduceNeg, sizeLine_val, and_self, true_and, and_true, b_m7, b_m86400, b_m1000000000, b_m60, b_m600, b_d7, b_d86400, b_d1000, b_p10_5, b_p10_9, b_p10_12, b_p10_15, rd_k el, bi_sortedK]
    refine ⟨⟨j, hj, rfl⟩, by simp [sortI_len, sizeLine_val]; omega, ?_, ?_⟩
    · rintro d hd S ⟨j1, hj1, rfl⟩
      simp only [wipeE, okR_bind, okR_map, okR_some, evS, ee_var, ee_cst, ee_fnv, ee_bin, ee_neg, ee_cmp, ee_chain, ee_isN, ee_notN, ee_and, ee_or, ee_not, ee_ite, ee_call, ee_callv, ee_bi, ee_isi1, ee_isi2, ee_mt0, ee_mt1, ee_ix, ee_sl, ee_tup, ee_lst, evEs, evZ, evO, evI, evT, evTo, evX, rd_d, fz_d, b_add, b_sub, b_mul, b_div, b_mod, b_p18, b_p8, b_p7, b_p6, c_lt, c_le, c_gt, c_ge, c_eq, c_ne, c_eqs, c_nes, c_nes0, c_nes1, c_eqs0, c_eqs1, l_t, l_l, bi_i, bi_max, bi_min, bi_tl, bi_tt, ix_l, ix_t, m_nil, m_cons, at0, at1, at2, flatD, seqOf, isNonW, nx_nx, nx_rt, nx_bk, nx_ct, nx_xc, next_nx, next_ct, next_bk, next_rt, Option.bind_some, Option.map_some, List.getElem?_cons_zero, List.getElem?_cons_succ, List.set_cons_zero, List.set_cons_succ, List.length_cons, List.length_nil, if_true, asgn, asgns, Nat.zero_add, Nat.reduceAdd, Nat.reduceLT, Nat.reduceLeDiff, reduceIte, reduceCtorEq, Bool.false_eq_true, Int.reduceNeg, sizeLine_val, and_self, true_and, and_true, b_m7, b_m86400, b_m1000000000, b_m60, b_m600, b_d7, b_d86400, b_d1000, b_p10_5, b_p10_9, b_p10_12, b_p10_15]
      refine L.pickL (k := k) hr hj1 ?_ fun b j2 hb hj2 => ?_
      · exact fun z => nomatch z
      have : ∃ w, b = .str w ∧ w ∈ words3 := by
        simp only [List.mem_cons, List.not_mem_nil, or_false] at hb
        rcases hb with rfl | rfl | rfl <;> exact ⟨_, rfl, by simp [words3]⟩
      obtain ⟨w, rfl, hw⟩ := this
      simp only [okR_bind, okR_map, okR_some, evS, ee_var, ee_cst, ee_fnv, ee_bin, ee_neg, ee_cmp, ee_chain, ee_isN, ee_notN, ee_and, ee_or, ee_not, ee_ite, ee_call, ee_callv, ee_bi, ee_isi1, ee_isi2, ee_mt0, ee_mt1, ee_ix, ee_sl, ee_tup, ee_lst, evEs, evZ, evO, evI, evT, evTo, evX, rd_d, fz_d, b_add, b_sub, b_mul, b_div, b_mod, b_p18, b_p8, b_p7, b_p6, c_lt, c_le, c_gt, c_ge, c_eq, c_ne, c_eqs, c_nes, c_nes0, c_nes1, c_eqs0, c_eqs1, l_t, l_l, bi_i, bi_max, bi_min, bi_tl, bi_tt, ix_l, ix_t, m_nil, m_cons, at0, at1, at2, flatD, seqOf, isNonW, nx_nx, nx_rt, nx_bk, nx_ct, nx_xc, next_nx, next_ct, next_bk, next_rt, Option.bind_some, Option.map_some, List.getElem?_cons_zero, List.getElem?_cons_succ, List.set_cons_zero, List.set_cons_succ, List.length_cons, List.length_nil, if_true, asgn, asgns, Nat.zero_add, Nat.reduceAdd, Nat.reduceLT, Nat.reduceLeDiff, reduceIte, reduceCtorEq, Bool.false_eq_true, Int.reduceNeg, sizeLine_val, and_self, true_and, and_true, b_m7, b_m86400, b_m1000000000, b_m60, b_m600, b_d7, b_d86400, b_d1000, b_p10_5, b_p10_9, b_p10_12, b_p10_15]
      exact ⟨⟨w, rfl, hw⟩, j2, hj2, rfl⟩
    · rintro ds' S' ha ⟨j1, hj1, rfl⟩
      obtain ⟨r', rfl, e2, h3⟩ := rows_of_all2 ha
      refine fin_rt ?_
      have et : (MO.lst [.int j1] :: (ms ++ [.dK (fs.map .inl) ds])).take (ms.length + 1) = .lst [.int j1] :: ms := by simp
      rw [et]
      have hlen : r'.length = fs.length := by rw [← sortI_len (l := fs), ← e2, List.length_map]
      obtain ⟨t', ht⟩ := head_sorted hf.nd h0 fun z hz => (hf.each z hz).1
      refine q r' j1 ⟨by omega, ?_, ?_, ?_⟩ h3 hj1
      · cases r' with
        | nil => rw [ht] at e2; cases e2
        | cons p t =>
          rw [ht] at e2
          simp only [List.map_cons, List.cons.injEq] at e2
          exact ⟨p.2, t, by rw [← e2.1]⟩
      · rw [e2]; exact Asc_of_up (sortI_upP hf.nd)
      · intro p hp
        have hm : p.1 ∈ fs := sortI_mem.mp (by rw [← e2]; exact List.mem_map_of_mem hp)
        have := hf.each _ hm
        exact ⟨this.1, by omega, words3_ok (h3 p hp)⟩
theorem days_of_all2 : ∀ {ds' es : List D}, All2 (fun d' _ => ∃ r' : List St, d' = dayD r' ∧ DayOk r' ∧ ∀ p ∈ r', p.2 ∈ words3) ds' es → ∃ days : List (List St), ds' = days.map dayD ∧ days.length = es.length ∧ ∀ r' ∈ days, DayOk r' ∧ ∀ p ∈ r', p.2 ∈ words3
  | _, [], .nil => ⟨[], rfl, rfl, by simp⟩
  | _, n :: ns, .cons h t => by
    obtain ⟨w, rfl, hw⟩ := h
    obtain ⟨r', rfl, e2, h3⟩ := days_of_all2 t
    exact ⟨w :: r', rfl, by simp [e2], fun p hp => by
      rcases List.mem_cons.mp hp with rfl | hp
      · exact hw
      · exact h3 p hp⟩
theorem LxOk.week0 (L : LxOk P y) {dy : Nat} (hW : P f = some ⟨2, 6, B_law_week y.take y.pick dy⟩) (hD : P dy = some ⟨2, 5, B_law_day y.take y.wide y.pick⟩) (hr : Row r) (hi : 0 ≤ i) {Q : D × Store → Prop}
    (q : ∀ days feasts (j : Int), WeekOk days feasts → (∀ r' ∈ days, ∀ p ∈ r', p.2 ∈ words3) → 0 ≤ j → Q (weekD days feasts, .lst [.int j] :: ms)) :
    OkR (callF P (k + 5) f [.d r, .mu 0] (.lst [.int i] :: ms)) Q := by
  refine def_ok hW rfl (by show 2 ≤ 6; decide) rfl ?_
  show OkR (evSs (callF P (k + 4)) (B_law_week y.take y.pick dy) [some (.d r), some (.mu 0), none, none, none, none] (.lst [.int i] :: ms)) _
  unfold B_law_week
  refine ss_step ?_; simp only [okR_bind, okR_map, okR_some, evS, ee_var, ee_cst, ee_fnv, ee_bin, ee_neg, ee_cmp, ee_chain, ee_isN, ee_notN, ee_and, ee_or, ee_not, ee_ite, ee_call, ee_callv, ee_bi, ee_isi1, ee_isi2, ee_mt0, ee_mt1, ee_ix, ee_sl, ee_tup, ee_lst, evEs, evZ, evO, evI, evT, evTo, evX, rd_d, fz_d, b_add, b_sub, b_mul, b_div, b_mod, b_p18, b_p8, b_p7, b_p6, c_lt, c_le, c_gt, c_ge, c_eq, c_ne, c_eqs, c_nes, c_nes0, c_nes1, c_eqs0, c_eqs1, l_t, l_l, bi_i, bi_max, bi_min, bi_tl, bi_tt, ix_l, ix_t, m_nil, m_cons, at0, at1, at2, flatD, seqOf, isNonW, nx_nx, nx_rt, nx_bk, nx_ct, nx_xc, next_nx, next_ct, next_bk, next_rt, Option.bind_some, Option.map_some, List.getElem?_cons_zero, List.getElem?_cons_succ, List.set_cons_zero, List.set_cons_succ, List.length_cons, List.length_nil, if_true, asgn, asgns, Nat.zero_add, Nat.reduceAdd, Nat.reduceLT, Nat.reduceLeDiff, reduceIte, reduceCtorEq, Bool.false_eq_true, Int.reduceNeg, sizeLine_val, and_self, true_and, and_true, b_m7, b_m86400, b_m1000000000, b_m60, b_m600, b_d7, b_d86400, b_d1000, b_p10_5, b_p10_9, b_p10_12, b_p10_15]
  refine L.day0 (k := k) hD hr hi fun r0 j ok0 w0 hj => ?_
  simp only [okR_bind, okR_map, okR_some, evS, ee_var, ee_cst, ee_fnv, ee_bin, ee_neg, ee_cmp, ee_chain, ee_isN, ee_notN, ee_and, ee_or, ee_not, ee_ite, ee_call, ee_callv, ee_bi, ee_isi1, ee_isi2, ee_mt0, ee_mt1, ee_ix, ee_sl, ee_tup, ee_lst, evEs, evZ, evO, evI, evT, evTo, evX, rd_d, fz_d, b_add, b_sub, b_mul, b_div, b_mod, b_p18, b_p8, b_p7, b_p6, c_lt, c_le, c_gt, c_ge, c_eq, c_ne, c_eqs, c_nes, c_nes0, c_nes1, c_eqs0, c_eqs1, l_t, l_l, bi_i, bi_max, bi_min, bi_tl, bi_tt, ix_l, ix_t, m_nil, m_cons, at0, at1, at2, flatD, seqOf, isNonW, nx_nx, nx_rt, nx_bk, nx_ct, nx_xc, next_nx, next_ct, next_bk, next_rt, Option.bind_some, Option.map_some, List.getElem?_cons_zero, List.getElem?_cons_succ, List.set_cons_zero, List.set_cons_succ, List.length_cons, List.length_nil, if_true, asgn, asgns, Nat.zero_add, Nat.reduceAdd, Nat.reduceLT, Nat.reduceLeDiff, reduceIte, reduceCtorEq, Bool.false_eq_true, Int.reduceNeg, sizeLine_val, and_self, true_and, and_true, b_m7, b_m86400, b_m1000000000, b_m60, b_m600, b_d7, b_d86400, b_d1000, b_p10_5, b_p10_9, b_p10_12, b_p10_15]
  refine ss_step ?_
  simp only [evS, okR_bind]
  refine comp_ok rfl (fun d' _ => ∃ r' : List St, d' = dayD r' ∧ DayOk r' ∧ ∀ p ∈ r', p.2 ∈ words3) (fun S => ∃ j : Int, 0 ≤ j ∧ S = .lst [.int j] :: ms) ?_
  refine i_r1 ?_
  simp only [okR_bind, okR_map, okR_some, evS, ee_var, ee_cst, ee_fnv, ee_bin, ee_neg, ee_cmp, ee_chain, ee_isN, ee_notN, ee_and, ee_or, ee_not, ee_ite, ee_call, ee_callv, ee_bi, ee_isi1, ee_isi2, ee_mt0, ee_mt1, ee_ix, ee_sl, ee_tup, ee_lst, evEs, evZ, evO, evI, evT, evTo, evX, rd_d, fz_d, b_add, b_sub, b_mul, b_div, b_mod, b_p18, b_p8, b_p7, b_p6, c_lt, c_le, c_gt, c_ge, c_eq, c_ne, c_eqs, c_nes, c_nes0, c_nes1, c_eqs0, c_eqs1, l_t, l_l, bi_i, bi_max, bi_min, bi_tl, bi_tt, ix_l, ix_t, m_nil, m_cons, at0, at1, at2, flatD, seqOf, isNonW, nx_nx, nx_rt, nx_bk, nx_ct, nx_xc, next_nx, next_ct, next_bk, next_rt, Option.bind_some, Option.map_some, List.getElem?_cons_zero, List.getElem?_cons_succ, List.set_cons_zero, List.set_cons_succ, List.length_cons, List.length_nil, if_true, asgn, asgns, Nat.zero_add, Nat.reduceAdd, Nat.reduceLT, Nat.reduceLeDiff, reduceIte, reduceCtorEq, Bool.false_eq_true, Int.reduceNeg, sizeLine_val, and_self, true_and, and_true, b_m7, b_m86400, b_m1000000000, b_m60, b_m600, b_d7, b_d86400, b_d1000, b_p10_5, b_p10_9, b_p10_12, b_p10_15]
  refine ⟨8, rfl, by decide, by decide, ⟨j, hj, rfl⟩, by rw [rangeD_length]; decide, ?_, ?_⟩
  · rintro d hd S ⟨j1, hj1, rfl⟩
    simp only [wipeE, okR_bind, okR_map, okR_some, evS, ee_var, ee_cst, ee_fnv, ee_bin, ee_neg, ee_cmp, ee_chain, ee_isN, ee_notN, ee_and, ee_or, ee_not, ee_ite, ee_call, ee_callv, ee_bi, ee_isi1, ee_isi2, ee_mt0, ee_mt1, ee_ix, ee_sl, ee_tup, ee_lst, evEs, evZ, evO, evI, evT, evTo, evX, rd_d, fz_d, b_add, b_sub, b_mul, b_div, b_mod, b_p18, b_p8, b_p7, b_p6, c_lt, c_le, c_gt, c_ge, c_eq, c_ne, c_eqs, c_nes, c_nes0, c_nes1, c_eqs0, c_eqs1, l_t, l_l, bi_i, bi_max, bi_min, bi_tl, bi_tt, ix_l, ix_t, m_nil, m_cons, at0, at1, at2, flatD, seqOf, isNonW, nx_nx, nx_rt, nx_bk, nx_ct, nx_xc, next_nx, next_ct, next_bk, next_rt, Option.bind_some, Option.map_some, List.getElem?_cons_zero, List.getElem?_cons_succ, List.set_cons_zero, List.set_cons_succ, List.length_cons, List.length_nil, if_true, asgn, asgns, Nat.zero_add, Nat.reduceAdd, Nat.reduceLT, Nat.reduceLeDiff, reduceIte, reduceCtorEq, Bool.false_eq_true, Int.reduceNeg, sizeLine_val, and_self, true_and, and_true, b_m7, b_m86400, b_m1000000000, b_m60, b_m600, b_d7, b_d86400, b_d1000, b_p10_5, b_p10_9, b_p10_12, b_p10_15]
    refine L.take0 (k := k + 2) hr hj1 (by decide) fun t j2 t0 t1 hj2 => ?_
    simp only [okR_bind, okR_map, okR_some, evS, ee_var, ee_cst, ee_fnv, ee_bin, ee_neg, ee_cmp, ee_chain, ee_isN, ee_notN, ee_and, ee_or, ee_not, ee_ite, ee_call, ee_callv, ee_bi, ee_isi1, ee_isi2, ee_mt0, ee_mt1, ee_ix, ee_sl, ee_tup, ee_lst, evEs, evZ, evO, evI, evT, evTo, evX, rd_d, fz_d, b_add, b_sub, b_mul, b_div, b_mod, b_p18, b_p8, b_p7, b_p6, c_lt, c_le, c_gt, c_ge, c_eq, c_ne, c_eqs, c_nes, c_nes0, c_nes1, c_eqs0, c_eqs1, l_t, l_l, bi_i, bi_max, bi_min, bi_tl, bi_tt, ix_l, ix_t, m_nil, m_cons, at0, at1, at2, flatD, seqOf, isNonW, nx_nx, nx_rt, nx_bk, nx_ct, nx_xc, next_nx, next_ct, next_bk, next_rt, Option.bind_some, Option.map_some, List.getElem?_cons_zero, List.getElem?_cons_succ, List.set_cons_zero, List.set_cons_succ, List.length_cons, List.length_nil, if_true, asgn, asgns, Nat.zero_add, Nat.reduceAdd, Nat.reduceLT, Nat.reduceLeDiff, reduceIte, reduceCtorEq, Bool.false_eq_true, Int.reduceNeg, sizeLine_val, and_self, true_and, and_true, b_m7, b_m86400, b_m1000000000, b_m60, b_m600, b_d7, b_d86400, b_d1000, b_p10_5, b_p10_9, b_p10_12, b_p10_15]
    by_cases ht : t = 0
    · simp only [okR_bind, okR_map, okR_some, evS, ee_var, ee_cst, ee_fnv, ee_bin, ee_neg, ee_cmp, ee_chain, ee_isN, ee_notN, ee_and, ee_or, ee_not, ee_ite, ee_call, ee_callv, ee_bi, ee_isi1, ee_isi2, ee_mt0, ee_mt1, ee_ix, ee_sl, ee_tup, ee_lst, evEs, evZ, evO, evI, evT, evTo, evX, rd_d, fz_d, b_add, b_sub, b_mul, b_div, b_mod, b_p18, b_p8, b_p7, b_p6, c_lt, c_le, c_gt, c_ge, c_eq, c_ne, c_eqs, c_nes, c_nes0, c_nes1, c_eqs0, c_eqs1, l_t, l_l, bi_i, bi_max, bi_min, bi_tl, bi_tt, ix_l, ix_t, m_nil, m_cons, at0, at1, at2, flatD, seqOf, isNonW, nx_nx, nx_rt, nx_bk, nx_ct, nx_xc, next_nx, next_ct, next_bk, next_rt, Option.bind_some, Option.map_some, List.getElem?_cons_zero, List.getElem?_cons_succ, List.set_cons_zero, List.set_cons_succ, List.length_cons, List.length_nil, if_true, asgn, asgns, Nat.zero_add, Nat.reduceAdd, Nat.reduceLT, Nat.reduceLeDiff, reduceIte, reduceCtorEq, Bool.false_eq_true, Int.reduceNeg, sizeLine_val, and_self, true_and, and_true, b_m7, b_m86400, b_m1000000000, b_m60, b_m600, b_d7, b_d86400, b_d1000, b_p10_5, b_p10_9, b_p10_12, b_p10_15, ht, decide_true]
      exact ⟨⟨r0, rfl, ok0, w0⟩, j2, hj2, rfl⟩
    · simp only [okR_bind, okR_map, okR_some, evS, ee_var, ee_cst, ee_fnv, ee_bin, ee_neg, ee_cmp, ee_chain, ee_isN, ee_notN, ee_and, ee_or, ee_not, ee_ite, ee_call, ee_callv, ee_bi, ee_isi1, ee_isi2, ee_mt0, ee_mt1, ee_ix, ee_sl, ee_tup, ee_lst, evEs, evZ, evO, evI, evT, evTo, evX, rd_d, fz_d, b_add, b_sub, b_mul, b_div, b_mod, b_p18, b_p8, b_p7, b_p6, c_lt, c_le, c_gt, c_ge, c_eq, c_ne, c_eqs, c_nes, c_nes0, c_nes1, c_eqs0, c_eqs1, l_t, l_l, bi_i, bi_max, bi_min, bi_tl, bi_tt, ix_l, ix_t, m_nil, m_cons, at0, at1, at2, flatD, seqOf, isNonW, nx_nx, nx_rt, nx_bk, nx_ct, nx_xc, next_nx, next_ct, next_bk, next_rt, Option.bind_some, Option.map_some, List.getElem?_cons_zero, List.getElem?_cons_succ, List.set_cons_zero, List.set_cons_succ, List.length_cons, List.length_nil, if_true, asgn, asgns, Nat.zero_add, Nat.reduceAdd, Nat.reduceLT, Nat.reduceLeDiff, reduceIte, reduceCtorEq, Bool.false_eq_true, Int.reduceNeg, sizeLine_val, and_self, true_and, and_true, b_m7, b_m86400, b_m1000000000, b_m60, b_m600, b_d7, b_d86400, b_d1000, b_p10_5, b_p10_9, b_p10_12, b_p10_15, ht, decide_false]
      refine L.day0 (k := k) hD hr hj2 fun r1 j3 ok1 w1 hj3 => ?_
      simp only [okR_bind, okR_map, okR_some, evS, ee_var, ee_cst, ee_fnv, ee_bin, ee_neg, ee_cmp, ee_chain, ee_isN, ee_notN, ee_and, ee_or, ee_not, ee_ite, ee_call, ee_callv, ee_bi, ee_isi1, ee_isi2, ee_mt0, ee_mt1, ee_ix, ee_sl, ee_tup, ee_lst, evEs, evZ, evO, evI, evT, evTo, evX, rd_d, fz_d, b_add, b_sub, b_mul, b_div, b_mod, b_p18, b_p8, b_p7, b_p6, c_lt, c_le, c_gt, c_ge, c_eq, c_ne, c_eqs, c_nes, c_nes0, c_nes1, c_eqs0, c_eqs1, l_t, l_l, bi_i, bi_max, bi_min, bi_tl, bi_tt, ix_l, ix_t, m_nil, m_cons, at0, at1, at2, flatD, seqOf, isNonW, nx_nx, nx_rt, nx_bk, nx_ct, nx_xc, next_nx, next_ct, next_bk, next_rt, Option.bind_some, Option.map_some, List.getElem?_cons_zero, List.getElem?_cons_succ, List.set_cons_zero, List.set_cons_succ, List.length_cons, List.length_nil, if_true, asgn, asgns, Nat.zero_add, Nat.reduceAdd, Nat.reduceLT, Nat.reduceLeDiff, reduceIte, reduceCtorEq, Bool.false_eq_true, Int.reduceNeg, sizeLine_val, and_self, true_and, and_true, b_m7, b_m86400, b_m1000000000, b_m60, b_m600, b_d7, b_d86400, b_d1000, b_p10_5, b_p10_9, b_p10_12, b_p10_15]
      exact ⟨⟨r1, rfl, ok1, w1⟩, j3, hj3, rfl⟩
  · rintro ds' S' ha ⟨j1, hj1, rfl⟩
    obtain ⟨days, rfl, dl, dk⟩ := days_of_all2 ha
    rw [rangeD_length] at dl
    refine ss_step ?_
    have e0 : evS (callF P (k + 4)) (.newD 4) [some (.d r), some (.mu 0), some (.d (dayD r0)), some (.d (.lst (days.map dayD))), none, none] (.lst [.int j1] :: ms) = some (.nx [some (.d r), some (.mu 0), some (.d (dayD r0)), some (.d (.lst (days.map dayD))), some (.mu (ms.length + 1)), none] (.lst [.int j1] :: (ms ++ [.dK (([] : List Int).map .inl) []]))) := by
      simp [evS]
    refine OkR.of e0 ?_
    simp only [nx_nx]
    refine ss_step (for_ok (i_r1 ?_))
    simp only [okR_bind, okR_map, okR_some, evS, ee_var, ee_cst, ee_fnv, ee_bin, ee_neg, ee_cmp, ee_chain, ee_isN, ee_notN, ee_and, ee_or, ee_not, ee_ite, ee_call, ee_callv, ee_bi, ee_isi1, ee_isi2, ee_mt0, ee_mt1, ee_ix, ee_sl, ee_tup, ee_lst, evEs, evZ, evO, evI, evT, evTo, evX, rd_d, fz_d, b_add, b_sub, b_mul, b_div, b_mod, b_p18, b_p8, b_p7, b_p6, c_lt, c_le, c_gt, c_ge, c_eq, c_ne, c_eqs, c_nes, c_nes0, c_nes1, c_eqs0, c_eqs1, l_t, l_l, bi_i, bi_max, bi_min, bi_tl, bi_tt, ix_l, ix_t, m_nil, m_cons, at0, at1, at2, flatD, seqOf, isNonW, nx_nx, nx_rt, nx_bk, nx_ct, nx_xc, next_nx, next_ct, next_bk, next_rt, Option.bind_some, Option.map_some, List.getElem?_cons_zero, List.getElem?_cons_succ, List.set_cons_zero, List.set_cons_succ, List.length_cons, List.length_nil, if_true, asgn, asgns, Nat.zero_add, Nat.reduceAdd, Nat.reduceLT, Nat.reduceLeDiff, reduceIte, reduceCtorEq, Bool.false_eq_true, Int.reduceNeg, sizeLine_val, and_self, true_and, and_true, b_m7, b_m86400, b_m1000000000, b_m60, b_m600, b_d7, b_d86400, b_d1000, b_p10_5, b_p10_9, b_p10_12, b_p10_15]
    refine L.take0 (k := k + 2) hr hj1 (by decide) fun t j t0 t1 hj => ⟨t, rfl, by omega, by omega, ?_⟩
    refine loop_ok (fun n ρ S => ∃ (v3 : Option W) (j : Int) (fs : List Int) (ds : List D), ρ = [some (.d r), some (.mu 0), some (.d (dayD r0)), some (.d (.lst (days.map dayD))), some (.mu (ms.length + 1)), v3] ∧ S = .lst [.int j] :: (ms ++ [.dK (fs.map .inl) ds]) ∧ 0 ≤ j ∧ KsOk 0 1000 n fs)
      ⟨none, j, [], _, rfl, rfl, hj, KsOk.nil⟩ ?_ ?_
    · rintro n d ρ S hn ⟨v3, j, fs, ds, rfl, rfl, hj, hf⟩
      obtain ⟨hn1, rfl⟩ := rangeD_get hn
      simp only [okR_bind, okR_map, okR_some, evS, ee_var, ee_cst, ee_fnv, ee_bin, ee_neg, ee_cmp, ee_chain, ee_isN, ee_notN, ee_and, ee_or, ee_not, ee_ite, ee_call, ee_callv, ee_bi, ee_isi1, ee_isi2, ee_mt0, ee_mt1, ee_ix, ee_sl, ee_tup, ee_lst, evEs, evZ, evO, evI, evT, evTo, evX, rd_d, fz_d, b_add, b_sub, b_mul, b_div, b_mod, b_p18, b_p8, b_p7, b_p6, c_lt, c_le, c_gt, c_ge, c_eq, c_ne, c_eqs, c_nes, c_nes0, c_nes1, c_eqs0, c_eqs1, l_t, l_l, bi_i, bi_max, bi_min, bi_tl, bi_tt, ix_l, ix_t, m_nil, m_cons, at0, at1, at2, flatD, seqOf, isNonW, nx_nx, nx_rt, nx_bk, nx_ct, nx_xc, next_nx, next_ct, next_bk, next_rt, Option.bind_some, Option.map_some, List.getElem?_cons_zero, List.getElem?_cons_succ, List.set_cons_zero, List.set_cons_succ, List.length_cons, List.length_nil, if_true, asgn, asgns, Nat.zero_add, Nat.reduceAdd, Nat.reduceLT, Nat.reduceLeDiff, reduceIte, reduceCtorEq, Bool.false_eq_true, Int.reduceNeg, sizeLine_val, and_self, true_and, and_true, b_m7, b_m86400, b_m1000000000, b_m60, b_m600, b_d7, b_d86400, b_d1000, b_p10_5, b_p10_9, b_p10_12, b_p10_15]
      refine ss_step (setD_ok rfl ?_)
      simp only [okR_bind, okR_map, okR_some, evS, ee_var, ee_cst, ee_fnv, ee_bin, ee_neg, ee_cmp, ee_chain, ee_isN, ee_notN, ee_and, ee_or, ee_not, ee_ite, ee_call, ee_callv, ee_bi, ee_isi1, ee_isi2, ee_mt0, ee_mt1, ee_ix, ee_sl, ee_tup, ee_lst, evEs, evZ, evO, evI, evT, evTo, evX, rd_d, fz_d, b_add, b_sub, b_mul, b_div, b_mod, b_p18, b_p8, b_p7, b_p6, c_lt, c_le, c_gt, c_ge, c_eq, c_ne, c_eqs, c_nes, c_nes0, c_nes1, c_eqs0, c_eqs1, l_t, l_l, bi_i, bi_max, bi_min, bi_tl, bi_tt, ix_l, ix_t, m_nil, m_cons, at0, at1, at2, flatD, seqOf, isNonW, nx_nx, nx_rt, nx_bk, nx_ct, nx_xc, next_nx, next_ct, next_bk, next_rt, Option.bind_some, Option.map_some, List.getElem?_cons_zero, List.getElem?_cons_succ, List.set_cons_zero, List.set_cons_succ, List.length_cons, List.length_nil, if_true, asgn, asgns, Nat.zero_add, Nat.reduceAdd, Nat.reduceLT, Nat.reduceLeDiff, reduceIte, reduceCtorEq, Bool.false_eq_true, Int.reduceNeg, sizeLine_val, and_self, true_and, and_true, b_m7, b_m86400, b_m1000000000, b_m60, b_m600, b_d7, b_d86400, b_d1000, b_p10_5, b_p10_9, b_p10_12, b_p10_15]
      refine L.take0 (k := k + 2) hr hj (by decide) fun a j1 a0 a1 hj1 => ?_
      simp only [okR_bind, okR_map, okR_some, evS, ee_var, ee_cst, ee_fnv, ee_bin, ee_neg, ee_cmp, ee_chain, ee_isN, ee_notN, ee_and, ee_or, ee_not, ee_ite, ee_call, ee_callv, ee_bi, ee_isi1, ee_isi2, ee_mt0, ee_mt1, ee_ix, ee_sl, ee_tup, ee_lst, evEs, evZ, evO, evI, evT, evTo, evX, rd_d, fz_d, b_add, b_sub, b_mul, b_div, b_mod, b_p18, b_p8, b_p7, b_p6, c_lt, c_le, c_gt, c_ge, c_eq, c_ne, c_eqs, c_nes, c_nes0, c_nes1, c_eqs0, c_eqs1, l_t, l_l, bi_i, bi_max, bi_min, bi_tl, bi_tt, ix_l, ix_t, m_nil, m_cons, at0, at1, at2, flatD, seqOf, isNonW, nx_nx, nx_rt, nx_bk, nx_ct, nx_xc, next_nx, next_ct, next_bk, next_rt, Option.bind_some, Option.map_some, List.getElem?_cons_zero, List.getElem?_cons_succ, List.set_cons_zero, List.set_cons_succ, List.length_cons, List.length_nil, if_true, asgn, asgns, Nat.zero_add, Nat.reduceAdd, Nat.reduceLT, Nat.reduceLeDiff, reduceIte, reduceCtorEq, Bool.false_eq_true, Int.reduceNeg, sizeLine_val, and_self, true_and, and_true, b_m7, b_m86400, b_m1000000000, b_m60, b_m600, b_d7, b_d86400, b_d1000, b_p10_5, b_p10_9, b_p10_12, b_p10_15]
      refine L.pickL (k := k + 1) hr hj1 ?_ fun b j2 hb hj2 => ?_
      · exact fun z => nomatch z
      have : ∃ z, b = .int z ∧ 0 ≤ z ∧ z ≤ 1000 := by
        simp only [List.mem_cons, List.not_mem_nil, or_false] at hb
        rcases hb with rfl | rfl | rfl | rfl | rfl | rfl | rfl <;> exact ⟨_, rfl, by omega, by omega⟩
      obtain ⟨z, rfl, z0, z1⟩ := this
      have hl := hf.len
      have ei : (.lst [.int j2] :: (ms ++ [MO.dK (fs.map .inl) ds]))[ms.length + 1]? = some (.dK (fs.map .inl) ds) := by simp
      refine ⟨z, fs, ds, rfl, ei, by omega, fun ds' => ?_⟩
      simp only [nx_nx]
      refine ss_done ⟨_, j2, putZ z fs, ds', rfl, ?_, hj2, hf.put z0 z1⟩
      simp [List.set_append]
    · rintro ρ S ⟨v3, j, fs, ds, rfl, rfl, hj, hf⟩
      rw [rangeD_length] at hf
      have hl := hf.len
      simp only [nx_nx]
      refine ss_step ?_
      have el : (.lst [.int j] :: (ms ++ [MO.dK (fs.map .inl) ds]))[ms.length + 1]? = some (.dK (fs.map .inl) ds) := by simp
      simp only [okR_bind, okR_map, okR_some, evS, ee_var, ee_cst, ee_fnv, ee_bin, ee_neg, ee_cmp, ee_chain, ee_isN, ee_notN, ee_and, ee_or, ee_not, ee_ite, ee_call, ee_callv, ee_bi, ee_isi1, ee_isi2, ee_mt0, ee_mt1, ee_ix, ee_sl, ee_tup, ee_lst, evEs, evZ, evO, evI, evT, evTo, evX, rd_d, fz_d, b_add, b_sub, b_mul, b_div, b_mod, b_p18, b_p8, b_p7, b_p6, c_lt, c_le, c_gt, c_ge, c_eq, c_ne, c_eqs, c_nes, c_nes0, c_nes1, c_eqs0, c_eqs1, l_t, l_l, bi_i, bi_max, bi_min, bi_tl, bi_tt, ix_l, ix_t, m_nil, m_cons, at0, at1, at2, flatD, seqOf, isNonW, nx_nx, nx_rt, nx_bk, nx_ct, nx_xc, next_nx, next_ct, next_bk, next_rt, Option.bind_some, Option.map_some, List.getElem?_cons_zero, List.getElem?_cons_succ, List.set_cons_zero, List.set_cons_succ, List.length_cons, List.length_nil, if_true, asgn, asgns, Nat.zero_add, Nat.reduceAdd, Nat.reduceLT, Nat.reduceLeDiff, reduceIte, reduceCtorEq, Bool.false_eq_true, Int.reduceNeg, sizeLine_val, and_self, true_and, and_true, b_m7, b_m86400, b_m1000000000, b_m60, b_m600, b_d7, b_d86400, b_d1000, b_p10_5, b_p10_9, b_p10_12, b_p10_15, rd_k el, bi_sortedK]
      refine fin_rt ?_
      have et : (MO.lst [.int j] :: (ms ++ [.dK (fs.map .inl) ds])).take (ms.length + 1) = .lst [.int j] :: ms := by simp
      rw [et]
      refine q days (sortI fs) j ⟨by omega, fun r' hr' => (dk r' hr').1, by rw [sortI_len]; omega, Asc_of_up (sortI_upP hf.nd), fun z hz => hf.each z (sortI_mem.mp hz)⟩ (fun r' hr' => (dk r' hr').2) hj
end
end Pv

set_option Elab.async false
set_option linter.all false
set_option maxRecDepth 100000
set_option maxHeartbeats 1000000
/-! The laws' own checks of a week; what is the same is so. -/
namespace Pv
open PySem L2
/-- _law_whole: 1 parameters, slots value -/
def B_law_whole : Ss := .cons (.ret (.and (.isi1 (.var 0) "int") (.not (.isi1 (.var 0) "bool")))) (.nil)
/-- _law_between: 3 parameters, slots value low high -/
def B_law_between (i_law_whole : Nat) : Ss := .cons (.ret (.and (.call i_law_whole (.cons (.var 0) (.nil))) (.chain .le .le (.var 1) (.var 0) (.var 2)))) (.nil)
/-- _law_is_word: 1 parameters, slots value one -/
def B_law_is_word : Ss := .cons (.ifs (.or (.not (.val (.isi1 (.var 0) "str"))) (.not (.val (.chain .le .le (.cst (.int 1)) (.bi .len (.cons (.var 0) (.nil))) (.cst (.int 8)))))) (.cons (.ret (.cst (.bl false))) (.nil)) (.nil)) (.cons (.ret (.cmp .eq (.bi .len (.cons (.comp [1] (.name 1) (.seq (.var 0)) (.some (.val (.cmp .nin (.var 1) (.cst (.str "abcdefghijklmnopqrstuvwxyz"))))) (.var 1)) (.nil))) (.cst (.int 0)))) (.nil))
/-- _law_is_day: 1 parameters, slots value k one -/
def B_law_is_day (i_law_between i_law_is_word : Nat) : Ss := .cons (.ifs (.or (.not (.val (.isi1 (.var 0) "tuple"))) (.not (.val (.chain .le .le (.cst (.int 1)) (.bi .len (.cons (.var 0) (.nil))) (.cst (.int 8)))))) (.cons (.ret (.cst (.bl false))) (.nil)) (.nil)) (.cons (.forS (.name 1) (.r1 (.bi .len (.cons (.var 0) (.nil)))) (.cons (.asg (.name 2) (.ix (.var 0) (.var 1))) (.cons (.ifs (.or (.not (.val (.isi1 (.var 2) "tuple"))) (.or (.val (.cmp .ne (.bi .len (.cons (.var 2) (.nil))) (.cst (.int 2)))) (.or (.not (.val (.call i_law_between (.cons (.ix (.var 2) (.cst (.int 0))) (.cons (.cst (.int 0)) (.cons (.cst (.int 86399)) (.nil))))))) (.not (.val (.call i_law_is_word (.cons (.ix (.var 2) (.cst (.int 1))) (.nil)))))))) (.cons (.ret (.cst (.bl false))) (.nil)) (.nil)) (.cons (.ifs (.or (.and (.val (.cmp .eq (.var 1) (.cst (.int 0)))) (.val (.cmp .ne (.ix (.var 2) (.cst (.int 0))) (.cst (.int 0))))) (.and (.val (.cmp .gt (.var 1) (.cst (.int 0)))) (.val (.cmp .ge (.ix (.ix (.var 0) (.bin .sub (.var 1) (.cst (.int 1)))) (.cst (.int 0))) (.ix (.var 2) (.cst (.int 0))))))) (.cons (.ret (.cst (.bl false))) (.nil)) (.nil)) (.nil))))) (.cons (.ret (.cst (.bl true))) (.nil)))
/-- _law_is_week: 1 parameters, slots value k day -/
def B_law_is_week (i_law_between i_law_is_day : Nat) : Ss := .cons (.ifs (.or (.not (.val (.isi1 (.var 0) "tuple"))) (.or (.val (.cmp .ne (.bi .len (.cons (.var 0) (.nil))) (.cst (.int 2)))) (.or (.not (.val (.isi1 (.ix (.var 0) (.cst (.int 0))) "tuple"))) (.val (.cmp .ne (.bi .len (.cons (.ix (.var 0) (.cst (.int 0))) (.nil))) (.cst (.int 8))))))) (.cons (.ret (.cst (.bl false))) (.nil)) (.nil)) (.cons (.ifs (.or (.val (.cmp .gt (.bi .len (.cons (.comp [2] (.name 2) (.seq (.ix (.var 0) (.cst (.int 0)))) (.some (.not (.val (.call i_law_is_day (.cons (.var 2) (.nil)))))) (.var 2)) (.nil))) (.cst (.int 0)))) (.or (.not (.val (.isi1 (.ix (.var 0) (.cst (.int 1))) "tuple"))) (.val (.cmp .gt (.bi .len (.cons (.ix (.var 0) (.cst (.int 1))) (.nil))) (.cst (.int 20)))))) (.cons (.ret (.cst (.bl false))) (.nil)) (.nil)) (.cons (.forS (.name 1) (.r1 (.bi .len (.cons (.ix (.var 0) (.cst (.int 1))) (.nil)))) (.cons (.ifs (.or (.not (.val (.call i_law_between (.cons (.ix (.ix (.var 0) (.cst (.int 1))) (.var 1)) (.cons (.cst (.int 0)) (.cons (.cst (.int 1000)) (.nil))))))) (.and (.val (.cmp .gt (.var 1) (.cst (.int 0)))) (.val (.cmp .ge (.ix (.ix (.var 0) (.cst (.int 1))) (.bin .sub (.var 1) (.cst (.int 1)))) (.ix (.ix (.var 0) (.cst (.int 1))) (.var 1)))))) (.cons (.ret (.cst (.bl false))) (.nil)) (.nil)) (.nil))) (.cons (.ret (.cst (.bl true))) (.nil))))
section
variable {P : Nat → Option Fn} {k f g : Nat} {S : Store} {y : Lx}
/-! ### so -/
theorem so_refl (h : P f = some ⟨2, 3, B_law_so f⟩) : ∀ (m : Nat) {k : Nat} {S : Store} {d : D}, Tv m d = true → callF P (k + m + 1) f [.d d, .d d] S = some (.bl true, S) := by
  intro m
  have flat : ∀ {k : Nat} {S : Store} {d : D}, flatD d = true → callF P (k + 1) f [.d d, .d d] S = some (.bl true, S) := by
    intro k S d hd
    rw [callF_b h rfl (by decide)]
    show (evSs (callF P k) (B_law_so f) [some (.d d), some (.d d), none] S).bind _ = _
    cases d with
    | non => simp [B_law_so, evSs, evS, evE, evEs, evZ, evO, evI, evT, evTo, rd_d, fz_d, b_add, b_sub, b_mul, b_div, b_mod, b_p18, b_p8, b_p7, b_p6, c_lt, c_le, c_gt, c_ge, c_eq, c_ne, c_eqs, c_nes, c_nes0, c_nes1, c_eqs0, c_eqs1, l_t, l_l, bi_i, bi_max, bi_min, bi_tl, bi_tt, ix_l, ix_t, m_nil, m_cons, at0, at1, at2, flatD, seqOf, isNonW, fin, evX]
    | bl b => cases b <;> simp [B_law_so, evSs, evS, evE, evEs, evZ, evO, evI, evT, evTo, rd_d, fz_d, b_add, b_sub, b_mul, b_div, b_mod, b_p18, b_p8, b_p7, b_p6, c_lt, c_le, c_gt, c_ge, c_eq, c_ne, c_eqs, c_nes, c_nes0, c_nes1, c_eqs0, c_eqs1, l_t, l_l, bi_i, bi_max, bi_min, bi_tl, bi_tt, ix_l, ix_t, m_nil, m_cons, at0, at1, at2, flatD, seqOf, isNonW, fin, evX, isi1, tyD, kB5, kB7, kB10, cRun, cEq, scalD, eqS]
    | int i => simp [B_law_so, evSs, evS, evE, evEs, evZ, evO, evI, evT, evTo, rd_d, fz_d, b_add, b_sub, b_mul, b_div, b_mod, b_p18, b_p8, b_p7, b_p6, c_lt, c_le, c_gt, c_ge, c_eq, c_ne, c_eqs, c_nes, c_nes0, c_nes1, c_eqs0, c_eqs1, l_t, l_l, bi_i, bi_max, bi_min, bi_tl, bi_tt, ix_l, ix_t, m_nil, m_cons, at0, at1, at2, flatD, seqOf, isNonW, fin, evX, isi1, tyD, kB1, kB2, kB5]
    | str w => simp [B_law_so, evSs, evS, evE, evEs, evZ, evO, evI, evT, evTo, rd_d, fz_d, b_add, b_sub, b_mul, b_div, b_mod, b_p18, b_p8, b_p7, b_p6, c_lt, c_le, c_gt, c_ge, c_eq, c_ne, c_eqs, c_nes, c_nes0, c_nes1, c_eqs0, c_eqs1, l_t, l_l, bi_i, bi_max, bi_min, bi_tl, bi_tt, ix_l, ix_t, m_nil, m_cons, at0, at1, at2, flatD, seqOf, isNonW, fin, evX, isi1, tyD, kB11, kB12, kB13, kB15]
    | _ => simp [flatD] at hd
  induction m with
  | zero =>
    intro k S d hd
    exact flat (by simpa [Tv] using hd)
  | succ m ih =>
    intro k S d hd
    cases d with
    | tup ds =>
      simp only [Tv, Bool.and_eq_true, decide_eq_true_eq, List.all_eq_true] at hd
      obtain ⟨hl, hall⟩ := hd
      have key : OkR (callF P (k + (m + 1) + 1) f [.d (.tup ds), .d (.tup ds)] S) fun p => p = (.bl true, S) := by
        refine def_ok h rfl (by show 2 ≤ 3; decide) rfl ?_
        show OkR (evSs (callF P (k + (m + 1))) (B_law_so f) [some (.d (.tup ds)), some (.d (.tup ds)), none] S) _
        unfold B_law_so
        refine ss_step ?_; simp only [okR_bind, okR_map, okR_some, evS, ee_var, ee_cst, ee_fnv, ee_bin, ee_neg, ee_cmp, ee_chain, ee_isN, ee_notN, ee_and, ee_or, ee_not, ee_ite, ee_call, ee_callv, ee_bi, ee_isi1, ee_isi2, ee_mt0, ee_mt1, ee_ix, ee_sl, ee_tup, ee_lst, evEs, evZ, evO, evI, evT, evTo, evX, rd_d, fz_d, b_add, b_sub, b_mul, b_div, b_mod, b_p18, b_p8, b_p7, b_p6, c_lt, c_le, c_gt, c_ge, c_eq, c_ne, c_eqs, c_nes, c_nes0, c_nes1, c_eqs0, c_eqs1, l_t, l_l, bi_i, bi_max, bi_min, bi_tl, bi_tt, ix_l, ix_t, m_nil, m_cons, at0, at1, at2, flatD, seqOf, isNonW, nx_nx, nx_rt, nx_bk, nx_ct, nx_xc, next_nx, next_ct, next_bk, next_rt, Option.bind_some, Option.map_some, List.getElem?_cons_zero, List.getElem?_cons_succ, List.set_cons_zero, List.set_cons_succ, List.length_cons, List.length_nil, if_true, asgn, asgns, Nat.zero_add, Nat.reduceAdd, Nat.reduceLT, Nat.reduceLeDiff, reduceIte, reduceCtorEq, Bool.false_eq_true, Int.reduceNeg, sizeLine_val, and_self, true_and, and_true, b_m7, b_m86400, b_m1000000000, b_m60, b_m600, b_d7, b_d86400, b_d1000, b_p10_5, b_p10_9, b_p10_12, b_p10_15]
        refine ss_done ?_
        simp only [nx_nx]
        refine ss_step (ifs_ok ?_)
        simp only [okR_bind, okR_map, okR_some, evS, ee_var, ee_cst, ee_fnv, ee_bin, ee_neg, ee_cmp, ee_chain, ee_isN, ee_notN, ee_and, ee_or, ee_not, ee_ite, ee_call, ee_callv, ee_bi, ee_isi1, ee_isi2, ee_mt0, ee_mt1, ee_ix, ee_sl, ee_tup, ee_lst, evEs, evZ, evO, evI, evT, evTo, evX, rd_d, fz_d, b_add, b_sub, b_mul, b_div, b_mod, b_p18, b_p8, b_p7, b_p6, c_lt, c_le, c_gt, c_ge, c_eq, c_ne, c_eqs, c_nes, c_nes0, c_nes1, c_eqs0, c_eqs1, l_t, l_l, bi_i, bi_max, bi_min, bi_tl, bi_tt, ix_l, ix_t, m_nil, m_cons, at0, at1, at2, flatD, seqOf, isNonW, nx_nx, nx_rt, nx_bk, nx_ct, nx_xc, next_nx, next_ct, next_bk, next_rt, Option.bind_some, Option.map_some, List.getElem?_cons_zero, List.getElem?_cons_succ, List.set_cons_zero, List.set_cons_succ, List.length_cons, List.length_nil, if_true, asgn, asgns, Nat.zero_add, Nat.reduceAdd, Nat.reduceLT, Nat.reduceLeDiff, reduceIte, reduceCtorEq, Bool.false_eq_true, Int.reduceNeg, sizeLine_val, and_self, true_and, and_true, b_m7, b_m86400, b_m1000000000, b_m60, b_m600, b_d7, b_d86400, b_d1000, b_p10_5, b_p10_9, b_p10_12, b_p10_15, isi_tup]
        refine ss_step (ifs_ok ?_)
        simp only [okR_bind, okR_map, okR_some, evS, ee_var, ee_cst, ee_fnv, ee_bin, ee_neg, ee_cmp, ee_chain, ee_isN, ee_notN, ee_and, ee_or, ee_not, ee_ite, ee_call, ee_callv, ee_bi, ee_isi1, ee_isi2, ee_mt0, ee_mt1, ee_ix, ee_sl, ee_tup, ee_lst, evEs, evZ, evO, evI, evT, evTo, evX, rd_d, fz_d, b_add, b_sub, b_mul, b_div, b_mod, b_p18, b_p8, b_p7, b_p6, c_lt, c_le, c_gt, c_ge, c_eq, c_ne, c_eqs, c_nes, c_nes0, c_nes1, c_eqs0, c_eqs1, l_t, l_l, bi_i, bi_max, bi_min, bi_tl, bi_tt, ix_l, ix_t, m_nil, m_cons, at0, at1, at2, flatD, seqOf, isNonW, nx_nx, nx_rt, nx_bk, nx_ct, nx_xc, next_nx, next_ct, next_bk, next_rt, Option.bind_some, Option.map_some, List.getElem?_cons_zero, List.getElem?_cons_succ, List.set_cons_zero, List.set_cons_succ, List.length_cons, List.length_nil, if_true, asgn, asgns, Nat.zero_add, Nat.reduceAdd, Nat.reduceLT, Nat.reduceLeDiff, reduceIte, reduceCtorEq, Bool.false_eq_true, Int.reduceNeg, sizeLine_val, and_self, true_and, and_true, b_m7, b_m86400, b_m1000000000, b_m60, b_m600, b_d7, b_d86400, b_d1000, b_p10_5, b_p10_9, b_p10_12, b_p10_15, isi_tup, Bool.not_true, decide_true]
        refine ss_done ?_
        simp only [nx_nx]
        refine ss_step (for_ok (i_r1 ?_))
        simp only [okR_bind, okR_map, okR_some, evS, ee_var, ee_cst, ee_fnv, ee_bin, ee_neg, ee_cmp, ee_chain, ee_isN, ee_notN, ee_and, ee_or, ee_not, ee_ite, ee_call, ee_callv, ee_bi, ee_isi1, ee_isi2, ee_mt0, ee_mt1, ee_ix, ee_sl, ee_tup, ee_lst, evEs, evZ, evO, evI, evT, evTo, evX, rd_d, fz_d, b_add, b_sub, b_mul, b_div, b_mod, b_p18, b_p8, b_p7, b_p6, c_lt, c_le, c_gt, c_ge, c_eq, c_ne, c_eqs, c_nes, c_nes0, c_nes1, c_eqs0, c_eqs1, l_t, l_l, bi_i, bi_max, bi_min, bi_tl, bi_tt, ix_l, ix_t, m_nil, m_cons, at0, at1, at2, flatD, seqOf, isNonW, nx_nx, nx_rt, nx_bk, nx_ct, nx_xc, next_nx, next_ct, next_bk, next_rt, Option.bind_some, Option.map_some, List.getElem?_cons_zero, List.getElem?_cons_succ, List.set_cons_zero, List.set_cons_succ, List.length_cons, List.length_nil, if_true, asgn, asgns, Nat.zero_add, Nat.reduceAdd, Nat.reduceLT, Nat.reduceLeDiff, reduceIte, reduceCtorEq, Bool.false_eq_true, Int.reduceNeg, sizeLine_val, and_self, true_and, and_true, b_m7, b_m86400, b_m1000000000, b_m60, b_m600, b_d7, b_d86400, b_d1000, b_p10_5, b_p10_9, b_p10_12, b_p10_15]
        refine ⟨ds.length, rfl, by omega, by have : sizeLine = 16777216 := sizeLine_val; omega, ?_⟩
        refine loop_ok (fun n ρ S' => ∃ v2, ρ = [some (.d (.tup ds)), some (.d (.tup ds)), v2] ∧ S' = S) ⟨none, rfl, rfl⟩ ?_ ?_
        · rintro n d ρ S' hn ⟨v2, rfl, rfl⟩
          obtain ⟨hn1, rfl⟩ := rangeD_get hn
          have hn2 : n < ds.length := by omega
          have ei : L2.atI ds (0 + (n : Int)) = some ds[n] := by rw [Int.zero_add]; exact L2.atI_nat (List.getElem?_eq_getElem hn2)
          simp only [okR_bind, okR_map, okR_some, evS, ee_var, ee_cst, ee_fnv, ee_bin, ee_neg, ee_cmp, ee_chain, ee_isN, ee_notN, ee_and, ee_or, ee_not, ee_ite, ee_call, ee_callv, ee_bi, ee_isi1, ee_isi2, ee_mt0, ee_mt1, ee_ix, ee_sl, ee_tup, ee_lst, evEs, evZ, evO, evI, evT, evTo, evX, rd_d, fz_d, b_add, b_sub, b_mul, b_div, b_mod, b_p18, b_p8, b_p7, b_p6, c_lt, c_le, c_gt, c_ge, c_eq, c_ne, c_eqs, c_nes, c_nes0, c_nes1, c_eqs0, c_eqs1, l_t, l_l, bi_i, bi_max, bi_min, bi_tl, bi_tt, ix_l, ix_t, m_nil, m_cons, at0, at1, at2, flatD, seqOf, isNonW, nx_nx, nx_rt, nx_bk, nx_ct, nx_xc, next_nx, next_ct, next_bk, next_rt, Option.bind_some, Option.map_some, List.getElem?_cons_zero, List.getElem?_cons_succ, List.set_cons_zero, List.set_cons_succ, List.length_cons, List.length_nil, if_true, asgn, asgns, Nat.zero_add, Nat.reduceAdd, Nat.reduceLT, Nat.reduceLeDiff, reduceIte, reduceCtorEq, Bool.false_eq_true, Int.reduceNeg, sizeLine_val, and_self, true_and, and_true, b_m7, b_m86400, b_m1000000000, b_m60, b_m600, b_d7, b_d86400, b_d1000, b_p10_5, b_p10_9, b_p10_12, b_p10_15]
          refine ss_step (ifs_ok ?_)
          simp only [okR_bind, okR_map, okR_some, evS, ee_var, ee_cst, ee_fnv, ee_bin, ee_neg, ee_cmp, ee_chain, ee_isN, ee_notN, ee_and, ee_or, ee_not, ee_ite, ee_call, ee_callv, ee_bi, ee_isi1, ee_isi2, ee_mt0, ee_mt1, ee_ix, ee_sl, ee_tup, ee_lst, evEs, evZ, evO, evI, evT, evTo, evX, rd_d, fz_d, b_add, b_sub, b_mul, b_div, b_mod, b_p18, b_p8, b_p7, b_p6, c_lt, c_le, c_gt, c_ge, c_eq, c_ne, c_eqs, c_nes, c_nes0, c_nes1, c_eqs0, c_eqs1, l_t, l_l, bi_i, bi_max, bi_min, bi_tl, bi_tt, ix_l, ix_t, m_nil, m_cons, at0, at1, at2, flatD, seqOf, isNonW, nx_nx, nx_rt, nx_bk, nx_ct, nx_xc, next_nx, next_ct, next_bk, next_rt, Option.bind_some, Option.map_some, List.getElem?_cons_zero, List.getElem?_cons_succ, List.set_cons_zero, List.set_cons_succ, List.length_cons, List.length_nil, if_true, asgn, asgns, Nat.zero_add, Nat.reduceAdd, Nat.reduceLT, Nat.reduceLeDiff, reduceIte, reduceCtorEq, Bool.false_eq_true, Int.reduceNeg, sizeLine_val, and_self, true_and, and_true, b_m7, b_m86400, b_m1000000000, b_m60, b_m600, b_d7, b_d86400, b_d1000, b_p10_5, b_p10_9, b_p10_12, b_p10_15, ei]
          refine OkR.of (ih (k := k) (hall _ (List.getElem_mem hn2))) ?_
          simp only [okR_bind, okR_map, okR_some, evS, ee_var, ee_cst, ee_fnv, ee_bin, ee_neg, ee_cmp, ee_chain, ee_isN, ee_notN, ee_and, ee_or, ee_not, ee_ite, ee_call, ee_callv, ee_bi, ee_isi1, ee_isi2, ee_mt0, ee_mt1, ee_ix, ee_sl, ee_tup, ee_lst, evEs, evZ, evO, evI, evT, evTo, evX, rd_d, fz_d, b_add, b_sub, b_mul, b_div, b_mod, b_p18, b_p8, b_p7, b_p6, c_lt, c_le, c_gt, c_ge, c_eq, c_ne, c_eqs, c_nes, c_nes0, c_nes1, c_eqs0, c_eqs1, l_t, l_l, bi_i, bi_max, bi_min, bi_tl, bi_tt, ix_l, ix_t, m_nil, m_cons, at0, at1, at2, flatD, seqOf, isNonW, nx_nx, nx_rt, nx_bk, nx_ct, nx_xc, next_nx, next_ct, next_bk, next_rt, Option.bind_some, Option.map_some, List.getElem?_cons_zero, List.getElem?_cons_succ, List.set_cons_zero, List.set_cons_succ, List.length_cons, List.length_nil, if_true, asgn, asgns, Nat.zero_add, Nat.reduceAdd, Nat.reduceLT, Nat.reduceLeDiff, reduceIte, reduceCtorEq, Bool.false_eq_true, Int.reduceNeg, sizeLine_val, and_self, true_and, and_true, b_m7, b_m86400, b_m1000000000, b_m60, b_m600, b_d7, b_d86400, b_d1000, b_p10_5, b_p10_9, b_p10_12, b_p10_15, Bool.not_true]
          exact ss_done (ss_done ⟨_, rfl, rfl⟩)
        · rintro ρ S' ⟨v2, rfl, rfl⟩
          simp only [nx_nx]
          refine ss_step ?_; simp only [okR_bind, okR_map, okR_some, evS, ee_var, ee_cst, ee_fnv, ee_bin, ee_neg, ee_cmp, ee_chain, ee_isN, ee_notN, ee_and, ee_or, ee_not, ee_ite, ee_call, ee_callv, ee_bi, ee_isi1, ee_isi2, ee_mt0, ee_mt1, ee_ix, ee_sl, ee_tup, ee_lst, evEs, evZ, evO, evI, evT, evTo, evX, rd_d, fz_d, b_add, b_sub, b_mul, b_div, b_mod, b_p18, b_p8, b_p7, b_p6, c_lt, c_le, c_gt, c_ge, c_eq, c_ne, c_eqs, c_nes, c_nes0, c_nes1, c_eqs0, c_eqs1, l_t, l_l, bi_i, bi_max, bi_min, bi_tl, bi_tt, ix_l, ix_t, m_nil, m_cons, at0, at1, at2, flatD, seqOf, isNonW, nx_nx, nx_rt, nx_bk, nx_ct, nx_xc, next_nx, next_ct, next_bk, next_rt, Option.bind_some, Option.map_some, List.getElem?_cons_zero, List.getElem?_cons_succ, List.set_cons_zero, List.set_cons_succ, List.length_cons, List.length_nil, if_true, asgn, asgns, Nat.zero_add, Nat.reduceAdd, Nat.reduceLT, Nat.reduceLeDiff, reduceIte, reduceCtorEq, Bool.false_eq_true, Int.reduceNeg, sizeLine_val, and_self, true_and, and_true, b_m7, b_m86400, b_m1000000000, b_m60, b_m600, b_d7, b_d86400, b_d1000, b_p10_5, b_p10_9, b_p10_12, b_p10_15]
          exact fin_rl rfl rfl
      obtain ⟨p, e, rfl⟩ := key
      exact e
    | _ => exact flat (k := k + (m + 1)) (by simpa [Tv] using hd)
theorem LxOk.soR (L : LxOk P y) {m : Nat} {d : D} (hd : Tv m d = true) : callF P (k + m + 1) y.so [.d d, .d d] S = some (.bl true, S) := so_refl L.so m hd
/-! ### words -/
def lwB (w : Str) : Bool := (decide (1 ≤ w.length) && decide (w.length ≤ 8)) && w.cps.toList.all fun c => decide (97 ≤ c ∧ c ≤ 122)
theorem cls_low : ∀ c : Fin 128, (Unicode.isAlpha c.val && !(Unicode.isUpper c.val || Unicode.isTitle c.val)) = decide (97 ≤ c.val ∧ c.val ≤ 122) ∧ (decide (97 ≤ c.val ∧ c.val ≤ 122) = true → Unicode.isLower c.val = true) := by decide +kernel
theorem wordB_lw (w : Str) : wordB w = lwB w := by
  unfold wordB lwB
  rw [Bool.and_comm (decide (w.length ≤ 8))]
  cases h1 : decide (1 ≤ w.length) with
  | false => rfl
  | true =>
    simp only [decide_eq_true_eq] at h1
    congr 1
    have hpos : 0 < w.cps.toList.length := by
      have : w.length = w.cps.toList.length := by simp [Str.length]
      omega
    rw [Bool.eq_iff_iff]
    simp only [Bool.and_eq_true, Txt.isascii, Txt.isalpha, Txt.islower]
    constructor
    · rintro ⟨ha, hb, hc⟩
      rw [List.all_eq_true]
      intro c hc'
      have a1 : c < 128 := by
        have := (Array.all_eq_true_iff_forall_mem.mp ha) c (by simpa using hc')
        simpa using this
      have b1 : Unicode.isAlpha c = true := (Array.all_eq_true_iff_forall_mem.mp hb.2) c (by simpa using hc')
      have c1 : (Unicode.isUpper c || Unicode.isTitle c) = false := by
        have h2 := hc.2
        simp only [Bool.not_eq_true', Array.any_eq_false'] at h2
        have := h2 c (by simpa using hc')
        simpa using this
      have q := (cls_low ⟨c, a1⟩).1
      simp only [b1, c1, Bool.not_false, Bool.and_true] at q
      exact q.symm
    · intro hall
      rw [List.all_eq_true] at hall
      have k1 : ∀ c ∈ w.cps, c < 128 := fun c hc => by
        have := hall c (by simpa using hc)
        simp only [decide_eq_true_eq] at this
        omega
      have k2 : ∀ c ∈ w.cps, Unicode.isAlpha c = true ∧ (Unicode.isUpper c || Unicode.isTitle c) = false ∧ Unicode.isLower c = true := fun c hc => by
        have h := hall c (by simpa using hc)
        obtain ⟨q1, q2⟩ := cls_low ⟨c, k1 c hc⟩
        simp only at q1 q2
        rw [h] at q1
        simp only [Bool.and_eq_true, Bool.not_eq_true'] at q1
        exact ⟨q1.1, q1.2, q2 h⟩
      refine ⟨Array.all_eq_true_iff_forall_mem.mpr fun c hc => by simpa using k1 c hc, ⟨by simp; omega, Array.all_eq_true_iff_forall_mem.mpr fun c hc => (k2 c hc).1⟩, ?_, ?_⟩
      · obtain ⟨c, hc⟩ := List.exists_mem_of_length_pos hpos
        have hc' : c ∈ w.cps := by simpa using hc
        exact Array.any_eq_true'.mpr ⟨c, hc', (k2 c hc').2.2⟩
      · simp only [Bool.not_eq_true', Array.any_eq_false']
        intro c hc
        have := (k2 c hc).2.1
        simpa using this
/-! ### checks -/
theorem whole_eq {d : D} (h : P f = some ⟨1, 1, B_law_whole⟩) (hd : okV d = true) : callF P (k + 1) f [.d d] S = some (.bl (isI d), S) := integer_ok h hd
theorem between_eq {d : D} {lo hi : Int} (h : P f = some ⟨3, 3, B_law_between g⟩) (h1 : P g = some ⟨1, 1, B_law_whole⟩) (hd : okV d = true) : callF P (k + 2) f [.d d, .d (.int lo), .d (.int hi)] S = some (.bl (isW lo hi d), S) := within_ok h h1 hd
def alpha26 : Str := "abcdefghijklmnopqrstuvwxyz"
theorem alpha26_mem : ∀ c : Nat, decide (c ∈ alpha26.cps.toList) = decide (97 ≤ c ∧ c ≤ 122) := by
  intro c
  have e : alpha26.cps.toList = (List.range 26).map (· + 97) := by decide +kernel
  rw [e]
  congr 1
  simp only [List.mem_map, List.mem_range, eq_iff_iff]
  constructor
  · rintro ⟨a, h1, rfl⟩; omega
  · intro h; exact ⟨c - 97, by omega, by omega⟩
theorem c_nin1 (c : Nat) : cRun .nin (.str ⟨#[c]⟩) (.str alpha26) = some (!decide (97 ≤ c ∧ c ≤ 122)) := by
  have e := StrLaws.found_one alpha26 c
  rw [alpha26_mem] at e
  show Option.map (fun x => !x) (some (!(Builtin.Str.occurrences alpha26 ⟨#[c]⟩ 0 alpha26.length 1).isEmpty)) = _
  rw [Option.map_some, e]
theorem law_word_eq {m : Nat} {d : D} (h : P f = some ⟨1, 2, B_law_is_word⟩) (hd : Vt m d = true) : callF P (k + 1) f [.d d] S = some (.bl (wordD d), S) := by
  rw [callF_b h rfl (by decide)]
  show (evSs (callF P k) B_law_is_word [some (.d d), none] S).bind _ = _
  have no : ∀ d, isi1 d "str" = some false → wordD d = false → (evSs (callF P k) B_law_is_word [some (.d d), none] S).bind (fin S.length) = some (.bl (wordD d), S) := fun d h1 h2 => by
    simp [B_law_is_word, evSs, evS, evE, evEs, evZ, evO, evI, evT, evTo, rd_d, fz_d, b_add, b_sub, b_mul, b_div, b_mod, b_p18, b_p8, b_p7, b_p6, c_lt, c_le, c_gt, c_ge, c_eq, c_ne, c_eqs, c_nes, c_nes0, c_nes1, c_eqs0, c_eqs1, l_t, l_l, bi_i, bi_max, bi_min, bi_tl, bi_tt, ix_l, ix_t, m_nil, m_cons, at0, at1, at2, flatD, seqOf, isNonW, fin, evX, h1, h2]
  cases d with
  | str w =>
    have hw : w.length ≤ sizeLine := by cases m <;> simpa [Vt] using hd
    have hl : biRun .len [.str w] = some (.int w.length) := l_s hw
    simp only [wordD, wordB_lw, lwB]
    by_cases q1 : (1 : Int) ≤ (w.length : Int)
    · by_cases q8 : (w.length : Int) ≤ 8
      · have b1 : 1 ≤ w.length := by omega
        have b8 : w.length ≤ 8 := by omega
        simp only [decide_eq_true b1, decide_eq_true b8, Bool.true_and]
        have c1 := compL_filter (f := fun d' S => (asgn (.name 1) d' (wipeE [some (.d (.str w)), none] [1])).bind fun ρ' => (evTo (callF P k) (.some (.val (.cmp .nin (.var 1) (.cst (.str alpha26))))) ρ' S).bind fun q => if q.1 = true then (evE (callF P k) (.var 1) ρ' q.2).bind fun w => (fzW w.1 w.2).map fun z => (some z.1, z.2) else some (none, q.2))
          (p := fun d => match d with | .str z => !decide (97 ≤ z.cps.toList.headD 0 ∧ z.cps.toList.headD 0 ≤ 122) | _ => false) (g := fun d => d) (S := S) (ds := w.cps.toList.map fun c => .str ⟨#[c]⟩) (acc := []) (fun x hx => by
            obtain ⟨c, _, rfl⟩ := List.mem_map.mp hx
            simp only [wipeE, asgn, List.set_cons_succ, List.set_cons_zero, List.length_cons, List.length_nil, Nat.lt_add_one, if_true, Option.bind_some, evTo, evT, evE, List.getElem?_cons_succ, List.getElem?_cons_zero, flatD, rd_d, c_nin1, Option.map_some, List.headD_cons]
            by_cases hb : 97 ≤ c ∧ c ≤ 122 <;> simp [hb, fz_d]) (by simp; have : w.cps.size = w.length := rfl; omega)
        have hc := e_comp (c := callF P k) (vs := [1]) (tg := .name 1) (it := .seq (.var 0)) (cond := .some (.val (.cmp .nin (.var 1) (.cst (.str alpha26))))) (elt := .var 1) (ρ := [some (.d (.str w)), none]) (S := S) (S1 := S) rfl (by simp [evSs, evS, evE, evEs, evZ, evO, evI, evT, evTo, rd_d, fz_d, b_add, b_sub, b_mul, b_div, b_mod, b_p18, b_p8, b_p7, b_p6, c_lt, c_le, c_gt, c_ge, c_eq, c_ne, c_eqs, c_nes, c_nes0, c_nes1, c_eqs0, c_eqs1, l_t, l_l, bi_i, bi_max, bi_min, bi_tl, bi_tt, ix_l, ix_t, m_nil, m_cons, at0, at1, at2, flatD, seqOf, isNonW, fin, evX]) c1
        have e0 : evSs (callF P k) B_law_is_word [some (.d (.str w)), none] S = some (.rt (.bl (w.cps.toList.all fun c => decide (97 ≤ c ∧ c ≤ 122))) S) := by
          unfold B_law_is_word
          rw [ss_nx (x_iff (S1 := S) (by simp [evSs, evS, evE, evEs, evZ, evO, evI, evT, evTo, rd_d, fz_d, b_add, b_sub, b_mul, b_div, b_mod, b_p18, b_p8, b_p7, b_p6, c_lt, c_le, c_gt, c_ge, c_eq, c_ne, c_eqs, c_nes, c_nes0, c_nes1, c_eqs0, c_eqs1, l_t, l_l, bi_i, bi_max, bi_min, bi_tl, bi_tt, ix_l, ix_t, m_nil, m_cons, at0, at1, at2, flatD, seqOf, isNonW, fin, evX, isi1, tyD, kB13, hl, q1, q8]) ss_0)]
          refine ss_rt (x_ret ?_)
          rw [evE]
          have e2 : evE (callF P k) (.bi .len (.cons (.comp [1] (.name 1) (.seq (.var 0)) (.some (.val (.cmp .nin (.var 1) (.cst (.str "abcdefghijklmnopqrstuvwxyz"))))) (.var 1)) (.nil))) [some (.d (.str w)), none] S =
              some (.d (.int (((w.cps.toList.map fun c => D.str ⟨#[c]⟩).filter fun d => match d with | .str z => !decide (97 ≤ z.cps.toList.headD 0 ∧ z.cps.toList.headD 0 ≤ 122) | _ => false).length : Int)), S) := by
            rw [evE]
            simp only [evEs]
            rw [show ("abcdefghijklmnopqrstuvwxyz" : Str) = alpha26 from rfl, hc]
            simp only [Option.bind_some, Option.map_some, m_cons, m_nil, rd_d, l_l, List.nil_append, List.map_id']
          rw [e2]
          simp only [Option.bind_some, Option.map_some, rd_d, evE, flatD, if_true, c_eq, Option.some.injEq, Prod.mk.injEq, and_true, W.d.injEq, D.bl.injEq]
          rw [Bool.eq_iff_iff]
          simp only [decide_eq_true_eq, List.all_eq_true, Int.natCast_eq_zero, List.length_eq_zero_iff, List.filter_eq_nil_iff]
          constructor
          · intro hh c hc
            have := hh _ (List.mem_map_of_mem hc)
            simpa using this
          · intro hh x hx
            obtain ⟨c, hc, rfl⟩ := List.mem_map.mp hx
            have := hh c hc
            simpa using this
        rw [e0]
        simp [fin]
      · have b8 : ¬ w.length ≤ 8 := by omega
        simp [B_law_is_word, evSs, evS, evE, evEs, evZ, evO, evI, evT, evTo, rd_d, fz_d, b_add, b_sub, b_mul, b_div, b_mod, b_p18, b_p8, b_p7, b_p6, c_lt, c_le, c_gt, c_ge, c_eq, c_ne, c_eqs, c_nes, c_nes0, c_nes1, c_eqs0, c_eqs1, l_t, l_l, bi_i, bi_max, bi_min, bi_tl, bi_tt, ix_l, ix_t, m_nil, m_cons, at0, at1, at2, flatD, seqOf, isNonW, fin, evX, isi1, tyD, kB13, hl, q1, q8, b8]
    · have b1 : ¬ 1 ≤ w.length := by omega
      simp [B_law_is_word, evSs, evS, evE, evEs, evZ, evO, evI, evT, evTo, rd_d, fz_d, b_add, b_sub, b_mul, b_div, b_mod, b_p18, b_p8, b_p7, b_p6, c_lt, c_le, c_gt, c_ge, c_eq, c_ne, c_eqs, c_nes, c_nes0, c_nes1, c_eqs0, c_eqs1, l_t, l_l, bi_i, bi_max, bi_min, bi_tl, bi_tt, ix_l, ix_t, m_nil, m_cons, at0, at1, at2, flatD, seqOf, isNonW, fin, evX, isi1, tyD, kB13, hl, q1, b1]
  | non => exact no _ (by simp [isi1, tyD, kB28]) rfl
  | bl b => exact no _ (by simp [isi1, tyD, kB8]) rfl
  | int i => exact no _ (by simp [isi1, tyD, kB3]) rfl
  | tup ds => exact no _ (by simp [isi1, tyD, kB23]) rfl
  | lst ds => exact no _ (by simp [isi1, tyD, kB18]) rfl
  | _ => cases m <;> simp [Vt, flatD] at hd
end
end Pv

set_option Elab.async false
set_option linter.all false
set_option maxRecDepth 100000
set_option maxHeartbeats 1000000
/-! The laws' own checks of days and weeks. -/
namespace Pv
open PySem L2
section
variable {P : Nat → Option Fn} {k f g : Nat} {S : Store} {y : Lx}
/-! ### values of tuples alone -/
theorem tv_cases {m : Nat} {d : D} (h : Tv m d = true) : flatD d = true ∨ ∃ m' ds, m = m' + 1 ∧ d = .tup ds ∧ ds.length ≤ sizeLine ∧ ∀ x ∈ ds, Tv m' x = true := by
  cases m with
  | zero => exact .inl (by simpa [Tv] using h)
  | succ m =>
    cases d with
    | tup ds =>
      simp only [Tv, Bool.and_eq_true, decide_eq_true_eq, List.all_eq_true] at h
      exact .inr ⟨m, ds, rfl, rfl, h.1, h.2⟩
    | _ => exact .inl (by simpa [Tv] using h)
theorem flat_sqL {d : D} (h : flatD d = true) : sqL d = none := by cases d <;> simp [flatD] at h <;> rfl
/-- strings that are no longer than they may be -/
def Sl : Nat → D → Bool
  | n + 1, .tup ds => ds.all (Sl n)
  | n + 1, .lst ds => ds.all (Sl n)
  | _, .str w => decide (w.length ≤ sizeLine)
  | _, _ => true
theorem vt_of_lk : ∀ {m : Nat} {d' d : D}, Tv m d = true → Sl m d = true → Lk m d' d → Vt m d' = true := by
  intro m
  have flat : ∀ {m : Nat} {d : D}, flatD d = true → Sl m d = true → Vt m d = true := by
    intro m d hf hs
    cases m <;> cases d <;> first | (simp [flatD] at hf; done) | (simpa [Vt, flatD, Sl] using hs)
  induction m with
  | zero =>
    intro d' d h s l
    simp only [Lk] at l
    subst l
    exact flat (by simpa [Tv] using h) s
  | succ m ih =>
    intro d' d h s l
    rcases tv_cases h with hf | ⟨m', ds, hm, rfl, hl, ha⟩
    · have := Lk_flat l hf
      subst this
      exact flat hf s
    · cases hm
      simp only [Lk] at l
      obtain ⟨ds', e, a⟩ := l
      simp only [Sl, List.all_eq_true] at s
      have key : ds'.length ≤ sizeLine ∧ ∀ x ∈ ds', Vt m x = true := ⟨by rw [a.length]; exact hl, fun x hx => by
        obtain ⟨b, hb, r⟩ := a.mem hx
        exact ih (ha b hb) (s b hb) r⟩
      rcases e with rfl | rfl <;> simpa [Vt] using key
theorem lk_sqL {m : Nat} {d' d : D} {ds : List D} (l : Lk (m + 1) d' d) (e : sqL d = some ds) (h : Tv (m + 1) d = true) : ∃ ds', sqL d' = some ds' ∧ All2 (Lk m) ds' ds := by
  rcases tv_cases h with hf | ⟨m', es, hm, rfl, hl, ha⟩
  · rw [flat_sqL hf] at e; cases e
  · cases e
    simp only [Lk] at l
    obtain ⟨ds', e, a⟩ := l
    rcases e with rfl | rfl <;> exact ⟨ds', rfl, a⟩
theorem lk_none {m : Nat} {d' d : D} (l : Lk m d' d) (e : sqL d = none) (h : Tv m d = true) : d' = d := by
  rcases tv_cases h with hf | ⟨m', es, hm, rfl, hl, ha⟩
  · exact Lk_flat l hf
  · cases e
theorem lk_isW {m : Nat} {d' d : D} {lo hi : Int} (l : Lk m d' d) (h : Tv m d = true) : isW lo hi d' = isW lo hi d := by
  rcases tv_cases h with hf | ⟨m', es, hm, rfl, hl, ha⟩
  · rw [Lk_flat l hf]
  · subst hm
    simp only [Lk] at l
    obtain ⟨ds', e, a⟩ := l
    rcases e with rfl | rfl <;> rfl
theorem lk_word {m : Nat} {d' d : D} (l : Lk m d' d) (h : Tv m d = true) : wordD d' = wordD d := by
  rcases tv_cases h with hf | ⟨m', es, hm, rfl, hl, ha⟩
  · rw [Lk_flat l hf]
  · subst hm
    simp only [Lk] at l
    obtain ⟨ds', e, a⟩ := l
    rcases e with rfl | rfl <;> rfl
theorem lk_intI {m : Nat} {d' d : D} (l : Lk m d' d) (h : Tv m d = true) : intI d' = intI d := by
  rcases tv_cases h with hf | ⟨m', es, hm, rfl, hl, ha⟩
  · rw [Lk_flat l hf]
  · subst hm
    simp only [Lk] at l
    obtain ⟨ds', e, a⟩ := l
    rcases e with rfl | rfl <;> rfl
theorem lk_start {m : Nat} {d' d : D} (l : Lk m d' d) (h : Tv m d = true) : startB d' = startB d ∧ startI d' = startI d := by
  cases e : sqL d with
  | none => rw [lk_none l e h]; exact ⟨rfl, rfl⟩
  | some ds =>
    cases m with
    | zero => rcases tv_cases h with hf | ⟨m', es, hm, _⟩; rw [flat_sqL hf] at e; cases e; cases hm
    | succ m =>
      obtain ⟨ds', e', a⟩ := lk_sqL l e h
      have hx : ∀ x ∈ ds, Tv m x = true := by
        rcases tv_cases h with hf | ⟨m', es, hm, rfl, hl, ha⟩
        · rw [flat_sqL hf] at e; cases e
        · cases hm; cases e; exact ha
      unfold startB startI
      rw [e', e]
      match ds', ds, a with
      | [], [], .nil => exact ⟨rfl, rfl⟩
      | [a1], [b1], .cons x .nil =>
        refine ⟨rfl, ?_⟩
        have h1 := hx b1 (by simp)
        have i1 := lk_intI x h1
        rcases tv_cases h1 with hf | ⟨m', es, hm, rfl, hl, ha⟩
        · rw [Lk_flat x hf] <;> (cases b1 <;> first | rfl | (simp [flatD] at hf; done))
        · subst hm
          simp only [Lk] at x
          obtain ⟨q, e, _⟩ := x
          rcases e with rfl | rfl <;> rfl
      | [a1, a2], [b1, b2], .cons x (.cons z .nil) =>
        have h1 := hx b1 (by simp)
        have h2 := hx b2 (by simp)
        refine ⟨by simp only [lk_isW x h1, lk_word z h2], ?_⟩
        rcases tv_cases h1 with hf | ⟨m', es, hm, rfl, hl, ha⟩
        · rw [Lk_flat x hf] <;> (cases b1 <;> first | rfl | (simp [flatD] at hf; done))
        · subst hm
          simp only [Lk] at x
          obtain ⟨q, e, _⟩ := x
          rcases e with rfl | rfl <;> rfl
      | a1 :: a2 :: a3 :: at', b1 :: b2 :: b3 :: bt, .cons x (.cons z (.cons v t)) =>
        have h1 := hx b1 (by simp)
        refine ⟨rfl, ?_⟩
        rcases tv_cases h1 with hf | ⟨m', es, hm, rfl, hl, ha⟩
        · rw [Lk_flat x hf] <;> (cases b1 <;> first | rfl | (simp [flatD] at hf; done))
        · subst hm
          simp only [Lk] at x
          obtain ⟨q, e, _⟩ := x
          rcases e with rfl | rfl <;> rfl
theorem All2.map_congr {α β γ : Type} {R : α → β → Prop} {p : α → γ} {q : β → γ} : ∀ {as : List α} {bs : List β}, All2 R as bs → (∀ a b, b ∈ bs → R a b → p a = q b) → as.map p = bs.map q
  | _, _, .nil, _ => rfl
  | _, _, .cons x t, h => by rw [List.map_cons, List.map_cons, h _ _ List.mem_cons_self x, All2.map_congr t fun a b hb r => h a b (List.mem_cons_of_mem _ hb) r]
theorem All2.all_congr {α β : Type} {R : α → β → Prop} {p : α → Bool} {q : β → Bool} {as : List α} {bs : List β} (h : All2 R as bs) (i : ∀ a b, b ∈ bs → R a b → p a = q b) : as.all p = bs.all q := by
  have := All2.map_congr (p := p) (q := q) h i
  have e1 : (as.map p).all id = (bs.map q).all id := by rw [this]
  simpa [List.all_map] using e1
theorem tv_mem {m : Nat} {d : D} {ds : List D} (h : Tv (m + 1) d = true) (e : sqL d = some ds) : ∀ x ∈ ds, Tv m x = true := by
  rcases tv_cases h with hf | ⟨m', es, hm, rfl, hl, ha⟩
  · rw [flat_sqL hf] at e; cases e
  · cases hm; cases e; exact ha
theorem tv_zero {d : D} {ds : List D} (h : Tv 0 d = true) (e : sqL d = some ds) : False := by
  rcases tv_cases h with hf | ⟨m', es, hm, _⟩
  · rw [flat_sqL hf] at e; cases e
  · cases hm
theorem lk_day {m : Nat} {d' d : D} (l : Lk m d' d) (h : Tv m d = true) : dayB d' = dayB d := by
  cases e : sqL d with
  | none => rw [lk_none l e h]
  | some ds =>
    cases m with
    | zero => exact (tv_zero h e).elim
    | succ m =>
      obtain ⟨ds', e', a⟩ := lk_sqL l e h
      have hx := tv_mem h e
      unfold dayB
      rw [e', e]
      simp only
      rw [a.length, All2.all_congr a fun a b hb r => (lk_start r (hx b hb)).1, All2.map_congr a fun a b hb r => (lk_start r (hx b hb)).2]
theorem lk_week {m : Nat} {d' d : D} (l : Lk m d' d) (h : Tv m d = true) : Pv.weekB d' = Pv.weekB d := by
  cases e : sqL d with
  | none => rw [lk_none l e h]
  | some ds =>
    cases m with
    | zero => exact (tv_zero h e).elim
    | succ m =>
      obtain ⟨ds', e', a⟩ := lk_sqL l e h
      have hx := tv_mem h e
      unfold weekB
      rw [e', e]
      match ds', ds, a with
      | [], [], .nil => rfl
      | [a1], [b1], .cons x .nil => rfl
      | a1 :: a2 :: a3 :: at', b1 :: b2 :: b3 :: bt, .cons x (.cons z (.cons v t)) => rfl
      | [a1, a2], [b1, b2], .cons x (.cons z .nil) =>
        have h1 := hx b1 (by simp)
        have h2 := hx b2 (by simp)
        have e1 : daysB a1 = daysB b1 := by
          cases q : sqL b1 with
          | none => rw [lk_none x q h1]
          | some es =>
            cases m with
            | zero => exact (tv_zero h1 q).elim
            | succ m =>
              obtain ⟨es', q', aa⟩ := lk_sqL x q h1
              have hy := tv_mem h1 q
              unfold daysB
              rw [q', q]
              simp only
              rw [aa.length, All2.all_congr aa fun a b hb r => lk_day r (hy b hb)]
        have e2 : feastsB a2 = feastsB b2 := by
          cases q : sqL b2 with
          | none => rw [lk_none z q h2]
          | some es =>
            cases m with
            | zero => exact (tv_zero h2 q).elim
            | succ m =>
              obtain ⟨es', q', aa⟩ := lk_sqL z q h2
              have hy := tv_mem h2 q
              unfold feastsB
              rw [q', q]
              simp only
              rw [aa.length, All2.all_congr aa fun a b hb r => lk_isW r (hy b hb), All2.map_congr aa fun a b hb r => lk_intI r (hy b hb)]
        simp only [e1, e2]
/-! ### a day -/
def GoodD (ds : List D) (j : Nat) : Prop := startB (ds.getD j .non) = true ∧ (j = 0 → startI (ds.getD 0 .non) = 0) ∧ (0 < j → startI (ds.getD (j - 1) .non) < startI (ds.getD j .non))
theorem dayB_iff {d : D} {ds : List D} (h : sqL d = some ds) : dayB d = true ↔ (1 ≤ ds.length ∧ ds.length ≤ 8) ∧ ∀ j, j < ds.length → GoodD ds j := by
  have gd : ∀ j, j < ds.length → ds.getD j .non ∈ ds := fun j hj => by
    rw [List.getD_eq_getElem?_getD, List.getElem?_eq_getElem hj]
    exact List.getElem_mem hj
  have gm : ∀ j, j < ds.length → (ds.map startI).getD j 0 = startI (ds.getD j .non) := fun j hj => by
    simp [List.getD_eq_getElem?_getD, List.getElem?_map, List.getElem?_eq_getElem hj]
  unfold dayB
  rw [h]
  simp only [Bool.and_eq_true, decide_eq_true_eq, List.all_eq_true, ascB_iff]
  constructor
  · rintro ⟨⟨hl, ha⟩, h0, hs⟩
    refine ⟨hl, fun j hj => ⟨ha _ (gd j hj), fun hj0 => ?_, fun hj0 => ?_⟩⟩
    · rw [← gm 0 (by omega)]; exact h0
    · rw [← gm j hj, ← gm (j - 1) (by omega)]
      refine hs (j - 1) _ _ ?_ ?_
      · rw [List.getD_eq_getElem?_getD, List.getElem?_eq_getElem (by simp; omega)]; rfl
      · rw [show j - 1 + 1 = j by omega, List.getD_eq_getElem?_getD, List.getElem?_eq_getElem (by simp; omega)]; rfl
  · rintro ⟨hl, hg⟩
    refine ⟨⟨hl, fun x hx => ?_⟩, ?_, fun i a b h1 h2 => ?_⟩
    · obtain ⟨j, hj, rfl⟩ := List.mem_iff_getElem.mp hx
      have := (hg j hj).1
      rwa [List.getD_eq_getElem?_getD, List.getElem?_eq_getElem hj] at this
    · rw [gm 0 (by omega)]; exact (hg 0 (by omega)).2.1 rfl
    · have hi : i + 1 < ds.length := by have := (List.getElem?_eq_some_iff.mp h2).1; simpa using this
      have := (hg (i + 1) hi).2.2 (by omega)
      rw [← gm (i + 1) hi, show i + 1 - 1 = i by omega, ← gm i (by omega)] at this
      simp only [List.getD_eq_getElem?_getD, h2, h1, Option.getD_some] at this
      exact this
theorem startB_tup {d : D} {ds : List D} (h : startB d = true) (e : sqL d = some ds) : ∃ i w, ds = [.int i, .str w] ∧ startI d = i := by
  unfold startB at h
  rw [e] at h
  match ds, h with
  | [a, b], h =>
    simp only [Bool.and_eq_true] at h
    cases a <;> simp [isW] at h
    cases b <;> simp [wordD] at h
    exact ⟨_, _, rfl, by simp [startI, e]⟩
theorem isi_okV {d : D} (h : flatD d = true) : okV d = true := by cases d <;> simp [flatD] at h <;> rfl
theorem sl_mem {m : Nat} {ds : List D} (h : Sl (m + 1) (.tup ds) = true) : ∀ x ∈ ds, Sl m x = true := by simpa [Sl] using h
theorem vt_of {m : Nat} {d : D} (h : Tv m d = true) (s : Sl m d = true) : Vt m d = true := vt_of_lk h s (Lk.refl m d)
theorem law_day_eq {wh bt wd : Nat} {m : Nat} {d : D} (h : P f = some ⟨1, 3, B_law_is_day bt wd⟩) (hb : P bt = some ⟨3, 3, B_law_between wh⟩) (hw : P wh = some ⟨1, 1, B_law_whole⟩) (hd : P wd = some ⟨1, 2, B_law_is_word⟩) (ht : Tv m d = true) (hs : Sl m d = true) :
    callF P (k + 3) f [.d d] S = some (.bl (dayB d), S) := by
  have key : OkR (callF P (k + 3) f [.d d] S) fun p => p = (.bl (dayB d), S) := by
    refine def_ok h rfl (by show 1 ≤ 3; decide) rfl ?_
    show OkR (evSs (callF P (k + 2)) (B_law_is_day bt wd) [some (.d d), none, none] S) _
    unfold B_law_is_day
    refine ss_step (ifs_ok ?_)
    rcases tv_cases ht with hf | ⟨m', ds, rfl, rfl, hl, ha⟩
    · have e0 : dayB d = false := by simp [dayB, flat_sqL hf]
      simp only [okR_bind, okR_map, okR_some, evS, ee_var, ee_cst, ee_fnv, ee_bin, ee_neg, ee_cmp, ee_chain, ee_isN, ee_notN, ee_and, ee_or, ee_not, ee_ite, ee_call, ee_callv, ee_bi, ee_isi1, ee_isi2, ee_mt0, ee_mt1, ee_ix, ee_sl, ee_tup, ee_lst, evEs, evZ, evO, evI, evT, evTo, evX, rd_d, fz_d, b_add, b_sub, b_mul, b_div, b_mod, b_p18, b_p8, b_p7, b_p6, c_lt, c_le, c_gt, c_ge, c_eq, c_ne, c_eqs, c_nes, c_nes0, c_nes1, c_eqs0, c_eqs1, l_t, l_l, bi_i, bi_max, bi_min, bi_tl, bi_tt, ix_l, ix_t, m_nil, m_cons, at0, at1, at2, flatD, seqOf, isNonW, nx_nx, nx_rt, nx_bk, nx_ct, nx_xc, next_nx, next_ct, next_bk, next_rt, Option.bind_some, Option.map_some, List.getElem?_cons_zero, List.getElem?_cons_succ, List.set_cons_zero, List.set_cons_succ, List.length_cons, List.length_nil, if_true, asgn, asgns, Nat.zero_add, Nat.reduceAdd, Nat.reduceLT, Nat.reduceLeDiff, reduceIte, reduceCtorEq, Bool.false_eq_true, Int.reduceNeg, sizeLine_val, and_self, true_and, and_true, b_m7, b_m86400, b_m1000000000, b_m60, b_m600, b_d7, b_d86400, b_d1000, b_p10_5, b_p10_9, b_p10_12, b_p10_15, isi_flat hf, Bool.not_false]
      refine ss_step ?_; simp only [okR_bind, okR_map, okR_some, evS, ee_var, ee_cst, ee_fnv, ee_bin, ee_neg, ee_cmp, ee_chain, ee_isN, ee_notN, ee_and, ee_or, ee_not, ee_ite, ee_call, ee_callv, ee_bi, ee_isi1, ee_isi2, ee_mt0, ee_mt1, ee_ix, ee_sl, ee_tup, ee_lst, evEs, evZ, evO, evI, evT, evTo, evX, rd_d, fz_d, b_add, b_sub, b_mul, b_div, b_mod, b_p18, b_p8, b_p7, b_p6, c_lt, c_le, c_gt, c_ge, c_eq, c_ne, c_eqs, c_nes, c_nes0, c_nes1, c_eqs0, c_eqs1, l_t, l_l, bi_i, bi_max, bi_min, bi_tl, bi_tt, ix_l, ix_t, m_nil, m_cons, at0, at1, at2, flatD, seqOf, isNonW, nx_nx, nx_rt, nx_bk, nx_ct, nx_xc, next_nx, next_ct, next_bk, next_rt, Option.bind_some, Option.map_some, List.getElem?_cons_zero, List.getElem?_cons_succ, List.set_cons_zero, List.set_cons_succ, List.length_cons, List.length_nil, if_true, asgn, asgns, Nat.zero_add, Nat.reduceAdd, Nat.reduceLT, Nat.reduceLeDiff, reduceIte, reduceCtorEq, Bool.false_eq_true, Int.reduceNeg, sizeLine_val, and_self, true_and, and_true, b_m7, b_m86400, b_m1000000000, b_m60, b_m600, b_d7, b_d86400, b_d1000, b_p10_5, b_p10_9, b_p10_12, b_p10_15]
      exact fin_rl rfl (by rw [e0])
    · have hsq : sqL (.tup ds) = some ds := rfl
      simp only [okR_bind, okR_map, okR_some, evS, ee_var, ee_cst, ee_fnv, ee_bin, ee_neg, ee_cmp, ee_chain, ee_isN, ee_notN, ee_and, ee_or, ee_not, ee_ite, ee_call, ee_callv, ee_bi, ee_isi1, ee_isi2, ee_mt0, ee_mt1, ee_ix, ee_sl, ee_tup, ee_lst, evEs, evZ, evO, evI, evT, evTo, evX, rd_d, fz_d, b_add, b_sub, b_mul, b_div, b_mod, b_p18, b_p8, b_p7, b_p6, c_lt, c_le, c_gt, c_ge, c_eq, c_ne, c_eqs, c_nes, c_nes0, c_nes1, c_eqs0, c_eqs1, l_t, l_l, bi_i, bi_max, bi_min, bi_tl, bi_tt, ix_l, ix_t, m_nil, m_cons, at0, at1, at2, flatD, seqOf, isNonW, nx_nx, nx_rt, nx_bk, nx_ct, nx_xc, next_nx, next_ct, next_bk, next_rt, Option.bind_some, Option.map_some, List.getElem?_cons_zero, List.getElem?_cons_succ, List.set_cons_zero, List.set_cons_succ, List.length_cons, List.length_nil, if_true, asgn, asgns, Nat.zero_add, Nat.reduceAdd, Nat.reduceLT, Nat.reduceLeDiff, reduceIte, reduceCtorEq, Bool.false_eq_true, Int.reduceNeg, sizeLine_val, and_self, true_and, and_true, b_m7, b_m86400, b_m1000000000, b_m60, b_m600, b_d7, b_d86400, b_d1000, b_p10_5, b_p10_9, b_p10_12, b_p10_15, isi_tup, Bool.not_true]
      by_cases q1 : (1 : Int) ≤ (ds.length : Int)
      case neg =>
        have e0 : dayB (.tup ds) = false := by
          rw [Bool.eq_false_iff]
          intro z
          have := ((dayB_iff hsq).mp z).1.1
          omega
        simp only [okR_bind, okR_map, okR_some, evS, ee_var, ee_cst, ee_fnv, ee_bin, ee_neg, ee_cmp, ee_chain, ee_isN, ee_notN, ee_and, ee_or, ee_not, ee_ite, ee_call, ee_callv, ee_bi, ee_isi1, ee_isi2, ee_mt0, ee_mt1, ee_ix, ee_sl, ee_tup, ee_lst, evEs, evZ, evO, evI, evT, evTo, evX, rd_d, fz_d, b_add, b_sub, b_mul, b_div, b_mod, b_p18, b_p8, b_p7, b_p6, c_lt, c_le, c_gt, c_ge, c_eq, c_ne, c_eqs, c_nes, c_nes0, c_nes1, c_eqs0, c_eqs1, l_t, l_l, bi_i, bi_max, bi_min, bi_tl, bi_tt, ix_l, ix_t, m_nil, m_cons, at0, at1, at2, flatD, seqOf, isNonW, nx_nx, nx_rt, nx_bk, nx_ct, nx_xc, next_nx, next_ct, next_bk, next_rt, Option.bind_some, Option.map_some, List.getElem?_cons_zero, List.getElem?_cons_succ, List.set_cons_zero, List.set_cons_succ, List.length_cons, List.length_nil, if_true, asgn, asgns, Nat.zero_add, Nat.reduceAdd, Nat.reduceLT, Nat.reduceLeDiff, reduceIte, reduceCtorEq, Bool.false_eq_true, Int.reduceNeg, sizeLine_val, and_self, true_and, and_true, b_m7, b_m86400, b_m1000000000, b_m60, b_m600, b_d7, b_d86400, b_d1000, b_p10_5, b_p10_9, b_p10_12, b_p10_15, q1, decide_false, Bool.not_false]
        refine ret_b ?_
        simp only [okR_bind, okR_map, okR_some, evS, ee_var, ee_cst, ee_fnv, ee_bin, ee_neg, ee_cmp, ee_chain, ee_isN, ee_notN, ee_and, ee_or, ee_not, ee_ite, ee_call, ee_callv, ee_bi, ee_isi1, ee_isi2, ee_mt0, ee_mt1, ee_ix, ee_sl, ee_tup, ee_lst, evEs, evZ, evO, evI, evT, evTo, evX, rd_d, fz_d, b_add, b_sub, b_mul, b_div, b_mod, b_p18, b_p8, b_p7, b_p6, c_lt, c_le, c_gt, c_ge, c_eq, c_ne, c_eqs, c_nes, c_nes0, c_nes1, c_eqs0, c_eqs1, l_t, l_l, bi_i, bi_max, bi_min, bi_tl, bi_tt, ix_l, ix_t, m_nil, m_cons, at0, at1, at2, flatD, seqOf, isNonW, nx_nx, nx_rt, nx_bk, nx_ct, nx_xc, next_nx, next_ct, next_bk, next_rt, Option.bind_some, Option.map_some, List.getElem?_cons_zero, List.getElem?_cons_succ, List.set_cons_zero, List.set_cons_succ, List.length_cons, List.length_nil, if_true, asgn, asgns, Nat.zero_add, Nat.reduceAdd, Nat.reduceLT, Nat.reduceLeDiff, reduceIte, reduceCtorEq, Bool.false_eq_true, Int.reduceNeg, sizeLine_val, and_self, true_and, and_true, b_m7, b_m86400, b_m1000000000, b_m60, b_m600, b_d7, b_d86400, b_d1000, b_p10_5, b_p10_9, b_p10_12, b_p10_15]
        exact fin_rl rfl (by rw [e0])
      by_cases q8 : (ds.length : Int) ≤ 8
      case neg =>
        have e0 : dayB (.tup ds) = false := by
          rw [Bool.eq_false_iff]
          intro z
          have := ((dayB_iff hsq).mp z).1.2
          omega
        simp only [okR_bind, okR_map, okR_some, evS, ee_var, ee_cst, ee_fnv, ee_bin, ee_neg, ee_cmp, ee_chain, ee_isN, ee_notN, ee_and, ee_or, ee_not, ee_ite, ee_call, ee_callv, ee_bi, ee_isi1, ee_isi2, ee_mt0, ee_mt1, ee_ix, ee_sl, ee_tup, ee_lst, evEs, evZ, evO, evI, evT, evTo, evX, rd_d, fz_d, b_add, b_sub, b_mul, b_div, b_mod, b_p18, b_p8, b_p7, b_p6, c_lt, c_le, c_gt, c_ge, c_eq, c_ne, c_eqs, c_nes, c_nes0, c_nes1, c_eqs0, c_eqs1, l_t, l_l, bi_i, bi_max, bi_min, bi_tl, bi_tt, ix_l, ix_t, m_nil, m_cons, at0, at1, at2, flatD, seqOf, isNonW, nx_nx, nx_rt, nx_bk, nx_ct, nx_xc, next_nx, next_ct, next_bk, next_rt, Option.bind_some, Option.map_some, List.getElem?_cons_zero, List.getElem?_cons_succ, List.set_cons_zero, List.set_cons_succ, List.length_cons, List.length_nil, if_true, asgn, asgns, Nat.zero_add, Nat.reduceAdd, Nat.reduceLT, Nat.reduceLeDiff, reduceIte, reduceCtorEq, Bool.false_eq_true, Int.reduceNeg, sizeLine_val, and_self, true_and, and_true, b_m7, b_m86400, b_m1000000000, b_m60, b_m600, b_d7, b_d86400, b_d1000, b_p10_5, b_p10_9, b_p10_12, b_p10_15, q1, q8, decide_true, decide_false, Bool.not_false]
        refine ret_b ?_
        simp only [okR_bind, okR_map, okR_some, evS, ee_var, ee_cst, ee_fnv, ee_bin, ee_neg, ee_cmp, ee_chain, ee_isN, ee_notN, ee_and, ee_or, ee_not, ee_ite, ee_call, ee_callv, ee_bi, ee_isi1, ee_isi2, ee_mt0, ee_mt1, ee_ix, ee_sl, ee_tup, ee_lst, evEs, evZ, evO, evI, evT, evTo, evX, rd_d, fz_d, b_add, b_sub, b_mul, b_div, b_mod, b_p18, b_p8, b_p7, b_p6, c_lt, c_le, c_gt, c_ge, c_eq, c_ne, c_eqs, c_nes, c_nes0, c_nes1, c_eqs0, c_eqs1, l_t, l_l, bi_i, bi_max, bi_min, bi_tl, bi_tt, ix_l, ix_t, m_nil, m_cons, at0, at1, at2, flatD, seqOf, isNonW, nx_nx, nx_rt, nx_bk, nx_ct, nx_xc, next_nx, next_ct, next_bk, next_rt, Option.bind_some, Option.map_some, List.getElem?_cons_zero, List.getElem?_cons_succ, List.set_cons_zero, List.set_cons_succ, List.length_cons, List.length_nil, if_true, asgn, asgns, Nat.zero_add, Nat.reduceAdd, Nat.reduceLT, Nat.reduceLeDiff, reduceIte, reduceCtorEq, Bool.false_eq_true, Int.reduceNeg, sizeLine_val, and_self, true_and, and_true, b_m7, b_m86400, b_m1000000000, b_m60, b_m600, b_d7, b_d86400, b_d1000, b_p10_5, b_p10_9, b_p10_12, b_p10_15]
        exact fin_rl rfl (by rw [e0])
      simp only [okR_bind, okR_map, okR_some, evS, ee_var, ee_cst, ee_fnv, ee_bin, ee_neg, ee_cmp, ee_chain, ee_isN, ee_notN, ee_and, ee_or, ee_not, ee_ite, ee_call, ee_callv, ee_bi, ee_isi1, ee_isi2, ee_mt0, ee_mt1, ee_ix, ee_sl, ee_tup, ee_lst, evEs, evZ, evO, evI, evT, evTo, evX, rd_d, fz_d, b_add, b_sub, b_mul, b_div, b_mod, b_p18, b_p8, b_p7, b_p6, c_lt, c_le, c_gt, c_ge, c_eq, c_ne, c_eqs, c_nes, c_nes0, c_nes1, c_eqs0, c_eqs1, l_t, l_l, bi_i, bi_max, bi_min, bi_tl, bi_tt, ix_l, ix_t, m_nil, m_cons, at0, at1, at2, flatD, seqOf, isNonW, nx_nx, nx_rt, nx_bk, nx_ct, nx_xc, next_nx, next_ct, next_bk, next_rt, Option.bind_some, Option.map_some, List.getElem?_cons_zero, List.getElem?_cons_succ, List.set_cons_zero, List.set_cons_succ, List.length_cons, List.length_nil, if_true, asgn, asgns, Nat.zero_add, Nat.reduceAdd, Nat.reduceLT, Nat.reduceLeDiff, reduceIte, reduceCtorEq, Bool.false_eq_true, Int.reduceNeg, sizeLine_val, and_self, true_and, and_true, b_m7, b_m86400, b_m1000000000, b_m60, b_m600, b_d7, b_d86400, b_d1000, b_p10_5, b_p10_9, b_p10_12, b_p10_15, q1, q8, decide_true, Bool.not_true]
      refine ss_done ?_
      simp only [nx_nx]
      refine ss_step (for_ok (i_r1 ?_))
      simp only [okR_bind, okR_map, okR_some, evS, ee_var, ee_cst, ee_fnv, ee_bin, ee_neg, ee_cmp, ee_chain, ee_isN, ee_notN, ee_and, ee_or, ee_not, ee_ite, ee_call, ee_callv, ee_bi, ee_isi1, ee_isi2, ee_mt0, ee_mt1, ee_ix, ee_sl, ee_tup, ee_lst, evEs, evZ, evO, evI, evT, evTo, evX, rd_d, fz_d, b_add, b_sub, b_mul, b_div, b_mod, b_p18, b_p8, b_p7, b_p6, c_lt, c_le, c_gt, c_ge, c_eq, c_ne, c_eqs, c_nes, c_nes0, c_nes1, c_eqs0, c_eqs1, l_t, l_l, bi_i, bi_max, bi_min, bi_tl, bi_tt, ix_l, ix_t, m_nil, m_cons, at0, at1, at2, flatD, seqOf, isNonW, nx_nx, nx_rt, nx_bk, nx_ct, nx_xc, next_nx, next_ct, next_bk, next_rt, Option.bind_some, Option.map_some, List.getElem?_cons_zero, List.getElem?_cons_succ, List.set_cons_zero, List.set_cons_succ, List.length_cons, List.length_nil, if_true, asgn, asgns, Nat.zero_add, Nat.reduceAdd, Nat.reduceLT, Nat.reduceLeDiff, reduceIte, reduceCtorEq, Bool.false_eq_true, Int.reduceNeg, sizeLine_val, and_self, true_and, and_true, b_m7, b_m86400, b_m1000000000, b_m60, b_m600, b_d7, b_d86400, b_d1000, b_p10_5, b_p10_9, b_p10_12, b_p10_15]
      refine ⟨ds.length, rfl, by omega, by omega, ?_⟩
      refine loop_ok (fun n ρ S' => ∃ v1 v2, ρ = [some (.d (.tup ds)), v1, v2] ∧ S' = S ∧ ∀ j, j < n → GoodD ds j) ⟨none, none, rfl, rfl, fun j hj => by omega⟩ ?_ ?_
      · rintro n d ρ S' hn ⟨v1, v2, rfl, rfl, hg⟩
        obtain ⟨hn1, rfl⟩ := rangeD_get hn
        have hn2 : n < ds.length := by omega
        have hgn : ds.getD n .non = ds[n] := by rw [List.getD_eq_getElem?_getD, List.getElem?_eq_getElem hn2]; rfl
        have ei : L2.atI ds (0 + (n : Int)) = some ds[n] := by rw [Int.zero_add]; exact L2.atI_nat (List.getElem?_eq_getElem hn2)
        have hm := List.getElem_mem hn2
        have tv := ha _ hm
        have sv := sl_mem hs _ hm
        simp only [okR_bind, okR_map, okR_some, evS, ee_var, ee_cst, ee_fnv, ee_bin, ee_neg, ee_cmp, ee_chain, ee_isN, ee_notN, ee_and, ee_or, ee_not, ee_ite, ee_call, ee_callv, ee_bi, ee_isi1, ee_isi2, ee_mt0, ee_mt1, ee_ix, ee_sl, ee_tup, ee_lst, evEs, evZ, evO, evI, evT, evTo, evX, rd_d, fz_d, b_add, b_sub, b_mul, b_div, b_mod, b_p18, b_p8, b_p7, b_p6, c_lt, c_le, c_gt, c_ge, c_eq, c_ne, c_eqs, c_nes, c_nes0, c_nes1, c_eqs0, c_eqs1, l_t, l_l, bi_i, bi_max, bi_min, bi_tl, bi_tt, ix_l, ix_t, m_nil, m_cons, at0, at1, at2, flatD, seqOf, isNonW, nx_nx, nx_rt, nx_bk, nx_ct, nx_xc, next_nx, next_ct, next_bk, next_rt, Option.bind_some, Option.map_some, List.getElem?_cons_zero, List.getElem?_cons_succ, List.set_cons_zero, List.set_cons_succ, List.length_cons, List.length_nil, if_true, asgn, asgns, Nat.zero_add, Nat.reduceAdd, Nat.reduceLT, Nat.reduceLeDiff, reduceIte, reduceCtorEq, Bool.false_eq_true, Int.reduceNeg, sizeLine_val, and_self, true_and, and_true, b_m7, b_m86400, b_m1000000000, b_m60, b_m600, b_d7, b_d86400, b_d1000, b_p10_5, b_p10_9, b_p10_12, b_p10_15]
        refine ss_step ?_; simp only [okR_bind, okR_map, okR_some, evS, ee_var, ee_cst, ee_fnv, ee_bin, ee_neg, ee_cmp, ee_chain, ee_isN, ee_notN, ee_and, ee_or, ee_not, ee_ite, ee_call, ee_callv, ee_bi, ee_isi1, ee_isi2, ee_mt0, ee_mt1, ee_ix, ee_sl, ee_tup, ee_lst, evEs, evZ, evO, evI, evT, evTo, evX, rd_d, fz_d, b_add, b_sub, b_mul, b_div, b_mod, b_p18, b_p8, b_p7, b_p6, c_lt, c_le, c_gt, c_ge, c_eq, c_ne, c_eqs, c_nes, c_nes0, c_nes1, c_eqs0, c_eqs1, l_t, l_l, bi_i, bi_max, bi_min, bi_tl, bi_tt, ix_l, ix_t, m_nil, m_cons, at0, at1, at2, flatD, seqOf, isNonW, nx_nx, nx_rt, nx_bk, nx_ct, nx_xc, next_nx, next_ct, next_bk, next_rt, Option.bind_some, Option.map_some, List.getElem?_cons_zero, List.getElem?_cons_succ, List.set_cons_zero, List.set_cons_succ, List.length_cons, List.length_nil, if_true, asgn, asgns, Nat.zero_add, Nat.reduceAdd, Nat.reduceLT, Nat.reduceLeDiff, reduceIte, reduceCtorEq, Bool.false_eq_true, Int.reduceNeg, sizeLine_val, and_self, true_and, and_true, b_m7, b_m86400, b_m1000000000, b_m60, b_m600, b_d7, b_d86400, b_d1000, b_p10_5, b_p10_9, b_p10_12, b_p10_15]
        simp only [ei, okR_some, nx_nx]
        refine ss_step (ifs_ok ?_)
        have bad : ¬ GoodD ds n → dayB (.tup ds) = false := fun hng => by
          rw [Bool.eq_false_iff]
          intro z
          exact hng (((dayB_iff hsq).mp z).2 n hn2)
        rcases tv_cases tv with hf | ⟨m2, es, rfl, he, hel, hea⟩
        · have ng : ¬ GoodD ds n := fun z => by
            have := z.1
            rw [hgn] at this
            simp [startB, flat_sqL hf] at this
          simp only [okR_bind, okR_map, okR_some, evS, ee_var, ee_cst, ee_fnv, ee_bin, ee_neg, ee_cmp, ee_chain, ee_isN, ee_notN, ee_and, ee_or, ee_not, ee_ite, ee_call, ee_callv, ee_bi, ee_isi1, ee_isi2, ee_mt0, ee_mt1, ee_ix, ee_sl, ee_tup, ee_lst, evEs, evZ, evO, evI, evT, evTo, evX, rd_d, fz_d, b_add, b_sub, b_mul, b_div, b_mod, b_p18, b_p8, b_p7, b_p6, c_lt, c_le, c_gt, c_ge, c_eq, c_ne, c_eqs, c_nes, c_nes0, c_nes1, c_eqs0, c_eqs1, l_t, l_l, bi_i, bi_max, bi_min, bi_tl, bi_tt, ix_l, ix_t, m_nil, m_cons, at0, at1, at2, flatD, seqOf, isNonW, nx_nx, nx_rt, nx_bk, nx_ct, nx_xc, next_nx, next_ct, next_bk, next_rt, Option.bind_some, Option.map_some, List.getElem?_cons_zero, List.getElem?_cons_succ, List.set_cons_zero, List.set_cons_succ, List.length_cons, List.length_nil, if_true, asgn, asgns, Nat.zero_add, Nat.reduceAdd, Nat.reduceLT, Nat.reduceLeDiff, reduceIte, reduceCtorEq, Bool.false_eq_true, Int.reduceNeg, sizeLine_val, and_self, true_and, and_true, b_m7, b_m86400, b_m1000000000, b_m60, b_m600, b_d7, b_d86400, b_d1000, b_p10_5, b_p10_9, b_p10_12, b_p10_15, isi_flat hf, Bool.not_false]
          refine ret_b ?_
          simp only [okR_bind, okR_map, okR_some, evS, ee_var, ee_cst, ee_fnv, ee_bin, ee_neg, ee_cmp, ee_chain, ee_isN, ee_notN, ee_and, ee_or, ee_not, ee_ite, ee_call, ee_callv, ee_bi, ee_isi1, ee_isi2, ee_mt0, ee_mt1, ee_ix, ee_sl, ee_tup, ee_lst, evEs, evZ, evO, evI, evT, evTo, evX, rd_d, fz_d, b_add, b_sub, b_mul, b_div, b_mod, b_p18, b_p8, b_p7, b_p6, c_lt, c_le, c_gt, c_ge, c_eq, c_ne, c_eqs, c_nes, c_nes0, c_nes1, c_eqs0, c_eqs1, l_t, l_l, bi_i, bi_max, bi_min, bi_tl, bi_tt, ix_l, ix_t, m_nil, m_cons, at0, at1, at2, flatD, seqOf, isNonW, nx_nx, nx_rt, nx_bk, nx_ct, nx_xc, next_nx, next_ct, next_bk, next_rt, Option.bind_some, Option.map_some, List.getElem?_cons_zero, List.getElem?_cons_succ, List.set_cons_zero, List.set_cons_succ, List.length_cons, List.length_nil, if_true, asgn, asgns, Nat.zero_add, Nat.reduceAdd, Nat.reduceLT, Nat.reduceLeDiff, reduceIte, reduceCtorEq, Bool.false_eq_true, Int.reduceNeg, sizeLine_val, and_self, true_and, and_true, b_m7, b_m86400, b_m1000000000, b_m60, b_m600, b_d7, b_d86400, b_d1000, b_p10_5, b_p10_9, b_p10_12, b_p10_15]
          exact fin_rl rfl (by rw [bad ng])
        · rw [he] at ei tv sv hgn ⊢
          simp only [okR_bind, okR_map, okR_some, evS, ee_var, ee_cst, ee_fnv, ee_bin, ee_neg, ee_cmp, ee_chain, ee_isN, ee_notN, ee_and, ee_or, ee_not, ee_ite, ee_call, ee_callv, ee_bi, ee_isi1, ee_isi2, ee_mt0, ee_mt1, ee_ix, ee_sl, ee_tup, ee_lst, evEs, evZ, evO, evI, evT, evTo, evX, rd_d, fz_d, b_add, b_sub, b_mul, b_div, b_mod, b_p18, b_p8, b_p7, b_p6, c_lt, c_le, c_gt, c_ge, c_eq, c_ne, c_eqs, c_nes, c_nes0, c_nes1, c_eqs0, c_eqs1, l_t, l_l, bi_i, bi_max, bi_min, bi_tl, bi_tt, ix_l, ix_t, m_nil, m_cons, at0, at1, at2, flatD, seqOf, isNonW, nx_nx, nx_rt, nx_bk, nx_ct, nx_xc, next_nx, next_ct, next_bk, next_rt, Option.bind_some, Option.map_some, List.getElem?_cons_zero, List.getElem?_cons_succ, List.set_cons_zero, List.set_cons_succ, List.length_cons, List.length_nil, if_true, asgn, asgns, Nat.zero_add, Nat.reduceAdd, Nat.reduceLT, Nat.reduceLeDiff, reduceIte, reduceCtorEq, Bool.false_eq_true, Int.reduceNeg, sizeLine_val, and_self, true_and, and_true, b_m7, b_m86400, b_m1000000000, b_m60, b_m600, b_d7, b_d86400, b_d1000, b_p10_5, b_p10_9, b_p10_12, b_p10_15, isi_tup, Bool.not_true]
          by_cases h2 : es.length = 2
          case neg =>
            have ng : ¬ GoodD ds n := fun z => by
              have := z.1
              rw [hgn] at this
              obtain ⟨i, w, e, _⟩ := startB_tup this rfl
              rw [e] at h2
              simp at h2
            have h2' : ¬ (es.length : Int) = 2 := by omega
            simp only [okR_bind, okR_map, okR_some, evS, ee_var, ee_cst, ee_fnv, ee_bin, ee_neg, ee_cmp, ee_chain, ee_isN, ee_notN, ee_and, ee_or, ee_not, ee_ite, ee_call, ee_callv, ee_bi, ee_isi1, ee_isi2, ee_mt0, ee_mt1, ee_ix, ee_sl, ee_tup, ee_lst, evEs, evZ, evO, evI, evT, evTo, evX, rd_d, fz_d, b_add, b_sub, b_mul, b_div, b_mod, b_p18, b_p8, b_p7, b_p6, c_lt, c_le, c_gt, c_ge, c_eq, c_ne, c_eqs, c_nes, c_nes0, c_nes1, c_eqs0, c_eqs1, l_t, l_l, bi_i, bi_max, bi_min, bi_tl, bi_tt, ix_l, ix_t, m_nil, m_cons, at0, at1, at2, flatD, seqOf, isNonW, nx_nx, nx_rt, nx_bk, nx_ct, nx_xc, next_nx, next_ct, next_bk, next_rt, Option.bind_some, Option.map_some, List.getElem?_cons_zero, List.getElem?_cons_succ, List.set_cons_zero, List.set_cons_succ, List.length_cons, List.length_nil, if_true, asgn, asgns, Nat.zero_add, Nat.reduceAdd, Nat.reduceLT, Nat.reduceLeDiff, reduceIte, reduceCtorEq, Bool.false_eq_true, Int.reduceNeg, sizeLine_val, and_self, true_and, and_true, b_m7, b_m86400, b_m1000000000, b_m60, b_m600, b_d7, b_d86400, b_d1000, b_p10_5, b_p10_9, b_p10_12, b_p10_15, h2', decide_false, Bool.not_false]
            refine ret_b ?_
            simp only [okR_bind, okR_map, okR_some, evS, ee_var, ee_cst, ee_fnv, ee_bin, ee_neg, ee_cmp, ee_chain, ee_isN, ee_notN, ee_and, ee_or, ee_not, ee_ite, ee_call, ee_callv, ee_bi, ee_isi1, ee_isi2, ee_mt0, ee_mt1, ee_ix, ee_sl, ee_tup, ee_lst, evEs, evZ, evO, evI, evT, evTo, evX, rd_d, fz_d, b_add, b_sub, b_mul, b_div, b_mod, b_p18, b_p8, b_p7, b_p6, c_lt, c_le, c_gt, c_ge, c_eq, c_ne, c_eqs, c_nes, c_nes0, c_nes1, c_eqs0, c_eqs1, l_t, l_l, bi_i, bi_max, bi_min, bi_tl, bi_tt, ix_l, ix_t, m_nil, m_cons, at0, at1, at2, flatD, seqOf, isNonW, nx_nx, nx_rt, nx_bk, nx_ct, nx_xc, next_nx, next_ct, next_bk, next_rt, Option.bind_some, Option.map_some, List.getElem?_cons_zero, List.getElem?_cons_succ, List.set_cons_zero, List.set_cons_succ, List.length_cons, List.length_nil, if_true, asgn, asgns, Nat.zero_add, Nat.reduceAdd, Nat.reduceLT, Nat.reduceLeDiff, reduceIte, reduceCtorEq, Bool.false_eq_true, Int.reduceNeg, sizeLine_val, and_self, true_and, and_true, b_m7, b_m86400, b_m1000000000, b_m60, b_m600, b_d7, b_d86400, b_d1000, b_p10_5, b_p10_9, b_p10_12, b_p10_15]
            exact fin_rl rfl (by rw [bad ng])
          · match es, h2 with
            | [a, b], _ =>
              have ta := hea a (by simp)
              have tb := hea b (by simp)
              have sa := sl_mem sv a (by simp)
              have sb := sl_mem sv b (by simp)
              have e1 := between_eq (k := k) (S := S') (d := a) (lo := 0) (hi := 86399) hb hw (vt_ok (vt_of ta sa))
              have e2 := law_word_eq (k := k + 1) (S := S') hd (vt_of tb sb)
              have hst : startB (.tup [a, b]) = (isW 0 86399 a && wordD b) := rfl
              simp only [okR_bind, okR_map, okR_some, evS, ee_var, ee_cst, ee_fnv, ee_bin, ee_neg, ee_cmp, ee_chain, ee_isN, ee_notN, ee_and, ee_or, ee_not, ee_ite, ee_call, ee_callv, ee_bi, ee_isi1, ee_isi2, ee_mt0, ee_mt1, ee_ix, ee_sl, ee_tup, ee_lst, evEs, evZ, evO, evI, evT, evTo, evX, rd_d, fz_d, b_add, b_sub, b_mul, b_div, b_mod, b_p18, b_p8, b_p7, b_p6, c_lt, c_le, c_gt, c_ge, c_eq, c_ne, c_eqs, c_nes, c_nes0, c_nes1, c_eqs0, c_eqs1, l_t, l_l, bi_i, bi_max, bi_min, bi_tl, bi_tt, ix_l, ix_t, m_nil, m_cons, at0, at1, at2, flatD, seqOf, isNonW, nx_nx, nx_rt, nx_bk, nx_ct, nx_xc, next_nx, next_ct, next_bk, next_rt, Option.bind_some, Option.map_some, List.getElem?_cons_zero, List.getElem?_cons_succ, List.set_cons_zero, List.set_cons_succ, List.length_cons, List.length_nil, if_true, asgn, asgns, Nat.zero_add, Nat.reduceAdd, Nat.reduceLT, Nat.reduceLeDiff, reduceIte, reduceCtorEq, Bool.false_eq_true, Int.reduceNeg, sizeLine_val, and_self, true_and, and_true, b_m7, b_m86400, b_m1000000000, b_m60, b_m600, b_d7, b_d86400, b_d1000, b_p10_5, b_p10_9, b_p10_12, b_p10_15, e1]
              cases hA : isW 0 86399 a with
              | false =>
                have ng : ¬ GoodD ds n := fun z => by
                  have := z.1
                  rw [hgn, hst, hA] at this
                  cases this
                simp only [okR_bind, okR_map, okR_some, evS, ee_var, ee_cst, ee_fnv, ee_bin, ee_neg, ee_cmp, ee_chain, ee_isN, ee_notN, ee_and, ee_or, ee_not, ee_ite, ee_call, ee_callv, ee_bi, ee_isi1, ee_isi2, ee_mt0, ee_mt1, ee_ix, ee_sl, ee_tup, ee_lst, evEs, evZ, evO, evI, evT, evTo, evX, rd_d, fz_d, b_add, b_sub, b_mul, b_div, b_mod, b_p18, b_p8, b_p7, b_p6, c_lt, c_le, c_gt, c_ge, c_eq, c_ne, c_eqs, c_nes, c_nes0, c_nes1, c_eqs0, c_eqs1, l_t, l_l, bi_i, bi_max, bi_min, bi_tl, bi_tt, ix_l, ix_t, m_nil, m_cons, at0, at1, at2, flatD, seqOf, isNonW, nx_nx, nx_rt, nx_bk, nx_ct, nx_xc, next_nx, next_ct, next_bk, next_rt, Option.bind_some, Option.map_some, List.getElem?_cons_zero, List.getElem?_cons_succ, List.set_cons_zero, List.set_cons_succ, List.length_cons, List.length_nil, if_true, asgn, asgns, Nat.zero_add, Nat.reduceAdd, Nat.reduceLT, Nat.reduceLeDiff, reduceIte, reduceCtorEq, Bool.false_eq_true, Int.reduceNeg, sizeLine_val, and_self, true_and, and_true, b_m7, b_m86400, b_m1000000000, b_m60, b_m600, b_d7, b_d86400, b_d1000, b_p10_5, b_p10_9, b_p10_12, b_p10_15, Int.reduceEq, decide_true, Bool.not_true, Bool.not_false, List.length_cons, List.length_nil, Nat.reduceAdd, Int.ofNat_eq_natCast, Int.cast_ofNat_Int, e1, hA]
                refine ret_b ?_
                simp only [okR_bind, okR_map, okR_some, evS, ee_var, ee_cst, ee_fnv, ee_bin, ee_neg, ee_cmp, ee_chain, ee_isN, ee_notN, ee_and, ee_or, ee_not, ee_ite, ee_call, ee_callv, ee_bi, ee_isi1, ee_isi2, ee_mt0, ee_mt1, ee_ix, ee_sl, ee_tup, ee_lst, evEs, evZ, evO, evI, evT, evTo, evX, rd_d, fz_d, b_add, b_sub, b_mul, b_div, b_mod, b_p18, b_p8, b_p7, b_p6, c_lt, c_le, c_gt, c_ge, c_eq, c_ne, c_eqs, c_nes, c_nes0, c_nes1, c_eqs0, c_eqs1, l_t, l_l, bi_i, bi_max, bi_min, bi_tl, bi_tt, ix_l, ix_t, m_nil, m_cons, at0, at1, at2, flatD, seqOf, isNonW, nx_nx, nx_rt, nx_bk, nx_ct, nx_xc, next_nx, next_ct, next_bk, next_rt, Option.bind_some, Option.map_some, List.getElem?_cons_zero, List.getElem?_cons_succ, List.set_cons_zero, List.set_cons_succ, List.length_cons, List.length_nil, if_true, asgn, asgns, Nat.zero_add, Nat.reduceAdd, Nat.reduceLT, Nat.reduceLeDiff, reduceIte, reduceCtorEq, Bool.false_eq_true, Int.reduceNeg, sizeLine_val, and_self, true_and, and_true, b_m7, b_m86400, b_m1000000000, b_m60, b_m600, b_d7, b_d86400, b_d1000, b_p10_5, b_p10_9, b_p10_12, b_p10_15]
                exact fin_rl rfl (by rw [bad ng])
              | true =>
                cases hB : wordD b with
                | false =>
                  have ng : ¬ GoodD ds n := fun z => by
                    have := z.1
                    rw [hgn, hst, hB, Bool.and_false] at this
                    cases this
                  simp only [okR_bind, okR_map, okR_some, evS, ee_var, ee_cst, ee_fnv, ee_bin, ee_neg, ee_cmp, ee_chain, ee_isN, ee_notN, ee_and, ee_or, ee_not, ee_ite, ee_call, ee_callv, ee_bi, ee_isi1, ee_isi2, ee_mt0, ee_mt1, ee_ix, ee_sl, ee_tup, ee_lst, evEs, evZ, evO, evI, evT, evTo, evX, rd_d, fz_d, b_add, b_sub, b_mul, b_div, b_mod, b_p18, b_p8, b_p7, b_p6, c_lt, c_le, c_gt, c_ge, c_eq, c_ne, c_eqs, c_nes, c_nes0, c_nes1, c_eqs0, c_eqs1, l_t, l_l, bi_i, bi_max, bi_min, bi_tl, bi_tt, ix_l, ix_t, m_nil, m_cons, at0, at1, at2, flatD, seqOf, isNonW, nx_nx, nx_rt, nx_bk, nx_ct, nx_xc, next_nx, next_ct, next_bk, next_rt, Option.bind_some, Option.map_some, List.getElem?_cons_zero, List.getElem?_cons_succ, List.set_cons_zero, List.set_cons_succ, List.length_cons, List.length_nil, if_true, asgn, asgns, Nat.zero_add, Nat.reduceAdd, Nat.reduceLT, Nat.reduceLeDiff, reduceIte, reduceCtorEq, Bool.false_eq_true, Int.reduceNeg, sizeLine_val, and_self, true_and, and_true, b_m7, b_m86400, b_m1000000000, b_m60, b_m600, b_d7, b_d86400, b_d1000, b_p10_5, b_p10_9, b_p10_12, b_p10_15, Int.reduceEq, decide_true, Bool.not_true, Bool.not_false, Int.cast_ofNat_Int, e1, e2, hA, hB]
                  refine ret_b ?_
                  simp only [okR_bind, okR_map, okR_some, evS, ee_var, ee_cst, ee_fnv, ee_bin, ee_neg, ee_cmp, ee_chain, ee_isN, ee_notN, ee_and, ee_or, ee_not, ee_ite, ee_call, ee_callv, ee_bi, ee_isi1, ee_isi2, ee_mt0, ee_mt1, ee_ix, ee_sl, ee_tup, ee_lst, evEs, evZ, evO, evI, evT, evTo, evX, rd_d, fz_d, b_add, b_sub, b_mul, b_div, b_mod, b_p18, b_p8, b_p7, b_p6, c_lt, c_le, c_gt, c_ge, c_eq, c_ne, c_eqs, c_nes, c_nes0, c_nes1, c_eqs0, c_eqs1, l_t, l_l, bi_i, bi_max, bi_min, bi_tl, bi_tt, ix_l, ix_t, m_nil, m_cons, at0, at1, at2, flatD, seqOf, isNonW, nx_nx, nx_rt, nx_bk, nx_ct, nx_xc, next_nx, next_ct, next_bk, next_rt, Option.bind_some, Option.map_some, List.getElem?_cons_zero, List.getElem?_cons_succ, List.set_cons_zero, List.set_cons_succ, List.length_cons, List.length_nil, if_true, asgn, asgns, Nat.zero_add, Nat.reduceAdd, Nat.reduceLT, Nat.reduceLeDiff, reduceIte, reduceCtorEq, Bool.false_eq_true, Int.reduceNeg, sizeLine_val, and_self, true_and, and_true, b_m7, b_m86400, b_m1000000000, b_m60, b_m600, b_d7, b_d86400, b_d1000, b_p10_5, b_p10_9, b_p10_12, b_p10_15]
                  exact fin_rl rfl (by rw [bad ng])
                | true =>
                  obtain ⟨i, w, e, hi⟩ := startB_tup (d := .tup [a, b]) (ds := [a, b]) (by rw [hst, hA, hB]; rfl) rfl
                  simp only [List.cons.injEq, and_true] at e
                  obtain ⟨rfl, rfl⟩ := e
                  simp only [okR_bind, okR_map, okR_some, evS, ee_var, ee_cst, ee_fnv, ee_bin, ee_neg, ee_cmp, ee_chain, ee_isN, ee_notN, ee_and, ee_or, ee_not, ee_ite, ee_call, ee_callv, ee_bi, ee_isi1, ee_isi2, ee_mt0, ee_mt1, ee_ix, ee_sl, ee_tup, ee_lst, evEs, evZ, evO, evI, evT, evTo, evX, rd_d, fz_d, b_add, b_sub, b_mul, b_div, b_mod, b_p18, b_p8, b_p7, b_p6, c_lt, c_le, c_gt, c_ge, c_eq, c_ne, c_eqs, c_nes, c_nes0, c_nes1, c_eqs0, c_eqs1, l_t, l_l, bi_i, bi_max, bi_min, bi_tl, bi_tt, ix_l, ix_t, m_nil, m_cons, at0, at1, at2, flatD, seqOf, isNonW, nx_nx, nx_rt, nx_bk, nx_ct, nx_xc, next_nx, next_ct, next_bk, next_rt, Option.bind_some, Option.map_some, List.getElem?_cons_zero, List.getElem?_cons_succ, List.set_cons_zero, List.set_cons_succ, List.length_cons, List.length_nil, if_true, asgn, asgns, Nat.zero_add, Nat.reduceAdd, Nat.reduceLT, Nat.reduceLeDiff, reduceIte, reduceCtorEq, Bool.false_eq_true, Int.reduceNeg, sizeLine_val, and_self, true_and, and_true, b_m7, b_m86400, b_m1000000000, b_m60, b_m600, b_d7, b_d86400, b_d1000, b_p10_5, b_p10_9, b_p10_12, b_p10_15, Int.reduceEq, decide_true, Bool.not_true, Bool.not_false, Int.cast_ofNat_Int, e1, e2, hA, hB]
                  refine ss_done ?_
                  simp only [nx_nx]
                  refine ss_step (ifs_ok ?_)
                  cases n with
                  | zero =>
                    by_cases hz : i = 0
                    · subst hz
                      simp only [okR_bind, okR_map, okR_some, evS, ee_var, ee_cst, ee_fnv, ee_bin, ee_neg, ee_cmp, ee_chain, ee_isN, ee_notN, ee_and, ee_or, ee_not, ee_ite, ee_call, ee_callv, ee_bi, ee_isi1, ee_isi2, ee_mt0, ee_mt1, ee_ix, ee_sl, ee_tup, ee_lst, evEs, evZ, evO, evI, evT, evTo, evX, rd_d, fz_d, b_add, b_sub, b_mul, b_div, b_mod, b_p18, b_p8, b_p7, b_p6, c_lt, c_le, c_gt, c_ge, c_eq, c_ne, c_eqs, c_nes, c_nes0, c_nes1, c_eqs0, c_eqs1, l_t, l_l, bi_i, bi_max, bi_min, bi_tl, bi_tt, ix_l, ix_t, m_nil, m_cons, at0, at1, at2, flatD, seqOf, isNonW, nx_nx, nx_rt, nx_bk, nx_ct, nx_xc, next_nx, next_ct, next_bk, next_rt, Option.bind_some, Option.map_some, List.getElem?_cons_zero, List.getElem?_cons_succ, List.set_cons_zero, List.set_cons_succ, List.length_cons, List.length_nil, if_true, asgn, asgns, Nat.zero_add, Nat.reduceAdd, Nat.reduceLT, Nat.reduceLeDiff, reduceIte, reduceCtorEq, Bool.false_eq_true, Int.reduceNeg, sizeLine_val, and_self, true_and, and_true, b_m7, b_m86400, b_m1000000000, b_m60, b_m600, b_d7, b_d86400, b_d1000, b_p10_5, b_p10_9, b_p10_12, b_p10_15, Int.cast_ofNat_Int, Int.add_zero, Int.natCast_zero, decide_true, Bool.not_true, Int.lt_irrefl, decide_false]
                      refine ss_done ?_
                      simp only [okR_bind, okR_map, okR_some, evS, ee_var, ee_cst, ee_fnv, ee_bin, ee_neg, ee_cmp, ee_chain, ee_isN, ee_notN, ee_and, ee_or, ee_not, ee_ite, ee_call, ee_callv, ee_bi, ee_isi1, ee_isi2, ee_mt0, ee_mt1, ee_ix, ee_sl, ee_tup, ee_lst, evEs, evZ, evO, evI, evT, evTo, evX, rd_d, fz_d, b_add, b_sub, b_mul, b_div, b_mod, b_p18, b_p8, b_p7, b_p6, c_lt, c_le, c_gt, c_ge, c_eq, c_ne, c_eqs, c_nes, c_nes0, c_nes1, c_eqs0, c_eqs1, l_t, l_l, bi_i, bi_max, bi_min, bi_tl, bi_tt, ix_l, ix_t, m_nil, m_cons, at0, at1, at2, flatD, seqOf, isNonW, nx_nx, nx_rt, nx_bk, nx_ct, nx_xc, next_nx, next_ct, next_bk, next_rt, Option.bind_some, Option.map_some, List.getElem?_cons_zero, List.getElem?_cons_succ, List.set_cons_zero, List.set_cons_succ, List.length_cons, List.length_nil, if_true, asgn, asgns, Nat.zero_add, Nat.reduceAdd, Nat.reduceLT, Nat.reduceLeDiff, reduceIte, reduceCtorEq, Bool.false_eq_true, Int.reduceNeg, sizeLine_val, and_self, true_and, and_true, b_m7, b_m86400, b_m1000000000, b_m60, b_m600, b_d7, b_d86400, b_d1000, b_p10_5, b_p10_9, b_p10_12, b_p10_15]
                      refine ss_done ⟨_, _, rfl, rfl, fun j hj => ?_⟩
                      obtain rfl : j = 0 := by omega
                      exact ⟨by rw [hgn, hst, hA, hB]; rfl, fun _ => by rw [hgn]; exact hi, fun z => by omega⟩
                    · have ng : ¬ GoodD ds 0 := fun z => hz (by
                        have := z.2.1 rfl
                        rw [hgn, hi] at this
                        exact this)
                      simp only [okR_bind, okR_map, okR_some, evS, ee_var, ee_cst, ee_fnv, ee_bin, ee_neg, ee_cmp, ee_chain, ee_isN, ee_notN, ee_and, ee_or, ee_not, ee_ite, ee_call, ee_callv, ee_bi, ee_isi1, ee_isi2, ee_mt0, ee_mt1, ee_ix, ee_sl, ee_tup, ee_lst, evEs, evZ, evO, evI, evT, evTo, evX, rd_d, fz_d, b_add, b_sub, b_mul, b_div, b_mod, b_p18, b_p8, b_p7, b_p6, c_lt, c_le, c_gt, c_ge, c_eq, c_ne, c_eqs, c_nes, c_nes0, c_nes1, c_eqs0, c_eqs1, l_t, l_l, bi_i, bi_max, bi_min, bi_tl, bi_tt, ix_l, ix_t, m_nil, m_cons, at0, at1, at2, flatD, seqOf, isNonW, nx_nx, nx_rt, nx_bk, nx_ct, nx_xc, next_nx, next_ct, next_bk, next_rt, Option.bind_some, Option.map_some, List.getElem?_cons_zero, List.getElem?_cons_succ, List.set_cons_zero, List.set_cons_succ, List.length_cons, List.length_nil, if_true, asgn, asgns, Nat.zero_add, Nat.reduceAdd, Nat.reduceLT, Nat.reduceLeDiff, reduceIte, reduceCtorEq, Bool.false_eq_true, Int.reduceNeg, sizeLine_val, and_self, true_and, and_true, b_m7, b_m86400, b_m1000000000, b_m60, b_m600, b_d7, b_d86400, b_d1000, b_p10_5, b_p10_9, b_p10_12, b_p10_15, Int.cast_ofNat_Int, Int.add_zero, Int.natCast_zero, decide_true, Bool.not_true, hz, decide_false, Bool.not_false]
                      refine ret_b ?_
                      simp only [okR_bind, okR_map, okR_some, evS, ee_var, ee_cst, ee_fnv, ee_bin, ee_neg, ee_cmp, ee_chain, ee_isN, ee_notN, ee_and, ee_or, ee_not, ee_ite, ee_call, ee_callv, ee_bi, ee_isi1, ee_isi2, ee_mt0, ee_mt1, ee_ix, ee_sl, ee_tup, ee_lst, evEs, evZ, evO, evI, evT, evTo, evX, rd_d, fz_d, b_add, b_sub, b_mul, b_div, b_mod, b_p18, b_p8, b_p7, b_p6, c_lt, c_le, c_gt, c_ge, c_eq, c_ne, c_eqs, c_nes, c_nes0, c_nes1, c_eqs0, c_eqs1, l_t, l_l, bi_i, bi_max, bi_min, bi_tl, bi_tt, ix_l, ix_t, m_nil, m_cons, at0, at1, at2, flatD, seqOf, isNonW, nx_nx, nx_rt, nx_bk, nx_ct, nx_xc, next_nx, next_ct, next_bk, next_rt, Option.bind_some, Option.map_some, List.getElem?_cons_zero, List.getElem?_cons_succ, List.set_cons_zero, List.set_cons_succ, List.length_cons, List.length_nil, if_true, asgn, asgns, Nat.zero_add, Nat.reduceAdd, Nat.reduceLT, Nat.reduceLeDiff, reduceIte, reduceCtorEq, Bool.false_eq_true, Int.reduceNeg, sizeLine_val, and_self, true_and, and_true, b_m7, b_m86400, b_m1000000000, b_m60, b_m600, b_d7, b_d86400, b_d1000, b_p10_5, b_p10_9, b_p10_12, b_p10_15]
                      exact fin_rl rfl (by rw [bad ng])
                  | succ n =>
                    have gp := hg n (by omega)
                    have hgp : ds.getD n .non = ds[n] := by rw [List.getD_eq_getElem?_getD, List.getElem?_eq_getElem (by omega)]; rfl
                    have z1 : ¬ (0 + ((n + 1 : Nat) : Int)) = 0 := by omega
                    have z2 : 0 < (0 + ((n + 1 : Nat) : Int)) := by omega
                    have z3 : (0 + ((n + 1 : Nat) : Int)) - 1 = (n : Int) := by omega
                    have ep : L2.atI ds (n : Int) = some ds[n] := L2.atI_nat (List.getElem?_eq_getElem (by omega))
                    rcases tv_cases (ha _ (List.getElem_mem (show n < ds.length by omega))) with hf | ⟨m3, fs, hm3, hfe, _, _⟩
                    · have := gp.1
                      rw [hgp] at this
                      simp [startB, flat_sqL hf] at this
                    · have g1 := gp.1
                      rw [hgp, hfe] at g1
                      obtain ⟨i', w', e', hi'⟩ := startB_tup g1 rfl
                      subst e'
                      rw [hfe] at ep
                      simp only [okR_bind, okR_map, okR_some, evS, ee_var, ee_cst, ee_fnv, ee_bin, ee_neg, ee_cmp, ee_chain, ee_isN, ee_notN, ee_and, ee_or, ee_not, ee_ite, ee_call, ee_callv, ee_bi, ee_isi1, ee_isi2, ee_mt0, ee_mt1, ee_ix, ee_sl, ee_tup, ee_lst, evEs, evZ, evO, evI, evT, evTo, evX, rd_d, fz_d, b_add, b_sub, b_mul, b_div, b_mod, b_p18, b_p8, b_p7, b_p6, c_lt, c_le, c_gt, c_ge, c_eq, c_ne, c_eqs, c_nes, c_nes0, c_nes1, c_eqs0, c_eqs1, l_t, l_l, bi_i, bi_max, bi_min, bi_tl, bi_tt, ix_l, ix_t, m_nil, m_cons, at0, at1, at2, flatD, seqOf, isNonW, nx_nx, nx_rt, nx_bk, nx_ct, nx_xc, next_nx, next_ct, next_bk, next_rt, Option.bind_some, Option.map_some, List.getElem?_cons_zero, List.getElem?_cons_succ, List.set_cons_zero, List.set_cons_succ, List.length_cons, List.length_nil, if_true, asgn, asgns, Nat.zero_add, Nat.reduceAdd, Nat.reduceLT, Nat.reduceLeDiff, reduceIte, reduceCtorEq, Bool.false_eq_true, Int.reduceNeg, sizeLine_val, and_self, true_and, and_true, b_m7, b_m86400, b_m1000000000, b_m60, b_m600, b_d7, b_d86400, b_d1000, b_p10_5, b_p10_9, b_p10_12, b_p10_15, z1, z2, z3, decide_true, decide_false, Bool.not_true, Bool.not_false, ep]
                      by_cases hlt : i ≤ i'
                      · have ng : ¬ GoodD ds (n + 1) := fun z => by
                          have := z.2.2 (by omega)
                          rw [hgn, show n + 1 - 1 = n by omega, hgp, hfe, hi, hi'] at this
                          omega
                        simp only [okR_bind, okR_map, okR_some, evS, ee_var, ee_cst, ee_fnv, ee_bin, ee_neg, ee_cmp, ee_chain, ee_isN, ee_notN, ee_and, ee_or, ee_not, ee_ite, ee_call, ee_callv, ee_bi, ee_isi1, ee_isi2, ee_mt0, ee_mt1, ee_ix, ee_sl, ee_tup, ee_lst, evEs, evZ, evO, evI, evT, evTo, evX, rd_d, fz_d, b_add, b_sub, b_mul, b_div, b_mod, b_p18, b_p8, b_p7, b_p6, c_lt, c_le, c_gt, c_ge, c_eq, c_ne, c_eqs, c_nes, c_nes0, c_nes1, c_eqs0, c_eqs1, l_t, l_l, bi_i, bi_max, bi_min, bi_tl, bi_tt, ix_l, ix_t, m_nil, m_cons, at0, at1, at2, flatD, seqOf, isNonW, nx_nx, nx_rt, nx_bk, nx_ct, nx_xc, next_nx, next_ct, next_bk, next_rt, Option.bind_some, Option.map_some, List.getElem?_cons_zero, List.getElem?_cons_succ, List.set_cons_zero, List.set_cons_succ, List.length_cons, List.length_nil, if_true, asgn, asgns, Nat.zero_add, Nat.reduceAdd, Nat.reduceLT, Nat.reduceLeDiff, reduceIte, reduceCtorEq, Bool.false_eq_true, Int.reduceNeg, sizeLine_val, and_self, true_and, and_true, b_m7, b_m86400, b_m1000000000, b_m60, b_m600, b_d7, b_d86400, b_d1000, b_p10_5, b_p10_9, b_p10_12, b_p10_15, hlt, decide_true]
                        refine ret_b ?_
                        simp only [okR_bind, okR_map, okR_some, evS, ee_var, ee_cst, ee_fnv, ee_bin, ee_neg, ee_cmp, ee_chain, ee_isN, ee_notN, ee_and, ee_or, ee_not, ee_ite, ee_call, ee_callv, ee_bi, ee_isi1, ee_isi2, ee_mt0, ee_mt1, ee_ix, ee_sl, ee_tup, ee_lst, evEs, evZ, evO, evI, evT, evTo, evX, rd_d, fz_d, b_add, b_sub, b_mul, b_div, b_mod, b_p18, b_p8, b_p7, b_p6, c_lt, c_le, c_gt, c_ge, c_eq, c_ne, c_eqs, c_nes, c_nes0, c_nes1, c_eqs0, c_eqs1, l_t, l_l, bi_i, bi_max, bi_min, bi_tl, bi_tt, ix_l, ix_t, m_nil, m_cons, at0, at1, at2, flatD, seqOf, isNonW, nx_nx, nx_rt, nx_bk, nx_ct, nx_xc, next_nx, next_ct, next_bk, next_rt, Option.bind_some, Option.map_some, List.getElem?_cons_zero, List.getElem?_cons_succ, List.set_cons_zero, List.set_cons_succ, List.length_cons, List.length_nil, if_true, asgn, asgns, Nat.zero_add, Nat.reduceAdd, Nat.reduceLT, Nat.reduceLeDiff, reduceIte, reduceCtorEq, Bool.false_eq_true, Int.reduceNeg, sizeLine_val, and_self, true_and, and_true, b_m7, b_m86400, b_m1000000000, b_m60, b_m600, b_d7, b_d86400, b_d1000, b_p10_5, b_p10_9, b_p10_12, b_p10_15]
                        exact fin_rl rfl (by rw [bad ng])
                      · simp only [okR_bind, okR_map, okR_some, evS, ee_var, ee_cst, ee_fnv, ee_bin, ee_neg, ee_cmp, ee_chain, ee_isN, ee_notN, ee_and, ee_or, ee_not, ee_ite, ee_call, ee_callv, ee_bi, ee_isi1, ee_isi2, ee_mt0, ee_mt1, ee_ix, ee_sl, ee_tup, ee_lst, evEs, evZ, evO, evI, evT, evTo, evX, rd_d, fz_d, b_add, b_sub, b_mul, b_div, b_mod, b_p18, b_p8, b_p7, b_p6, c_lt, c_le, c_gt, c_ge, c_eq, c_ne, c_eqs, c_nes, c_nes0, c_nes1, c_eqs0, c_eqs1, l_t, l_l, bi_i, bi_max, bi_min, bi_tl, bi_tt, ix_l, ix_t, m_nil, m_cons, at0, at1, at2, flatD, seqOf, isNonW, nx_nx, nx_rt, nx_bk, nx_ct, nx_xc, next_nx, next_ct, next_bk, next_rt, Option.bind_some, Option.map_some, List.getElem?_cons_zero, List.getElem?_cons_succ, List.set_cons_zero, List.set_cons_succ, List.length_cons, List.length_nil, if_true, asgn, asgns, Nat.zero_add, Nat.reduceAdd, Nat.reduceLT, Nat.reduceLeDiff, reduceIte, reduceCtorEq, Bool.false_eq_true, Int.reduceNeg, sizeLine_val, and_self, true_and, and_true, b_m7, b_m86400, b_m1000000000, b_m60, b_m600, b_d7, b_d86400, b_d1000, b_p10_5, b_p10_9, b_p10_12, b_p10_15, hlt, decide_false]
                        refine ss_done ?_
                        simp only [okR_bind, okR_map, okR_some, evS, ee_var, ee_cst, ee_fnv, ee_bin, ee_neg, ee_cmp, ee_chain, ee_isN, ee_notN, ee_and, ee_or, ee_not, ee_ite, ee_call, ee_callv, ee_bi, ee_isi1, ee_isi2, ee_mt0, ee_mt1, ee_ix, ee_sl, ee_tup, ee_lst, evEs, evZ, evO, evI, evT, evTo, evX, rd_d, fz_d, b_add, b_sub, b_mul, b_div, b_mod, b_p18, b_p8, b_p7, b_p6, c_lt, c_le, c_gt, c_ge, c_eq, c_ne, c_eqs, c_nes, c_nes0, c_nes1, c_eqs0, c_eqs1, l_t, l_l, bi_i, bi_max, bi_min, bi_tl, bi_tt, ix_l, ix_t, m_nil, m_cons, at0, at1, at2, flatD, seqOf, isNonW, nx_nx, nx_rt, nx_bk, nx_ct, nx_xc, next_nx, next_ct, next_bk, next_rt, Option.bind_some, Option.map_some, List.getElem?_cons_zero, List.getElem?_cons_succ, List.set_cons_zero, List.set_cons_succ, List.length_cons, List.length_nil, if_true, asgn, asgns, Nat.zero_add, Nat.reduceAdd, Nat.reduceLT, Nat.reduceLeDiff, reduceIte, reduceCtorEq, Bool.false_eq_true, Int.reduceNeg, sizeLine_val, and_self, true_and, and_true, b_m7, b_m86400, b_m1000000000, b_m60, b_m600, b_d7, b_d86400, b_d1000, b_p10_5, b_p10_9, b_p10_12, b_p10_15]
                        refine ss_done ⟨_, _, rfl, rfl, fun j hj => ?_⟩
                        rcases Nat.lt_or_ge j (n + 1) with hj | hj
                        · exact hg j hj
                        · obtain rfl : j = n + 1 := by omega
                          exact ⟨by rw [hgn, hst, hA, hB]; rfl, fun z => by omega, fun _ => by rw [hgn, show n + 1 - 1 = n by omega, hgp, hfe, hi, hi']; omega⟩
      · rintro ρ S' ⟨v1, v2, rfl, rfl, hg⟩
        rw [rangeD_length] at hg
        have e0 : dayB (.tup ds) = true := (dayB_iff hsq).mpr ⟨⟨by omega, by omega⟩, fun j hj => hg j (by omega)⟩
        simp only [nx_nx]
        refine ss_step ?_; simp only [okR_bind, okR_map, okR_some, evS, ee_var, ee_cst, ee_fnv, ee_bin, ee_neg, ee_cmp, ee_chain, ee_isN, ee_notN, ee_and, ee_or, ee_not, ee_ite, ee_call, ee_callv, ee_bi, ee_isi1, ee_isi2, ee_mt0, ee_mt1, ee_ix, ee_sl, ee_tup, ee_lst, evEs, evZ, evO, evI, evT, evTo, evX, rd_d, fz_d, b_add, b_sub, b_mul, b_div, b_mod, b_p18, b_p8, b_p7, b_p6, c_lt, c_le, c_gt, c_ge, c_eq, c_ne, c_eqs, c_nes, c_nes0, c_nes1, c_eqs0, c_eqs1, l_t, l_l, bi_i, bi_max, bi_min, bi_tl, bi_tt, ix_l, ix_t, m_nil, m_cons, at0, at1, at2, flatD, seqOf, isNonW, nx_nx, nx_rt, nx_bk, nx_ct, nx_xc, next_nx, next_ct, next_bk, next_rt, Option.bind_some, Option.map_some, List.getElem?_cons_zero, List.getElem?_cons_succ, List.set_cons_zero, List.set_cons_succ, List.length_cons, List.length_nil, if_true, asgn, asgns, Nat.zero_add, Nat.reduceAdd, Nat.reduceLT, Nat.reduceLeDiff, reduceIte, reduceCtorEq, Bool.false_eq_true, Int.reduceNeg, sizeLine_val, and_self, true_and, and_true, b_m7, b_m86400, b_m1000000000, b_m60, b_m600, b_d7, b_d86400, b_d1000, b_p10_5, b_p10_9, b_p10_12, b_p10_15]
        exact fin_rl rfl (by rw [e0])
  obtain ⟨p, e, rfl⟩ := key
  exact e
end
end Pv

set_option Elab.async false
set_option linter.all false
set_option maxRecDepth 100000
set_option maxHeartbeats 1000000
/-! The laws' own check of a week. -/
namespace Pv
open PySem L2
/-- a comprehension with a test that changes nothing -/
theorem compF_ok {c : Call} {vs : List Nat} {tg : Tg} {it : It} {t : T} {elt : E} {ρ : En} {S : Store} {Q : W × Store → Prop} (ht : tgIn tg vs = true) (p : D → Bool) (g : D → D)
    (h : OkR (evI c it ρ S) fun q => q.1.length ≤ sizeLine ∧ (∀ d ∈ q.1, OkR (asgn tg d (wipeE ρ vs)) fun ρ' => OkR (evT c t ρ' q.2) fun b => b = (p d, q.2) ∧ (p d = true → OkR (evE c elt ρ' q.2) fun w => OkR (fzW w.1 w.2) fun z => z = (g d, q.2))) ∧ Q (.d (.lst ((q.1.filter p).map g)), q.2)) :
    OkR (evE c (.comp vs tg it (.some t) elt) ρ S) Q := by
  obtain ⟨⟨ds, S1⟩, e1, hl, hs, k⟩ := h
  have e2 := compL_filter (f := fun d S => (asgn tg d (wipeE ρ vs)).bind fun ρ' => (evTo c (.some t) ρ' S).bind fun q => if q.1 = true then (evE c elt ρ' q.2).bind fun w => (fzW w.1 w.2).map fun z => (some z.1, z.2) else some (none, q.2))
    (p := p) (g := g) (S := S1) (ds := ds) (acc := []) (fun d hd => by
      obtain ⟨ρ', a1, b, a2, rfl, a3⟩ := hs d hd
      simp only at a2 a3
      cases hp : p d with
      | false => simp [a1, evTo, a2, hp]
      | true =>
        obtain ⟨w, b1, z, b2, rfl⟩ := a3 hp
        simp [a1, evTo, a2, hp, b1, b2]) (by simpa using hl)
  refine ⟨_, e_comp ht e1 e2, ?_⟩
  simpa using k
section
variable {P : Nat → Option Fn} {k f g : Nat} {S : Store} {y : Lx}
def GoodF (fs : List D) (j : Nat) : Prop := isW 0 1000 (fs.getD j .non) = true ∧ (0 < j → intI (fs.getD (j - 1) .non) < intI (fs.getD j .non))
theorem feastsB_iff {d : D} {ds : List D} (h : sqL d = some ds) : feastsB d = true ↔ ds.length ≤ 20 ∧ ∀ j, j < ds.length → GoodF ds j := by
  have gd : ∀ j, j < ds.length → ds.getD j .non ∈ ds := fun j hj => by
    rw [List.getD_eq_getElem?_getD, List.getElem?_eq_getElem hj]
    exact List.getElem_mem hj
  have gm : ∀ j, j < ds.length → (ds.map intI).getD j 0 = intI (ds.getD j .non) := fun j hj => by
    simp [List.getD_eq_getElem?_getD, List.getElem?_map, List.getElem?_eq_getElem hj]
  unfold feastsB
  rw [h]
  simp only [Bool.and_eq_true, decide_eq_true_eq, List.all_eq_true, ascB_iff]
  constructor
  · rintro ⟨⟨hl, ha⟩, hs⟩
    refine ⟨hl, fun j hj => ⟨ha _ (gd j hj), fun hj0 => ?_⟩⟩
    rw [← gm j hj, ← gm (j - 1) (by omega)]
    refine hs (j - 1) _ _ ?_ ?_
    · rw [List.getD_eq_getElem?_getD, List.getElem?_eq_getElem (by simp; omega)]; rfl
    · rw [show j - 1 + 1 = j by omega, List.getD_eq_getElem?_getD, List.getElem?_eq_getElem (by simp; omega)]; rfl
  · rintro ⟨hl, hg⟩
    refine ⟨⟨hl, fun x hx => ?_⟩, fun i a b h1 h2 => ?_⟩
    · obtain ⟨j, hj, rfl⟩ := List.mem_iff_getElem.mp hx
      have := (hg j hj).1
      rwa [List.getD_eq_getElem?_getD, List.getElem?_eq_getElem hj] at this
    · have hi : i + 1 < ds.length := by have := (List.getElem?_eq_some_iff.mp h2).1; simpa using this
      have := (hg (i + 1) hi).2 (by omega)
      rw [← gm (i + 1) hi, show i + 1 - 1 = i by omega, ← gm i (by omega)] at this
      simp only [List.getD_eq_getElem?_getD, h2, h1, Option.getD_some] at this
      exact this
theorem isW_int {d : D} {lo hi : Int} (h : isW lo hi d = true) : ∃ i, d = .int i := by
  cases d <;> simp [isW] at h
  exact ⟨_, rfl⟩
theorem law_week_eq {wh bt wd dy : Nat} {m : Nat} {d : D} (h : P f = some ⟨1, 3, B_law_is_week bt dy⟩) (hdy : P dy = some ⟨1, 3, B_law_is_day bt wd⟩) (hb : P bt = some ⟨3, 3, B_law_between wh⟩) (hw : P wh = some ⟨1, 1, B_law_whole⟩) (hd : P wd = some ⟨1, 2, B_law_is_word⟩) (ht : Tv m d = true) (hs : Sl m d = true) :
    callF P (k + 4) f [.d d] S = some (.bl (Pv.weekB d), S) := by
  have key : OkR (callF P (k + 4) f [.d d] S) fun p => p = (.bl (Pv.weekB d), S) := by
    refine def_ok h rfl (by show 1 ≤ 3; decide) rfl ?_
    show OkR (evSs (callF P (k + 3)) (B_law_is_week bt dy) [some (.d d), none, none] S) _
    unfold B_law_is_week
    refine ss_step (ifs_ok ?_)
    rcases tv_cases ht with hf | ⟨m', ds, rfl, rfl, hl, ha⟩
    · have e0 : Pv.weekB d = false := by simp [weekB, flat_sqL hf]
      simp only [okR_bind, okR_map, okR_some, evS, ee_var, ee_cst, ee_fnv, ee_bin, ee_neg, ee_cmp, ee_chain, ee_isN, ee_notN, ee_and, ee_or, ee_not, ee_ite, ee_call, ee_callv, ee_bi, ee_isi1, ee_isi2, ee_mt0, ee_mt1, ee_ix, ee_sl, ee_tup, ee_lst, evEs, evZ, evO, evI, evT, evTo, evX, rd_d, fz_d, b_add, b_sub, b_mul, b_div, b_mod, b_p18, b_p8, b_p7, b_p6, c_lt, c_le, c_gt, c_ge, c_eq, c_ne, c_eqs, c_nes, c_nes0, c_nes1, c_eqs0, c_eqs1, l_t, l_l, bi_i, bi_max, bi_min, bi_tl, bi_tt, ix_l, ix_t, m_nil, m_cons, at0, at1, at2, flatD, seqOf, isNonW, nx_nx, nx_rt, nx_bk, nx_ct, nx_xc, next_nx, next_ct, next_bk, next_rt, Option.bind_some, Option.map_some, List.getElem?_cons_zero, List.getElem?_cons_succ, List.set_cons_zero, List.set_cons_succ, List.length_cons, List.length_nil, if_true, asgn, asgns, Nat.zero_add, Nat.reduceAdd, Nat.reduceLT, Nat.reduceLeDiff, reduceIte, reduceCtorEq, Bool.false_eq_true, Int.reduceNeg, sizeLine_val, and_self, true_and, and_true, b_m7, b_m86400, b_m1000000000, b_m60, b_m600, b_d7, b_d86400, b_d1000, b_p10_5, b_p10_9, b_p10_12, b_p10_15, isi_flat hf, Bool.not_false]
      refine ret_b ?_
      simp only [okR_bind, okR_map, okR_some, evS, ee_var, ee_cst, ee_fnv, ee_bin, ee_neg, ee_cmp, ee_chain, ee_isN, ee_notN, ee_and, ee_or, ee_not, ee_ite, ee_call, ee_callv, ee_bi, ee_isi1, ee_isi2, ee_mt0, ee_mt1, ee_ix, ee_sl, ee_tup, ee_lst, evEs, evZ, evO, evI, evT, evTo, evX, rd_d, fz_d, b_add, b_sub, b_mul, b_div, b_mod, b_p18, b_p8, b_p7, b_p6, c_lt, c_le, c_gt, c_ge, c_eq, c_ne, c_eqs, c_nes, c_nes0, c_nes1, c_eqs0, c_eqs1, l_t, l_l, bi_i, bi_max, bi_min, bi_tl, bi_tt, ix_l, ix_t, m_nil, m_cons, at0, at1, at2, flatD, seqOf, isNonW, nx_nx, nx_rt, nx_bk, nx_ct, nx_xc, next_nx, next_ct, next_bk, next_rt, Option.bind_some, Option.map_some, List.getElem?_cons_zero, List.getElem?_cons_succ, List.set_cons_zero, List.set_cons_succ, List.length_cons, List.length_nil, if_true, asgn, asgns, Nat.zero_add, Nat.reduceAdd, Nat.reduceLT, Nat.reduceLeDiff, reduceIte, reduceCtorEq, Bool.false_eq_true, Int.reduceNeg, sizeLine_val, and_self, true_and, and_true, b_m7, b_m86400, b_m1000000000, b_m60, b_m600, b_d7, b_d86400, b_d1000, b_p10_5, b_p10_9, b_p10_12, b_p10_15]
      exact fin_rl rfl (by rw [e0])
    · by_cases h2 : ds.length = 2
      case neg =>
        have e0 : Pv.weekB (.tup ds) = false := by
          match ds, h2 with
          | [], _ => rfl
          | [a], _ => rfl
          | a :: b :: c :: t, _ => rfl
        have h2' : ¬ (ds.length : Int) = 2 := by omega
        simp only [okR_bind, okR_map, okR_some, evS, ee_var, ee_cst, ee_fnv, ee_bin, ee_neg, ee_cmp, ee_chain, ee_isN, ee_notN, ee_and, ee_or, ee_not, ee_ite, ee_call, ee_callv, ee_bi, ee_isi1, ee_isi2, ee_mt0, ee_mt1, ee_ix, ee_sl, ee_tup, ee_lst, evEs, evZ, evO, evI, evT, evTo, evX, rd_d, fz_d, b_add, b_sub, b_mul, b_div, b_mod, b_p18, b_p8, b_p7, b_p6, c_lt, c_le, c_gt, c_ge, c_eq, c_ne, c_eqs, c_nes, c_nes0, c_nes1, c_eqs0, c_eqs1, l_t, l_l, bi_i, bi_max, bi_min, bi_tl, bi_tt, ix_l, ix_t, m_nil, m_cons, at0, at1, at2, flatD, seqOf, isNonW, nx_nx, nx_rt, nx_bk, nx_ct, nx_xc, next_nx, next_ct, next_bk, next_rt, Option.bind_some, Option.map_some, List.getElem?_cons_zero, List.getElem?_cons_succ, List.set_cons_zero, List.set_cons_succ, List.length_cons, List.length_nil, if_true, asgn, asgns, Nat.zero_add, Nat.reduceAdd, Nat.reduceLT, Nat.reduceLeDiff, reduceIte, reduceCtorEq, Bool.false_eq_true, Int.reduceNeg, sizeLine_val, and_self, true_and, and_true, b_m7, b_m86400, b_m1000000000, b_m60, b_m600, b_d7, b_d86400, b_d1000, b_p10_5, b_p10_9, b_p10_12, b_p10_15, isi_tup, Bool.not_true, h2', decide_false, Bool.not_false]
        refine ret_b ?_
        simp only [okR_bind, okR_map, okR_some, evS, ee_var, ee_cst, ee_fnv, ee_bin, ee_neg, ee_cmp, ee_chain, ee_isN, ee_notN, ee_and, ee_or, ee_not, ee_ite, ee_call, ee_callv, ee_bi, ee_isi1, ee_isi2, ee_mt0, ee_mt1, ee_ix, ee_sl, ee_tup, ee_lst, evEs, evZ, evO, evI, evT, evTo, evX, rd_d, fz_d, b_add, b_sub, b_mul, b_div, b_mod, b_p18, b_p8, b_p7, b_p6, c_lt, c_le, c_gt, c_ge, c_eq, c_ne, c_eqs, c_nes, c_nes0, c_nes1, c_eqs0, c_eqs1, l_t, l_l, bi_i, bi_max, bi_min, bi_tl, bi_tt, ix_l, ix_t, m_nil, m_cons, at0, at1, at2, flatD, seqOf, isNonW, nx_nx, nx_rt, nx_bk, nx_ct, nx_xc, next_nx, next_ct, next_bk, next_rt, Option.bind_some, Option.map_some, List.getElem?_cons_zero, List.getElem?_cons_succ, List.set_cons_zero, List.set_cons_succ, List.length_cons, List.length_nil, if_true, asgn, asgns, Nat.zero_add, Nat.reduceAdd, Nat.reduceLT, Nat.reduceLeDiff, reduceIte, reduceCtorEq, Bool.false_eq_true, Int.reduceNeg, sizeLine_val, and_self, true_and, and_true, b_m7, b_m86400, b_m1000000000, b_m60, b_m600, b_d7, b_d86400, b_d1000, b_p10_5, b_p10_9, b_p10_12, b_p10_15]
        exact fin_rl rfl (by rw [e0])
      · match ds, h2 with
        | [a, b], _ =>
          have ta := ha a (by simp)
          have tb := ha b (by simp)
          have sa := sl_mem hs a (by simp)
          have sb := sl_mem hs b (by simp)
          have hwk : Pv.weekB (.tup [a, b]) = (daysB a && feastsB b) := rfl
          rcases tv_cases ta with hf | ⟨m2, as, hm2, rfl, hal, haa⟩
          · have e0 : Pv.weekB (.tup [a, b]) = false := by rw [hwk]; simp [daysB, flat_sqL hf]
            simp only [okR_bind, okR_map, okR_some, evS, ee_var, ee_cst, ee_fnv, ee_bin, ee_neg, ee_cmp, ee_chain, ee_isN, ee_notN, ee_and, ee_or, ee_not, ee_ite, ee_call, ee_callv, ee_bi, ee_isi1, ee_isi2, ee_mt0, ee_mt1, ee_ix, ee_sl, ee_tup, ee_lst, evEs, evZ, evO, evI, evT, evTo, evX, rd_d, fz_d, b_add, b_sub, b_mul, b_div, b_mod, b_p18, b_p8, b_p7, b_p6, c_lt, c_le, c_gt, c_ge, c_eq, c_ne, c_eqs, c_nes, c_nes0, c_nes1, c_eqs0, c_eqs1, l_t, l_l, bi_i, bi_max, bi_min, bi_tl, bi_tt, ix_l, ix_t, m_nil, m_cons, at0, at1, at2, flatD, seqOf, isNonW, nx_nx, nx_rt, nx_bk, nx_ct, nx_xc, next_nx, next_ct, next_bk, next_rt, Option.bind_some, Option.map_some, List.getElem?_cons_zero, List.getElem?_cons_succ, List.set_cons_zero, List.set_cons_succ, List.length_cons, List.length_nil, if_true, asgn, asgns, Nat.zero_add, Nat.reduceAdd, Nat.reduceLT, Nat.reduceLeDiff, reduceIte, reduceCtorEq, Bool.false_eq_true, Int.reduceNeg, sizeLine_val, and_self, true_and, and_true, b_m7, b_m86400, b_m1000000000, b_m60, b_m600, b_d7, b_d86400, b_d1000, b_p10_5, b_p10_9, b_p10_12, b_p10_15, isi_tup, Bool.not_true, Bool.not_false, Int.cast_ofNat_Int, decide_true, isi_flat hf]
            refine ret_b ?_
            simp only [okR_bind, okR_map, okR_some, evS, ee_var, ee_cst, ee_fnv, ee_bin, ee_neg, ee_cmp, ee_chain, ee_isN, ee_notN, ee_and, ee_or, ee_not, ee_ite, ee_call, ee_callv, ee_bi, ee_isi1, ee_isi2, ee_mt0, ee_mt1, ee_ix, ee_sl, ee_tup, ee_lst, evEs, evZ, evO, evI, evT, evTo, evX, rd_d, fz_d, b_add, b_sub, b_mul, b_div, b_mod, b_p18, b_p8, b_p7, b_p6, c_lt, c_le, c_gt, c_ge, c_eq, c_ne, c_eqs, c_nes, c_nes0, c_nes1, c_eqs0, c_eqs1, l_t, l_l, bi_i, bi_max, bi_min, bi_tl, bi_tt, ix_l, ix_t, m_nil, m_cons, at0, at1, at2, flatD, seqOf, isNonW, nx_nx, nx_rt, nx_bk, nx_ct, nx_xc, next_nx, next_ct, next_bk, next_rt, Option.bind_some, Option.map_some, List.getElem?_cons_zero, List.getElem?_cons_succ, List.set_cons_zero, List.set_cons_succ, List.length_cons, List.length_nil, if_true, asgn, asgns, Nat.zero_add, Nat.reduceAdd, Nat.reduceLT, Nat.reduceLeDiff, reduceIte, reduceCtorEq, Bool.false_eq_true, Int.reduceNeg, sizeLine_val, and_self, true_and, and_true, b_m7, b_m86400, b_m1000000000, b_m60, b_m600, b_d7, b_d86400, b_d1000, b_p10_5, b_p10_9, b_p10_12, b_p10_15]
            exact fin_rl rfl (by rw [e0])
          · subst hm2
            by_cases h8 : as.length = 8
            case neg =>
              have e0 : Pv.weekB (.tup [.tup as, b]) = false := by rw [hwk]; simp [daysB, sqL, h8]
              have h8' : ¬ (as.length : Int) = 8 := by omega
              simp only [okR_bind, okR_map, okR_some, evS, ee_var, ee_cst, ee_fnv, ee_bin, ee_neg, ee_cmp, ee_chain, ee_isN, ee_notN, ee_and, ee_or, ee_not, ee_ite, ee_call, ee_callv, ee_bi, ee_isi1, ee_isi2, ee_mt0, ee_mt1, ee_ix, ee_sl, ee_tup, ee_lst, evEs, evZ, evO, evI, evT, evTo, evX, rd_d, fz_d, b_add, b_sub, b_mul, b_div, b_mod, b_p18, b_p8, b_p7, b_p6, c_lt, c_le, c_gt, c_ge, c_eq, c_ne, c_eqs, c_nes, c_nes0, c_nes1, c_eqs0, c_eqs1, l_t, l_l, bi_i, bi_max, bi_min, bi_tl, bi_tt, ix_l, ix_t, m_nil, m_cons, at0, at1, at2, flatD, seqOf, isNonW, nx_nx, nx_rt, nx_bk, nx_ct, nx_xc, next_nx, next_ct, next_bk, next_rt, Option.bind_some, Option.map_some, List.getElem?_cons_zero, List.getElem?_cons_succ, List.set_cons_zero, List.set_cons_succ, List.length_cons, List.length_nil, if_true, asgn, asgns, Nat.zero_add, Nat.reduceAdd, Nat.reduceLT, Nat.reduceLeDiff, reduceIte, reduceCtorEq, Bool.false_eq_true, Int.reduceNeg, sizeLine_val, and_self, true_and, and_true, b_m7, b_m86400, b_m1000000000, b_m60, b_m600, b_d7, b_d86400, b_d1000, b_p10_5, b_p10_9, b_p10_12, b_p10_15, isi_tup, Bool.not_true, Bool.not_false, Int.cast_ofNat_Int, decide_true, h8', decide_false]
              refine ret_b ?_
              simp only [okR_bind, okR_map, okR_some, evS, ee_var, ee_cst, ee_fnv, ee_bin, ee_neg, ee_cmp, ee_chain, ee_isN, ee_notN, ee_and, ee_or, ee_not, ee_ite, ee_call, ee_callv, ee_bi, ee_isi1, ee_isi2, ee_mt0, ee_mt1, ee_ix, ee_sl, ee_tup, ee_lst, evEs, evZ, evO, evI, evT, evTo, evX, rd_d, fz_d, b_add, b_sub, b_mul, b_div, b_mod, b_p18, b_p8, b_p7, b_p6, c_lt, c_le, c_gt, c_ge, c_eq, c_ne, c_eqs, c_nes, c_nes0, c_nes1, c_eqs0, c_eqs1, l_t, l_l, bi_i, bi_max, bi_min, bi_tl, bi_tt, ix_l, ix_t, m_nil, m_cons, at0, at1, at2, flatD, seqOf, isNonW, nx_nx, nx_rt, nx_bk, nx_ct, nx_xc, next_nx, next_ct, next_bk, next_rt, Option.bind_some, Option.map_some, List.getElem?_cons_zero, List.getElem?_cons_succ, List.set_cons_zero, List.set_cons_succ, List.length_cons, List.length_nil, if_true, asgn, asgns, Nat.zero_add, Nat.reduceAdd, Nat.reduceLT, Nat.reduceLeDiff, reduceIte, reduceCtorEq, Bool.false_eq_true, Int.reduceNeg, sizeLine_val, and_self, true_and, and_true, b_m7, b_m86400, b_m1000000000, b_m60, b_m600, b_d7, b_d86400, b_d1000, b_p10_5, b_p10_9, b_p10_12, b_p10_15]
              exact fin_rl rfl (by rw [e0])
            have h8' : (as.length : Int) = 8 := by omega
            simp only [okR_bind, okR_map, okR_some, evS, ee_var, ee_cst, ee_fnv, ee_bin, ee_neg, ee_cmp, ee_chain, ee_isN, ee_notN, ee_and, ee_or, ee_not, ee_ite, ee_call, ee_callv, ee_bi, ee_isi1, ee_isi2, ee_mt0, ee_mt1, ee_ix, ee_sl, ee_tup, ee_lst, evEs, evZ, evO, evI, evT, evTo, evX, rd_d, fz_d, b_add, b_sub, b_mul, b_div, b_mod, b_p18, b_p8, b_p7, b_p6, c_lt, c_le, c_gt, c_ge, c_eq, c_ne, c_eqs, c_nes, c_nes0, c_nes1, c_eqs0, c_eqs1, l_t, l_l, bi_i, bi_max, bi_min, bi_tl, bi_tt, ix_l, ix_t, m_nil, m_cons, at0, at1, at2, flatD, seqOf, isNonW, nx_nx, nx_rt, nx_bk, nx_ct, nx_xc, next_nx, next_ct, next_bk, next_rt, Option.bind_some, Option.map_some, List.getElem?_cons_zero, List.getElem?_cons_succ, List.set_cons_zero, List.set_cons_succ, List.length_cons, List.length_nil, if_true, asgn, asgns, Nat.zero_add, Nat.reduceAdd, Nat.reduceLT, Nat.reduceLeDiff, reduceIte, reduceCtorEq, Bool.false_eq_true, Int.reduceNeg, sizeLine_val, and_self, true_and, and_true, b_m7, b_m86400, b_m1000000000, b_m60, b_m600, b_d7, b_d86400, b_d1000, b_p10_5, b_p10_9, b_p10_12, b_p10_15, isi_tup, Bool.not_true, Bool.not_false, Int.cast_ofNat_Int, decide_true, h8', decide_true]
            refine ss_done ?_
            simp only [okR_bind, okR_map, okR_some, evS, ee_var, ee_cst, ee_fnv, ee_bin, ee_neg, ee_cmp, ee_chain, ee_isN, ee_notN, ee_and, ee_or, ee_not, ee_ite, ee_call, ee_callv, ee_bi, ee_isi1, ee_isi2, ee_mt0, ee_mt1, ee_ix, ee_sl, ee_tup, ee_lst, evEs, evZ, evO, evI, evT, evTo, evX, rd_d, fz_d, b_add, b_sub, b_mul, b_div, b_mod, b_p18, b_p8, b_p7, b_p6, c_lt, c_le, c_gt, c_ge, c_eq, c_ne, c_eqs, c_nes, c_nes0, c_nes1, c_eqs0, c_eqs1, l_t, l_l, bi_i, bi_max, bi_min, bi_tl, bi_tt, ix_l, ix_t, m_nil, m_cons, at0, at1, at2, flatD, seqOf, isNonW, nx_nx, nx_rt, nx_bk, nx_ct, nx_xc, next_nx, next_ct, next_bk, next_rt, Option.bind_some, Option.map_some, List.getElem?_cons_zero, List.getElem?_cons_succ, List.set_cons_zero, List.set_cons_succ, List.length_cons, List.length_nil, if_true, asgn, asgns, Nat.zero_add, Nat.reduceAdd, Nat.reduceLT, Nat.reduceLeDiff, reduceIte, reduceCtorEq, Bool.false_eq_true, Int.reduceNeg, sizeLine_val, and_self, true_and, and_true, b_m7, b_m86400, b_m1000000000, b_m60, b_m600, b_d7, b_d86400, b_d1000, b_p10_5, b_p10_9, b_p10_12, b_p10_15]
            refine ss_step (ifs_ok ?_)
            simp only [evT, ee_cmp, ee_bi, evEs, okR_bind, okR_map]
            refine compF_ok rfl (fun d => !dayB d) (fun d => d) ?_
            simp only [okR_bind, okR_map, okR_some, evS, ee_var, ee_cst, ee_fnv, ee_bin, ee_neg, ee_cmp, ee_chain, ee_isN, ee_notN, ee_and, ee_or, ee_not, ee_ite, ee_call, ee_callv, ee_bi, ee_isi1, ee_isi2, ee_mt0, ee_mt1, ee_ix, ee_sl, ee_tup, ee_lst, evEs, evZ, evO, evI, evT, evTo, evX, rd_d, fz_d, b_add, b_sub, b_mul, b_div, b_mod, b_p18, b_p8, b_p7, b_p6, c_lt, c_le, c_gt, c_ge, c_eq, c_ne, c_eqs, c_nes, c_nes0, c_nes1, c_eqs0, c_eqs1, l_t, l_l, bi_i, bi_max, bi_min, bi_tl, bi_tt, ix_l, ix_t, m_nil, m_cons, at0, at1, at2, flatD, seqOf, isNonW, nx_nx, nx_rt, nx_bk, nx_ct, nx_xc, next_nx, next_ct, next_bk, next_rt, Option.bind_some, Option.map_some, List.getElem?_cons_zero, List.getElem?_cons_succ, List.set_cons_zero, List.set_cons_succ, List.length_cons, List.length_nil, if_true, asgn, asgns, Nat.zero_add, Nat.reduceAdd, Nat.reduceLT, Nat.reduceLeDiff, reduceIte, reduceCtorEq, Bool.false_eq_true, Int.reduceNeg, sizeLine_val, and_self, true_and, and_true, b_m7, b_m86400, b_m1000000000, b_m60, b_m600, b_d7, b_d86400, b_d1000, b_p10_5, b_p10_9, b_p10_12, b_p10_15, wipeE]
            refine ⟨by omega, fun d hd' => ?_, ?_⟩
            · refine OkR.of (law_day_eq (k := k) hdy hb hw hd (haa d hd') (sl_mem sa d hd')) ?_
              simp only [okR_bind, okR_map, okR_some, evS, ee_var, ee_cst, ee_fnv, ee_bin, ee_neg, ee_cmp, ee_chain, ee_isN, ee_notN, ee_and, ee_or, ee_not, ee_ite, ee_call, ee_callv, ee_bi, ee_isi1, ee_isi2, ee_mt0, ee_mt1, ee_ix, ee_sl, ee_tup, ee_lst, evEs, evZ, evO, evI, evT, evTo, evX, rd_d, fz_d, b_add, b_sub, b_mul, b_div, b_mod, b_p18, b_p8, b_p7, b_p6, c_lt, c_le, c_gt, c_ge, c_eq, c_ne, c_eqs, c_nes, c_nes0, c_nes1, c_eqs0, c_eqs1, l_t, l_l, bi_i, bi_max, bi_min, bi_tl, bi_tt, ix_l, ix_t, m_nil, m_cons, at0, at1, at2, flatD, seqOf, isNonW, nx_nx, nx_rt, nx_bk, nx_ct, nx_xc, next_nx, next_ct, next_bk, next_rt, Option.bind_some, Option.map_some, List.getElem?_cons_zero, List.getElem?_cons_succ, List.set_cons_zero, List.set_cons_succ, List.length_cons, List.length_nil, if_true, asgn, asgns, Nat.zero_add, Nat.reduceAdd, Nat.reduceLT, Nat.reduceLeDiff, reduceIte, reduceCtorEq, Bool.false_eq_true, Int.reduceNeg, sizeLine_val, and_self, true_and, and_true, b_m7, b_m86400, b_m1000000000, b_m60, b_m600, b_d7, b_d86400, b_d1000, b_p10_5, b_p10_9, b_p10_12, b_p10_15]
              first | exact ⟨rfl, fun _ => trivial⟩ | exact ⟨trivial, fun _ => trivial⟩ | simp
            · simp only [okR_bind, okR_map, okR_some, evS, ee_var, ee_cst, ee_fnv, ee_bin, ee_neg, ee_cmp, ee_chain, ee_isN, ee_notN, ee_and, ee_or, ee_not, ee_ite, ee_call, ee_callv, ee_bi, ee_isi1, ee_isi2, ee_mt0, ee_mt1, ee_ix, ee_sl, ee_tup, ee_lst, evEs, evZ, evO, evI, evT, evTo, evX, rd_d, fz_d, b_add, b_sub, b_mul, b_div, b_mod, b_p18, b_p8, b_p7, b_p6, c_lt, c_le, c_gt, c_ge, c_eq, c_ne, c_eqs, c_nes, c_nes0, c_nes1, c_eqs0, c_eqs1, l_t, l_l, bi_i, bi_max, bi_min, bi_tl, bi_tt, ix_l, ix_t, m_nil, m_cons, at0, at1, at2, flatD, seqOf, isNonW, nx_nx, nx_rt, nx_bk, nx_ct, nx_xc, next_nx, next_ct, next_bk, next_rt, Option.bind_some, Option.map_some, List.getElem?_cons_zero, List.getElem?_cons_succ, List.set_cons_zero, List.set_cons_succ, List.length_cons, List.length_nil, if_true, asgn, asgns, Nat.zero_add, Nat.reduceAdd, Nat.reduceLT, Nat.reduceLeDiff, reduceIte, reduceCtorEq, Bool.false_eq_true, Int.reduceNeg, sizeLine_val, and_self, true_and, and_true, b_m7, b_m86400, b_m1000000000, b_m60, b_m600, b_d7, b_d86400, b_d1000, b_p10_5, b_p10_9, b_p10_12, b_p10_15, List.map_id']
              by_cases hbad : 0 < (((as.filter fun d => !dayB d).length : Nat) : Int)
              · have e0 : Pv.weekB (.tup [.tup as, b]) = false := by
                  rw [hwk]
                  have : as.all dayB = false := by
                    rw [Bool.eq_false_iff]
                    intro z
                    rw [List.all_eq_true] at z
                    have : (as.filter fun d => !dayB d) = [] := List.filter_eq_nil_iff.mpr fun x hx => by simp [z x hx]
                    rw [this] at hbad
                    simp at hbad
                  simp [daysB, sqL, this]
                simp only [okR_bind, okR_map, okR_some, evS, ee_var, ee_cst, ee_fnv, ee_bin, ee_neg, ee_cmp, ee_chain, ee_isN, ee_notN, ee_and, ee_or, ee_not, ee_ite, ee_call, ee_callv, ee_bi, ee_isi1, ee_isi2, ee_mt0, ee_mt1, ee_ix, ee_sl, ee_tup, ee_lst, evEs, evZ, evO, evI, evT, evTo, evX, rd_d, fz_d, b_add, b_sub, b_mul, b_div, b_mod, b_p18, b_p8, b_p7, b_p6, c_lt, c_le, c_gt, c_ge, c_eq, c_ne, c_eqs, c_nes, c_nes0, c_nes1, c_eqs0, c_eqs1, l_t, l_l, bi_i, bi_max, bi_min, bi_tl, bi_tt, ix_l, ix_t, m_nil, m_cons, at0, at1, at2, flatD, seqOf, isNonW, nx_nx, nx_rt, nx_bk, nx_ct, nx_xc, next_nx, next_ct, next_bk, next_rt, Option.bind_some, Option.map_some, List.getElem?_cons_zero, List.getElem?_cons_succ, List.set_cons_zero, List.set_cons_succ, List.length_cons, List.length_nil, if_true, asgn, asgns, Nat.zero_add, Nat.reduceAdd, Nat.reduceLT, Nat.reduceLeDiff, reduceIte, reduceCtorEq, Bool.false_eq_true, Int.reduceNeg, sizeLine_val, and_self, true_and, and_true, b_m7, b_m86400, b_m1000000000, b_m60, b_m600, b_d7, b_d86400, b_d1000, b_p10_5, b_p10_9, b_p10_12, b_p10_15, hbad, decide_true]
                refine ret_b ?_
                simp only [okR_bind, okR_map, okR_some, evS, ee_var, ee_cst, ee_fnv, ee_bin, ee_neg, ee_cmp, ee_chain, ee_isN, ee_notN, ee_and, ee_or, ee_not, ee_ite, ee_call, ee_callv, ee_bi, ee_isi1, ee_isi2, ee_mt0, ee_mt1, ee_ix, ee_sl, ee_tup, ee_lst, evEs, evZ, evO, evI, evT, evTo, evX, rd_d, fz_d, b_add, b_sub, b_mul, b_div, b_mod, b_p18, b_p8, b_p7, b_p6, c_lt, c_le, c_gt, c_ge, c_eq, c_ne, c_eqs, c_nes, c_nes0, c_nes1, c_eqs0, c_eqs1, l_t, l_l, bi_i, bi_max, bi_min, bi_tl, bi_tt, ix_l, ix_t, m_nil, m_cons, at0, at1, at2, flatD, seqOf, isNonW, nx_nx, nx_rt, nx_bk, nx_ct, nx_xc, next_nx, next_ct, next_bk, next_rt, Option.bind_some, Option.map_some, List.getElem?_cons_zero, List.getElem?_cons_succ, List.set_cons_zero, List.set_cons_succ, List.length_cons, List.length_nil, if_true, asgn, asgns, Nat.zero_add, Nat.reduceAdd, Nat.reduceLT, Nat.reduceLeDiff, reduceIte, reduceCtorEq, Bool.false_eq_true, Int.reduceNeg, sizeLine_val, and_self, true_and, and_true, b_m7, b_m86400, b_m1000000000, b_m60, b_m600, b_d7, b_d86400, b_d1000, b_p10_5, b_p10_9, b_p10_12, b_p10_15]
                exact fin_rl rfl (by rw [e0])
              · have e1 : daysB (.tup as) = true := by
                  have : as.all dayB = true := by
                    rw [List.all_eq_true]
                    intro x hx
                    cases hdx : dayB x with
                    | true => rfl
                    | false =>
                      have : x ∈ as.filter fun d => !dayB d := List.mem_filter.mpr ⟨hx, by simp [hdx]⟩
                      have := List.length_pos_of_mem this
                      omega
                  simp [daysB, sqL, h8, this]
                have hwk2 : Pv.weekB (.tup [.tup as, b]) = feastsB b := by rw [hwk, e1]; rfl
                simp only [okR_bind, okR_map, okR_some, evS, ee_var, ee_cst, ee_fnv, ee_bin, ee_neg, ee_cmp, ee_chain, ee_isN, ee_notN, ee_and, ee_or, ee_not, ee_ite, ee_call, ee_callv, ee_bi, ee_isi1, ee_isi2, ee_mt0, ee_mt1, ee_ix, ee_sl, ee_tup, ee_lst, evEs, evZ, evO, evI, evT, evTo, evX, rd_d, fz_d, b_add, b_sub, b_mul, b_div, b_mod, b_p18, b_p8, b_p7, b_p6, c_lt, c_le, c_gt, c_ge, c_eq, c_ne, c_eqs, c_nes, c_nes0, c_nes1, c_eqs0, c_eqs1, l_t, l_l, bi_i, bi_max, bi_min, bi_tl, bi_tt, ix_l, ix_t, m_nil, m_cons, at0, at1, at2, flatD, seqOf, isNonW, nx_nx, nx_rt, nx_bk, nx_ct, nx_xc, next_nx, next_ct, next_bk, next_rt, Option.bind_some, Option.map_some, List.getElem?_cons_zero, List.getElem?_cons_succ, List.set_cons_zero, List.set_cons_succ, List.length_cons, List.length_nil, if_true, asgn, asgns, Nat.zero_add, Nat.reduceAdd, Nat.reduceLT, Nat.reduceLeDiff, reduceIte, reduceCtorEq, Bool.false_eq_true, Int.reduceNeg, sizeLine_val, and_self, true_and, and_true, b_m7, b_m86400, b_m1000000000, b_m60, b_m600, b_d7, b_d86400, b_d1000, b_p10_5, b_p10_9, b_p10_12, b_p10_15, hbad, decide_false]
                rcases tv_cases tb with hf | ⟨m3, fs, hm3, rfl, hfl, hfa⟩
                · have e0 : feastsB b = false := by simp [feastsB, flat_sqL hf]
                  simp only [okR_bind, okR_map, okR_some, evS, ee_var, ee_cst, ee_fnv, ee_bin, ee_neg, ee_cmp, ee_chain, ee_isN, ee_notN, ee_and, ee_or, ee_not, ee_ite, ee_call, ee_callv, ee_bi, ee_isi1, ee_isi2, ee_mt0, ee_mt1, ee_ix, ee_sl, ee_tup, ee_lst, evEs, evZ, evO, evI, evT, evTo, evX, rd_d, fz_d, b_add, b_sub, b_mul, b_div, b_mod, b_p18, b_p8, b_p7, b_p6, c_lt, c_le, c_gt, c_ge, c_eq, c_ne, c_eqs, c_nes, c_nes0, c_nes1, c_eqs0, c_eqs1, l_t, l_l, bi_i, bi_max, bi_min, bi_tl, bi_tt, ix_l, ix_t, m_nil, m_cons, at0, at1, at2, flatD, seqOf, isNonW, nx_nx, nx_rt, nx_bk, nx_ct, nx_xc, next_nx, next_ct, next_bk, next_rt, Option.bind_some, Option.map_some, List.getElem?_cons_zero, List.getElem?_cons_succ, List.set_cons_zero, List.set_cons_succ, List.length_cons, List.length_nil, if_true, asgn, asgns, Nat.zero_add, Nat.reduceAdd, Nat.reduceLT, Nat.reduceLeDiff, reduceIte, reduceCtorEq, Bool.false_eq_true, Int.reduceNeg, sizeLine_val, and_self, true_and, and_true, b_m7, b_m86400, b_m1000000000, b_m60, b_m600, b_d7, b_d86400, b_d1000, b_p10_5, b_p10_9, b_p10_12, b_p10_15, isi_flat hf, Bool.not_false]
                  refine ret_b ?_
                  simp only [okR_bind, okR_map, okR_some, evS, ee_var, ee_cst, ee_fnv, ee_bin, ee_neg, ee_cmp, ee_chain, ee_isN, ee_notN, ee_and, ee_or, ee_not, ee_ite, ee_call, ee_callv, ee_bi, ee_isi1, ee_isi2, ee_mt0, ee_mt1, ee_ix, ee_sl, ee_tup, ee_lst, evEs, evZ, evO, evI, evT, evTo, evX, rd_d, fz_d, b_add, b_sub, b_mul, b_div, b_mod, b_p18, b_p8, b_p7, b_p6, c_lt, c_le, c_gt, c_ge, c_eq, c_ne, c_eqs, c_nes, c_nes0, c_nes1, c_eqs0, c_eqs1, l_t, l_l, bi_i, bi_max, bi_min, bi_tl, bi_tt, ix_l, ix_t, m_nil, m_cons, at0, at1, at2, flatD, seqOf, isNonW, nx_nx, nx_rt, nx_bk, nx_ct, nx_xc, next_nx, next_ct, next_bk, next_rt, Option.bind_some, Option.map_some, List.getElem?_cons_zero, List.getElem?_cons_succ, List.set_cons_zero, List.set_cons_succ, List.length_cons, List.length_nil, if_true, asgn, asgns, Nat.zero_add, Nat.reduceAdd, Nat.reduceLT, Nat.reduceLeDiff, reduceIte, reduceCtorEq, Bool.false_eq_true, Int.reduceNeg, sizeLine_val, and_self, true_and, and_true, b_m7, b_m86400, b_m1000000000, b_m60, b_m600, b_d7, b_d86400, b_d1000, b_p10_5, b_p10_9, b_p10_12, b_p10_15]
                  exact fin_rl rfl (by rw [hwk2, e0])
                have hsq : sqL (.tup fs) = some fs := rfl
                simp only [okR_bind, okR_map, okR_some, evS, ee_var, ee_cst, ee_fnv, ee_bin, ee_neg, ee_cmp, ee_chain, ee_isN, ee_notN, ee_and, ee_or, ee_not, ee_ite, ee_call, ee_callv, ee_bi, ee_isi1, ee_isi2, ee_mt0, ee_mt1, ee_ix, ee_sl, ee_tup, ee_lst, evEs, evZ, evO, evI, evT, evTo, evX, rd_d, fz_d, b_add, b_sub, b_mul, b_div, b_mod, b_p18, b_p8, b_p7, b_p6, c_lt, c_le, c_gt, c_ge, c_eq, c_ne, c_eqs, c_nes, c_nes0, c_nes1, c_eqs0, c_eqs1, l_t, l_l, bi_i, bi_max, bi_min, bi_tl, bi_tt, ix_l, ix_t, m_nil, m_cons, at0, at1, at2, flatD, seqOf, isNonW, nx_nx, nx_rt, nx_bk, nx_ct, nx_xc, next_nx, next_ct, next_bk, next_rt, Option.bind_some, Option.map_some, List.getElem?_cons_zero, List.getElem?_cons_succ, List.set_cons_zero, List.set_cons_succ, List.length_cons, List.length_nil, if_true, asgn, asgns, Nat.zero_add, Nat.reduceAdd, Nat.reduceLT, Nat.reduceLeDiff, reduceIte, reduceCtorEq, Bool.false_eq_true, Int.reduceNeg, sizeLine_val, and_self, true_and, and_true, b_m7, b_m86400, b_m1000000000, b_m60, b_m600, b_d7, b_d86400, b_d1000, b_p10_5, b_p10_9, b_p10_12, b_p10_15, isi_tup, Bool.not_true]
                by_cases h20 : (20 : Int) < (fs.length : Int)
                · have e0 : feastsB (.tup fs) = false := by
                    rw [Bool.eq_false_iff]
                    intro z
                    have := ((feastsB_iff hsq).mp z).1
                    omega
                  simp only [okR_bind, okR_map, okR_some, evS, ee_var, ee_cst, ee_fnv, ee_bin, ee_neg, ee_cmp, ee_chain, ee_isN, ee_notN, ee_and, ee_or, ee_not, ee_ite, ee_call, ee_callv, ee_bi, ee_isi1, ee_isi2, ee_mt0, ee_mt1, ee_ix, ee_sl, ee_tup, ee_lst, evEs, evZ, evO, evI, evT, evTo, evX, rd_d, fz_d, b_add, b_sub, b_mul, b_div, b_mod, b_p18, b_p8, b_p7, b_p6, c_lt, c_le, c_gt, c_ge, c_eq, c_ne, c_eqs, c_nes, c_nes0, c_nes1, c_eqs0, c_eqs1, l_t, l_l, bi_i, bi_max, bi_min, bi_tl, bi_tt, ix_l, ix_t, m_nil, m_cons, at0, at1, at2, flatD, seqOf, isNonW, nx_nx, nx_rt, nx_bk, nx_ct, nx_xc, next_nx, next_ct, next_bk, next_rt, Option.bind_some, Option.map_some, List.getElem?_cons_zero, List.getElem?_cons_succ, List.set_cons_zero, List.set_cons_succ, List.length_cons, List.length_nil, if_true, asgn, asgns, Nat.zero_add, Nat.reduceAdd, Nat.reduceLT, Nat.reduceLeDiff, reduceIte, reduceCtorEq, Bool.false_eq_true, Int.reduceNeg, sizeLine_val, and_self, true_and, and_true, b_m7, b_m86400, b_m1000000000, b_m60, b_m600, b_d7, b_d86400, b_d1000, b_p10_5, b_p10_9, b_p10_12, b_p10_15, h20, decide_true]
                  refine ret_b ?_
                  simp only [okR_bind, okR_map, okR_some, evS, ee_var, ee_cst, ee_fnv, ee_bin, ee_neg, ee_cmp, ee_chain, ee_isN, ee_notN, ee_and, ee_or, ee_not, ee_ite, ee_call, ee_callv, ee_bi, ee_isi1, ee_isi2, ee_mt0, ee_mt1, ee_ix, ee_sl, ee_tup, ee_lst, evEs, evZ, evO, evI, evT, evTo, evX, rd_d, fz_d, b_add, b_sub, b_mul, b_div, b_mod, b_p18, b_p8, b_p7, b_p6, c_lt, c_le, c_gt, c_ge, c_eq, c_ne, c_eqs, c_nes, c_nes0, c_nes1, c_eqs0, c_eqs1, l_t, l_l, bi_i, bi_max, bi_min, bi_tl, bi_tt, ix_l, ix_t, m_nil, m_cons, at0, at1, at2, flatD, seqOf, isNonW, nx_nx, nx_rt, nx_bk, nx_ct, nx_xc, next_nx, next_ct, next_bk, next_rt, Option.bind_some, Option.map_some, List.getElem?_cons_zero, List.getElem?_cons_succ, List.set_cons_zero, List.set_cons_succ, List.length_cons, List.length_nil, if_true, asgn, asgns, Nat.zero_add, Nat.reduceAdd, Nat.reduceLT, Nat.reduceLeDiff, reduceIte, reduceCtorEq, Bool.false_eq_true, Int.reduceNeg, sizeLine_val, and_self, true_and, and_true, b_m7, b_m86400, b_m1000000000, b_m60, b_m600, b_d7, b_d86400, b_d1000, b_p10_5, b_p10_9, b_p10_12, b_p10_15]
                  exact fin_rl rfl (by rw [hwk2, e0])
                simp only [okR_bind, okR_map, okR_some, evS, ee_var, ee_cst, ee_fnv, ee_bin, ee_neg, ee_cmp, ee_chain, ee_isN, ee_notN, ee_and, ee_or, ee_not, ee_ite, ee_call, ee_callv, ee_bi, ee_isi1, ee_isi2, ee_mt0, ee_mt1, ee_ix, ee_sl, ee_tup, ee_lst, evEs, evZ, evO, evI, evT, evTo, evX, rd_d, fz_d, b_add, b_sub, b_mul, b_div, b_mod, b_p18, b_p8, b_p7, b_p6, c_lt, c_le, c_gt, c_ge, c_eq, c_ne, c_eqs, c_nes, c_nes0, c_nes1, c_eqs0, c_eqs1, l_t, l_l, bi_i, bi_max, bi_min, bi_tl, bi_tt, ix_l, ix_t, m_nil, m_cons, at0, at1, at2, flatD, seqOf, isNonW, nx_nx, nx_rt, nx_bk, nx_ct, nx_xc, next_nx, next_ct, next_bk, next_rt, Option.bind_some, Option.map_some, List.getElem?_cons_zero, List.getElem?_cons_succ, List.set_cons_zero, List.set_cons_succ, List.length_cons, List.length_nil, if_true, asgn, asgns, Nat.zero_add, Nat.reduceAdd, Nat.reduceLT, Nat.reduceLeDiff, reduceIte, reduceCtorEq, Bool.false_eq_true, Int.reduceNeg, sizeLine_val, and_self, true_and, and_true, b_m7, b_m86400, b_m1000000000, b_m60, b_m600, b_d7, b_d86400, b_d1000, b_p10_5, b_p10_9, b_p10_12, b_p10_15, h20, decide_false]
                refine ss_done ?_
                simp only [okR_bind, okR_map, okR_some, evS, ee_var, ee_cst, ee_fnv, ee_bin, ee_neg, ee_cmp, ee_chain, ee_isN, ee_notN, ee_and, ee_or, ee_not, ee_ite, ee_call, ee_callv, ee_bi, ee_isi1, ee_isi2, ee_mt0, ee_mt1, ee_ix, ee_sl, ee_tup, ee_lst, evEs, evZ, evO, evI, evT, evTo, evX, rd_d, fz_d, b_add, b_sub, b_mul, b_div, b_mod, b_p18, b_p8, b_p7, b_p6, c_lt, c_le, c_gt, c_ge, c_eq, c_ne, c_eqs, c_nes, c_nes0, c_nes1, c_eqs0, c_eqs1, l_t, l_l, bi_i, bi_max, bi_min, bi_tl, bi_tt, ix_l, ix_t, m_nil, m_cons, at0, at1, at2, flatD, seqOf, isNonW, nx_nx, nx_rt, nx_bk, nx_ct, nx_xc, next_nx, next_ct, next_bk, next_rt, Option.bind_some, Option.map_some, List.getElem?_cons_zero, List.getElem?_cons_succ, List.set_cons_zero, List.set_cons_succ, List.length_cons, List.length_nil, if_true, asgn, asgns, Nat.zero_add, Nat.reduceAdd, Nat.reduceLT, Nat.reduceLeDiff, reduceIte, reduceCtorEq, Bool.false_eq_true, Int.reduceNeg, sizeLine_val, and_self, true_and, and_true, b_m7, b_m86400, b_m1000000000, b_m60, b_m600, b_d7, b_d86400, b_d1000, b_p10_5, b_p10_9, b_p10_12, b_p10_15]
                refine ss_step (for_ok (i_r1 ?_))
                simp only [okR_bind, okR_map, okR_some, evS, ee_var, ee_cst, ee_fnv, ee_bin, ee_neg, ee_cmp, ee_chain, ee_isN, ee_notN, ee_and, ee_or, ee_not, ee_ite, ee_call, ee_callv, ee_bi, ee_isi1, ee_isi2, ee_mt0, ee_mt1, ee_ix, ee_sl, ee_tup, ee_lst, evEs, evZ, evO, evI, evT, evTo, evX, rd_d, fz_d, b_add, b_sub, b_mul, b_div, b_mod, b_p18, b_p8, b_p7, b_p6, c_lt, c_le, c_gt, c_ge, c_eq, c_ne, c_eqs, c_nes, c_nes0, c_nes1, c_eqs0, c_eqs1, l_t, l_l, bi_i, bi_max, bi_min, bi_tl, bi_tt, ix_l, ix_t, m_nil, m_cons, at0, at1, at2, flatD, seqOf, isNonW, nx_nx, nx_rt, nx_bk, nx_ct, nx_xc, next_nx, next_ct, next_bk, next_rt, Option.bind_some, Option.map_some, List.getElem?_cons_zero, List.getElem?_cons_succ, List.set_cons_zero, List.set_cons_succ, List.length_cons, List.length_nil, if_true, asgn, asgns, Nat.zero_add, Nat.reduceAdd, Nat.reduceLT, Nat.reduceLeDiff, reduceIte, reduceCtorEq, Bool.false_eq_true, Int.reduceNeg, sizeLine_val, and_self, true_and, and_true, b_m7, b_m86400, b_m1000000000, b_m60, b_m600, b_d7, b_d86400, b_d1000, b_p10_5, b_p10_9, b_p10_12, b_p10_15]
                refine ⟨fs.length, rfl, by omega, by omega, ?_⟩
                refine loop_ok (fun n ρ S' => ∃ v1, ρ = [some (.d (.tup [.tup as, .tup fs])), v1, none] ∧ S' = S ∧ ∀ j, j < n → GoodF fs j) ⟨none, rfl, rfl, fun j hj => by omega⟩ ?_ ?_
                · rintro n d ρ S' hn ⟨v1, rfl, rfl, hg⟩
                  obtain ⟨hn1, rfl⟩ := rangeD_get hn
                  have hn2 : n < fs.length := by omega
                  have hgn : fs.getD n .non = fs[n] := by rw [List.getD_eq_getElem?_getD, List.getElem?_eq_getElem hn2]; rfl
                  have ei : L2.atI fs (0 + (n : Int)) = some fs[n] := by rw [Int.zero_add]; exact L2.atI_nat (List.getElem?_eq_getElem hn2)
                  have hm := List.getElem_mem hn2
                  have bad : ¬ GoodF fs n → feastsB (.tup fs) = false := fun hng => by
                    rw [Bool.eq_false_iff]
                    intro z
                    exact hng (((feastsB_iff hsq).mp z).2 n hn2)
                  obtain rfl : m2 = m3 := by omega
                  have e1 := between_eq (k := k + 1) (S := S') (d := fs[n]) (lo := 0) (hi := 1000) hb hw (vt_ok (vt_of (hfa _ hm) (sl_mem sb _ hm)))
                  simp only [okR_bind, okR_map, okR_some, evS, ee_var, ee_cst, ee_fnv, ee_bin, ee_neg, ee_cmp, ee_chain, ee_isN, ee_notN, ee_and, ee_or, ee_not, ee_ite, ee_call, ee_callv, ee_bi, ee_isi1, ee_isi2, ee_mt0, ee_mt1, ee_ix, ee_sl, ee_tup, ee_lst, evEs, evZ, evO, evI, evT, evTo, evX, rd_d, fz_d, b_add, b_sub, b_mul, b_div, b_mod, b_p18, b_p8, b_p7, b_p6, c_lt, c_le, c_gt, c_ge, c_eq, c_ne, c_eqs, c_nes, c_nes0, c_nes1, c_eqs0, c_eqs1, l_t, l_l, bi_i, bi_max, bi_min, bi_tl, bi_tt, ix_l, ix_t, m_nil, m_cons, at0, at1, at2, flatD, seqOf, isNonW, nx_nx, nx_rt, nx_bk, nx_ct, nx_xc, next_nx, next_ct, next_bk, next_rt, Option.bind_some, Option.map_some, List.getElem?_cons_zero, List.getElem?_cons_succ, List.set_cons_zero, List.set_cons_succ, List.length_cons, List.length_nil, if_true, asgn, asgns, Nat.zero_add, Nat.reduceAdd, Nat.reduceLT, Nat.reduceLeDiff, reduceIte, reduceCtorEq, Bool.false_eq_true, Int.reduceNeg, sizeLine_val, and_self, true_and, and_true, b_m7, b_m86400, b_m1000000000, b_m60, b_m600, b_d7, b_d86400, b_d1000, b_p10_5, b_p10_9, b_p10_12, b_p10_15]
                  refine ss_step (ifs_ok ?_)
                  simp only [okR_bind, okR_map, okR_some, evS, ee_var, ee_cst, ee_fnv, ee_bin, ee_neg, ee_cmp, ee_chain, ee_isN, ee_notN, ee_and, ee_or, ee_not, ee_ite, ee_call, ee_callv, ee_bi, ee_isi1, ee_isi2, ee_mt0, ee_mt1, ee_ix, ee_sl, ee_tup, ee_lst, evEs, evZ, evO, evI, evT, evTo, evX, rd_d, fz_d, b_add, b_sub, b_mul, b_div, b_mod, b_p18, b_p8, b_p7, b_p6, c_lt, c_le, c_gt, c_ge, c_eq, c_ne, c_eqs, c_nes, c_nes0, c_nes1, c_eqs0, c_eqs1, l_t, l_l, bi_i, bi_max, bi_min, bi_tl, bi_tt, ix_l, ix_t, m_nil, m_cons, at0, at1, at2, flatD, seqOf, isNonW, nx_nx, nx_rt, nx_bk, nx_ct, nx_xc, next_nx, next_ct, next_bk, next_rt, Option.bind_some, Option.map_some, List.getElem?_cons_zero, List.getElem?_cons_succ, List.set_cons_zero, List.set_cons_succ, List.length_cons, List.length_nil, if_true, asgn, asgns, Nat.zero_add, Nat.reduceAdd, Nat.reduceLT, Nat.reduceLeDiff, reduceIte, reduceCtorEq, Bool.false_eq_true, Int.reduceNeg, sizeLine_val, and_self, true_and, and_true, b_m7, b_m86400, b_m1000000000, b_m60, b_m600, b_d7, b_d86400, b_d1000, b_p10_5, b_p10_9, b_p10_12, b_p10_15, ei, e1]
                  cases hA : isW 0 1000 fs[n] with
                  | false =>
                    have ng : ¬ GoodF fs n := fun z => by
                      have := z.1
                      rw [hgn, hA] at this
                      cases this
                    simp only [okR_bind, okR_map, okR_some, evS, ee_var, ee_cst, ee_fnv, ee_bin, ee_neg, ee_cmp, ee_chain, ee_isN, ee_notN, ee_and, ee_or, ee_not, ee_ite, ee_call, ee_callv, ee_bi, ee_isi1, ee_isi2, ee_mt0, ee_mt1, ee_ix, ee_sl, ee_tup, ee_lst, evEs, evZ, evO, evI, evT, evTo, evX, rd_d, fz_d, b_add, b_sub, b_mul, b_div, b_mod, b_p18, b_p8, b_p7, b_p6, c_lt, c_le, c_gt, c_ge, c_eq, c_ne, c_eqs, c_nes, c_nes0, c_nes1, c_eqs0, c_eqs1, l_t, l_l, bi_i, bi_max, bi_min, bi_tl, bi_tt, ix_l, ix_t, m_nil, m_cons, at0, at1, at2, flatD, seqOf, isNonW, nx_nx, nx_rt, nx_bk, nx_ct, nx_xc, next_nx, next_ct, next_bk, next_rt, Option.bind_some, Option.map_some, List.getElem?_cons_zero, List.getElem?_cons_succ, List.set_cons_zero, List.set_cons_succ, List.length_cons, List.length_nil, if_true, asgn, asgns, Nat.zero_add, Nat.reduceAdd, Nat.reduceLT, Nat.reduceLeDiff, reduceIte, reduceCtorEq, Bool.false_eq_true, Int.reduceNeg, sizeLine_val, and_self, true_and, and_true, b_m7, b_m86400, b_m1000000000, b_m60, b_m600, b_d7, b_d86400, b_d1000, b_p10_5, b_p10_9, b_p10_12, b_p10_15, Bool.not_false]
                    refine ret_b ?_
                    simp only [okR_bind, okR_map, okR_some, evS, ee_var, ee_cst, ee_fnv, ee_bin, ee_neg, ee_cmp, ee_chain, ee_isN, ee_notN, ee_and, ee_or, ee_not, ee_ite, ee_call, ee_callv, ee_bi, ee_isi1, ee_isi2, ee_mt0, ee_mt1, ee_ix, ee_sl, ee_tup, ee_lst, evEs, evZ, evO, evI, evT, evTo, evX, rd_d, fz_d, b_add, b_sub, b_mul, b_div, b_mod, b_p18, b_p8, b_p7, b_p6, c_lt, c_le, c_gt, c_ge, c_eq, c_ne, c_eqs, c_nes, c_nes0, c_nes1, c_eqs0, c_eqs1, l_t, l_l, bi_i, bi_max, bi_min, bi_tl, bi_tt, ix_l, ix_t, m_nil, m_cons, at0, at1, at2, flatD, seqOf, isNonW, nx_nx, nx_rt, nx_bk, nx_ct, nx_xc, next_nx, next_ct, next_bk, next_rt, Option.bind_some, Option.map_some, List.getElem?_cons_zero, List.getElem?_cons_succ, List.set_cons_zero, List.set_cons_succ, List.length_cons, List.length_nil, if_true, asgn, asgns, Nat.zero_add, Nat.reduceAdd, Nat.reduceLT, Nat.reduceLeDiff, reduceIte, reduceCtorEq, Bool.false_eq_true, Int.reduceNeg, sizeLine_val, and_self, true_and, and_true, b_m7, b_m86400, b_m1000000000, b_m60, b_m600, b_d7, b_d86400, b_d1000, b_p10_5, b_p10_9, b_p10_12, b_p10_15]
                    exact fin_rl rfl (by rw [hwk2, bad ng])
                  | true =>
                    obtain ⟨i, hi⟩ := isW_int hA
                    simp only [okR_bind, okR_map, okR_some, evS, ee_var, ee_cst, ee_fnv, ee_bin, ee_neg, ee_cmp, ee_chain, ee_isN, ee_notN, ee_and, ee_or, ee_not, ee_ite, ee_call, ee_callv, ee_bi, ee_isi1, ee_isi2, ee_mt0, ee_mt1, ee_ix, ee_sl, ee_tup, ee_lst, evEs, evZ, evO, evI, evT, evTo, evX, rd_d, fz_d, b_add, b_sub, b_mul, b_div, b_mod, b_p18, b_p8, b_p7, b_p6, c_lt, c_le, c_gt, c_ge, c_eq, c_ne, c_eqs, c_nes, c_nes0, c_nes1, c_eqs0, c_eqs1, l_t, l_l, bi_i, bi_max, bi_min, bi_tl, bi_tt, ix_l, ix_t, m_nil, m_cons, at0, at1, at2, flatD, seqOf, isNonW, nx_nx, nx_rt, nx_bk, nx_ct, nx_xc, next_nx, next_ct, next_bk, next_rt, Option.bind_some, Option.map_some, List.getElem?_cons_zero, List.getElem?_cons_succ, List.set_cons_zero, List.set_cons_succ, List.length_cons, List.length_nil, if_true, asgn, asgns, Nat.zero_add, Nat.reduceAdd, Nat.reduceLT, Nat.reduceLeDiff, reduceIte, reduceCtorEq, Bool.false_eq_true, Int.reduceNeg, sizeLine_val, and_self, true_and, and_true, b_m7, b_m86400, b_m1000000000, b_m60, b_m600, b_d7, b_d86400, b_d1000, b_p10_5, b_p10_9, b_p10_12, b_p10_15, Bool.not_true]
                    cases n with
                    | zero =>
                      simp only [okR_bind, okR_map, okR_some, evS, ee_var, ee_cst, ee_fnv, ee_bin, ee_neg, ee_cmp, ee_chain, ee_isN, ee_notN, ee_and, ee_or, ee_not, ee_ite, ee_call, ee_callv, ee_bi, ee_isi1, ee_isi2, ee_mt0, ee_mt1, ee_ix, ee_sl, ee_tup, ee_lst, evEs, evZ, evO, evI, evT, evTo, evX, rd_d, fz_d, b_add, b_sub, b_mul, b_div, b_mod, b_p18, b_p8, b_p7, b_p6, c_lt, c_le, c_gt, c_ge, c_eq, c_ne, c_eqs, c_nes, c_nes0, c_nes1, c_eqs0, c_eqs1, l_t, l_l, bi_i, bi_max, bi_min, bi_tl, bi_tt, ix_l, ix_t, m_nil, m_cons, at0, at1, at2, flatD, seqOf, isNonW, nx_nx, nx_rt, nx_bk, nx_ct, nx_xc, next_nx, next_ct, next_bk, next_rt, Option.bind_some, Option.map_some, List.getElem?_cons_zero, List.getElem?_cons_succ, List.set_cons_zero, List.set_cons_succ, List.length_cons, List.length_nil, if_true, asgn, asgns, Nat.zero_add, Nat.reduceAdd, Nat.reduceLT, Nat.reduceLeDiff, reduceIte, reduceCtorEq, Bool.false_eq_true, Int.reduceNeg, sizeLine_val, and_self, true_and, and_true, b_m7, b_m86400, b_m1000000000, b_m60, b_m600, b_d7, b_d86400, b_d1000, b_p10_5, b_p10_9, b_p10_12, b_p10_15, Int.cast_ofNat_Int, Int.add_zero, Int.natCast_zero, Int.lt_irrefl, decide_false]
                      refine ss_done ?_
                      simp only [okR_bind, okR_map, okR_some, evS, ee_var, ee_cst, ee_fnv, ee_bin, ee_neg, ee_cmp, ee_chain, ee_isN, ee_notN, ee_and, ee_or, ee_not, ee_ite, ee_call, ee_callv, ee_bi, ee_isi1, ee_isi2, ee_mt0, ee_mt1, ee_ix, ee_sl, ee_tup, ee_lst, evEs, evZ, evO, evI, evT, evTo, evX, rd_d, fz_d, b_add, b_sub, b_mul, b_div, b_mod, b_p18, b_p8, b_p7, b_p6, c_lt, c_le, c_gt, c_ge, c_eq, c_ne, c_eqs, c_nes, c_nes0, c_nes1, c_eqs0, c_eqs1, l_t, l_l, bi_i, bi_max, bi_min, bi_tl, bi_tt, ix_l, ix_t, m_nil, m_cons, at0, at1, at2, flatD, seqOf, isNonW, nx_nx, nx_rt, nx_bk, nx_ct, nx_xc, next_nx, next_ct, next_bk, next_rt, Option.bind_some, Option.map_some, List.getElem?_cons_zero, List.getElem?_cons_succ, List.set_cons_zero, List.set_cons_succ, List.length_cons, List.length_nil, if_true, asgn, asgns, Nat.zero_add, Nat.reduceAdd, Nat.reduceLT, Nat.reduceLeDiff, reduceIte, reduceCtorEq, Bool.false_eq_true, Int.reduceNeg, sizeLine_val, and_self, true_and, and_true, b_m7, b_m86400, b_m1000000000, b_m60, b_m600, b_d7, b_d86400, b_d1000, b_p10_5, b_p10_9, b_p10_12, b_p10_15]
                      refine ss_done ⟨_, rfl, rfl, fun j hj => ?_⟩
                      obtain rfl : j = 0 := by omega
                      exact ⟨by rw [hgn]; exact hA, fun z => by omega⟩
                    | succ n =>
                      have gp := hg n (by omega)
                      have hgp : fs.getD n .non = fs[n] := by rw [List.getD_eq_getElem?_getD, List.getElem?_eq_getElem (by omega)]; rfl
                      have z2 : 0 < (0 + ((n + 1 : Nat) : Int)) := by omega
                      have z3 : (0 + ((n + 1 : Nat) : Int)) - 1 = (n : Int) := by omega
                      have ep : L2.atI fs (n : Int) = some fs[n] := L2.atI_nat (List.getElem?_eq_getElem (by omega))
                      have g1 := gp.1
                      rw [hgp] at g1
                      obtain ⟨i', hi'⟩ := isW_int g1
                      rw [hi'] at ep
                      rw [hi] at ei
                      simp only [okR_bind, okR_map, okR_some, evS, ee_var, ee_cst, ee_fnv, ee_bin, ee_neg, ee_cmp, ee_chain, ee_isN, ee_notN, ee_and, ee_or, ee_not, ee_ite, ee_call, ee_callv, ee_bi, ee_isi1, ee_isi2, ee_mt0, ee_mt1, ee_ix, ee_sl, ee_tup, ee_lst, evEs, evZ, evO, evI, evT, evTo, evX, rd_d, fz_d, b_add, b_sub, b_mul, b_div, b_mod, b_p18, b_p8, b_p7, b_p6, c_lt, c_le, c_gt, c_ge, c_eq, c_ne, c_eqs, c_nes, c_nes0, c_nes1, c_eqs0, c_eqs1, l_t, l_l, bi_i, bi_max, bi_min, bi_tl, bi_tt, ix_l, ix_t, m_nil, m_cons, at0, at1, at2, flatD, seqOf, isNonW, nx_nx, nx_rt, nx_bk, nx_ct, nx_xc, next_nx, next_ct, next_bk, next_rt, Option.bind_some, Option.map_some, List.getElem?_cons_zero, List.getElem?_cons_succ, List.set_cons_zero, List.set_cons_succ, List.length_cons, List.length_nil, if_true, asgn, asgns, Nat.zero_add, Nat.reduceAdd, Nat.reduceLT, Nat.reduceLeDiff, reduceIte, reduceCtorEq, Bool.false_eq_true, Int.reduceNeg, sizeLine_val, and_self, true_and, and_true, b_m7, b_m86400, b_m1000000000, b_m60, b_m600, b_d7, b_d86400, b_d1000, b_p10_5, b_p10_9, b_p10_12, b_p10_15, z2, z3, decide_true, ep, ei, hi]
                      by_cases hlt : i ≤ i'
                      · have ng : ¬ GoodF fs (n + 1) := fun z => by
                          have := z.2 (by omega)
                          rw [hgn, show n + 1 - 1 = n by omega, hgp, hi, hi'] at this
                          simp only [intI] at this
                          omega
                        simp only [okR_bind, okR_map, okR_some, evS, ee_var, ee_cst, ee_fnv, ee_bin, ee_neg, ee_cmp, ee_chain, ee_isN, ee_notN, ee_and, ee_or, ee_not, ee_ite, ee_call, ee_callv, ee_bi, ee_isi1, ee_isi2, ee_mt0, ee_mt1, ee_ix, ee_sl, ee_tup, ee_lst, evEs, evZ, evO, evI, evT, evTo, evX, rd_d, fz_d, b_add, b_sub, b_mul, b_div, b_mod, b_p18, b_p8, b_p7, b_p6, c_lt, c_le, c_gt, c_ge, c_eq, c_ne, c_eqs, c_nes, c_nes0, c_nes1, c_eqs0, c_eqs1, l_t, l_l, bi_i, bi_max, bi_min, bi_tl, bi_tt, ix_l, ix_t, m_nil, m_cons, at0, at1, at2, flatD, seqOf, isNonW, nx_nx, nx_rt, nx_bk, nx_ct, nx_xc, next_nx, next_ct, next_bk, next_rt, Option.bind_some, Option.map_some, List.getElem?_cons_zero, List.getElem?_cons_succ, List.set_cons_zero, List.set_cons_succ, List.length_cons, List.length_nil, if_true, asgn, asgns, Nat.zero_add, Nat.reduceAdd, Nat.reduceLT, Nat.reduceLeDiff, reduceIte, reduceCtorEq, Bool.false_eq_true, Int.reduceNeg, sizeLine_val, and_self, true_and, and_true, b_m7, b_m86400, b_m1000000000, b_m60, b_m600, b_d7, b_d86400, b_d1000, b_p10_5, b_p10_9, b_p10_12, b_p10_15, hlt, decide_true]
                        refine ret_b ?_
                        simp only [okR_bind, okR_map, okR_some, evS, ee_var, ee_cst, ee_fnv, ee_bin, ee_neg, ee_cmp, ee_chain, ee_isN, ee_notN, ee_and, ee_or, ee_not, ee_ite, ee_call, ee_callv, ee_bi, ee_isi1, ee_isi2, ee_mt0, ee_mt1, ee_ix, ee_sl, ee_tup, ee_lst, evEs, evZ, evO, evI, evT, evTo, evX, rd_d, fz_d, b_add, b_sub, b_mul, b_div, b_mod, b_p18, b_p8, b_p7, b_p6, c_lt, c_le, c_gt, c_ge, c_eq, c_ne, c_eqs, c_nes, c_nes0, c_nes1, c_eqs0, c_eqs1, l_t, l_l, bi_i, bi_max, bi_min, bi_tl, bi_tt, ix_l, ix_t, m_nil, m_cons, at0, at1, at2, flatD, seqOf, isNonW, nx_nx, nx_rt, nx_bk, nx_ct, nx_xc, next_nx, next_ct, next_bk, next_rt, Option.bind_some, Option.map_some, List.getElem?_cons_zero, List.getElem?_cons_succ, List.set_cons_zero, List.set_cons_succ, List.length_cons, List.length_nil, if_true, asgn, asgns, Nat.zero_add, Nat.reduceAdd, Nat.reduceLT, Nat.reduceLeDiff, reduceIte, reduceCtorEq, Bool.false_eq_true, Int.reduceNeg, sizeLine_val, and_self, true_and, and_true, b_m7, b_m86400, b_m1000000000, b_m60, b_m600, b_d7, b_d86400, b_d1000, b_p10_5, b_p10_9, b_p10_12, b_p10_15]
                        exact fin_rl rfl (by rw [hwk2, bad ng])
                      · simp only [okR_bind, okR_map, okR_some, evS, ee_var, ee_cst, ee_fnv, ee_bin, ee_neg, ee_cmp, ee_chain, ee_isN, ee_notN, ee_and, ee_or, ee_not, ee_ite, ee_call, ee_callv, ee_bi, ee_isi1, ee_isi2, ee_mt0, ee_mt1, ee_ix, ee_sl, ee_tup, ee_lst, evEs, evZ, evO, evI, evT, evTo, evX, rd_d, fz_d, b_add, b_sub, b_mul, b_div, b_mod, b_p18, b_p8, b_p7, b_p6, c_lt, c_le, c_gt, c_ge, c_eq, c_ne, c_eqs, c_nes, c_nes0, c_nes1, c_eqs0, c_eqs1, l_t, l_l, bi_i, bi_max, bi_min, bi_tl, bi_tt, ix_l, ix_t, m_nil, m_cons, at0, at1, at2, flatD, seqOf, isNonW, nx_nx, nx_rt, nx_bk, nx_ct, nx_xc, next_nx, next_ct, next_bk, next_rt, Option.bind_some, Option.map_some, List.getElem?_cons_zero, List.getElem?_cons_succ, List.set_cons_zero, List.set_cons_succ, List.length_cons, List.length_nil, if_true, asgn, asgns, Nat.zero_add, Nat.reduceAdd, Nat.reduceLT, Nat.reduceLeDiff, reduceIte, reduceCtorEq, Bool.false_eq_true, Int.reduceNeg, sizeLine_val, and_self, true_and, and_true, b_m7, b_m86400, b_m1000000000, b_m60, b_m600, b_d7, b_d86400, b_d1000, b_p10_5, b_p10_9, b_p10_12, b_p10_15, hlt, decide_false]
                        refine ss_done ?_
                        simp only [okR_bind, okR_map, okR_some, evS, ee_var, ee_cst, ee_fnv, ee_bin, ee_neg, ee_cmp, ee_chain, ee_isN, ee_notN, ee_and, ee_or, ee_not, ee_ite, ee_call, ee_callv, ee_bi, ee_isi1, ee_isi2, ee_mt0, ee_mt1, ee_ix, ee_sl, ee_tup, ee_lst, evEs, evZ, evO, evI, evT, evTo, evX, rd_d, fz_d, b_add, b_sub, b_mul, b_div, b_mod, b_p18, b_p8, b_p7, b_p6, c_lt, c_le, c_gt, c_ge, c_eq, c_ne, c_eqs, c_nes, c_nes0, c_nes1, c_eqs0, c_eqs1, l_t, l_l, bi_i, bi_max, bi_min, bi_tl, bi_tt, ix_l, ix_t, m_nil, m_cons, at0, at1, at2, flatD, seqOf, isNonW, nx_nx, nx_rt, nx_bk, nx_ct, nx_xc, next_nx, next_ct, next_bk, next_rt, Option.bind_some, Option.map_some, List.getElem?_cons_zero, List.getElem?_cons_succ, List.set_cons_zero, List.set_cons_succ, List.length_cons, List.length_nil, if_true, asgn, asgns, Nat.zero_add, Nat.reduceAdd, Nat.reduceLT, Nat.reduceLeDiff, reduceIte, reduceCtorEq, Bool.false_eq_true, Int.reduceNeg, sizeLine_val, and_self, true_and, and_true, b_m7, b_m86400, b_m1000000000, b_m60, b_m600, b_d7, b_d86400, b_d1000, b_p10_5, b_p10_9, b_p10_12, b_p10_15]
                        refine ss_done ⟨_, rfl, rfl, fun j hj => ?_⟩
                        rcases Nat.lt_or_ge j (n + 1) with hj | hj
                        · exact hg j hj
                        · obtain rfl : j = n + 1 := by omega
                          exact ⟨by rw [hgn]; exact hA, fun _ => by rw [hgn, show n + 1 - 1 = n by omega, hgp, hi, hi']; simp only [intI]; omega⟩
                · rintro ρ S' ⟨v1, rfl, rfl, hg⟩
                  rw [rangeD_length] at hg
                  have e0 : feastsB (.tup fs) = true := (feastsB_iff hsq).mpr ⟨by omega, fun j hj => hg j (by omega)⟩
                  simp only [nx_nx]
                  refine ss_step ?_; simp only [okR_bind, okR_map, okR_some, evS, ee_var, ee_cst, ee_fnv, ee_bin, ee_neg, ee_cmp, ee_chain, ee_isN, ee_notN, ee_and, ee_or, ee_not, ee_ite, ee_call, ee_callv, ee_bi, ee_isi1, ee_isi2, ee_mt0, ee_mt1, ee_ix, ee_sl, ee_tup, ee_lst, evEs, evZ, evO, evI, evT, evTo, evX, rd_d, fz_d, b_add, b_sub, b_mul, b_div, b_mod, b_p18, b_p8, b_p7, b_p6, c_lt, c_le, c_gt, c_ge, c_eq, c_ne, c_eqs, c_nes, c_nes0, c_nes1, c_eqs0, c_eqs1, l_t, l_l, bi_i, bi_max, bi_min, bi_tl, bi_tt, ix_l, ix_t, m_nil, m_cons, at0, at1, at2, flatD, seqOf, isNonW, nx_nx, nx_rt, nx_bk, nx_ct, nx_xc, next_nx, next_ct, next_bk, next_rt, Option.bind_some, Option.map_some, List.getElem?_cons_zero, List.getElem?_cons_succ, List.set_cons_zero, List.set_cons_succ, List.length_cons, List.length_nil, if_true, asgn, asgns, Nat.zero_add, Nat.reduceAdd, Nat.reduceLT, Nat.reduceLeDiff, reduceIte, reduceCtorEq, Bool.false_eq_true, Int.reduceNeg, sizeLine_val, and_self, true_and, and_true, b_m7, b_m86400, b_m1000000000, b_m60, b_m600, b_d7, b_d86400, b_d1000, b_p10_5, b_p10_9, b_p10_12, b_p10_15]
                  exact fin_rl rfl (by rw [hwk2, e0])
  obtain ⟨p, e, rfl⟩ := key
  exact e
end
end Pv

set_option Elab.async false
set_option linter.all false
set_option maxRecDepth 100000
set_option maxHeartbeats 2000000
/-! A value with one part changed. -/
namespace Pv
open PySem L2
/-- _law_part_changed: 3 parameters, slots row spot value at turn one -/
def B_law_part_changed (i_law_take i_law_pick i_law_part_changed : Nat) : Ss := .cons (.ifs (.and (.val (.isi1 (.var 2) "tuple")) (.and (.val (.cmp .gt (.bi .len (.cons (.var 2) (.nil))) (.cst (.int 0)))) (.val (.cmp .gt (.call i_law_take (.cons (.var 0) (.cons (.var 1) (.cons (.cst (.int 6)) (.nil))))) (.cst (.int 0)))))) (.cons (.asg (.name 3) (.call i_law_take (.cons (.var 0) (.cons (.var 1) (.cons (.bi .len (.cons (.var 2) (.nil))) (.nil)))))) (.cons (.ret (.bin .add (.bin .add (.sl (.var 2) (.none) (.some (.var 3))) (.tup (.cons (.call i_law_part_changed (.cons (.var 0) (.cons (.var 1) (.cons (.ix (.var 2) (.var 3)) (.nil))))) (.nil)))) (.sl (.var 2) (.some (.bin .add (.var 3) (.cst (.int 1)))) (.none)))) (.nil))) (.nil)) (.cons (.asg (.name 4) (.call i_law_take (.cons (.var 0) (.cons (.var 1) (.cons (.cst (.int 6)) (.nil)))))) (.cons (.ifs (.and (.val (.isi1 (.var 2) "tuple")) (.and (.val (.cmp .eq (.var 4) (.cst (.int 0)))) (.val (.cmp .gt (.bi .len (.cons (.var 2) (.nil))) (.cst (.int 0)))))) (.cons (.ret (.bin .add (.var 2) (.sl (.var 2) (.none) (.some (.cst (.int 1)))))) (.nil)) (.nil)) (.cons (.ifs (.and (.val (.isi1 (.var 2) "tuple")) (.and (.val (.cmp .eq (.var 4) (.cst (.int 1)))) (.val (.cmp .gt (.bi .len (.cons (.var 2) (.nil))) (.cst (.int 0)))))) (.cons (.ret (.sl (.var 2) (.some (.cst (.int 1))) (.none))) (.nil)) (.nil)) (.cons (.ifs (.and (.val (.isi1 (.var 2) "tuple")) (.and (.val (.cmp .eq (.var 4) (.cst (.int 3)))) (.val (.cmp .gt (.bi .len (.cons (.var 2) (.nil))) (.cst (.int 0)))))) (.cons (.asg (.name 3) (.call i_law_take (.cons (.var 0) (.cons (.var 1) (.cons (.bi .len (.cons (.var 2) (.nil))) (.nil)))))) (.cons (.asg (.name 5) (.ix (.var 2) (.var 3))) (.cons (.ifs (.and (.val (.isi1 (.var 5) "tuple")) (.and (.val (.cmp .gt (.bi .len (.cons (.var 5) (.nil))) (.cst (.int 1)))) (.val (.isi1 (.ix (.var 5) (.bin .sub (.bi .len (.cons (.var 5) (.nil))) (.cst (.int 1)))) "int")))) (.cons (.ret (.bin .add (.bin .add (.sl (.var 2) (.none) (.some (.bin .add (.var 3) (.cst (.int 1))))) (.tup (.cons (.bin .add (.sl (.var 5) (.none) (.some (.bin .sub (.bi .len (.cons (.var 5) (.nil))) (.cst (.int 1))))) (.tup (.cons (.bin .add (.ix (.var 5) (.bin .sub (.bi .len (.cons (.var 5) (.nil))) (.cst (.int 1)))) (.cst (.int 1))) (.nil)))) (.nil)))) (.sl (.var 2) (.some (.bin .add (.var 3) (.cst (.int 1)))) (.none)))) (.nil)) (.nil)) (.nil)))) (.nil)) (.cons (.ifs (.and (.val (.isi1 (.var 2) "tuple")) (.and (.val (.cmp .eq (.var 4) (.cst (.int 2)))) (.val (.cmp .gt (.bi .len (.cons (.var 2) (.nil))) (.cst (.int 1)))))) (.cons (.ret (.bin .add (.sl (.var 2) (.some (.cst (.int 1))) (.none)) (.sl (.var 2) (.none) (.some (.cst (.int 1)))))) (.nil)) (.nil)) (.cons (.ifs (.and (.val (.isi1 (.var 2) "int")) (.val (.cmp .lt (.var 4) (.cst (.int 4))))) (.cons (.ret (.call i_law_pick (.cons (.var 0) (.cons (.var 1) (.cons (.lst (.cons (.bin .add (.var 2) (.cst (.int 1))) (.cons (.bin .sub (.var 2) (.cst (.int 1))) (.cons (.cst (.int 0)) (.cons (.cst (.int 1)) (.cons (.cst (.int 8)) (.cons (.cst (.int 86400)) (.cons (.cst (.int 1000)) (.cons (.cst (.int 1001)) (.cons (.bin .add (.bin .pow (.cst (.int 10)) (.cst (.int 6))) (.cst (.int 1))) (.cons (.bin .add (.bin .pow (.cst (.int 10)) (.cst (.int 8))) (.cst (.int 1))) (.cons (.cst .non) (.cons (.cst (.bl true)) (.nil)))))))))))))) (.nil)))))) (.nil)) (.nil)) (.cons (.ifs (.and (.val (.isi1 (.var 2) "str")) (.val (.cmp .lt (.var 4) (.cst (.int 4))))) (.cons (.ret (.call i_law_pick (.cons (.var 0) (.cons (.var 1) (.cons (.lst (.cons (.cst (.str "")) (.cons (.cst (.str "a")) (.cons (.cst (.str "A")) (.cons (.cst (.str "toolongword")) (.cons (.cst (.str "1")) (.cons (.cst (.str "12")) (.cons (.cst (.str "123")) (.cons (.cst (.str "12345678")) (.cons (.cst (.str "123456789")) (.cons (.cst (.str "40")) (.cons (.cst (.str "void")) (.cons (.bin .add (.var 2) (.cst (.str "1"))) (.cons (.bin .add (.var 2) (.cst (.str "\n"))) (.cons (.var 2) (.nil)))))))))))))))) (.nil)))))) (.nil)) (.nil)) (.cons (.ret (.call i_law_pick (.cons (.var 0) (.cons (.var 1) (.cons (.lst (.cons (.cst .non) (.cons (.cst (.int 7)) (.cons (.cst (.bl true)) (.cons (.cst (.str "")) (.cons (.tup (.nil)) (.cons (.tup (.cons (.cst (.int 0)) (.nil))) (.cons (.cst (.str "a")) (.cons (.tup (.cons (.cst (.str "a")) (.nil))) (.cons (.tup (.cons (.cst (.int 0)) (.cons (.cst (.str "a")) (.nil)))) (.cons (.cst (.str "40123")) (.nil)))))))))))) (.nil)))))) (.nil)))))))))
section
variable {P : Nat → Option Fn} {k f : Nat} {r : D} {ms : List MO} {i : Int} {y : Lx}
/-- what is changed: numbers, texts, tuples of such -/
def Tw : Nat → D → Bool
  | n + 1, .tup ds => decide (ds.length ≤ 1000) && ds.all (Tw n)
  | _, .int _ => true
  | _, .str w => decide (w.length ≤ 1000)
  | _, _ => false
def Cv (m : Nat) (c : D) : Prop := Tv m c = true ∧ Sl m c = true
theorem tw_cases {m : Nat} {d : D} (h : Tw m d = true) : (∃ i, d = .int i) ∨ (∃ w, d = .str w ∧ w.length ≤ 1000) ∨ ∃ m' ds, m = m' + 1 ∧ d = .tup ds ∧ ds.length ≤ 1000 ∧ ∀ x ∈ ds, Tw m' x = true := by
  cases m <;> cases d <;> simp [Tw] at h <;> simp [h]
  exact h.2
theorem cv_int {m : Nat} {i : Int} : Cv m (.int i) := by cases m <;> exact ⟨rfl, rfl⟩
theorem cv_non {m : Nat} : Cv m .non := by cases m <;> exact ⟨rfl, rfl⟩
theorem cv_bl {m : Nat} {b : Bool} : Cv m (.bl b) := by cases m <;> exact ⟨rfl, rfl⟩
theorem cv_str {m : Nat} {w : Str} (h : w.length ≤ sizeLine) : Cv m (.str w) := by cases m <;> exact ⟨rfl, by simpa [Sl] using h⟩
theorem cv_tup {m : Nat} {ds : List D} (hl : ds.length ≤ sizeLine) (h : ∀ x ∈ ds, Cv m x) : Cv (m + 1) (.tup ds) := ⟨by simp [Tv, hl]; exact fun x hx => (h x hx).1, by simp [Sl]; exact fun x hx => (h x hx).2⟩
theorem cv_up : ∀ {m : Nat} {d : D}, Cv m d → Cv (m + 1) d := by
  intro m
  induction m with
  | zero =>
    intro d h
    rcases tv_cases h.1 with hf | ⟨m', ds, hm, _⟩
    · refine ⟨?_, ?_⟩
      · cases d <;> simp [flatD] at hf <;> rfl
      · have := h.2
        cases d <;> simp [flatD] at hf <;> simpa [Sl] using this
    · cases hm
  | succ m ih =>
    intro d h
    rcases tv_cases h.1 with hf | ⟨m', ds, hm, rfl, hl, ha⟩
    · refine ⟨?_, ?_⟩
      · cases d <;> simp [flatD] at hf <;> rfl
      · have := h.2
        cases d <;> simp [flatD] at hf <;> simpa [Sl] using this
    · cases hm
      exact cv_tup hl fun x hx => ih ⟨ha x hx, sl_mem h.2 x hx⟩
theorem tw_cv : ∀ {m : Nat} {d : D}, Tw m d = true → Cv m d := by
  intro m
  induction m with
  | zero =>
    intro d h
    rcases tw_cases h with ⟨i, rfl⟩ | ⟨w, rfl, hw⟩ | ⟨m', ds, hm, _⟩
    · exact cv_int
    · exact cv_str (by rw [sizeLine_val]; omega)
    · cases hm
  | succ m ih =>
    intro d h
    rcases tw_cases h with ⟨i, rfl⟩ | ⟨w, rfl, hw⟩ | ⟨m', ds, hm, rfl, hl, ha⟩
    · exact cv_int
    · exact cv_str (by rw [sizeLine_val]; omega)
    · cases hm
      exact cv_tup (by rw [sizeLine_val]; omega) fun x hx => ih (ha x hx)
theorem cutD_mem {xs : List D} {lo hi : Option Int} {x : D} (h : x ∈ cutD xs lo hi) : x ∈ xs := List.mem_of_mem_drop (List.mem_of_mem_take h)
theorem cutD_len {xs : List D} {lo hi : Option Int} : (cutD xs lo hi).length ≤ xs.length := by
  unfold cutD
  rw [List.length_take, List.length_drop]
  omega
theorem b_addT {xs ys : List D} (h : xs.length + ys.length ≤ 16777216) : bRun .add (.tup xs) (.tup ys) = some (.tup (xs ++ ys)) := if_pos h
theorem b_addS {x y : Str} (h : x.length + y.length ≤ 16777216) : bRun .add (.str x) (.str y) = some (.str (x ++ y)) := if_pos h
theorem sl_t {xs : List D} {lo hi : Option Int} : slRun (.tup xs) lo hi = some (.tup (cutD xs lo hi)) := rfl
theorem isi_int_i {i : Int} : isi1 (.int i) "int" = some true := by simp [isi1, tyD, kB1]
theorem isi_int_s {w : Str} : isi1 (.str w) "int" = some false := by simp [isi1, tyD, kB11]
theorem isi_int_t {ds : List D} : isi1 (.tup ds) "int" = some false := by simp [isi1, tyD, kB21]
theorem isi_str_i {i : Int} : isi1 (.int i) "str" = some false := by simp [isi1, tyD, kB3]
theorem isi_str_s {w : Str} : isi1 (.str w) "str" = some true := by simp [isi1, tyD, kB13]
theorem isi_str_t {ds : List D} : isi1 (.tup ds) "str" = some false := by simp [isi1, tyD, kB23]
theorem isi_tup_i {i : Int} : isi1 (.int i) "tuple" = some false := by simp [isi1, tyD, kB5]
theorem isi_tup_s {w : Str} : isi1 (.str w) "tuple" = some false := by simp [isi1, tyD, kB15]
theorem at_last {ds : List D} (h : 0 < ds.length) : ∃ x ∈ ds, L2.atI ds ((ds.length : Int) - 1) = some x := atI_ok (by omega) (by omega)
theorem pick_last : ∀ x ∈ ([.non, .int 7, .bl true, .str "", .tup [], .tup [.int 0], .str "a", .tup [.str "a"], .tup [.int 0, .str "a"], .str "40123"] : List D), Cv 1 x := by
  intro x hx
  simp only [List.mem_cons, List.not_mem_nil, or_false] at hx
  rcases hx with rfl | rfl | rfl | rfl | rfl | rfl | rfl | rfl | rfl | rfl <;> refine ⟨?_, ?_⟩ <;> decide +kernel
theorem cv_le {m n : Nat} {d : D} (h : Cv m d) (hl : m ≤ n) : Cv n d := by
  induction hl with
  | refl => exact h
  | step _ ih => exact cv_up ih
theorem str_app (u v : Str) : (u ++ v).length = u.length + v.length := by first | exact Str.length_append u v | simp [Str.length]
theorem LxOk.changedF (L : LxOk P y) (hC : P f = some ⟨3, 6, B_law_part_changed y.take y.pick f⟩) (hr : Row r) {m k : Nat} {d : D} {i : Int} {Q : D × Store → Prop} (hd : (∃ z, d = .int z) ∨ ∃ w, d = .str w ∧ w.length ≤ 1000) (hi : 0 ≤ i) (q : ∀ c (j : Int), Cv (m + 2) c → 0 ≤ j → Q (c, .lst [.int j] :: ms)) :
    OkR (callF P (k + 4) f [.d r, .mu 0, .d d] (.lst [.int i] :: ms)) Q := by
  refine def_ok hC rfl (by show 3 ≤ 6; decide) rfl ?_
  show OkR (evSs (callF P (k + 3)) (B_law_part_changed y.take y.pick f) [some (.d r), some (.mu 0), some (.d d), none, none, none] (.lst [.int i] :: ms)) _
  have nt : isi1 d "tuple" = some false := by
    rcases hd with ⟨z, rfl⟩ | ⟨w, rfl, _⟩
    · exact isi_tup_i
    · exact isi_tup_s
  unfold B_law_part_changed
  refine ss_step (ifs_ok ?_)
  simp only [okR_bind, okR_map, okR_some, evS, ee_var, ee_cst, ee_fnv, ee_bin, ee_neg, ee_cmp, ee_chain, ee_isN, ee_notN, ee_and, ee_or, ee_not, ee_ite, ee_call, ee_callv, ee_bi, ee_isi1, ee_isi2, ee_mt0, ee_mt1, ee_ix, ee_sl, ee_tup, ee_lst, evEs, evZ, evO, evI, evT, evTo, evX, rd_d, fz_d, b_add, b_sub, b_mul, b_div, b_mod, b_p18, b_p8, b_p7, b_p6, c_lt, c_le, c_gt, c_ge, c_eq, c_ne, c_eqs, c_nes, c_nes0, c_nes1, c_eqs0, c_eqs1, l_t, l_l, bi_i, bi_max, bi_min, bi_tl, bi_tt, ix_l, ix_t, m_nil, m_cons, at0, at1, at2, flatD, seqOf, isNonW, nx_nx, nx_rt, nx_bk, nx_ct, nx_xc, next_nx, next_ct, next_bk, next_rt, Option.bind_some, Option.map_some, List.getElem?_cons_zero, List.getElem?_cons_succ, List.set_cons_zero, List.set_cons_succ, List.length_cons, List.length_nil, if_true, asgn, asgns, Nat.zero_add, Nat.reduceAdd, Nat.reduceLT, Nat.reduceLeDiff, reduceIte, reduceCtorEq, Bool.false_eq_true, Int.reduceNeg, sizeLine_val, and_self, true_and, and_true, b_m7, b_m86400, b_m1000000000, b_m60, b_m600, b_d7, b_d86400, b_d1000, b_p10_5, b_p10_9, b_p10_12, b_p10_15, nt]
  refine ss_done ?_
  simp only [nx_nx]
  refine ss_step ?_; simp only [okR_bind, okR_map, okR_some, evS, ee_var, ee_cst, ee_fnv, ee_bin, ee_neg, ee_cmp, ee_chain, ee_isN, ee_notN, ee_and, ee_or, ee_not, ee_ite, ee_call, ee_callv, ee_bi, ee_isi1, ee_isi2, ee_mt0, ee_mt1, ee_ix, ee_sl, ee_tup, ee_lst, evEs, evZ, evO, evI, evT, evTo, evX, rd_d, fz_d, b_add, b_sub, b_mul, b_div, b_mod, b_p18, b_p8, b_p7, b_p6, c_lt, c_le, c_gt, c_ge, c_eq, c_ne, c_eqs, c_nes, c_nes0, c_nes1, c_eqs0, c_eqs1, l_t, l_l, bi_i, bi_max, bi_min, bi_tl, bi_tt, ix_l, ix_t, m_nil, m_cons, at0, at1, at2, flatD, seqOf, isNonW, nx_nx, nx_rt, nx_bk, nx_ct, nx_xc, next_nx, next_ct, next_bk, next_rt, Option.bind_some, Option.map_some, List.getElem?_cons_zero, List.getElem?_cons_succ, List.set_cons_zero, List.set_cons_succ, List.length_cons, List.length_nil, if_true, asgn, asgns, Nat.zero_add, Nat.reduceAdd, Nat.reduceLT, Nat.reduceLeDiff, reduceIte, reduceCtorEq, Bool.false_eq_true, Int.reduceNeg, sizeLine_val, and_self, true_and, and_true, b_m7, b_m86400, b_m1000000000, b_m60, b_m600, b_d7, b_d86400, b_d1000, b_p10_5, b_p10_9, b_p10_12, b_p10_15]
  refine L.take0 (k := k + 1) hr hi (by decide) fun t j t0 t1 hj => ?_
  simp only [okR_bind, okR_map, okR_some, evS, ee_var, ee_cst, ee_fnv, ee_bin, ee_neg, ee_cmp, ee_chain, ee_isN, ee_notN, ee_and, ee_or, ee_not, ee_ite, ee_call, ee_callv, ee_bi, ee_isi1, ee_isi2, ee_mt0, ee_mt1, ee_ix, ee_sl, ee_tup, ee_lst, evEs, evZ, evO, evI, evT, evTo, evX, rd_d, fz_d, b_add, b_sub, b_mul, b_div, b_mod, b_p18, b_p8, b_p7, b_p6, c_lt, c_le, c_gt, c_ge, c_eq, c_ne, c_eqs, c_nes, c_nes0, c_nes1, c_eqs0, c_eqs1, l_t, l_l, bi_i, bi_max, bi_min, bi_tl, bi_tt, ix_l, ix_t, m_nil, m_cons, at0, at1, at2, flatD, seqOf, isNonW, nx_nx, nx_rt, nx_bk, nx_ct, nx_xc, next_nx, next_ct, next_bk, next_rt, Option.bind_some, Option.map_some, List.getElem?_cons_zero, List.getElem?_cons_succ, List.set_cons_zero, List.set_cons_succ, List.length_cons, List.length_nil, if_true, asgn, asgns, Nat.zero_add, Nat.reduceAdd, Nat.reduceLT, Nat.reduceLeDiff, reduceIte, reduceCtorEq, Bool.false_eq_true, Int.reduceNeg, sizeLine_val, and_self, true_and, and_true, b_m7, b_m86400, b_m1000000000, b_m60, b_m600, b_d7, b_d86400, b_d1000, b_p10_5, b_p10_9, b_p10_12, b_p10_15]
  refine ss_step (ifs_ok ?_)
  simp only [okR_bind, okR_map, okR_some, evS, ee_var, ee_cst, ee_fnv, ee_bin, ee_neg, ee_cmp, ee_chain, ee_isN, ee_notN, ee_and, ee_or, ee_not, ee_ite, ee_call, ee_callv, ee_bi, ee_isi1, ee_isi2, ee_mt0, ee_mt1, ee_ix, ee_sl, ee_tup, ee_lst, evEs, evZ, evO, evI, evT, evTo, evX, rd_d, fz_d, b_add, b_sub, b_mul, b_div, b_mod, b_p18, b_p8, b_p7, b_p6, c_lt, c_le, c_gt, c_ge, c_eq, c_ne, c_eqs, c_nes, c_nes0, c_nes1, c_eqs0, c_eqs1, l_t, l_l, bi_i, bi_max, bi_min, bi_tl, bi_tt, ix_l, ix_t, m_nil, m_cons, at0, at1, at2, flatD, seqOf, isNonW, nx_nx, nx_rt, nx_bk, nx_ct, nx_xc, next_nx, next_ct, next_bk, next_rt, Option.bind_some, Option.map_some, List.getElem?_cons_zero, List.getElem?_cons_succ, List.set_cons_zero, List.set_cons_succ, List.length_cons, List.length_nil, if_true, asgn, asgns, Nat.zero_add, Nat.reduceAdd, Nat.reduceLT, Nat.reduceLeDiff, reduceIte, reduceCtorEq, Bool.false_eq_true, Int.reduceNeg, sizeLine_val, and_self, true_and, and_true, b_m7, b_m86400, b_m1000000000, b_m60, b_m600, b_d7, b_d86400, b_d1000, b_p10_5, b_p10_9, b_p10_12, b_p10_15, nt]
  refine ss_done ?_
  simp only [nx_nx]
  refine ss_step (ifs_ok ?_)
  simp only [okR_bind, okR_map, okR_some, evS, ee_var, ee_cst, ee_fnv, ee_bin, ee_neg, ee_cmp, ee_chain, ee_isN, ee_notN, ee_and, ee_or, ee_not, ee_ite, ee_call, ee_callv, ee_bi, ee_isi1, ee_isi2, ee_mt0, ee_mt1, ee_ix, ee_sl, ee_tup, ee_lst, evEs, evZ, evO, evI, evT, evTo, evX, rd_d, fz_d, b_add, b_sub, b_mul, b_div, b_mod, b_p18, b_p8, b_p7, b_p6, c_lt, c_le, c_gt, c_ge, c_eq, c_ne, c_eqs, c_nes, c_nes0, c_nes1, c_eqs0, c_eqs1, l_t, l_l, bi_i, bi_max, bi_min, bi_tl, bi_tt, ix_l, ix_t, m_nil, m_cons, at0, at1, at2, flatD, seqOf, isNonW, nx_nx, nx_rt, nx_bk, nx_ct, nx_xc, next_nx, next_ct, next_bk, next_rt, Option.bind_some, Option.map_some, List.getElem?_cons_zero, List.getElem?_cons_succ, List.set_cons_zero, List.set_cons_succ, List.length_cons, List.length_nil, if_true, asgn, asgns, Nat.zero_add, Nat.reduceAdd, Nat.reduceLT, Nat.reduceLeDiff, reduceIte, reduceCtorEq, Bool.false_eq_true, Int.reduceNeg, sizeLine_val, and_self, true_and, and_true, b_m7, b_m86400, b_m1000000000, b_m60, b_m600, b_d7, b_d86400, b_d1000, b_p10_5, b_p10_9, b_p10_12, b_p10_15, nt]
  refine ss_done ?_
  simp only [nx_nx]
  refine ss_step (ifs_ok ?_)
  simp only [okR_bind, okR_map, okR_some, evS, ee_var, ee_cst, ee_fnv, ee_bin, ee_neg, ee_cmp, ee_chain, ee_isN, ee_notN, ee_and, ee_or, ee_not, ee_ite, ee_call, ee_callv, ee_bi, ee_isi1, ee_isi2, ee_mt0, ee_mt1, ee_ix, ee_sl, ee_tup, ee_lst, evEs, evZ, evO, evI, evT, evTo, evX, rd_d, fz_d, b_add, b_sub, b_mul, b_div, b_mod, b_p18, b_p8, b_p7, b_p6, c_lt, c_le, c_gt, c_ge, c_eq, c_ne, c_eqs, c_nes, c_nes0, c_nes1, c_eqs0, c_eqs1, l_t, l_l, bi_i, bi_max, bi_min, bi_tl, bi_tt, ix_l, ix_t, m_nil, m_cons, at0, at1, at2, flatD, seqOf, isNonW, nx_nx, nx_rt, nx_bk, nx_ct, nx_xc, next_nx, next_ct, next_bk, next_rt, Option.bind_some, Option.map_some, List.getElem?_cons_zero, List.getElem?_cons_succ, List.set_cons_zero, List.set_cons_succ, List.length_cons, List.length_nil, if_true, asgn, asgns, Nat.zero_add, Nat.reduceAdd, Nat.reduceLT, Nat.reduceLeDiff, reduceIte, reduceCtorEq, Bool.false_eq_true, Int.reduceNeg, sizeLine_val, and_self, true_and, and_true, b_m7, b_m86400, b_m1000000000, b_m60, b_m600, b_d7, b_d86400, b_d1000, b_p10_5, b_p10_9, b_p10_12, b_p10_15, nt]
  refine ss_done ?_
  simp only [nx_nx]
  refine ss_step (ifs_ok ?_)
  simp only [okR_bind, okR_map, okR_some, evS, ee_var, ee_cst, ee_fnv, ee_bin, ee_neg, ee_cmp, ee_chain, ee_isN, ee_notN, ee_and, ee_or, ee_not, ee_ite, ee_call, ee_callv, ee_bi, ee_isi1, ee_isi2, ee_mt0, ee_mt1, ee_ix, ee_sl, ee_tup, ee_lst, evEs, evZ, evO, evI, evT, evTo, evX, rd_d, fz_d, b_add, b_sub, b_mul, b_div, b_mod, b_p18, b_p8, b_p7, b_p6, c_lt, c_le, c_gt, c_ge, c_eq, c_ne, c_eqs, c_nes, c_nes0, c_nes1, c_eqs0, c_eqs1, l_t, l_l, bi_i, bi_max, bi_min, bi_tl, bi_tt, ix_l, ix_t, m_nil, m_cons, at0, at1, at2, flatD, seqOf, isNonW, nx_nx, nx_rt, nx_bk, nx_ct, nx_xc, next_nx, next_ct, next_bk, next_rt, Option.bind_some, Option.map_some, List.getElem?_cons_zero, List.getElem?_cons_succ, List.set_cons_zero, List.set_cons_succ, List.length_cons, List.length_nil, if_true, asgn, asgns, Nat.zero_add, Nat.reduceAdd, Nat.reduceLT, Nat.reduceLeDiff, reduceIte, reduceCtorEq, Bool.false_eq_true, Int.reduceNeg, sizeLine_val, and_self, true_and, and_true, b_m7, b_m86400, b_m1000000000, b_m60, b_m600, b_d7, b_d86400, b_d1000, b_p10_5, b_p10_9, b_p10_12, b_p10_15, nt]
  refine ss_done ?_
  simp only [nx_nx]
  have last : ∀ {j : Int}, 0 ≤ j → OkR (evSs (callF P (k + 3)) (.cons (.ret (.call y.pick (.cons (.var 0) (.cons (.var 1) (.cons (.lst (.cons (.cst .non) (.cons (.cst (.int 7)) (.cons (.cst (.bl true)) (.cons (.cst (.str "")) (.cons (.tup .nil) (.cons (.tup (.cons (.cst (.int 0)) .nil)) (.cons (.cst (.str "a")) (.cons (.tup (.cons (.cst (.str "a")) .nil)) (.cons (.tup (.cons (.cst (.int 0)) (.cons (.cst (.str "a")) .nil))) (.cons (.cst (.str "40123")) .nil))))))))))) .nil))))) .nil) [some (.d r), some (.mu 0), some (.d d), none, some (.d (.int t)), none] (.lst [.int j] :: ms)) fun o => OkR (fin (.lst [.int i] :: ms : Store).length o) Q := by
    intro j hj
    refine ss_step ?_; simp only [okR_bind, okR_map, okR_some, evS, ee_var, ee_cst, ee_fnv, ee_bin, ee_neg, ee_cmp, ee_chain, ee_isN, ee_notN, ee_and, ee_or, ee_not, ee_ite, ee_call, ee_callv, ee_bi, ee_isi1, ee_isi2, ee_mt0, ee_mt1, ee_ix, ee_sl, ee_tup, ee_lst, evEs, evZ, evO, evI, evT, evTo, evX, rd_d, fz_d, b_add, b_sub, b_mul, b_div, b_mod, b_p18, b_p8, b_p7, b_p6, c_lt, c_le, c_gt, c_ge, c_eq, c_ne, c_eqs, c_nes, c_nes0, c_nes1, c_eqs0, c_eqs1, l_t, l_l, bi_i, bi_max, bi_min, bi_tl, bi_tt, ix_l, ix_t, m_nil, m_cons, at0, at1, at2, flatD, seqOf, isNonW, nx_nx, nx_rt, nx_bk, nx_ct, nx_xc, next_nx, next_ct, next_bk, next_rt, Option.bind_some, Option.map_some, List.getElem?_cons_zero, List.getElem?_cons_succ, List.set_cons_zero, List.set_cons_succ, List.length_cons, List.length_nil, if_true, asgn, asgns, Nat.zero_add, Nat.reduceAdd, Nat.reduceLT, Nat.reduceLeDiff, reduceIte, reduceCtorEq, Bool.false_eq_true, Int.reduceNeg, sizeLine_val, and_self, true_and, and_true, b_m7, b_m86400, b_m1000000000, b_m60, b_m600, b_d7, b_d86400, b_d1000, b_p10_5, b_p10_9, b_p10_12, b_p10_15]
    refine L.pickL (k := k) hr hj ?_ fun b j2 hb hj2 => ?_
    · exact fun z => nomatch z
    simp only [okR_bind, okR_map, okR_some, evS, ee_var, ee_cst, ee_fnv, ee_bin, ee_neg, ee_cmp, ee_chain, ee_isN, ee_notN, ee_and, ee_or, ee_not, ee_ite, ee_call, ee_callv, ee_bi, ee_isi1, ee_isi2, ee_mt0, ee_mt1, ee_ix, ee_sl, ee_tup, ee_lst, evEs, evZ, evO, evI, evT, evTo, evX, rd_d, fz_d, b_add, b_sub, b_mul, b_div, b_mod, b_p18, b_p8, b_p7, b_p6, c_lt, c_le, c_gt, c_ge, c_eq, c_ne, c_eqs, c_nes, c_nes0, c_nes1, c_eqs0, c_eqs1, l_t, l_l, bi_i, bi_max, bi_min, bi_tl, bi_tt, ix_l, ix_t, m_nil, m_cons, at0, at1, at2, flatD, seqOf, isNonW, nx_nx, nx_rt, nx_bk, nx_ct, nx_xc, next_nx, next_ct, next_bk, next_rt, Option.bind_some, Option.map_some, List.getElem?_cons_zero, List.getElem?_cons_succ, List.set_cons_zero, List.set_cons_succ, List.length_cons, List.length_nil, if_true, asgn, asgns, Nat.zero_add, Nat.reduceAdd, Nat.reduceLT, Nat.reduceLeDiff, reduceIte, reduceCtorEq, Bool.false_eq_true, Int.reduceNeg, sizeLine_val, and_self, true_and, and_true, b_m7, b_m86400, b_m1000000000, b_m60, b_m600, b_d7, b_d86400, b_d1000, b_p10_5, b_p10_9, b_p10_12, b_p10_15]
    exact fin_rl rfl (q b j2 (cv_le (pick_last b hb) (by omega)) hj2)
  rcases hd with ⟨z, rfl⟩ | ⟨w, rfl, hw⟩
  · refine ss_step (ifs_ok ?_)
    simp only [okR_bind, okR_map, okR_some, evS, ee_var, ee_cst, ee_fnv, ee_bin, ee_neg, ee_cmp, ee_chain, ee_isN, ee_notN, ee_and, ee_or, ee_not, ee_ite, ee_call, ee_callv, ee_bi, ee_isi1, ee_isi2, ee_mt0, ee_mt1, ee_ix, ee_sl, ee_tup, ee_lst, evEs, evZ, evO, evI, evT, evTo, evX, rd_d, fz_d, b_add, b_sub, b_mul, b_div, b_mod, b_p18, b_p8, b_p7, b_p6, c_lt, c_le, c_gt, c_ge, c_eq, c_ne, c_eqs, c_nes, c_nes0, c_nes1, c_eqs0, c_eqs1, l_t, l_l, bi_i, bi_max, bi_min, bi_tl, bi_tt, ix_l, ix_t, m_nil, m_cons, at0, at1, at2, flatD, seqOf, isNonW, nx_nx, nx_rt, nx_bk, nx_ct, nx_xc, next_nx, next_ct, next_bk, next_rt, Option.bind_some, Option.map_some, List.getElem?_cons_zero, List.getElem?_cons_succ, List.set_cons_zero, List.set_cons_succ, List.length_cons, List.length_nil, if_true, asgn, asgns, Nat.zero_add, Nat.reduceAdd, Nat.reduceLT, Nat.reduceLeDiff, reduceIte, reduceCtorEq, Bool.false_eq_true, Int.reduceNeg, sizeLine_val, and_self, true_and, and_true, b_m7, b_m86400, b_m1000000000, b_m60, b_m600, b_d7, b_d86400, b_d1000, b_p10_5, b_p10_9, b_p10_12, b_p10_15, isi_int_i]
    by_cases ht : t < 4
    · simp only [okR_bind, okR_map, okR_some, evS, ee_var, ee_cst, ee_fnv, ee_bin, ee_neg, ee_cmp, ee_chain, ee_isN, ee_notN, ee_and, ee_or, ee_not, ee_ite, ee_call, ee_callv, ee_bi, ee_isi1, ee_isi2, ee_mt0, ee_mt1, ee_ix, ee_sl, ee_tup, ee_lst, evEs, evZ, evO, evI, evT, evTo, evX, rd_d, fz_d, b_add, b_sub, b_mul, b_div, b_mod, b_p18, b_p8, b_p7, b_p6, c_lt, c_le, c_gt, c_ge, c_eq, c_ne, c_eqs, c_nes, c_nes0, c_nes1, c_eqs0, c_eqs1, l_t, l_l, bi_i, bi_max, bi_min, bi_tl, bi_tt, ix_l, ix_t, m_nil, m_cons, at0, at1, at2, flatD, seqOf, isNonW, nx_nx, nx_rt, nx_bk, nx_ct, nx_xc, next_nx, next_ct, next_bk, next_rt, Option.bind_some, Option.map_some, List.getElem?_cons_zero, List.getElem?_cons_succ, List.set_cons_zero, List.set_cons_succ, List.length_cons, List.length_nil, if_true, asgn, asgns, Nat.zero_add, Nat.reduceAdd, Nat.reduceLT, Nat.reduceLeDiff, reduceIte, reduceCtorEq, Bool.false_eq_true, Int.reduceNeg, sizeLine_val, and_self, true_and, and_true, b_m7, b_m86400, b_m1000000000, b_m60, b_m600, b_d7, b_d86400, b_d1000, b_p10_5, b_p10_9, b_p10_12, b_p10_15, ht, decide_true]
      refine ss_step ?_; simp only [okR_bind, okR_map, okR_some, evS, ee_var, ee_cst, ee_fnv, ee_bin, ee_neg, ee_cmp, ee_chain, ee_isN, ee_notN, ee_and, ee_or, ee_not, ee_ite, ee_call, ee_callv, ee_bi, ee_isi1, ee_isi2, ee_mt0, ee_mt1, ee_ix, ee_sl, ee_tup, ee_lst, evEs, evZ, evO, evI, evT, evTo, evX, rd_d, fz_d, b_add, b_sub, b_mul, b_div, b_mod, b_p18, b_p8, b_p7, b_p6, c_lt, c_le, c_gt, c_ge, c_eq, c_ne, c_eqs, c_nes, c_nes0, c_nes1, c_eqs0, c_eqs1, l_t, l_l, bi_i, bi_max, bi_min, bi_tl, bi_tt, ix_l, ix_t, m_nil, m_cons, at0, at1, at2, flatD, seqOf, isNonW, nx_nx, nx_rt, nx_bk, nx_ct, nx_xc, next_nx, next_ct, next_bk, next_rt, Option.bind_some, Option.map_some, List.getElem?_cons_zero, List.getElem?_cons_succ, List.set_cons_zero, List.set_cons_succ, List.length_cons, List.length_nil, if_true, asgn, asgns, Nat.zero_add, Nat.reduceAdd, Nat.reduceLT, Nat.reduceLeDiff, reduceIte, reduceCtorEq, Bool.false_eq_true, Int.reduceNeg, sizeLine_val, and_self, true_and, and_true, b_m7, b_m86400, b_m1000000000, b_m60, b_m600, b_d7, b_d86400, b_d1000, b_p10_5, b_p10_9, b_p10_12, b_p10_15]
      refine L.pickL (k := k) hr hj ?_ fun b j2 hb hj2 => ?_
      · exact fun z => nomatch z
      simp only [okR_bind, okR_map, okR_some, evS, ee_var, ee_cst, ee_fnv, ee_bin, ee_neg, ee_cmp, ee_chain, ee_isN, ee_notN, ee_and, ee_or, ee_not, ee_ite, ee_call, ee_callv, ee_bi, ee_isi1, ee_isi2, ee_mt0, ee_mt1, ee_ix, ee_sl, ee_tup, ee_lst, evEs, evZ, evO, evI, evT, evTo, evX, rd_d, fz_d, b_add, b_sub, b_mul, b_div, b_mod, b_p18, b_p8, b_p7, b_p6, c_lt, c_le, c_gt, c_ge, c_eq, c_ne, c_eqs, c_nes, c_nes0, c_nes1, c_eqs0, c_eqs1, l_t, l_l, bi_i, bi_max, bi_min, bi_tl, bi_tt, ix_l, ix_t, m_nil, m_cons, at0, at1, at2, flatD, seqOf, isNonW, nx_nx, nx_rt, nx_bk, nx_ct, nx_xc, next_nx, next_ct, next_bk, next_rt, Option.bind_some, Option.map_some, List.getElem?_cons_zero, List.getElem?_cons_succ, List.set_cons_zero, List.set_cons_succ, List.length_cons, List.length_nil, if_true, asgn, asgns, Nat.zero_add, Nat.reduceAdd, Nat.reduceLT, Nat.reduceLeDiff, reduceIte, reduceCtorEq, Bool.false_eq_true, Int.reduceNeg, sizeLine_val, and_self, true_and, and_true, b_m7, b_m86400, b_m1000000000, b_m60, b_m600, b_d7, b_d86400, b_d1000, b_p10_5, b_p10_9, b_p10_12, b_p10_15]
      refine fin_rl rfl (q b j2 ?_ hj2)
      simp only [List.mem_cons, List.not_mem_nil, or_false] at hb
      rcases hb with rfl | rfl | rfl | rfl | rfl | rfl | rfl | rfl | rfl | rfl | rfl | rfl <;> first | exact cv_int | exact cv_non | exact cv_bl
    · simp only [okR_bind, okR_map, okR_some, evS, ee_var, ee_cst, ee_fnv, ee_bin, ee_neg, ee_cmp, ee_chain, ee_isN, ee_notN, ee_and, ee_or, ee_not, ee_ite, ee_call, ee_callv, ee_bi, ee_isi1, ee_isi2, ee_mt0, ee_mt1, ee_ix, ee_sl, ee_tup, ee_lst, evEs, evZ, evO, evI, evT, evTo, evX, rd_d, fz_d, b_add, b_sub, b_mul, b_div, b_mod, b_p18, b_p8, b_p7, b_p6, c_lt, c_le, c_gt, c_ge, c_eq, c_ne, c_eqs, c_nes, c_nes0, c_nes1, c_eqs0, c_eqs1, l_t, l_l, bi_i, bi_max, bi_min, bi_tl, bi_tt, ix_l, ix_t, m_nil, m_cons, at0, at1, at2, flatD, seqOf, isNonW, nx_nx, nx_rt, nx_bk, nx_ct, nx_xc, next_nx, next_ct, next_bk, next_rt, Option.bind_some, Option.map_some, List.getElem?_cons_zero, List.getElem?_cons_succ, List.set_cons_zero, List.set_cons_succ, List.length_cons, List.length_nil, if_true, asgn, asgns, Nat.zero_add, Nat.reduceAdd, Nat.reduceLT, Nat.reduceLeDiff, reduceIte, reduceCtorEq, Bool.false_eq_true, Int.reduceNeg, sizeLine_val, and_self, true_and, and_true, b_m7, b_m86400, b_m1000000000, b_m60, b_m600, b_d7, b_d86400, b_d1000, b_p10_5, b_p10_9, b_p10_12, b_p10_15, ht, decide_false]
      refine ss_done ?_
      simp only [nx_nx]
      refine ss_step (ifs_ok ?_)
      simp only [okR_bind, okR_map, okR_some, evS, ee_var, ee_cst, ee_fnv, ee_bin, ee_neg, ee_cmp, ee_chain, ee_isN, ee_notN, ee_and, ee_or, ee_not, ee_ite, ee_call, ee_callv, ee_bi, ee_isi1, ee_isi2, ee_mt0, ee_mt1, ee_ix, ee_sl, ee_tup, ee_lst, evEs, evZ, evO, evI, evT, evTo, evX, rd_d, fz_d, b_add, b_sub, b_mul, b_div, b_mod, b_p18, b_p8, b_p7, b_p6, c_lt, c_le, c_gt, c_ge, c_eq, c_ne, c_eqs, c_nes, c_nes0, c_nes1, c_eqs0, c_eqs1, l_t, l_l, bi_i, bi_max, bi_min, bi_tl, bi_tt, ix_l, ix_t, m_nil, m_cons, at0, at1, at2, flatD, seqOf, isNonW, nx_nx, nx_rt, nx_bk, nx_ct, nx_xc, next_nx, next_ct, next_bk, next_rt, Option.bind_some, Option.map_some, List.getElem?_cons_zero, List.getElem?_cons_succ, List.set_cons_zero, List.set_cons_succ, List.length_cons, List.length_nil, if_true, asgn, asgns, Nat.zero_add, Nat.reduceAdd, Nat.reduceLT, Nat.reduceLeDiff, reduceIte, reduceCtorEq, Bool.false_eq_true, Int.reduceNeg, sizeLine_val, and_self, true_and, and_true, b_m7, b_m86400, b_m1000000000, b_m60, b_m600, b_d7, b_d86400, b_d1000, b_p10_5, b_p10_9, b_p10_12, b_p10_15, isi_str_i]
      refine ss_done ?_
      simp only [nx_nx]
      exact last hj
  · refine ss_step (ifs_ok ?_)
    simp only [okR_bind, okR_map, okR_some, evS, ee_var, ee_cst, ee_fnv, ee_bin, ee_neg, ee_cmp, ee_chain, ee_isN, ee_notN, ee_and, ee_or, ee_not, ee_ite, ee_call, ee_callv, ee_bi, ee_isi1, ee_isi2, ee_mt0, ee_mt1, ee_ix, ee_sl, ee_tup, ee_lst, evEs, evZ, evO, evI, evT, evTo, evX, rd_d, fz_d, b_add, b_sub, b_mul, b_div, b_mod, b_p18, b_p8, b_p7, b_p6, c_lt, c_le, c_gt, c_ge, c_eq, c_ne, c_eqs, c_nes, c_nes0, c_nes1, c_eqs0, c_eqs1, l_t, l_l, bi_i, bi_max, bi_min, bi_tl, bi_tt, ix_l, ix_t, m_nil, m_cons, at0, at1, at2, flatD, seqOf, isNonW, nx_nx, nx_rt, nx_bk, nx_ct, nx_xc, next_nx, next_ct, next_bk, next_rt, Option.bind_some, Option.map_some, List.getElem?_cons_zero, List.getElem?_cons_succ, List.set_cons_zero, List.set_cons_succ, List.length_cons, List.length_nil, if_true, asgn, asgns, Nat.zero_add, Nat.reduceAdd, Nat.reduceLT, Nat.reduceLeDiff, reduceIte, reduceCtorEq, Bool.false_eq_true, Int.reduceNeg, sizeLine_val, and_self, true_and, and_true, b_m7, b_m86400, b_m1000000000, b_m60, b_m600, b_d7, b_d86400, b_d1000, b_p10_5, b_p10_9, b_p10_12, b_p10_15, isi_int_s]
    refine ss_done ?_
    simp only [nx_nx]
    refine ss_step (ifs_ok ?_)
    simp only [okR_bind, okR_map, okR_some, evS, ee_var, ee_cst, ee_fnv, ee_bin, ee_neg, ee_cmp, ee_chain, ee_isN, ee_notN, ee_and, ee_or, ee_not, ee_ite, ee_call, ee_callv, ee_bi, ee_isi1, ee_isi2, ee_mt0, ee_mt1, ee_ix, ee_sl, ee_tup, ee_lst, evEs, evZ, evO, evI, evT, evTo, evX, rd_d, fz_d, b_add, b_sub, b_mul, b_div, b_mod, b_p18, b_p8, b_p7, b_p6, c_lt, c_le, c_gt, c_ge, c_eq, c_ne, c_eqs, c_nes, c_nes0, c_nes1, c_eqs0, c_eqs1, l_t, l_l, bi_i, bi_max, bi_min, bi_tl, bi_tt, ix_l, ix_t, m_nil, m_cons, at0, at1, at2, flatD, seqOf, isNonW, nx_nx, nx_rt, nx_bk, nx_ct, nx_xc, next_nx, next_ct, next_bk, next_rt, Option.bind_some, Option.map_some, List.getElem?_cons_zero, List.getElem?_cons_succ, List.set_cons_zero, List.set_cons_succ, List.length_cons, List.length_nil, if_true, asgn, asgns, Nat.zero_add, Nat.reduceAdd, Nat.reduceLT, Nat.reduceLeDiff, reduceIte, reduceCtorEq, Bool.false_eq_true, Int.reduceNeg, sizeLine_val, and_self, true_and, and_true, b_m7, b_m86400, b_m1000000000, b_m60, b_m600, b_d7, b_d86400, b_d1000, b_p10_5, b_p10_9, b_p10_12, b_p10_15, isi_str_s]
    by_cases ht : t < 4
    · have l1 : ("1" : Str).length = 1 := by decide +kernel
      have l2 : ("\n" : Str).length = 1 := by decide +kernel
      have a1 : bRun .add (.str w) (.str "1") = some (.str (w ++ "1")) := b_addS (by rw [l1]; omega)
      have a2 : bRun .add (.str w) (.str "\n") = some (.str (w ++ "\n")) := b_addS (by rw [l2]; omega)
      simp only [okR_bind, okR_map, okR_some, evS, ee_var, ee_cst, ee_fnv, ee_bin, ee_neg, ee_cmp, ee_chain, ee_isN, ee_notN, ee_and, ee_or, ee_not, ee_ite, ee_call, ee_callv, ee_bi, ee_isi1, ee_isi2, ee_mt0, ee_mt1, ee_ix, ee_sl, ee_tup, ee_lst, evEs, evZ, evO, evI, evT, evTo, evX, rd_d, fz_d, b_add, b_sub, b_mul, b_div, b_mod, b_p18, b_p8, b_p7, b_p6, c_lt, c_le, c_gt, c_ge, c_eq, c_ne, c_eqs, c_nes, c_nes0, c_nes1, c_eqs0, c_eqs1, l_t, l_l, bi_i, bi_max, bi_min, bi_tl, bi_tt, ix_l, ix_t, m_nil, m_cons, at0, at1, at2, flatD, seqOf, isNonW, nx_nx, nx_rt, nx_bk, nx_ct, nx_xc, next_nx, next_ct, next_bk, next_rt, Option.bind_some, Option.map_some, List.getElem?_cons_zero, List.getElem?_cons_succ, List.set_cons_zero, List.set_cons_succ, List.length_cons, List.length_nil, if_true, asgn, asgns, Nat.zero_add, Nat.reduceAdd, Nat.reduceLT, Nat.reduceLeDiff, reduceIte, reduceCtorEq, Bool.false_eq_true, Int.reduceNeg, sizeLine_val, and_self, true_and, and_true, b_m7, b_m86400, b_m1000000000, b_m60, b_m600, b_d7, b_d86400, b_d1000, b_p10_5, b_p10_9, b_p10_12, b_p10_15, ht, decide_true]
      refine ss_step ?_; simp only [okR_bind, okR_map, okR_some, evS, ee_var, ee_cst, ee_fnv, ee_bin, ee_neg, ee_cmp, ee_chain, ee_isN, ee_notN, ee_and, ee_or, ee_not, ee_ite, ee_call, ee_callv, ee_bi, ee_isi1, ee_isi2, ee_mt0, ee_mt1, ee_ix, ee_sl, ee_tup, ee_lst, evEs, evZ, evO, evI, evT, evTo, evX, rd_d, fz_d, b_add, b_sub, b_mul, b_div, b_mod, b_p18, b_p8, b_p7, b_p6, c_lt, c_le, c_gt, c_ge, c_eq, c_ne, c_eqs, c_nes, c_nes0, c_nes1, c_eqs0, c_eqs1, l_t, l_l, bi_i, bi_max, bi_min, bi_tl, bi_tt, ix_l, ix_t, m_nil, m_cons, at0, at1, at2, flatD, seqOf, isNonW, nx_nx, nx_rt, nx_bk, nx_ct, nx_xc, next_nx, next_ct, next_bk, next_rt, Option.bind_some, Option.map_some, List.getElem?_cons_zero, List.getElem?_cons_succ, List.set_cons_zero, List.set_cons_succ, List.length_cons, List.length_nil, if_true, asgn, asgns, Nat.zero_add, Nat.reduceAdd, Nat.reduceLT, Nat.reduceLeDiff, reduceIte, reduceCtorEq, Bool.false_eq_true, Int.reduceNeg, sizeLine_val, and_self, true_and, and_true, b_m7, b_m86400, b_m1000000000, b_m60, b_m600, b_d7, b_d86400, b_d1000, b_p10_5, b_p10_9, b_p10_12, b_p10_15]
      simp only [okR_bind, okR_map, okR_some, evS, ee_var, ee_cst, ee_fnv, ee_bin, ee_neg, ee_cmp, ee_chain, ee_isN, ee_notN, ee_and, ee_or, ee_not, ee_ite, ee_call, ee_callv, ee_bi, ee_isi1, ee_isi2, ee_mt0, ee_mt1, ee_ix, ee_sl, ee_tup, ee_lst, evEs, evZ, evO, evI, evT, evTo, evX, rd_d, fz_d, b_add, b_sub, b_mul, b_div, b_mod, b_p18, b_p8, b_p7, b_p6, c_lt, c_le, c_gt, c_ge, c_eq, c_ne, c_eqs, c_nes, c_nes0, c_nes1, c_eqs0, c_eqs1, l_t, l_l, bi_i, bi_max, bi_min, bi_tl, bi_tt, ix_l, ix_t, m_nil, m_cons, at0, at1, at2, flatD, seqOf, isNonW, nx_nx, nx_rt, nx_bk, nx_ct, nx_xc, next_nx, next_ct, next_bk, next_rt, Option.bind_some, Option.map_some, List.getElem?_cons_zero, List.getElem?_cons_succ, List.set_cons_zero, List.set_cons_succ, List.length_cons, List.length_nil, if_true, asgn, asgns, Nat.zero_add, Nat.reduceAdd, Nat.reduceLT, Nat.reduceLeDiff, reduceIte, reduceCtorEq, Bool.false_eq_true, Int.reduceNeg, sizeLine_val, and_self, true_and, and_true, b_m7, b_m86400, b_m1000000000, b_m60, b_m600, b_d7, b_d86400, b_d1000, b_p10_5, b_p10_9, b_p10_12, b_p10_15, a1, a2]
      refine L.pickL (k := k) hr hj ?_ fun b j2 hb hj2 => ?_
      · exact fun z => nomatch z
      simp only [okR_bind, okR_map, okR_some, evS, ee_var, ee_cst, ee_fnv, ee_bin, ee_neg, ee_cmp, ee_chain, ee_isN, ee_notN, ee_and, ee_or, ee_not, ee_ite, ee_call, ee_callv, ee_bi, ee_isi1, ee_isi2, ee_mt0, ee_mt1, ee_ix, ee_sl, ee_tup, ee_lst, evEs, evZ, evO, evI, evT, evTo, evX, rd_d, fz_d, b_add, b_sub, b_mul, b_div, b_mod, b_p18, b_p8, b_p7, b_p6, c_lt, c_le, c_gt, c_ge, c_eq, c_ne, c_eqs, c_nes, c_nes0, c_nes1, c_eqs0, c_eqs1, l_t, l_l, bi_i, bi_max, bi_min, bi_tl, bi_tt, ix_l, ix_t, m_nil, m_cons, at0, at1, at2, flatD, seqOf, isNonW, nx_nx, nx_rt, nx_bk, nx_ct, nx_xc, next_nx, next_ct, next_bk, next_rt, Option.bind_some, Option.map_some, List.getElem?_cons_zero, List.getElem?_cons_succ, List.set_cons_zero, List.set_cons_succ, List.length_cons, List.length_nil, if_true, asgn, asgns, Nat.zero_add, Nat.reduceAdd, Nat.reduceLT, Nat.reduceLeDiff, reduceIte, reduceCtorEq, Bool.false_eq_true, Int.reduceNeg, sizeLine_val, and_self, true_and, and_true, b_m7, b_m86400, b_m1000000000, b_m60, b_m600, b_d7, b_d86400, b_d1000, b_p10_5, b_p10_9, b_p10_12, b_p10_15]
      refine fin_rl rfl (q b j2 ?_ hj2)
      simp only [List.mem_cons, List.not_mem_nil, or_false] at hb
      rcases hb with rfl | rfl | rfl | rfl | rfl | rfl | rfl | rfl | rfl | rfl | rfl | rfl | rfl | rfl <;> refine cv_str ?_ <;> first | (rw [str_app, sizeLine_val]; first | (rw [l1]; omega) | (rw [l2]; omega)) | (rw [sizeLine_val]; omega) | decide +kernel
    · simp only [okR_bind, okR_map, okR_some, evS, ee_var, ee_cst, ee_fnv, ee_bin, ee_neg, ee_cmp, ee_chain, ee_isN, ee_notN, ee_and, ee_or, ee_not, ee_ite, ee_call, ee_callv, ee_bi, ee_isi1, ee_isi2, ee_mt0, ee_mt1, ee_ix, ee_sl, ee_tup, ee_lst, evEs, evZ, evO, evI, evT, evTo, evX, rd_d, fz_d, b_add, b_sub, b_mul, b_div, b_mod, b_p18, b_p8, b_p7, b_p6, c_lt, c_le, c_gt, c_ge, c_eq, c_ne, c_eqs, c_nes, c_nes0, c_nes1, c_eqs0, c_eqs1, l_t, l_l, bi_i, bi_max, bi_min, bi_tl, bi_tt, ix_l, ix_t, m_nil, m_cons, at0, at1, at2, flatD, seqOf, isNonW, nx_nx, nx_rt, nx_bk, nx_ct, nx_xc, next_nx, next_ct, next_bk, next_rt, Option.bind_some, Option.map_some, List.getElem?_cons_zero, List.getElem?_cons_succ, List.set_cons_zero, List.set_cons_succ, List.length_cons, List.length_nil, if_true, asgn, asgns, Nat.zero_add, Nat.reduceAdd, Nat.reduceLT, Nat.reduceLeDiff, reduceIte, reduceCtorEq, Bool.false_eq_true, Int.reduceNeg, sizeLine_val, and_self, true_and, and_true, b_m7, b_m86400, b_m1000000000, b_m60, b_m600, b_d7, b_d86400, b_d1000, b_p10_5, b_p10_9, b_p10_12, b_p10_15, ht, decide_false]
      refine ss_done ?_
      simp only [nx_nx]
      exact last hj
theorem cv_app {m : Nat} {xs ys : List D} (h1 : ∀ x ∈ xs, Cv m x) (h2 : ∀ x ∈ ys, Cv m x) : ∀ x ∈ xs ++ ys, Cv m x := fun x hx => (List.mem_append.mp hx).elim (h1 x) (h2 x)
theorem LxOk.changed0 (L : LxOk P y) (hC : P f = some ⟨3, 6, B_law_part_changed y.take y.pick f⟩) (hr : Row r) : ∀ (m : Nat) {k : Nat} {d : D} {i : Int} {Q : D × Store → Prop}, Tw m d = true → 0 ≤ i → (∀ c (j : Int), Cv (m + 2) c → 0 ≤ j → Q (c, .lst [.int j] :: ms)) →
    OkR (callF P (k + m + 4) f [.d r, .mu 0, .d d] (.lst [.int i] :: ms)) Q := by
  intro m
  induction m with
  | zero =>
    intro k d i Q hd hi q
    rcases tw_cases hd with h | h | ⟨_, _, hm, _⟩
    · exact L.changedF (k := k) hC hr (m := 0) (.inl h) hi q
    · exact L.changedF (k := k) hC hr (m := 0) (.inr h) hi q
    · cases hm
  | succ m ih =>
    intro k d i Q hd hi q
    rcases tw_cases hd with h | h | ⟨m', ds, hm, rfl, hl, ha⟩
    · exact L.changedF (k := k + m + 1) hC hr (m := m + 1) (.inl h) hi q
    · exact L.changedF (k := k + m + 1) hC hr (m := m + 1) (.inr h) hi q
    · cases hm
      have hcv : ∀ x ∈ ds, Cv (m + 2) x := fun x hx => cv_le (tw_cv (ha x hx)) (by omega)
      have cl : ∀ lo hi, (cutD ds lo hi).length ≤ 1000 := fun lo hi => Nat.le_trans cutD_len hl
      have ccv : ∀ lo hi, ∀ x ∈ cutD ds lo hi, Cv (m + 2) x := fun lo hi x hx => hcv x (cutD_mem hx)
      refine def_ok hC rfl (by show 3 ≤ 6; decide) rfl ?_
      show OkR (evSs (callF P (k + m + 4)) (B_law_part_changed y.take y.pick f) [some (.d r), some (.mu 0), some (.d (.tup ds)), none, none, none] (.lst [.int i] :: ms)) _
      unfold B_law_part_changed
      refine ss_step (ifs_ok ?_)
      simp only [okR_bind, okR_map, okR_some, evS, ee_var, ee_cst, ee_fnv, ee_bin, ee_neg, ee_cmp, ee_chain, ee_isN, ee_notN, ee_and, ee_or, ee_not, ee_ite, ee_call, ee_callv, ee_bi, ee_isi1, ee_isi2, ee_mt0, ee_mt1, ee_ix, ee_sl, ee_tup, ee_lst, evEs, evZ, evO, evI, evT, evTo, evX, rd_d, fz_d, b_add, b_sub, b_mul, b_div, b_mod, b_p18, b_p8, b_p7, b_p6, c_lt, c_le, c_gt, c_ge, c_eq, c_ne, c_eqs, c_nes, c_nes0, c_nes1, c_eqs0, c_eqs1, l_t, l_l, bi_i, bi_max, bi_min, bi_tl, bi_tt, ix_l, ix_t, m_nil, m_cons, at0, at1, at2, flatD, seqOf, isNonW, nx_nx, nx_rt, nx_bk, nx_ct, nx_xc, next_nx, next_ct, next_bk, next_rt, Option.bind_some, Option.map_some, List.getElem?_cons_zero, List.getElem?_cons_succ, List.set_cons_zero, List.set_cons_succ, List.length_cons, List.length_nil, if_true, asgn, asgns, Nat.zero_add, Nat.reduceAdd, Nat.reduceLT, Nat.reduceLeDiff, reduceIte, reduceCtorEq, Bool.false_eq_true, Int.reduceNeg, sizeLine_val, and_self, true_and, and_true, b_m7, b_m86400, b_m1000000000, b_m60, b_m600, b_d7, b_d86400, b_d1000, b_p10_5, b_p10_9, b_p10_12, b_p10_15, isi_tup]
      -- what follows the first way
      have rest : ∀ {i : Int}, 0 ≤ i → OkR (evSs (callF P (k + m + 4)) (match B_law_part_changed y.take y.pick f with | .cons _ ss => ss | .nil => .nil) [some (.d r), some (.mu 0), some (.d (.tup ds)), none, none, none] (.lst [.int i] :: ms)) fun o => OkR (fin (.lst [.int 0] :: ms : Store).length o) Q := by
        intro i hi
        unfold B_law_part_changed
        refine ss_step ?_; simp only [okR_bind, okR_map, okR_some, evS, ee_var, ee_cst, ee_fnv, ee_bin, ee_neg, ee_cmp, ee_chain, ee_isN, ee_notN, ee_and, ee_or, ee_not, ee_ite, ee_call, ee_callv, ee_bi, ee_isi1, ee_isi2, ee_mt0, ee_mt1, ee_ix, ee_sl, ee_tup, ee_lst, evEs, evZ, evO, evI, evT, evTo, evX, rd_d, fz_d, b_add, b_sub, b_mul, b_div, b_mod, b_p18, b_p8, b_p7, b_p6, c_lt, c_le, c_gt, c_ge, c_eq, c_ne, c_eqs, c_nes, c_nes0, c_nes1, c_eqs0, c_eqs1, l_t, l_l, bi_i, bi_max, bi_min, bi_tl, bi_tt, ix_l, ix_t, m_nil, m_cons, at0, at1, at2, flatD, seqOf, isNonW, nx_nx, nx_rt, nx_bk, nx_ct, nx_xc, next_nx, next_ct, next_bk, next_rt, Option.bind_some, Option.map_some, List.getElem?_cons_zero, List.getElem?_cons_succ, List.set_cons_zero, List.set_cons_succ, List.length_cons, List.length_nil, if_true, asgn, asgns, Nat.zero_add, Nat.reduceAdd, Nat.reduceLT, Nat.reduceLeDiff, reduceIte, reduceCtorEq, Bool.false_eq_true, Int.reduceNeg, sizeLine_val, and_self, true_and, and_true, b_m7, b_m86400, b_m1000000000, b_m60, b_m600, b_d7, b_d86400, b_d1000, b_p10_5, b_p10_9, b_p10_12, b_p10_15]
        refine L.take0 (k := k + m + 2) hr hi (by decide) fun t j t0 t1 hj => ?_
        simp only [okR_bind, okR_map, okR_some, evS, ee_var, ee_cst, ee_fnv, ee_bin, ee_neg, ee_cmp, ee_chain, ee_isN, ee_notN, ee_and, ee_or, ee_not, ee_ite, ee_call, ee_callv, ee_bi, ee_isi1, ee_isi2, ee_mt0, ee_mt1, ee_ix, ee_sl, ee_tup, ee_lst, evEs, evZ, evO, evI, evT, evTo, evX, rd_d, fz_d, b_add, b_sub, b_mul, b_div, b_mod, b_p18, b_p8, b_p7, b_p6, c_lt, c_le, c_gt, c_ge, c_eq, c_ne, c_eqs, c_nes, c_nes0, c_nes1, c_eqs0, c_eqs1, l_t, l_l, bi_i, bi_max, bi_min, bi_tl, bi_tt, ix_l, ix_t, m_nil, m_cons, at0, at1, at2, flatD, seqOf, isNonW, nx_nx, nx_rt, nx_bk, nx_ct, nx_xc, next_nx, next_ct, next_bk, next_rt, Option.bind_some, Option.map_some, List.getElem?_cons_zero, List.getElem?_cons_succ, List.set_cons_zero, List.set_cons_succ, List.length_cons, List.length_nil, if_true, asgn, asgns, Nat.zero_add, Nat.reduceAdd, Nat.reduceLT, Nat.reduceLeDiff, reduceIte, reduceCtorEq, Bool.false_eq_true, Int.reduceNeg, sizeLine_val, and_self, true_and, and_true, b_m7, b_m86400, b_m1000000000, b_m60, b_m600, b_d7, b_d86400, b_d1000, b_p10_5, b_p10_9, b_p10_12, b_p10_15]
        refine ss_step (ifs_ok ?_)
        simp only [okR_bind, okR_map, okR_some, evS, ee_var, ee_cst, ee_fnv, ee_bin, ee_neg, ee_cmp, ee_chain, ee_isN, ee_notN, ee_and, ee_or, ee_not, ee_ite, ee_call, ee_callv, ee_bi, ee_isi1, ee_isi2, ee_mt0, ee_mt1, ee_ix, ee_sl, ee_tup, ee_lst, evEs, evZ, evO, evI, evT, evTo, evX, rd_d, fz_d, b_add, b_sub, b_mul, b_div, b_mod, b_p18, b_p8, b_p7, b_p6, c_lt, c_le, c_gt, c_ge, c_eq, c_ne, c_eqs, c_nes, c_nes0, c_nes1, c_eqs0, c_eqs1, l_t, l_l, bi_i, bi_max, bi_min, bi_tl, bi_tt, ix_l, ix_t, m_nil, m_cons, at0, at1, at2, flatD, seqOf, isNonW, nx_nx, nx_rt, nx_bk, nx_ct, nx_xc, next_nx, next_ct, next_bk, next_rt, Option.bind_some, Option.map_some, List.getElem?_cons_zero, List.getElem?_cons_succ, List.set_cons_zero, List.set_cons_succ, List.length_cons, List.length_nil, if_true, asgn, asgns, Nat.zero_add, Nat.reduceAdd, Nat.reduceLT, Nat.reduceLeDiff, reduceIte, reduceCtorEq, Bool.false_eq_true, Int.reduceNeg, sizeLine_val, and_self, true_and, and_true, b_m7, b_m86400, b_m1000000000, b_m60, b_m600, b_d7, b_d86400, b_d1000, b_p10_5, b_p10_9, b_p10_12, b_p10_15, isi_tup]
        by_cases hn : 0 < (ds.length : Int)
        · -- not empty
          by_cases c0 : t = 0
          · simp only [okR_bind, okR_map, okR_some, evS, ee_var, ee_cst, ee_fnv, ee_bin, ee_neg, ee_cmp, ee_chain, ee_isN, ee_notN, ee_and, ee_or, ee_not, ee_ite, ee_call, ee_callv, ee_bi, ee_isi1, ee_isi2, ee_mt0, ee_mt1, ee_ix, ee_sl, ee_tup, ee_lst, evEs, evZ, evO, evI, evT, evTo, evX, rd_d, fz_d, b_add, b_sub, b_mul, b_div, b_mod, b_p18, b_p8, b_p7, b_p6, c_lt, c_le, c_gt, c_ge, c_eq, c_ne, c_eqs, c_nes, c_nes0, c_nes1, c_eqs0, c_eqs1, l_t, l_l, bi_i, bi_max, bi_min, bi_tl, bi_tt, ix_l, ix_t, m_nil, m_cons, at0, at1, at2, flatD, seqOf, isNonW, nx_nx, nx_rt, nx_bk, nx_ct, nx_xc, next_nx, next_ct, next_bk, next_rt, Option.bind_some, Option.map_some, List.getElem?_cons_zero, List.getElem?_cons_succ, List.set_cons_zero, List.set_cons_succ, List.length_cons, List.length_nil, if_true, asgn, asgns, Nat.zero_add, Nat.reduceAdd, Nat.reduceLT, Nat.reduceLeDiff, reduceIte, reduceCtorEq, Bool.false_eq_true, Int.reduceNeg, sizeLine_val, and_self, true_and, and_true, b_m7, b_m86400, b_m1000000000, b_m60, b_m600, b_d7, b_d86400, b_d1000, b_p10_5, b_p10_9, b_p10_12, b_p10_15, c0, hn, decide_true]
            have e1 : bRun .add (.tup ds) (.tup (cutD ds none (some 1))) = some (.tup (ds ++ cutD ds none (some 1))) := b_addT (by have := cl none (some 1); omega)
            refine ss_step ?_; simp only [okR_bind, okR_map, okR_some, evS, ee_var, ee_cst, ee_fnv, ee_bin, ee_neg, ee_cmp, ee_chain, ee_isN, ee_notN, ee_and, ee_or, ee_not, ee_ite, ee_call, ee_callv, ee_bi, ee_isi1, ee_isi2, ee_mt0, ee_mt1, ee_ix, ee_sl, ee_tup, ee_lst, evEs, evZ, evO, evI, evT, evTo, evX, rd_d, fz_d, b_add, b_sub, b_mul, b_div, b_mod, b_p18, b_p8, b_p7, b_p6, c_lt, c_le, c_gt, c_ge, c_eq, c_ne, c_eqs, c_nes, c_nes0, c_nes1, c_eqs0, c_eqs1, l_t, l_l, bi_i, bi_max, bi_min, bi_tl, bi_tt, ix_l, ix_t, m_nil, m_cons, at0, at1, at2, flatD, seqOf, isNonW, nx_nx, nx_rt, nx_bk, nx_ct, nx_xc, next_nx, next_ct, next_bk, next_rt, Option.bind_some, Option.map_some, List.getElem?_cons_zero, List.getElem?_cons_succ, List.set_cons_zero, List.set_cons_succ, List.length_cons, List.length_nil, if_true, asgn, asgns, Nat.zero_add, Nat.reduceAdd, Nat.reduceLT, Nat.reduceLeDiff, reduceIte, reduceCtorEq, Bool.false_eq_true, Int.reduceNeg, sizeLine_val, and_self, true_and, and_true, b_m7, b_m86400, b_m1000000000, b_m60, b_m600, b_d7, b_d86400, b_d1000, b_p10_5, b_p10_9, b_p10_12, b_p10_15]
            simp only [okR_bind, okR_map, okR_some, evS, ee_var, ee_cst, ee_fnv, ee_bin, ee_neg, ee_cmp, ee_chain, ee_isN, ee_notN, ee_and, ee_or, ee_not, ee_ite, ee_call, ee_callv, ee_bi, ee_isi1, ee_isi2, ee_mt0, ee_mt1, ee_ix, ee_sl, ee_tup, ee_lst, evEs, evZ, evO, evI, evT, evTo, evX, rd_d, fz_d, b_add, b_sub, b_mul, b_div, b_mod, b_p18, b_p8, b_p7, b_p6, c_lt, c_le, c_gt, c_ge, c_eq, c_ne, c_eqs, c_nes, c_nes0, c_nes1, c_eqs0, c_eqs1, l_t, l_l, bi_i, bi_max, bi_min, bi_tl, bi_tt, ix_l, ix_t, m_nil, m_cons, at0, at1, at2, flatD, seqOf, isNonW, nx_nx, nx_rt, nx_bk, nx_ct, nx_xc, next_nx, next_ct, next_bk, next_rt, Option.bind_some, Option.map_some, List.getElem?_cons_zero, List.getElem?_cons_succ, List.set_cons_zero, List.set_cons_succ, List.length_cons, List.length_nil, if_true, asgn, asgns, Nat.zero_add, Nat.reduceAdd, Nat.reduceLT, Nat.reduceLeDiff, reduceIte, reduceCtorEq, Bool.false_eq_true, Int.reduceNeg, sizeLine_val, and_self, true_and, and_true, b_m7, b_m86400, b_m1000000000, b_m60, b_m600, b_d7, b_d86400, b_d1000, b_p10_5, b_p10_9, b_p10_12, b_p10_15, sl_t, e1]
            exact fin_rl rfl (q _ j (cv_tup (by simp [sizeLine_val]; have := cl none (some 1); omega) (cv_app hcv (ccv _ _))) hj)
          simp only [okR_bind, okR_map, okR_some, evS, ee_var, ee_cst, ee_fnv, ee_bin, ee_neg, ee_cmp, ee_chain, ee_isN, ee_notN, ee_and, ee_or, ee_not, ee_ite, ee_call, ee_callv, ee_bi, ee_isi1, ee_isi2, ee_mt0, ee_mt1, ee_ix, ee_sl, ee_tup, ee_lst, evEs, evZ, evO, evI, evT, evTo, evX, rd_d, fz_d, b_add, b_sub, b_mul, b_div, b_mod, b_p18, b_p8, b_p7, b_p6, c_lt, c_le, c_gt, c_ge, c_eq, c_ne, c_eqs, c_nes, c_nes0, c_nes1, c_eqs0, c_eqs1, l_t, l_l, bi_i, bi_max, bi_min, bi_tl, bi_tt, ix_l, ix_t, m_nil, m_cons, at0, at1, at2, flatD, seqOf, isNonW, nx_nx, nx_rt, nx_bk, nx_ct, nx_xc, next_nx, next_ct, next_bk, next_rt, Option.bind_some, Option.map_some, List.getElem?_cons_zero, List.getElem?_cons_succ, List.set_cons_zero, List.set_cons_succ, List.length_cons, List.length_nil, if_true, asgn, asgns, Nat.zero_add, Nat.reduceAdd, Nat.reduceLT, Nat.reduceLeDiff, reduceIte, reduceCtorEq, Bool.false_eq_true, Int.reduceNeg, sizeLine_val, and_self, true_and, and_true, b_m7, b_m86400, b_m1000000000, b_m60, b_m600, b_d7, b_d86400, b_d1000, b_p10_5, b_p10_9, b_p10_12, b_p10_15, c0, decide_false]
          refine ss_done ?_
          simp only [nx_nx]
          refine ss_step (ifs_ok ?_)
          simp only [okR_bind, okR_map, okR_some, evS, ee_var, ee_cst, ee_fnv, ee_bin, ee_neg, ee_cmp, ee_chain, ee_isN, ee_notN, ee_and, ee_or, ee_not, ee_ite, ee_call, ee_callv, ee_bi, ee_isi1, ee_isi2, ee_mt0, ee_mt1, ee_ix, ee_sl, ee_tup, ee_lst, evEs, evZ, evO, evI, evT, evTo, evX, rd_d, fz_d, b_add, b_sub, b_mul, b_div, b_mod, b_p18, b_p8, b_p7, b_p6, c_lt, c_le, c_gt, c_ge, c_eq, c_ne, c_eqs, c_nes, c_nes0, c_nes1, c_eqs0, c_eqs1, l_t, l_l, bi_i, bi_max, bi_min, bi_tl, bi_tt, ix_l, ix_t, m_nil, m_cons, at0, at1, at2, flatD, seqOf, isNonW, nx_nx, nx_rt, nx_bk, nx_ct, nx_xc, next_nx, next_ct, next_bk, next_rt, Option.bind_some, Option.map_some, List.getElem?_cons_zero, List.getElem?_cons_succ, List.set_cons_zero, List.set_cons_succ, List.length_cons, List.length_nil, if_true, asgn, asgns, Nat.zero_add, Nat.reduceAdd, Nat.reduceLT, Nat.reduceLeDiff, reduceIte, reduceCtorEq, Bool.false_eq_true, Int.reduceNeg, sizeLine_val, and_self, true_and, and_true, b_m7, b_m86400, b_m1000000000, b_m60, b_m600, b_d7, b_d86400, b_d1000, b_p10_5, b_p10_9, b_p10_12, b_p10_15, isi_tup]
          by_cases c1 : t = 1
          · simp only [okR_bind, okR_map, okR_some, evS, ee_var, ee_cst, ee_fnv, ee_bin, ee_neg, ee_cmp, ee_chain, ee_isN, ee_notN, ee_and, ee_or, ee_not, ee_ite, ee_call, ee_callv, ee_bi, ee_isi1, ee_isi2, ee_mt0, ee_mt1, ee_ix, ee_sl, ee_tup, ee_lst, evEs, evZ, evO, evI, evT, evTo, evX, rd_d, fz_d, b_add, b_sub, b_mul, b_div, b_mod, b_p18, b_p8, b_p7, b_p6, c_lt, c_le, c_gt, c_ge, c_eq, c_ne, c_eqs, c_nes, c_nes0, c_nes1, c_eqs0, c_eqs1, l_t, l_l, bi_i, bi_max, bi_min, bi_tl, bi_tt, ix_l, ix_t, m_nil, m_cons, at0, at1, at2, flatD, seqOf, isNonW, nx_nx, nx_rt, nx_bk, nx_ct, nx_xc, next_nx, next_ct, next_bk, next_rt, Option.bind_some, Option.map_some, List.getElem?_cons_zero, List.getElem?_cons_succ, List.set_cons_zero, List.set_cons_succ, List.length_cons, List.length_nil, if_true, asgn, asgns, Nat.zero_add, Nat.reduceAdd, Nat.reduceLT, Nat.reduceLeDiff, reduceIte, reduceCtorEq, Bool.false_eq_true, Int.reduceNeg, sizeLine_val, and_self, true_and, and_true, b_m7, b_m86400, b_m1000000000, b_m60, b_m600, b_d7, b_d86400, b_d1000, b_p10_5, b_p10_9, b_p10_12, b_p10_15, c1, hn, decide_true]
            refine ss_step ?_; simp only [okR_bind, okR_map, okR_some, evS, ee_var, ee_cst, ee_fnv, ee_bin, ee_neg, ee_cmp, ee_chain, ee_isN, ee_notN, ee_and, ee_or, ee_not, ee_ite, ee_call, ee_callv, ee_bi, ee_isi1, ee_isi2, ee_mt0, ee_mt1, ee_ix, ee_sl, ee_tup, ee_lst, evEs, evZ, evO, evI, evT, evTo, evX, rd_d, fz_d, b_add, b_sub, b_mul, b_div, b_mod, b_p18, b_p8, b_p7, b_p6, c_lt, c_le, c_gt, c_ge, c_eq, c_ne, c_eqs, c_nes, c_nes0, c_nes1, c_eqs0, c_eqs1, l_t, l_l, bi_i, bi_max, bi_min, bi_tl, bi_tt, ix_l, ix_t, m_nil, m_cons, at0, at1, at2, flatD, seqOf, isNonW, nx_nx, nx_rt, nx_bk, nx_ct, nx_xc, next_nx, next_ct, next_bk, next_rt, Option.bind_some, Option.map_some, List.getElem?_cons_zero, List.getElem?_cons_succ, List.set_cons_zero, List.set_cons_succ, List.length_cons, List.length_nil, if_true, asgn, asgns, Nat.zero_add, Nat.reduceAdd, Nat.reduceLT, Nat.reduceLeDiff, reduceIte, reduceCtorEq, Bool.false_eq_true, Int.reduceNeg, sizeLine_val, and_self, true_and, and_true, b_m7, b_m86400, b_m1000000000, b_m60, b_m600, b_d7, b_d86400, b_d1000, b_p10_5, b_p10_9, b_p10_12, b_p10_15]
            simp only [okR_bind, okR_map, okR_some, evS, ee_var, ee_cst, ee_fnv, ee_bin, ee_neg, ee_cmp, ee_chain, ee_isN, ee_notN, ee_and, ee_or, ee_not, ee_ite, ee_call, ee_callv, ee_bi, ee_isi1, ee_isi2, ee_mt0, ee_mt1, ee_ix, ee_sl, ee_tup, ee_lst, evEs, evZ, evO, evI, evT, evTo, evX, rd_d, fz_d, b_add, b_sub, b_mul, b_div, b_mod, b_p18, b_p8, b_p7, b_p6, c_lt, c_le, c_gt, c_ge, c_eq, c_ne, c_eqs, c_nes, c_nes0, c_nes1, c_eqs0, c_eqs1, l_t, l_l, bi_i, bi_max, bi_min, bi_tl, bi_tt, ix_l, ix_t, m_nil, m_cons, at0, at1, at2, flatD, seqOf, isNonW, nx_nx, nx_rt, nx_bk, nx_ct, nx_xc, next_nx, next_ct, next_bk, next_rt, Option.bind_some, Option.map_some, List.getElem?_cons_zero, List.getElem?_cons_succ, List.set_cons_zero, List.set_cons_succ, List.length_cons, List.length_nil, if_true, asgn, asgns, Nat.zero_add, Nat.reduceAdd, Nat.reduceLT, Nat.reduceLeDiff, reduceIte, reduceCtorEq, Bool.false_eq_true, Int.reduceNeg, sizeLine_val, and_self, true_and, and_true, b_m7, b_m86400, b_m1000000000, b_m60, b_m600, b_d7, b_d86400, b_d1000, b_p10_5, b_p10_9, b_p10_12, b_p10_15, sl_t]
            exact fin_rl rfl (q _ j (cv_tup (by rw [sizeLine_val]; have := cl (some 1) none; omega) (ccv _ _)) hj)
          simp only [okR_bind, okR_map, okR_some, evS, ee_var, ee_cst, ee_fnv, ee_bin, ee_neg, ee_cmp, ee_chain, ee_isN, ee_notN, ee_and, ee_or, ee_not, ee_ite, ee_call, ee_callv, ee_bi, ee_isi1, ee_isi2, ee_mt0, ee_mt1, ee_ix, ee_sl, ee_tup, ee_lst, evEs, evZ, evO, evI, evT, evTo, evX, rd_d, fz_d, b_add, b_sub, b_mul, b_div, b_mod, b_p18, b_p8, b_p7, b_p6, c_lt, c_le, c_gt, c_ge, c_eq, c_ne, c_eqs, c_nes, c_nes0, c_nes1, c_eqs0, c_eqs1, l_t, l_l, bi_i, bi_max, bi_min, bi_tl, bi_tt, ix_l, ix_t, m_nil, m_cons, at0, at1, at2, flatD, seqOf, isNonW, nx_nx, nx_rt, nx_bk, nx_ct, nx_xc, next_nx, next_ct, next_bk, next_rt, Option.bind_some, Option.map_some, List.getElem?_cons_zero, List.getElem?_cons_succ, List.set_cons_zero, List.set_cons_succ, List.length_cons, List.length_nil, if_true, asgn, asgns, Nat.zero_add, Nat.reduceAdd, Nat.reduceLT, Nat.reduceLeDiff, reduceIte, reduceCtorEq, Bool.false_eq_true, Int.reduceNeg, sizeLine_val, and_self, true_and, and_true, b_m7, b_m86400, b_m1000000000, b_m60, b_m600, b_d7, b_d86400, b_d1000, b_p10_5, b_p10_9, b_p10_12, b_p10_15, c1, decide_false]
          refine ss_done ?_
          simp only [nx_nx]
          refine ss_step (ifs_ok ?_)
          simp only [okR_bind, okR_map, okR_some, evS, ee_var, ee_cst, ee_fnv, ee_bin, ee_neg, ee_cmp, ee_chain, ee_isN, ee_notN, ee_and, ee_or, ee_not, ee_ite, ee_call, ee_callv, ee_bi, ee_isi1, ee_isi2, ee_mt0, ee_mt1, ee_ix, ee_sl, ee_tup, ee_lst, evEs, evZ, evO, evI, evT, evTo, evX, rd_d, fz_d, b_add, b_sub, b_mul, b_div, b_mod, b_p18, b_p8, b_p7, b_p6, c_lt, c_le, c_gt, c_ge, c_eq, c_ne, c_eqs, c_nes, c_nes0, c_nes1, c_eqs0, c_eqs1, l_t, l_l, bi_i, bi_max, bi_min, bi_tl, bi_tt, ix_l, ix_t, m_nil, m_cons, at0, at1, at2, flatD, seqOf, isNonW, nx_nx, nx_rt, nx_bk, nx_ct, nx_xc, next_nx, next_ct, next_bk, next_rt, Option.bind_some, Option.map_some, List.getElem?_cons_zero, List.getElem?_cons_succ, List.set_cons_zero, List.set_cons_succ, List.length_cons, List.length_nil, if_true, asgn, asgns, Nat.zero_add, Nat.reduceAdd, Nat.reduceLT, Nat.reduceLeDiff, reduceIte, reduceCtorEq, Bool.false_eq_true, Int.reduceNeg, sizeLine_val, and_self, true_and, and_true, b_m7, b_m86400, b_m1000000000, b_m60, b_m600, b_d7, b_d86400, b_d1000, b_p10_5, b_p10_9, b_p10_12, b_p10_15, isi_tup]
          have after : ∀ {j : Int} {v3 v5 : Option W}, 0 ≤ j → OkR (evSs (callF P (k + m + 4)) (match B_law_part_changed y.take y.pick f with | .cons _ (.cons _ (.cons _ (.cons _ (.cons _ ss)))) => ss | _ => .nil) [some (.d r), some (.mu 0), some (.d (.tup ds)), v3, some (.d (.int t)), v5] (.lst [.int j] :: ms)) fun o => OkR (fin (.lst [.int 0] :: ms : Store).length o) Q := by
            intro j v3 v5 hj
            unfold B_law_part_changed
            refine ss_step (ifs_ok ?_)
            simp only [okR_bind, okR_map, okR_some, evS, ee_var, ee_cst, ee_fnv, ee_bin, ee_neg, ee_cmp, ee_chain, ee_isN, ee_notN, ee_and, ee_or, ee_not, ee_ite, ee_call, ee_callv, ee_bi, ee_isi1, ee_isi2, ee_mt0, ee_mt1, ee_ix, ee_sl, ee_tup, ee_lst, evEs, evZ, evO, evI, evT, evTo, evX, rd_d, fz_d, b_add, b_sub, b_mul, b_div, b_mod, b_p18, b_p8, b_p7, b_p6, c_lt, c_le, c_gt, c_ge, c_eq, c_ne, c_eqs, c_nes, c_nes0, c_nes1, c_eqs0, c_eqs1, l_t, l_l, bi_i, bi_max, bi_min, bi_tl, bi_tt, ix_l, ix_t, m_nil, m_cons, at0, at1, at2, flatD, seqOf, isNonW, nx_nx, nx_rt, nx_bk, nx_ct, nx_xc, next_nx, next_ct, next_bk, next_rt, Option.bind_some, Option.map_some, List.getElem?_cons_zero, List.getElem?_cons_succ, List.set_cons_zero, List.set_cons_succ, List.length_cons, List.length_nil, if_true, asgn, asgns, Nat.zero_add, Nat.reduceAdd, Nat.reduceLT, Nat.reduceLeDiff, reduceIte, reduceCtorEq, Bool.false_eq_true, Int.reduceNeg, sizeLine_val, and_self, true_and, and_true, b_m7, b_m86400, b_m1000000000, b_m60, b_m600, b_d7, b_d86400, b_d1000, b_p10_5, b_p10_9, b_p10_12, b_p10_15, isi_tup]
            have last : OkR (evSs (callF P (k + m + 4)) (match B_law_part_changed y.take y.pick f with | .cons _ (.cons _ (.cons _ (.cons _ (.cons _ (.cons _ ss))))) => ss | _ => .nil) [some (.d r), some (.mu 0), some (.d (.tup ds)), v3, some (.d (.int t)), v5] (.lst [.int j] :: ms)) fun o => OkR (fin (.lst [.int 0] :: ms : Store).length o) Q := by
              unfold B_law_part_changed
              refine ss_step (ifs_ok ?_)
              simp only [okR_bind, okR_map, okR_some, evS, ee_var, ee_cst, ee_fnv, ee_bin, ee_neg, ee_cmp, ee_chain, ee_isN, ee_notN, ee_and, ee_or, ee_not, ee_ite, ee_call, ee_callv, ee_bi, ee_isi1, ee_isi2, ee_mt0, ee_mt1, ee_ix, ee_sl, ee_tup, ee_lst, evEs, evZ, evO, evI, evT, evTo, evX, rd_d, fz_d, b_add, b_sub, b_mul, b_div, b_mod, b_p18, b_p8, b_p7, b_p6, c_lt, c_le, c_gt, c_ge, c_eq, c_ne, c_eqs, c_nes, c_nes0, c_nes1, c_eqs0, c_eqs1, l_t, l_l, bi_i, bi_max, bi_min, bi_tl, bi_tt, ix_l, ix_t, m_nil, m_cons, at0, at1, at2, flatD, seqOf, isNonW, nx_nx, nx_rt, nx_bk, nx_ct, nx_xc, next_nx, next_ct, next_bk, next_rt, Option.bind_some, Option.map_some, List.getElem?_cons_zero, List.getElem?_cons_succ, List.set_cons_zero, List.set_cons_succ, List.length_cons, List.length_nil, if_true, asgn, asgns, Nat.zero_add, Nat.reduceAdd, Nat.reduceLT, Nat.reduceLeDiff, reduceIte, reduceCtorEq, Bool.false_eq_true, Int.reduceNeg, sizeLine_val, and_self, true_and, and_true, b_m7, b_m86400, b_m1000000000, b_m60, b_m600, b_d7, b_d86400, b_d1000, b_p10_5, b_p10_9, b_p10_12, b_p10_15, isi_int_t]
              refine ss_done ?_
              simp only [nx_nx]
              refine ss_step (ifs_ok ?_)
              simp only [okR_bind, okR_map, okR_some, evS, ee_var, ee_cst, ee_fnv, ee_bin, ee_neg, ee_cmp, ee_chain, ee_isN, ee_notN, ee_and, ee_or, ee_not, ee_ite, ee_call, ee_callv, ee_bi, ee_isi1, ee_isi2, ee_mt0, ee_mt1, ee_ix, ee_sl, ee_tup, ee_lst, evEs, evZ, evO, evI, evT, evTo, evX, rd_d, fz_d, b_add, b_sub, b_mul, b_div, b_mod, b_p18, b_p8, b_p7, b_p6, c_lt, c_le, c_gt, c_ge, c_eq, c_ne, c_eqs, c_nes, c_nes0, c_nes1, c_eqs0, c_eqs1, l_t, l_l, bi_i, bi_max, bi_min, bi_tl, bi_tt, ix_l, ix_t, m_nil, m_cons, at0, at1, at2, flatD, seqOf, isNonW, nx_nx, nx_rt, nx_bk, nx_ct, nx_xc, next_nx, next_ct, next_bk, next_rt, Option.bind_some, Option.map_some, List.getElem?_cons_zero, List.getElem?_cons_succ, List.set_cons_zero, List.set_cons_succ, List.length_cons, List.length_nil, if_true, asgn, asgns, Nat.zero_add, Nat.reduceAdd, Nat.reduceLT, Nat.reduceLeDiff, reduceIte, reduceCtorEq, Bool.false_eq_true, Int.reduceNeg, sizeLine_val, and_self, true_and, and_true, b_m7, b_m86400, b_m1000000000, b_m60, b_m600, b_d7, b_d86400, b_d1000, b_p10_5, b_p10_9, b_p10_12, b_p10_15, isi_str_t]
              refine ss_done ?_
              simp only [nx_nx]
              refine ss_step ?_; simp only [okR_bind, okR_map, okR_some, evS, ee_var, ee_cst, ee_fnv, ee_bin, ee_neg, ee_cmp, ee_chain, ee_isN, ee_notN, ee_and, ee_or, ee_not, ee_ite, ee_call, ee_callv, ee_bi, ee_isi1, ee_isi2, ee_mt0, ee_mt1, ee_ix, ee_sl, ee_tup, ee_lst, evEs, evZ, evO, evI, evT, evTo, evX, rd_d, fz_d, b_add, b_sub, b_mul, b_div, b_mod, b_p18, b_p8, b_p7, b_p6, c_lt, c_le, c_gt, c_ge, c_eq, c_ne, c_eqs, c_nes, c_nes0, c_nes1, c_eqs0, c_eqs1, l_t, l_l, bi_i, bi_max, bi_min, bi_tl, bi_tt, ix_l, ix_t, m_nil, m_cons, at0, at1, at2, flatD, seqOf, isNonW, nx_nx, nx_rt, nx_bk, nx_ct, nx_xc, next_nx, next_ct, next_bk, next_rt, Option.bind_some, Option.map_some, List.getElem?_cons_zero, List.getElem?_cons_succ, List.set_cons_zero, List.set_cons_succ, List.length_cons, List.length_nil, if_true, asgn, asgns, Nat.zero_add, Nat.reduceAdd, Nat.reduceLT, Nat.reduceLeDiff, reduceIte, reduceCtorEq, Bool.false_eq_true, Int.reduceNeg, sizeLine_val, and_self, true_and, and_true, b_m7, b_m86400, b_m1000000000, b_m60, b_m600, b_d7, b_d86400, b_d1000, b_p10_5, b_p10_9, b_p10_12, b_p10_15]
              refine L.pickL (k := k + m + 1) hr hj ?_ fun b j2 hb hj2 => ?_
              · exact fun z => nomatch z
              simp only [okR_bind, okR_map, okR_some, evS, ee_var, ee_cst, ee_fnv, ee_bin, ee_neg, ee_cmp, ee_chain, ee_isN, ee_notN, ee_and, ee_or, ee_not, ee_ite, ee_call, ee_callv, ee_bi, ee_isi1, ee_isi2, ee_mt0, ee_mt1, ee_ix, ee_sl, ee_tup, ee_lst, evEs, evZ, evO, evI, evT, evTo, evX, rd_d, fz_d, b_add, b_sub, b_mul, b_div, b_mod, b_p18, b_p8, b_p7, b_p6, c_lt, c_le, c_gt, c_ge, c_eq, c_ne, c_eqs, c_nes, c_nes0, c_nes1, c_eqs0, c_eqs1, l_t, l_l, bi_i, bi_max, bi_min, bi_tl, bi_tt, ix_l, ix_t, m_nil, m_cons, at0, at1, at2, flatD, seqOf, isNonW, nx_nx, nx_rt, nx_bk, nx_ct, nx_xc, next_nx, next_ct, next_bk, next_rt, Option.bind_some, Option.map_some, List.getElem?_cons_zero, List.getElem?_cons_succ, List.set_cons_zero, List.set_cons_succ, List.length_cons, List.length_nil, if_true, asgn, asgns, Nat.zero_add, Nat.reduceAdd, Nat.reduceLT, Nat.reduceLeDiff, reduceIte, reduceCtorEq, Bool.false_eq_true, Int.reduceNeg, sizeLine_val, and_self, true_and, and_true, b_m7, b_m86400, b_m1000000000, b_m60, b_m600, b_d7, b_d86400, b_d1000, b_p10_5, b_p10_9, b_p10_12, b_p10_15]
              exact fin_rl rfl (q b j2 (cv_le (pick_last b hb) (by omega)) hj2)
            by_cases c2 : t = 2
            · by_cases h1 : 1 < (ds.length : Int)
              · simp only [okR_bind, okR_map, okR_some, evS, ee_var, ee_cst, ee_fnv, ee_bin, ee_neg, ee_cmp, ee_chain, ee_isN, ee_notN, ee_and, ee_or, ee_not, ee_ite, ee_call, ee_callv, ee_bi, ee_isi1, ee_isi2, ee_mt0, ee_mt1, ee_ix, ee_sl, ee_tup, ee_lst, evEs, evZ, evO, evI, evT, evTo, evX, rd_d, fz_d, b_add, b_sub, b_mul, b_div, b_mod, b_p18, b_p8, b_p7, b_p6, c_lt, c_le, c_gt, c_ge, c_eq, c_ne, c_eqs, c_nes, c_nes0, c_nes1, c_eqs0, c_eqs1, l_t, l_l, bi_i, bi_max, bi_min, bi_tl, bi_tt, ix_l, ix_t, m_nil, m_cons, at0, at1, at2, flatD, seqOf, isNonW, nx_nx, nx_rt, nx_bk, nx_ct, nx_xc, next_nx, next_ct, next_bk, next_rt, Option.bind_some, Option.map_some, List.getElem?_cons_zero, List.getElem?_cons_succ, List.set_cons_zero, List.set_cons_succ, List.length_cons, List.length_nil, if_true, asgn, asgns, Nat.zero_add, Nat.reduceAdd, Nat.reduceLT, Nat.reduceLeDiff, reduceIte, reduceCtorEq, Bool.false_eq_true, Int.reduceNeg, sizeLine_val, and_self, true_and, and_true, b_m7, b_m86400, b_m1000000000, b_m60, b_m600, b_d7, b_d86400, b_d1000, b_p10_5, b_p10_9, b_p10_12, b_p10_15, c2, h1, decide_true]
                have e1 : bRun .add (.tup (cutD ds (some 1) none)) (.tup (cutD ds none (some 1))) = some (.tup (cutD ds (some 1) none ++ cutD ds none (some 1))) := b_addT (by have := cl none (some 1); have := cl (some 1) none; omega)
                refine ss_step ?_; simp only [okR_bind, okR_map, okR_some, evS, ee_var, ee_cst, ee_fnv, ee_bin, ee_neg, ee_cmp, ee_chain, ee_isN, ee_notN, ee_and, ee_or, ee_not, ee_ite, ee_call, ee_callv, ee_bi, ee_isi1, ee_isi2, ee_mt0, ee_mt1, ee_ix, ee_sl, ee_tup, ee_lst, evEs, evZ, evO, evI, evT, evTo, evX, rd_d, fz_d, b_add, b_sub, b_mul, b_div, b_mod, b_p18, b_p8, b_p7, b_p6, c_lt, c_le, c_gt, c_ge, c_eq, c_ne, c_eqs, c_nes, c_nes0, c_nes1, c_eqs0, c_eqs1, l_t, l_l, bi_i, bi_max, bi_min, bi_tl, bi_tt, ix_l, ix_t, m_nil, m_cons, at0, at1, at2, flatD, seqOf, isNonW, nx_nx, nx_rt, nx_bk, nx_ct, nx_xc, next_nx, next_ct, next_bk, next_rt, Option.bind_some, Option.map_some, List.getElem?_cons_zero, List.getElem?_cons_succ, List.set_cons_zero, List.set_cons_succ, List.length_cons, List.length_nil, if_true, asgn, asgns, Nat.zero_add, Nat.reduceAdd, Nat.reduceLT, Nat.reduceLeDiff, reduceIte, reduceCtorEq, Bool.false_eq_true, Int.reduceNeg, sizeLine_val, and_self, true_and, and_true, b_m7, b_m86400, b_m1000000000, b_m60, b_m600, b_d7, b_d86400, b_d1000, b_p10_5, b_p10_9, b_p10_12, b_p10_15]
                simp only [okR_bind, okR_map, okR_some, evS, ee_var, ee_cst, ee_fnv, ee_bin, ee_neg, ee_cmp, ee_chain, ee_isN, ee_notN, ee_and, ee_or, ee_not, ee_ite, ee_call, ee_callv, ee_bi, ee_isi1, ee_isi2, ee_mt0, ee_mt1, ee_ix, ee_sl, ee_tup, ee_lst, evEs, evZ, evO, evI, evT, evTo, evX, rd_d, fz_d, b_add, b_sub, b_mul, b_div, b_mod, b_p18, b_p8, b_p7, b_p6, c_lt, c_le, c_gt, c_ge, c_eq, c_ne, c_eqs, c_nes, c_nes0, c_nes1, c_eqs0, c_eqs1, l_t, l_l, bi_i, bi_max, bi_min, bi_tl, bi_tt, ix_l, ix_t, m_nil, m_cons, at0, at1, at2, flatD, seqOf, isNonW, nx_nx, nx_rt, nx_bk, nx_ct, nx_xc, next_nx, next_ct, next_bk, next_rt, Option.bind_some, Option.map_some, List.getElem?_cons_zero, List.getElem?_cons_succ, List.set_cons_zero, List.set_cons_succ, List.length_cons, List.length_nil, if_true, asgn, asgns, Nat.zero_add, Nat.reduceAdd, Nat.reduceLT, Nat.reduceLeDiff, reduceIte, reduceCtorEq, Bool.false_eq_true, Int.reduceNeg, sizeLine_val, and_self, true_and, and_true, b_m7, b_m86400, b_m1000000000, b_m60, b_m600, b_d7, b_d86400, b_d1000, b_p10_5, b_p10_9, b_p10_12, b_p10_15, sl_t, e1]
                exact fin_rl rfl (q _ j (cv_tup (by simp [sizeLine_val]; have := cl none (some 1); have := cl (some 1) none; omega) (cv_app (ccv _ _) (ccv _ _))) hj)
              · simp only [okR_bind, okR_map, okR_some, evS, ee_var, ee_cst, ee_fnv, ee_bin, ee_neg, ee_cmp, ee_chain, ee_isN, ee_notN, ee_and, ee_or, ee_not, ee_ite, ee_call, ee_callv, ee_bi, ee_isi1, ee_isi2, ee_mt0, ee_mt1, ee_ix, ee_sl, ee_tup, ee_lst, evEs, evZ, evO, evI, evT, evTo, evX, rd_d, fz_d, b_add, b_sub, b_mul, b_div, b_mod, b_p18, b_p8, b_p7, b_p6, c_lt, c_le, c_gt, c_ge, c_eq, c_ne, c_eqs, c_nes, c_nes0, c_nes1, c_eqs0, c_eqs1, l_t, l_l, bi_i, bi_max, bi_min, bi_tl, bi_tt, ix_l, ix_t, m_nil, m_cons, at0, at1, at2, flatD, seqOf, isNonW, nx_nx, nx_rt, nx_bk, nx_ct, nx_xc, next_nx, next_ct, next_bk, next_rt, Option.bind_some, Option.map_some, List.getElem?_cons_zero, List.getElem?_cons_succ, List.set_cons_zero, List.set_cons_succ, List.length_cons, List.length_nil, if_true, asgn, asgns, Nat.zero_add, Nat.reduceAdd, Nat.reduceLT, Nat.reduceLeDiff, reduceIte, reduceCtorEq, Bool.false_eq_true, Int.reduceNeg, sizeLine_val, and_self, true_and, and_true, b_m7, b_m86400, b_m1000000000, b_m60, b_m600, b_d7, b_d86400, b_d1000, b_p10_5, b_p10_9, b_p10_12, b_p10_15, c2, h1, decide_true, decide_false]
                refine ss_done ?_
                simp only [nx_nx]
                rw [c2] at last
                exact last
            · simp only [okR_bind, okR_map, okR_some, evS, ee_var, ee_cst, ee_fnv, ee_bin, ee_neg, ee_cmp, ee_chain, ee_isN, ee_notN, ee_and, ee_or, ee_not, ee_ite, ee_call, ee_callv, ee_bi, ee_isi1, ee_isi2, ee_mt0, ee_mt1, ee_ix, ee_sl, ee_tup, ee_lst, evEs, evZ, evO, evI, evT, evTo, evX, rd_d, fz_d, b_add, b_sub, b_mul, b_div, b_mod, b_p18, b_p8, b_p7, b_p6, c_lt, c_le, c_gt, c_ge, c_eq, c_ne, c_eqs, c_nes, c_nes0, c_nes1, c_eqs0, c_eqs1, l_t, l_l, bi_i, bi_max, bi_min, bi_tl, bi_tt, ix_l, ix_t, m_nil, m_cons, at0, at1, at2, flatD, seqOf, isNonW, nx_nx, nx_rt, nx_bk, nx_ct, nx_xc, next_nx, next_ct, next_bk, next_rt, Option.bind_some, Option.map_some, List.getElem?_cons_zero, List.getElem?_cons_succ, List.set_cons_zero, List.set_cons_succ, List.length_cons, List.length_nil, if_true, asgn, asgns, Nat.zero_add, Nat.reduceAdd, Nat.reduceLT, Nat.reduceLeDiff, reduceIte, reduceCtorEq, Bool.false_eq_true, Int.reduceNeg, sizeLine_val, and_self, true_and, and_true, b_m7, b_m86400, b_m1000000000, b_m60, b_m600, b_d7, b_d86400, b_d1000, b_p10_5, b_p10_9, b_p10_12, b_p10_15, c2, decide_false]
              refine ss_done ?_
              simp only [nx_nx]
              exact last
          by_cases c3 : t = 3
          · simp only [okR_bind, okR_map, okR_some, evS, ee_var, ee_cst, ee_fnv, ee_bin, ee_neg, ee_cmp, ee_chain, ee_isN, ee_notN, ee_and, ee_or, ee_not, ee_ite, ee_call, ee_callv, ee_bi, ee_isi1, ee_isi2, ee_mt0, ee_mt1, ee_ix, ee_sl, ee_tup, ee_lst, evEs, evZ, evO, evI, evT, evTo, evX, rd_d, fz_d, b_add, b_sub, b_mul, b_div, b_mod, b_p18, b_p8, b_p7, b_p6, c_lt, c_le, c_gt, c_ge, c_eq, c_ne, c_eqs, c_nes, c_nes0, c_nes1, c_eqs0, c_eqs1, l_t, l_l, bi_i, bi_max, bi_min, bi_tl, bi_tt, ix_l, ix_t, m_nil, m_cons, at0, at1, at2, flatD, seqOf, isNonW, nx_nx, nx_rt, nx_bk, nx_ct, nx_xc, next_nx, next_ct, next_bk, next_rt, Option.bind_some, Option.map_some, List.getElem?_cons_zero, List.getElem?_cons_succ, List.set_cons_zero, List.set_cons_succ, List.length_cons, List.length_nil, if_true, asgn, asgns, Nat.zero_add, Nat.reduceAdd, Nat.reduceLT, Nat.reduceLeDiff, reduceIte, reduceCtorEq, Bool.false_eq_true, Int.reduceNeg, sizeLine_val, and_self, true_and, and_true, b_m7, b_m86400, b_m1000000000, b_m60, b_m600, b_d7, b_d86400, b_d1000, b_p10_5, b_p10_9, b_p10_12, b_p10_15, c3, hn, decide_true]
            refine ss_step ?_; simp only [okR_bind, okR_map, okR_some, evS, ee_var, ee_cst, ee_fnv, ee_bin, ee_neg, ee_cmp, ee_chain, ee_isN, ee_notN, ee_and, ee_or, ee_not, ee_ite, ee_call, ee_callv, ee_bi, ee_isi1, ee_isi2, ee_mt0, ee_mt1, ee_ix, ee_sl, ee_tup, ee_lst, evEs, evZ, evO, evI, evT, evTo, evX, rd_d, fz_d, b_add, b_sub, b_mul, b_div, b_mod, b_p18, b_p8, b_p7, b_p6, c_lt, c_le, c_gt, c_ge, c_eq, c_ne, c_eqs, c_nes, c_nes0, c_nes1, c_eqs0, c_eqs1, l_t, l_l, bi_i, bi_max, bi_min, bi_tl, bi_tt, ix_l, ix_t, m_nil, m_cons, at0, at1, at2, flatD, seqOf, isNonW, nx_nx, nx_rt, nx_bk, nx_ct, nx_xc, next_nx, next_ct, next_bk, next_rt, Option.bind_some, Option.map_some, List.getElem?_cons_zero, List.getElem?_cons_succ, List.set_cons_zero, List.set_cons_succ, List.length_cons, List.length_nil, if_true, asgn, asgns, Nat.zero_add, Nat.reduceAdd, Nat.reduceLT, Nat.reduceLeDiff, reduceIte, reduceCtorEq, Bool.false_eq_true, Int.reduceNeg, sizeLine_val, and_self, true_and, and_true, b_m7, b_m86400, b_m1000000000, b_m60, b_m600, b_d7, b_d86400, b_d1000, b_p10_5, b_p10_9, b_p10_12, b_p10_15]
            refine L.take0 (k := k + m + 2) hr hj hn fun a j2 a0 a1 hj2 => ?_
            simp only [okR_bind, okR_map, okR_some, evS, ee_var, ee_cst, ee_fnv, ee_bin, ee_neg, ee_cmp, ee_chain, ee_isN, ee_notN, ee_and, ee_or, ee_not, ee_ite, ee_call, ee_callv, ee_bi, ee_isi1, ee_isi2, ee_mt0, ee_mt1, ee_ix, ee_sl, ee_tup, ee_lst, evEs, evZ, evO, evI, evT, evTo, evX, rd_d, fz_d, b_add, b_sub, b_mul, b_div, b_mod, b_p18, b_p8, b_p7, b_p6, c_lt, c_le, c_gt, c_ge, c_eq, c_ne, c_eqs, c_nes, c_nes0, c_nes1, c_eqs0, c_eqs1, l_t, l_l, bi_i, bi_max, bi_min, bi_tl, bi_tt, ix_l, ix_t, m_nil, m_cons, at0, at1, at2, flatD, seqOf, isNonW, nx_nx, nx_rt, nx_bk, nx_ct, nx_xc, next_nx, next_ct, next_bk, next_rt, Option.bind_some, Option.map_some, List.getElem?_cons_zero, List.getElem?_cons_succ, List.set_cons_zero, List.set_cons_succ, List.length_cons, List.length_nil, if_true, asgn, asgns, Nat.zero_add, Nat.reduceAdd, Nat.reduceLT, Nat.reduceLeDiff, reduceIte, reduceCtorEq, Bool.false_eq_true, Int.reduceNeg, sizeLine_val, and_self, true_and, and_true, b_m7, b_m86400, b_m1000000000, b_m60, b_m600, b_d7, b_d86400, b_d1000, b_p10_5, b_p10_9, b_p10_12, b_p10_15]
            obtain ⟨x, hx, ex⟩ := atI_ok a0 a1
            refine ss_step ?_; simp only [okR_bind, okR_map, okR_some, evS, ee_var, ee_cst, ee_fnv, ee_bin, ee_neg, ee_cmp, ee_chain, ee_isN, ee_notN, ee_and, ee_or, ee_not, ee_ite, ee_call, ee_callv, ee_bi, ee_isi1, ee_isi2, ee_mt0, ee_mt1, ee_ix, ee_sl, ee_tup, ee_lst, evEs, evZ, evO, evI, evT, evTo, evX, rd_d, fz_d, b_add, b_sub, b_mul, b_div, b_mod, b_p18, b_p8, b_p7, b_p6, c_lt, c_le, c_gt, c_ge, c_eq, c_ne, c_eqs, c_nes, c_nes0, c_nes1, c_eqs0, c_eqs1, l_t, l_l, bi_i, bi_max, bi_min, bi_tl, bi_tt, ix_l, ix_t, m_nil, m_cons, at0, at1, at2, flatD, seqOf, isNonW, nx_nx, nx_rt, nx_bk, nx_ct, nx_xc, next_nx, next_ct, next_bk, next_rt, Option.bind_some, Option.map_some, List.getElem?_cons_zero, List.getElem?_cons_succ, List.set_cons_zero, List.set_cons_succ, List.length_cons, List.length_nil, if_true, asgn, asgns, Nat.zero_add, Nat.reduceAdd, Nat.reduceLT, Nat.reduceLeDiff, reduceIte, reduceCtorEq, Bool.false_eq_true, Int.reduceNeg, sizeLine_val, and_self, true_and, and_true, b_m7, b_m86400, b_m1000000000, b_m60, b_m600, b_d7, b_d86400, b_d1000, b_p10_5, b_p10_9, b_p10_12, b_p10_15]
            simp only [okR_bind, okR_map, okR_some, evS, ee_var, ee_cst, ee_fnv, ee_bin, ee_neg, ee_cmp, ee_chain, ee_isN, ee_notN, ee_and, ee_or, ee_not, ee_ite, ee_call, ee_callv, ee_bi, ee_isi1, ee_isi2, ee_mt0, ee_mt1, ee_ix, ee_sl, ee_tup, ee_lst, evEs, evZ, evO, evI, evT, evTo, evX, rd_d, fz_d, b_add, b_sub, b_mul, b_div, b_mod, b_p18, b_p8, b_p7, b_p6, c_lt, c_le, c_gt, c_ge, c_eq, c_ne, c_eqs, c_nes, c_nes0, c_nes1, c_eqs0, c_eqs1, l_t, l_l, bi_i, bi_max, bi_min, bi_tl, bi_tt, ix_l, ix_t, m_nil, m_cons, at0, at1, at2, flatD, seqOf, isNonW, nx_nx, nx_rt, nx_bk, nx_ct, nx_xc, next_nx, next_ct, next_bk, next_rt, Option.bind_some, Option.map_some, List.getElem?_cons_zero, List.getElem?_cons_succ, List.set_cons_zero, List.set_cons_succ, List.length_cons, List.length_nil, if_true, asgn, asgns, Nat.zero_add, Nat.reduceAdd, Nat.reduceLT, Nat.reduceLeDiff, reduceIte, reduceCtorEq, Bool.false_eq_true, Int.reduceNeg, sizeLine_val, and_self, true_and, and_true, b_m7, b_m86400, b_m1000000000, b_m60, b_m600, b_d7, b_d86400, b_d1000, b_p10_5, b_p10_9, b_p10_12, b_p10_15, ex]
            refine ss_step (ifs_ok ?_)
            have aft := after (j := j2) (v3 := some (.d (.int a))) (v5 := some (.d x)) hj2
            rw [c3] at aft
            rcases tw_cases (ha x hx) with ⟨z, rfl⟩ | ⟨w, rfl, hw⟩ | ⟨m2, es, hm2, rfl, hel, hea⟩
            · simp only [okR_bind, okR_map, okR_some, evS, ee_var, ee_cst, ee_fnv, ee_bin, ee_neg, ee_cmp, ee_chain, ee_isN, ee_notN, ee_and, ee_or, ee_not, ee_ite, ee_call, ee_callv, ee_bi, ee_isi1, ee_isi2, ee_mt0, ee_mt1, ee_ix, ee_sl, ee_tup, ee_lst, evEs, evZ, evO, evI, evT, evTo, evX, rd_d, fz_d, b_add, b_sub, b_mul, b_div, b_mod, b_p18, b_p8, b_p7, b_p6, c_lt, c_le, c_gt, c_ge, c_eq, c_ne, c_eqs, c_nes, c_nes0, c_nes1, c_eqs0, c_eqs1, l_t, l_l, bi_i, bi_max, bi_min, bi_tl, bi_tt, ix_l, ix_t, m_nil, m_cons, at0, at1, at2, flatD, seqOf, isNonW, nx_nx, nx_rt, nx_bk, nx_ct, nx_xc, next_nx, next_ct, next_bk, next_rt, Option.bind_some, Option.map_some, List.getElem?_cons_zero, List.getElem?_cons_succ, List.set_cons_zero, List.set_cons_succ, List.length_cons, List.length_nil, if_true, asgn, asgns, Nat.zero_add, Nat.reduceAdd, Nat.reduceLT, Nat.reduceLeDiff, reduceIte, reduceCtorEq, Bool.false_eq_true, Int.reduceNeg, sizeLine_val, and_self, true_and, and_true, b_m7, b_m86400, b_m1000000000, b_m60, b_m600, b_d7, b_d86400, b_d1000, b_p10_5, b_p10_9, b_p10_12, b_p10_15, isi_tup_i]
              refine ss_done ?_
              simp only [nx_nx]
              refine ss_done ?_
              simp only [nx_nx]
              exact aft
            · simp only [okR_bind, okR_map, okR_some, evS, ee_var, ee_cst, ee_fnv, ee_bin, ee_neg, ee_cmp, ee_chain, ee_isN, ee_notN, ee_and, ee_or, ee_not, ee_ite, ee_call, ee_callv, ee_bi, ee_isi1, ee_isi2, ee_mt0, ee_mt1, ee_ix, ee_sl, ee_tup, ee_lst, evEs, evZ, evO, evI, evT, evTo, evX, rd_d, fz_d, b_add, b_sub, b_mul, b_div, b_mod, b_p18, b_p8, b_p7, b_p6, c_lt, c_le, c_gt, c_ge, c_eq, c_ne, c_eqs, c_nes, c_nes0, c_nes1, c_eqs0, c_eqs1, l_t, l_l, bi_i, bi_max, bi_min, bi_tl, bi_tt, ix_l, ix_t, m_nil, m_cons, at0, at1, at2, flatD, seqOf, isNonW, nx_nx, nx_rt, nx_bk, nx_ct, nx_xc, next_nx, next_ct, next_bk, next_rt, Option.bind_some, Option.map_some, List.getElem?_cons_zero, List.getElem?_cons_succ, List.set_cons_zero, List.set_cons_succ, List.length_cons, List.length_nil, if_true, asgn, asgns, Nat.zero_add, Nat.reduceAdd, Nat.reduceLT, Nat.reduceLeDiff, reduceIte, reduceCtorEq, Bool.false_eq_true, Int.reduceNeg, sizeLine_val, and_self, true_and, and_true, b_m7, b_m86400, b_m1000000000, b_m60, b_m600, b_d7, b_d86400, b_d1000, b_p10_5, b_p10_9, b_p10_12, b_p10_15, isi_tup_s]
              refine ss_done ?_
              simp only [nx_nx]
              refine ss_done ?_
              simp only [nx_nx]
              exact aft
            · simp only [okR_bind, okR_map, okR_some, evS, ee_var, ee_cst, ee_fnv, ee_bin, ee_neg, ee_cmp, ee_chain, ee_isN, ee_notN, ee_and, ee_or, ee_not, ee_ite, ee_call, ee_callv, ee_bi, ee_isi1, ee_isi2, ee_mt0, ee_mt1, ee_ix, ee_sl, ee_tup, ee_lst, evEs, evZ, evO, evI, evT, evTo, evX, rd_d, fz_d, b_add, b_sub, b_mul, b_div, b_mod, b_p18, b_p8, b_p7, b_p6, c_lt, c_le, c_gt, c_ge, c_eq, c_ne, c_eqs, c_nes, c_nes0, c_nes1, c_eqs0, c_eqs1, l_t, l_l, bi_i, bi_max, bi_min, bi_tl, bi_tt, ix_l, ix_t, m_nil, m_cons, at0, at1, at2, flatD, seqOf, isNonW, nx_nx, nx_rt, nx_bk, nx_ct, nx_xc, next_nx, next_ct, next_bk, next_rt, Option.bind_some, Option.map_some, List.getElem?_cons_zero, List.getElem?_cons_succ, List.set_cons_zero, List.set_cons_succ, List.length_cons, List.length_nil, if_true, asgn, asgns, Nat.zero_add, Nat.reduceAdd, Nat.reduceLT, Nat.reduceLeDiff, reduceIte, reduceCtorEq, Bool.false_eq_true, Int.reduceNeg, sizeLine_val, and_self, true_and, and_true, b_m7, b_m86400, b_m1000000000, b_m60, b_m600, b_d7, b_d86400, b_d1000, b_p10_5, b_p10_9, b_p10_12, b_p10_15, isi_tup]
              by_cases h1 : 1 < (es.length : Int)
              · obtain ⟨v, hv, ev⟩ := at_last (ds := es) (by omega)
                rcases tw_cases (hea v hv) with ⟨z, rfl⟩ | ⟨w, rfl, hw⟩ | ⟨m3, fs, hm3, rfl, hfl, hfa⟩
                · simp only [okR_bind, okR_map, okR_some, evS, ee_var, ee_cst, ee_fnv, ee_bin, ee_neg, ee_cmp, ee_chain, ee_isN, ee_notN, ee_and, ee_or, ee_not, ee_ite, ee_call, ee_callv, ee_bi, ee_isi1, ee_isi2, ee_mt0, ee_mt1, ee_ix, ee_sl, ee_tup, ee_lst, evEs, evZ, evO, evI, evT, evTo, evX, rd_d, fz_d, b_add, b_sub, b_mul, b_div, b_mod, b_p18, b_p8, b_p7, b_p6, c_lt, c_le, c_gt, c_ge, c_eq, c_ne, c_eqs, c_nes, c_nes0, c_nes1, c_eqs0, c_eqs1, l_t, l_l, bi_i, bi_max, bi_min, bi_tl, bi_tt, ix_l, ix_t, m_nil, m_cons, at0, at1, at2, flatD, seqOf, isNonW, nx_nx, nx_rt, nx_bk, nx_ct, nx_xc, next_nx, next_ct, next_bk, next_rt, Option.bind_some, Option.map_some, List.getElem?_cons_zero, List.getElem?_cons_succ, List.set_cons_zero, List.set_cons_succ, List.length_cons, List.length_nil, if_true, asgn, asgns, Nat.zero_add, Nat.reduceAdd, Nat.reduceLT, Nat.reduceLeDiff, reduceIte, reduceCtorEq, Bool.false_eq_true, Int.reduceNeg, sizeLine_val, and_self, true_and, and_true, b_m7, b_m86400, b_m1000000000, b_m60, b_m600, b_d7, b_d86400, b_d1000, b_p10_5, b_p10_9, b_p10_12, b_p10_15, h1, decide_true, ev, isi_int_i]
                  have el : ∀ lo hi, (cutD es lo hi).length ≤ 1000 := fun lo hi => Nat.le_trans cutD_len hel
                  have e1 : bRun .add (.tup (cutD es none (some ((es.length : Int) - 1)))) (.tup [.int (z + 1)]) = some (.tup (cutD es none (some ((es.length : Int) - 1)) ++ [.int (z + 1)])) := b_addT (by have := el none (some ((es.length : Int) - 1)); simp; omega)
                  have e2 : ∀ c, bRun .add (.tup (cutD ds none (some (a + 1)))) (.tup [c]) = some (.tup (cutD ds none (some (a + 1)) ++ [c])) := fun c => b_addT (by have := cl none (some (a + 1)); simp; omega)
                  have e3 : ∀ c, bRun .add (.tup (cutD ds none (some (a + 1)) ++ [c])) (.tup (cutD ds (some (a + 1)) none)) = some (.tup (cutD ds none (some (a + 1)) ++ [c] ++ cutD ds (some (a + 1)) none)) := fun c => b_addT (by have := cl none (some (a + 1)); have := cl (some (a + 1)) none; simp; omega)
                  refine ss_step ?_; simp only [okR_bind, okR_map, okR_some, evS, ee_var, ee_cst, ee_fnv, ee_bin, ee_neg, ee_cmp, ee_chain, ee_isN, ee_notN, ee_and, ee_or, ee_not, ee_ite, ee_call, ee_callv, ee_bi, ee_isi1, ee_isi2, ee_mt0, ee_mt1, ee_ix, ee_sl, ee_tup, ee_lst, evEs, evZ, evO, evI, evT, evTo, evX, rd_d, fz_d, b_add, b_sub, b_mul, b_div, b_mod, b_p18, b_p8, b_p7, b_p6, c_lt, c_le, c_gt, c_ge, c_eq, c_ne, c_eqs, c_nes, c_nes0, c_nes1, c_eqs0, c_eqs1, l_t, l_l, bi_i, bi_max, bi_min, bi_tl, bi_tt, ix_l, ix_t, m_nil, m_cons, at0, at1, at2, flatD, seqOf, isNonW, nx_nx, nx_rt, nx_bk, nx_ct, nx_xc, next_nx, next_ct, next_bk, next_rt, Option.bind_some, Option.map_some, List.getElem?_cons_zero, List.getElem?_cons_succ, List.set_cons_zero, List.set_cons_succ, List.length_cons, List.length_nil, if_true, asgn, asgns, Nat.zero_add, Nat.reduceAdd, Nat.reduceLT, Nat.reduceLeDiff, reduceIte, reduceCtorEq, Bool.false_eq_true, Int.reduceNeg, sizeLine_val, and_self, true_and, and_true, b_m7, b_m86400, b_m1000000000, b_m60, b_m600, b_d7, b_d86400, b_d1000, b_p10_5, b_p10_9, b_p10_12, b_p10_15]
                  simp only [okR_bind, okR_map, okR_some, evS, ee_var, ee_cst, ee_fnv, ee_bin, ee_neg, ee_cmp, ee_chain, ee_isN, ee_notN, ee_and, ee_or, ee_not, ee_ite, ee_call, ee_callv, ee_bi, ee_isi1, ee_isi2, ee_mt0, ee_mt1, ee_ix, ee_sl, ee_tup, ee_lst, evEs, evZ, evO, evI, evT, evTo, evX, rd_d, fz_d, b_add, b_sub, b_mul, b_div, b_mod, b_p18, b_p8, b_p7, b_p6, c_lt, c_le, c_gt, c_ge, c_eq, c_ne, c_eqs, c_nes, c_nes0, c_nes1, c_eqs0, c_eqs1, l_t, l_l, bi_i, bi_max, bi_min, bi_tl, bi_tt, ix_l, ix_t, m_nil, m_cons, at0, at1, at2, flatD, seqOf, isNonW, nx_nx, nx_rt, nx_bk, nx_ct, nx_xc, next_nx, next_ct, next_bk, next_rt, Option.bind_some, Option.map_some, List.getElem?_cons_zero, List.getElem?_cons_succ, List.set_cons_zero, List.set_cons_succ, List.length_cons, List.length_nil, if_true, asgn, asgns, Nat.zero_add, Nat.reduceAdd, Nat.reduceLT, Nat.reduceLeDiff, reduceIte, reduceCtorEq, Bool.false_eq_true, Int.reduceNeg, sizeLine_val, and_self, true_and, and_true, b_m7, b_m86400, b_m1000000000, b_m60, b_m600, b_d7, b_d86400, b_d1000, b_p10_5, b_p10_9, b_p10_12, b_p10_15, sl_t, ev, e1, e2, e3]
                  refine fin_rl rfl (q _ j2 (cv_tup (by simp [sizeLine_val]; have := cl none (some (a + 1)); have := cl (some (a + 1)) none; omega) (cv_app (cv_app (ccv _ _) fun c hc => ?_) (ccv _ _))) hj2)
                  obtain rfl : c = _ := by simpa using hc
                  cases hm2
                  exact cv_up (cv_tup (by have := el none (some ((es.length : Int) - 1)); simp [sizeLine_val]; omega) (cv_app (fun x hx => cv_le (tw_cv (hea x (cutD_mem hx))) (by omega)) fun c hc => by
                    obtain rfl : c = _ := by simpa using hc
                    exact cv_int))
                · simp only [okR_bind, okR_map, okR_some, evS, ee_var, ee_cst, ee_fnv, ee_bin, ee_neg, ee_cmp, ee_chain, ee_isN, ee_notN, ee_and, ee_or, ee_not, ee_ite, ee_call, ee_callv, ee_bi, ee_isi1, ee_isi2, ee_mt0, ee_mt1, ee_ix, ee_sl, ee_tup, ee_lst, evEs, evZ, evO, evI, evT, evTo, evX, rd_d, fz_d, b_add, b_sub, b_mul, b_div, b_mod, b_p18, b_p8, b_p7, b_p6, c_lt, c_le, c_gt, c_ge, c_eq, c_ne, c_eqs, c_nes, c_nes0, c_nes1, c_eqs0, c_eqs1, l_t, l_l, bi_i, bi_max, bi_min, bi_tl, bi_tt, ix_l, ix_t, m_nil, m_cons, at0, at1, at2, flatD, seqOf, isNonW, nx_nx, nx_rt, nx_bk, nx_ct, nx_xc, next_nx, next_ct, next_bk, next_rt, Option.bind_some, Option.map_some, List.getElem?_cons_zero, List.getElem?_cons_succ, List.set_cons_zero, List.set_cons_succ, List.length_cons, List.length_nil, if_true, asgn, asgns, Nat.zero_add, Nat.reduceAdd, Nat.reduceLT, Nat.reduceLeDiff, reduceIte, reduceCtorEq, Bool.false_eq_true, Int.reduceNeg, sizeLine_val, and_self, true_and, and_true, b_m7, b_m86400, b_m1000000000, b_m60, b_m600, b_d7, b_d86400, b_d1000, b_p10_5, b_p10_9, b_p10_12, b_p10_15, h1, decide_true, ev, isi_int_s]
                  refine ss_done ?_
                  simp only [nx_nx]
                  refine ss_done ?_
                  simp only [nx_nx]
                  exact aft
                · simp only [okR_bind, okR_map, okR_some, evS, ee_var, ee_cst, ee_fnv, ee_bin, ee_neg, ee_cmp, ee_chain, ee_isN, ee_notN, ee_and, ee_or, ee_not, ee_ite, ee_call, ee_callv, ee_bi, ee_isi1, ee_isi2, ee_mt0, ee_mt1, ee_ix, ee_sl, ee_tup, ee_lst, evEs, evZ, evO, evI, evT, evTo, evX, rd_d, fz_d, b_add, b_sub, b_mul, b_div, b_mod, b_p18, b_p8, b_p7, b_p6, c_lt, c_le, c_gt, c_ge, c_eq, c_ne, c_eqs, c_nes, c_nes0, c_nes1, c_eqs0, c_eqs1, l_t, l_l, bi_i, bi_max, bi_min, bi_tl, bi_tt, ix_l, ix_t, m_nil, m_cons, at0, at1, at2, flatD, seqOf, isNonW, nx_nx, nx_rt, nx_bk, nx_ct, nx_xc, next_nx, next_ct, next_bk, next_rt, Option.bind_some, Option.map_some, List.getElem?_cons_zero, List.getElem?_cons_succ, List.set_cons_zero, List.set_cons_succ, List.length_cons, List.length_nil, if_true, asgn, asgns, Nat.zero_add, Nat.reduceAdd, Nat.reduceLT, Nat.reduceLeDiff, reduceIte, reduceCtorEq, Bool.false_eq_true, Int.reduceNeg, sizeLine_val, and_self, true_and, and_true, b_m7, b_m86400, b_m1000000000, b_m60, b_m600, b_d7, b_d86400, b_d1000, b_p10_5, b_p10_9, b_p10_12, b_p10_15, h1, decide_true, ev, isi_int_t]
                  refine ss_done ?_
                  simp only [nx_nx]
                  refine ss_done ?_
                  simp only [nx_nx]
                  exact aft
              · simp only [okR_bind, okR_map, okR_some, evS, ee_var, ee_cst, ee_fnv, ee_bin, ee_neg, ee_cmp, ee_chain, ee_isN, ee_notN, ee_and, ee_or, ee_not, ee_ite, ee_call, ee_callv, ee_bi, ee_isi1, ee_isi2, ee_mt0, ee_mt1, ee_ix, ee_sl, ee_tup, ee_lst, evEs, evZ, evO, evI, evT, evTo, evX, rd_d, fz_d, b_add, b_sub, b_mul, b_div, b_mod, b_p18, b_p8, b_p7, b_p6, c_lt, c_le, c_gt, c_ge, c_eq, c_ne, c_eqs, c_nes, c_nes0, c_nes1, c_eqs0, c_eqs1, l_t, l_l, bi_i, bi_max, bi_min, bi_tl, bi_tt, ix_l, ix_t, m_nil, m_cons, at0, at1, at2, flatD, seqOf, isNonW, nx_nx, nx_rt, nx_bk, nx_ct, nx_xc, next_nx, next_ct, next_bk, next_rt, Option.bind_some, Option.map_some, List.getElem?_cons_zero, List.getElem?_cons_succ, List.set_cons_zero, List.set_cons_succ, List.length_cons, List.length_nil, if_true, asgn, asgns, Nat.zero_add, Nat.reduceAdd, Nat.reduceLT, Nat.reduceLeDiff, reduceIte, reduceCtorEq, Bool.false_eq_true, Int.reduceNeg, sizeLine_val, and_self, true_and, and_true, b_m7, b_m86400, b_m1000000000, b_m60, b_m600, b_d7, b_d86400, b_d1000, b_p10_5, b_p10_9, b_p10_12, b_p10_15, h1, decide_false]
                refine ss_done ?_
                simp only [nx_nx]
                refine ss_done ?_
                simp only [nx_nx]
                exact aft
          · simp only [okR_bind, okR_map, okR_some, evS, ee_var, ee_cst, ee_fnv, ee_bin, ee_neg, ee_cmp, ee_chain, ee_isN, ee_notN, ee_and, ee_or, ee_not, ee_ite, ee_call, ee_callv, ee_bi, ee_isi1, ee_isi2, ee_mt0, ee_mt1, ee_ix, ee_sl, ee_tup, ee_lst, evEs, evZ, evO, evI, evT, evTo, evX, rd_d, fz_d, b_add, b_sub, b_mul, b_div, b_mod, b_p18, b_p8, b_p7, b_p6, c_lt, c_le, c_gt, c_ge, c_eq, c_ne, c_eqs, c_nes, c_nes0, c_nes1, c_eqs0, c_eqs1, l_t, l_l, bi_i, bi_max, bi_min, bi_tl, bi_tt, ix_l, ix_t, m_nil, m_cons, at0, at1, at2, flatD, seqOf, isNonW, nx_nx, nx_rt, nx_bk, nx_ct, nx_xc, next_nx, next_ct, next_bk, next_rt, Option.bind_some, Option.map_some, List.getElem?_cons_zero, List.getElem?_cons_succ, List.set_cons_zero, List.set_cons_succ, List.length_cons, List.length_nil, if_true, asgn, asgns, Nat.zero_add, Nat.reduceAdd, Nat.reduceLT, Nat.reduceLeDiff, reduceIte, reduceCtorEq, Bool.false_eq_true, Int.reduceNeg, sizeLine_val, and_self, true_and, and_true, b_m7, b_m86400, b_m1000000000, b_m60, b_m600, b_d7, b_d86400, b_d1000, b_p10_5, b_p10_9, b_p10_12, b_p10_15, c3, decide_false]
            refine ss_done ?_
            simp only [nx_nx]
            exact after hj
        · have hc : ∀ n m0 : Int, 0 ≤ m0 → evT (callF P (k + m + 4)) (.and (.val (.isi1 (.var 2) "tuple")) (.and (.val (.cmp .eq (.var 4) (.cst (.int n)))) (.val (.cmp .gt (.bi .len (.cons (.var 2) .nil)) (.cst (.int m0)))))) [some (.d r), some (.mu 0), some (.d (.tup ds)), none, some (.d (.int t)), none] (.lst [.int j] :: ms) = some (false, .lst [.int j] :: ms) := fun n m0 hm0 => by
            have hn' : ¬ m0 < (ds.length : Int) := by omega
            by_cases c : t = n
            · subst c
              simp [evSs, evS, evE, evEs, evZ, evO, evI, evT, evTo, rd_d, fz_d, b_add, b_sub, b_mul, b_div, b_mod, b_p18, b_p8, b_p7, b_p6, c_lt, c_le, c_gt, c_ge, c_eq, c_ne, c_eqs, c_nes, c_nes0, c_nes1, c_eqs0, c_eqs1, l_t, l_l, bi_i, bi_max, bi_min, bi_tl, bi_tt, ix_l, ix_t, m_nil, m_cons, at0, at1, at2, flatD, seqOf, isNonW, fin, evX, isi_tup, hn']
            · simp [evSs, evS, evE, evEs, evZ, evO, evI, evT, evTo, rd_d, fz_d, b_add, b_sub, b_mul, b_div, b_mod, b_p18, b_p8, b_p7, b_p6, c_lt, c_le, c_gt, c_ge, c_eq, c_ne, c_eqs, c_nes, c_nes0, c_nes1, c_eqs0, c_eqs1, l_t, l_l, bi_i, bi_max, bi_min, bi_tl, bi_tt, ix_l, ix_t, m_nil, m_cons, at0, at1, at2, flatD, seqOf, isNonW, fin, evX, isi_tup, c]
          by_cases c0 : t = 0
          · simp only [okR_bind, okR_map, okR_some, evS, ee_var, ee_cst, ee_fnv, ee_bin, ee_neg, ee_cmp, ee_chain, ee_isN, ee_notN, ee_and, ee_or, ee_not, ee_ite, ee_call, ee_callv, ee_bi, ee_isi1, ee_isi2, ee_mt0, ee_mt1, ee_ix, ee_sl, ee_tup, ee_lst, evEs, evZ, evO, evI, evT, evTo, evX, rd_d, fz_d, b_add, b_sub, b_mul, b_div, b_mod, b_p18, b_p8, b_p7, b_p6, c_lt, c_le, c_gt, c_ge, c_eq, c_ne, c_eqs, c_nes, c_nes0, c_nes1, c_eqs0, c_eqs1, l_t, l_l, bi_i, bi_max, bi_min, bi_tl, bi_tt, ix_l, ix_t, m_nil, m_cons, at0, at1, at2, flatD, seqOf, isNonW, nx_nx, nx_rt, nx_bk, nx_ct, nx_xc, next_nx, next_ct, next_bk, next_rt, Option.bind_some, Option.map_some, List.getElem?_cons_zero, List.getElem?_cons_succ, List.set_cons_zero, List.set_cons_succ, List.length_cons, List.length_nil, if_true, asgn, asgns, Nat.zero_add, Nat.reduceAdd, Nat.reduceLT, Nat.reduceLeDiff, reduceIte, reduceCtorEq, Bool.false_eq_true, Int.reduceNeg, sizeLine_val, and_self, true_and, and_true, b_m7, b_m86400, b_m1000000000, b_m60, b_m600, b_d7, b_d86400, b_d1000, b_p10_5, b_p10_9, b_p10_12, b_p10_15, c0, hn, decide_true, decide_false]
            rw [c0] at hc
            refine ss_done ?_
            simp only [nx_nx]
            refine ss_step (ifs_ok (OkR.of (hc 1 0 (by omega)) ?_))
            simp only [okR_bind, okR_map, okR_some, evS, ee_var, ee_cst, ee_fnv, ee_bin, ee_neg, ee_cmp, ee_chain, ee_isN, ee_notN, ee_and, ee_or, ee_not, ee_ite, ee_call, ee_callv, ee_bi, ee_isi1, ee_isi2, ee_mt0, ee_mt1, ee_ix, ee_sl, ee_tup, ee_lst, evEs, evZ, evO, evI, evT, evTo, evX, rd_d, fz_d, b_add, b_sub, b_mul, b_div, b_mod, b_p18, b_p8, b_p7, b_p6, c_lt, c_le, c_gt, c_ge, c_eq, c_ne, c_eqs, c_nes, c_nes0, c_nes1, c_eqs0, c_eqs1, l_t, l_l, bi_i, bi_max, bi_min, bi_tl, bi_tt, ix_l, ix_t, m_nil, m_cons, at0, at1, at2, flatD, seqOf, isNonW, nx_nx, nx_rt, nx_bk, nx_ct, nx_xc, next_nx, next_ct, next_bk, next_rt, Option.bind_some, Option.map_some, List.getElem?_cons_zero, List.getElem?_cons_succ, List.set_cons_zero, List.set_cons_succ, List.length_cons, List.length_nil, if_true, asgn, asgns, Nat.zero_add, Nat.reduceAdd, Nat.reduceLT, Nat.reduceLeDiff, reduceIte, reduceCtorEq, Bool.false_eq_true, Int.reduceNeg, sizeLine_val, and_self, true_and, and_true, b_m7, b_m86400, b_m1000000000, b_m60, b_m600, b_d7, b_d86400, b_d1000, b_p10_5, b_p10_9, b_p10_12, b_p10_15]
            refine ss_done ?_
            simp only [nx_nx]
            refine ss_step (ifs_ok (OkR.of (hc 3 0 (by omega)) ?_))
            simp only [okR_bind, okR_map, okR_some, evS, ee_var, ee_cst, ee_fnv, ee_bin, ee_neg, ee_cmp, ee_chain, ee_isN, ee_notN, ee_and, ee_or, ee_not, ee_ite, ee_call, ee_callv, ee_bi, ee_isi1, ee_isi2, ee_mt0, ee_mt1, ee_ix, ee_sl, ee_tup, ee_lst, evEs, evZ, evO, evI, evT, evTo, evX, rd_d, fz_d, b_add, b_sub, b_mul, b_div, b_mod, b_p18, b_p8, b_p7, b_p6, c_lt, c_le, c_gt, c_ge, c_eq, c_ne, c_eqs, c_nes, c_nes0, c_nes1, c_eqs0, c_eqs1, l_t, l_l, bi_i, bi_max, bi_min, bi_tl, bi_tt, ix_l, ix_t, m_nil, m_cons, at0, at1, at2, flatD, seqOf, isNonW, nx_nx, nx_rt, nx_bk, nx_ct, nx_xc, next_nx, next_ct, next_bk, next_rt, Option.bind_some, Option.map_some, List.getElem?_cons_zero, List.getElem?_cons_succ, List.set_cons_zero, List.set_cons_succ, List.length_cons, List.length_nil, if_true, asgn, asgns, Nat.zero_add, Nat.reduceAdd, Nat.reduceLT, Nat.reduceLeDiff, reduceIte, reduceCtorEq, Bool.false_eq_true, Int.reduceNeg, sizeLine_val, and_self, true_and, and_true, b_m7, b_m86400, b_m1000000000, b_m60, b_m600, b_d7, b_d86400, b_d1000, b_p10_5, b_p10_9, b_p10_12, b_p10_15]
            refine ss_done ?_
            simp only [nx_nx]
            refine ss_step (ifs_ok (OkR.of (hc 2 1 (by omega)) ?_))
            simp only [okR_bind, okR_map, okR_some, evS, ee_var, ee_cst, ee_fnv, ee_bin, ee_neg, ee_cmp, ee_chain, ee_isN, ee_notN, ee_and, ee_or, ee_not, ee_ite, ee_call, ee_callv, ee_bi, ee_isi1, ee_isi2, ee_mt0, ee_mt1, ee_ix, ee_sl, ee_tup, ee_lst, evEs, evZ, evO, evI, evT, evTo, evX, rd_d, fz_d, b_add, b_sub, b_mul, b_div, b_mod, b_p18, b_p8, b_p7, b_p6, c_lt, c_le, c_gt, c_ge, c_eq, c_ne, c_eqs, c_nes, c_nes0, c_nes1, c_eqs0, c_eqs1, l_t, l_l, bi_i, bi_max, bi_min, bi_tl, bi_tt, ix_l, ix_t, m_nil, m_cons, at0, at1, at2, flatD, seqOf, isNonW, nx_nx, nx_rt, nx_bk, nx_ct, nx_xc, next_nx, next_ct, next_bk, next_rt, Option.bind_some, Option.map_some, List.getElem?_cons_zero, List.getElem?_cons_succ, List.set_cons_zero, List.set_cons_succ, List.length_cons, List.length_nil, if_true, asgn, asgns, Nat.zero_add, Nat.reduceAdd, Nat.reduceLT, Nat.reduceLeDiff, reduceIte, reduceCtorEq, Bool.false_eq_true, Int.reduceNeg, sizeLine_val, and_self, true_and, and_true, b_m7, b_m86400, b_m1000000000, b_m60, b_m600, b_d7, b_d86400, b_d1000, b_p10_5, b_p10_9, b_p10_12, b_p10_15]
            refine ss_done ?_
            simp only [nx_nx]
            refine ss_step (ifs_ok ?_)
            simp only [okR_bind, okR_map, okR_some, evS, ee_var, ee_cst, ee_fnv, ee_bin, ee_neg, ee_cmp, ee_chain, ee_isN, ee_notN, ee_and, ee_or, ee_not, ee_ite, ee_call, ee_callv, ee_bi, ee_isi1, ee_isi2, ee_mt0, ee_mt1, ee_ix, ee_sl, ee_tup, ee_lst, evEs, evZ, evO, evI, evT, evTo, evX, rd_d, fz_d, b_add, b_sub, b_mul, b_div, b_mod, b_p18, b_p8, b_p7, b_p6, c_lt, c_le, c_gt, c_ge, c_eq, c_ne, c_eqs, c_nes, c_nes0, c_nes1, c_eqs0, c_eqs1, l_t, l_l, bi_i, bi_max, bi_min, bi_tl, bi_tt, ix_l, ix_t, m_nil, m_cons, at0, at1, at2, flatD, seqOf, isNonW, nx_nx, nx_rt, nx_bk, nx_ct, nx_xc, next_nx, next_ct, next_bk, next_rt, Option.bind_some, Option.map_some, List.getElem?_cons_zero, List.getElem?_cons_succ, List.set_cons_zero, List.set_cons_succ, List.length_cons, List.length_nil, if_true, asgn, asgns, Nat.zero_add, Nat.reduceAdd, Nat.reduceLT, Nat.reduceLeDiff, reduceIte, reduceCtorEq, Bool.false_eq_true, Int.reduceNeg, sizeLine_val, and_self, true_and, and_true, b_m7, b_m86400, b_m1000000000, b_m60, b_m600, b_d7, b_d86400, b_d1000, b_p10_5, b_p10_9, b_p10_12, b_p10_15, isi_int_t]
            refine ss_done ?_
            simp only [nx_nx]
            refine ss_step (ifs_ok ?_)
            simp only [okR_bind, okR_map, okR_some, evS, ee_var, ee_cst, ee_fnv, ee_bin, ee_neg, ee_cmp, ee_chain, ee_isN, ee_notN, ee_and, ee_or, ee_not, ee_ite, ee_call, ee_callv, ee_bi, ee_isi1, ee_isi2, ee_mt0, ee_mt1, ee_ix, ee_sl, ee_tup, ee_lst, evEs, evZ, evO, evI, evT, evTo, evX, rd_d, fz_d, b_add, b_sub, b_mul, b_div, b_mod, b_p18, b_p8, b_p7, b_p6, c_lt, c_le, c_gt, c_ge, c_eq, c_ne, c_eqs, c_nes, c_nes0, c_nes1, c_eqs0, c_eqs1, l_t, l_l, bi_i, bi_max, bi_min, bi_tl, bi_tt, ix_l, ix_t, m_nil, m_cons, at0, at1, at2, flatD, seqOf, isNonW, nx_nx, nx_rt, nx_bk, nx_ct, nx_xc, next_nx, next_ct, next_bk, next_rt, Option.bind_some, Option.map_some, List.getElem?_cons_zero, List.getElem?_cons_succ, List.set_cons_zero, List.set_cons_succ, List.length_cons, List.length_nil, if_true, asgn, asgns, Nat.zero_add, Nat.reduceAdd, Nat.reduceLT, Nat.reduceLeDiff, reduceIte, reduceCtorEq, Bool.false_eq_true, Int.reduceNeg, sizeLine_val, and_self, true_and, and_true, b_m7, b_m86400, b_m1000000000, b_m60, b_m600, b_d7, b_d86400, b_d1000, b_p10_5, b_p10_9, b_p10_12, b_p10_15, isi_str_t]
            refine ss_done ?_
            simp only [nx_nx]
            refine ss_step ?_; simp only [okR_bind, okR_map, okR_some, evS, ee_var, ee_cst, ee_fnv, ee_bin, ee_neg, ee_cmp, ee_chain, ee_isN, ee_notN, ee_and, ee_or, ee_not, ee_ite, ee_call, ee_callv, ee_bi, ee_isi1, ee_isi2, ee_mt0, ee_mt1, ee_ix, ee_sl, ee_tup, ee_lst, evEs, evZ, evO, evI, evT, evTo, evX, rd_d, fz_d, b_add, b_sub, b_mul, b_div, b_mod, b_p18, b_p8, b_p7, b_p6, c_lt, c_le, c_gt, c_ge, c_eq, c_ne, c_eqs, c_nes, c_nes0, c_nes1, c_eqs0, c_eqs1, l_t, l_l, bi_i, bi_max, bi_min, bi_tl, bi_tt, ix_l, ix_t, m_nil, m_cons, at0, at1, at2, flatD, seqOf, isNonW, nx_nx, nx_rt, nx_bk, nx_ct, nx_xc, next_nx, next_ct, next_bk, next_rt, Option.bind_some, Option.map_some, List.getElem?_cons_zero, List.getElem?_cons_succ, List.set_cons_zero, List.set_cons_succ, List.length_cons, List.length_nil, if_true, asgn, asgns, Nat.zero_add, Nat.reduceAdd, Nat.reduceLT, Nat.reduceLeDiff, reduceIte, reduceCtorEq, Bool.false_eq_true, Int.reduceNeg, sizeLine_val, and_self, true_and, and_true, b_m7, b_m86400, b_m1000000000, b_m60, b_m600, b_d7, b_d86400, b_d1000, b_p10_5, b_p10_9, b_p10_12, b_p10_15]
            refine L.pickL (k := k + m + 1) hr hj ?_ fun b j2 hb hj2 => ?_
            · exact fun z => nomatch z
            simp only [okR_bind, okR_map, okR_some, evS, ee_var, ee_cst, ee_fnv, ee_bin, ee_neg, ee_cmp, ee_chain, ee_isN, ee_notN, ee_and, ee_or, ee_not, ee_ite, ee_call, ee_callv, ee_bi, ee_isi1, ee_isi2, ee_mt0, ee_mt1, ee_ix, ee_sl, ee_tup, ee_lst, evEs, evZ, evO, evI, evT, evTo, evX, rd_d, fz_d, b_add, b_sub, b_mul, b_div, b_mod, b_p18, b_p8, b_p7, b_p6, c_lt, c_le, c_gt, c_ge, c_eq, c_ne, c_eqs, c_nes, c_nes0, c_nes1, c_eqs0, c_eqs1, l_t, l_l, bi_i, bi_max, bi_min, bi_tl, bi_tt, ix_l, ix_t, m_nil, m_cons, at0, at1, at2, flatD, seqOf, isNonW, nx_nx, nx_rt, nx_bk, nx_ct, nx_xc, next_nx, next_ct, next_bk, next_rt, Option.bind_some, Option.map_some, List.getElem?_cons_zero, List.getElem?_cons_succ, List.set_cons_zero, List.set_cons_succ, List.length_cons, List.length_nil, if_true, asgn, asgns, Nat.zero_add, Nat.reduceAdd, Nat.reduceLT, Nat.reduceLeDiff, reduceIte, reduceCtorEq, Bool.false_eq_true, Int.reduceNeg, sizeLine_val, and_self, true_and, and_true, b_m7, b_m86400, b_m1000000000, b_m60, b_m600, b_d7, b_d86400, b_d1000, b_p10_5, b_p10_9, b_p10_12, b_p10_15]
            exact fin_rl rfl (q b j2 (cv_le (pick_last b hb) (by omega)) hj2)
          · simp only [okR_bind, okR_map, okR_some, evS, ee_var, ee_cst, ee_fnv, ee_bin, ee_neg, ee_cmp, ee_chain, ee_isN, ee_notN, ee_and, ee_or, ee_not, ee_ite, ee_call, ee_callv, ee_bi, ee_isi1, ee_isi2, ee_mt0, ee_mt1, ee_ix, ee_sl, ee_tup, ee_lst, evEs, evZ, evO, evI, evT, evTo, evX, rd_d, fz_d, b_add, b_sub, b_mul, b_div, b_mod, b_p18, b_p8, b_p7, b_p6, c_lt, c_le, c_gt, c_ge, c_eq, c_ne, c_eqs, c_nes, c_nes0, c_nes1, c_eqs0, c_eqs1, l_t, l_l, bi_i, bi_max, bi_min, bi_tl, bi_tt, ix_l, ix_t, m_nil, m_cons, at0, at1, at2, flatD, seqOf, isNonW, nx_nx, nx_rt, nx_bk, nx_ct, nx_xc, next_nx, next_ct, next_bk, next_rt, Option.bind_some, Option.map_some, List.getElem?_cons_zero, List.getElem?_cons_succ, List.set_cons_zero, List.set_cons_succ, List.length_cons, List.length_nil, if_true, asgn, asgns, Nat.zero_add, Nat.reduceAdd, Nat.reduceLT, Nat.reduceLeDiff, reduceIte, reduceCtorEq, Bool.false_eq_true, Int.reduceNeg, sizeLine_val, and_self, true_and, and_true, b_m7, b_m86400, b_m1000000000, b_m60, b_m600, b_d7, b_d86400, b_d1000, b_p10_5, b_p10_9, b_p10_12, b_p10_15, c0, decide_false]
            refine ss_done ?_
            simp only [nx_nx]
            refine ss_step (ifs_ok (OkR.of (hc 1 0 (by omega)) ?_))
            simp only [okR_bind, okR_map, okR_some, evS, ee_var, ee_cst, ee_fnv, ee_bin, ee_neg, ee_cmp, ee_chain, ee_isN, ee_notN, ee_and, ee_or, ee_not, ee_ite, ee_call, ee_callv, ee_bi, ee_isi1, ee_isi2, ee_mt0, ee_mt1, ee_ix, ee_sl, ee_tup, ee_lst, evEs, evZ, evO, evI, evT, evTo, evX, rd_d, fz_d, b_add, b_sub, b_mul, b_div, b_mod, b_p18, b_p8, b_p7, b_p6, c_lt, c_le, c_gt, c_ge, c_eq, c_ne, c_eqs, c_nes, c_nes0, c_nes1, c_eqs0, c_eqs1, l_t, l_l, bi_i, bi_max, bi_min, bi_tl, bi_tt, ix_l, ix_t, m_nil, m_cons, at0, at1, at2, flatD, seqOf, isNonW, nx_nx, nx_rt, nx_bk, nx_ct, nx_xc, next_nx, next_ct, next_bk, next_rt, Option.bind_some, Option.map_some, List.getElem?_cons_zero, List.getElem?_cons_succ, List.set_cons_zero, List.set_cons_succ, List.length_cons, List.length_nil, if_true, asgn, asgns, Nat.zero_add, Nat.reduceAdd, Nat.reduceLT, Nat.reduceLeDiff, reduceIte, reduceCtorEq, Bool.false_eq_true, Int.reduceNeg, sizeLine_val, and_self, true_and, and_true, b_m7, b_m86400, b_m1000000000, b_m60, b_m600, b_d7, b_d86400, b_d1000, b_p10_5, b_p10_9, b_p10_12, b_p10_15]
            refine ss_done ?_
            simp only [nx_nx]
            refine ss_step (ifs_ok (OkR.of (hc 3 0 (by omega)) ?_))
            simp only [okR_bind, okR_map, okR_some, evS, ee_var, ee_cst, ee_fnv, ee_bin, ee_neg, ee_cmp, ee_chain, ee_isN, ee_notN, ee_and, ee_or, ee_not, ee_ite, ee_call, ee_callv, ee_bi, ee_isi1, ee_isi2, ee_mt0, ee_mt1, ee_ix, ee_sl, ee_tup, ee_lst, evEs, evZ, evO, evI, evT, evTo, evX, rd_d, fz_d, b_add, b_sub, b_mul, b_div, b_mod, b_p18, b_p8, b_p7, b_p6, c_lt, c_le, c_gt, c_ge, c_eq, c_ne, c_eqs, c_nes, c_nes0, c_nes1, c_eqs0, c_eqs1, l_t, l_l, bi_i, bi_max, bi_min, bi_tl, bi_tt, ix_l, ix_t, m_nil, m_cons, at0, at1, at2, flatD, seqOf, isNonW, nx_nx, nx_rt, nx_bk, nx_ct, nx_xc, next_nx, next_ct, next_bk, next_rt, Option.bind_some, Option.map_some, List.getElem?_cons_zero, List.getElem?_cons_succ, List.set_cons_zero, List.set_cons_succ, List.length_cons, List.length_nil, if_true, asgn, asgns, Nat.zero_add, Nat.reduceAdd, Nat.reduceLT, Nat.reduceLeDiff, reduceIte, reduceCtorEq, Bool.false_eq_true, Int.reduceNeg, sizeLine_val, and_self, true_and, and_true, b_m7, b_m86400, b_m1000000000, b_m60, b_m600, b_d7, b_d86400, b_d1000, b_p10_5, b_p10_9, b_p10_12, b_p10_15]
            refine ss_done ?_
            simp only [nx_nx]
            refine ss_step (ifs_ok (OkR.of (hc 2 1 (by omega)) ?_))
            simp only [okR_bind, okR_map, okR_some, evS, ee_var, ee_cst, ee_fnv, ee_bin, ee_neg, ee_cmp, ee_chain, ee_isN, ee_notN, ee_and, ee_or, ee_not, ee_ite, ee_call, ee_callv, ee_bi, ee_isi1, ee_isi2, ee_mt0, ee_mt1, ee_ix, ee_sl, ee_tup, ee_lst, evEs, evZ, evO, evI, evT, evTo, evX, rd_d, fz_d, b_add, b_sub, b_mul, b_div, b_mod, b_p18, b_p8, b_p7, b_p6, c_lt, c_le, c_gt, c_ge, c_eq, c_ne, c_eqs, c_nes, c_nes0, c_nes1, c_eqs0, c_eqs1, l_t, l_l, bi_i, bi_max, bi_min, bi_tl, bi_tt, ix_l, ix_t, m_nil, m_cons, at0, at1, at2, flatD, seqOf, isNonW, nx_nx, nx_rt, nx_bk, nx_ct, nx_xc, next_nx, next_ct, next_bk, next_rt, Option.bind_some, Option.map_some, List.getElem?_cons_zero, List.getElem?_cons_succ, List.set_cons_zero, List.set_cons_succ, List.length_cons, List.length_nil, if_true, asgn, asgns, Nat.zero_add, Nat.reduceAdd, Nat.reduceLT, Nat.reduceLeDiff, reduceIte, reduceCtorEq, Bool.false_eq_true, Int.reduceNeg, sizeLine_val, and_self, true_and, and_true, b_m7, b_m86400, b_m1000000000, b_m60, b_m600, b_d7, b_d86400, b_d1000, b_p10_5, b_p10_9, b_p10_12, b_p10_15]
            refine ss_done ?_
            simp only [nx_nx]
            refine ss_step (ifs_ok ?_)
            simp only [okR_bind, okR_map, okR_some, evS, ee_var, ee_cst, ee_fnv, ee_bin, ee_neg, ee_cmp, ee_chain, ee_isN, ee_notN, ee_and, ee_or, ee_not, ee_ite, ee_call, ee_callv, ee_bi, ee_isi1, ee_isi2, ee_mt0, ee_mt1, ee_ix, ee_sl, ee_tup, ee_lst, evEs, evZ, evO, evI, evT, evTo, evX, rd_d, fz_d, b_add, b_sub, b_mul, b_div, b_mod, b_p18, b_p8, b_p7, b_p6, c_lt, c_le, c_gt, c_ge, c_eq, c_ne, c_eqs, c_nes, c_nes0, c_nes1, c_eqs0, c_eqs1, l_t, l_l, bi_i, bi_max, bi_min, bi_tl, bi_tt, ix_l, ix_t, m_nil, m_cons, at0, at1, at2, flatD, seqOf, isNonW, nx_nx, nx_rt, nx_bk, nx_ct, nx_xc, next_nx, next_ct, next_bk, next_rt, Option.bind_some, Option.map_some, List.getElem?_cons_zero, List.getElem?_cons_succ, List.set_cons_zero, List.set_cons_succ, List.length_cons, List.length_nil, if_true, asgn, asgns, Nat.zero_add, Nat.reduceAdd, Nat.reduceLT, Nat.reduceLeDiff, reduceIte, reduceCtorEq, Bool.false_eq_true, Int.reduceNeg, sizeLine_val, and_self, true_and, and_true, b_m7, b_m86400, b_m1000000000, b_m60, b_m600, b_d7, b_d86400, b_d1000, b_p10_5, b_p10_9, b_p10_12, b_p10_15, isi_int_t]
            refine ss_done ?_
            simp only [nx_nx]
            refine ss_step (ifs_ok ?_)
            simp only [okR_bind, okR_map, okR_some, evS, ee_var, ee_cst, ee_fnv, ee_bin, ee_neg, ee_cmp, ee_chain, ee_isN, ee_notN, ee_and, ee_or, ee_not, ee_ite, ee_call, ee_callv, ee_bi, ee_isi1, ee_isi2, ee_mt0, ee_mt1, ee_ix, ee_sl, ee_tup, ee_lst, evEs, evZ, evO, evI, evT, evTo, evX, rd_d, fz_d, b_add, b_sub, b_mul, b_div, b_mod, b_p18, b_p8, b_p7, b_p6, c_lt, c_le, c_gt, c_ge, c_eq, c_ne, c_eqs, c_nes, c_nes0, c_nes1, c_eqs0, c_eqs1, l_t, l_l, bi_i, bi_max, bi_min, bi_tl, bi_tt, ix_l, ix_t, m_nil, m_cons, at0, at1, at2, flatD, seqOf, isNonW, nx_nx, nx_rt, nx_bk, nx_ct, nx_xc, next_nx, next_ct, next_bk, next_rt, Option.bind_some, Option.map_some, List.getElem?_cons_zero, List.getElem?_cons_succ, List.set_cons_zero, List.set_cons_succ, List.length_cons, List.length_nil, if_true, asgn, asgns, Nat.zero_add, Nat.reduceAdd, Nat.reduceLT, Nat.reduceLeDiff, reduceIte, reduceCtorEq, Bool.false_eq_true, Int.reduceNeg, sizeLine_val, and_self, true_and, and_true, b_m7, b_m86400, b_m1000000000, b_m60, b_m600, b_d7, b_d86400, b_d1000, b_p10_5, b_p10_9, b_p10_12, b_p10_15, isi_str_t]
            refine ss_done ?_
            simp only [nx_nx]
            refine ss_step ?_; simp only [okR_bind, okR_map, okR_some, evS, ee_var, ee_cst, ee_fnv, ee_bin, ee_neg, ee_cmp, ee_chain, ee_isN, ee_notN, ee_and, ee_or, ee_not, ee_ite, ee_call, ee_callv, ee_bi, ee_isi1, ee_isi2, ee_mt0, ee_mt1, ee_ix, ee_sl, ee_tup, ee_lst, evEs, evZ, evO, evI, evT, evTo, evX, rd_d, fz_d, b_add, b_sub, b_mul, b_div, b_mod, b_p18, b_p8, b_p7, b_p6, c_lt, c_le, c_gt, c_ge, c_eq, c_ne, c_eqs, c_nes, c_nes0, c_nes1, c_eqs0, c_eqs1, l_t, l_l, bi_i, bi_max, bi_min, bi_tl, bi_tt, ix_l, ix_t, m_nil, m_cons, at0, at1, at2, flatD, seqOf, isNonW, nx_nx, nx_rt, nx_bk, nx_ct, nx_xc, next_nx, next_ct, next_bk, next_rt, Option.bind_some, Option.map_some, List.getElem?_cons_zero, List.getElem?_cons_succ, List.set_cons_zero, List.set_cons_succ, List.length_cons, List.length_nil, if_true, asgn, asgns, Nat.zero_add, Nat.reduceAdd, Nat.reduceLT, Nat.reduceLeDiff, reduceIte, reduceCtorEq, Bool.false_eq_true, Int.reduceNeg, sizeLine_val, and_self, true_and, and_true, b_m7, b_m86400, b_m1000000000, b_m60, b_m600, b_d7, b_d86400, b_d1000, b_p10_5, b_p10_9, b_p10_12, b_p10_15]
            refine L.pickL (k := k + m + 1) hr hj ?_ fun b j2 hb hj2 => ?_
            · exact fun z => nomatch z
            simp only [okR_bind, okR_map, okR_some, evS, ee_var, ee_cst, ee_fnv, ee_bin, ee_neg, ee_cmp, ee_chain, ee_isN, ee_notN, ee_and, ee_or, ee_not, ee_ite, ee_call, ee_callv, ee_bi, ee_isi1, ee_isi2, ee_mt0, ee_mt1, ee_ix, ee_sl, ee_tup, ee_lst, evEs, evZ, evO, evI, evT, evTo, evX, rd_d, fz_d, b_add, b_sub, b_mul, b_div, b_mod, b_p18, b_p8, b_p7, b_p6, c_lt, c_le, c_gt, c_ge, c_eq, c_ne, c_eqs, c_nes, c_nes0, c_nes1, c_eqs0, c_eqs1, l_t, l_l, bi_i, bi_max, bi_min, bi_tl, bi_tt, ix_l, ix_t, m_nil, m_cons, at0, at1, at2, flatD, seqOf, isNonW, nx_nx, nx_rt, nx_bk, nx_ct, nx_xc, next_nx, next_ct, next_bk, next_rt, Option.bind_some, Option.map_some, List.getElem?_cons_zero, List.getElem?_cons_succ, List.set_cons_zero, List.set_cons_succ, List.length_cons, List.length_nil, if_true, asgn, asgns, Nat.zero_add, Nat.reduceAdd, Nat.reduceLT, Nat.reduceLeDiff, reduceIte, reduceCtorEq, Bool.false_eq_true, Int.reduceNeg, sizeLine_val, and_self, true_and, and_true, b_m7, b_m86400, b_m1000000000, b_m60, b_m600, b_d7, b_d86400, b_d1000, b_p10_5, b_p10_9, b_p10_12, b_p10_15]
            exact fin_rl rfl (q b j2 (cv_le (pick_last b hb) (by omega)) hj2)
      by_cases hn : 0 < (ds.length : Int)
      · simp only [okR_bind, okR_map, okR_some, evS, ee_var, ee_cst, ee_fnv, ee_bin, ee_neg, ee_cmp, ee_chain, ee_isN, ee_notN, ee_and, ee_or, ee_not, ee_ite, ee_call, ee_callv, ee_bi, ee_isi1, ee_isi2, ee_mt0, ee_mt1, ee_ix, ee_sl, ee_tup, ee_lst, evEs, evZ, evO, evI, evT, evTo, evX, rd_d, fz_d, b_add, b_sub, b_mul, b_div, b_mod, b_p18, b_p8, b_p7, b_p6, c_lt, c_le, c_gt, c_ge, c_eq, c_ne, c_eqs, c_nes, c_nes0, c_nes1, c_eqs0, c_eqs1, l_t, l_l, bi_i, bi_max, bi_min, bi_tl, bi_tt, ix_l, ix_t, m_nil, m_cons, at0, at1, at2, flatD, seqOf, isNonW, nx_nx, nx_rt, nx_bk, nx_ct, nx_xc, next_nx, next_ct, next_bk, next_rt, Option.bind_some, Option.map_some, List.getElem?_cons_zero, List.getElem?_cons_succ, List.set_cons_zero, List.set_cons_succ, List.length_cons, List.length_nil, if_true, asgn, asgns, Nat.zero_add, Nat.reduceAdd, Nat.reduceLT, Nat.reduceLeDiff, reduceIte, reduceCtorEq, Bool.false_eq_true, Int.reduceNeg, sizeLine_val, and_self, true_and, and_true, b_m7, b_m86400, b_m1000000000, b_m60, b_m600, b_d7, b_d86400, b_d1000, b_p10_5, b_p10_9, b_p10_12, b_p10_15, hn, decide_true]
        refine L.take0 (k := k + m + 2) hr hi (by decide) fun t j t0 t1 hj => ?_
        simp only [okR_bind, okR_map, okR_some, evS, ee_var, ee_cst, ee_fnv, ee_bin, ee_neg, ee_cmp, ee_chain, ee_isN, ee_notN, ee_and, ee_or, ee_not, ee_ite, ee_call, ee_callv, ee_bi, ee_isi1, ee_isi2, ee_mt0, ee_mt1, ee_ix, ee_sl, ee_tup, ee_lst, evEs, evZ, evO, evI, evT, evTo, evX, rd_d, fz_d, b_add, b_sub, b_mul, b_div, b_mod, b_p18, b_p8, b_p7, b_p6, c_lt, c_le, c_gt, c_ge, c_eq, c_ne, c_eqs, c_nes, c_nes0, c_nes1, c_eqs0, c_eqs1, l_t, l_l, bi_i, bi_max, bi_min, bi_tl, bi_tt, ix_l, ix_t, m_nil, m_cons, at0, at1, at2, flatD, seqOf, isNonW, nx_nx, nx_rt, nx_bk, nx_ct, nx_xc, next_nx, next_ct, next_bk, next_rt, Option.bind_some, Option.map_some, List.getElem?_cons_zero, List.getElem?_cons_succ, List.set_cons_zero, List.set_cons_succ, List.length_cons, List.length_nil, if_true, asgn, asgns, Nat.zero_add, Nat.reduceAdd, Nat.reduceLT, Nat.reduceLeDiff, reduceIte, reduceCtorEq, Bool.false_eq_true, Int.reduceNeg, sizeLine_val, and_self, true_and, and_true, b_m7, b_m86400, b_m1000000000, b_m60, b_m600, b_d7, b_d86400, b_d1000, b_p10_5, b_p10_9, b_p10_12, b_p10_15]
        by_cases hp : 0 < t
        · simp only [okR_bind, okR_map, okR_some, evS, ee_var, ee_cst, ee_fnv, ee_bin, ee_neg, ee_cmp, ee_chain, ee_isN, ee_notN, ee_and, ee_or, ee_not, ee_ite, ee_call, ee_callv, ee_bi, ee_isi1, ee_isi2, ee_mt0, ee_mt1, ee_ix, ee_sl, ee_tup, ee_lst, evEs, evZ, evO, evI, evT, evTo, evX, rd_d, fz_d, b_add, b_sub, b_mul, b_div, b_mod, b_p18, b_p8, b_p7, b_p6, c_lt, c_le, c_gt, c_ge, c_eq, c_ne, c_eqs, c_nes, c_nes0, c_nes1, c_eqs0, c_eqs1, l_t, l_l, bi_i, bi_max, bi_min, bi_tl, bi_tt, ix_l, ix_t, m_nil, m_cons, at0, at1, at2, flatD, seqOf, isNonW, nx_nx, nx_rt, nx_bk, nx_ct, nx_xc, next_nx, next_ct, next_bk, next_rt, Option.bind_some, Option.map_some, List.getElem?_cons_zero, List.getElem?_cons_succ, List.set_cons_zero, List.set_cons_succ, List.length_cons, List.length_nil, if_true, asgn, asgns, Nat.zero_add, Nat.reduceAdd, Nat.reduceLT, Nat.reduceLeDiff, reduceIte, reduceCtorEq, Bool.false_eq_true, Int.reduceNeg, sizeLine_val, and_self, true_and, and_true, b_m7, b_m86400, b_m1000000000, b_m60, b_m600, b_d7, b_d86400, b_d1000, b_p10_5, b_p10_9, b_p10_12, b_p10_15, hp, decide_true]
          refine ss_step ?_; simp only [okR_bind, okR_map, okR_some, evS, ee_var, ee_cst, ee_fnv, ee_bin, ee_neg, ee_cmp, ee_chain, ee_isN, ee_notN, ee_and, ee_or, ee_not, ee_ite, ee_call, ee_callv, ee_bi, ee_isi1, ee_isi2, ee_mt0, ee_mt1, ee_ix, ee_sl, ee_tup, ee_lst, evEs, evZ, evO, evI, evT, evTo, evX, rd_d, fz_d, b_add, b_sub, b_mul, b_div, b_mod, b_p18, b_p8, b_p7, b_p6, c_lt, c_le, c_gt, c_ge, c_eq, c_ne, c_eqs, c_nes, c_nes0, c_nes1, c_eqs0, c_eqs1, l_t, l_l, bi_i, bi_max, bi_min, bi_tl, bi_tt, ix_l, ix_t, m_nil, m_cons, at0, at1, at2, flatD, seqOf, isNonW, nx_nx, nx_rt, nx_bk, nx_ct, nx_xc, next_nx, next_ct, next_bk, next_rt, Option.bind_some, Option.map_some, List.getElem?_cons_zero, List.getElem?_cons_succ, List.set_cons_zero, List.set_cons_succ, List.length_cons, List.length_nil, if_true, asgn, asgns, Nat.zero_add, Nat.reduceAdd, Nat.reduceLT, Nat.reduceLeDiff, reduceIte, reduceCtorEq, Bool.false_eq_true, Int.reduceNeg, sizeLine_val, and_self, true_and, and_true, b_m7, b_m86400, b_m1000000000, b_m60, b_m600, b_d7, b_d86400, b_d1000, b_p10_5, b_p10_9, b_p10_12, b_p10_15]
          refine L.take0 (k := k + m + 2) hr hj hn fun a j2 a0 a1 hj2 => ?_
          simp only [okR_bind, okR_map, okR_some, evS, ee_var, ee_cst, ee_fnv, ee_bin, ee_neg, ee_cmp, ee_chain, ee_isN, ee_notN, ee_and, ee_or, ee_not, ee_ite, ee_call, ee_callv, ee_bi, ee_isi1, ee_isi2, ee_mt0, ee_mt1, ee_ix, ee_sl, ee_tup, ee_lst, evEs, evZ, evO, evI, evT, evTo, evX, rd_d, fz_d, b_add, b_sub, b_mul, b_div, b_mod, b_p18, b_p8, b_p7, b_p6, c_lt, c_le, c_gt, c_ge, c_eq, c_ne, c_eqs, c_nes, c_nes0, c_nes1, c_eqs0, c_eqs1, l_t, l_l, bi_i, bi_max, bi_min, bi_tl, bi_tt, ix_l, ix_t, m_nil, m_cons, at0, at1, at2, flatD, seqOf, isNonW, nx_nx, nx_rt, nx_bk, nx_ct, nx_xc, next_nx, next_ct, next_bk, next_rt, Option.bind_some, Option.map_some, List.getElem?_cons_zero, List.getElem?_cons_succ, List.set_cons_zero, List.set_cons_succ, List.length_cons, List.length_nil, if_true, asgn, asgns, Nat.zero_add, Nat.reduceAdd, Nat.reduceLT, Nat.reduceLeDiff, reduceIte, reduceCtorEq, Bool.false_eq_true, Int.reduceNeg, sizeLine_val, and_self, true_and, and_true, b_m7, b_m86400, b_m1000000000, b_m60, b_m600, b_d7, b_d86400, b_d1000, b_p10_5, b_p10_9, b_p10_12, b_p10_15]
          obtain ⟨x, hx, ex⟩ := atI_ok a0 a1
          refine ss_step ?_; simp only [okR_bind, okR_map, okR_some, evS, ee_var, ee_cst, ee_fnv, ee_bin, ee_neg, ee_cmp, ee_chain, ee_isN, ee_notN, ee_and, ee_or, ee_not, ee_ite, ee_call, ee_callv, ee_bi, ee_isi1, ee_isi2, ee_mt0, ee_mt1, ee_ix, ee_sl, ee_tup, ee_lst, evEs, evZ, evO, evI, evT, evTo, evX, rd_d, fz_d, b_add, b_sub, b_mul, b_div, b_mod, b_p18, b_p8, b_p7, b_p6, c_lt, c_le, c_gt, c_ge, c_eq, c_ne, c_eqs, c_nes, c_nes0, c_nes1, c_eqs0, c_eqs1, l_t, l_l, bi_i, bi_max, bi_min, bi_tl, bi_tt, ix_l, ix_t, m_nil, m_cons, at0, at1, at2, flatD, seqOf, isNonW, nx_nx, nx_rt, nx_bk, nx_ct, nx_xc, next_nx, next_ct, next_bk, next_rt, Option.bind_some, Option.map_some, List.getElem?_cons_zero, List.getElem?_cons_succ, List.set_cons_zero, List.set_cons_succ, List.length_cons, List.length_nil, if_true, asgn, asgns, Nat.zero_add, Nat.reduceAdd, Nat.reduceLT, Nat.reduceLeDiff, reduceIte, reduceCtorEq, Bool.false_eq_true, Int.reduceNeg, sizeLine_val, and_self, true_and, and_true, b_m7, b_m86400, b_m1000000000, b_m60, b_m600, b_d7, b_d86400, b_d1000, b_p10_5, b_p10_9, b_p10_12, b_p10_15]
          simp only [okR_bind, okR_map, okR_some, evS, ee_var, ee_cst, ee_fnv, ee_bin, ee_neg, ee_cmp, ee_chain, ee_isN, ee_notN, ee_and, ee_or, ee_not, ee_ite, ee_call, ee_callv, ee_bi, ee_isi1, ee_isi2, ee_mt0, ee_mt1, ee_ix, ee_sl, ee_tup, ee_lst, evEs, evZ, evO, evI, evT, evTo, evX, rd_d, fz_d, b_add, b_sub, b_mul, b_div, b_mod, b_p18, b_p8, b_p7, b_p6, c_lt, c_le, c_gt, c_ge, c_eq, c_ne, c_eqs, c_nes, c_nes0, c_nes1, c_eqs0, c_eqs1, l_t, l_l, bi_i, bi_max, bi_min, bi_tl, bi_tt, ix_l, ix_t, m_nil, m_cons, at0, at1, at2, flatD, seqOf, isNonW, nx_nx, nx_rt, nx_bk, nx_ct, nx_xc, next_nx, next_ct, next_bk, next_rt, Option.bind_some, Option.map_some, List.getElem?_cons_zero, List.getElem?_cons_succ, List.set_cons_zero, List.set_cons_succ, List.length_cons, List.length_nil, if_true, asgn, asgns, Nat.zero_add, Nat.reduceAdd, Nat.reduceLT, Nat.reduceLeDiff, reduceIte, reduceCtorEq, Bool.false_eq_true, Int.reduceNeg, sizeLine_val, and_self, true_and, and_true, b_m7, b_m86400, b_m1000000000, b_m60, b_m600, b_d7, b_d86400, b_d1000, b_p10_5, b_p10_9, b_p10_12, b_p10_15, sl_t, ex]
          refine ih (k := k) (ha x hx) hj2 fun c j3 hc hj3 => ?_
          have e2 : bRun .add (.tup (cutD ds none (some a))) (.tup [c]) = some (.tup (cutD ds none (some a) ++ [c])) := b_addT (by have := cl none (some a); simp; omega)
          have e3 : bRun .add (.tup (cutD ds none (some a) ++ [c])) (.tup (cutD ds (some (a + 1)) none)) = some (.tup (cutD ds none (some a) ++ [c] ++ cutD ds (some (a + 1)) none)) := b_addT (by have := cl none (some a); have := cl (some (a + 1)) none; simp; omega)
          simp only [okR_bind, okR_map, okR_some, evS, ee_var, ee_cst, ee_fnv, ee_bin, ee_neg, ee_cmp, ee_chain, ee_isN, ee_notN, ee_and, ee_or, ee_not, ee_ite, ee_call, ee_callv, ee_bi, ee_isi1, ee_isi2, ee_mt0, ee_mt1, ee_ix, ee_sl, ee_tup, ee_lst, evEs, evZ, evO, evI, evT, evTo, evX, rd_d, fz_d, b_add, b_sub, b_mul, b_div, b_mod, b_p18, b_p8, b_p7, b_p6, c_lt, c_le, c_gt, c_ge, c_eq, c_ne, c_eqs, c_nes, c_nes0, c_nes1, c_eqs0, c_eqs1, l_t, l_l, bi_i, bi_max, bi_min, bi_tl, bi_tt, ix_l, ix_t, m_nil, m_cons, at0, at1, at2, flatD, seqOf, isNonW, nx_nx, nx_rt, nx_bk, nx_ct, nx_xc, next_nx, next_ct, next_bk, next_rt, Option.bind_some, Option.map_some, List.getElem?_cons_zero, List.getElem?_cons_succ, List.set_cons_zero, List.set_cons_succ, List.length_cons, List.length_nil, if_true, asgn, asgns, Nat.zero_add, Nat.reduceAdd, Nat.reduceLT, Nat.reduceLeDiff, reduceIte, reduceCtorEq, Bool.false_eq_true, Int.reduceNeg, sizeLine_val, and_self, true_and, and_true, b_m7, b_m86400, b_m1000000000, b_m60, b_m600, b_d7, b_d86400, b_d1000, b_p10_5, b_p10_9, b_p10_12, b_p10_15, sl_t, e2, e3]
          refine fin_rl rfl (q _ j3 (cv_tup (by simp [sizeLine_val]; have := cl none (some a); have := cl (some (a + 1)) none; omega) (cv_app (cv_app (ccv _ _) fun c' hc' => ?_) (ccv _ _))) hj3)
          obtain rfl : c' = _ := by simpa using hc'
          exact hc
        · simp only [okR_bind, okR_map, okR_some, evS, ee_var, ee_cst, ee_fnv, ee_bin, ee_neg, ee_cmp, ee_chain, ee_isN, ee_notN, ee_and, ee_or, ee_not, ee_ite, ee_call, ee_callv, ee_bi, ee_isi1, ee_isi2, ee_mt0, ee_mt1, ee_ix, ee_sl, ee_tup, ee_lst, evEs, evZ, evO, evI, evT, evTo, evX, rd_d, fz_d, b_add, b_sub, b_mul, b_div, b_mod, b_p18, b_p8, b_p7, b_p6, c_lt, c_le, c_gt, c_ge, c_eq, c_ne, c_eqs, c_nes, c_nes0, c_nes1, c_eqs0, c_eqs1, l_t, l_l, bi_i, bi_max, bi_min, bi_tl, bi_tt, ix_l, ix_t, m_nil, m_cons, at0, at1, at2, flatD, seqOf, isNonW, nx_nx, nx_rt, nx_bk, nx_ct, nx_xc, next_nx, next_ct, next_bk, next_rt, Option.bind_some, Option.map_some, List.getElem?_cons_zero, List.getElem?_cons_succ, List.set_cons_zero, List.set_cons_succ, List.length_cons, List.length_nil, if_true, asgn, asgns, Nat.zero_add, Nat.reduceAdd, Nat.reduceLT, Nat.reduceLeDiff, reduceIte, reduceCtorEq, Bool.false_eq_true, Int.reduceNeg, sizeLine_val, and_self, true_and, and_true, b_m7, b_m86400, b_m1000000000, b_m60, b_m600, b_d7, b_d86400, b_d1000, b_p10_5, b_p10_9, b_p10_12, b_p10_15, hp, decide_false]
          refine ss_done ?_
          simp only [nx_nx]
          exact rest hj
      · simp only [okR_bind, okR_map, okR_some, evS, ee_var, ee_cst, ee_fnv, ee_bin, ee_neg, ee_cmp, ee_chain, ee_isN, ee_notN, ee_and, ee_or, ee_not, ee_ite, ee_call, ee_callv, ee_bi, ee_isi1, ee_isi2, ee_mt0, ee_mt1, ee_ix, ee_sl, ee_tup, ee_lst, evEs, evZ, evO, evI, evT, evTo, evX, rd_d, fz_d, b_add, b_sub, b_mul, b_div, b_mod, b_p18, b_p8, b_p7, b_p6, c_lt, c_le, c_gt, c_ge, c_eq, c_ne, c_eqs, c_nes, c_nes0, c_nes1, c_eqs0, c_eqs1, l_t, l_l, bi_i, bi_max, bi_min, bi_tl, bi_tt, ix_l, ix_t, m_nil, m_cons, at0, at1, at2, flatD, seqOf, isNonW, nx_nx, nx_rt, nx_bk, nx_ct, nx_xc, next_nx, next_ct, next_bk, next_rt, Option.bind_some, Option.map_some, List.getElem?_cons_zero, List.getElem?_cons_succ, List.set_cons_zero, List.set_cons_succ, List.length_cons, List.length_nil, if_true, asgn, asgns, Nat.zero_add, Nat.reduceAdd, Nat.reduceLT, Nat.reduceLeDiff, reduceIte, reduceCtorEq, Bool.false_eq_true, Int.reduceNeg, sizeLine_val, and_self, true_and, and_true, b_m7, b_m86400, b_m1000000000, b_m60, b_m600, b_d7, b_d86400, b_d1000, b_p10_5, b_p10_9, b_p10_12, b_p10_15, hn, decide_false]
        refine ss_done ?_
        simp only [nx_nx]
        exact rest hi
end
end Pv

set_option Elab.async false
set_option linter.all false
set_option maxRecDepth 100000
set_option maxHeartbeats 2000000
/-! What is told where an error may come; law k05. -/
namespace Pv
open PySem L2
/-- _law_told: 2 parameters, slots week second wrong -/
def B_law_told5 (i_band : Nat) : Ss := .cons (.tryR (.call i_band (.cons (.var 0) (.cons (.var 1) (.nil)))) 2 "bad") (.nil)
/-- law: 1 parameters, slots script row spot week again changed day start second off -/
def B_law5 (i_is_week i_law_so i_law_numbers i_law_take i_law_handed i_law_pick i_law_is_week i_law_day_row i_law_band i_law_week i_law_part_changed i_law_told : Nat) : Ss := .cons (.asg (.name 1) (.call i_law_numbers (.cons (.var 0) (.nil)))) (.cons (.newL 2 (.cons (.cst (.int 0)) (.nil))) (.cons (.asg (.name 3) (.call i_law_week (.cons (.var 1) (.cons (.var 2) (.nil))))) (.cons (.forS (.name 4) (.r1 (.cst (.int 8))) (.cons (.asg (.name 5) (.call i_law_part_changed (.cons (.var 1) (.cons (.var 2) (.cons (.var 3) (.nil)))))) (.cons (.ifs (.not (.val (.call i_law_so (.cons (.call i_is_week (.cons (.call i_law_handed (.cons (.var 1) (.cons (.var 2) (.cons (.var 5) (.nil))))) (.nil))) (.cons (.call i_law_is_week (.cons (.var 5) (.nil))) (.nil)))))) (.cons (.ret (.cst (.bl false))) (.nil)) (.nil)) (.cons (.ifs (.and (.not (.val (.call i_law_is_week (.cons (.var 5) (.nil))))) (.not (.val (.call i_law_so (.cons (.call i_law_told (.cons (.var 5) (.cons (.neg (.cst (.int 1))) (.nil)))) (.cons (.tup (.cons (.cst (.str "bad")) (.cons (.cst (.int 0)) (.nil)))) (.nil))))))) (.cons (.ret (.cst (.bl false))) (.nil)) (.nil)) (.nil))))) (.cons (.forS (.name 4) (.r1 (.cst (.int 12))) (.cons (.asg (.name 6) (.call i_law_pick (.cons (.var 1) (.cons (.var 2) (.cons (.lst (.cons (.cst (.int 0)) (.cons (.cst (.int 1)) (.cons (.cst (.int 6)) (.cons (.cst (.int 7)) (.cons (.cst (.int 8)) (.cons (.cst (.int 1000)) (.cons (.call i_law_take (.cons (.var 1) (.cons (.var 2) (.cons (.cst (.int 997)) (.nil))))) (.nil))))))))) (.nil)))))) (.cons (.asg (.name 7) (.ix (.call i_law_pick (.cons (.var 1) (.cons (.var 2) (.cons (.call i_law_day_row (.cons (.var 3) (.cons (.var 6) (.nil)))) (.nil))))) (.cst (.int 0)))) (.cons (.asg (.name 8) (.bi .max2 (.cons (.cst (.int 0)) (.cons (.bin .sub (.bin .add (.bin .add (.bin .mul (.var 6) (.cst (.int 86400))) (.var 7)) (.call i_law_take (.cons (.var 1) (.cons (.var 2) (.cons (.cst (.int 3)) (.nil)))))) (.cst (.int 1))) (.nil))))) (.cons (.ifs (.not (.val (.call i_law_so (.cons (.call i_law_told (.cons (.call i_law_handed (.cons (.var 1) (.cons (.var 2) (.cons (.var 3) (.nil))))) (.cons (.var 8) (.nil)))) (.cons (.call i_law_band (.cons (.var 3) (.cons (.var 8) (.nil)))) (.nil)))))) (.cons (.ret (.cst (.bl false))) (.nil)) (.nil)) (.nil)))))) (.cons (.asg (.name 9) (.call i_law_pick (.cons (.var 1) (.cons (.var 2) (.cons (.lst (.cons (.cst .non) (.cons (.neg (.cst (.int 1))) (.cons (.bin .add (.bin .pow (.cst (.int 10)) (.cst (.int 8))) (.cst (.int 1))) (.cons (.cst (.str "0")) (.cons (.cst (.bl true)) (.nil))))))) (.nil)))))) (.cons (.ret (.and (.call i_law_so (.cons (.call i_law_told (.cons (.var 3) (.cons (.var 9) (.nil)))) (.cons (.tup (.cons (.cst (.str "bad")) (.cons (.cst (.int 1)) (.nil)))) (.nil)))) (.and (.call i_law_so (.cons (.call i_law_told (.cons (.var 3) (.cons (.bin .pow (.cst (.int 10)) (.cst (.int 8))) (.nil)))) (.cons (.call i_law_band (.cons (.var 3) (.cons (.bin .pow (.cst (.int 10)) (.cst (.int 8))) (.nil)))) (.nil)))) (.call i_law_so (.cons (.call i_is_week (.cons (.var 3) (.nil))) (.cons (.cst (.bl true)) (.nil))))))) (.nil)))))))
section
variable {P : Nat → Option Fn} {k f g : Nat} {S : Store} {x : Ix}
theorem rz_of {q : Fn} {ws : List W} {ρ : En} {d : D} (h : P f = some q) (h1 : ws.length = q.ar) (h2 : q.ar ≤ q.sl) (hρ : startE q.sl ws = ρ) (e : evSs (callF P k) q.body ρ S = some (.xc d S)) : Rz P (k + 1) f ws S (.xc d S) := by
  have := Rz.of h h1 h2 hρ e
  simpa using this
theorem rz_rt {q : Fn} {ws : List W} {ρ : En} {d : D} (h : P f = some q) (h1 : ws.length = q.ar) (h2 : q.ar ≤ q.sl) (hρ : startE q.sl ws = ρ) (e : evSs (callF P k) q.body ρ S = some (.rt d S)) : Rz P (k + 1) f ws S (.rt d S) := by
  have := Rz.of h h1 h2 hρ e
  simpa using this
/-- need(is_week(..)), need(is_second(..)): both ways -/
theorem IxB.needW0 (h : IxB P x) {ρ : En} {d : D} {m : Nat} (h0 : ρ[0]? = some (some (.d d))) (hd : Vt m d = true) (hw : Pv.weekB d = false) :
    evS (callF P (k + 7)) (.dropX (.call x.need (.cons (.call x.week (.cons (.var 0) (.nil))) (.cons (.cst (.int 0)) (.nil))))) ρ S = some (.xc (.int 0) S) :=
  h.needN (by decide) (by simp only [evE, evEs, h0, Option.bind_some, Option.map_some, h.weekE hd, hw]) (by simp [evE, flatD])
theorem IxB.needW1 (h : IxB P x) {ρ : En} {d : D} {m : Nat} (h0 : ρ[0]? = some (some (.d d))) (hd : Vt m d = true) (hw : Pv.weekB d = true) :
    evS (callF P (k + 7)) (.dropX (.call x.need (.cons (.call x.week (.cons (.var 0) (.nil))) (.cons (.cst (.int 0)) (.nil))))) ρ S = some (.nx ρ S) :=
  h.needE (a := .int 0) (by simp only [evE, evEs, h0, Option.bind_some, Option.map_some, h.weekE hd, hw]) (by simp [evE, flatD])
theorem IxB.needS0 (h : IxB P x) {ρ : En} {d : D} {j : Nat} {a : Int} (h0 : ρ[j]? = some (some (.d d))) (ha : atOk a = true) (hd : okV d = true) (hw : isW 0 100000000 d = false) :
    evS (callF P (k + 7)) (.dropX (.call x.need (.cons (.call x.sec (.cons (.var j) (.nil))) (.cons (.cst (.int a)) (.nil))))) ρ S = some (.xc (.int a) S) :=
  h.needN ha (by simp only [evE, evEs, h0, Option.bind_some, Option.map_some]; rw [h.secE (k := k + 4) hd, hw]; rfl) (by simp [evE, flatD])
theorem IxB.needS1 (h : IxB P x) {ρ : En} {d a : D} {j : Nat} (h0 : ρ[j]? = some (some (.d d))) (hd : okV d = true) (hw : isW 0 100000000 d = true) (hf : flatD a = true) :
    evS (callF P (k + 7)) (.dropX (.call x.need (.cons (.call x.sec (.cons (.var j) (.nil))) (.cons (.cst a) (.nil))))) ρ S = some (.nx ρ S) :=
  h.needE (a := a) (by simp only [evE, evEs, h0, Option.bind_some, Option.map_some]; rw [h.secE (k := k + 4) hd, hw]; rfl) (by simp [evE, hf])
theorem IxOk.band0 (h : IxOk P x) (hn : P f = some ⟨2, 2, B_band x.need x.sec x.week x.bandAt⟩) {d s : D} {m : Nat} (hd : Vt m d = true) (hw : Pv.weekB d = false) : Rz P (k + 8) f [.d d, .d s] S (.xc (.int 0) S) :=
  rz_of (ρ := [some (.d d), some (.d s)]) hn rfl (by show 2 ≤ 2; decide) rfl (ss_xc (h.toIxB.needW0 rfl hd hw))
theorem IxOk.band1 (h : IxOk P x) (hn : P f = some ⟨2, 2, B_band x.need x.sec x.week x.bandAt⟩) {d s : D} {m : Nat} (hd : Vt m d = true) (hw : Pv.weekB d = true) (hs : okV s = true) (hs2 : isW 0 100000000 s = false) : Rz P (k + 8) f [.d d, .d s] S (.xc (.int 1) S) := by
  refine rz_of (ρ := [some (.d d), some (.d s)]) hn rfl (by show 2 ≤ 2; decide) rfl ?_
  show evSs _ (B_band x.need x.sec x.week x.bandAt) _ _ = _
  unfold B_band
  rw [ss_nx (h.toIxB.needW1 rfl hd hw)]
  exact ss_xc (h.toIxB.needS0 rfl (by decide) hs hs2)
/-- told: what it gives, or the error's number -/
theorem told2 (hT : P f = some ⟨2, 3, B_law_told5 g⟩) {a b : D} {o : Out} (hz : Rz P k g [.d a, .d b] S o) {Q : D × Store → Prop} (q : match o with | .rt d S' => S' = S ∧ Q (d, S) | .xc v S' => S' = S ∧ Q (.tup [.str "bad", v], S) | _ => False) : OkR (callF P (k + 1) f [.d a, .d b] S) Q := by
  refine def_ok hT rfl (by show 2 ≤ 3; decide) rfl ?_
  show OkR (evSs (callF P k) (B_law_told5 g) [some (.d a), some (.d b), none] S) _
  unfold B_law_told5
  refine ss_step ?_
  have ex : evX (callF P k) (.call g (.cons (.var 0) (.cons (.var 1) (.nil)))) [some (.d a), some (.d b), none] S = some o := hz.ev (by simp [evE, evEs])
  simp only [evS, ex, List.length_cons, List.length_nil]
  cases o with
  | rt d S' =>
    obtain ⟨rfl, q⟩ := q
    simp only [okR_bind, okR_map, okR_some, evS, ee_var, ee_cst, ee_fnv, ee_bin, ee_neg, ee_cmp, ee_chain, ee_isN, ee_notN, ee_and, ee_or, ee_not, ee_ite, ee_call, ee_callv, ee_bi, ee_isi1, ee_isi2, ee_mt0, ee_mt1, ee_ix, ee_sl, ee_tup, ee_lst, evEs, evZ, evO, evI, evT, evTo, evX, rd_d, fz_d, b_add, b_sub, b_mul, b_div, b_mod, b_p18, b_p8, b_p7, b_p6, c_lt, c_le, c_gt, c_ge, c_eq, c_ne, c_eqs, c_nes, c_nes0, c_nes1, c_eqs0, c_eqs1, l_t, l_l, bi_i, bi_max, bi_min, bi_tl, bi_tt, ix_l, ix_t, m_nil, m_cons, at0, at1, at2, flatD, seqOf, isNonW, nx_nx, nx_rt, nx_bk, nx_ct, nx_xc, next_nx, next_ct, next_bk, next_rt, Option.bind_some, Option.map_some, List.getElem?_cons_zero, List.getElem?_cons_succ, List.set_cons_zero, List.set_cons_succ, List.length_cons, List.length_nil, if_true, asgn, asgns, Nat.zero_add, Nat.reduceAdd, Nat.reduceLT, Nat.reduceLeDiff, reduceIte, reduceCtorEq, Bool.false_eq_true, Int.reduceNeg, sizeLine_val, and_self, true_and, and_true, b_m7, b_m86400, b_m1000000000, b_m60, b_m600, b_d7, b_d86400, b_d1000, b_p10_5, b_p10_9, b_p10_12, b_p10_15]
    exact fin_rl rfl q
  | xc v S' =>
    obtain ⟨rfl, q⟩ := q
    simp only [okR_bind, okR_map, okR_some, evS, ee_var, ee_cst, ee_fnv, ee_bin, ee_neg, ee_cmp, ee_chain, ee_isN, ee_notN, ee_and, ee_or, ee_not, ee_ite, ee_call, ee_callv, ee_bi, ee_isi1, ee_isi2, ee_mt0, ee_mt1, ee_ix, ee_sl, ee_tup, ee_lst, evEs, evZ, evO, evI, evT, evTo, evX, rd_d, fz_d, b_add, b_sub, b_mul, b_div, b_mod, b_p18, b_p8, b_p7, b_p6, c_lt, c_le, c_gt, c_ge, c_eq, c_ne, c_eqs, c_nes, c_nes0, c_nes1, c_eqs0, c_eqs1, l_t, l_l, bi_i, bi_max, bi_min, bi_tl, bi_tt, ix_l, ix_t, m_nil, m_cons, at0, at1, at2, flatD, seqOf, isNonW, nx_nx, nx_rt, nx_bk, nx_ct, nx_xc, next_nx, next_ct, next_bk, next_rt, Option.bind_some, Option.map_some, List.getElem?_cons_zero, List.getElem?_cons_succ, List.set_cons_zero, List.set_cons_succ, List.length_cons, List.length_nil, if_true, asgn, asgns, Nat.zero_add, Nat.reduceAdd, Nat.reduceLT, Nat.reduceLeDiff, reduceIte, reduceCtorEq, Bool.false_eq_true, Int.reduceNeg, sizeLine_val, and_self, true_and, and_true, b_m7, b_m86400, b_m1000000000, b_m60, b_m600, b_d7, b_d86400, b_d1000, b_p10_5, b_p10_9, b_p10_12, b_p10_15]
    exact fin_rl rfl q
  | _ => exact q.elim
theorem weekB_of {d : D} {days : List (List St)} {feasts : List Int} (h : IxB P x) {m : Nat} (hd : Vt m d = true) (hx : IsWeek d days feasts) (hr : WeekOk days feasts) : Pv.weekB d = true := by
  have e1 := h.weekB (k := 0) (S := []) hx hr
  have e2 := h.weekE (k := 0) (S := []) hd
  rw [e1] at e2
  simp only [Option.some.injEq, Prod.mk.injEq, D.bl.injEq, and_true] at e2
  exact e2.symm
theorem tv_week {days : List (List St)} {feasts : List Int} (hw : WeekOk days feasts) : Cv 4 (weekD days feasts) ∧ Tw 4 (weekD days feasts) = true := by
  have hl := hw.len
  have hf := hw.flen
  have t : Tw 4 (weekD days feasts) = true := by
    have h1 : Tw 3 (.tup (feasts.map .int)) = true := by
      simp only [Tw, List.length_map, Bool.and_eq_true, decide_eq_true_eq, List.all_eq_true]
      refine ⟨by omega, fun y hy => ?_⟩
      obtain ⟨z, _, rfl⟩ := List.mem_map.mp hy
      rfl
    have h2 : Tw 3 (.tup (days.map dayD)) = true := by
      simp only [Tw, List.length_map, Bool.and_eq_true, decide_eq_true_eq, List.all_eq_true]
      refine ⟨by omega, fun y hy => ?_⟩
      obtain ⟨r, hr, rfl⟩ := List.mem_map.mp hy
      have dk := hw.each r hr
      have := dk.len
      simp only [dayD, Tw, List.length_map, Bool.and_eq_true, decide_eq_true_eq, List.all_eq_true]
      refine ⟨by omega, fun z hz => ?_⟩
      obtain ⟨p, hp, rfl⟩ := List.mem_map.mp hz
      have sk := (dk.each p hp).word
      simp only [wordB, Bool.and_eq_true, decide_eq_true_eq] at sk
      simp only [stD, Tw, List.length_cons, List.length_nil, List.all_cons, List.all_nil, Bool.and_true, Bool.and_eq_true, decide_eq_true_eq]
      refine ⟨by omega, trivial, by omega⟩
    show (decide ([D.tup (days.map dayD), D.tup (feasts.map .int)].length ≤ 1000) && [D.tup (days.map dayD), D.tup (feasts.map .int)].all (Tw 3)) = true
    simp only [List.all_cons, List.all_nil, h1, h2, Bool.and_true, List.length_cons, List.length_nil]
    rfl
  exact ⟨tw_cv t, t⟩
/-! ### law k05 -/
abbrev X05 : Ix := ⟨0, 1, 2, 3, 4, 5, 6, 7, 8, 9, 10, 11, 12, 13⟩
abbrev Y05 : Lx := ⟨15, 16, 17, 18, 19, 21, 22, 23, 24⟩
structure T05 (P : Nat → Option Fn) : Prop where
  ix : IxOk P X05
  lx : LxOk P Y05
  p14 : P 14 = some ⟨2, 2, B_band 0 4 11 13⟩
  p20 : P 20 = some ⟨1, 1, B_law_whole⟩
  p25 : P 25 = some ⟨3, 3, B_law_between 20⟩
  p26 : P 26 = some ⟨1, 2, B_law_is_word⟩
  p27 : P 27 = some ⟨1, 3, B_law_is_day 25 26⟩
  p28 : P 28 = some ⟨1, 3, B_law_is_week 25 27⟩
  p29 : P 29 = some ⟨2, 2, B_law_day_row⟩
  p30 : P 30 = some ⟨2, 5, B_law_band 29⟩
  p31 : P 31 = some ⟨2, 5, B_law_day 18 19 24⟩
  p32 : P 32 = some ⟨2, 6, B_law_week 18 24 31⟩
  p33 : P 33 = some ⟨3, 6, B_law_part_changed 18 24 33⟩
  p34 : P 34 = some ⟨2, 3, B_law_told5 14⟩
  p35 : P 35 = some ⟨1, 10, B_law5 11 15 16 18 23 24 28 29 30 32 33 34⟩
theorem T05.so (T : T05 P) {S : Store} {d : D} (h : Tv 9 d = true) {Q : D × Store → Prop} (q : Q (.bl true, S)) : OkR (callF P 40 15 [.d d, .d d] S) Q := ⟨_, T.lx.soR (k := 30) (m := 9) h, q⟩
theorem T05.bad (n : Int) : Tv 9 (.tup [.str "bad", .int n]) = true := rfl
theorem bandOf_tv {days : List (List St)} {feasts : List Int} {i : Int} (hw : WeekOk days feasts) : Tv 9 (bandOf days feasts i) = true := by
  obtain ⟨w, e⟩ := bandOf_str (x := i) hw
  rw [e]; rfl
theorem law05 (T : T05 P) {ns : List Int} : ∃ S, callF P 41 35 [.d (.scr ns)] [] = some (.bl true, S) := by
  have key : OkR (callF P 41 35 [.d (.scr ns)] []) fun p => p.1 = .bl true := by
    refine def_ok T.p35 rfl (by show 1 ≤ 10; decide) rfl ?_
    show OkR (evSs (callF P 40) (B_law5 11 15 16 18 23 24 28 29 30 32 33 34) [some (.d (.scr ns)), none, none, none, none, none, none, none, none, none] []) _
    unfold B_law5
    obtain ⟨r, hr, er⟩ := numbers_ex (P := P) (k := 39) (ns := ns) (S := []) T.lx.num
    refine ss_step ?_; simp only [okR_bind, okR_map, okR_some, evS, ee_var, ee_cst, ee_fnv, ee_bin, ee_neg, ee_cmp, ee_chain, ee_isN, ee_notN, ee_and, ee_or, ee_not, ee_ite, ee_call, ee_callv, ee_bi, ee_isi1, ee_isi2, ee_mt0, ee_mt1, ee_ix, ee_sl, ee_tup, ee_lst, evEs, evZ, evO, evI, evT, evTo, evX, rd_d, fz_d, b_add, b_sub, b_mul, b_div, b_mod, b_p18, b_p8, b_p7, b_p6, c_lt, c_le, c_gt, c_ge, c_eq, c_ne, c_eqs, c_nes, c_nes0, c_nes1, c_eqs0, c_eqs1, l_t, l_l, bi_i, bi_max, bi_min, bi_tl, bi_tt, ix_l, ix_t, m_nil, m_cons, at0, at1, at2, flatD, seqOf, isNonW, nx_nx, nx_rt, nx_bk, nx_ct, nx_xc, next_nx, next_ct, next_bk, next_rt, Option.bind_some, Option.map_some, List.getElem?_cons_zero, List.getElem?_cons_succ, List.set_cons_zero, List.set_cons_succ, List.length_cons, List.length_nil, if_true, asgn, asgns, Nat.zero_add, Nat.reduceAdd, Nat.reduceLT, Nat.reduceLeDiff, reduceIte, reduceCtorEq, Bool.false_eq_true, Int.reduceNeg, sizeLine_val, and_self, true_and, and_true, b_m7, b_m86400, b_m1000000000, b_m60, b_m600, b_d7, b_d86400, b_d1000, b_p10_5, b_p10_9, b_p10_12, b_p10_15]
    refine OkR.of er ?_
    simp only [okR_bind, okR_map, okR_some, evS, ee_var, ee_cst, ee_fnv, ee_bin, ee_neg, ee_cmp, ee_chain, ee_isN, ee_notN, ee_and, ee_or, ee_not, ee_ite, ee_call, ee_callv, ee_bi, ee_isi1, ee_isi2, ee_mt0, ee_mt1, ee_ix, ee_sl, ee_tup, ee_lst, evEs, evZ, evO, evI, evT, evTo, evX, rd_d, fz_d, b_add, b_sub, b_mul, b_div, b_mod, b_p18, b_p8, b_p7, b_p6, c_lt, c_le, c_gt, c_ge, c_eq, c_ne, c_eqs, c_nes, c_nes0, c_nes1, c_eqs0, c_eqs1, l_t, l_l, bi_i, bi_max, bi_min, bi_tl, bi_tt, ix_l, ix_t, m_nil, m_cons, at0, at1, at2, flatD, seqOf, isNonW, nx_nx, nx_rt, nx_bk, nx_ct, nx_xc, next_nx, next_ct, next_bk, next_rt, Option.bind_some, Option.map_some, List.getElem?_cons_zero, List.getElem?_cons_succ, List.set_cons_zero, List.set_cons_succ, List.length_cons, List.length_nil, if_true, asgn, asgns, Nat.zero_add, Nat.reduceAdd, Nat.reduceLT, Nat.reduceLeDiff, reduceIte, reduceCtorEq, Bool.false_eq_true, Int.reduceNeg, sizeLine_val, and_self, true_and, and_true, b_m7, b_m86400, b_m1000000000, b_m60, b_m600, b_d7, b_d86400, b_d1000, b_p10_5, b_p10_9, b_p10_12, b_p10_15]
    refine ss_step ?_; simp only [okR_bind, okR_map, okR_some, evS, ee_var, ee_cst, ee_fnv, ee_bin, ee_neg, ee_cmp, ee_chain, ee_isN, ee_notN, ee_and, ee_or, ee_not, ee_ite, ee_call, ee_callv, ee_bi, ee_isi1, ee_isi2, ee_mt0, ee_mt1, ee_ix, ee_sl, ee_tup, ee_lst, evEs, evZ, evO, evI, evT, evTo, evX, rd_d, fz_d, b_add, b_sub, b_mul, b_div, b_mod, b_p18, b_p8, b_p7, b_p6, c_lt, c_le, c_gt, c_ge, c_eq, c_ne, c_eqs, c_nes, c_nes0, c_nes1, c_eqs0, c_eqs1, l_t, l_l, bi_i, bi_max, bi_min, bi_tl, bi_tt, ix_l, ix_t, m_nil, m_cons, at0, at1, at2, flatD, seqOf, isNonW, nx_nx, nx_rt, nx_bk, nx_ct, nx_xc, next_nx, next_ct, next_bk, next_rt, Option.bind_some, Option.map_some, List.getElem?_cons_zero, List.getElem?_cons_succ, List.set_cons_zero, List.set_cons_succ, List.length_cons, List.length_nil, if_true, asgn, asgns, Nat.zero_add, Nat.reduceAdd, Nat.reduceLT, Nat.reduceLeDiff, reduceIte, reduceCtorEq, Bool.false_eq_true, Int.reduceNeg, sizeLine_val, and_self, true_and, and_true, b_m7, b_m86400, b_m1000000000, b_m60, b_m600, b_d7, b_d86400, b_d1000, b_p10_5, b_p10_9, b_p10_12, b_p10_15]
    simp only [List.nil_append]
    refine ss_step ?_; simp only [okR_bind, okR_map, okR_some, evS, ee_var, ee_cst, ee_fnv, ee_bin, ee_neg, ee_cmp, ee_chain, ee_isN, ee_notN, ee_and, ee_or, ee_not, ee_ite, ee_call, ee_callv, ee_bi, ee_isi1, ee_isi2, ee_mt0, ee_mt1, ee_ix, ee_sl, ee_tup, ee_lst, evEs, evZ, evO, evI, evT, evTo, evX, rd_d, fz_d, b_add, b_sub, b_mul, b_div, b_mod, b_p18, b_p8, b_p7, b_p6, c_lt, c_le, c_gt, c_ge, c_eq, c_ne, c_eqs, c_nes, c_nes0, c_nes1, c_eqs0, c_eqs1, l_t, l_l, bi_i, bi_max, bi_min, bi_tl, bi_tt, ix_l, ix_t, m_nil, m_cons, at0, at1, at2, flatD, seqOf, isNonW, nx_nx, nx_rt, nx_bk, nx_ct, nx_xc, next_nx, next_ct, next_bk, next_rt, Option.bind_some, Option.map_some, List.getElem?_cons_zero, List.getElem?_cons_succ, List.set_cons_zero, List.set_cons_succ, List.length_cons, List.length_nil, if_true, asgn, asgns, Nat.zero_add, Nat.reduceAdd, Nat.reduceLT, Nat.reduceLeDiff, reduceIte, reduceCtorEq, Bool.false_eq_true, Int.reduceNeg, sizeLine_val, and_self, true_and, and_true, b_m7, b_m86400, b_m1000000000, b_m60, b_m600, b_d7, b_d86400, b_d1000, b_p10_5, b_p10_9, b_p10_12, b_p10_15]
    refine T.lx.week0 (k := 35) T.p32 T.p31 hr (by decide) fun days feasts j hw ww hj => ?_
    simp only [okR_bind, okR_map, okR_some, evS, ee_var, ee_cst, ee_fnv, ee_bin, ee_neg, ee_cmp, ee_chain, ee_isN, ee_notN, ee_and, ee_or, ee_not, ee_ite, ee_call, ee_callv, ee_bi, ee_isi1, ee_isi2, ee_mt0, ee_mt1, ee_ix, ee_sl, ee_tup, ee_lst, evEs, evZ, evO, evI, evT, evTo, evX, rd_d, fz_d, b_add, b_sub, b_mul, b_div, b_mod, b_p18, b_p8, b_p7, b_p6, c_lt, c_le, c_gt, c_ge, c_eq, c_ne, c_eqs, c_nes, c_nes0, c_nes1, c_eqs0, c_eqs1, l_t, l_l, bi_i, bi_max, bi_min, bi_tl, bi_tt, ix_l, ix_t, m_nil, m_cons, at0, at1, at2, flatD, seqOf, isNonW, nx_nx, nx_rt, nx_bk, nx_ct, nx_xc, next_nx, next_ct, next_bk, next_rt, Option.bind_some, Option.map_some, List.getElem?_cons_zero, List.getElem?_cons_succ, List.set_cons_zero, List.set_cons_succ, List.length_cons, List.length_nil, if_true, asgn, asgns, Nat.zero_add, Nat.reduceAdd, Nat.reduceLT, Nat.reduceLeDiff, reduceIte, reduceCtorEq, Bool.false_eq_true, Int.reduceNeg, sizeLine_val, and_self, true_and, and_true, b_m7, b_m86400, b_m1000000000, b_m60, b_m600, b_d7, b_d86400, b_d1000, b_p10_5, b_p10_9, b_p10_12, b_p10_15]
    obtain ⟨cw, tw⟩ := tv_week hw
    refine ss_step (for_ok (i_r1 ?_))
    simp only [okR_bind, okR_map, okR_some, evS, ee_var, ee_cst, ee_fnv, ee_bin, ee_neg, ee_cmp, ee_chain, ee_isN, ee_notN, ee_and, ee_or, ee_not, ee_ite, ee_call, ee_callv, ee_bi, ee_isi1, ee_isi2, ee_mt0, ee_mt1, ee_ix, ee_sl, ee_tup, ee_lst, evEs, evZ, evO, evI, evT, evTo, evX, rd_d, fz_d, b_add, b_sub, b_mul, b_div, b_mod, b_p18, b_p8, b_p7, b_p6, c_lt, c_le, c_gt, c_ge, c_eq, c_ne, c_eqs, c_nes, c_nes0, c_nes1, c_eqs0, c_eqs1, l_t, l_l, bi_i, bi_max, bi_min, bi_tl, bi_tt, ix_l, ix_t, m_nil, m_cons, at0, at1, at2, flatD, seqOf, isNonW, nx_nx, nx_rt, nx_bk, nx_ct, nx_xc, next_nx, next_ct, next_bk, next_rt, Option.bind_some, Option.map_some, List.getElem?_cons_zero, List.getElem?_cons_succ, List.set_cons_zero, List.set_cons_succ, List.length_cons, List.length_nil, if_true, asgn, asgns, Nat.zero_add, Nat.reduceAdd, Nat.reduceLT, Nat.reduceLeDiff, reduceIte, reduceCtorEq, Bool.false_eq_true, Int.reduceNeg, sizeLine_val, and_self, true_and, and_true, b_m7, b_m86400, b_m1000000000, b_m60, b_m600, b_d7, b_d86400, b_d1000, b_p10_5, b_p10_9, b_p10_12, b_p10_15]
    refine ⟨8, rfl, by decide, by decide, ?_⟩
    refine loop_ok (fun n ρ S => ∃ (v4 v5 : Option W) (j : Int), ρ = [some (.d (.scr ns)), some (.d r), some (.mu 0), some (.d (weekD days feasts)), v4, v5, none, none, none, none] ∧ S = [.lst [.int j]] ∧ 0 ≤ j) ⟨none, none, j, rfl, rfl, hj⟩ ?_ ?_
    · rintro n d ρ S hn ⟨v4, v5, j, rfl, rfl, hj⟩
      obtain ⟨hn1, rfl⟩ := rangeD_get hn
      simp only [okR_bind, okR_map, okR_some, evS, ee_var, ee_cst, ee_fnv, ee_bin, ee_neg, ee_cmp, ee_chain, ee_isN, ee_notN, ee_and, ee_or, ee_not, ee_ite, ee_call, ee_callv, ee_bi, ee_isi1, ee_isi2, ee_mt0, ee_mt1, ee_ix, ee_sl, ee_tup, ee_lst, evEs, evZ, evO, evI, evT, evTo, evX, rd_d, fz_d, b_add, b_sub, b_mul, b_div, b_mod, b_p18, b_p8, b_p7, b_p6, c_lt, c_le, c_gt, c_ge, c_eq, c_ne, c_eqs, c_nes, c_nes0, c_nes1, c_eqs0, c_eqs1, l_t, l_l, bi_i, bi_max, bi_min, bi_tl, bi_tt, ix_l, ix_t, m_nil, m_cons, at0, at1, at2, flatD, seqOf, isNonW, nx_nx, nx_rt, nx_bk, nx_ct, nx_xc, next_nx, next_ct, next_bk, next_rt, Option.bind_some, Option.map_some, List.getElem?_cons_zero, List.getElem?_cons_succ, List.set_cons_zero, List.set_cons_succ, List.length_cons, List.length_nil, if_true, asgn, asgns, Nat.zero_add, Nat.reduceAdd, Nat.reduceLT, Nat.reduceLeDiff, reduceIte, reduceCtorEq, Bool.false_eq_true, Int.reduceNeg, sizeLine_val, and_self, true_and, and_true, b_m7, b_m86400, b_m1000000000, b_m60, b_m600, b_d7, b_d86400, b_d1000, b_p10_5, b_p10_9, b_p10_12, b_p10_15]
      refine ss_step ?_; simp only [okR_bind, okR_map, okR_some, evS, ee_var, ee_cst, ee_fnv, ee_bin, ee_neg, ee_cmp, ee_chain, ee_isN, ee_notN, ee_and, ee_or, ee_not, ee_ite, ee_call, ee_callv, ee_bi, ee_isi1, ee_isi2, ee_mt0, ee_mt1, ee_ix, ee_sl, ee_tup, ee_lst, evEs, evZ, evO, evI, evT, evTo, evX, rd_d, fz_d, b_add, b_sub, b_mul, b_div, b_mod, b_p18, b_p8, b_p7, b_p6, c_lt, c_le, c_gt, c_ge, c_eq, c_ne, c_eqs, c_nes, c_nes0, c_nes1, c_eqs0, c_eqs1, l_t, l_l, bi_i, bi_max, bi_min, bi_tl, bi_tt, ix_l, ix_t, m_nil, m_cons, at0, at1, at2, flatD, seqOf, isNonW, nx_nx, nx_rt, nx_bk, nx_ct, nx_xc, next_nx, next_ct, next_bk, next_rt, Option.bind_some, Option.map_some, List.getElem?_cons_zero, List.getElem?_cons_succ, List.set_cons_zero, List.set_cons_succ, List.length_cons, List.length_nil, if_true, asgn, asgns, Nat.zero_add, Nat.reduceAdd, Nat.reduceLT, Nat.reduceLeDiff, reduceIte, reduceCtorEq, Bool.false_eq_true, Int.reduceNeg, sizeLine_val, and_self, true_and, and_true, b_m7, b_m86400, b_m1000000000, b_m60, b_m600, b_d7, b_d86400, b_d1000, b_p10_5, b_p10_9, b_p10_12, b_p10_15]
      refine T.lx.changed0 (ms := []) T.p33 hr 4 (k := 32) tw hj fun c j2 hc hj2 => ?_
      simp only [okR_bind, okR_map, okR_some, evS, ee_var, ee_cst, ee_fnv, ee_bin, ee_neg, ee_cmp, ee_chain, ee_isN, ee_notN, ee_and, ee_or, ee_not, ee_ite, ee_call, ee_callv, ee_bi, ee_isi1, ee_isi2, ee_mt0, ee_mt1, ee_ix, ee_sl, ee_tup, ee_lst, evEs, evZ, evO, evI, evT, evTo, evX, rd_d, fz_d, b_add, b_sub, b_mul, b_div, b_mod, b_p18, b_p8, b_p7, b_p6, c_lt, c_le, c_gt, c_ge, c_eq, c_ne, c_eqs, c_nes, c_nes0, c_nes1, c_eqs0, c_eqs1, l_t, l_l, bi_i, bi_max, bi_min, bi_tl, bi_tt, ix_l, ix_t, m_nil, m_cons, at0, at1, at2, flatD, seqOf, isNonW, nx_nx, nx_rt, nx_bk, nx_ct, nx_xc, next_nx, next_ct, next_bk, next_rt, Option.bind_some, Option.map_some, List.getElem?_cons_zero, List.getElem?_cons_succ, List.set_cons_zero, List.set_cons_succ, List.length_cons, List.length_nil, if_true, asgn, asgns, Nat.zero_add, Nat.reduceAdd, Nat.reduceLT, Nat.reduceLeDiff, reduceIte, reduceCtorEq, Bool.false_eq_true, Int.reduceNeg, sizeLine_val, and_self, true_and, and_true, b_m7, b_m86400, b_m1000000000, b_m60, b_m600, b_d7, b_d86400, b_d1000, b_p10_5, b_p10_9, b_p10_12, b_p10_15]
      refine ss_step (ifs_ok ?_)
      simp only [okR_bind, okR_map, okR_some, evS, ee_var, ee_cst, ee_fnv, ee_bin, ee_neg, ee_cmp, ee_chain, ee_isN, ee_notN, ee_and, ee_or, ee_not, ee_ite, ee_call, ee_callv, ee_bi, ee_isi1, ee_isi2, ee_mt0, ee_mt1, ee_ix, ee_sl, ee_tup, ee_lst, evEs, evZ, evO, evI, evT, evTo, evX, rd_d, fz_d, b_add, b_sub, b_mul, b_div, b_mod, b_p18, b_p8, b_p7, b_p6, c_lt, c_le, c_gt, c_ge, c_eq, c_ne, c_eqs, c_nes, c_nes0, c_nes1, c_eqs0, c_eqs1, l_t, l_l, bi_i, bi_max, bi_min, bi_tl, bi_tt, ix_l, ix_t, m_nil, m_cons, at0, at1, at2, flatD, seqOf, isNonW, nx_nx, nx_rt, nx_bk, nx_ct, nx_xc, next_nx, next_ct, next_bk, next_rt, Option.bind_some, Option.map_some, List.getElem?_cons_zero, List.getElem?_cons_succ, List.set_cons_zero, List.set_cons_succ, List.length_cons, List.length_nil, if_true, asgn, asgns, Nat.zero_add, Nat.reduceAdd, Nat.reduceLT, Nat.reduceLeDiff, reduceIte, reduceCtorEq, Bool.false_eq_true, Int.reduceNeg, sizeLine_val, and_self, true_and, and_true, b_m7, b_m86400, b_m1000000000, b_m60, b_m600, b_d7, b_d86400, b_d1000, b_p10_5, b_p10_9, b_p10_12, b_p10_15]
      refine T.lx.handed0 (k := 30) (m := 6) hr hj2 hc.1 fun x' j3 hx' hj3 => ?_
      simp only [okR_bind, okR_map, okR_some, evS, ee_var, ee_cst, ee_fnv, ee_bin, ee_neg, ee_cmp, ee_chain, ee_isN, ee_notN, ee_and, ee_or, ee_not, ee_ite, ee_call, ee_callv, ee_bi, ee_isi1, ee_isi2, ee_mt0, ee_mt1, ee_ix, ee_sl, ee_tup, ee_lst, evEs, evZ, evO, evI, evT, evTo, evX, rd_d, fz_d, b_add, b_sub, b_mul, b_div, b_mod, b_p18, b_p8, b_p7, b_p6, c_lt, c_le, c_gt, c_ge, c_eq, c_ne, c_eqs, c_nes, c_nes0, c_nes1, c_eqs0, c_eqs1, l_t, l_l, bi_i, bi_max, bi_min, bi_tl, bi_tt, ix_l, ix_t, m_nil, m_cons, at0, at1, at2, flatD, seqOf, isNonW, nx_nx, nx_rt, nx_bk, nx_ct, nx_xc, next_nx, next_ct, next_bk, next_rt, Option.bind_some, Option.map_some, List.getElem?_cons_zero, List.getElem?_cons_succ, List.set_cons_zero, List.set_cons_succ, List.length_cons, List.length_nil, if_true, asgn, asgns, Nat.zero_add, Nat.reduceAdd, Nat.reduceLT, Nat.reduceLeDiff, reduceIte, reduceCtorEq, Bool.false_eq_true, Int.reduceNeg, sizeLine_val, and_self, true_and, and_true, b_m7, b_m86400, b_m1000000000, b_m60, b_m600, b_d7, b_d86400, b_d1000, b_p10_5, b_p10_9, b_p10_12, b_p10_15]
      have vx := vt_of_lk hc.1 hc.2 hx'
      refine OkR.of (T.ix.toIxB.weekE (k := 33) vx) ?_
      simp only [okR_bind, okR_map, okR_some, evS, ee_var, ee_cst, ee_fnv, ee_bin, ee_neg, ee_cmp, ee_chain, ee_isN, ee_notN, ee_and, ee_or, ee_not, ee_ite, ee_call, ee_callv, ee_bi, ee_isi1, ee_isi2, ee_mt0, ee_mt1, ee_ix, ee_sl, ee_tup, ee_lst, evEs, evZ, evO, evI, evT, evTo, evX, rd_d, fz_d, b_add, b_sub, b_mul, b_div, b_mod, b_p18, b_p8, b_p7, b_p6, c_lt, c_le, c_gt, c_ge, c_eq, c_ne, c_eqs, c_nes, c_nes0, c_nes1, c_eqs0, c_eqs1, l_t, l_l, bi_i, bi_max, bi_min, bi_tl, bi_tt, ix_l, ix_t, m_nil, m_cons, at0, at1, at2, flatD, seqOf, isNonW, nx_nx, nx_rt, nx_bk, nx_ct, nx_xc, next_nx, next_ct, next_bk, next_rt, Option.bind_some, Option.map_some, List.getElem?_cons_zero, List.getElem?_cons_succ, List.set_cons_zero, List.set_cons_succ, List.length_cons, List.length_nil, if_true, asgn, asgns, Nat.zero_add, Nat.reduceAdd, Nat.reduceLT, Nat.reduceLeDiff, reduceIte, reduceCtorEq, Bool.false_eq_true, Int.reduceNeg, sizeLine_val, and_self, true_and, and_true, b_m7, b_m86400, b_m1000000000, b_m60, b_m600, b_d7, b_d86400, b_d1000, b_p10_5, b_p10_9, b_p10_12, b_p10_15]
      have el := law_week_eq (k := 36) (S := [.lst [.int j3]]) T.p28 T.p27 T.p25 T.p20 T.p26 hc.1 hc.2
      refine OkR.of el ?_
      simp only [okR_bind, okR_map, okR_some, evS, ee_var, ee_cst, ee_fnv, ee_bin, ee_neg, ee_cmp, ee_chain, ee_isN, ee_notN, ee_and, ee_or, ee_not, ee_ite, ee_call, ee_callv, ee_bi, ee_isi1, ee_isi2, ee_mt0, ee_mt1, ee_ix, ee_sl, ee_tup, ee_lst, evEs, evZ, evO, evI, evT, evTo, evX, rd_d, fz_d, b_add, b_sub, b_mul, b_div, b_mod, b_p18, b_p8, b_p7, b_p6, c_lt, c_le, c_gt, c_ge, c_eq, c_ne, c_eqs, c_nes, c_nes0, c_nes1, c_eqs0, c_eqs1, l_t, l_l, bi_i, bi_max, bi_min, bi_tl, bi_tt, ix_l, ix_t, m_nil, m_cons, at0, at1, at2, flatD, seqOf, isNonW, nx_nx, nx_rt, nx_bk, nx_ct, nx_xc, next_nx, next_ct, next_bk, next_rt, Option.bind_some, Option.map_some, List.getElem?_cons_zero, List.getElem?_cons_succ, List.set_cons_zero, List.set_cons_succ, List.length_cons, List.length_nil, if_true, asgn, asgns, Nat.zero_add, Nat.reduceAdd, Nat.reduceLT, Nat.reduceLeDiff, reduceIte, reduceCtorEq, Bool.false_eq_true, Int.reduceNeg, sizeLine_val, and_self, true_and, and_true, b_m7, b_m86400, b_m1000000000, b_m60, b_m600, b_d7, b_d86400, b_d1000, b_p10_5, b_p10_9, b_p10_12, b_p10_15]
      rw [lk_week hx' hc.1]
      refine T.so rfl ?_
      simp only [okR_bind, okR_map, okR_some, evS, ee_var, ee_cst, ee_fnv, ee_bin, ee_neg, ee_cmp, ee_chain, ee_isN, ee_notN, ee_and, ee_or, ee_not, ee_ite, ee_call, ee_callv, ee_bi, ee_isi1, ee_isi2, ee_mt0, ee_mt1, ee_ix, ee_sl, ee_tup, ee_lst, evEs, evZ, evO, evI, evT, evTo, evX, rd_d, fz_d, b_add, b_sub, b_mul, b_div, b_mod, b_p18, b_p8, b_p7, b_p6, c_lt, c_le, c_gt, c_ge, c_eq, c_ne, c_eqs, c_nes, c_nes0, c_nes1, c_eqs0, c_eqs1, l_t, l_l, bi_i, bi_max, bi_min, bi_tl, bi_tt, ix_l, ix_t, m_nil, m_cons, at0, at1, at2, flatD, seqOf, isNonW, nx_nx, nx_rt, nx_bk, nx_ct, nx_xc, next_nx, next_ct, next_bk, next_rt, Option.bind_some, Option.map_some, List.getElem?_cons_zero, List.getElem?_cons_succ, List.set_cons_zero, List.set_cons_succ, List.length_cons, List.length_nil, if_true, asgn, asgns, Nat.zero_add, Nat.reduceAdd, Nat.reduceLT, Nat.reduceLeDiff, reduceIte, reduceCtorEq, Bool.false_eq_true, Int.reduceNeg, sizeLine_val, and_self, true_and, and_true, b_m7, b_m86400, b_m1000000000, b_m60, b_m600, b_d7, b_d86400, b_d1000, b_p10_5, b_p10_9, b_p10_12, b_p10_15, Bool.not_true]
      refine ss_done ?_
      simp only [okR_bind, okR_map, okR_some, evS, ee_var, ee_cst, ee_fnv, ee_bin, ee_neg, ee_cmp, ee_chain, ee_isN, ee_notN, ee_and, ee_or, ee_not, ee_ite, ee_call, ee_callv, ee_bi, ee_isi1, ee_isi2, ee_mt0, ee_mt1, ee_ix, ee_sl, ee_tup, ee_lst, evEs, evZ, evO, evI, evT, evTo, evX, rd_d, fz_d, b_add, b_sub, b_mul, b_div, b_mod, b_p18, b_p8, b_p7, b_p6, c_lt, c_le, c_gt, c_ge, c_eq, c_ne, c_eqs, c_nes, c_nes0, c_nes1, c_eqs0, c_eqs1, l_t, l_l, bi_i, bi_max, bi_min, bi_tl, bi_tt, ix_l, ix_t, m_nil, m_cons, at0, at1, at2, flatD, seqOf, isNonW, nx_nx, nx_rt, nx_bk, nx_ct, nx_xc, next_nx, next_ct, next_bk, next_rt, Option.bind_some, Option.map_some, List.getElem?_cons_zero, List.getElem?_cons_succ, List.set_cons_zero, List.set_cons_succ, List.length_cons, List.length_nil, if_true, asgn, asgns, Nat.zero_add, Nat.reduceAdd, Nat.reduceLT, Nat.reduceLeDiff, reduceIte, reduceCtorEq, Bool.false_eq_true, Int.reduceNeg, sizeLine_val, and_self, true_and, and_true, b_m7, b_m86400, b_m1000000000, b_m60, b_m600, b_d7, b_d86400, b_d1000, b_p10_5, b_p10_9, b_p10_12, b_p10_15]
      refine ss_step (ifs_ok ?_)
      simp only [okR_bind, okR_map, okR_some, evS, ee_var, ee_cst, ee_fnv, ee_bin, ee_neg, ee_cmp, ee_chain, ee_isN, ee_notN, ee_and, ee_or, ee_not, ee_ite, ee_call, ee_callv, ee_bi, ee_isi1, ee_isi2, ee_mt0, ee_mt1, ee_ix, ee_sl, ee_tup, ee_lst, evEs, evZ, evO, evI, evT, evTo, evX, rd_d, fz_d, b_add, b_sub, b_mul, b_div, b_mod, b_p18, b_p8, b_p7, b_p6, c_lt, c_le, c_gt, c_ge, c_eq, c_ne, c_eqs, c_nes, c_nes0, c_nes1, c_eqs0, c_eqs1, l_t, l_l, bi_i, bi_max, bi_min, bi_tl, bi_tt, ix_l, ix_t, m_nil, m_cons, at0, at1, at2, flatD, seqOf, isNonW, nx_nx, nx_rt, nx_bk, nx_ct, nx_xc, next_nx, next_ct, next_bk, next_rt, Option.bind_some, Option.map_some, List.getElem?_cons_zero, List.getElem?_cons_succ, List.set_cons_zero, List.set_cons_succ, List.length_cons, List.length_nil, if_true, asgn, asgns, Nat.zero_add, Nat.reduceAdd, Nat.reduceLT, Nat.reduceLeDiff, reduceIte, reduceCtorEq, Bool.false_eq_true, Int.reduceNeg, sizeLine_val, and_self, true_and, and_true, b_m7, b_m86400, b_m1000000000, b_m60, b_m600, b_d7, b_d86400, b_d1000, b_p10_5, b_p10_9, b_p10_12, b_p10_15]
      refine OkR.of el ?_
      simp only [okR_bind, okR_map, okR_some, evS, ee_var, ee_cst, ee_fnv, ee_bin, ee_neg, ee_cmp, ee_chain, ee_isN, ee_notN, ee_and, ee_or, ee_not, ee_ite, ee_call, ee_callv, ee_bi, ee_isi1, ee_isi2, ee_mt0, ee_mt1, ee_ix, ee_sl, ee_tup, ee_lst, evEs, evZ, evO, evI, evT, evTo, evX, rd_d, fz_d, b_add, b_sub, b_mul, b_div, b_mod, b_p18, b_p8, b_p7, b_p6, c_lt, c_le, c_gt, c_ge, c_eq, c_ne, c_eqs, c_nes, c_nes0, c_nes1, c_eqs0, c_eqs1, l_t, l_l, bi_i, bi_max, bi_min, bi_tl, bi_tt, ix_l, ix_t, m_nil, m_cons, at0, at1, at2, flatD, seqOf, isNonW, nx_nx, nx_rt, nx_bk, nx_ct, nx_xc, next_nx, next_ct, next_bk, next_rt, Option.bind_some, Option.map_some, List.getElem?_cons_zero, List.getElem?_cons_succ, List.set_cons_zero, List.set_cons_succ, List.length_cons, List.length_nil, if_true, asgn, asgns, Nat.zero_add, Nat.reduceAdd, Nat.reduceLT, Nat.reduceLeDiff, reduceIte, reduceCtorEq, Bool.false_eq_true, Int.reduceNeg, sizeLine_val, and_self, true_and, and_true, b_m7, b_m86400, b_m1000000000, b_m60, b_m600, b_d7, b_d86400, b_d1000, b_p10_5, b_p10_9, b_p10_12, b_p10_15]
      cases hb : Pv.weekB c with
      | true =>
        simp only [okR_bind, okR_map, okR_some, evS, ee_var, ee_cst, ee_fnv, ee_bin, ee_neg, ee_cmp, ee_chain, ee_isN, ee_notN, ee_and, ee_or, ee_not, ee_ite, ee_call, ee_callv, ee_bi, ee_isi1, ee_isi2, ee_mt0, ee_mt1, ee_ix, ee_sl, ee_tup, ee_lst, evEs, evZ, evO, evI, evT, evTo, evX, rd_d, fz_d, b_add, b_sub, b_mul, b_div, b_mod, b_p18, b_p8, b_p7, b_p6, c_lt, c_le, c_gt, c_ge, c_eq, c_ne, c_eqs, c_nes, c_nes0, c_nes1, c_eqs0, c_eqs1, l_t, l_l, bi_i, bi_max, bi_min, bi_tl, bi_tt, ix_l, ix_t, m_nil, m_cons, at0, at1, at2, flatD, seqOf, isNonW, nx_nx, nx_rt, nx_bk, nx_ct, nx_xc, next_nx, next_ct, next_bk, next_rt, Option.bind_some, Option.map_some, List.getElem?_cons_zero, List.getElem?_cons_succ, List.set_cons_zero, List.set_cons_succ, List.length_cons, List.length_nil, if_true, asgn, asgns, Nat.zero_add, Nat.reduceAdd, Nat.reduceLT, Nat.reduceLeDiff, reduceIte, reduceCtorEq, Bool.false_eq_true, Int.reduceNeg, sizeLine_val, and_self, true_and, and_true, b_m7, b_m86400, b_m1000000000, b_m60, b_m600, b_d7, b_d86400, b_d1000, b_p10_5, b_p10_9, b_p10_12, b_p10_15, Bool.not_true]
        exact ss_done (ss_done ⟨_, _, j3, rfl, rfl, hj3⟩)
      | false =>
        simp only [okR_bind, okR_map, okR_some, evS, ee_var, ee_cst, ee_fnv, ee_bin, ee_neg, ee_cmp, ee_chain, ee_isN, ee_notN, ee_and, ee_or, ee_not, ee_ite, ee_call, ee_callv, ee_bi, ee_isi1, ee_isi2, ee_mt0, ee_mt1, ee_ix, ee_sl, ee_tup, ee_lst, evEs, evZ, evO, evI, evT, evTo, evX, rd_d, fz_d, b_add, b_sub, b_mul, b_div, b_mod, b_p18, b_p8, b_p7, b_p6, c_lt, c_le, c_gt, c_ge, c_eq, c_ne, c_eqs, c_nes, c_nes0, c_nes1, c_eqs0, c_eqs1, l_t, l_l, bi_i, bi_max, bi_min, bi_tl, bi_tt, ix_l, ix_t, m_nil, m_cons, at0, at1, at2, flatD, seqOf, isNonW, nx_nx, nx_rt, nx_bk, nx_ct, nx_xc, next_nx, next_ct, next_bk, next_rt, Option.bind_some, Option.map_some, List.getElem?_cons_zero, List.getElem?_cons_succ, List.set_cons_zero, List.set_cons_succ, List.length_cons, List.length_nil, if_true, asgn, asgns, Nat.zero_add, Nat.reduceAdd, Nat.reduceLT, Nat.reduceLeDiff, reduceIte, reduceCtorEq, Bool.false_eq_true, Int.reduceNeg, sizeLine_val, and_self, true_and, and_true, b_m7, b_m86400, b_m1000000000, b_m60, b_m600, b_d7, b_d86400, b_d1000, b_p10_5, b_p10_9, b_p10_12, b_p10_15, Bool.not_false]
        refine told2 (k := 39) T.p34 (T.ix.band0 (k := 31) T.p14 (vt_of hc.1 hc.2) hb) ⟨rfl, ?_⟩
        simp only [okR_bind, okR_map, okR_some, evS, ee_var, ee_cst, ee_fnv, ee_bin, ee_neg, ee_cmp, ee_chain, ee_isN, ee_notN, ee_and, ee_or, ee_not, ee_ite, ee_call, ee_callv, ee_bi, ee_isi1, ee_isi2, ee_mt0, ee_mt1, ee_ix, ee_sl, ee_tup, ee_lst, evEs, evZ, evO, evI, evT, evTo, evX, rd_d, fz_d, b_add, b_sub, b_mul, b_div, b_mod, b_p18, b_p8, b_p7, b_p6, c_lt, c_le, c_gt, c_ge, c_eq, c_ne, c_eqs, c_nes, c_nes0, c_nes1, c_eqs0, c_eqs1, l_t, l_l, bi_i, bi_max, bi_min, bi_tl, bi_tt, ix_l, ix_t, m_nil, m_cons, at0, at1, at2, flatD, seqOf, isNonW, nx_nx, nx_rt, nx_bk, nx_ct, nx_xc, next_nx, next_ct, next_bk, next_rt, Option.bind_some, Option.map_some, List.getElem?_cons_zero, List.getElem?_cons_succ, List.set_cons_zero, List.set_cons_succ, List.length_cons, List.length_nil, if_true, asgn, asgns, Nat.zero_add, Nat.reduceAdd, Nat.reduceLT, Nat.reduceLeDiff, reduceIte, reduceCtorEq, Bool.false_eq_true, Int.reduceNeg, sizeLine_val, and_self, true_and, and_true, b_m7, b_m86400, b_m1000000000, b_m60, b_m600, b_d7, b_d86400, b_d1000, b_p10_5, b_p10_9, b_p10_12, b_p10_15]
        refine T.so (T05.bad 0) ?_
        simp only [okR_bind, okR_map, okR_some, evS, ee_var, ee_cst, ee_fnv, ee_bin, ee_neg, ee_cmp, ee_chain, ee_isN, ee_notN, ee_and, ee_or, ee_not, ee_ite, ee_call, ee_callv, ee_bi, ee_isi1, ee_isi2, ee_mt0, ee_mt1, ee_ix, ee_sl, ee_tup, ee_lst, evEs, evZ, evO, evI, evT, evTo, evX, rd_d, fz_d, b_add, b_sub, b_mul, b_div, b_mod, b_p18, b_p8, b_p7, b_p6, c_lt, c_le, c_gt, c_ge, c_eq, c_ne, c_eqs, c_nes, c_nes0, c_nes1, c_eqs0, c_eqs1, l_t, l_l, bi_i, bi_max, bi_min, bi_tl, bi_tt, ix_l, ix_t, m_nil, m_cons, at0, at1, at2, flatD, seqOf, isNonW, nx_nx, nx_rt, nx_bk, nx_ct, nx_xc, next_nx, next_ct, next_bk, next_rt, Option.bind_some, Option.map_some, List.getElem?_cons_zero, List.getElem?_cons_succ, List.set_cons_zero, List.set_cons_succ, List.length_cons, List.length_nil, if_true, asgn, asgns, Nat.zero_add, Nat.reduceAdd, Nat.reduceLT, Nat.reduceLeDiff, reduceIte, reduceCtorEq, Bool.false_eq_true, Int.reduceNeg, sizeLine_val, and_self, true_and, and_true, b_m7, b_m86400, b_m1000000000, b_m60, b_m600, b_d7, b_d86400, b_d1000, b_p10_5, b_p10_9, b_p10_12, b_p10_15, Bool.not_true]
        exact ss_done (ss_done ⟨_, _, j3, rfl, rfl, hj3⟩)
    · rintro ρ S ⟨v4, v5, j, rfl, rfl, hj⟩
      simp only [nx_nx]
      refine ss_step (for_ok (i_r1 ?_))
      simp only [okR_bind, okR_map, okR_some, evS, ee_var, ee_cst, ee_fnv, ee_bin, ee_neg, ee_cmp, ee_chain, ee_isN, ee_notN, ee_and, ee_or, ee_not, ee_ite, ee_call, ee_callv, ee_bi, ee_isi1, ee_isi2, ee_mt0, ee_mt1, ee_ix, ee_sl, ee_tup, ee_lst, evEs, evZ, evO, evI, evT, evTo, evX, rd_d, fz_d, b_add, b_sub, b_mul, b_div, b_mod, b_p18, b_p8, b_p7, b_p6, c_lt, c_le, c_gt, c_ge, c_eq, c_ne, c_eqs, c_nes, c_nes0, c_nes1, c_eqs0, c_eqs1, l_t, l_l, bi_i, bi_max, bi_min, bi_tl, bi_tt, ix_l, ix_t, m_nil, m_cons, at0, at1, at2, flatD, seqOf, isNonW, nx_nx, nx_rt, nx_bk, nx_ct, nx_xc, next_nx, next_ct, next_bk, next_rt, Option.bind_some, Option.map_some, List.getElem?_cons_zero, List.getElem?_cons_succ, List.set_cons_zero, List.set_cons_succ, List.length_cons, List.length_nil, if_true, asgn, asgns, Nat.zero_add, Nat.reduceAdd, Nat.reduceLT, Nat.reduceLeDiff, reduceIte, reduceCtorEq, Bool.false_eq_true, Int.reduceNeg, sizeLine_val, and_self, true_and, and_true, b_m7, b_m86400, b_m1000000000, b_m60, b_m600, b_d7, b_d86400, b_d1000, b_p10_5, b_p10_9, b_p10_12, b_p10_15]
      refine ⟨12, rfl, by decide, by decide, ?_⟩
      refine loop_ok (fun n ρ S => ∃ (v4 v5 v6 v7 v8 : Option W) (j : Int), ρ = [some (.d (.scr ns)), some (.d r), some (.mu 0), some (.d (weekD days feasts)), v4, v5, v6, v7, v8, none] ∧ S = [.lst [.int j]] ∧ 0 ≤ j) ⟨v4, v5, none, none, none, j, rfl, rfl, hj⟩ ?_ ?_
      · rintro n d ρ S hn ⟨v4, v5, v6, v7, v8, j, rfl, rfl, hj⟩
        obtain ⟨hn1, rfl⟩ := rangeD_get hn
        simp only [okR_bind, okR_map, okR_some, evS, ee_var, ee_cst, ee_fnv, ee_bin, ee_neg, ee_cmp, ee_chain, ee_isN, ee_notN, ee_and, ee_or, ee_not, ee_ite, ee_call, ee_callv, ee_bi, ee_isi1, ee_isi2, ee_mt0, ee_mt1, ee_ix, ee_sl, ee_tup, ee_lst, evEs, evZ, evO, evI, evT, evTo, evX, rd_d, fz_d, b_add, b_sub, b_mul, b_div, b_mod, b_p18, b_p8, b_p7, b_p6, c_lt, c_le, c_gt, c_ge, c_eq, c_ne, c_eqs, c_nes, c_nes0, c_nes1, c_eqs0, c_eqs1, l_t, l_l, bi_i, bi_max, bi_min, bi_tl, bi_tt, ix_l, ix_t, m_nil, m_cons, at0, at1, at2, flatD, seqOf, isNonW, nx_nx, nx_rt, nx_bk, nx_ct, nx_xc, next_nx, next_ct, next_bk, next_rt, Option.bind_some, Option.map_some, List.getElem?_cons_zero, List.getElem?_cons_succ, List.set_cons_zero, List.set_cons_succ, List.length_cons, List.length_nil, if_true, asgn, asgns, Nat.zero_add, Nat.reduceAdd, Nat.reduceLT, Nat.reduceLeDiff, reduceIte, reduceCtorEq, Bool.false_eq_true, Int.reduceNeg, sizeLine_val, and_self, true_and, and_true, b_m7, b_m86400, b_m1000000000, b_m60, b_m600, b_d7, b_d86400, b_d1000, b_p10_5, b_p10_9, b_p10_12, b_p10_15]
        refine ss_step ?_; simp only [okR_bind, okR_map, okR_some, evS, ee_var, ee_cst, ee_fnv, ee_bin, ee_neg, ee_cmp, ee_chain, ee_isN, ee_notN, ee_and, ee_or, ee_not, ee_ite, ee_call, ee_callv, ee_bi, ee_isi1, ee_isi2, ee_mt0, ee_mt1, ee_ix, ee_sl, ee_tup, ee_lst, evEs, evZ, evO, evI, evT, evTo, evX, rd_d, fz_d, b_add, b_sub, b_mul, b_div, b_mod, b_p18, b_p8, b_p7, b_p6, c_lt, c_le, c_gt, c_ge, c_eq, c_ne, c_eqs, c_nes, c_nes0, c_nes1, c_eqs0, c_eqs1, l_t, l_l, bi_i, bi_max, bi_min, bi_tl, bi_tt, ix_l, ix_t, m_nil, m_cons, at0, at1, at2, flatD, seqOf, isNonW, nx_nx, nx_rt, nx_bk, nx_ct, nx_xc, next_nx, next_ct, next_bk, next_rt, Option.bind_some, Option.map_some, List.getElem?_cons_zero, List.getElem?_cons_succ, List.set_cons_zero, List.set_cons_succ, List.length_cons, List.length_nil, if_true, asgn, asgns, Nat.zero_add, Nat.reduceAdd, Nat.reduceLT, Nat.reduceLeDiff, reduceIte, reduceCtorEq, Bool.false_eq_true, Int.reduceNeg, sizeLine_val, and_self, true_and, and_true, b_m7, b_m86400, b_m1000000000, b_m60, b_m600, b_d7, b_d86400, b_d1000, b_p10_5, b_p10_9, b_p10_12, b_p10_15]
        refine T.lx.take0 (k := 38) hr hj (by decide) fun t j2 t0 t1 hj2 => ?_
        simp only [okR_bind, okR_map, okR_some, evS, ee_var, ee_cst, ee_fnv, ee_bin, ee_neg, ee_cmp, ee_chain, ee_isN, ee_notN, ee_and, ee_or, ee_not, ee_ite, ee_call, ee_callv, ee_bi, ee_isi1, ee_isi2, ee_mt0, ee_mt1, ee_ix, ee_sl, ee_tup, ee_lst, evEs, evZ, evO, evI, evT, evTo, evX, rd_d, fz_d, b_add, b_sub, b_mul, b_div, b_mod, b_p18, b_p8, b_p7, b_p6, c_lt, c_le, c_gt, c_ge, c_eq, c_ne, c_eqs, c_nes, c_nes0, c_nes1, c_eqs0, c_eqs1, l_t, l_l, bi_i, bi_max, bi_min, bi_tl, bi_tt, ix_l, ix_t, m_nil, m_cons, at0, at1, at2, flatD, seqOf, isNonW, nx_nx, nx_rt, nx_bk, nx_ct, nx_xc, next_nx, next_ct, next_bk, next_rt, Option.bind_some, Option.map_some, List.getElem?_cons_zero, List.getElem?_cons_succ, List.set_cons_zero, List.set_cons_succ, List.length_cons, List.length_nil, if_true, asgn, asgns, Nat.zero_add, Nat.reduceAdd, Nat.reduceLT, Nat.reduceLeDiff, reduceIte, reduceCtorEq, Bool.false_eq_true, Int.reduceNeg, sizeLine_val, and_self, true_and, and_true, b_m7, b_m86400, b_m1000000000, b_m60, b_m600, b_d7, b_d86400, b_d1000, b_p10_5, b_p10_9, b_p10_12, b_p10_15]
        refine T.lx.pickL (k := 37) hr hj2 ?_ fun b j3 hb hj3 => ?_
        · exact fun z => nomatch z
        have : ∃ z, b = .int z ∧ 0 ≤ z ∧ z ≤ 1000 := by
          simp only [List.mem_cons, List.not_mem_nil, or_false] at hb
          rcases hb with rfl | rfl | rfl | rfl | rfl | rfl | rfl <;> exact ⟨_, rfl, by omega, by omega⟩
        obtain ⟨z, rfl, z0, z1⟩ := this
        simp only [okR_bind, okR_map, okR_some, evS, ee_var, ee_cst, ee_fnv, ee_bin, ee_neg, ee_cmp, ee_chain, ee_isN, ee_notN, ee_and, ee_or, ee_not, ee_ite, ee_call, ee_callv, ee_bi, ee_isi1, ee_isi2, ee_mt0, ee_mt1, ee_ix, ee_sl, ee_tup, ee_lst, evEs, evZ, evO, evI, evT, evTo, evX, rd_d, fz_d, b_add, b_sub, b_mul, b_div, b_mod, b_p18, b_p8, b_p7, b_p6, c_lt, c_le, c_gt, c_ge, c_eq, c_ne, c_eqs, c_nes, c_nes0, c_nes1, c_eqs0, c_eqs1, l_t, l_l, bi_i, bi_max, bi_min, bi_tl, bi_tt, ix_l, ix_t, m_nil, m_cons, at0, at1, at2, flatD, seqOf, isNonW, nx_nx, nx_rt, nx_bk, nx_ct, nx_xc, next_nx, next_ct, next_bk, next_rt, Option.bind_some, Option.map_some, List.getElem?_cons_zero, List.getElem?_cons_succ, List.set_cons_zero, List.set_cons_succ, List.length_cons, List.length_nil, if_true, asgn, asgns, Nat.zero_add, Nat.reduceAdd, Nat.reduceLT, Nat.reduceLeDiff, reduceIte, reduceCtorEq, Bool.false_eq_true, Int.reduceNeg, sizeLine_val, and_self, true_and, and_true, b_m7, b_m86400, b_m1000000000, b_m60, b_m600, b_d7, b_d86400, b_d1000, b_p10_5, b_p10_9, b_p10_12, b_p10_15]
        refine ss_step ?_; simp only [okR_bind, okR_map, okR_some, evS, ee_var, ee_cst, ee_fnv, ee_bin, ee_neg, ee_cmp, ee_chain, ee_isN, ee_notN, ee_and, ee_or, ee_not, ee_ite, ee_call, ee_callv, ee_bi, ee_isi1, ee_isi2, ee_mt0, ee_mt1, ee_ix, ee_sl, ee_tup, ee_lst, evEs, evZ, evO, evI, evT, evTo, evX, rd_d, fz_d, b_add, b_sub, b_mul, b_div, b_mod, b_p18, b_p8, b_p7, b_p6, c_lt, c_le, c_gt, c_ge, c_eq, c_ne, c_eqs, c_nes, c_nes0, c_nes1, c_eqs0, c_eqs1, l_t, l_l, bi_i, bi_max, bi_min, bi_tl, bi_tt, ix_l, ix_t, m_nil, m_cons, at0, at1, at2, flatD, seqOf, isNonW, nx_nx, nx_rt, nx_bk, nx_ct, nx_xc, next_nx, next_ct, next_bk, next_rt, Option.bind_some, Option.map_some, List.getElem?_cons_zero, List.getElem?_cons_succ, List.set_cons_zero, List.set_cons_succ, List.length_cons, List.length_nil, if_true, asgn, asgns, Nat.zero_add, Nat.reduceAdd, Nat.reduceLT, Nat.reduceLeDiff, reduceIte, reduceCtorEq, Bool.false_eq_true, Int.reduceNeg, sizeLine_val, and_self, true_and, and_true, b_m7, b_m86400, b_m1000000000, b_m60, b_m600, b_d7, b_d86400, b_d1000, b_p10_5, b_p10_9, b_p10_12, b_p10_15]
        obtain ⟨y, ey, hy⟩ := law_day_ok (P := P) (k := 39) (S := [.lst [.int j3]]) (n := z) T.p29 IsWeek_self hw.len
        refine OkR.of ey ?_
        simp only [okR_bind, okR_map, okR_some, evS, ee_var, ee_cst, ee_fnv, ee_bin, ee_neg, ee_cmp, ee_chain, ee_isN, ee_notN, ee_and, ee_or, ee_not, ee_ite, ee_call, ee_callv, ee_bi, ee_isi1, ee_isi2, ee_mt0, ee_mt1, ee_ix, ee_sl, ee_tup, ee_lst, evEs, evZ, evO, evI, evT, evTo, evX, rd_d, fz_d, b_add, b_sub, b_mul, b_div, b_mod, b_p18, b_p8, b_p7, b_p6, c_lt, c_le, c_gt, c_ge, c_eq, c_ne, c_eqs, c_nes, c_nes0, c_nes1, c_eqs0, c_eqs1, l_t, l_l, bi_i, bi_max, bi_min, bi_tl, bi_tt, ix_l, ix_t, m_nil, m_cons, at0, at1, at2, flatD, seqOf, isNonW, nx_nx, nx_rt, nx_bk, nx_ct, nx_xc, next_nx, next_ct, next_bk, next_rt, Option.bind_some, Option.map_some, List.getElem?_cons_zero, List.getElem?_cons_succ, List.set_cons_zero, List.set_cons_succ, List.length_cons, List.length_nil, if_true, asgn, asgns, Nat.zero_add, Nat.reduceAdd, Nat.reduceLT, Nat.reduceLeDiff, reduceIte, reduceCtorEq, Bool.false_eq_true, Int.reduceNeg, sizeLine_val, and_self, true_and, and_true, b_m7, b_m86400, b_m1000000000, b_m60, b_m600, b_d7, b_d86400, b_d1000, b_p10_5, b_p10_9, b_p10_12, b_p10_15]
        obtain ⟨rs, sq, al⟩ := hy
        have dk := hw.each _ (rowAt_mem (feasts := feasts) (n := z) hw.len)
        have hne : rs ≠ [] := by
          obtain ⟨w0, t0', e0⟩ := dk.head
          intro z'
          have := al.length
          rw [z', e0] at this
          simp at this
        refine T.lx.pick0 (k := 37) hr hj3 sq hne fun c j4 hc hj4 => ?_
        obtain ⟨p, hp, hst⟩ := al.mem hc
        have sk := dk.each p hp
        have ec : ixRun c (.int 0) = some (.int p.1) := ix_sq (j := 0) hst rfl
        simp only [okR_bind, okR_map, okR_some, evS, ee_var, ee_cst, ee_fnv, ee_bin, ee_neg, ee_cmp, ee_chain, ee_isN, ee_notN, ee_and, ee_or, ee_not, ee_ite, ee_call, ee_callv, ee_bi, ee_isi1, ee_isi2, ee_mt0, ee_mt1, ee_ix, ee_sl, ee_tup, ee_lst, evEs, evZ, evO, evI, evT, evTo, evX, rd_d, fz_d, b_add, b_sub, b_mul, b_div, b_mod, b_p18, b_p8, b_p7, b_p6, c_lt, c_le, c_gt, c_ge, c_eq, c_ne, c_eqs, c_nes, c_nes0, c_nes1, c_eqs0, c_eqs1, l_t, l_l, bi_i, bi_max, bi_min, bi_tl, bi_tt, ix_l, ix_t, m_nil, m_cons, at0, at1, at2, flatD, seqOf, isNonW, nx_nx, nx_rt, nx_bk, nx_ct, nx_xc, next_nx, next_ct, next_bk, next_rt, Option.bind_some, Option.map_some, List.getElem?_cons_zero, List.getElem?_cons_succ, List.set_cons_zero, List.set_cons_succ, List.length_cons, List.length_nil, if_true, asgn, asgns, Nat.zero_add, Nat.reduceAdd, Nat.reduceLT, Nat.reduceLeDiff, reduceIte, reduceCtorEq, Bool.false_eq_true, Int.reduceNeg, sizeLine_val, and_self, true_and, and_true, b_m7, b_m86400, b_m1000000000, b_m60, b_m600, b_d7, b_d86400, b_d1000, b_p10_5, b_p10_9, b_p10_12, b_p10_15, ec]
        refine ss_step ?_; simp only [okR_bind, okR_map, okR_some, evS, ee_var, ee_cst, ee_fnv, ee_bin, ee_neg, ee_cmp, ee_chain, ee_isN, ee_notN, ee_and, ee_or, ee_not, ee_ite, ee_call, ee_callv, ee_bi, ee_isi1, ee_isi2, ee_mt0, ee_mt1, ee_ix, ee_sl, ee_tup, ee_lst, evEs, evZ, evO, evI, evT, evTo, evX, rd_d, fz_d, b_add, b_sub, b_mul, b_div, b_mod, b_p18, b_p8, b_p7, b_p6, c_lt, c_le, c_gt, c_ge, c_eq, c_ne, c_eqs, c_nes, c_nes0, c_nes1, c_eqs0, c_eqs1, l_t, l_l, bi_i, bi_max, bi_min, bi_tl, bi_tt, ix_l, ix_t, m_nil, m_cons, at0, at1, at2, flatD, seqOf, isNonW, nx_nx, nx_rt, nx_bk, nx_ct, nx_xc, next_nx, next_ct, next_bk, next_rt, Option.bind_some, Option.map_some, List.getElem?_cons_zero, List.getElem?_cons_succ, List.set_cons_zero, List.set_cons_succ, List.length_cons, List.length_nil, if_true, asgn, asgns, Nat.zero_add, Nat.reduceAdd, Nat.reduceLT, Nat.reduceLeDiff, reduceIte, reduceCtorEq, Bool.false_eq_true, Int.reduceNeg, sizeLine_val, and_self, true_and, and_true, b_m7, b_m86400, b_m1000000000, b_m60, b_m600, b_d7, b_d86400, b_d1000, b_p10_5, b_p10_9, b_p10_12, b_p10_15]
        refine T.lx.take0 (k := 38) hr hj4 (by decide) fun t2 j5 u0 u1 hj5 => ?_
        simp only [okR_bind, okR_map, okR_some, evS, ee_var, ee_cst, ee_fnv, ee_bin, ee_neg, ee_cmp, ee_chain, ee_isN, ee_notN, ee_and, ee_or, ee_not, ee_ite, ee_call, ee_callv, ee_bi, ee_isi1, ee_isi2, ee_mt0, ee_mt1, ee_ix, ee_sl, ee_tup, ee_lst, evEs, evZ, evO, evI, evT, evTo, evX, rd_d, fz_d, b_add, b_sub, b_mul, b_div, b_mod, b_p18, b_p8, b_p7, b_p6, c_lt, c_le, c_gt, c_ge, c_eq, c_ne, c_eqs, c_nes, c_nes0, c_nes1, c_eqs0, c_eqs1, l_t, l_l, bi_i, bi_max, bi_min, bi_tl, bi_tt, ix_l, ix_t, m_nil, m_cons, at0, at1, at2, flatD, seqOf, isNonW, nx_nx, nx_rt, nx_bk, nx_ct, nx_xc, next_nx, next_ct, next_bk, next_rt, Option.bind_some, Option.map_some, List.getElem?_cons_zero, List.getElem?_cons_succ, List.set_cons_zero, List.set_cons_succ, List.length_cons, List.length_nil, if_true, asgn, asgns, Nat.zero_add, Nat.reduceAdd, Nat.reduceLT, Nat.reduceLeDiff, reduceIte, reduceCtorEq, Bool.false_eq_true, Int.reduceNeg, sizeLine_val, and_self, true_and, and_true, b_m7, b_m86400, b_m1000000000, b_m60, b_m600, b_d7, b_d86400, b_d1000, b_p10_5, b_p10_9, b_p10_12, b_p10_15, biRun]
        obtain ⟨s, hs⟩ : ∃ s : Int, (if z * 86400 + p.1 + t2 - 1 > 0 then z * 86400 + p.1 + t2 - 1 else 0) = s := ⟨_, rfl⟩
        have s0 : 0 ≤ s := by rw [← hs]; split <;> omega
        have s1 : s ≤ 100000000 := by have := sk.hi; have := sk.lo; rw [← hs]; split <;> omega
        rw [hs]
        refine ss_step (ifs_ok ?_)
        simp only [okR_bind, okR_map, okR_some, evS, ee_var, ee_cst, ee_fnv, ee_bin, ee_neg, ee_cmp, ee_chain, ee_isN, ee_notN, ee_and, ee_or, ee_not, ee_ite, ee_call, ee_callv, ee_bi, ee_isi1, ee_isi2, ee_mt0, ee_mt1, ee_ix, ee_sl, ee_tup, ee_lst, evEs, evZ, evO, evI, evT, evTo, evX, rd_d, fz_d, b_add, b_sub, b_mul, b_div, b_mod, b_p18, b_p8, b_p7, b_p6, c_lt, c_le, c_gt, c_ge, c_eq, c_ne, c_eqs, c_nes, c_nes0, c_nes1, c_eqs0, c_eqs1, l_t, l_l, bi_i, bi_max, bi_min, bi_tl, bi_tt, ix_l, ix_t, m_nil, m_cons, at0, at1, at2, flatD, seqOf, isNonW, nx_nx, nx_rt, nx_bk, nx_ct, nx_xc, next_nx, next_ct, next_bk, next_rt, Option.bind_some, Option.map_some, List.getElem?_cons_zero, List.getElem?_cons_succ, List.set_cons_zero, List.set_cons_succ, List.length_cons, List.length_nil, if_true, asgn, asgns, Nat.zero_add, Nat.reduceAdd, Nat.reduceLT, Nat.reduceLeDiff, reduceIte, reduceCtorEq, Bool.false_eq_true, Int.reduceNeg, sizeLine_val, and_self, true_and, and_true, b_m7, b_m86400, b_m1000000000, b_m60, b_m600, b_d7, b_d86400, b_d1000, b_p10_5, b_p10_9, b_p10_12, b_p10_15]
        refine T.lx.handed0 (k := 32) (m := 4) hr hj5 cw.1 fun x' j6 hx' hj6 => ?_
        simp only [okR_bind, okR_map, okR_some, evS, ee_var, ee_cst, ee_fnv, ee_bin, ee_neg, ee_cmp, ee_chain, ee_isN, ee_notN, ee_and, ee_or, ee_not, ee_ite, ee_call, ee_callv, ee_bi, ee_isi1, ee_isi2, ee_mt0, ee_mt1, ee_ix, ee_sl, ee_tup, ee_lst, evEs, evZ, evO, evI, evT, evTo, evX, rd_d, fz_d, b_add, b_sub, b_mul, b_div, b_mod, b_p18, b_p8, b_p7, b_p6, c_lt, c_le, c_gt, c_ge, c_eq, c_ne, c_eqs, c_nes, c_nes0, c_nes1, c_eqs0, c_eqs1, l_t, l_l, bi_i, bi_max, bi_min, bi_tl, bi_tt, ix_l, ix_t, m_nil, m_cons, at0, at1, at2, flatD, seqOf, isNonW, nx_nx, nx_rt, nx_bk, nx_ct, nx_xc, next_nx, next_ct, next_bk, next_rt, Option.bind_some, Option.map_some, List.getElem?_cons_zero, List.getElem?_cons_succ, List.set_cons_zero, List.set_cons_succ, List.length_cons, List.length_nil, if_true, asgn, asgns, Nat.zero_add, Nat.reduceAdd, Nat.reduceLT, Nat.reduceLeDiff, reduceIte, reduceCtorEq, Bool.false_eq_true, Int.reduceNeg, sizeLine_val, and_self, true_and, and_true, b_m7, b_m86400, b_m1000000000, b_m60, b_m600, b_d7, b_d86400, b_d1000, b_p10_5, b_p10_9, b_p10_12, b_p10_15]
        have eb := band_ok (P := P) (k := 31) (S := [.lst [.int j6]]) T.ix T.p14 (IsWeek_of (m := 0) hx') hw s0 s1
        refine told2 (k := 39) T.p34 (.rt eb) ⟨rfl, ?_⟩
        simp only [okR_bind, okR_map, okR_some, evS, ee_var, ee_cst, ee_fnv, ee_bin, ee_neg, ee_cmp, ee_chain, ee_isN, ee_notN, ee_and, ee_or, ee_not, ee_ite, ee_call, ee_callv, ee_bi, ee_isi1, ee_isi2, ee_mt0, ee_mt1, ee_ix, ee_sl, ee_tup, ee_lst, evEs, evZ, evO, evI, evT, evTo, evX, rd_d, fz_d, b_add, b_sub, b_mul, b_div, b_mod, b_p18, b_p8, b_p7, b_p6, c_lt, c_le, c_gt, c_ge, c_eq, c_ne, c_eqs, c_nes, c_nes0, c_nes1, c_eqs0, c_eqs1, l_t, l_l, bi_i, bi_max, bi_min, bi_tl, bi_tt, ix_l, ix_t, m_nil, m_cons, at0, at1, at2, flatD, seqOf, isNonW, nx_nx, nx_rt, nx_bk, nx_ct, nx_xc, next_nx, next_ct, next_bk, next_rt, Option.bind_some, Option.map_some, List.getElem?_cons_zero, List.getElem?_cons_succ, List.set_cons_zero, List.set_cons_succ, List.length_cons, List.length_nil, if_true, asgn, asgns, Nat.zero_add, Nat.reduceAdd, Nat.reduceLT, Nat.reduceLeDiff, reduceIte, reduceCtorEq, Bool.false_eq_true, Int.reduceNeg, sizeLine_val, and_self, true_and, and_true, b_m7, b_m86400, b_m1000000000, b_m60, b_m600, b_d7, b_d86400, b_d1000, b_p10_5, b_p10_9, b_p10_12, b_p10_15]
        refine OkR.of (law_band_ok (k := 38) T.p30 T.p29 IsWeek_self hw.len) ?_
        simp only [okR_bind, okR_map, okR_some, evS, ee_var, ee_cst, ee_fnv, ee_bin, ee_neg, ee_cmp, ee_chain, ee_isN, ee_notN, ee_and, ee_or, ee_not, ee_ite, ee_call, ee_callv, ee_bi, ee_isi1, ee_isi2, ee_mt0, ee_mt1, ee_ix, ee_sl, ee_tup, ee_lst, evEs, evZ, evO, evI, evT, evTo, evX, rd_d, fz_d, b_add, b_sub, b_mul, b_div, b_mod, b_p18, b_p8, b_p7, b_p6, c_lt, c_le, c_gt, c_ge, c_eq, c_ne, c_eqs, c_nes, c_nes0, c_nes1, c_eqs0, c_eqs1, l_t, l_l, bi_i, bi_max, bi_min, bi_tl, bi_tt, ix_l, ix_t, m_nil, m_cons, at0, at1, at2, flatD, seqOf, isNonW, nx_nx, nx_rt, nx_bk, nx_ct, nx_xc, next_nx, next_ct, next_bk, next_rt, Option.bind_some, Option.map_some, List.getElem?_cons_zero, List.getElem?_cons_succ, List.set_cons_zero, List.set_cons_succ, List.length_cons, List.length_nil, if_true, asgn, asgns, Nat.zero_add, Nat.reduceAdd, Nat.reduceLT, Nat.reduceLeDiff, reduceIte, reduceCtorEq, Bool.false_eq_true, Int.reduceNeg, sizeLine_val, and_self, true_and, and_true, b_m7, b_m86400, b_m1000000000, b_m60, b_m600, b_d7, b_d86400, b_d1000, b_p10_5, b_p10_9, b_p10_12, b_p10_15]
        refine T.so (bandOf_tv hw) ?_
        simp only [okR_bind, okR_map, okR_some, evS, ee_var, ee_cst, ee_fnv, ee_bin, ee_neg, ee_cmp, ee_chain, ee_isN, ee_notN, ee_and, ee_or, ee_not, ee_ite, ee_call, ee_callv, ee_bi, ee_isi1, ee_isi2, ee_mt0, ee_mt1, ee_ix, ee_sl, ee_tup, ee_lst, evEs, evZ, evO, evI, evT, evTo, evX, rd_d, fz_d, b_add, b_sub, b_mul, b_div, b_mod, b_p18, b_p8, b_p7, b_p6, c_lt, c_le, c_gt, c_ge, c_eq, c_ne, c_eqs, c_nes, c_nes0, c_nes1, c_eqs0, c_eqs1, l_t, l_l, bi_i, bi_max, bi_min, bi_tl, bi_tt, ix_l, ix_t, m_nil, m_cons, at0, at1, at2, flatD, seqOf, isNonW, nx_nx, nx_rt, nx_bk, nx_ct, nx_xc, next_nx, next_ct, next_bk, next_rt, Option.bind_some, Option.map_some, List.getElem?_cons_zero, List.getElem?_cons_succ, List.set_cons_zero, List.set_cons_succ, List.length_cons, List.length_nil, if_true, asgn, asgns, Nat.zero_add, Nat.reduceAdd, Nat.reduceLT, Nat.reduceLeDiff, reduceIte, reduceCtorEq, Bool.false_eq_true, Int.reduceNeg, sizeLine_val, and_self, true_and, and_true, b_m7, b_m86400, b_m1000000000, b_m60, b_m600, b_d7, b_d86400, b_d1000, b_p10_5, b_p10_9, b_p10_12, b_p10_15, Bool.not_true]
        exact ss_done (ss_done ⟨_, _, _, _, _, j6, rfl, rfl, hj6⟩)
      · rintro ρ S ⟨v4, v5, v6, v7, v8, j, rfl, rfl, hj⟩
        simp only [nx_nx]
        refine ss_step ?_; simp only [okR_bind, okR_map, okR_some, evS, ee_var, ee_cst, ee_fnv, ee_bin, ee_neg, ee_cmp, ee_chain, ee_isN, ee_notN, ee_and, ee_or, ee_not, ee_ite, ee_call, ee_callv, ee_bi, ee_isi1, ee_isi2, ee_mt0, ee_mt1, ee_ix, ee_sl, ee_tup, ee_lst, evEs, evZ, evO, evI, evT, evTo, evX, rd_d, fz_d, b_add, b_sub, b_mul, b_div, b_mod, b_p18, b_p8, b_p7, b_p6, c_lt, c_le, c_gt, c_ge, c_eq, c_ne, c_eqs, c_nes, c_nes0, c_nes1, c_eqs0, c_eqs1, l_t, l_l, bi_i, bi_max, bi_min, bi_tl, bi_tt, ix_l, ix_t, m_nil, m_cons, at0, at1, at2, flatD, seqOf, isNonW, nx_nx, nx_rt, nx_bk, nx_ct, nx_xc, next_nx, next_ct, next_bk, next_rt, Option.bind_some, Option.map_some, List.getElem?_cons_zero, List.getElem?_cons_succ, List.set_cons_zero, List.set_cons_succ, List.length_cons, List.length_nil, if_true, asgn, asgns, Nat.zero_add, Nat.reduceAdd, Nat.reduceLT, Nat.reduceLeDiff, reduceIte, reduceCtorEq, Bool.false_eq_true, Int.reduceNeg, sizeLine_val, and_self, true_and, and_true, b_m7, b_m86400, b_m1000000000, b_m60, b_m600, b_d7, b_d86400, b_d1000, b_p10_5, b_p10_9, b_p10_12, b_p10_15]
        refine T.lx.pickL (k := 37) hr hj ?_ fun b j3 hb hj3 => ?_
        · exact fun z => nomatch z
        have hoff : okV b = true ∧ isW 0 100000000 b = false := by
          simp only [List.mem_cons, List.not_mem_nil, or_false] at hb
          rcases hb with rfl | rfl | rfl | rfl | rfl <;> exact ⟨rfl, by decide⟩
        simp only [okR_bind, okR_map, okR_some, evS, ee_var, ee_cst, ee_fnv, ee_bin, ee_neg, ee_cmp, ee_chain, ee_isN, ee_notN, ee_and, ee_or, ee_not, ee_ite, ee_call, ee_callv, ee_bi, ee_isi1, ee_isi2, ee_mt0, ee_mt1, ee_ix, ee_sl, ee_tup, ee_lst, evEs, evZ, evO, evI, evT, evTo, evX, rd_d, fz_d, b_add, b_sub, b_mul, b_div, b_mod, b_p18, b_p8, b_p7, b_p6, c_lt, c_le, c_gt, c_ge, c_eq, c_ne, c_eqs, c_nes, c_nes0, c_nes1, c_eqs0, c_eqs1, l_t, l_l, bi_i, bi_max, bi_min, bi_tl, bi_tt, ix_l, ix_t, m_nil, m_cons, at0, at1, at2, flatD, seqOf, isNonW, nx_nx, nx_rt, nx_bk, nx_ct, nx_xc, next_nx, next_ct, next_bk, next_rt, Option.bind_some, Option.map_some, List.getElem?_cons_zero, List.getElem?_cons_succ, List.set_cons_zero, List.set_cons_succ, List.length_cons, List.length_nil, if_true, asgn, asgns, Nat.zero_add, Nat.reduceAdd, Nat.reduceLT, Nat.reduceLeDiff, reduceIte, reduceCtorEq, Bool.false_eq_true, Int.reduceNeg, sizeLine_val, and_self, true_and, and_true, b_m7, b_m86400, b_m1000000000, b_m60, b_m600, b_d7, b_d86400, b_d1000, b_p10_5, b_p10_9, b_p10_12, b_p10_15]
        refine ss_step ?_; simp only [okR_bind, okR_map, okR_some, evS, ee_var, ee_cst, ee_fnv, ee_bin, ee_neg, ee_cmp, ee_chain, ee_isN, ee_notN, ee_and, ee_or, ee_not, ee_ite, ee_call, ee_callv, ee_bi, ee_isi1, ee_isi2, ee_mt0, ee_mt1, ee_ix, ee_sl, ee_tup, ee_lst, evEs, evZ, evO, evI, evT, evTo, evX, rd_d, fz_d, b_add, b_sub, b_mul, b_div, b_mod, b_p18, b_p8, b_p7, b_p6, c_lt, c_le, c_gt, c_ge, c_eq, c_ne, c_eqs, c_nes, c_nes0, c_nes1, c_eqs0, c_eqs1, l_t, l_l, bi_i, bi_max, bi_min, bi_tl, bi_tt, ix_l, ix_t, m_nil, m_cons, at0, at1, at2, flatD, seqOf, isNonW, nx_nx, nx_rt, nx_bk, nx_ct, nx_xc, next_nx, next_ct, next_bk, next_rt, Option.bind_some, Option.map_some, List.getElem?_cons_zero, List.getElem?_cons_succ, List.set_cons_zero, List.set_cons_succ, List.length_cons, List.length_nil, if_true, asgn, asgns, Nat.zero_add, Nat.reduceAdd, Nat.reduceLT, Nat.reduceLeDiff, reduceIte, reduceCtorEq, Bool.false_eq_true, Int.reduceNeg, sizeLine_val, and_self, true_and, and_true, b_m7, b_m86400, b_m1000000000, b_m60, b_m600, b_d7, b_d86400, b_d1000, b_p10_5, b_p10_9, b_p10_12, b_p10_15]
        have vw := vt_of cw.1 cw.2
        have wb := weekB_of T.ix.toIxB vw IsWeek_self hw
        refine told2 (k := 39) T.p34 (T.ix.band1 (k := 31) T.p14 vw wb hoff.1 hoff.2) ⟨rfl, ?_⟩
        simp only [okR_bind, okR_map, okR_some, evS, ee_var, ee_cst, ee_fnv, ee_bin, ee_neg, ee_cmp, ee_chain, ee_isN, ee_notN, ee_and, ee_or, ee_not, ee_ite, ee_call, ee_callv, ee_bi, ee_isi1, ee_isi2, ee_mt0, ee_mt1, ee_ix, ee_sl, ee_tup, ee_lst, evEs, evZ, evO, evI, evT, evTo, evX, rd_d, fz_d, b_add, b_sub, b_mul, b_div, b_mod, b_p18, b_p8, b_p7, b_p6, c_lt, c_le, c_gt, c_ge, c_eq, c_ne, c_eqs, c_nes, c_nes0, c_nes1, c_eqs0, c_eqs1, l_t, l_l, bi_i, bi_max, bi_min, bi_tl, bi_tt, ix_l, ix_t, m_nil, m_cons, at0, at1, at2, flatD, seqOf, isNonW, nx_nx, nx_rt, nx_bk, nx_ct, nx_xc, next_nx, next_ct, next_bk, next_rt, Option.bind_some, Option.map_some, List.getElem?_cons_zero, List.getElem?_cons_succ, List.set_cons_zero, List.set_cons_succ, List.length_cons, List.length_nil, if_true, asgn, asgns, Nat.zero_add, Nat.reduceAdd, Nat.reduceLT, Nat.reduceLeDiff, reduceIte, reduceCtorEq, Bool.false_eq_true, Int.reduceNeg, sizeLine_val, and_self, true_and, and_true, b_m7, b_m86400, b_m1000000000, b_m60, b_m600, b_d7, b_d86400, b_d1000, b_p10_5, b_p10_9, b_p10_12, b_p10_15]
        refine T.so (T05.bad 1) ?_
        simp only [okR_bind, okR_map, okR_some, evS, ee_var, ee_cst, ee_fnv, ee_bin, ee_neg, ee_cmp, ee_chain, ee_isN, ee_notN, ee_and, ee_or, ee_not, ee_ite, ee_call, ee_callv, ee_bi, ee_isi1, ee_isi2, ee_mt0, ee_mt1, ee_ix, ee_sl, ee_tup, ee_lst, evEs, evZ, evO, evI, evT, evTo, evX, rd_d, fz_d, b_add, b_sub, b_mul, b_div, b_mod, b_p18, b_p8, b_p7, b_p6, c_lt, c_le, c_gt, c_ge, c_eq, c_ne, c_eqs, c_nes, c_nes0, c_nes1, c_eqs0, c_eqs1, l_t, l_l, bi_i, bi_max, bi_min, bi_tl, bi_tt, ix_l, ix_t, m_nil, m_cons, at0, at1, at2, flatD, seqOf, isNonW, nx_nx, nx_rt, nx_bk, nx_ct, nx_xc, next_nx, next_ct, next_bk, next_rt, Option.bind_some, Option.map_some, List.getElem?_cons_zero, List.getElem?_cons_succ, List.set_cons_zero, List.set_cons_succ, List.length_cons, List.length_nil, if_true, asgn, asgns, Nat.zero_add, Nat.reduceAdd, Nat.reduceLT, Nat.reduceLeDiff, reduceIte, reduceCtorEq, Bool.false_eq_true, Int.reduceNeg, sizeLine_val, and_self, true_and, and_true, b_m7, b_m86400, b_m1000000000, b_m60, b_m600, b_d7, b_d86400, b_d1000, b_p10_5, b_p10_9, b_p10_12, b_p10_15]
        have eb := band_ok (P := P) (k := 31) (S := [.lst [.int j3]]) (i := 100000000) T.ix T.p14 IsWeek_self hw (by decide) (by decide)
        refine told2 (k := 39) T.p34 (.rt eb) ⟨rfl, ?_⟩
        simp only [okR_bind, okR_map, okR_some, evS, ee_var, ee_cst, ee_fnv, ee_bin, ee_neg, ee_cmp, ee_chain, ee_isN, ee_notN, ee_and, ee_or, ee_not, ee_ite, ee_call, ee_callv, ee_bi, ee_isi1, ee_isi2, ee_mt0, ee_mt1, ee_ix, ee_sl, ee_tup, ee_lst, evEs, evZ, evO, evI, evT, evTo, evX, rd_d, fz_d, b_add, b_sub, b_mul, b_div, b_mod, b_p18, b_p8, b_p7, b_p6, c_lt, c_le, c_gt, c_ge, c_eq, c_ne, c_eqs, c_nes, c_nes0, c_nes1, c_eqs0, c_eqs1, l_t, l_l, bi_i, bi_max, bi_min, bi_tl, bi_tt, ix_l, ix_t, m_nil, m_cons, at0, at1, at2, flatD, seqOf, isNonW, nx_nx, nx_rt, nx_bk, nx_ct, nx_xc, next_nx, next_ct, next_bk, next_rt, Option.bind_some, Option.map_some, List.getElem?_cons_zero, List.getElem?_cons_succ, List.set_cons_zero, List.set_cons_succ, List.length_cons, List.length_nil, if_true, asgn, asgns, Nat.zero_add, Nat.reduceAdd, Nat.reduceLT, Nat.reduceLeDiff, reduceIte, reduceCtorEq, Bool.false_eq_true, Int.reduceNeg, sizeLine_val, and_self, true_and, and_true, b_m7, b_m86400, b_m1000000000, b_m60, b_m600, b_d7, b_d86400, b_d1000, b_p10_5, b_p10_9, b_p10_12, b_p10_15]
        refine OkR.of (law_band_ok (k := 38) T.p30 T.p29 IsWeek_self hw.len) ?_
        simp only [okR_bind, okR_map, okR_some, evS, ee_var, ee_cst, ee_fnv, ee_bin, ee_neg, ee_cmp, ee_chain, ee_isN, ee_notN, ee_and, ee_or, ee_not, ee_ite, ee_call, ee_callv, ee_bi, ee_isi1, ee_isi2, ee_mt0, ee_mt1, ee_ix, ee_sl, ee_tup, ee_lst, evEs, evZ, evO, evI, evT, evTo, evX, rd_d, fz_d, b_add, b_sub, b_mul, b_div, b_mod, b_p18, b_p8, b_p7, b_p6, c_lt, c_le, c_gt, c_ge, c_eq, c_ne, c_eqs, c_nes, c_nes0, c_nes1, c_eqs0, c_eqs1, l_t, l_l, bi_i, bi_max, bi_min, bi_tl, bi_tt, ix_l, ix_t, m_nil, m_cons, at0, at1, at2, flatD, seqOf, isNonW, nx_nx, nx_rt, nx_bk, nx_ct, nx_xc, next_nx, next_ct, next_bk, next_rt, Option.bind_some, Option.map_some, List.getElem?_cons_zero, List.getElem?_cons_succ, List.set_cons_zero, List.set_cons_succ, List.length_cons, List.length_nil, if_true, asgn, asgns, Nat.zero_add, Nat.reduceAdd, Nat.reduceLT, Nat.reduceLeDiff, reduceIte, reduceCtorEq, Bool.false_eq_true, Int.reduceNeg, sizeLine_val, and_self, true_and, and_true, b_m7, b_m86400, b_m1000000000, b_m60, b_m600, b_d7, b_d86400, b_d1000, b_p10_5, b_p10_9, b_p10_12, b_p10_15]
        refine T.so (bandOf_tv hw) ?_
        simp only [okR_bind, okR_map, okR_some, evS, ee_var, ee_cst, ee_fnv, ee_bin, ee_neg, ee_cmp, ee_chain, ee_isN, ee_notN, ee_and, ee_or, ee_not, ee_ite, ee_call, ee_callv, ee_bi, ee_isi1, ee_isi2, ee_mt0, ee_mt1, ee_ix, ee_sl, ee_tup, ee_lst, evEs, evZ, evO, evI, evT, evTo, evX, rd_d, fz_d, b_add, b_sub, b_mul, b_div, b_mod, b_p18, b_p8, b_p7, b_p6, c_lt, c_le, c_gt, c_ge, c_eq, c_ne, c_eqs, c_nes, c_nes0, c_nes1, c_eqs0, c_eqs1, l_t, l_l, bi_i, bi_max, bi_min, bi_tl, bi_tt, ix_l, ix_t, m_nil, m_cons, at0, at1, at2, flatD, seqOf, isNonW, nx_nx, nx_rt, nx_bk, nx_ct, nx_xc, next_nx, next_ct, next_bk, next_rt, Option.bind_some, Option.map_some, List.getElem?_cons_zero, List.getElem?_cons_succ, List.set_cons_zero, List.set_cons_succ, List.length_cons, List.length_nil, if_true, asgn, asgns, Nat.zero_add, Nat.reduceAdd, Nat.reduceLT, Nat.reduceLeDiff, reduceIte, reduceCtorEq, Bool.false_eq_true, Int.reduceNeg, sizeLine_val, and_self, true_and, and_true, b_m7, b_m86400, b_m1000000000, b_m60, b_m600, b_d7, b_d86400, b_d1000, b_p10_5, b_p10_9, b_p10_12, b_p10_15]
        refine OkR.of (T.ix.toIxB.weekE (k := 33) vw) ?_
        simp only [okR_bind, okR_map, okR_some, evS, ee_var, ee_cst, ee_fnv, ee_bin, ee_neg, ee_cmp, ee_chain, ee_isN, ee_notN, ee_and, ee_or, ee_not, ee_ite, ee_call, ee_callv, ee_bi, ee_isi1, ee_isi2, ee_mt0, ee_mt1, ee_ix, ee_sl, ee_tup, ee_lst, evEs, evZ, evO, evI, evT, evTo, evX, rd_d, fz_d, b_add, b_sub, b_mul, b_div, b_mod, b_p18, b_p8, b_p7, b_p6, c_lt, c_le, c_gt, c_ge, c_eq, c_ne, c_eqs, c_nes, c_nes0, c_nes1, c_eqs0, c_eqs1, l_t, l_l, bi_i, bi_max, bi_min, bi_tl, bi_tt, ix_l, ix_t, m_nil, m_cons, at0, at1, at2, flatD, seqOf, isNonW, nx_nx, nx_rt, nx_bk, nx_ct, nx_xc, next_nx, next_ct, next_bk, next_rt, Option.bind_some, Option.map_some, List.getElem?_cons_zero, List.getElem?_cons_succ, List.set_cons_zero, List.set_cons_succ, List.length_cons, List.length_nil, if_true, asgn, asgns, Nat.zero_add, Nat.reduceAdd, Nat.reduceLT, Nat.reduceLeDiff, reduceIte, reduceCtorEq, Bool.false_eq_true, Int.reduceNeg, sizeLine_val, and_self, true_and, and_true, b_m7, b_m86400, b_m1000000000, b_m60, b_m600, b_d7, b_d86400, b_d1000, b_p10_5, b_p10_9, b_p10_12, b_p10_15, wb]
        refine T.so rfl ?_
        simp only [okR_bind, okR_map, okR_some, evS, ee_var, ee_cst, ee_fnv, ee_bin, ee_neg, ee_cmp, ee_chain, ee_isN, ee_notN, ee_and, ee_or, ee_not, ee_ite, ee_call, ee_callv, ee_bi, ee_isi1, ee_isi2, ee_mt0, ee_mt1, ee_ix, ee_sl, ee_tup, ee_lst, evEs, evZ, evO, evI, evT, evTo, evX, rd_d, fz_d, b_add, b_sub, b_mul, b_div, b_mod, b_p18, b_p8, b_p7, b_p6, c_lt, c_le, c_gt, c_ge, c_eq, c_ne, c_eqs, c_nes, c_nes0, c_nes1, c_eqs0, c_eqs1, l_t, l_l, bi_i, bi_max, bi_min, bi_tl, bi_tt, ix_l, ix_t, m_nil, m_cons, at0, at1, at2, flatD, seqOf, isNonW, nx_nx, nx_rt, nx_bk, nx_ct, nx_xc, next_nx, next_ct, next_bk, next_rt, Option.bind_some, Option.map_some, List.getElem?_cons_zero, List.getElem?_cons_succ, List.set_cons_zero, List.set_cons_succ, List.length_cons, List.length_nil, if_true, asgn, asgns, Nat.zero_add, Nat.reduceAdd, Nat.reduceLT, Nat.reduceLeDiff, reduceIte, reduceCtorEq, Bool.false_eq_true, Int.reduceNeg, sizeLine_val, and_self, true_and, and_true, b_m7, b_m86400, b_m1000000000, b_m60, b_m600, b_d7, b_d86400, b_d1000, b_p10_5, b_p10_9, b_p10_12, b_p10_15]
        exact fin_rt rfl
  obtain ⟨⟨d, S⟩, e, h⟩ := key
  simp only at h
  subst h
  exact ⟨S, e⟩
end
end Pv

set_option Elab.async false
set_option linter.all false
set_option maxRecDepth 100000
set_option maxHeartbeats 4000000
namespace Pg
open PySem L2 Pv
def top (i : Nat) : Stmt := PySem.Challenge.pw_eachsecond_k05_weeks_and_bands.main.body.getD i (.Pass ⟨0, 0, 0, 0⟩)
abbrev stE : Stmt := inClass (top 2) 0
abbrev st0 : Stmt := top 5
/-- need -/
def b0 : Ss := .cons (.ifs (.not (.val (.var 0))) (.cons (.rais (.var 1)) (.nil)) (.nil)) (.nil)
abbrev N0 : List Str := ["good", "at"]
abbrev ps0 : List Str := ["good", "at"]
abbrev st1 : Stmt := top 6
/-- is_integer -/
def b1 : Ss := .cons (.ret (.and (.isi1 (.var 0) "int") (.not (.isi1 (.var 0) "bool")))) (.nil)
abbrev N1 : List Str := ["value"]
abbrev ps1 : List Str := ["value"]
abbrev st2 : Stmt := top 7
/-- is_within -/
def b2 : Ss := .cons (.ret (.and (.call 1 (.cons (.var 0) (.nil))) (.chain .le .le (.var 1) (.var 0) (.var 2)))) (.nil)
abbrev N2 : List Str := ["value", "low", "high"]
abbrev ps2 : List Str := ["value", "low", "high"]
abbrev st3 : Stmt := top 8
/-- is_word -/
def b3 : Ss := .cons (.ifs (.or (.not (.val (.isi1 (.var 0) "str"))) (.not (.val (.chain .le .le (.cst (.int 1)) (.bi .len (.cons (.var 0) (.nil))) (.cst (.int 8)))))) (.cons (.ret (.cst (.bl false))) (.nil)) (.nil)) (.cons (.ret (.and (.mt0 .isascii (.var 0)) (.and (.mt0 .isalpha (.var 0)) (.mt0 .islower (.var 0))))) (.nil))
abbrev N3 : List Str := ["value"]
abbrev ps3 : List Str := ["value"]
abbrev st4 : Stmt := top 9
/-- is_second -/
def b4 : Ss := .cons (.ret (.call 2 (.cons (.var 0) (.cons (.cst (.int 0)) (.cons (.cst (.int 100000000)) (.nil)))))) (.nil)
abbrev N4 : List Str := ["value"]
abbrev ps4 : List Str := ["value"]
abbrev st5 : Stmt := top 10
/-- is_rows -/
def b5 : Ss := .cons (.ret (.and (.isi2 (.var 0) "list" "tuple") (.chain .le .le (.var 1) (.bi .len (.cons (.var 0) (.nil))) (.var 2)))) (.nil)
abbrev N5 : List Str := ["value", "low", "high"]
abbrev ps5 : List Str := ["value", "low", "high"]
abbrev st6 : Stmt := top 11
/-- is_rows_of -/
def b6 : Ss := .cons (.ret (.and (.call 5 (.cons (.var 0) (.cons (.var 1) (.cons (.var 2) (.nil))))) (.bi .all (.cons (.comp [4] (.name 4) (.seq (.var 0)) (.none) (.callv 3 (.cons (.var 4) (.nil)))) (.nil))))) (.nil)
abbrev N6 : List Str := ["value", "low", "high", "is_member", "member"]
abbrev ps6 : List Str := ["value", "low", "high", "is_member"]
abbrev st7 : Stmt := top 12
/-- is_ascending -/
def b7 : Ss := .cons (.ret (.bi .all (.cons (.comp [1] (.name 1) (.r1 (.bin .sub (.bi .len (.cons (.var 0) (.nil))) (.cst (.int 1)))) (.none) (.cmp .lt (.ix (.var 0) (.var 1)) (.ix (.var 0) (.bin .add (.var 1) (.cst (.int 1)))))) (.nil)))) (.nil)
abbrev N7 : List Str := ["keys", "at"]
abbrev ps7 : List Str := ["keys"]
abbrev st8 : Stmt := top 16
/-- is_start -/
def b8 : Ss := .cons (.ret (.and (.call 5 (.cons (.var 0) (.cons (.cst (.int 2)) (.cons (.cst (.int 2)) (.nil))))) (.and (.call 2 (.cons (.ix (.var 0) (.cst (.int 0))) (.cons (.cst (.int 0)) (.cons (.bin .sub (.cst (.int 86400)) (.cst (.int 1))) (.nil))))) (.call 3 (.cons (.ix (.var 0) (.cst (.int 1))) (.nil)))))) (.nil)
abbrev N8 : List Str := ["value"]
abbrev ps8 : List Str := ["value"]
abbrev st9 : Stmt := top 17
/-- is_day -/
def b9 : Ss := .cons (.ifs (.not (.val (.call 6 (.cons (.var 0) (.cons (.cst (.int 1)) (.cons (.cst (.int 8)) (.cons (.fnv 8) (.nil)))))))) (.cons (.ret (.cst (.bl false))) (.nil)) (.nil)) (.cons (.asg (.name 1) (.comp [2] (.name 2) (.seq (.var 0)) (.none) (.ix (.var 2) (.cst (.int 0))))) (.cons (.ret (.and (.cmp .eq (.ix (.var 1) (.cst (.int 0))) (.cst (.int 0))) (.call 7 (.cons (.var 1) (.nil))))) (.nil)))
abbrev N9 : List Str := ["value", "starts", "pair"]
abbrev ps9 : List Str := ["value"]
abbrev st10 : Stmt := top 18
/-- is_feast -/
def b10 : Ss := .cons (.ret (.call 2 (.cons (.var 0) (.cons (.cst (.int 0)) (.cons (.cst (.int 1000)) (.nil)))))) (.nil)
abbrev N10 : List Str := ["value"]
abbrev ps10 : List Str := ["value"]
abbrev st11 : Stmt := top 19
/-- is_week -/
def b11 : Ss := .cons (.ifs (.not (.val (.call 5 (.cons (.var 0) (.cons (.cst (.int 2)) (.cons (.cst (.int 2)) (.nil))))))) (.cons (.ret (.cst (.bl false))) (.nil)) (.nil)) (.cons (.asg (.tup (.tcons (.name 1) (.tcons (.name 2) (.tnil)))) (.var 0)) (.cons (.ifs (.not (.val (.call 6 (.cons (.var 1) (.cons (.cst (.int 8)) (.cons (.cst (.int 8)) (.cons (.fnv 9) (.nil)))))))) (.cons (.ret (.cst (.bl false))) (.nil)) (.nil)) (.cons (.ret (.and (.call 6 (.cons (.var 2) (.cons (.cst (.int 0)) (.cons (.cst (.int 20)) (.cons (.fnv 10) (.nil)))))) (.call 7 (.cons (.var 2) (.nil))))) (.nil))))
abbrev N11 : List Str := ["value", "days", "feasts"]
abbrev ps11 : List Str := ["value"]
abbrev st12 : Stmt := top 20
/-- day_of -/
def b12 : Ss := .cons (.asg (.tup (.tcons (.name 2) (.tcons (.name 3) (.tnil)))) (.var 0)) (.cons (.ret (.ite (.val (.cmp .inn (.var 1) (.var 3))) (.ix (.var 2) (.cst (.int 7))) (.ix (.var 2) (.bin .mod (.var 1) (.cst (.int 7)))))) (.nil))
abbrev N12 : List Str := ["week", "number", "days", "feasts"]
abbrev ps12 : List Str := ["week", "number"]
abbrev st13 : Stmt := top 21
/-- band_at -/
def b13 : Ss := .cons (.asg (.name 2) (.cst .non)) (.cons (.forS (.tup (.tcons (.name 3) (.tcons (.name 4) (.tnil)))) (.seq (.call 12 (.cons (.var 0) (.cons (.bin .div (.var 1) (.cst (.int 86400))) (.nil))))) (.cons (.ifs (.val (.cmp .le (.var 3) (.bin .mod (.var 1) (.cst (.int 86400))))) (.cons (.asg (.name 2) (.var 4)) (.nil)) (.nil)) (.nil))) (.cons (.ret (.var 2)) (.nil)))
abbrev N13 : List Str := ["week", "second", "found", "start", "name"]
abbrev ps13 : List Str := ["week", "second"]
abbrev st14 : Stmt := top 22
/-- band -/
def b14 : Ss := .cons (.dropX (.call 0 (.cons (.call 11 (.cons (.var 0) (.nil))) (.cons (.cst (.int 0)) (.nil))))) (.cons (.dropX (.call 0 (.cons (.call 4 (.cons (.var 1) (.nil))) (.cons (.cst (.int 1)) (.nil))))) (.cons (.ret (.call 13 (.cons (.var 0) (.cons (.var 1) (.nil))))) (.nil)))
abbrev N14 : List Str := ["week", "second"]
abbrev ps14 : List Str := ["week", "second"]
abbrev st15 : Stmt := top 24
/-- _law_so -/
def b15 : Ss := .cons (.ifs (.val (.isN (.var 1))) (.cons (.ret (.isN (.var 0))) (.nil)) (.nil)) (.cons (.ifs (.val (.isi1 (.var 1) "tuple")) (.cons (.ifs (.or (.not (.val (.isi1 (.var 0) "tuple"))) (.val (.cmp .ne (.bi .len (.cons (.var 0) (.nil))) (.bi .len (.cons (.var 1) (.nil)))))) (.cons (.ret (.cst (.bl false))) (.nil)) (.nil)) (.cons (.forS (.name 2) (.r1 (.bi .len (.cons (.var 1) (.nil)))) (.cons (.ifs (.not (.val (.call 15 (.cons (.ix (.var 0) (.var 2)) (.cons (.ix (.var 1) (.var 2)) (.nil)))))) (.cons (.ret (.cst (.bl false))) (.nil)) (.nil)) (.nil))) (.cons (.ret (.cst (.bl true))) (.nil)))) (.nil)) (.cons (.ifs (.or (.val (.isi1 (.var 1) "bool")) (.val (.isi1 (.var 0) "bool"))) (.cons (.ret (.and (.isi1 (.var 1) "bool") (.and (.isi1 (.var 0) "bool") (.cmp .eq (.var 0) (.var 1))))) (.nil)) (.nil)) (.cons (.ifs (.val (.isi1 (.var 1) "int")) (.cons (.ret (.and (.isi1 (.var 0) "int") (.cmp .eq (.var 0) (.var 1)))) (.nil)) (.nil)) (.cons (.ret (.and (.isi1 (.var 1) "str") (.and (.isi1 (.var 0) "str") (.cmp .eq (.var 0) (.var 1))))) (.nil)))))
abbrev N15 : List Str := ["found", "meant", "k"]
abbrev ps15 : List Str := ["found", "meant"]
abbrev st16 : Stmt := top 25
/-- _law_numbers -/
def b16 : Ss := .cons (.newL 1 (.nil)) (.cons (.forS (.name 2) (.seq (.sl (.var 0) (.none) (.some (.cst (.int 63))))) (.cons (.ifs (.val (.cmp .ge (.var 2) (.bin .pow (.cst (.int 10)) (.cst (.int 18))))) (.cons (.asg (.name 3) (.var 2)) (.cons (.forS (.name 4) (.r1 (.cst (.int 60))) (.cons (.ifs (.val (.cmp .eq (.var 3) (.cst (.int 0)))) (.cons (.brk) (.nil)) (.nil)) (.cons (.app 1 (.bin .mod (.bi .int (.cons (.var 3) (.nil))) (.cst (.int 997)))) (.cons (.asg (.name 3) (.bin .div (.var 3) (.cst (.int 997)))) (.nil))))) (.nil))) (.cons (.forS (.name 4) (.r1 (.cst (.int 4))) (.cons (.asg (.name 5) (.bin .mod (.bi .int (.cons (.bin .add (.bin .add (.bin .mul (.var 2) (.cst (.int 48271))) (.bin .mul (.var 4) (.cst (.int 69621)))) (.cst (.int 11))) (.nil))) (.cst (.int 2147483647)))) (.cons (.app 1 (.bin .mod (.bi .int (.cons (.bin .add (.bin .mul (.var 5) (.cst (.int 16807))) (.var 4)) (.nil))) (.cst (.int 2147483629)))) (.nil)))) (.nil))) (.nil))) (.cons (.ifs (.val (.cmp .eq (.bi .len (.cons (.var 1) (.nil))) (.cst (.int 0)))) (.cons (.app 1 (.cst (.int 0))) (.nil)) (.nil)) (.cons (.ret (.var 1)) (.nil))))
abbrev N16 : List Str := ["script", "row", "cell", "left", "k", "mixed"]
abbrev ps16 : List Str := ["script"]
abbrev st17 : Stmt := top 26
/-- _law_draw -/
def b17 : Ss := .cons (.ifs (.val (.cmp .lt (.var 1) (.bi .len (.cons (.var 0) (.nil))))) (.cons (.ret (.bin .mod (.bi .int (.cons (.ix (.var 0) (.var 1)) (.nil))) (.var 2))) (.nil)) (.nil)) (.cons (.asg (.name 3) (.bin .mod (.bi .int (.cons (.bin .add (.bin .add (.bin .mul (.ix (.var 0) (.bin .mod (.bi .int (.cons (.var 1) (.nil))) (.bi .len (.cons (.var 0) (.nil))))) (.cst (.int 40692))) (.bin .mul (.var 1) (.cst (.int 7919)))) (.cst (.int 3))) (.nil))) (.cst (.int 2147483399)))) (.cons (.ret (.bin .mod (.bi .int (.cons (.bin .mod (.bi .int (.cons (.bin .add (.bin .mul (.var 3) (.cst (.int 48271))) (.var 1)) (.nil))) (.cst (.int 2147483647))) (.nil))) (.var 2))) (.nil)))
abbrev N17 : List Str := ["row", "at", "limit", "mixed"]
abbrev ps17 : List Str := ["row", "at", "limit"]
abbrev st18 : Stmt := top 27
/-- _law_take -/
def b18 : Ss := .cons (.setL 1 (.cst (.int 0)) (.bin .add (.ix (.var 1) (.cst (.int 0))) (.cst (.int 1)))) (.cons (.ret (.call 17 (.cons (.var 0) (.cons (.bin .sub (.ix (.var 1) (.cst (.int 0))) (.cst (.int 1))) (.cons (.var 2) (.nil)))))) (.nil))
abbrev N18 : List Str := ["row", "spot", "limit"]
abbrev ps18 : List Str := ["row", "spot", "limit"]
abbrev st19 : Stmt := top 28
/-- _law_wide -/
def b19 : Ss := .cons (.asg (.name 3) (.call 18 (.cons (.var 0) (.cons (.var 1) (.cons (.cst (.int 997)) (.nil)))))) (.cons (.asg (.name 4) (.call 18 (.cons (.var 0) (.cons (.var 1) (.cons (.cst (.int 997)) (.nil)))))) (.cons (.asg (.name 5) (.call 18 (.cons (.var 0) (.cons (.var 1) (.cons (.cst (.int 997)) (.nil)))))) (.cons (.ret (.bin .mod (.bi .int (.cons (.bin .add (.bin .add (.bin .mul (.var 3) (.cst (.int 994009))) (.bin .mul (.var 4) (.cst (.int 997)))) (.var 5)) (.nil))) (.var 2))) (.nil))))
abbrev N19 : List Str := ["row", "spot", "limit", "first", "second", "third"]
abbrev ps19 : List Str := ["row", "spot", "limit"]
abbrev st20 : Stmt := top 29
/-- _law_whole -/
def b20 : Ss := .cons (.ret (.and (.isi1 (.var 0) "int") (.not (.isi1 (.var 0) "bool")))) (.nil)
abbrev N20 : List Str := ["value"]
abbrev ps20 : List Str := ["value"]
abbrev st21 : Stmt := top 30
/-- _law_listed -/
def b21 : Ss := .cons (.ifs (.val (.isi1 (.var 0) "tuple")) (.cons (.ret (.comp [1] (.name 1) (.seq (.var 0)) (.none) (.call 21 (.cons (.var 1) (.nil))))) (.nil)) (.nil)) (.cons (.ret (.var 0)) (.nil))
abbrev N21 : List Str := ["value", "one"]
abbrev ps21 : List Str := ["value"]
abbrev st22 : Stmt := top 31
/-- _law_either -/
def b22 : Ss := .cons (.ifs (.val (.isi1 (.var 2) "tuple")) (.cons (.asg (.name 3) (.comp [4] (.name 4) (.seq (.var 2)) (.none) (.call 22 (.cons (.var 0) (.cons (.var 1) (.cons (.var 4) (.nil))))))) (.cons (.ret (.ite (.val (.cmp .eq (.call 18 (.cons (.var 0) (.cons (.var 1) (.cons (.cst (.int 2)) (.nil))))) (.cst (.int 0)))) (.var 3) (.bi .tuple (.cons (.var 3) (.nil))))) (.nil))) (.nil)) (.cons (.ret (.var 2)) (.nil))
abbrev N22 : List Str := ["row", "spot", "value", "parts", "one"]
abbrev ps22 : List Str := ["row", "spot", "value"]
abbrev st23 : Stmt := top 32
/-- _law_handed -/
def b23 : Ss := .cons (.asg (.name 3) (.call 18 (.cons (.var 0) (.cons (.var 1) (.cons (.cst (.int 3)) (.nil)))))) (.cons (.ifs (.val (.cmp .eq (.var 3) (.cst (.int 2)))) (.cons (.ret (.call 22 (.cons (.var 0) (.cons (.var 1) (.cons (.var 2) (.nil)))))) (.nil)) (.nil)) (.cons (.ret (.ite (.val (.cmp .eq (.var 3) (.cst (.int 0)))) (.call 21 (.cons (.var 2) (.nil))) (.var 2))) (.nil)))
abbrev N23 : List Str := ["row", "spot", "value", "kind"]
abbrev ps23 : List Str := ["row", "spot", "value"]
abbrev st24 : Stmt := top 33
/-- _law_pick -/
def b24 : Ss := .cons (.ret (.ix (.var 2) (.call 18 (.cons (.var 0) (.cons (.var 1) (.cons (.bi .len (.cons (.var 2) (.nil))) (.nil))))))) (.nil)
abbrev N24 : List Str := ["row", "spot", "things"]
abbrev ps24 : List Str := ["row", "spot", "things"]
abbrev st25 : Stmt := top 34
/-- _law_between -/
def b25 : Ss := .cons (.ret (.and (.call 20 (.cons (.var 0) (.nil))) (.chain .le .le (.var 1) (.var 0) (.var 2)))) (.nil)
abbrev N25 : List Str := ["value", "low", "high"]
abbrev ps25 : List Str := ["value", "low", "high"]
abbrev st26 : Stmt := top 35
/-- _law_is_word -/
def b26 : Ss := .cons (.ifs (.or (.not (.val (.isi1 (.var 0) "str"))) (.not (.val (.chain .le .le (.cst (.int 1)) (.bi .len (.cons (.var 0) (.nil))) (.cst (.int 8)))))) (.cons (.ret (.cst (.bl false))) (.nil)) (.nil)) (.cons (.ret (.cmp .eq (.bi .len (.cons (.comp [1] (.name 1) (.seq (.var 0)) (.some (.val (.cmp .nin (.var 1) (.cst (.str "abcdefghijklmnopqrstuvwxyz"))))) (.var 1)) (.nil))) (.cst (.int 0)))) (.nil))
abbrev N26 : List Str := ["value", "one"]
abbrev ps26 : List Str := ["value"]
abbrev st27 : Stmt := top 36
/-- _law_is_day -/
def b27 : Ss := .cons (.ifs (.or (.not (.val (.isi1 (.var 0) "tuple"))) (.not (.val (.chain .le .le (.cst (.int 1)) (.bi .len (.cons (.var 0) (.nil))) (.cst (.int 8)))))) (.cons (.ret (.cst (.bl false))) (.nil)) (.nil)) (.cons (.forS (.name 1) (.r1 (.bi .len (.cons (.var 0) (.nil)))) (.cons (.asg (.name 2) (.ix (.var 0) (.var 1))) (.cons (.ifs (.or (.not (.val (.isi1 (.var 2) "tuple"))) (.or (.val (.cmp .ne (.bi .len (.cons (.var 2) (.nil))) (.cst (.int 2)))) (.or (.not (.val (.call 25 (.cons (.ix (.var 2) (.cst (.int 0))) (.cons (.cst (.int 0)) (.cons (.cst (.int 86399)) (.nil))))))) (.not (.val (.call 26 (.cons (.ix (.var 2) (.cst (.int 1))) (.nil)))))))) (.cons (.ret (.cst (.bl false))) (.nil)) (.nil)) (.cons (.ifs (.or (.and (.val (.cmp .eq (.var 1) (.cst (.int 0)))) (.val (.cmp .ne (.ix (.var 2) (.cst (.int 0))) (.cst (.int 0))))) (.and (.val (.cmp .gt (.var 1) (.cst (.int 0)))) (.val (.cmp .ge (.ix (.ix (.var 0) (.bin .sub (.var 1) (.cst (.int 1)))) (.cst (.int 0))) (.ix (.var 2) (.cst (.int 0))))))) (.cons (.ret (.cst (.bl false))) (.nil)) (.nil)) (.nil))))) (.cons (.ret (.cst (.bl true))) (.nil)))
abbrev N27 : List Str := ["value", "k", "one"]
abbrev ps27 : List Str := ["value"]
abbrev st28 : Stmt := top 37
/-- _law_is_week -/
def b28 : Ss := .cons (.ifs (.or (.not (.val (.isi1 (.var 0) "tuple"))) (.or (.val (.cmp .ne (.bi .len (.cons (.var 0) (.nil))) (.cst (.int 2)))) (.or (.not (.val (.isi1 (.ix (.var 0) (.cst (.int 0))) "tuple"))) (.val (.cmp .ne (.bi .len (.cons (.ix (.var 0) (.cst (.int 0))) (.nil))) (.cst (.int 8))))))) (.cons (.ret (.cst (.bl false))) (.nil)) (.nil)) (.cons (.ifs (.or (.val (.cmp .gt (.bi .len (.cons (.comp [2] (.name 2) (.seq (.ix (.var 0) (.cst (.int 0)))) (.some (.not (.val (.call 27 (.cons (.var 2) (.nil)))))) (.var 2)) (.nil))) (.cst (.int 0)))) (.or (.not (.val (.isi1 (.ix (.var 0) (.cst (.int 1))) "tuple"))) (.val (.cmp .gt (.bi .len (.cons (.ix (.var 0) (.cst (.int 1))) (.nil))) (.cst (.int 20)))))) (.cons (.ret (.cst (.bl false))) (.nil)) (.nil)) (.cons (.forS (.name 1) (.r1 (.bi .len (.cons (.ix (.var 0) (.cst (.int 1))) (.nil)))) (.cons (.ifs (.or (.not (.val (.call 25 (.cons (.ix (.ix (.var 0) (.cst (.int 1))) (.var 1)) (.cons (.cst (.int 0)) (.cons (.cst (.int 1000)) (.nil))))))) (.and (.val (.cmp .gt (.var 1) (.cst (.int 0)))) (.val (.cmp .ge (.ix (.ix (.var 0) (.cst (.int 1))) (.bin .sub (.var 1) (.cst (.int 1)))) (.ix (.ix (.var 0) (.cst (.int 1))) (.var 1)))))) (.cons (.ret (.cst (.bl false))) (.nil)) (.nil)) (.nil))) (.cons (.ret (.cst (.bl true))) (.nil))))
abbrev N28 : List Str := ["value", "k", "day"]
abbrev ps28 : List Str := ["value"]
abbrev st29 : Stmt := top 38
/-- _law_day_row -/
def b29 : Ss := .cons (.ret (.ix (.ix (.var 0) (.cst (.int 0))) (.ite (.val (.cmp .inn (.var 1) (.ix (.var 0) (.cst (.int 1))))) (.cst (.int 7)) (.bin .sub (.var 1) (.bin .mul (.bin .div (.var 1) (.cst (.int 7))) (.cst (.int 7))))))) (.nil)
abbrev N29 : List Str := ["week", "day"]
abbrev ps29 : List Str := ["week", "day"]
abbrev st30 : Stmt := top 39
/-- _law_band -/
def b30 : Ss := .cons (.asg (.name 2) (.cst .non)) (.cons (.forS (.tup (.tcons (.name 3) (.tcons (.name 4) (.tnil)))) (.seq (.call 29 (.cons (.var 0) (.cons (.bin .div (.var 1) (.cst (.int 86400))) (.nil))))) (.cons (.ifs (.val (.cmp .le (.var 3) (.bin .sub (.var 1) (.bin .mul (.bin .div (.var 1) (.cst (.int 86400))) (.cst (.int 86400)))))) (.cons (.asg (.name 2) (.var 4)) (.nil)) (.nil)) (.nil))) (.cons (.ret (.var 2)) (.nil)))
abbrev N30 : List Str := ["week", "second", "made", "start", "word"]
abbrev ps30 : List Str := ["week", "second"]
abbrev st31 : Stmt := top 40
/-- _law_day -/
def b31 : Ss := .cons (.newDK 2 (.cons (.cst (.int 0)) (.cons (.cst (.bl true)) (.nil)))) (.cons (.forS (.name 3) (.r1 (.call 18 (.cons (.var 0) (.cons (.var 1) (.cons (.cst (.int 4)) (.nil)))))) (.cons (.setD 2 (.call 24 (.cons (.var 0) (.cons (.var 1) (.cons (.lst (.cons (.cst (.int 1)) (.cons (.cst (.int 100)) (.cons (.cst (.int 28800)) (.cons (.cst (.int 64800)) (.cons (.cst (.int 86399)) (.cons (.call 19 (.cons (.var 0) (.cons (.var 1) (.cons (.cst (.int 86400)) (.nil))))) (.nil)))))))) (.nil))))) (.cst (.bl true))) (.nil))) (.cons (.ret (.bi .tuple (.cons (.comp [4] (.name 4) (.seq (.bi .sorted (.cons (.var 2) (.nil)))) (.none) (.tup (.cons (.var 4) (.cons (.call 24 (.cons (.var 0) (.cons (.var 1) (.cons (.lst (.cons (.cst (.str "low")) (.cons (.cst (.str "high")) (.cons (.cst (.str "mid")) (.nil))))) (.nil))))) (.nil))))) (.nil)))) (.nil)))
abbrev N31 : List Str := ["row", "spot", "starts", "k", "start"]
abbrev ps31 : List Str := ["row", "spot"]
abbrev st32 : Stmt := top 41
/-- _law_week -/
def b32 : Ss := .cons (.asg (.name 2) (.call 31 (.cons (.var 0) (.cons (.var 1) (.nil))))) (.cons (.asg (.name 3) (.comp [5] (.name 5) (.r1 (.cst (.int 8))) (.none) (.ite (.val (.cmp .eq (.call 18 (.cons (.var 0) (.cons (.var 1) (.cons (.cst (.int 2)) (.nil))))) (.cst (.int 0)))) (.var 2) (.call 31 (.cons (.var 0) (.cons (.var 1) (.nil))))))) (.cons (.newD 4) (.cons (.forS (.name 5) (.r1 (.call 18 (.cons (.var 0) (.cons (.var 1) (.cons (.cst (.int 4)) (.nil)))))) (.cons (.setD 4 (.call 24 (.cons (.var 0) (.cons (.var 1) (.cons (.lst (.cons (.cst (.int 0)) (.cons (.cst (.int 1)) (.cons (.cst (.int 2)) (.cons (.cst (.int 6)) (.cons (.cst (.int 7)) (.cons (.cst (.int 1000)) (.cons (.call 18 (.cons (.var 0) (.cons (.var 1) (.cons (.cst (.int 997)) (.nil))))) (.nil))))))))) (.nil))))) (.cst (.bl true))) (.nil))) (.cons (.ret (.tup (.cons (.bi .tuple (.cons (.var 3) (.nil))) (.cons (.bi .tuple (.cons (.bi .sorted (.cons (.var 4) (.nil))) (.nil))) (.nil))))) (.nil)))))
abbrev N32 : List Str := ["row", "spot", "day", "days", "feasts", "k"]
abbrev ps32 : List Str := ["row", "spot"]
abbrev st33 : Stmt := top 42
/-- _law_part_changed -/
def b33 : Ss := .cons (.ifs (.and (.val (.isi1 (.var 2) "tuple")) (.and (.val (.cmp .gt (.bi .len (.cons (.var 2) (.nil))) (.cst (.int 0)))) (.val (.cmp .gt (.call 18 (.cons (.var 0) (.cons (.var 1) (.cons (.cst (.int 6)) (.nil))))) (.cst (.int 0)))))) (.cons (.asg (.name 3) (.call 18 (.cons (.var 0) (.cons (.var 1) (.cons (.bi .len (.cons (.var 2) (.nil))) (.nil)))))) (.cons (.ret (.bin .add (.bin .add (.sl (.var 2) (.none) (.some (.var 3))) (.tup (.cons (.call 33 (.cons (.var 0) (.cons (.var 1) (.cons (.ix (.var 2) (.var 3)) (.nil))))) (.nil)))) (.sl (.var 2) (.some (.bin .add (.var 3) (.cst (.int 1)))) (.none)))) (.nil))) (.nil)) (.cons (.asg (.name 4) (.call 18 (.cons (.var 0) (.cons (.var 1) (.cons (.cst (.int 6)) (.nil)))))) (.cons (.ifs (.and (.val (.isi1 (.var 2) "tuple")) (.and (.val (.cmp .eq (.var 4) (.cst (.int 0)))) (.val (.cmp .gt (.bi .len (.cons (.var 2) (.nil))) (.cst (.int 0)))))) (.cons (.ret (.bin .add (.var 2) (.sl (.var 2) (.none) (.some (.cst (.int 1)))))) (.nil)) (.nil)) (.cons (.ifs (.and (.val (.isi1 (.var 2) "tuple")) (.and (.val (.cmp .eq (.var 4) (.cst (.int 1)))) (.val (.cmp .gt (.bi .len (.cons (.var 2) (.nil))) (.cst (.int 0)))))) (.cons (.ret (.sl (.var 2) (.some (.cst (.int 1))) (.none))) (.nil)) (.nil)) (.cons (.ifs (.and (.val (.isi1 (.var 2) "tuple")) (.and (.val (.cmp .eq (.var 4) (.cst (.int 3)))) (.val (.cmp .gt (.bi .len (.cons (.var 2) (.nil))) (.cst (.int 0)))))) (.cons (.asg (.name 3) (.call 18 (.cons (.var 0) (.cons (.var 1) (.cons (.bi .len (.cons (.var 2) (.nil))) (.nil)))))) (.cons (.asg (.name 5) (.ix (.var 2) (.var 3))) (.cons (.ifs (.and (.val (.isi1 (.var 5) "tuple")) (.and (.val (.cmp .gt (.bi .len (.cons (.var 5) (.nil))) (.cst (.int 1)))) (.val (.isi1 (.ix (.var 5) (.bin .sub (.bi .len (.cons (.var 5) (.nil))) (.cst (.int 1)))) "int")))) (.cons (.ret (.bin .add (.bin .add (.sl (.var 2) (.none) (.some (.bin .add (.var 3) (.cst (.int 1))))) (.tup (.cons (.bin .add (.sl (.var 5) (.none) (.some (.bin .sub (.bi .len (.cons (.var 5) (.nil))) (.cst (.int 1))))) (.tup (.cons (.bin .add (.ix (.var 5) (.bin .sub (.bi .len (.cons (.var 5) (.nil))) (.cst (.int 1)))) (.cst (.int 1))) (.nil)))) (.nil)))) (.sl (.var 2) (.some (.bin .add (.var 3) (.cst (.int 1)))) (.none)))) (.nil)) (.nil)) (.nil)))) (.nil)) (.cons (.ifs (.and (.val (.isi1 (.var 2) "tuple")) (.and (.val (.cmp .eq (.var 4) (.cst (.int 2)))) (.val (.cmp .gt (.bi .len (.cons (.var 2) (.nil))) (.cst (.int 1)))))) (.cons (.ret (.bin .add (.sl (.var 2) (.some (.cst (.int 1))) (.none)) (.sl (.var 2) (.none) (.some (.cst (.int 1)))))) (.nil)) (.nil)) (.cons (.ifs (.and (.val (.isi1 (.var 2) "int")) (.val (.cmp .lt (.var 4) (.cst (.int 4))))) (.cons (.ret (.call 24 (.cons (.var 0) (.cons (.var 1) (.cons (.lst (.cons (.bin .add (.var 2) (.cst (.int 1))) (.cons (.bin .sub (.var 2) (.cst (.int 1))) (.cons (.cst (.int 0)) (.cons (.cst (.int 1)) (.cons (.cst (.int 8)) (.cons (.cst (.int 86400)) (.cons (.cst (.int 1000)) (.cons (.cst (.int 1001)) (.cons (.bin .add (.bin .pow (.cst (.int 10)) (.cst (.int 6))) (.cst (.int 1))) (.cons (.bin .add (.bin .pow (.cst (.int 10)) (.cst (.int 8))) (.cst (.int 1))) (.cons (.cst .non) (.cons (.cst (.bl true)) (.nil)))))))))))))) (.nil)))))) (.nil)) (.nil)) (.cons (.ifs (.and (.val (.isi1 (.var 2) "str")) (.val (.cmp .lt (.var 4) (.cst (.int 4))))) (.cons (.ret (.call 24 (.cons (.var 0) (.cons (.var 1) (.cons (.lst (.cons (.cst (.str "")) (.cons (.cst (.str "a")) (.cons (.cst (.str "A")) (.cons (.cst (.str "toolongword")) (.cons (.cst (.str "1")) (.cons (.cst (.str "12")) (.cons (.cst (.str "123")) (.cons (.cst (.str "12345678")) (.cons (.cst (.str "123456789")) (.cons (.cst (.str "40")) (.cons (.cst (.str "void")) (.cons (.bin .add (.var 2) (.cst (.str "1"))) (.cons (.bin .add (.var 2) (.cst (.str "\n"))) (.cons (.var 2) (.nil)))))))))))))))) (.nil)))))) (.nil)) (.nil)) (.cons (.ret (.call 24 (.cons (.var 0) (.cons (.var 1) (.cons (.lst (.cons (.cst .non) (.cons (.cst (.int 7)) (.cons (.cst (.bl true)) (.cons (.cst (.str "")) (.cons (.tup (.nil)) (.cons (.tup (.cons (.cst (.int 0)) (.nil))) (.cons (.cst (.str "a")) (.cons (.tup (.cons (.cst (.str "a")) (.nil))) (.cons (.tup (.cons (.cst (.int 0)) (.cons (.cst (.str "a")) (.nil)))) (.cons (.cst (.str "40123")) (.nil)))))))))))) (.nil)))))) (.nil)))))))))
abbrev N33 : List Str := ["row", "spot", "value", "at", "turn", "one"]
abbrev ps33 : List Str := ["row", "spot", "value"]
abbrev st34 : Stmt := top 43
/-- _law_told -/
def b34 : Ss := .cons (.tryR (.call 14 (.cons (.var 0) (.cons (.var 1) (.nil)))) 2 "bad") (.nil)
abbrev N34 : List Str := ["week", "second", "wrong"]
abbrev ps34 : List Str := ["week", "second"]
abbrev st35 : Stmt := top 44
/-- law -/
def b35 : Ss := .cons (.asg (.name 1) (.call 16 (.cons (.var 0) (.nil)))) (.cons (.newL 2 (.cons (.cst (.int 0)) (.nil))) (.cons (.asg (.name 3) (.call 32 (.cons (.var 1) (.cons (.var 2) (.nil))))) (.cons (.forS (.name 4) (.r1 (.cst (.int 8))) (.cons (.asg (.name 5) (.call 33 (.cons (.var 1) (.cons (.var 2) (.cons (.var 3) (.nil)))))) (.cons (.ifs (.not (.val (.call 15 (.cons (.call 11 (.cons (.call 23 (.cons (.var 1) (.cons (.var 2) (.cons (.var 5) (.nil))))) (.nil))) (.cons (.call 28 (.cons (.var 5) (.nil))) (.nil)))))) (.cons (.ret (.cst (.bl false))) (.nil)) (.nil)) (.cons (.ifs (.and (.not (.val (.call 28 (.cons (.var 5) (.nil))))) (.not (.val (.call 15 (.cons (.call 34 (.cons (.var 5) (.cons (.neg (.cst (.int 1))) (.nil)))) (.cons (.tup (.cons (.cst (.str "bad")) (.cons (.cst (.int 0)) (.nil)))) (.nil))))))) (.cons (.ret (.cst (.bl false))) (.nil)) (.nil)) (.nil))))) (.cons (.forS (.name 4) (.r1 (.cst (.int 12))) (.cons (.asg (.name 6) (.call 24 (.cons (.var 1) (.cons (.var 2) (.cons (.lst (.cons (.cst (.int 0)) (.cons (.cst (.int 1)) (.cons (.cst (.int 6)) (.cons (.cst (.int 7)) (.cons (.cst (.int 8)) (.cons (.cst (.int 1000)) (.cons (.call 18 (.cons (.var 1) (.cons (.var 2) (.cons (.cst (.int 997)) (.nil))))) (.nil))))))))) (.nil)))))) (.cons (.asg (.name 7) (.ix (.call 24 (.cons (.var 1) (.cons (.var 2) (.cons (.call 29 (.cons (.var 3) (.cons (.var 6) (.nil)))) (.nil))))) (.cst (.int 0)))) (.cons (.asg (.name 8) (.bi .max2 (.cons (.cst (.int 0)) (.cons (.bin .sub (.bin .add (.bin .add (.bin .mul (.var 6) (.cst (.int 86400))) (.var 7)) (.call 18 (.cons (.var 1) (.cons (.var 2) (.cons (.cst (.int 3)) (.nil)))))) (.cst (.int 1))) (.nil))))) (.cons (.ifs (.not (.val (.call 15 (.cons (.call 34 (.cons (.call 23 (.cons (.var 1) (.cons (.var 2) (.cons (.var 3) (.nil))))) (.cons (.var 8) (.nil)))) (.cons (.call 30 (.cons (.var 3) (.cons (.var 8) (.nil)))) (.nil)))))) (.cons (.ret (.cst (.bl false))) (.nil)) (.nil)) (.nil)))))) (.cons (.asg (.name 9) (.call 24 (.cons (.var 1) (.cons (.var 2) (.cons (.lst (.cons (.cst .non) (.cons (.neg (.cst (.int 1))) (.cons (.bin .add (.bin .pow (.cst (.int 10)) (.cst (.int 8))) (.cst (.int 1))) (.cons (.cst (.str "0")) (.cons (.cst (.bl true)) (.nil))))))) (.nil)))))) (.cons (.ret (.and (.call 15 (.cons (.call 34 (.cons (.var 3) (.cons (.var 9) (.nil)))) (.cons (.tup (.cons (.cst (.str "bad")) (.cons (.cst (.int 1)) (.nil)))) (.nil)))) (.and (.call 15 (.cons (.call 34 (.cons (.var 3) (.cons (.bin .pow (.cst (.int 10)) (.cst (.int 8))) (.nil)))) (.cons (.call 30 (.cons (.var 3) (.cons (.bin .pow (.cst (.int 10)) (.cst (.int 8))) (.nil)))) (.nil)))) (.call 15 (.cons (.call 11 (.cons (.var 3) (.nil))) (.cons (.cst (.bl true)) (.nil))))))) (.nil)))))))
abbrev N35 : List Str := ["script", "row", "spot", "week", "again", "changed", "day", "start", "second", "off"]
abbrev ps35 : List Str := ["script"]
def fns : List Fn := [⟨2, 2, b0⟩, ⟨1, 1, b1⟩, ⟨3, 3, b2⟩, ⟨1, 1, b3⟩, ⟨1, 1, b4⟩, ⟨3, 3, b5⟩, ⟨4, 5, b6⟩, ⟨1, 2, b7⟩, ⟨1, 1, b8⟩, ⟨1, 3, b9⟩, ⟨1, 1, b10⟩, ⟨1, 3, b11⟩, ⟨2, 4, b12⟩, ⟨2, 5, b13⟩, ⟨2, 2, b14⟩, ⟨2, 3, b15⟩, ⟨1, 6, b16⟩, ⟨3, 4, b17⟩, ⟨3, 3, b18⟩, ⟨3, 6, b19⟩, ⟨1, 1, b20⟩, ⟨1, 2, b21⟩, ⟨3, 5, b22⟩, ⟨3, 4, b23⟩, ⟨3, 3, b24⟩, ⟨3, 3, b25⟩, ⟨1, 2, b26⟩, ⟨1, 3, b27⟩, ⟨1, 3, b28⟩, ⟨2, 2, b29⟩, ⟨2, 5, b30⟩, ⟨2, 5, b31⟩, ⟨2, 6, b32⟩, ⟨3, 6, b33⟩, ⟨2, 3, b34⟩, ⟨1, 10, b35⟩]
abbrev prog : Nat → Option Fn := fun f => fns[f]?
abbrev tb : Nat → Prop := fun f => f < 36
def nms : List Str := [("need" : Str), ("is_integer" : Str), ("is_within" : Str), ("is_word" : Str), ("is_second" : Str), ("is_rows" : Str), ("is_rows_of" : Str), ("is_ascending" : Str), ("is_start" : Str), ("is_day" : Str), ("is_feast" : Str), ("is_week" : Str), ("day_of" : Str), ("band_at" : Str), ("band" : Str), ("_law_so" : Str), ("_law_numbers" : Str), ("_law_draw" : Str), ("_law_take" : Str), ("_law_wide" : Str), ("_law_whole" : Str), ("_law_listed" : Str), ("_law_either" : Str), ("_law_handed" : Str), ("_law_pick" : Str), ("_law_between" : Str), ("_law_is_word" : Str), ("_law_is_day" : Str), ("_law_is_week" : Str), ("_law_day_row" : Str), ("_law_band" : Str), ("_law_day" : Str), ("_law_week" : Str), ("_law_part_changed" : Str), ("_law_told" : Str), ("law" : Str)]
abbrev nm : Nat → Str := fun f => nms.getD f ""
def pns : List (List Str) := [([("good" : Str), ("at" : Str)] : List Str), ([("value" : Str)] : List Str), ([("value" : Str), ("low" : Str), ("high" : Str)] : List Str), ([("value" : Str)] : List Str), ([("value" : Str)] : List Str), ([("value" : Str), ("low" : Str), ("high" : Str)] : List Str), ([("value" : Str), ("low" : Str), ("high" : Str), ("is_member" : Str)] : List Str), ([("keys" : Str)] : List Str), ([("value" : Str)] : List Str), ([("value" : Str)] : List Str), ([("value" : Str)] : List Str), ([("value" : Str)] : List Str), ([("week" : Str), ("number" : Str)] : List Str), ([("week" : Str), ("second" : Str)] : List Str), ([("week" : Str), ("second" : Str)] : List Str), ([("found" : Str), ("meant" : Str)] : List Str), ([("script" : Str)] : List Str), ([("row" : Str), ("at" : Str), ("limit" : Str)] : List Str), ([("row" : Str), ("spot" : Str), ("limit" : Str)] : List Str), ([("row" : Str), ("spot" : Str), ("limit" : Str)] : List Str), ([("value" : Str)] : List Str), ([("value" : Str)] : List Str), ([("row" : Str), ("spot" : Str), ("value" : Str)] : List Str), ([("row" : Str), ("spot" : Str), ("value" : Str)] : List Str), ([("row" : Str), ("spot" : Str), ("things" : Str)] : List Str), ([("value" : Str), ("low" : Str), ("high" : Str)] : List Str), ([("value" : Str)] : List Str), ([("value" : Str)] : List Str), ([("value" : Str)] : List Str), ([("week" : Str), ("day" : Str)] : List Str), ([("week" : Str), ("second" : Str)] : List Str), ([("row" : Str), ("spot" : Str)] : List Str), ([("row" : Str), ("spot" : Str)] : List Str), ([("row" : Str), ("spot" : Str), ("value" : Str)] : List Str), ([("week" : Str), ("second" : Str)] : List Str), ([("script" : Str)] : List Str)]
abbrev pn : Nat → List Str := fun f => pns.getD f []
structure Cst (mg : Str → Option Value) : Prop where
  mk_ ::
  LAST_SECOND : ∃ t, mg "LAST_SECOND" = some (.int 100000000 t)
  DAY : ∃ t, mg "DAY" = some (.int 86400 t)
  FEAST : ∃ t, mg "FEAST" = some (.int 7 t)
theorem prog_tb {k f : Nat} {ws : List W} {S : Store} {r : D × Store} (h : callF prog k f ws S = some r) : tb f := by
  cases k with
  | zero => cases h
  | succ k =>
    simp only [callF] at h
    obtain ⟨q, e, _⟩ := Option.bind_eq_some_iff.mp h
    exact (List.getElem?_eq_some_iff.mp e).1
section
variable {P : Program} {w : World} {K : PySem.W.Frag} {mg : Str → Option Value} {base : Heap} {k : Nat} {fa : Nat → Addr} {C : Addr}
theorem scE : FnScope ["self", "at"] ["self", "at"] (defScope stE) := ⟨rfl, rfl, rfl, by decide +kernel, rfl, by decide +kernel, by decide +kernel⟩
theorem okE {fI B : Addr} {fd : FuncData} (F : Fun K "__init__" "BadValue.__init__" stE fI fd) (T : ErrC K mg "BadValue" "SecondError" "at" C B) : FnOk P w K mg base (L2.CX P w) 1 fI fd ["self", "at"] (spI C) :=
  F.okX scE (fun vs H Q E h => by obtain ⟨a, i, rfl, _⟩ := h; rfl) fun cdv A outer s H vs Q E hr h => ⟨tErB C "the argument " " is not as described", pss_cons (ps_expr (pe_erI T rfl (pa_cons (pv 0) (pa_cons (pe_joined (.cons pe_str (.cons (pe_fmt (pv 1)) (.cons pe_str .nil)))) pa_nil)))) (pss_one (ps_erF T (pv 0) (pv 1))), pure_init (by decide) (by decide) h⟩
theorem sc0 : FnScope N0 ps0 (defScope st0) := ⟨rfl, rfl, rfl, by decide +kernel, rfl, by decide +kernel, by decide +kernel⟩
theorem der0 {sp : Nat → Sp} {f : Addr} {cdv : Value} {A : Around} {outer : List Env} {s : Shared} {H : Hp} {E : XK} (h : Okx (cxOf (L2.CX P w) P w K mg base N0 "need" (defScope st0) f cdv A outer s H E) (k + 2) fa sp tb nm pn) (re : ErrOk P w K mg base C) (tk : Takes (cxOf (L2.CX P w) P w K mg base N0 "need" (defScope st0) f cdv A outer s H E) (fun cls d _ H => E cls d H)) (hp : PassesOwn (model (cxOf (L2.CX P w) P w K mg base N0 "need" (defScope st0) f cdv A outer s H E).prog (cxOf (L2.CX P w) P w K mg base N0 "need" (defScope st0) f cdv A outer s H E).w) (cxOf (L2.CX P w) P w K mg base N0 "need" (defScope st0) f cdv A outer s H E).A (cxOf (L2.CX P w) P w K mg base N0 "need" (defScope st0) f cdv A outer s H E).env (cxOf (L2.CX P w) P w K mg base N0 "need" (defScope st0) f cdv A outer s H E).xe) (hc : Cst mg) :
    PSs (cxOf (L2.CX P w) P w K mg base N0 "need" (defScope st0) f cdv A outer s H E) (defBody st0) (tSs K fa sp tb C (fun cls d _ H => E cls d H) b0) :=
  s_cons (s_if (d_tnot (d_val (pv 0))) (s_cons (s_rais h re tk (pv 1)) (s_nil)) (s_nil)) (s_nil)
theorem ok0 {fd : FuncData} (F : Fun K "need" "need" st0 (fa 0) fd) (T : Tbl P w K mg base (k + 2) fa (spC K fa C (callF prog k)) tb nm pn) (re : ErrOk P w K mg base C) (bt : Bt mg) (hc : Cst mg) : FnOk P w K mg base (L2.CX P w) (k + 3) (fa 0) fd ps0 (spC K fa C (callF prog (k + 1)) 0) :=
  F.okX sc0 (fun vs H Q E z => len_ok (q := ⟨2, 2, b0⟩) rfl z) fun cdv A outer s H vs Q E hr z => ⟨_, der0 ⟨rfl, hr, sc0.nd, T, bt⟩ re (takes_of rfl rfl rfl rfl) (passes_of rfl) hc, body_ok (q := ⟨2, 2, b0⟩) rfl rfl re.te (fun _ _ _ _ => prog_tb) z⟩
theorem sc1 : FnScope N1 ps1 (defScope st1) := ⟨rfl, rfl, rfl, by decide +kernel, rfl, by decide +kernel, by decide +kernel⟩
theorem der1 {sp : Nat → Sp} {f : Addr} {cdv : Value} {A : Around} {outer : List Env} {s : Shared} {H : Hp} {E : XK} (h : Okx (cxOf (L2.CX P w) P w K mg base N1 "is_integer" (defScope st1) f cdv A outer s H E) (k + 2) fa sp tb nm pn) (re : ErrOk P w K mg base C) (tk : Takes (cxOf (L2.CX P w) P w K mg base N1 "is_integer" (defScope st1) f cdv A outer s H E) (fun cls d _ H => E cls d H)) (hp : PassesOwn (model (cxOf (L2.CX P w) P w K mg base N1 "is_integer" (defScope st1) f cdv A outer s H E).prog (cxOf (L2.CX P w) P w K mg base N1 "is_integer" (defScope st1) f cdv A outer s H E).w) (cxOf (L2.CX P w) P w K mg base N1 "is_integer" (defScope st1) f cdv A outer s H E).A (cxOf (L2.CX P w) P w K mg base N1 "is_integer" (defScope st1) f cdv A outer s H E).env (cxOf (L2.CX P w) P w K mg base N1 "is_integer" (defScope st1) f cdv A outer s H E).xe) (hc : Cst mg) :
    PSs (cxOf (L2.CX P w) P w K mg base N1 "is_integer" (defScope st1) f cdv A outer s H E) (defBody st1) (tSs K fa sp tb C (fun cls d _ H => E cls d H) b1) :=
  s_cons (s_ret (d_and (d_isi1 h (pv 0) h.bt.int (by decide +kernel)) (d_one (d_not (d_isi1 h (pv 0) h.bt.bool (by decide +kernel)))))) (s_nil)
theorem ok1 {fd : FuncData} (F : Fun K "is_integer" "is_integer" st1 (fa 1) fd) (T : Tbl P w K mg base (k + 2) fa (spC K fa C (callF prog k)) tb nm pn) (re : ErrOk P w K mg base C) (bt : Bt mg) (hc : Cst mg) : FnOk P w K mg base (L2.CX P w) (k + 3) (fa 1) fd ps1 (spC K fa C (callF prog (k + 1)) 1) :=
  F.okX sc1 (fun vs H Q E z => len_ok (q := ⟨1, 1, b1⟩) rfl z) fun cdv A outer s H vs Q E hr z => ⟨_, der1 ⟨rfl, hr, sc1.nd, T, bt⟩ re (takes_of rfl rfl rfl rfl) (passes_of rfl) hc, body_ok (q := ⟨1, 1, b1⟩) rfl rfl re.te (fun _ _ _ _ => prog_tb) z⟩
theorem sc2 : FnScope N2 ps2 (defScope st2) := ⟨rfl, rfl, rfl, by decide +kernel, rfl, by decide +kernel, by decide +kernel⟩
theorem der2 {sp : Nat → Sp} {f : Addr} {cdv : Value} {A : Around} {outer : List Env} {s : Shared} {H : Hp} {E : XK} (h : Okx (cxOf (L2.CX P w) P w K mg base N2 "is_within" (defScope st2) f cdv A outer s H E) (k + 2) fa sp tb nm pn) (re : ErrOk P w K mg base C) (tk : Takes (cxOf (L2.CX P w) P w K mg base N2 "is_within" (defScope st2) f cdv A outer s H E) (fun cls d _ H => E cls d H)) (hp : PassesOwn (model (cxOf (L2.CX P w) P w K mg base N2 "is_within" (defScope st2) f cdv A outer s H E).prog (cxOf (L2.CX P w) P w K mg base N2 "is_within" (defScope st2) f cdv A outer s H E).w) (cxOf (L2.CX P w) P w K mg base N2 "is_within" (defScope st2) f cdv A outer s H E).A (cxOf (L2.CX P w) P w K mg base N2 "is_within" (defScope st2) f cdv A outer s H E).env (cxOf (L2.CX P w) P w K mg base N2 "is_within" (defScope st2) f cdv A outer s H E).xe) (hc : Cst mg) :
    PSs (cxOf (L2.CX P w) P w K mg base N2 "is_within" (defScope st2) f cdv A outer s H E) (defBody st2) (tSs K fa sp tb C (fun cls d _ H => E cls d H) b2) :=
  s_cons (s_ret (d_and (d_call h 1 (by decide) (d_cons (pv 0) (d_nil))) (d_one (d_chain h .le .le (pv 1) (pv 0) (pv 2))))) (s_nil)
theorem ok2 {fd : FuncData} (F : Fun K "is_within" "is_within" st2 (fa 2) fd) (T : Tbl P w K mg base (k + 2) fa (spC K fa C (callF prog k)) tb nm pn) (re : ErrOk P w K mg base C) (bt : Bt mg) (hc : Cst mg) : FnOk P w K mg base (L2.CX P w) (k + 3) (fa 2) fd ps2 (spC K fa C (callF prog (k + 1)) 2) :=
  F.okX sc2 (fun vs H Q E z => len_ok (q := ⟨3, 3, b2⟩) rfl z) fun cdv A outer s H vs Q E hr z => ⟨_, der2 ⟨rfl, hr, sc2.nd, T, bt⟩ re (takes_of rfl rfl rfl rfl) (passes_of rfl) hc, body_ok (q := ⟨3, 3, b2⟩) rfl rfl re.te (fun _ _ _ _ => prog_tb) z⟩
theorem sc3 : FnScope N3 ps3 (defScope st3) := ⟨rfl, rfl, rfl, by decide +kernel, rfl, by decide +kernel, by decide +kernel⟩
theorem der3 {sp : Nat → Sp} {f : Addr} {cdv : Value} {A : Around} {outer : List Env} {s : Shared} {H : Hp} {E : XK} (h : Okx (cxOf (L2.CX P w) P w K mg base N3 "is_word" (defScope st3) f cdv A outer s H E) (k + 2) fa sp tb nm pn) (re : ErrOk P w K mg base C) (tk : Takes (cxOf (L2.CX P w) P w K mg base N3 "is_word" (defScope st3) f cdv A outer s H E) (fun cls d _ H => E cls d H)) (hp : PassesOwn (model (cxOf (L2.CX P w) P w K mg base N3 "is_word" (defScope st3) f cdv A outer s H E).prog (cxOf (L2.CX P w) P w K mg base N3 "is_word" (defScope st3) f cdv A outer s H E).w) (cxOf (L2.CX P w) P w K mg base N3 "is_word" (defScope st3) f cdv A outer s H E).A (cxOf (L2.CX P w) P w K mg base N3 "is_word" (defScope st3) f cdv A outer s H E).env (cxOf (L2.CX P w) P w K mg base N3 "is_word" (defScope st3) f cdv A outer s H E).xe) (hc : Cst mg) :
    PSs (cxOf (L2.CX P w) P w K mg base N3 "is_word" (defScope st3) f cdv A outer s H E) (defBody st3) (tSs K fa sp tb C (fun cls d _ H => E cls d H) b3) :=
  s_cons (s_if (d_w (d_wor (d_tnot (d_val (d_isi1 h (pv 0) h.bt.str (by decide +kernel)))) (d_wor1 (d_tnot (d_tchain h .le .le (d_int) (d_len h (d_cons (pv 0) (d_nil))) (d_int)))))) (s_cons (s_ret (d_bl)) (s_nil)) (s_nil)) (s_cons (s_ret (d_and (d_isascii (pv 0)) (d_and (d_isalpha (pv 0)) (d_one (d_islower (pv 0)))))) (s_nil))
theorem ok3 {fd : FuncData} (F : Fun K "is_word" "is_word" st3 (fa 3) fd) (T : Tbl P w K mg base (k + 2) fa (spC K fa C (callF prog k)) tb nm pn) (re : ErrOk P w K mg base C) (bt : Bt mg) (hc : Cst mg) : FnOk P w K mg base (L2.CX P w) (k + 3) (fa 3) fd ps3 (spC K fa C (callF prog (k + 1)) 3) :=
  F.okX sc3 (fun vs H Q E z => len_ok (q := ⟨1, 1, b3⟩) rfl z) fun cdv A outer s H vs Q E hr z => ⟨_, der3 ⟨rfl, hr, sc3.nd, T, bt⟩ re (takes_of rfl rfl rfl rfl) (passes_of rfl) hc, body_ok (q := ⟨1, 1, b3⟩) rfl rfl re.te (fun _ _ _ _ => prog_tb) z⟩
theorem sc4 : FnScope N4 ps4 (defScope st4) := ⟨rfl, rfl, rfl, by decide +kernel, rfl, by decide +kernel, by decide +kernel⟩
theorem der4 {sp : Nat → Sp} {f : Addr} {cdv : Value} {A : Around} {outer : List Env} {s : Shared} {H : Hp} {E : XK} (h : Okx (cxOf (L2.CX P w) P w K mg base N4 "is_second" (defScope st4) f cdv A outer s H E) (k + 2) fa sp tb nm pn) (re : ErrOk P w K mg base C) (tk : Takes (cxOf (L2.CX P w) P w K mg base N4 "is_second" (defScope st4) f cdv A outer s H E) (fun cls d _ H => E cls d H)) (hp : PassesOwn (model (cxOf (L2.CX P w) P w K mg base N4 "is_second" (defScope st4) f cdv A outer s H E).prog (cxOf (L2.CX P w) P w K mg base N4 "is_second" (defScope st4) f cdv A outer s H E).w) (cxOf (L2.CX P w) P w K mg base N4 "is_second" (defScope st4) f cdv A outer s H E).A (cxOf (L2.CX P w) P w K mg base N4 "is_second" (defScope st4) f cdv A outer s H E).env (cxOf (L2.CX P w) P w K mg base N4 "is_second" (defScope st4) f cdv A outer s H E).xe) (hc : Cst mg) :
    PSs (cxOf (L2.CX P w) P w K mg base N4 "is_second" (defScope st4) f cdv A outer s H E) (defBody st4) (tSs K fa sp tb C (fun cls d _ H => E cls d H) b4) :=
  s_cons (s_ret (d_call h 2 (by decide) (d_cons (pv 0) (d_cons (d_int) (d_cons (d_glob hc.LAST_SECOND) (d_nil)))))) (s_nil)
theorem ok4 {fd : FuncData} (F : Fun K "is_second" "is_second" st4 (fa 4) fd) (T : Tbl P w K mg base (k + 2) fa (spC K fa C (callF prog k)) tb nm pn) (re : ErrOk P w K mg base C) (bt : Bt mg) (hc : Cst mg) : FnOk P w K mg base (L2.CX P w) (k + 3) (fa 4) fd ps4 (spC K fa C (callF prog (k + 1)) 4) :=
  F.okX sc4 (fun vs H Q E z => len_ok (q := ⟨1, 1, b4⟩) rfl z) fun cdv A outer s H vs Q E hr z => ⟨_, der4 ⟨rfl, hr, sc4.nd, T, bt⟩ re (takes_of rfl rfl rfl rfl) (passes_of rfl) hc, body_ok (q := ⟨1, 1, b4⟩) rfl rfl re.te (fun _ _ _ _ => prog_tb) z⟩
theorem sc5 : FnScope N5 ps5 (defScope st5) := ⟨rfl, rfl, rfl, by decide +kernel, rfl, by decide +kernel, by decide +kernel⟩
theorem der5 {sp : Nat → Sp} {f : Addr} {cdv : Value} {A : Around} {outer : List Env} {s : Shared} {H : Hp} {E : XK} (h : Okx (cxOf (L2.CX P w) P w K mg base N5 "is_rows" (defScope st5) f cdv A outer s H E) (k + 2) fa sp tb nm pn) (re : ErrOk P w K mg base C) (tk : Takes (cxOf (L2.CX P w) P w K mg base N5 "is_rows" (defScope st5) f cdv A outer s H E) (fun cls d _ H => E cls d H)) (hp : PassesOwn (model (cxOf (L2.CX P w) P w K mg base N5 "is_rows" (defScope st5) f cdv A outer s H E).prog (cxOf (L2.CX P w) P w K mg base N5 "is_rows" (defScope st5) f cdv A outer s H E).w) (cxOf (L2.CX P w) P w K mg base N5 "is_rows" (defScope st5) f cdv A outer s H E).A (cxOf (L2.CX P w) P w K mg base N5 "is_rows" (defScope st5) f cdv A outer s H E).env (cxOf (L2.CX P w) P w K mg base N5 "is_rows" (defScope st5) f cdv A outer s H E).xe) (hc : Cst mg) :
    PSs (cxOf (L2.CX P w) P w K mg base N5 "is_rows" (defScope st5) f cdv A outer s H E) (defBody st5) (tSs K fa sp tb C (fun cls d _ H => E cls d H) b5) :=
  s_cons (s_ret (d_and (d_isi2 h (pv 0) h.bt.list (by decide +kernel) h.bt.tuple (by decide +kernel)) (d_one (d_chain h .le .le (pv 1) (d_len h (d_cons (pv 0) (d_nil))) (pv 2))))) (s_nil)
theorem ok5 {fd : FuncData} (F : Fun K "is_rows" "is_rows" st5 (fa 5) fd) (T : Tbl P w K mg base (k + 2) fa (spC K fa C (callF prog k)) tb nm pn) (re : ErrOk P w K mg base C) (bt : Bt mg) (hc : Cst mg) : FnOk P w K mg base (L2.CX P w) (k + 3) (fa 5) fd ps5 (spC K fa C (callF prog (k + 1)) 5) :=
  F.okX sc5 (fun vs H Q E z => len_ok (q := ⟨3, 3, b5⟩) rfl z) fun cdv A outer s H vs Q E hr z => ⟨_, der5 ⟨rfl, hr, sc5.nd, T, bt⟩ re (takes_of rfl rfl rfl rfl) (passes_of rfl) hc, body_ok (q := ⟨3, 3, b5⟩) rfl rfl re.te (fun _ _ _ _ => prog_tb) z⟩
theorem sc6 : FnScope N6 ps6 (defScope st6) := ⟨rfl, rfl, rfl, by decide +kernel, rfl, by decide +kernel, by decide +kernel⟩
theorem der6 {sp : Nat → Sp} {f : Addr} {cdv : Value} {A : Around} {outer : List Env} {s : Shared} {H : Hp} {E : XK} (h : Okx (cxOf (L2.CX P w) P w K mg base N6 "is_rows_of" (defScope st6) f cdv A outer s H E) (k + 2) fa sp tb nm pn) (re : ErrOk P w K mg base C) (tk : Takes (cxOf (L2.CX P w) P w K mg base N6 "is_rows_of" (defScope st6) f cdv A outer s H E) (fun cls d _ H => E cls d H)) (hp : PassesOwn (model (cxOf (L2.CX P w) P w K mg base N6 "is_rows_of" (defScope st6) f cdv A outer s H E).prog (cxOf (L2.CX P w) P w K mg base N6 "is_rows_of" (defScope st6) f cdv A outer s H E).w) (cxOf (L2.CX P w) P w K mg base N6 "is_rows_of" (defScope st6) f cdv A outer s H E).A (cxOf (L2.CX P w) P w K mg base N6 "is_rows_of" (defScope st6) f cdv A outer s H E).env (cxOf (L2.CX P w) P w K mg base N6 "is_rows_of" (defScope st6) f cdv A outer s H E).xe) (hc : Cst mg) :
    PSs (cxOf (L2.CX P w) P w K mg base N6 "is_rows_of" (defScope st6) f cdv A outer s H E) (defBody st6) (tSs K fa sp tb C (fun cls d _ H => E cls d H) b6) :=
  s_cons (s_ret (d_and (d_call h 5 (by decide) (d_cons (pv 0) (d_cons (pv 1) (d_cons (pv 2) (d_nil))))) (d_one (d_all h (d_cons (d_comp h [("member", 4)] (d_seq (pv 0)) (blkOk_by (N := N6) (sc := defScope st6) (by decide +kernel)) (fun _ _ _ _ _ => d_gn h.blk) (fun _ _ _ _ _ => d_tn) (fun _ _ _ _ _ => d_callv h.blk (d_cons (pv 4) (d_nil)))) (d_nil)))))) (s_nil)
theorem ok6 {fd : FuncData} (F : Fun K "is_rows_of" "is_rows_of" st6 (fa 6) fd) (T : Tbl P w K mg base (k + 2) fa (spC K fa C (callF prog k)) tb nm pn) (re : ErrOk P w K mg base C) (bt : Bt mg) (hc : Cst mg) : FnOk P w K mg base (L2.CX P w) (k + 3) (fa 6) fd ps6 (spC K fa C (callF prog (k + 1)) 6) :=
  F.okX sc6 (fun vs H Q E z => len_ok (q := ⟨4, 5, b6⟩) rfl z) fun cdv A outer s H vs Q E hr z => ⟨_, der6 ⟨rfl, hr, sc6.nd, T, bt⟩ re (takes_of rfl rfl rfl rfl) (passes_of rfl) hc, body_ok (q := ⟨4, 5, b6⟩) rfl rfl re.te (fun _ _ _ _ => prog_tb) z⟩
theorem sc7 : FnScope N7 ps7 (defScope st7) := ⟨rfl, rfl, rfl, by decide +kernel, rfl, by decide +kernel, by decide +kernel⟩
theorem der7 {sp : Nat → Sp} {f : Addr} {cdv : Value} {A : Around} {outer : List Env} {s : Shared} {H : Hp} {E : XK} (h : Okx (cxOf (L2.CX P w) P w K mg base N7 "is_ascending" (defScope st7) f cdv A outer s H E) (k + 2) fa sp tb nm pn) (re : ErrOk P w K mg base C) (tk : Takes (cxOf (L2.CX P w) P w K mg base N7 "is_ascending" (defScope st7) f cdv A outer s H E) (fun cls d _ H => E cls d H)) (hp : PassesOwn (model (cxOf (L2.CX P w) P w K mg base N7 "is_ascending" (defScope st7) f cdv A outer s H E).prog (cxOf (L2.CX P w) P w K mg base N7 "is_ascending" (defScope st7) f cdv A outer s H E).w) (cxOf (L2.CX P w) P w K mg base N7 "is_ascending" (defScope st7) f cdv A outer s H E).A (cxOf (L2.CX P w) P w K mg base N7 "is_ascending" (defScope st7) f cdv A outer s H E).env (cxOf (L2.CX P w) P w K mg base N7 "is_ascending" (defScope st7) f cdv A outer s H E).xe) (hc : Cst mg) :
    PSs (cxOf (L2.CX P w) P w K mg base N7 "is_ascending" (defScope st7) f cdv A outer s H E) (defBody st7) (tSs K fa sp tb C (fun cls d _ H => E cls d H) b7) :=
  s_cons (s_ret (d_all h (d_cons (d_comp h [("at", 1)] (d_r1 h (d_sub (d_len h (d_cons (pv 0) (d_nil))) (d_int))) (blkOk_by (N := N7) (sc := defScope st7) (by decide +kernel)) (fun _ _ _ _ _ => d_gn h.blk) (fun _ _ _ _ _ => d_tn) (fun _ _ _ _ _ => d_cmp h.blk .lt (d_ix (pv 0) (pv 1)) (d_ix (pv 0) (d_add (pv 1) (d_int))))) (d_nil)))) (s_nil)
theorem ok7 {fd : FuncData} (F : Fun K "is_ascending" "is_ascending" st7 (fa 7) fd) (T : Tbl P w K mg base (k + 2) fa (spC K fa C (callF prog k)) tb nm pn) (re : ErrOk P w K mg base C) (bt : Bt mg) (hc : Cst mg) : FnOk P w K mg base (L2.CX P w) (k + 3) (fa 7) fd ps7 (spC K fa C (callF prog (k + 1)) 7) :=
  F.okX sc7 (fun vs H Q E z => len_ok (q := ⟨1, 2, b7⟩) rfl z) fun cdv A outer s H vs Q E hr z => ⟨_, der7 ⟨rfl, hr, sc7.nd, T, bt⟩ re (takes_of rfl rfl rfl rfl) (passes_of rfl) hc, body_ok (q := ⟨1, 2, b7⟩) rfl rfl re.te (fun _ _ _ _ => prog_tb) z⟩
theorem sc8 : FnScope N8 ps8 (defScope st8) := ⟨rfl, rfl, rfl, by decide +kernel, rfl, by decide +kernel, by decide +kernel⟩
theorem der8 {sp : Nat → Sp} {f : Addr} {cdv : Value} {A : Around} {outer : List Env} {s : Shared} {H : Hp} {E : XK} (h : Okx (cxOf (L2.CX P w) P w K mg base N8 "is_start" (defScope st8) f cdv A outer s H E) (k + 2) fa sp tb nm pn) (re : ErrOk P w K mg base C) (tk : Takes (cxOf (L2.CX P w) P w K mg base N8 "is_start" (defScope st8) f cdv A outer s H E) (fun cls d _ H => E cls d H)) (hp : PassesOwn (model (cxOf (L2.CX P w) P w K mg base N8 "is_start" (defScope st8) f cdv A outer s H E).prog (cxOf (L2.CX P w) P w K mg base N8 "is_start" (defScope st8) f cdv A outer s H E).w) (cxOf (L2.CX P w) P w K mg base N8 "is_start" (defScope st8) f cdv A outer s H E).A (cxOf (L2.CX P w) P w K mg base N8 "is_start" (defScope st8) f cdv A outer s H E).env (cxOf (L2.CX P w) P w K mg base N8 "is_start" (defScope st8) f cdv A outer s H E).xe) (hc : Cst mg) :
    PSs (cxOf (L2.CX P w) P w K mg base N8 "is_start" (defScope st8) f cdv A outer s H E) (defBody st8) (tSs K fa sp tb C (fun cls d _ H => E cls d H) b8) :=
  s_cons (s_ret (d_and (d_call h 5 (by decide) (d_cons (pv 0) (d_cons (d_int) (d_cons (d_int) (d_nil))))) (d_and (d_call h 2 (by decide) (d_cons (d_ix (pv 0) (d_int)) (d_cons (d_int) (d_cons (d_sub (d_glob hc.DAY) (d_int)) (d_nil))))) (d_one (d_call h 3 (by decide) (d_cons (d_ix (pv 0) (d_int)) (d_nil))))))) (s_nil)
theorem ok8 {fd : FuncData} (F : Fun K "is_start" "is_start" st8 (fa 8) fd) (T : Tbl P w K mg base (k + 2) fa (spC K fa C (callF prog k)) tb nm pn) (re : ErrOk P w K mg base C) (bt : Bt mg) (hc : Cst mg) : FnOk P w K mg base (L2.CX P w) (k + 3) (fa 8) fd ps8 (spC K fa C (callF prog (k + 1)) 8) :=
  F.okX sc8 (fun vs H Q E z => len_ok (q := ⟨1, 1, b8⟩) rfl z) fun cdv A outer s H vs Q E hr z => ⟨_, der8 ⟨rfl, hr, sc8.nd, T, bt⟩ re (takes_of rfl rfl rfl rfl) (passes_of rfl) hc, body_ok (q := ⟨1, 1, b8⟩) rfl rfl re.te (fun _ _ _ _ => prog_tb) z⟩
theorem sc9 : FnScope N9 ps9 (defScope st9) := ⟨rfl, rfl, rfl, by decide +kernel, rfl, by decide +kernel, by decide +kernel⟩
theorem der9 {sp : Nat → Sp} {f : Addr} {cdv : Value} {A : Around} {outer : List Env} {s : Shared} {H : Hp} {E : XK} (h : Okx (cxOf (L2.CX P w) P w K mg base N9 "is_day" (defScope st9) f cdv A outer s H E) (k + 2) fa sp tb nm pn) (re : ErrOk P w K mg base C) (tk : Takes (cxOf (L2.CX P w) P w K mg base N9 "is_day" (defScope st9) f cdv A outer s H E) (fun cls d _ H => E cls d H)) (hp : PassesOwn (model (cxOf (L2.CX P w) P w K mg base N9 "is_day" (defScope st9) f cdv A outer s H E).prog (cxOf (L2.CX P w) P w K mg base N9 "is_day" (defScope st9) f cdv A outer s H E).w) (cxOf (L2.CX P w) P w K mg base N9 "is_day" (defScope st9) f cdv A outer s H E).A (cxOf (L2.CX P w) P w K mg base N9 "is_day" (defScope st9) f cdv A outer s H E).env (cxOf (L2.CX P w) P w K mg base N9 "is_day" (defScope st9) f cdv A outer s H E).xe) (hc : Cst mg) :
    PSs (cxOf (L2.CX P w) P w K mg base N9 "is_day" (defScope st9) f cdv A outer s H E) (defBody st9) (tSs K fa sp tb C (fun cls d _ H => E cls d H) b9) :=
  s_cons (s_if (d_tnot (d_val (d_call h 6 (by decide) (d_cons (pv 0) (d_cons (d_int) (d_cons (d_int) (d_cons (d_fn h 8 (by decide)) (d_nil)))))))) (s_cons (s_ret (d_bl)) (s_nil)) (s_nil)) (s_cons (s_setLc h [("pair", 2)] (d_seq (pv 0)) (blkOk_by (N := N9) (sc := defScope st9) (by decide +kernel)) (fun _ _ _ _ _ => d_gn h.blk) (fun _ _ _ _ _ => d_tn) (fun _ _ _ _ _ => d_ix (pv 2) (d_int)) (sw_true rfl rfl rfl (by decide +kernel))) (s_cons (s_ret (d_and (d_cmp h .eq (d_ix (pv 1) (d_int)) (d_int)) (d_one (d_call h 7 (by decide) (d_cons (pv 1) (d_nil)))))) (s_nil)))
theorem ok9 {fd : FuncData} (F : Fun K "is_day" "is_day" st9 (fa 9) fd) (T : Tbl P w K mg base (k + 2) fa (spC K fa C (callF prog k)) tb nm pn) (re : ErrOk P w K mg base C) (bt : Bt mg) (hc : Cst mg) : FnOk P w K mg base (L2.CX P w) (k + 3) (fa 9) fd ps9 (spC K fa C (callF prog (k + 1)) 9) :=
  F.okX sc9 (fun vs H Q E z => len_ok (q := ⟨1, 3, b9⟩) rfl z) fun cdv A outer s H vs Q E hr z => ⟨_, der9 ⟨rfl, hr, sc9.nd, T, bt⟩ re (takes_of rfl rfl rfl rfl) (passes_of rfl) hc, body_ok (q := ⟨1, 3, b9⟩) rfl rfl re.te (fun _ _ _ _ => prog_tb) z⟩
theorem sc10 : FnScope N10 ps10 (defScope st10) := ⟨rfl, rfl, rfl, by decide +kernel, rfl, by decide +kernel, by decide +kernel⟩
theorem der10 {sp : Nat → Sp} {f : Addr} {cdv : Value} {A : Around} {outer : List Env} {s : Shared} {H : Hp} {E : XK} (h : Okx (cxOf (L2.CX P w) P w K mg base N10 "is_feast" (defScope st10) f cdv A outer s H E) (k + 2) fa sp tb nm pn) (re : ErrOk P w K mg base C) (tk : Takes (cxOf (L2.CX P w) P w K mg base N10 "is_feast" (defScope st10) f cdv A outer s H E) (fun cls d _ H => E cls d H)) (hp : PassesOwn (model (cxOf (L2.CX P w) P w K mg base N10 "is_feast" (defScope st10) f cdv A outer s H E).prog (cxOf (L2.CX P w) P w K mg base N10 "is_feast" (defScope st10) f cdv A outer s H E).w) (cxOf (L2.CX P w) P w K mg base N10 "is_feast" (defScope st10) f cdv A outer s H E).A (cxOf (L2.CX P w) P w K mg base N10 "is_feast" (defScope st10) f cdv A outer s H E).env (cxOf (L2.CX P w) P w K mg base N10 "is_feast" (defScope st10) f cdv A outer s H E).xe) (hc : Cst mg) :
    PSs (cxOf (L2.CX P w) P w K mg base N10 "is_feast" (defScope st10) f cdv A outer s H E) (defBody st10) (tSs K fa sp tb C (fun cls d _ H => E cls d H) b10) :=
  s_cons (s_ret (d_call h 2 (by decide) (d_cons (pv 0) (d_cons (d_int) (d_cons (d_int) (d_nil)))))) (s_nil)
theorem ok10 {fd : FuncData} (F : Fun K "is_feast" "is_feast" st10 (fa 10) fd) (T : Tbl P w K mg base (k + 2) fa (spC K fa C (callF prog k)) tb nm pn) (re : ErrOk P w K mg base C) (bt : Bt mg) (hc : Cst mg) : FnOk P w K mg base (L2.CX P w) (k + 3) (fa 10) fd ps10 (spC K fa C (callF prog (k + 1)) 10) :=
  F.okX sc10 (fun vs H Q E z => len_ok (q := ⟨1, 1, b10⟩) rfl z) fun cdv A outer s H vs Q E hr z => ⟨_, der10 ⟨rfl, hr, sc10.nd, T, bt⟩ re (takes_of rfl rfl rfl rfl) (passes_of rfl) hc, body_ok (q := ⟨1, 1, b10⟩) rfl rfl re.te (fun _ _ _ _ => prog_tb) z⟩
theorem sc11 : FnScope N11 ps11 (defScope st11) := ⟨rfl, rfl, rfl, by decide +kernel, rfl, by decide +kernel, by decide +kernel⟩
theorem der11 {sp : Nat → Sp} {f : Addr} {cdv : Value} {A : Around} {outer : List Env} {s : Shared} {H : Hp} {E : XK} (h : Okx (cxOf (L2.CX P w) P w K mg base N11 "is_week" (defScope st11) f cdv A outer s H E) (k + 2) fa sp tb nm pn) (re : ErrOk P w K mg base C) (tk : Takes (cxOf (L2.CX P w) P w K mg base N11 "is_week" (defScope st11) f cdv A outer s H E) (fun cls d _ H => E cls d H)) (hp : PassesOwn (model (cxOf (L2.CX P w) P w K mg base N11 "is_week" (defScope st11) f cdv A outer s H E).prog (cxOf (L2.CX P w) P w K mg base N11 "is_week" (defScope st11) f cdv A outer s H E).w) (cxOf (L2.CX P w) P w K mg base N11 "is_week" (defScope st11) f cdv A outer s H E).A (cxOf (L2.CX P w) P w K mg base N11 "is_week" (defScope st11) f cdv A outer s H E).env (cxOf (L2.CX P w) P w K mg base N11 "is_week" (defScope st11) f cdv A outer s H E).xe) (hc : Cst mg) :
    PSs (cxOf (L2.CX P w) P w K mg base N11 "is_week" (defScope st11) f cdv A outer s H E) (defBody st11) (tSs K fa sp tb C (fun cls d _ H => E cls d H) b11) :=
  s_cons (s_if (d_tnot (d_val (d_call h 5 (by decide) (d_cons (pv 0) (d_cons (d_int) (d_cons (d_int) (d_nil))))))) (s_cons (s_ret (d_bl)) (s_nil)) (s_nil)) (s_cons (s_asg (pv 0) (d_gt h (d_gs (d_gn h) (d_gs (d_gn h) (d_gs0))))) (s_cons (s_if (d_tnot (d_val (d_call h 6 (by decide) (d_cons (pv 1) (d_cons (d_int) (d_cons (d_int) (d_cons (d_fn h 9 (by decide)) (d_nil)))))))) (s_cons (s_ret (d_bl)) (s_nil)) (s_nil)) (s_cons (s_ret (d_and (d_call h 6 (by decide) (d_cons (pv 2) (d_cons (d_int) (d_cons (d_int) (d_cons (d_fn h 10 (by decide)) (d_nil)))))) (d_one (d_call h 7 (by decide) (d_cons (pv 2) (d_nil)))))) (s_nil))))
theorem ok11 {fd : FuncData} (F : Fun K "is_week" "is_week" st11 (fa 11) fd) (T : Tbl P w K mg base (k + 2) fa (spC K fa C (callF prog k)) tb nm pn) (re : ErrOk P w K mg base C) (bt : Bt mg) (hc : Cst mg) : FnOk P w K mg base (L2.CX P w) (k + 3) (fa 11) fd ps11 (spC K fa C (callF prog (k + 1)) 11) :=
  F.okX sc11 (fun vs H Q E z => len_ok (q := ⟨1, 3, b11⟩) rfl z) fun cdv A outer s H vs Q E hr z => ⟨_, der11 ⟨rfl, hr, sc11.nd, T, bt⟩ re (takes_of rfl rfl rfl rfl) (passes_of rfl) hc, body_ok (q := ⟨1, 3, b11⟩) rfl rfl re.te (fun _ _ _ _ => prog_tb) z⟩
theorem sc12 : FnScope N12 ps12 (defScope st12) := ⟨rfl, rfl, rfl, by decide +kernel, rfl, by decide +kernel, by decide +kernel⟩
theorem der12 {sp : Nat → Sp} {f : Addr} {cdv : Value} {A : Around} {outer : List Env} {s : Shared} {H : Hp} {E : XK} (h : Okx (cxOf (L2.CX P w) P w K mg base N12 "day_of" (defScope st12) f cdv A outer s H E) (k + 2) fa sp tb nm pn) (re : ErrOk P w K mg base C) (tk : Takes (cxOf (L2.CX P w) P w K mg base N12 "day_of" (defScope st12) f cdv A outer s H E) (fun cls d _ H => E cls d H)) (hp : PassesOwn (model (cxOf (L2.CX P w) P w K mg base N12 "day_of" (defScope st12) f cdv A outer s H E).prog (cxOf (L2.CX P w) P w K mg base N12 "day_of" (defScope st12) f cdv A outer s H E).w) (cxOf (L2.CX P w) P w K mg base N12 "day_of" (defScope st12) f cdv A outer s H E).A (cxOf (L2.CX P w) P w K mg base N12 "day_of" (defScope st12) f cdv A outer s H E).env (cxOf (L2.CX P w) P w K mg base N12 "day_of" (defScope st12) f cdv A outer s H E).xe) (hc : Cst mg) :
    PSs (cxOf (L2.CX P w) P w K mg base N12 "day_of" (defScope st12) f cdv A outer s H E) (defBody st12) (tSs K fa sp tb C (fun cls d _ H => E cls d H) b12) :=
  s_cons (s_asg (pv 0) (d_gt h (d_gs (d_gn h) (d_gs (d_gn h) (d_gs0))))) (s_cons (s_ret (d_ite (d_tcmp h .inn (pv 1) (pv 3)) (d_ix (pv 2) (d_glob hc.FEAST)) (d_ix (pv 2) (d_mod (pv 1) (d_int))))) (s_nil))
theorem ok12 {fd : FuncData} (F : Fun K "day_of" "day_of" st12 (fa 12) fd) (T : Tbl P w K mg base (k + 2) fa (spC K fa C (callF prog k)) tb nm pn) (re : ErrOk P w K mg base C) (bt : Bt mg) (hc : Cst mg) : FnOk P w K mg base (L2.CX P w) (k + 3) (fa 12) fd ps12 (spC K fa C (callF prog (k + 1)) 12) :=
  F.okX sc12 (fun vs H Q E z => len_ok (q := ⟨2, 4, b12⟩) rfl z) fun cdv A outer s H vs Q E hr z => ⟨_, der12 ⟨rfl, hr, sc12.nd, T, bt⟩ re (takes_of rfl rfl rfl rfl) (passes_of rfl) hc, body_ok (q := ⟨2, 4, b12⟩) rfl rfl re.te (fun _ _ _ _ => prog_tb) z⟩
theorem sc13 : FnScope N13 ps13 (defScope st13) := ⟨rfl, rfl, rfl, by decide +kernel, rfl, by decide +kernel, by decide +kernel⟩
theorem der13 {sp : Nat → Sp} {f : Addr} {cdv : Value} {A : Around} {outer : List Env} {s : Shared} {H : Hp} {E : XK} (h : Okx (cxOf (L2.CX P w) P w K mg base N13 "band_at" (defScope st13) f cdv A outer s H E) (k + 2) fa sp tb nm pn) (re : ErrOk P w K mg base C) (tk : Takes (cxOf (L2.CX P w) P w K mg base N13 "band_at" (defScope st13) f cdv A outer s H E) (fun cls d _ H => E cls d H)) (hp : PassesOwn (model (cxOf (L2.CX P w) P w K mg base N13 "band_at" (defScope st13) f cdv A outer s H E).prog (cxOf (L2.CX P w) P w K mg base N13 "band_at" (defScope st13) f cdv A outer s H E).w) (cxOf (L2.CX P w) P w K mg base N13 "band_at" (defScope st13) f cdv A outer s H E).A (cxOf (L2.CX P w) P w K mg base N13 "band_at" (defScope st13) f cdv A outer s H E).env (cxOf (L2.CX P w) P w K mg base N13 "band_at" (defScope st13) f cdv A outer s H E).xe) (hc : Cst mg) :
    PSs (cxOf (L2.CX P w) P w K mg base N13 "band_at" (defScope st13) f cdv A outer s H E) (defBody st13) (tSs K fa sp tb C (fun cls d _ H => E cls d H) b13) :=
  s_cons (s_set h (d_non)) (s_cons (s_for h hp (d_seq (d_call h 12 (by decide) (d_cons (pv 0) (d_cons (d_div (pv 1) (d_glob hc.DAY)) (d_nil))))) (d_gt h (d_gs (d_gn h) (d_gs (d_gn h) (d_gs0)))) (s_cons (s_if (d_tcmp h .le (pv 3) (d_mod (pv 1) (d_glob hc.DAY))) (s_cons (s_set h (pv 4)) (s_nil)) (s_nil)) (s_nil))) (s_cons (s_ret (pv 2)) (s_nil)))
theorem ok13 {fd : FuncData} (F : Fun K "band_at" "band_at" st13 (fa 13) fd) (T : Tbl P w K mg base (k + 2) fa (spC K fa C (callF prog k)) tb nm pn) (re : ErrOk P w K mg base C) (bt : Bt mg) (hc : Cst mg) : FnOk P w K mg base (L2.CX P w) (k + 3) (fa 13) fd ps13 (spC K fa C (callF prog (k + 1)) 13) :=
  F.okX sc13 (fun vs H Q E z => len_ok (q := ⟨2, 5, b13⟩) rfl z) fun cdv A outer s H vs Q E hr z => ⟨_, der13 ⟨rfl, hr, sc13.nd, T, bt⟩ re (takes_of rfl rfl rfl rfl) (passes_of rfl) hc, body_ok (q := ⟨2, 5, b13⟩) rfl rfl re.te (fun _ _ _ _ => prog_tb) z⟩
theorem sc14 : FnScope N14 ps14 (defScope st14) := ⟨rfl, rfl, rfl, by decide +kernel, rfl, by decide +kernel, by decide +kernel⟩
theorem der14 {sp : Nat → Sp} {f : Addr} {cdv : Value} {A : Around} {outer : List Env} {s : Shared} {H : Hp} {E : XK} (h : Okx (cxOf (L2.CX P w) P w K mg base N14 "band" (defScope st14) f cdv A outer s H E) (k + 2) fa sp tb nm pn) (re : ErrOk P w K mg base C) (tk : Takes (cxOf (L2.CX P w) P w K mg base N14 "band" (defScope st14) f cdv A outer s H E) (fun cls d _ H => E cls d H)) (hp : PassesOwn (model (cxOf (L2.CX P w) P w K mg base N14 "band" (defScope st14) f cdv A outer s H E).prog (cxOf (L2.CX P w) P w K mg base N14 "band" (defScope st14) f cdv A outer s H E).w) (cxOf (L2.CX P w) P w K mg base N14 "band" (defScope st14) f cdv A outer s H E).A (cxOf (L2.CX P w) P w K mg base N14 "band" (defScope st14) f cdv A outer s H E).env (cxOf (L2.CX P w) P w K mg base N14 "band" (defScope st14) f cdv A outer s H E).xe) (hc : Cst mg) :
    PSs (cxOf (L2.CX P w) P w K mg base N14 "band" (defScope st14) f cdv A outer s H E) (defBody st14) (tSs K fa sp tb C (fun cls d _ H => E cls d H) b14) :=
  s_cons (s_dropX (x_call h tk 0 (by decide) (d_cons (d_call h 11 (by decide) (d_cons (pv 0) (d_nil))) (d_cons (d_int) (d_nil))))) (s_cons (s_dropX (x_call h tk 0 (by decide) (d_cons (d_call h 4 (by decide) (d_cons (pv 1) (d_nil))) (d_cons (d_int) (d_nil))))) (s_cons (s_ret (d_call h 13 (by decide) (d_cons (pv 0) (d_cons (pv 1) (d_nil))))) (s_nil)))
theorem ok14 {fd : FuncData} (F : Fun K "band" "band" st14 (fa 14) fd) (T : Tbl P w K mg base (k + 2) fa (spC K fa C (callF prog k)) tb nm pn) (re : ErrOk P w K mg base C) (bt : Bt mg) (hc : Cst mg) : FnOk P w K mg base (L2.CX P w) (k + 3) (fa 14) fd ps14 (spC K fa C (callF prog (k + 1)) 14) :=
  F.okX sc14 (fun vs H Q E z => len_ok (q := ⟨2, 2, b14⟩) rfl z) fun cdv A outer s H vs Q E hr z => ⟨_, der14 ⟨rfl, hr, sc14.nd, T, bt⟩ re (takes_of rfl rfl rfl rfl) (passes_of rfl) hc, body_ok (q := ⟨2, 2, b14⟩) rfl rfl re.te (fun _ _ _ _ => prog_tb) z⟩
theorem sc15 : FnScope N15 ps15 (defScope st15) := ⟨rfl, rfl, rfl, by decide +kernel, rfl, by decide +kernel, by decide +kernel⟩
theorem der15 {sp : Nat → Sp} {f : Addr} {cdv : Value} {A : Around} {outer : List Env} {s : Shared} {H : Hp} {E : XK} (h : Okx (cxOf (L2.CX P w) P w K mg base N15 "_law_so" (defScope st15) f cdv A outer s H E) (k + 2) fa sp tb nm pn) (re : ErrOk P w K mg base C) (tk : Takes (cxOf (L2.CX P w) P w K mg base N15 "_law_so" (defScope st15) f cdv A outer s H E) (fun cls d _ H => E cls d H)) (hp : PassesOwn (model (cxOf (L2.CX P w) P w K mg base N15 "_law_so" (defScope st15) f cdv A outer s H E).prog (cxOf (L2.CX P w) P w K mg base N15 "_law_so" (defScope st15) f cdv A outer s H E).w) (cxOf (L2.CX P w) P w K mg base N15 "_law_so" (defScope st15) f cdv A outer s H E).A (cxOf (L2.CX P w) P w K mg base N15 "_law_so" (defScope st15) f cdv A outer s H E).env (cxOf (L2.CX P w) P w K mg base N15 "_law_so" (defScope st15) f cdv A outer s H E).xe) (hc : Cst mg) :
    PSs (cxOf (L2.CX P w) P w K mg base N15 "_law_so" (defScope st15) f cdv A outer s H E) (defBody st15) (tSs K fa sp tb C (fun cls d _ H => E cls d H) b15) :=
  s_cons (s_if (d_tisN (pv 1)) (s_cons (s_ret (d_isN (pv 0))) (s_nil)) (s_nil)) (s_cons (s_if (d_val (d_isi1 h (pv 1) h.bt.tuple (by decide +kernel))) (s_cons (s_if (d_w (d_wor (d_tnot (d_val (d_isi1 h (pv 0) h.bt.tuple (by decide +kernel)))) (d_wor1 (d_tcmp h .ne (d_len h (d_cons (pv 0) (d_nil))) (d_len h (d_cons (pv 1) (d_nil))))))) (s_cons (s_ret (d_bl)) (s_nil)) (s_nil)) (s_cons (s_for h hp (d_r1 h (d_len h (d_cons (pv 1) (d_nil)))) (d_gn h) (s_cons (s_if (d_tnot (d_val (d_call h 15 (by decide) (d_cons (d_ix (pv 0) (pv 2)) (d_cons (d_ix (pv 1) (pv 2)) (d_nil)))))) (s_cons (s_ret (d_bl)) (s_nil)) (s_nil)) (s_nil))) (s_cons (s_ret (d_bl)) (s_nil)))) (s_nil)) (s_cons (s_if (d_w (d_wor (d_val (d_isi1 h (pv 1) h.bt.bool (by decide +kernel))) (d_wor1 (d_val (d_isi1 h (pv 0) h.bt.bool (by decide +kernel)))))) (s_cons (s_ret (d_and (d_isi1 h (pv 1) h.bt.bool (by decide +kernel)) (d_and (d_isi1 h (pv 0) h.bt.bool (by decide +kernel)) (d_one (d_cmp h .eq (pv 0) (pv 1)))))) (s_nil)) (s_nil)) (s_cons (s_if (d_val (d_isi1 h (pv 1) h.bt.int (by decide +kernel))) (s_cons (s_ret (d_and (d_isi1 h (pv 0) h.bt.int (by decide +kernel)) (d_one (d_cmp h .eq (pv 0) (pv 1))))) (s_nil)) (s_nil)) (s_cons (s_ret (d_and (d_isi1 h (pv 1) h.bt.str (by decide +kernel)) (d_and (d_isi1 h (pv 0) h.bt.str (by decide +kernel)) (d_one (d_cmp h .eq (pv 0) (pv 1)))))) (s_nil)))))
theorem ok15 {fd : FuncData} (F : Fun K "_law_so" "_law_so" st15 (fa 15) fd) (T : Tbl P w K mg base (k + 2) fa (spC K fa C (callF prog k)) tb nm pn) (re : ErrOk P w K mg base C) (bt : Bt mg) (hc : Cst mg) : FnOk P w K mg base (L2.CX P w) (k + 3) (fa 15) fd ps15 (spC K fa C (callF prog (k + 1)) 15) :=
  F.okX sc15 (fun vs H Q E z => len_ok (q := ⟨2, 3, b15⟩) rfl z) fun cdv A outer s H vs Q E hr z => ⟨_, der15 ⟨rfl, hr, sc15.nd, T, bt⟩ re (takes_of rfl rfl rfl rfl) (passes_of rfl) hc, body_ok (q := ⟨2, 3, b15⟩) rfl rfl re.te (fun _ _ _ _ => prog_tb) z⟩
theorem sc16 : FnScope N16 ps16 (defScope st16) := ⟨rfl, rfl, rfl, by decide +kernel, rfl, by decide +kernel, by decide +kernel⟩
theorem der16 {sp : Nat → Sp} {f : Addr} {cdv : Value} {A : Around} {outer : List Env} {s : Shared} {H : Hp} {E : XK} (h : Okx (cxOf (L2.CX P w) P w K mg base N16 "_law_numbers" (defScope st16) f cdv A outer s H E) (k + 2) fa sp tb nm pn) (re : ErrOk P w K mg base C) (tk : Takes (cxOf (L2.CX P w) P w K mg base N16 "_law_numbers" (defScope st16) f cdv A outer s H E) (fun cls d _ H => E cls d H)) (hp : PassesOwn (model (cxOf (L2.CX P w) P w K mg base N16 "_law_numbers" (defScope st16) f cdv A outer s H E).prog (cxOf (L2.CX P w) P w K mg base N16 "_law_numbers" (defScope st16) f cdv A outer s H E).w) (cxOf (L2.CX P w) P w K mg base N16 "_law_numbers" (defScope st16) f cdv A outer s H E).A (cxOf (L2.CX P w) P w K mg base N16 "_law_numbers" (defScope st16) f cdv A outer s H E).env (cxOf (L2.CX P w) P w K mg base N16 "_law_numbers" (defScope st16) f cdv A outer s H E).xe) (hc : Cst mg) :
    PSs (cxOf (L2.CX P w) P w K mg base N16 "_law_numbers" (defScope st16) f cdv A outer s H E) (defBody st16) (tSs K fa sp tb C (fun cls d _ H => E cls d H) b16) :=
  s_cons (s_newL h (d_nil)) (s_cons (s_for h hp (d_seq (d_sl (pv 0) (d_on) (d_os (d_int)))) (d_gn h) (s_cons (s_if (d_tcmp h .ge (pv 2) (d_pow (d_int) (d_int))) (s_cons (s_set h (pv 2)) (s_cons (s_for h hp (d_r1 h (d_int)) (d_gn h) (s_cons (s_if (d_tcmp h .eq (pv 3) (d_int)) (s_cons (s_brk) (s_nil)) (s_nil)) (s_cons (s_app (d_mod (d_intf h (d_cons (pv 3) (d_nil))) (d_int))) (s_cons (s_set h (d_div (pv 3) (d_int))) (s_nil))))) (s_nil))) (s_cons (s_for h hp (d_r1 h (d_int)) (d_gn h) (s_cons (s_set h (d_mod (d_intf h (d_cons (d_add (d_add (d_mul (pv 2) (d_int)) (d_mul (pv 4) (d_int))) (d_int)) (d_nil))) (d_int))) (s_cons (s_app (d_mod (d_intf h (d_cons (d_add (d_mul (pv 5) (d_int)) (pv 4)) (d_nil))) (d_int))) (s_nil)))) (s_nil))) (s_nil))) (s_cons (s_if (d_tcmp h .eq (d_len h (d_cons (pv 1) (d_nil))) (d_int)) (s_cons (s_app (d_int)) (s_nil)) (s_nil)) (s_cons (s_ret (pv 1)) (s_nil))))
theorem ok16 {fd : FuncData} (F : Fun K "_law_numbers" "_law_numbers" st16 (fa 16) fd) (T : Tbl P w K mg base (k + 2) fa (spC K fa C (callF prog k)) tb nm pn) (re : ErrOk P w K mg base C) (bt : Bt mg) (hc : Cst mg) : FnOk P w K mg base (L2.CX P w) (k + 3) (fa 16) fd ps16 (spC K fa C (callF prog (k + 1)) 16) :=
  F.okX sc16 (fun vs H Q E z => len_ok (q := ⟨1, 6, b16⟩) rfl z) fun cdv A outer s H vs Q E hr z => ⟨_, der16 ⟨rfl, hr, sc16.nd, T, bt⟩ re (takes_of rfl rfl rfl rfl) (passes_of rfl) hc, body_ok (q := ⟨1, 6, b16⟩) rfl rfl re.te (fun _ _ _ _ => prog_tb) z⟩
theorem sc17 : FnScope N17 ps17 (defScope st17) := ⟨rfl, rfl, rfl, by decide +kernel, rfl, by decide +kernel, by decide +kernel⟩
theorem der17 {sp : Nat → Sp} {f : Addr} {cdv : Value} {A : Around} {outer : List Env} {s : Shared} {H : Hp} {E : XK} (h : Okx (cxOf (L2.CX P w) P w K mg base N17 "_law_draw" (defScope st17) f cdv A outer s H E) (k + 2) fa sp tb nm pn) (re : ErrOk P w K mg base C) (tk : Takes (cxOf (L2.CX P w) P w K mg base N17 "_law_draw" (defScope st17) f cdv A outer s H E) (fun cls d _ H => E cls d H)) (hp : PassesOwn (model (cxOf (L2.CX P w) P w K mg base N17 "_law_draw" (defScope st17) f cdv A outer s H E).prog (cxOf (L2.CX P w) P w K mg base N17 "_law_draw" (defScope st17) f cdv A outer s H E).w) (cxOf (L2.CX P w) P w K mg base N17 "_law_draw" (defScope st17) f cdv A outer s H E).A (cxOf (L2.CX P w) P w K mg base N17 "_law_draw" (defScope st17) f cdv A outer s H E).env (cxOf (L2.CX P w) P w K mg base N17 "_law_draw" (defScope st17) f cdv A outer s H E).xe) (hc : Cst mg) :
    PSs (cxOf (L2.CX P w) P w K mg base N17 "_law_draw" (defScope st17) f cdv A outer s H E) (defBody st17) (tSs K fa sp tb C (fun cls d _ H => E cls d H) b17) :=
  s_cons (s_if (d_tcmp h .lt (pv 1) (d_len h (d_cons (pv 0) (d_nil)))) (s_cons (s_ret (d_mod (d_intf h (d_cons (d_ix (pv 0) (pv 1)) (d_nil))) (pv 2))) (s_nil)) (s_nil)) (s_cons (s_set h (d_mod (d_intf h (d_cons (d_add (d_add (d_mul (d_ix (pv 0) (d_mod (d_intf h (d_cons (pv 1) (d_nil))) (d_len h (d_cons (pv 0) (d_nil))))) (d_int)) (d_mul (pv 1) (d_int))) (d_int)) (d_nil))) (d_int))) (s_cons (s_ret (d_mod (d_intf h (d_cons (d_mod (d_intf h (d_cons (d_add (d_mul (pv 3) (d_int)) (pv 1)) (d_nil))) (d_int)) (d_nil))) (pv 2))) (s_nil)))
theorem ok17 {fd : FuncData} (F : Fun K "_law_draw" "_law_draw" st17 (fa 17) fd) (T : Tbl P w K mg base (k + 2) fa (spC K fa C (callF prog k)) tb nm pn) (re : ErrOk P w K mg base C) (bt : Bt mg) (hc : Cst mg) : FnOk P w K mg base (L2.CX P w) (k + 3) (fa 17) fd ps17 (spC K fa C (callF prog (k + 1)) 17) :=
  F.okX sc17 (fun vs H Q E z => len_ok (q := ⟨3, 4, b17⟩) rfl z) fun cdv A outer s H vs Q E hr z => ⟨_, der17 ⟨rfl, hr, sc17.nd, T, bt⟩ re (takes_of rfl rfl rfl rfl) (passes_of rfl) hc, body_ok (q := ⟨3, 4, b17⟩) rfl rfl re.te (fun _ _ _ _ => prog_tb) z⟩
theorem sc18 : FnScope N18 ps18 (defScope st18) := ⟨rfl, rfl, rfl, by decide +kernel, rfl, by decide +kernel, by decide +kernel⟩
theorem der18 {sp : Nat → Sp} {f : Addr} {cdv : Value} {A : Around} {outer : List Env} {s : Shared} {H : Hp} {E : XK} (h : Okx (cxOf (L2.CX P w) P w K mg base N18 "_law_take" (defScope st18) f cdv A outer s H E) (k + 2) fa sp tb nm pn) (re : ErrOk P w K mg base C) (tk : Takes (cxOf (L2.CX P w) P w K mg base N18 "_law_take" (defScope st18) f cdv A outer s H E) (fun cls d _ H => E cls d H)) (hp : PassesOwn (model (cxOf (L2.CX P w) P w K mg base N18 "_law_take" (defScope st18) f cdv A outer s H E).prog (cxOf (L2.CX P w) P w K mg base N18 "_law_take" (defScope st18) f cdv A outer s H E).w) (cxOf (L2.CX P w) P w K mg base N18 "_law_take" (defScope st18) f cdv A outer s H E).A (cxOf (L2.CX P w) P w K mg base N18 "_law_take" (defScope st18) f cdv A outer s H E).env (cxOf (L2.CX P w) P w K mg base N18 "_law_take" (defScope st18) f cdv A outer s H E).xe) (hc : Cst mg) :
    PSs (cxOf (L2.CX P w) P w K mg base N18 "_law_take" (defScope st18) f cdv A outer s H E) (defBody st18) (tSs K fa sp tb C (fun cls d _ H => E cls d H) b18) :=
  s_cons (s_setL (d_int) (d_add (d_ix (pv 1) (d_int)) (d_int))) (s_cons (s_ret (d_call h 17 (by decide) (d_cons (pv 0) (d_cons (d_sub (d_ix (pv 1) (d_int)) (d_int)) (d_cons (pv 2) (d_nil)))))) (s_nil))
theorem ok18 {fd : FuncData} (F : Fun K "_law_take" "_law_take" st18 (fa 18) fd) (T : Tbl P w K mg base (k + 2) fa (spC K fa C (callF prog k)) tb nm pn) (re : ErrOk P w K mg base C) (bt : Bt mg) (hc : Cst mg) : FnOk P w K mg base (L2.CX P w) (k + 3) (fa 18) fd ps18 (spC K fa C (callF prog (k + 1)) 18) :=
  F.okX sc18 (fun vs H Q E z => len_ok (q := ⟨3, 3, b18⟩) rfl z) fun cdv A outer s H vs Q E hr z => ⟨_, der18 ⟨rfl, hr, sc18.nd, T, bt⟩ re (takes_of rfl rfl rfl rfl) (passes_of rfl) hc, body_ok (q := ⟨3, 3, b18⟩) rfl rfl re.te (fun _ _ _ _ => prog_tb) z⟩
theorem sc19 : FnScope N19 ps19 (defScope st19) := ⟨rfl, rfl, rfl, by decide +kernel, rfl, by decide +kernel, by decide +kernel⟩
theorem der19 {sp : Nat → Sp} {f : Addr} {cdv : Value} {A : Around} {outer : List Env} {s : Shared} {H : Hp} {E : XK} (h : Okx (cxOf (L2.CX P w) P w K mg base N19 "_law_wide" (defScope st19) f cdv A outer s H E) (k + 2) fa sp tb nm pn) (re : ErrOk P w K mg base C) (tk : Takes (cxOf (L2.CX P w) P w K mg base N19 "_law_wide" (defScope st19) f cdv A outer s H E) (fun cls d _ H => E cls d H)) (hp : PassesOwn (model (cxOf (L2.CX P w) P w K mg base N19 "_law_wide" (defScope st19) f cdv A outer s H E).prog (cxOf (L2.CX P w) P w K mg base N19 "_law_wide" (defScope st19) f cdv A outer s H E).w) (cxOf (L2.CX P w) P w K mg base N19 "_law_wide" (defScope st19) f cdv A outer s H E).A (cxOf (L2.CX P w) P w K mg base N19 "_law_wide" (defScope st19) f cdv A outer s H E).env (cxOf (L2.CX P w) P w K mg base N19 "_law_wide" (defScope st19) f cdv A outer s H E).xe) (hc : Cst mg) :
    PSs (cxOf (L2.CX P w) P w K mg base N19 "_law_wide" (defScope st19) f cdv A outer s H E) (defBody st19) (tSs K fa sp tb C (fun cls d _ H => E cls d H) b19) :=
  s_cons (s_set h (d_call h 18 (by decide) (d_cons (pv 0) (d_cons (pv 1) (d_cons (d_int) (d_nil)))))) (s_cons (s_set h (d_call h 18 (by decide) (d_cons (pv 0) (d_cons (pv 1) (d_cons (d_int) (d_nil)))))) (s_cons (s_set h (d_call h 18 (by decide) (d_cons (pv 0) (d_cons (pv 1) (d_cons (d_int) (d_nil)))))) (s_cons (s_ret (d_mod (d_intf h (d_cons (d_add (d_add (d_mul (pv 3) (d_int)) (d_mul (pv 4) (d_int))) (pv 5)) (d_nil))) (pv 2))) (s_nil))))
theorem ok19 {fd : FuncData} (F : Fun K "_law_wide" "_law_wide" st19 (fa 19) fd) (T : Tbl P w K mg base (k + 2) fa (spC K fa C (callF prog k)) tb nm pn) (re : ErrOk P w K mg base C) (bt : Bt mg) (hc : Cst mg) : FnOk P w K mg base (L2.CX P w) (k + 3) (fa 19) fd ps19 (spC K fa C (callF prog (k + 1)) 19) :=
  F.okX sc19 (fun vs H Q E z => len_ok (q := ⟨3, 6, b19⟩) rfl z) fun cdv A outer s H vs Q E hr z => ⟨_, der19 ⟨rfl, hr, sc19.nd, T, bt⟩ re (takes_of rfl rfl rfl rfl) (passes_of rfl) hc, body_ok (q := ⟨3, 6, b19⟩) rfl rfl re.te (fun _ _ _ _ => prog_tb) z⟩
theorem sc20 : FnScope N20 ps20 (defScope st20) := ⟨rfl, rfl, rfl, by decide +kernel, rfl, by decide +kernel, by decide +kernel⟩
theorem der20 {sp : Nat → Sp} {f : Addr} {cdv : Value} {A : Around} {outer : List Env} {s : Shared} {H : Hp} {E : XK} (h : Okx (cxOf (L2.CX P w) P w K mg base N20 "_law_whole" (defScope st20) f cdv A outer s H E) (k + 2) fa sp tb nm pn) (re : ErrOk P w K mg base C) (tk : Takes (cxOf (L2.CX P w) P w K mg base N20 "_law_whole" (defScope st20) f cdv A outer s H E) (fun cls d _ H => E cls d H)) (hp : PassesOwn (model (cxOf (L2.CX P w) P w K mg base N20 "_law_whole" (defScope st20) f cdv A outer s H E).prog (cxOf (L2.CX P w) P w K mg base N20 "_law_whole" (defScope st20) f cdv A outer s H E).w) (cxOf (L2.CX P w) P w K mg base N20 "_law_whole" (defScope st20) f cdv A outer s H E).A (cxOf (L2.CX P w) P w K mg base N20 "_law_whole" (defScope st20) f cdv A outer s H E).env (cxOf (L2.CX P w) P w K mg base N20 "_law_whole" (defScope st20) f cdv A outer s H E).xe) (hc : Cst mg) :
    PSs (cxOf (L2.CX P w) P w K mg base N20 "_law_whole" (defScope st20) f cdv A outer s H E) (defBody st20) (tSs K fa sp tb C (fun cls d _ H => E cls d H) b20) :=
  s_cons (s_ret (d_and (d_isi1 h (pv 0) h.bt.int (by decide +kernel)) (d_one (d_not (d_isi1 h (pv 0) h.bt.bool (by decide +kernel)))))) (s_nil)
theorem ok20 {fd : FuncData} (F : Fun K "_law_whole" "_law_whole" st20 (fa 20) fd) (T : Tbl P w K mg base (k + 2) fa (spC K fa C (callF prog k)) tb nm pn) (re : ErrOk P w K mg base C) (bt : Bt mg) (hc : Cst mg) : FnOk P w K mg base (L2.CX P w) (k + 3) (fa 20) fd ps20 (spC K fa C (callF prog (k + 1)) 20) :=
  F.okX sc20 (fun vs H Q E z => len_ok (q := ⟨1, 1, b20⟩) rfl z) fun cdv A outer s H vs Q E hr z => ⟨_, der20 ⟨rfl, hr, sc20.nd, T, bt⟩ re (takes_of rfl rfl rfl rfl) (passes_of rfl) hc, body_ok (q := ⟨1, 1, b20⟩) rfl rfl re.te (fun _ _ _ _ => prog_tb) z⟩
theorem sc21 : FnScope N21 ps21 (defScope st21) := ⟨rfl, rfl, rfl, by decide +kernel, rfl, by decide +kernel, by decide +kernel⟩
theorem der21 {sp : Nat → Sp} {f : Addr} {cdv : Value} {A : Around} {outer : List Env} {s : Shared} {H : Hp} {E : XK} (h : Okx (cxOf (L2.CX P w) P w K mg base N21 "_law_listed" (defScope st21) f cdv A outer s H E) (k + 2) fa sp tb nm pn) (re : ErrOk P w K mg base C) (tk : Takes (cxOf (L2.CX P w) P w K mg base N21 "_law_listed" (defScope st21) f cdv A outer s H E) (fun cls d _ H => E cls d H)) (hp : PassesOwn (model (cxOf (L2.CX P w) P w K mg base N21 "_law_listed" (defScope st21) f cdv A outer s H E).prog (cxOf (L2.CX P w) P w K mg base N21 "_law_listed" (defScope st21) f cdv A outer s H E).w) (cxOf (L2.CX P w) P w K mg base N21 "_law_listed" (defScope st21) f cdv A outer s H E).A (cxOf (L2.CX P w) P w K mg base N21 "_law_listed" (defScope st21) f cdv A outer s H E).env (cxOf (L2.CX P w) P w K mg base N21 "_law_listed" (defScope st21) f cdv A outer s H E).xe) (hc : Cst mg) :
    PSs (cxOf (L2.CX P w) P w K mg base N21 "_law_listed" (defScope st21) f cdv A outer s H E) (defBody st21) (tSs K fa sp tb C (fun cls d _ H => E cls d H) b21) :=
  s_cons (s_if (d_val (d_isi1 h (pv 0) h.bt.tuple (by decide +kernel))) (s_cons (s_ret (d_comp h [("one", 1)] (d_seq (pv 0)) (blkOk_by (N := N21) (sc := defScope st21) (by decide +kernel)) (fun _ _ _ _ _ => d_gn h.blk) (fun _ _ _ _ _ => d_tn) (fun _ _ _ _ _ => d_call h.blk 21 (by decide) (d_cons (pv 1) (d_nil))))) (s_nil)) (s_nil)) (s_cons (s_ret (pv 0)) (s_nil))
theorem ok21 {fd : FuncData} (F : Fun K "_law_listed" "_law_listed" st21 (fa 21) fd) (T : Tbl P w K mg base (k + 2) fa (spC K fa C (callF prog k)) tb nm pn) (re : ErrOk P w K mg base C) (bt : Bt mg) (hc : Cst mg) : FnOk P w K mg base (L2.CX P w) (k + 3) (fa 21) fd ps21 (spC K fa C (callF prog (k + 1)) 21) :=
  F.okX sc21 (fun vs H Q E z => len_ok (q := ⟨1, 2, b21⟩) rfl z) fun cdv A outer s H vs Q E hr z => ⟨_, der21 ⟨rfl, hr, sc21.nd, T, bt⟩ re (takes_of rfl rfl rfl rfl) (passes_of rfl) hc, body_ok (q := ⟨1, 2, b21⟩) rfl rfl re.te (fun _ _ _ _ => prog_tb) z⟩
theorem sc22 : FnScope N22 ps22 (defScope st22) := ⟨rfl, rfl, rfl, by decide +kernel, rfl, by decide +kernel, by decide +kernel⟩
theorem der22 {sp : Nat → Sp} {f : Addr} {cdv : Value} {A : Around} {outer : List Env} {s : Shared} {H : Hp} {E : XK} (h : Okx (cxOf (L2.CX P w) P w K mg base N22 "_law_either" (defScope st22) f cdv A outer s H E) (k + 2) fa sp tb nm pn) (re : ErrOk P w K mg base C) (tk : Takes (cxOf (L2.CX P w) P w K mg base N22 "_law_either" (defScope st22) f cdv A outer s H E) (fun cls d _ H => E cls d H)) (hp : PassesOwn (model (cxOf (L2.CX P w) P w K mg base N22 "_law_either" (defScope st22) f cdv A outer s H E).prog (cxOf (L2.CX P w) P w K mg base N22 "_law_either" (defScope st22) f cdv A outer s H E).w) (cxOf (L2.CX P w) P w K mg base N22 "_law_either" (defScope st22) f cdv A outer s H E).A (cxOf (L2.CX P w) P w K mg base N22 "_law_either" (defScope st22) f cdv A outer s H E).env (cxOf (L2.CX P w) P w K mg base N22 "_law_either" (defScope st22) f cdv A outer s H E).xe) (hc : Cst mg) :
    PSs (cxOf (L2.CX P w) P w K mg base N22 "_law_either" (defScope st22) f cdv A outer s H E) (defBody st22) (tSs K fa sp tb C (fun cls d _ H => E cls d H) b22) :=
  s_cons (s_if (d_val (d_isi1 h (pv 2) h.bt.tuple (by decide +kernel))) (s_cons (s_setLc h [("one", 4)] (d_seq (pv 2)) (blkOk_by (N := N22) (sc := defScope st22) (by decide +kernel)) (fun _ _ _ _ _ => d_gn h.blk) (fun _ _ _ _ _ => d_tn) (fun _ _ _ _ _ => d_call h.blk 22 (by decide) (d_cons (pv 0) (d_cons (pv 1) (d_cons (pv 4) (d_nil))))) (sw_true rfl rfl rfl (by decide +kernel))) (s_cons (s_ret (d_ite (d_tcmp h .eq (d_call h 18 (by decide) (d_cons (pv 0) (d_cons (pv 1) (d_cons (d_int) (d_nil))))) (d_int)) (pv 3) (d_tuplef h (d_cons (pv 3) (d_nil))))) (s_nil))) (s_nil)) (s_cons (s_ret (pv 2)) (s_nil))
theorem ok22 {fd : FuncData} (F : Fun K "_law_either" "_law_either" st22 (fa 22) fd) (T : Tbl P w K mg base (k + 2) fa (spC K fa C (callF prog k)) tb nm pn) (re : ErrOk P w K mg base C) (bt : Bt mg) (hc : Cst mg) : FnOk P w K mg base (L2.CX P w) (k + 3) (fa 22) fd ps22 (spC K fa C (callF prog (k + 1)) 22) :=
  F.okX sc22 (fun vs H Q E z => len_ok (q := ⟨3, 5, b22⟩) rfl z) fun cdv A outer s H vs Q E hr z => ⟨_, der22 ⟨rfl, hr, sc22.nd, T, bt⟩ re (takes_of rfl rfl rfl rfl) (passes_of rfl) hc, body_ok (q := ⟨3, 5, b22⟩) rfl rfl re.te (fun _ _ _ _ => prog_tb) z⟩
theorem sc23 : FnScope N23 ps23 (defScope st23) := ⟨rfl, rfl, rfl, by decide +kernel, rfl, by decide +kernel, by decide +kernel⟩
theorem der23 {sp : Nat → Sp} {f : Addr} {cdv : Value} {A : Around} {outer : List Env} {s : Shared} {H : Hp} {E : XK} (h : Okx (cxOf (L2.CX P w) P w K mg base N23 "_law_handed" (defScope st23) f cdv A outer s H E) (k + 2) fa sp tb nm pn) (re : ErrOk P w K mg base C) (tk : Takes (cxOf (L2.CX P w) P w K mg base N23 "_law_handed" (defScope st23) f cdv A outer s H E) (fun cls d _ H => E cls d H)) (hp : PassesOwn (model (cxOf (L2.CX P w) P w K mg base N23 "_law_handed" (defScope st23) f cdv A outer s H E).prog (cxOf (L2.CX P w) P w K mg base N23 "_law_handed" (defScope st23) f cdv A outer s H E).w) (cxOf (L2.CX P w) P w K mg base N23 "_law_handed" (defScope st23) f cdv A outer s H E).A (cxOf (L2.CX P w) P w K mg base N23 "_law_handed" (defScope st23) f cdv A outer s H E).env (cxOf (L2.CX P w) P w K mg base N23 "_law_handed" (defScope st23) f cdv A outer s H E).xe) (hc : Cst mg) :
    PSs (cxOf (L2.CX P w) P w K mg base N23 "_law_handed" (defScope st23) f cdv A outer s H E) (defBody st23) (tSs K fa sp tb C (fun cls d _ H => E cls d H) b23) :=
  s_cons (s_set h (d_call h 18 (by decide) (d_cons (pv 0) (d_cons (pv 1) (d_cons (d_int) (d_nil)))))) (s_cons (s_if (d_tcmp h .eq (pv 3) (d_int)) (s_cons (s_ret (d_call h 22 (by decide) (d_cons (pv 0) (d_cons (pv 1) (d_cons (pv 2) (d_nil)))))) (s_nil)) (s_nil)) (s_cons (s_ret (d_ite (d_tcmp h .eq (pv 3) (d_int)) (d_call h 21 (by decide) (d_cons (pv 2) (d_nil))) (pv 2))) (s_nil)))
theorem ok23 {fd : FuncData} (F : Fun K "_law_handed" "_law_handed" st23 (fa 23) fd) (T : Tbl P w K mg base (k + 2) fa (spC K fa C (callF prog k)) tb nm pn) (re : ErrOk P w K mg base C) (bt : Bt mg) (hc : Cst mg) : FnOk P w K mg base (L2.CX P w) (k + 3) (fa 23) fd ps23 (spC K fa C (callF prog (k + 1)) 23) :=
  F.okX sc23 (fun vs H Q E z => len_ok (q := ⟨3, 4, b23⟩) rfl z) fun cdv A outer s H vs Q E hr z => ⟨_, der23 ⟨rfl, hr, sc23.nd, T, bt⟩ re (takes_of rfl rfl rfl rfl) (passes_of rfl) hc, body_ok (q := ⟨3, 4, b23⟩) rfl rfl re.te (fun _ _ _ _ => prog_tb) z⟩
theorem sc24 : FnScope N24 ps24 (defScope st24) := ⟨rfl, rfl, rfl, by decide +kernel, rfl, by decide +kernel, by decide +kernel⟩
theorem der24 {sp : Nat → Sp} {f : Addr} {cdv : Value} {A : Around} {outer : List Env} {s : Shared} {H : Hp} {E : XK} (h : Okx (cxOf (L2.CX P w) P w K mg base N24 "_law_pick" (defScope st24) f cdv A outer s H E) (k + 2) fa sp tb nm pn) (re : ErrOk P w K mg base C) (tk : Takes (cxOf (L2.CX P w) P w K mg base N24 "_law_pick" (defScope st24) f cdv A outer s H E) (fun cls d _ H => E cls d H)) (hp : PassesOwn (model (cxOf (L2.CX P w) P w K mg base N24 "_law_pick" (defScope st24) f cdv A outer s H E).prog (cxOf (L2.CX P w) P w K mg base N24 "_law_pick" (defScope st24) f cdv A outer s H E).w) (cxOf (L2.CX P w) P w K mg base N24 "_law_pick" (defScope st24) f cdv A outer s H E).A (cxOf (L2.CX P w) P w K mg base N24 "_law_pick" (defScope st24) f cdv A outer s H E).env (cxOf (L2.CX P w) P w K mg base N24 "_law_pick" (defScope st24) f cdv A outer s H E).xe) (hc : Cst mg) :
    PSs (cxOf (L2.CX P w) P w K mg base N24 "_law_pick" (defScope st24) f cdv A outer s H E) (defBody st24) (tSs K fa sp tb C (fun cls d _ H => E cls d H) b24) :=
  s_cons (s_ret (d_ix (pv 2) (d_call h 18 (by decide) (d_cons (pv 0) (d_cons (pv 1) (d_cons (d_len h (d_cons (pv 2) (d_nil))) (d_nil))))))) (s_nil)
theorem ok24 {fd : FuncData} (F : Fun K "_law_pick" "_law_pick" st24 (fa 24) fd) (T : Tbl P w K mg base (k + 2) fa (spC K fa C (callF prog k)) tb nm pn) (re : ErrOk P w K mg base C) (bt : Bt mg) (hc : Cst mg) : FnOk P w K mg base (L2.CX P w) (k + 3) (fa 24) fd ps24 (spC K fa C (callF prog (k + 1)) 24) :=
  F.okX sc24 (fun vs H Q E z => len_ok (q := ⟨3, 3, b24⟩) rfl z) fun cdv A outer s H vs Q E hr z => ⟨_, der24 ⟨rfl, hr, sc24.nd, T, bt⟩ re (takes_of rfl rfl rfl rfl) (passes_of rfl) hc, body_ok (q := ⟨3, 3, b24⟩) rfl rfl re.te (fun _ _ _ _ => prog_tb) z⟩
theorem sc25 : FnScope N25 ps25 (defScope st25) := ⟨rfl, rfl, rfl, by decide +kernel, rfl, by decide +kernel, by decide +kernel⟩
theorem der25 {sp : Nat → Sp} {f : Addr} {cdv : Value} {A : Around} {outer : List Env} {s : Shared} {H : Hp} {E : XK} (h : Okx (cxOf (L2.CX P w) P w K mg base N25 "_law_between" (defScope st25) f cdv A outer s H E) (k + 2) fa sp tb nm pn) (re : ErrOk P w K mg base C) (tk : Takes (cxOf (L2.CX P w) P w K mg base N25 "_law_between" (defScope st25) f cdv A outer s H E) (fun cls d _ H => E cls d H)) (hp : PassesOwn (model (cxOf (L2.CX P w) P w K mg base N25 "_law_between" (defScope st25) f cdv A outer s H E).prog (cxOf (L2.CX P w) P w K mg base N25 "_law_between" (defScope st25) f cdv A outer s H E).w) (cxOf (L2.CX P w) P w K mg base N25 "_law_between" (defScope st25) f cdv A outer s H E).A (cxOf (L2.CX P w) P w K mg base N25 "_law_between" (defScope st25) f cdv A outer s H E).env (cxOf (L2.CX P w) P w K mg base N25 "_law_between" (defScope st25) f cdv A outer s H E).xe) (hc : Cst mg) :
    PSs (cxOf (L2.CX P w) P w K mg base N25 "_law_between" (defScope st25) f cdv A outer s H E) (defBody st25) (tSs K fa sp tb C (fun cls d _ H => E cls d H) b25) :=
  s_cons (s_ret (d_and (d_call h 20 (by decide) (d_cons (pv 0) (d_nil))) (d_one (d_chain h .le .le (pv 1) (pv 0) (pv 2))))) (s_nil)
theorem ok25 {fd : FuncData} (F : Fun K "_law_between" "_law_between" st25 (fa 25) fd) (T : Tbl P w K mg base (k + 2) fa (spC K fa C (callF prog k)) tb nm pn) (re : ErrOk P w K mg base C) (bt : Bt mg) (hc : Cst mg) : FnOk P w K mg base (L2.CX P w) (k + 3) (fa 25) fd ps25 (spC K fa C (callF prog (k + 1)) 25) :=
  F.okX sc25 (fun vs H Q E z => len_ok (q := ⟨3, 3, b25⟩) rfl z) fun cdv A outer s H vs Q E hr z => ⟨_, der25 ⟨rfl, hr, sc25.nd, T, bt⟩ re (takes_of rfl rfl rfl rfl) (passes_of rfl) hc, body_ok (q := ⟨3, 3, b25⟩) rfl rfl re.te (fun _ _ _ _ => prog_tb) z⟩
theorem sc26 : FnScope N26 ps26 (defScope st26) := ⟨rfl, rfl, rfl, by decide +kernel, rfl, by decide +kernel, by decide +kernel⟩
theorem der26 {sp : Nat → Sp} {f : Addr} {cdv : Value} {A : Around} {outer : List Env} {s : Shared} {H : Hp} {E : XK} (h : Okx (cxOf (L2.CX P w) P w K mg base N26 "_law_is_word" (defScope st26) f cdv A outer s H E) (k + 2) fa sp tb nm pn) (re : ErrOk P w K mg base C) (tk : Takes (cxOf (L2.CX P w) P w K mg base N26 "_law_is_word" (defScope st26) f cdv A outer s H E) (fun cls d _ H => E cls d H)) (hp : PassesOwn (model (cxOf (L2.CX P w) P w K mg base N26 "_law_is_word" (defScope st26) f cdv A outer s H E).prog (cxOf (L2.CX P w) P w K mg base N26 "_law_is_word" (defScope st26) f cdv A outer s H E).w) (cxOf (L2.CX P w) P w K mg base N26 "_law_is_word" (defScope st26) f cdv A outer s H E).A (cxOf (L2.CX P w) P w K mg base N26 "_law_is_word" (defScope st26) f cdv A outer s H E).env (cxOf (L2.CX P w) P w K mg base N26 "_law_is_word" (defScope st26) f cdv A outer s H E).xe) (hc : Cst mg) :
    PSs (cxOf (L2.CX P w) P w K mg base N26 "_law_is_word" (defScope st26) f cdv A outer s H E) (defBody st26) (tSs K fa sp tb C (fun cls d _ H => E cls d H) b26) :=
  s_cons (s_if (d_w (d_wor (d_tnot (d_val (d_isi1 h (pv 0) h.bt.str (by decide +kernel)))) (d_wor1 (d_tnot (d_tchain h .le .le (d_int) (d_len h (d_cons (pv 0) (d_nil))) (d_int)))))) (s_cons (s_ret (d_bl)) (s_nil)) (s_nil)) (s_cons (s_ret (d_cmp h .eq (d_len h (d_cons (d_comp h [("one", 1)] (d_seq (pv 0)) (blkOk_by (N := N26) (sc := defScope st26) (by decide +kernel)) (fun _ _ _ _ _ => d_gn h.blk) (fun _ _ _ _ _ => d_ts (d_tcmp h.blk .nin (pv 1) (d_str))) (fun _ _ _ _ _ => pv 1)) (d_nil))) (d_int))) (s_nil))
theorem ok26 {fd : FuncData} (F : Fun K "_law_is_word" "_law_is_word" st26 (fa 26) fd) (T : Tbl P w K mg base (k + 2) fa (spC K fa C (callF prog k)) tb nm pn) (re : ErrOk P w K mg base C) (bt : Bt mg) (hc : Cst mg) : FnOk P w K mg base (L2.CX P w) (k + 3) (fa 26) fd ps26 (spC K fa C (callF prog (k + 1)) 26) :=
  F.okX sc26 (fun vs H Q E z => len_ok (q := ⟨1, 2, b26⟩) rfl z) fun cdv A outer s H vs Q E hr z => ⟨_, der26 ⟨rfl, hr, sc26.nd, T, bt⟩ re (takes_of rfl rfl rfl rfl) (passes_of rfl) hc, body_ok (q := ⟨1, 2, b26⟩) rfl rfl re.te (fun _ _ _ _ => prog_tb) z⟩
theorem sc27 : FnScope N27 ps27 (defScope st27) := ⟨rfl, rfl, rfl, by decide +kernel, rfl, by decide +kernel, by decide +kernel⟩
theorem der27 {sp : Nat → Sp} {f : Addr} {cdv : Value} {A : Around} {outer : List Env} {s : Shared} {H : Hp} {E : XK} (h : Okx (cxOf (L2.CX P w) P w K mg base N27 "_law_is_day" (defScope st27) f cdv A outer s H E) (k + 2) fa sp tb nm pn) (re : ErrOk P w K mg base C) (tk : Takes (cxOf (L2.CX P w) P w K mg base N27 "_law_is_day" (defScope st27) f cdv A outer s H E) (fun cls d _ H => E cls d H)) (hp : PassesOwn (model (cxOf (L2.CX P w) P w K mg base N27 "_law_is_day" (defScope st27) f cdv A outer s H E).prog (cxOf (L2.CX P w) P w K mg base N27 "_law_is_day" (defScope st27) f cdv A outer s H E).w) (cxOf (L2.CX P w) P w K mg base N27 "_law_is_day" (defScope st27) f cdv A outer s H E).A (cxOf (L2.CX P w) P w K mg base N27 "_law_is_day" (defScope st27) f cdv A outer s H E).env (cxOf (L2.CX P w) P w K mg base N27 "_law_is_day" (defScope st27) f cdv A outer s H E).xe) (hc : Cst mg) :
    PSs (cxOf (L2.CX P w) P w K mg base N27 "_law_is_day" (defScope st27) f cdv A outer s H E) (defBody st27) (tSs K fa sp tb C (fun cls d _ H => E cls d H) b27) :=
  s_cons (s_if (d_w (d_wor (d_tnot (d_val (d_isi1 h (pv 0) h.bt.tuple (by decide +kernel)))) (d_wor1 (d_tnot (d_tchain h .le .le (d_int) (d_len h (d_cons (pv 0) (d_nil))) (d_int)))))) (s_cons (s_ret (d_bl)) (s_nil)) (s_nil)) (s_cons (s_for h hp (d_r1 h (d_len h (d_cons (pv 0) (d_nil)))) (d_gn h) (s_cons (s_set h (d_ix (pv 0) (pv 1))) (s_cons (s_if (d_w (d_wor (d_tnot (d_val (d_isi1 h (pv 2) h.bt.tuple (by decide +kernel)))) (d_wor (d_tcmp h .ne (d_len h (d_cons (pv 2) (d_nil))) (d_int)) (d_wor (d_tnot (d_val (d_call h 25 (by decide) (d_cons (d_ix (pv 2) (d_int)) (d_cons (d_int) (d_cons (d_int) (d_nil))))))) (d_wor1 (d_tnot (d_val (d_call h 26 (by decide) (d_cons (d_ix (pv 2) (d_int)) (d_nil)))))))))) (s_cons (s_ret (d_bl)) (s_nil)) (s_nil)) (s_cons (s_if (d_w (d_wor (d_w (d_wand (d_tcmp h .eq (pv 1) (d_int)) (d_wand1 (d_tcmp h .ne (d_ix (pv 2) (d_int)) (d_int))))) (d_wor1 (d_w (d_wand (d_tcmp h .gt (pv 1) (d_int)) (d_wand1 (d_tcmp h .ge (d_ix (d_ix (pv 0) (d_sub (pv 1) (d_int))) (d_int)) (d_ix (pv 2) (d_int))))))))) (s_cons (s_ret (d_bl)) (s_nil)) (s_nil)) (s_nil))))) (s_cons (s_ret (d_bl)) (s_nil)))
theorem ok27 {fd : FuncData} (F : Fun K "_law_is_day" "_law_is_day" st27 (fa 27) fd) (T : Tbl P w K mg base (k + 2) fa (spC K fa C (callF prog k)) tb nm pn) (re : ErrOk P w K mg base C) (bt : Bt mg) (hc : Cst mg) : FnOk P w K mg base (L2.CX P w) (k + 3) (fa 27) fd ps27 (spC K fa C (callF prog (k + 1)) 27) :=
  F.okX sc27 (fun vs H Q E z => len_ok (q := ⟨1, 3, b27⟩) rfl z) fun cdv A outer s H vs Q E hr z => ⟨_, der27 ⟨rfl, hr, sc27.nd, T, bt⟩ re (takes_of rfl rfl rfl rfl) (passes_of rfl) hc, body_ok (q := ⟨1, 3, b27⟩) rfl rfl re.te (fun _ _ _ _ => prog_tb) z⟩
theorem sc28 : FnScope N28 ps28 (defScope st28) := ⟨rfl, rfl, rfl, by decide +kernel, rfl, by decide +kernel, by decide +kernel⟩
theorem der28 {sp : Nat → Sp} {f : Addr} {cdv : Value} {A : Around} {outer : List Env} {s : Shared} {H : Hp} {E : XK} (h : Okx (cxOf (L2.CX P w) P w K mg base N28 "_law_is_week" (defScope st28) f cdv A outer s H E) (k + 2) fa sp tb nm pn) (re : ErrOk P w K mg base C) (tk : Takes (cxOf (L2.CX P w) P w K mg base N28 "_law_is_week" (defScope st28) f cdv A outer s H E) (fun cls d _ H => E cls d H)) (hp : PassesOwn (model (cxOf (L2.CX P w) P w K mg base N28 "_law_is_week" (defScope st28) f cdv A outer s H E).prog (cxOf (L2.CX P w) P w K mg base N28 "_law_is_week" (defScope st28) f cdv A outer s H E).w) (cxOf (L2.CX P w) P w K mg base N28 "_law_is_week" (defScope st28) f cdv A outer s H E).A (cxOf (L2.CX P w) P w K mg base N28 "_law_is_week" (defScope st28) f cdv A outer s H E).env (cxOf (L2.CX P w) P w K mg base N28 "_law_is_week" (defScope st28) f cdv A outer s H E).xe) (hc : Cst mg) :
    PSs (cxOf (L2.CX P w) P w K mg base N28 "_law_is_week" (defScope st28) f cdv A outer s H E) (defBody st28) (tSs K fa sp tb C (fun cls d _ H => E cls d H) b28) :=
  s_cons (s_if (d_w (d_wor (d_tnot (d_val (d_isi1 h (pv 0) h.bt.tuple (by decide +kernel)))) (d_wor (d_tcmp h .ne (d_len h (d_cons (pv 0) (d_nil))) (d_int)) (d_wor (d_tnot (d_val (d_isi1 h (d_ix (pv 0) (d_int)) h.bt.tuple (by decide +kernel)))) (d_wor1 (d_tcmp h .ne (d_len h (d_cons (d_ix (pv 0) (d_int)) (d_nil))) (d_int))))))) (s_cons (s_ret (d_bl)) (s_nil)) (s_nil)) (s_cons (s_if (d_w (d_wor (d_tcmp h .gt (d_len h (d_cons (d_comp h [("day", 2)] (d_seq (d_ix (pv 0) (d_int))) (blkOk_by (N := N28) (sc := defScope st28) (by decide +kernel)) (fun _ _ _ _ _ => d_gn h.blk) (fun _ _ _ _ _ => d_ts (d_tnot (d_val (d_call h.blk 27 (by decide) (d_cons (pv 2) (d_nil)))))) (fun _ _ _ _ _ => pv 2)) (d_nil))) (d_int)) (d_wor (d_tnot (d_val (d_isi1 h (d_ix (pv 0) (d_int)) h.bt.tuple (by decide +kernel)))) (d_wor1 (d_tcmp h .gt (d_len h (d_cons (d_ix (pv 0) (d_int)) (d_nil))) (d_int)))))) (s_cons (s_ret (d_bl)) (s_nil)) (s_nil)) (s_cons (s_for h hp (d_r1 h (d_len h (d_cons (d_ix (pv 0) (d_int)) (d_nil)))) (d_gn h) (s_cons (s_if (d_w (d_wor (d_tnot (d_val (d_call h 25 (by decide) (d_cons (d_ix (d_ix (pv 0) (d_int)) (pv 1)) (d_cons (d_int) (d_cons (d_int) (d_nil))))))) (d_wor1 (d_w (d_wand (d_tcmp h .gt (pv 1) (d_int)) (d_wand1 (d_tcmp h .ge (d_ix (d_ix (pv 0) (d_int)) (d_sub (pv 1) (d_int))) (d_ix (d_ix (pv 0) (d_int)) (pv 1))))))))) (s_cons (s_ret (d_bl)) (s_nil)) (s_nil)) (s_nil))) (s_cons (s_ret (d_bl)) (s_nil))))
theorem ok28 {fd : FuncData} (F : Fun K "_law_is_week" "_law_is_week" st28 (fa 28) fd) (T : Tbl P w K mg base (k + 2) fa (spC K fa C (callF prog k)) tb nm pn) (re : ErrOk P w K mg base C) (bt : Bt mg) (hc : Cst mg) : FnOk P w K mg base (L2.CX P w) (k + 3) (fa 28) fd ps28 (spC K fa C (callF prog (k + 1)) 28) :=
  F.okX sc28 (fun vs H Q E z => len_ok (q := ⟨1, 3, b28⟩) rfl z) fun cdv A outer s H vs Q E hr z => ⟨_, der28 ⟨rfl, hr, sc28.nd, T, bt⟩ re (takes_of rfl rfl rfl rfl) (passes_of rfl) hc, body_ok (q := ⟨1, 3, b28⟩) rfl rfl re.te (fun _ _ _ _ => prog_tb) z⟩
theorem sc29 : FnScope N29 ps29 (defScope st29) := ⟨rfl, rfl, rfl, by decide +kernel, rfl, by decide +kernel, by decide +kernel⟩
theorem der29 {sp : Nat → Sp} {f : Addr} {cdv : Value} {A : Around} {outer : List Env} {s : Shared} {H : Hp} {E : XK} (h : Okx (cxOf (L2.CX P w) P w K mg base N29 "_law_day_row" (defScope st29) f cdv A outer s H E) (k + 2) fa sp tb nm pn) (re : ErrOk P w K mg base C) (tk : Takes (cxOf (L2.CX P w) P w K mg base N29 "_law_day_row" (defScope st29) f cdv A outer s H E) (fun cls d _ H => E cls d H)) (hp : PassesOwn (model (cxOf (L2.CX P w) P w K mg base N29 "_law_day_row" (defScope st29) f cdv A outer s H E).prog (cxOf (L2.CX P w) P w K mg base N29 "_law_day_row" (defScope st29) f cdv A outer s H E).w) (cxOf (L2.CX P w) P w K mg base N29 "_law_day_row" (defScope st29) f cdv A outer s H E).A (cxOf (L2.CX P w) P w K mg base N29 "_law_day_row" (defScope st29) f cdv A outer s H E).env (cxOf (L2.CX P w) P w K mg base N29 "_law_day_row" (defScope st29) f cdv A outer s H E).xe) (hc : Cst mg) :
    PSs (cxOf (L2.CX P w) P w K mg base N29 "_law_day_row" (defScope st29) f cdv A outer s H E) (defBody st29) (tSs K fa sp tb C (fun cls d _ H => E cls d H) b29) :=
  s_cons (s_ret (d_ix (d_ix (pv 0) (d_int)) (d_ite (d_tcmp h .inn (pv 1) (d_ix (pv 0) (d_int))) (d_int) (d_sub (pv 1) (d_mul (d_div (pv 1) (d_int)) (d_int)))))) (s_nil)
theorem ok29 {fd : FuncData} (F : Fun K "_law_day_row" "_law_day_row" st29 (fa 29) fd) (T : Tbl P w K mg base (k + 2) fa (spC K fa C (callF prog k)) tb nm pn) (re : ErrOk P w K mg base C) (bt : Bt mg) (hc : Cst mg) : FnOk P w K mg base (L2.CX P w) (k + 3) (fa 29) fd ps29 (spC K fa C (callF prog (k + 1)) 29) :=
  F.okX sc29 (fun vs H Q E z => len_ok (q := ⟨2, 2, b29⟩) rfl z) fun cdv A outer s H vs Q E hr z => ⟨_, der29 ⟨rfl, hr, sc29.nd, T, bt⟩ re (takes_of rfl rfl rfl rfl) (passes_of rfl) hc, body_ok (q := ⟨2, 2, b29⟩) rfl rfl re.te (fun _ _ _ _ => prog_tb) z⟩
theorem sc30 : FnScope N30 ps30 (defScope st30) := ⟨rfl, rfl, rfl, by decide +kernel, rfl, by decide +kernel, by decide +kernel⟩
theorem der30 {sp : Nat → Sp} {f : Addr} {cdv : Value} {A : Around} {outer : List Env} {s : Shared} {H : Hp} {E : XK} (h : Okx (cxOf (L2.CX P w) P w K mg base N30 "_law_band" (defScope st30) f cdv A outer s H E) (k + 2) fa sp tb nm pn) (re : ErrOk P w K mg base C) (tk : Takes (cxOf (L2.CX P w) P w K mg base N30 "_law_band" (defScope st30) f cdv A outer s H E) (fun cls d _ H => E cls d H)) (hp : PassesOwn (model (cxOf (L2.CX P w) P w K mg base N30 "_law_band" (defScope st30) f cdv A outer s H E).prog (cxOf (L2.CX P w) P w K mg base N30 "_law_band" (defScope st30) f cdv A outer s H E).w) (cxOf (L2.CX P w) P w K mg base N30 "_law_band" (defScope st30) f cdv A outer s H E).A (cxOf (L2.CX P w) P w K mg base N30 "_law_band" (defScope st30) f cdv A outer s H E).env (cxOf (L2.CX P w) P w K mg base N30 "_law_band" (defScope st30) f cdv A outer s H E).xe) (hc : Cst mg) :
    PSs (cxOf (L2.CX P w) P w K mg base N30 "_law_band" (defScope st30) f cdv A outer s H E) (defBody st30) (tSs K fa sp tb C (fun cls d _ H => E cls d H) b30) :=
  s_cons (s_set h (d_non)) (s_cons (s_for h hp (d_seq (d_call h 29 (by decide) (d_cons (pv 0) (d_cons (d_div (pv 1) (d_int)) (d_nil))))) (d_gt h (d_gs (d_gn h) (d_gs (d_gn h) (d_gs0)))) (s_cons (s_if (d_tcmp h .le (pv 3) (d_sub (pv 1) (d_mul (d_div (pv 1) (d_int)) (d_int)))) (s_cons (s_set h (pv 4)) (s_nil)) (s_nil)) (s_nil))) (s_cons (s_ret (pv 2)) (s_nil)))
theorem ok30 {fd : FuncData} (F : Fun K "_law_band" "_law_band" st30 (fa 30) fd) (T : Tbl P w K mg base (k + 2) fa (spC K fa C (callF prog k)) tb nm pn) (re : ErrOk P w K mg base C) (bt : Bt mg) (hc : Cst mg) : FnOk P w K mg base (L2.CX P w) (k + 3) (fa 30) fd ps30 (spC K fa C (callF prog (k + 1)) 30) :=
  F.okX sc30 (fun vs H Q E z => len_ok (q := ⟨2, 5, b30⟩) rfl z) fun cdv A outer s H vs Q E hr z => ⟨_, der30 ⟨rfl, hr, sc30.nd, T, bt⟩ re (takes_of rfl rfl rfl rfl) (passes_of rfl) hc, body_ok (q := ⟨2, 5, b30⟩) rfl rfl re.te (fun _ _ _ _ => prog_tb) z⟩
theorem sc31 : FnScope N31 ps31 (defScope st31) := ⟨rfl, rfl, rfl, by decide +kernel, rfl, by decide +kernel, by decide +kernel⟩
theorem der31 {sp : Nat → Sp} {f : Addr} {cdv : Value} {A : Around} {outer : List Env} {s : Shared} {H : Hp} {E : XK} (h : Okx (cxOf (L2.CX P w) P w K mg base N31 "_law_day" (defScope st31) f cdv A outer s H E) (k + 2) fa sp tb nm pn) (re : ErrOk P w K mg base C) (tk : Takes (cxOf (L2.CX P w) P w K mg base N31 "_law_day" (defScope st31) f cdv A outer s H E) (fun cls d _ H => E cls d H)) (hp : PassesOwn (model (cxOf (L2.CX P w) P w K mg base N31 "_law_day" (defScope st31) f cdv A outer s H E).prog (cxOf (L2.CX P w) P w K mg base N31 "_law_day" (defScope st31) f cdv A outer s H E).w) (cxOf (L2.CX P w) P w K mg base N31 "_law_day" (defScope st31) f cdv A outer s H E).A (cxOf (L2.CX P w) P w K mg base N31 "_law_day" (defScope st31) f cdv A outer s H E).env (cxOf (L2.CX P w) P w K mg base N31 "_law_day" (defScope st31) f cdv A outer s H E).xe) (hc : Cst mg) :
    PSs (cxOf (L2.CX P w) P w K mg base N31 "_law_day" (defScope st31) f cdv A outer s H E) (defBody st31) (tSs K fa sp tb C (fun cls d _ H => E cls d H) b31) :=
  s_cons (s_newDK h (p_cons (d_int) (d_bl) (p_nil))) (s_cons (s_for h hp (d_r1 h (d_call h 18 (by decide) (d_cons (pv 0) (d_cons (pv 1) (d_cons (d_int) (d_nil)))))) (d_gn h) (s_cons (s_setD h (d_call h 24 (by decide) (d_cons (pv 0) (d_cons (pv 1) (d_cons (d_lst (d_cons (d_int) (d_cons (d_int) (d_cons (d_int) (d_cons (d_int) (d_cons (d_int) (d_cons (d_call h 19 (by decide) (d_cons (pv 0) (d_cons (pv 1) (d_cons (d_int) (d_nil))))) (d_nil)))))))) (d_nil))))) (d_bl)) (s_nil))) (s_cons (s_ret (d_tuplef h (d_cons (d_comp h [("start", 4)] (d_seq (d_sorted h (d_cons (pv 2) (d_nil)))) (blkOk_by (N := N31) (sc := defScope st31) (by decide +kernel)) (fun _ _ _ _ _ => d_gn h.blk) (fun _ _ _ _ _ => d_tn) (fun _ _ _ _ _ => d_tup (d_cons (pv 4) (d_cons (d_call h.blk 24 (by decide) (d_cons (pv 0) (d_cons (pv 1) (d_cons (d_lst (d_cons (d_str) (d_cons (d_str) (d_cons (d_str) (d_nil))))) (d_nil))))) (d_nil))))) (d_nil)))) (s_nil)))
theorem ok31 {fd : FuncData} (F : Fun K "_law_day" "_law_day" st31 (fa 31) fd) (T : Tbl P w K mg base (k + 2) fa (spC K fa C (callF prog k)) tb nm pn) (re : ErrOk P w K mg base C) (bt : Bt mg) (hc : Cst mg) : FnOk P w K mg base (L2.CX P w) (k + 3) (fa 31) fd ps31 (spC K fa C (callF prog (k + 1)) 31) :=
  F.okX sc31 (fun vs H Q E z => len_ok (q := ⟨2, 5, b31⟩) rfl z) fun cdv A outer s H vs Q E hr z => ⟨_, der31 ⟨rfl, hr, sc31.nd, T, bt⟩ re (takes_of rfl rfl rfl rfl) (passes_of rfl) hc, body_ok (q := ⟨2, 5, b31⟩) rfl rfl re.te (fun _ _ _ _ => prog_tb) z⟩
theorem sc32 : FnScope N32 ps32 (defScope st32) := ⟨rfl, rfl, rfl, by decide +kernel, rfl, by decide +kernel, by decide +kernel⟩
theorem der32 {sp : Nat → Sp} {f : Addr} {cdv : Value} {A : Around} {outer : List Env} {s : Shared} {H : Hp} {E : XK} (h : Okx (cxOf (L2.CX P w) P w K mg base N32 "_law_week" (defScope st32) f cdv A outer s H E) (k + 2) fa sp tb nm pn) (re : ErrOk P w K mg base C) (tk : Takes (cxOf (L2.CX P w) P w K mg base N32 "_law_week" (defScope st32) f cdv A outer s H E) (fun cls d _ H => E cls d H)) (hp : PassesOwn (model (cxOf (L2.CX P w) P w K mg base N32 "_law_week" (defScope st32) f cdv A outer s H E).prog (cxOf (L2.CX P w) P w K mg base N32 "_law_week" (defScope st32) f cdv A outer s H E).w) (cxOf (L2.CX P w) P w K mg base N32 "_law_week" (defScope st32) f cdv A outer s H E).A (cxOf (L2.CX P w) P w K mg base N32 "_law_week" (defScope st32) f cdv A outer s H E).env (cxOf (L2.CX P w) P w K mg base N32 "_law_week" (defScope st32) f cdv A outer s H E).xe) (hc : Cst mg) :
    PSs (cxOf (L2.CX P w) P w K mg base N32 "_law_week" (defScope st32) f cdv A outer s H E) (defBody st32) (tSs K fa sp tb C (fun cls d _ H => E cls d H) b32) :=
  s_cons (s_set h (d_call h 31 (by decide) (d_cons (pv 0) (d_cons (pv 1) (d_nil))))) (s_cons (s_setLc h [("k", 5)] (d_r1 h (d_int)) (blkOk_by (N := N32) (sc := defScope st32) (by decide +kernel)) (fun _ _ _ _ _ => d_gn h.blk) (fun _ _ _ _ _ => d_tn) (fun _ _ _ _ _ => d_ite (d_tcmp h.blk .eq (d_call h.blk 18 (by decide) (d_cons (pv 0) (d_cons (pv 1) (d_cons (d_int) (d_nil))))) (d_int)) (pv 2) (d_call h.blk 31 (by decide) (d_cons (pv 0) (d_cons (pv 1) (d_nil))))) (sw_true rfl rfl rfl (by decide +kernel))) (s_cons (s_newD h) (s_cons (s_for h hp (d_r1 h (d_call h 18 (by decide) (d_cons (pv 0) (d_cons (pv 1) (d_cons (d_int) (d_nil)))))) (d_gn h) (s_cons (s_setD h (d_call h 24 (by decide) (d_cons (pv 0) (d_cons (pv 1) (d_cons (d_lst (d_cons (d_int) (d_cons (d_int) (d_cons (d_int) (d_cons (d_int) (d_cons (d_int) (d_cons (d_int) (d_cons (d_call h 18 (by decide) (d_cons (pv 0) (d_cons (pv 1) (d_cons (d_int) (d_nil))))) (d_nil))))))))) (d_nil))))) (d_bl)) (s_nil))) (s_cons (s_ret (d_tup (d_cons (d_tuplef h (d_cons (pv 3) (d_nil))) (d_cons (d_tuplef h (d_cons (d_sorted h (d_cons (pv 4) (d_nil))) (d_nil))) (d_nil))))) (s_nil)))))
theorem ok32 {fd : FuncData} (F : Fun K "_law_week" "_law_week" st32 (fa 32) fd) (T : Tbl P w K mg base (k + 2) fa (spC K fa C (callF prog k)) tb nm pn) (re : ErrOk P w K mg base C) (bt : Bt mg) (hc : Cst mg) : FnOk P w K mg base (L2.CX P w) (k + 3) (fa 32) fd ps32 (spC K fa C (callF prog (k + 1)) 32) :=
  F.okX sc32 (fun vs H Q E z => len_ok (q := ⟨2, 6, b32⟩) rfl z) fun cdv A outer s H vs Q E hr z => ⟨_, der32 ⟨rfl, hr, sc32.nd, T, bt⟩ re (takes_of rfl rfl rfl rfl) (passes_of rfl) hc, body_ok (q := ⟨2, 6, b32⟩) rfl rfl re.te (fun _ _ _ _ => prog_tb) z⟩
theorem sc33 : FnScope N33 ps33 (defScope st33) := ⟨rfl, rfl, rfl, by decide +kernel, rfl, by decide +kernel, by decide +kernel⟩
theorem der33 {sp : Nat → Sp} {f : Addr} {cdv : Value} {A : Around} {outer : List Env} {s : Shared} {H : Hp} {E : XK} (h : Okx (cxOf (L2.CX P w) P w K mg base N33 "_law_part_changed" (defScope st33) f cdv A outer s H E) (k + 2) fa sp tb nm pn) (re : ErrOk P w K mg base C) (tk : Takes (cxOf (L2.CX P w) P w K mg base N33 "_law_part_changed" (defScope st33) f cdv A outer s H E) (fun cls d _ H => E cls d H)) (hp : PassesOwn (model (cxOf (L2.CX P w) P w K mg base N33 "_law_part_changed" (defScope st33) f cdv A outer s H E).prog (cxOf (L2.CX P w) P w K mg base N33 "_law_part_changed" (defScope st33) f cdv A outer s H E).w) (cxOf (L2.CX P w) P w K mg base N33 "_law_part_changed" (defScope st33) f cdv A outer s H E).A (cxOf (L2.CX P w) P w K mg base N33 "_law_part_changed" (defScope st33) f cdv A outer s H E).env (cxOf (L2.CX P w) P w K mg base N33 "_law_part_changed" (defScope st33) f cdv A outer s H E).xe) (hc : Cst mg) :
    PSs (cxOf (L2.CX P w) P w K mg base N33 "_law_part_changed" (defScope st33) f cdv A outer s H E) (defBody st33) (tSs K fa sp tb C (fun cls d _ H => E cls d H) b33) :=
  s_cons (s_if (d_w (d_wand (d_val (d_isi1 h (pv 2) h.bt.tuple (by decide +kernel))) (d_wand (d_tcmp h .gt (d_len h (d_cons (pv 2) (d_nil))) (d_int)) (d_wand1 (d_tcmp h .gt (d_call h 18 (by decide) (d_cons (pv 0) (d_cons (pv 1) (d_cons (d_int) (d_nil))))) (d_int)))))) (s_cons (s_set h (d_call h 18 (by decide) (d_cons (pv 0) (d_cons (pv 1) (d_cons (d_len h (d_cons (pv 2) (d_nil))) (d_nil)))))) (s_cons (s_ret (d_add (d_add (d_sl (pv 2) (d_on) (d_os (pv 3))) (d_tup (d_cons (d_call h 33 (by decide) (d_cons (pv 0) (d_cons (pv 1) (d_cons (d_ix (pv 2) (pv 3)) (d_nil))))) (d_nil)))) (d_sl (pv 2) (d_os (d_add (pv 3) (d_int))) (d_on)))) (s_nil))) (s_nil)) (s_cons (s_set h (d_call h 18 (by decide) (d_cons (pv 0) (d_cons (pv 1) (d_cons (d_int) (d_nil)))))) (s_cons (s_if (d_w (d_wand (d_val (d_isi1 h (pv 2) h.bt.tuple (by decide +kernel))) (d_wand (d_tcmp h .eq (pv 4) (d_int)) (d_wand1 (d_tcmp h .gt (d_len h (d_cons (pv 2) (d_nil))) (d_int)))))) (s_cons (s_ret (d_add (pv 2) (d_sl (pv 2) (d_on) (d_os (d_int))))) (s_nil)) (s_nil)) (s_cons (s_if (d_w (d_wand (d_val (d_isi1 h (pv 2) h.bt.tuple (by decide +kernel))) (d_wand (d_tcmp h .eq (pv 4) (d_int)) (d_wand1 (d_tcmp h .gt (d_len h (d_cons (pv 2) (d_nil))) (d_int)))))) (s_cons (s_ret (d_sl (pv 2) (d_os (d_int)) (d_on))) (s_nil)) (s_nil)) (s_cons (s_if (d_w (d_wand (d_val (d_isi1 h (pv 2) h.bt.tuple (by decide +kernel))) (d_wand (d_tcmp h .eq (pv 4) (d_int)) (d_wand1 (d_tcmp h .gt (d_len h (d_cons (pv 2) (d_nil))) (d_int)))))) (s_cons (s_set h (d_call h 18 (by decide) (d_cons (pv 0) (d_cons (pv 1) (d_cons (d_len h (d_cons (pv 2) (d_nil))) (d_nil)))))) (s_cons (s_set h (d_ix (pv 2) (pv 3))) (s_cons (s_if (d_w (d_wand (d_val (d_isi1 h (pv 5) h.bt.tuple (by decide +kernel))) (d_wand (d_tcmp h .gt (d_len h (d_cons (pv 5) (d_nil))) (d_int)) (d_wand1 (d_val (d_isi1 h (d_ix (pv 5) (d_sub (d_len h (d_cons (pv 5) (d_nil))) (d_int))) h.bt.int (by decide +kernel))))))) (s_cons (s_ret (d_add (d_add (d_sl (pv 2) (d_on) (d_os (d_add (pv 3) (d_int)))) (d_tup (d_cons (d_add (d_sl (pv 5) (d_on) (d_os (d_sub (d_len h (d_cons (pv 5) (d_nil))) (d_int)))) (d_tup (d_cons (d_add (d_ix (pv 5) (d_sub (d_len h (d_cons (pv 5) (d_nil))) (d_int))) (d_int)) (d_nil)))) (d_nil)))) (d_sl (pv 2) (d_os (d_add (pv 3) (d_int))) (d_on)))) (s_nil)) (s_nil)) (s_nil)))) (s_nil)) (s_cons (s_if (d_w (d_wand (d_val (d_isi1 h (pv 2) h.bt.tuple (by decide +kernel))) (d_wand (d_tcmp h .eq (pv 4) (d_int)) (d_wand1 (d_tcmp h .gt (d_len h (d_cons (pv 2) (d_nil))) (d_int)))))) (s_cons (s_ret (d_add (d_sl (pv 2) (d_os (d_int)) (d_on)) (d_sl (pv 2) (d_on) (d_os (d_int))))) (s_nil)) (s_nil)) (s_cons (s_if (d_w (d_wand (d_val (d_isi1 h (pv 2) h.bt.int (by decide +kernel))) (d_wand1 (d_tcmp h .lt (pv 4) (d_int))))) (s_cons (s_ret (d_call h 24 (by decide) (d_cons (pv 0) (d_cons (pv 1) (d_cons (d_lst (d_cons (d_add (pv 2) (d_int)) (d_cons (d_sub (pv 2) (d_int)) (d_cons (d_int) (d_cons (d_int) (d_cons (d_int) (d_cons (d_int) (d_cons (d_int) (d_cons (d_int) (d_cons (d_add (d_pow (d_int) (d_int)) (d_int)) (d_cons (d_add (d_pow (d_int) (d_int)) (d_int)) (d_cons (d_non) (d_cons (d_bl) (d_nil)))))))))))))) (d_nil)))))) (s_nil)) (s_nil)) (s_cons (s_if (d_w (d_wand (d_val (d_isi1 h (pv 2) h.bt.str (by decide +kernel))) (d_wand1 (d_tcmp h .lt (pv 4) (d_int))))) (s_cons (s_ret (d_call h 24 (by decide) (d_cons (pv 0) (d_cons (pv 1) (d_cons (d_lst (d_cons (d_str) (d_cons (d_str) (d_cons (d_str) (d_cons (d_str) (d_cons (d_str) (d_cons (d_str) (d_cons (d_str) (d_cons (d_str) (d_cons (d_str) (d_cons (d_str) (d_cons (d_str) (d_cons (d_add (pv 2) (d_str)) (d_cons (d_add (pv 2) (d_str)) (d_cons (pv 2) (d_nil)))))))))))))))) (d_nil)))))) (s_nil)) (s_nil)) (s_cons (s_ret (d_call h 24 (by decide) (d_cons (pv 0) (d_cons (pv 1) (d_cons (d_lst (d_cons (d_non) (d_cons (d_int) (d_cons (d_bl) (d_cons (d_str) (d_cons (d_tup (d_nil)) (d_cons (d_tup (d_cons (d_int) (d_nil))) (d_cons (d_str) (d_cons (d_tup (d_cons (d_str) (d_nil))) (d_cons (d_tup (d_cons (d_int) (d_cons (d_str) (d_nil)))) (d_cons (d_str) (d_nil)))))))))))) (d_nil)))))) (s_nil)))))))))
theorem ok33 {fd : FuncData} (F : Fun K "_law_part_changed" "_law_part_changed" st33 (fa 33) fd) (T : Tbl P w K mg base (k + 2) fa (spC K fa C (callF prog k)) tb nm pn) (re : ErrOk P w K mg base C) (bt : Bt mg) (hc : Cst mg) : FnOk P w K mg base (L2.CX P w) (k + 3) (fa 33) fd ps33 (spC K fa C (callF prog (k + 1)) 33) :=
  F.okX sc33 (fun vs H Q E z => len_ok (q := ⟨3, 6, b33⟩) rfl z) fun cdv A outer s H vs Q E hr z => ⟨_, der33 ⟨rfl, hr, sc33.nd, T, bt⟩ re (takes_of rfl rfl rfl rfl) (passes_of rfl) hc, body_ok (q := ⟨3, 6, b33⟩) rfl rfl re.te (fun _ _ _ _ => prog_tb) z⟩
theorem sc34 : FnScope N34 ps34 (defScope st34) := ⟨rfl, rfl, rfl, by decide +kernel, rfl, by decide +kernel, by decide +kernel⟩
theorem der34 {sp : Nat → Sp} {f : Addr} {cdv : Value} {A : Around} {outer : List Env} {s : Shared} {H : Hp} {E : XK} (h : Okx (cxOf (L2.CX P w) P w K mg base N34 "_law_told" (defScope st34) f cdv A outer s H E) (k + 2) fa sp tb nm pn) (re : ErrOk P w K mg base C) (tk : Takes (cxOf (L2.CX P w) P w K mg base N34 "_law_told" (defScope st34) f cdv A outer s H E) (fun cls d _ H => E cls d H)) (hp : PassesOwn (model (cxOf (L2.CX P w) P w K mg base N34 "_law_told" (defScope st34) f cdv A outer s H E).prog (cxOf (L2.CX P w) P w K mg base N34 "_law_told" (defScope st34) f cdv A outer s H E).w) (cxOf (L2.CX P w) P w K mg base N34 "_law_told" (defScope st34) f cdv A outer s H E).A (cxOf (L2.CX P w) P w K mg base N34 "_law_told" (defScope st34) f cdv A outer s H E).env (cxOf (L2.CX P w) P w K mg base N34 "_law_told" (defScope st34) f cdv A outer s H E).xe) (hc : Cst mg) :
    PSs (cxOf (L2.CX P w) P w K mg base N34 "_law_told" (defScope st34) f cdv A outer s H E) (defBody st34) (tSs K fa sp tb C (fun cls d _ H => E cls d H) b34) :=
  s_cons (s_tryR h re (fun _ _ _ tw => x_callK h.tr tw 14 (by decide) (k_cons (pv 0) (k_cons (pv 1) (k_nil))))) (s_nil)
theorem ok34 {fd : FuncData} (F : Fun K "_law_told" "_law_told" st34 (fa 34) fd) (T : Tbl P w K mg base (k + 2) fa (spC K fa C (callF prog k)) tb nm pn) (re : ErrOk P w K mg base C) (bt : Bt mg) (hc : Cst mg) : FnOk P w K mg base (L2.CX P w) (k + 3) (fa 34) fd ps34 (spC K fa C (callF prog (k + 1)) 34) :=
  F.okX sc34 (fun vs H Q E z => len_ok (q := ⟨2, 3, b34⟩) rfl z) fun cdv A outer s H vs Q E hr z => ⟨_, der34 ⟨rfl, hr, sc34.nd, T, bt⟩ re (takes_of rfl rfl rfl rfl) (passes_of rfl) hc, body_ok (q := ⟨2, 3, b34⟩) rfl rfl re.te (fun _ _ _ _ => prog_tb) z⟩
theorem sc35 : FnScope N35 ps35 (defScope st35) := ⟨rfl, rfl, rfl, by decide +kernel, rfl, by decide +kernel, by decide +kernel⟩
theorem der35 {sp : Nat → Sp} {f : Addr} {cdv : Value} {A : Around} {outer : List Env} {s : Shared} {H : Hp} {E : XK} (h : Okx (cxOf (L2.CX P w) P w K mg base N35 "law" (defScope st35) f cdv A outer s H E) (k + 2) fa sp tb nm pn) (re : ErrOk P w K mg base C) (tk : Takes (cxOf (L2.CX P w) P w K mg base N35 "law" (defScope st35) f cdv A outer s H E) (fun cls d _ H => E cls d H)) (hp : PassesOwn (model (cxOf (L2.CX P w) P w K mg base N35 "law" (defScope st35) f cdv A outer s H E).prog (cxOf (L2.CX P w) P w K mg base N35 "law" (defScope st35) f cdv A outer s H E).w) (cxOf (L2.CX P w) P w K mg base N35 "law" (defScope st35) f cdv A outer s H E).A (cxOf (L2.CX P w) P w K mg base N35 "law" (defScope st35) f cdv A outer s H E).env (cxOf (L2.CX P w) P w K mg base N35 "law" (defScope st35) f cdv A outer s H E).xe) (hc : Cst mg) :
    PSs (cxOf (L2.CX P w) P w K mg base N35 "law" (defScope st35) f cdv A outer s H E) (defBody st35) (tSs K fa sp tb C (fun cls d _ H => E cls d H) b35) :=
  s_cons (s_set h (d_call h 16 (by decide) (d_cons (pv 0) (d_nil)))) (s_cons (s_newL h (d_cons (d_int) (d_nil))) (s_cons (s_set h (d_call h 32 (by decide) (d_cons (pv 1) (d_cons (pv 2) (d_nil))))) (s_cons (s_for h hp (d_r1 h (d_int)) (d_gn h) (s_cons (s_set h (d_call h 33 (by decide) (d_cons (pv 1) (d_cons (pv 2) (d_cons (pv 3) (d_nil)))))) (s_cons (s_if (d_tnot (d_val (d_call h 15 (by decide) (d_cons (d_callK h 11 (by decide) (k_cons (d_call h 23 (by decide) (d_cons (pv 1) (d_cons (pv 2) (d_cons (pv 5) (d_nil))))) (k_nil))) (d_cons (d_call h 28 (by decide) (d_cons (pv 5) (d_nil))) (d_nil)))))) (s_cons (s_ret (d_bl)) (s_nil)) (s_nil)) (s_cons (s_if (d_w (d_wand (d_tnot (d_val (d_call h 28 (by decide) (d_cons (pv 5) (d_nil))))) (d_wand1 (d_tnot (d_val (d_call h 15 (by decide) (d_cons (d_call h 34 (by decide) (d_cons (pv 5) (d_cons (d_neg (d_int)) (d_nil)))) (d_cons (d_tup (d_cons (d_str) (d_cons (d_int) (d_nil)))) (d_nil))))))))) (s_cons (s_ret (d_bl)) (s_nil)) (s_nil)) (s_nil))))) (s_cons (s_for h hp (d_r1 h (d_int)) (d_gn h) (s_cons (s_set h (d_call h 24 (by decide) (d_cons (pv 1) (d_cons (pv 2) (d_cons (d_lst (d_cons (d_int) (d_cons (d_int) (d_cons (d_int) (d_cons (d_int) (d_cons (d_int) (d_cons (d_int) (d_cons (d_call h 18 (by decide) (d_cons (pv 1) (d_cons (pv 2) (d_cons (d_int) (d_nil))))) (d_nil))))))))) (d_nil)))))) (s_cons (s_set h (d_ix (d_call h 24 (by decide) (d_cons (pv 1) (d_cons (pv 2) (d_cons (d_call h 29 (by decide) (d_cons (pv 3) (d_cons (pv 6) (d_nil)))) (d_nil))))) (d_int))) (s_cons (s_set h (d_max2 h (d_cons (d_int) (d_cons (d_sub (d_add (d_add (d_mul (pv 6) (d_int)) (pv 7)) (d_call h 18 (by decide) (d_cons (pv 1) (d_cons (pv 2) (d_cons (d_int) (d_nil)))))) (d_int)) (d_nil))))) (s_cons (s_if (d_tnot (d_val (d_call h 15 (by decide) (d_cons (d_call h 34 (by decide) (d_cons (d_call h 23 (by decide) (d_cons (pv 1) (d_cons (pv 2) (d_cons (pv 3) (d_nil))))) (d_cons (pv 8) (d_nil)))) (d_cons (d_call h 30 (by decide) (d_cons (pv 3) (d_cons (pv 8) (d_nil)))) (d_nil)))))) (s_cons (s_ret (d_bl)) (s_nil)) (s_nil)) (s_nil)))))) (s_cons (s_set h (d_call h 24 (by decide) (d_cons (pv 1) (d_cons (pv 2) (d_cons (d_lst (d_cons (d_non) (d_cons (d_neg (d_int)) (d_cons (d_add (d_pow (d_int) (d_int)) (d_int)) (d_cons (d_str) (d_cons (d_bl) (d_nil))))))) (d_nil)))))) (s_cons (s_ret (d_and (d_call h 15 (by decide) (d_cons (d_call h 34 (by decide) (d_cons (pv 3) (d_cons (pv 9) (d_nil)))) (d_cons (d_tup (d_cons (d_str) (d_cons (d_int) (d_nil)))) (d_nil)))) (d_and (d_call h 15 (by decide) (d_cons (d_call h 34 (by decide) (d_cons (pv 3) (d_cons (d_pow (d_int) (d_int)) (d_nil)))) (d_cons (d_call h 30 (by decide) (d_cons (pv 3) (d_cons (d_pow (d_int) (d_int)) (d_nil)))) (d_nil)))) (d_one (d_call h 15 (by decide) (d_cons (d_call h 11 (by decide) (d_cons (pv 3) (d_nil))) (d_cons (d_bl) (d_nil)))))))) (s_nil)))))))
theorem ok35 {fd : FuncData} (F : Fun K "law" "law" st35 (fa 35) fd) (T : Tbl P w K mg base (k + 2) fa (spC K fa C (callF prog k)) tb nm pn) (re : ErrOk P w K mg base C) (bt : Bt mg) (hc : Cst mg) : FnOk P w K mg base (L2.CX P w) (k + 3) (fa 35) fd ps35 (spC K fa C (callF prog (k + 1)) 35) :=
  F.okX sc35 (fun vs H Q E z => len_ok (q := ⟨1, 10, b35⟩) rfl z) fun cdv A outer s H vs Q E hr z => ⟨_, der35 ⟨rfl, hr, sc35.nd, T, bt⟩ re (takes_of rfl rfl rfl rfl) (passes_of rfl) hc, body_ok (q := ⟨1, 10, b35⟩) rfl rfl re.te (fun _ _ _ _ => prog_tb) z⟩
end
section
variable {P : Program} {w : World} {K : PySem.W.Frag} {mg : Str → Option Value} {base : Heap} {fa : Nat → Addr} {C : Addr}
theorem lev (re : ErrOk P w K mg base C) (bt : Bt mg) (hc : Cst mg) {fd0 : FuncData} (F0 : Fun K "need" "need" st0 (fa 0) fd0) (m0 : mg "need" = some (.ref (fa 0))) {fd1 : FuncData} (F1 : Fun K "is_integer" "is_integer" st1 (fa 1) fd1) (m1 : mg "is_integer" = some (.ref (fa 1))) {fd2 : FuncData} (F2 : Fun K "is_within" "is_within" st2 (fa 2) fd2) (m2 : mg "is_within" = some (.ref (fa 2))) {fd3 : FuncData} (F3 : Fun K "is_word" "is_word" st3 (fa 3) fd3) (m3 : mg "is_word" = some (.ref (fa 3))) {fd4 : FuncData} (F4 : Fun K "is_second" "is_second" st4 (fa 4) fd4) (m4 : mg "is_second" = some (.ref (fa 4))) {fd5 : FuncData} (F5 : Fun K "is_rows" "is_rows" st5 (fa 5) fd5) (m5 : mg "is_rows" = some (.ref (fa 5))) {fd6 : FuncData} (F6 : Fun K "is_rows_of" "is_rows_of" st6 (fa 6) fd6) (m6 : mg "is_rows_of" = some (.ref (fa 6))) {fd7 : FuncData} (F7 : Fun K "is_ascending" "is_ascending" st7 (fa 7) fd7) (m7 : mg "is_ascending" = some (.ref (fa 7))) {fd8 : FuncData} (F8 : Fun K "is_start" "is_start" st8 (fa 8) fd8) (m8 : mg "is_start" = some (.ref (fa 8))) {fd9 : FuncData} (F9 : Fun K "is_day" "is_day" st9 (fa 9) fd9) (m9 : mg "is_day" = some (.ref (fa 9))) {fd10 : FuncData} (F10 : Fun K "is_feast" "is_feast" st10 (fa 10) fd10) (m10 : mg "is_feast" = some (.ref (fa 10))) {fd11 : FuncData} (F11 : Fun K "is_week" "is_week" st11 (fa 11) fd11) (m11 : mg "is_week" = some (.ref (fa 11))) {fd12 : FuncData} (F12 : Fun K "day_of" "day_of" st12 (fa 12) fd12) (m12 : mg "day_of" = some (.ref (fa 12))) {fd13 : FuncData} (F13 : Fun K "band_at" "band_at" st13 (fa 13) fd13) (m13 : mg "band_at" = some (.ref (fa 13))) {fd14 : FuncData} (F14 : Fun K "band" "band" st14 (fa 14) fd14) (m14 : mg "band" = some (.ref (fa 14))) {fd15 : FuncData} (F15 : Fun K "_law_so" "_law_so" st15 (fa 15) fd15) (m15 : mg "_law_so" = some (.ref (fa 15))) {fd16 : FuncData} (F16 : Fun K "_law_numbers" "_law_numbers" st16 (fa 16) fd16) (m16 : mg "_law_numbers" = some (.ref (fa 16))) {fd17 : FuncData} (F17 : Fun K "_law_draw" "_law_draw" st17 (fa 17) fd17) (m17 : mg "_law_draw" = some (.ref (fa 17))) {fd18 : FuncData} (F18 : Fun K "_law_take" "_law_take" st18 (fa 18) fd18) (m18 : mg "_law_take" = some (.ref (fa 18))) {fd19 : FuncData} (F19 : Fun K "_law_wide" "_law_wide" st19 (fa 19) fd19) (m19 : mg "_law_wide" = some (.ref (fa 19))) {fd20 : FuncData} (F20 : Fun K "_law_whole" "_law_whole" st20 (fa 20) fd20) (m20 : mg "_law_whole" = some (.ref (fa 20))) {fd21 : FuncData} (F21 : Fun K "_law_listed" "_law_listed" st21 (fa 21) fd21) (m21 : mg "_law_listed" = some (.ref (fa 21))) {fd22 : FuncData} (F22 : Fun K "_law_either" "_law_either" st22 (fa 22) fd22) (m22 : mg "_law_either" = some (.ref (fa 22))) {fd23 : FuncData} (F23 : Fun K "_law_handed" "_law_handed" st23 (fa 23) fd23) (m23 : mg "_law_handed" = some (.ref (fa 23))) {fd24 : FuncData} (F24 : Fun K "_law_pick" "_law_pick" st24 (fa 24) fd24) (m24 : mg "_law_pick" = some (.ref (fa 24))) {fd25 : FuncData} (F25 : Fun K "_law_between" "_law_between" st25 (fa 25) fd25) (m25 : mg "_law_between" = some (.ref (fa 25))) {fd26 : FuncData} (F26 : Fun K "_law_is_word" "_law_is_word" st26 (fa 26) fd26) (m26 : mg "_law_is_word" = some (.ref (fa 26))) {fd27 : FuncData} (F27 : Fun K "_law_is_day" "_law_is_day" st27 (fa 27) fd27) (m27 : mg "_law_is_day" = some (.ref (fa 27))) {fd28 : FuncData} (F28 : Fun K "_law_is_week" "_law_is_week" st28 (fa 28) fd28) (m28 : mg "_law_is_week" = some (.ref (fa 28))) {fd29 : FuncData} (F29 : Fun K "_law_day_row" "_law_day_row" st29 (fa 29) fd29) (m29 : mg "_law_day_row" = some (.ref (fa 29))) {fd30 : FuncData} (F30 : Fun K "_law_band" "_law_band" st30 (fa 30) fd30) (m30 : mg "_law_band" = some (.ref (fa 30))) {fd31 : FuncData} (F31 : Fun K "_law_day" "_law_day" st31 (fa 31) fd31) (m31 : mg "_law_day" = some (.ref (fa 31))) {fd32 : FuncData} (F32 : Fun K "_law_week" "_law_week" st32 (fa 32) fd32) (m32 : mg "_law_week" = some (.ref (fa 32))) {fd33 : FuncData} (F33 : Fun K "_law_part_changed" "_law_part_changed" st33 (fa 33) fd33) (m33 : mg "_law_part_changed" = some (.ref (fa 33))) {fd34 : FuncData} (F34 : Fun K "_law_told" "_law_told" st34 (fa 34) fd34) (m34 : mg "_law_told" = some (.ref (fa 34))) {fd35 : FuncData} (F35 : Fun K "law" "law" st35 (fa 35) fd35) (m35 : mg "law" = some (.ref (fa 35))) (B0 : Binds K fd0 ps0 [] ∧ KBd K fd0 ps0) (B1 : Binds K fd1 ps1 [] ∧ KBd K fd1 ps1) (B2 : Binds K fd2 ps2 [] ∧ KBd K fd2 ps2) (B3 : Binds K fd3 ps3 [] ∧ KBd K fd3 ps3) (B4 : Binds K fd4 ps4 [] ∧ KBd K fd4 ps4) (B5 : Binds K fd5 ps5 [] ∧ KBd K fd5 ps5) (B6 : Binds K fd6 ps6 [] ∧ KBd K fd6 ps6) (B7 : Binds K fd7 ps7 [] ∧ KBd K fd7 ps7) (B8 : Binds K fd8 ps8 [] ∧ KBd K fd8 ps8) (B9 : Binds K fd9 ps9 [] ∧ KBd K fd9 ps9) (B10 : Binds K fd10 ps10 [] ∧ KBd K fd10 ps10) (B11 : Binds K fd11 ps11 [] ∧ KBd K fd11 ps11) (B12 : Binds K fd12 ps12 [] ∧ KBd K fd12 ps12) (B13 : Binds K fd13 ps13 [] ∧ KBd K fd13 ps13) (B14 : Binds K fd14 ps14 [] ∧ KBd K fd14 ps14) (B15 : Binds K fd15 ps15 [] ∧ KBd K fd15 ps15) (B16 : Binds K fd16 ps16 [] ∧ KBd K fd16 ps16) (B17 : Binds K fd17 ps17 [] ∧ KBd K fd17 ps17) (B18 : Binds K fd18 ps18 [] ∧ KBd K fd18 ps18) (B19 : Binds K fd19 ps19 [] ∧ KBd K fd19 ps19) (B20 : Binds K fd20 ps20 [] ∧ KBd K fd20 ps20) (B21 : Binds K fd21 ps21 [] ∧ KBd K fd21 ps21) (B22 : Binds K fd22 ps22 [] ∧ KBd K fd22 ps22) (B23 : Binds K fd23 ps23 [] ∧ KBd K fd23 ps23) (B24 : Binds K fd24 ps24 [] ∧ KBd K fd24 ps24) (B25 : Binds K fd25 ps25 [] ∧ KBd K fd25 ps25) (B26 : Binds K fd26 ps26 [] ∧ KBd K fd26 ps26) (B27 : Binds K fd27 ps27 [] ∧ KBd K fd27 ps27) (B28 : Binds K fd28 ps28 [] ∧ KBd K fd28 ps28) (B29 : Binds K fd29 ps29 [] ∧ KBd K fd29 ps29) (B30 : Binds K fd30 ps30 [] ∧ KBd K fd30 ps30) (B31 : Binds K fd31 ps31 [] ∧ KBd K fd31 ps31) (B32 : Binds K fd32 ps32 [] ∧ KBd K fd32 ps32) (B33 : Binds K fd33 ps33 [] ∧ KBd K fd33 ps33) (B34 : Binds K fd34 ps34 [] ∧ KBd K fd34 ps34) (B35 : Binds K fd35 ps35 [] ∧ KBd K fd35 ps35) : ∀ k, Tbl P w K mg base (k + 2) fa (spC K fa C (callF prog k)) tb nm pn := by
  intro k
  induction k with
  | zero =>
    refine ⟨fun f hf => ?_⟩
    match f, hf with
    | 0, _ => exact ⟨fd0, fn_zero, F0.kp, B0.1, m0, B0.2⟩
    | 1, _ => exact ⟨fd1, fn_zero, F1.kp, B1.1, m1, B1.2⟩
    | 2, _ => exact ⟨fd2, fn_zero, F2.kp, B2.1, m2, B2.2⟩
    | 3, _ => exact ⟨fd3, fn_zero, F3.kp, B3.1, m3, B3.2⟩
    | 4, _ => exact ⟨fd4, fn_zero, F4.kp, B4.1, m4, B4.2⟩
    | 5, _ => exact ⟨fd5, fn_zero, F5.kp, B5.1, m5, B5.2⟩
    | 6, _ => exact ⟨fd6, fn_zero, F6.kp, B6.1, m6, B6.2⟩
    | 7, _ => exact ⟨fd7, fn_zero, F7.kp, B7.1, m7, B7.2⟩
    | 8, _ => exact ⟨fd8, fn_zero, F8.kp, B8.1, m8, B8.2⟩
    | 9, _ => exact ⟨fd9, fn_zero, F9.kp, B9.1, m9, B9.2⟩
    | 10, _ => exact ⟨fd10, fn_zero, F10.kp, B10.1, m10, B10.2⟩
    | 11, _ => exact ⟨fd11, fn_zero, F11.kp, B11.1, m11, B11.2⟩
    | 12, _ => exact ⟨fd12, fn_zero, F12.kp, B12.1, m12, B12.2⟩
    | 13, _ => exact ⟨fd13, fn_zero, F13.kp, B13.1, m13, B13.2⟩
    | 14, _ => exact ⟨fd14, fn_zero, F14.kp, B14.1, m14, B14.2⟩
    | 15, _ => exact ⟨fd15, fn_zero, F15.kp, B15.1, m15, B15.2⟩
    | 16, _ => exact ⟨fd16, fn_zero, F16.kp, B16.1, m16, B16.2⟩
    | 17, _ => exact ⟨fd17, fn_zero, F17.kp, B17.1, m17, B17.2⟩
    | 18, _ => exact ⟨fd18, fn_zero, F18.kp, B18.1, m18, B18.2⟩
    | 19, _ => exact ⟨fd19, fn_zero, F19.kp, B19.1, m19, B19.2⟩
    | 20, _ => exact ⟨fd20, fn_zero, F20.kp, B20.1, m20, B20.2⟩
    | 21, _ => exact ⟨fd21, fn_zero, F21.kp, B21.1, m21, B21.2⟩
    | 22, _ => exact ⟨fd22, fn_zero, F22.kp, B22.1, m22, B22.2⟩
    | 23, _ => exact ⟨fd23, fn_zero, F23.kp, B23.1, m23, B23.2⟩
    | 24, _ => exact ⟨fd24, fn_zero, F24.kp, B24.1, m24, B24.2⟩
    | 25, _ => exact ⟨fd25, fn_zero, F25.kp, B25.1, m25, B25.2⟩
    | 26, _ => exact ⟨fd26, fn_zero, F26.kp, B26.1, m26, B26.2⟩
    | 27, _ => exact ⟨fd27, fn_zero, F27.kp, B27.1, m27, B27.2⟩
    | 28, _ => exact ⟨fd28, fn_zero, F28.kp, B28.1, m28, B28.2⟩
    | 29, _ => exact ⟨fd29, fn_zero, F29.kp, B29.1, m29, B29.2⟩
    | 30, _ => exact ⟨fd30, fn_zero, F30.kp, B30.1, m30, B30.2⟩
    | 31, _ => exact ⟨fd31, fn_zero, F31.kp, B31.1, m31, B31.2⟩
    | 32, _ => exact ⟨fd32, fn_zero, F32.kp, B32.1, m32, B32.2⟩
    | 33, _ => exact ⟨fd33, fn_zero, F33.kp, B33.1, m33, B33.2⟩
    | 34, _ => exact ⟨fd34, fn_zero, F34.kp, B34.1, m34, B34.2⟩
    | 35, _ => exact ⟨fd35, fn_zero, F35.kp, B35.1, m35, B35.2⟩
    | n + 36, hf => exact absurd hf (Nat.not_lt.mpr (Nat.le_add_left _ _))
  | succ k T =>
    refine ⟨fun f hf => ?_⟩
    match f, hf with
    | 0, _ => exact ⟨fd0, ok0 F0 T re bt hc, F0.kp, B0.1, m0, B0.2⟩
    | 1, _ => exact ⟨fd1, ok1 F1 T re bt hc, F1.kp, B1.1, m1, B1.2⟩
    | 2, _ => exact ⟨fd2, ok2 F2 T re bt hc, F2.kp, B2.1, m2, B2.2⟩
    | 3, _ => exact ⟨fd3, ok3 F3 T re bt hc, F3.kp, B3.1, m3, B3.2⟩
    | 4, _ => exact ⟨fd4, ok4 F4 T re bt hc, F4.kp, B4.1, m4, B4.2⟩
    | 5, _ => exact ⟨fd5, ok5 F5 T re bt hc, F5.kp, B5.1, m5, B5.2⟩
    | 6, _ => exact ⟨fd6, ok6 F6 T re bt hc, F6.kp, B6.1, m6, B6.2⟩
    | 7, _ => exact ⟨fd7, ok7 F7 T re bt hc, F7.kp, B7.1, m7, B7.2⟩
    | 8, _ => exact ⟨fd8, ok8 F8 T re bt hc, F8.kp, B8.1, m8, B8.2⟩
    | 9, _ => exact ⟨fd9, ok9 F9 T re bt hc, F9.kp, B9.1, m9, B9.2⟩
    | 10, _ => exact ⟨fd10, ok10 F10 T re bt hc, F10.kp, B10.1, m10, B10.2⟩
    | 11, _ => exact ⟨fd11, ok11 F11 T re bt hc, F11.kp, B11.1, m11, B11.2⟩
    | 12, _ => exact ⟨fd12, ok12 F12 T re bt hc, F12.kp, B12.1, m12, B12.2⟩
    | 13, _ => exact ⟨fd13, ok13 F13 T re bt hc, F13.kp, B13.1, m13, B13.2⟩
    | 14, _ => exact ⟨fd14, ok14 F14 T re bt hc, F14.kp, B14.1, m14, B14.2⟩
    | 15, _ => exact ⟨fd15, ok15 F15 T re bt hc, F15.kp, B15.1, m15, B15.2⟩
    | 16, _ => exact ⟨fd16, ok16 F16 T re bt hc, F16.kp, B16.1, m16, B16.2⟩
    | 17, _ => exact ⟨fd17, ok17 F17 T re bt hc, F17.kp, B17.1, m17, B17.2⟩
    | 18, _ => exact ⟨fd18, ok18 F18 T re bt hc, F18.kp, B18.1, m18, B18.2⟩
    | 19, _ => exact ⟨fd19, ok19 F19 T re bt hc, F19.kp, B19.1, m19, B19.2⟩
    | 20, _ => exact ⟨fd20, ok20 F20 T re bt hc, F20.kp, B20.1, m20, B20.2⟩
    | 21, _ => exact ⟨fd21, ok21 F21 T re bt hc, F21.kp, B21.1, m21, B21.2⟩
    | 22, _ => exact ⟨fd22, ok22 F22 T re bt hc, F22.kp, B22.1, m22, B22.2⟩
    | 23, _ => exact ⟨fd23, ok23 F23 T re bt hc, F23.kp, B23.1, m23, B23.2⟩
    | 24, _ => exact ⟨fd24, ok24 F24 T re bt hc, F24.kp, B24.1, m24, B24.2⟩
    | 25, _ => exact ⟨fd25, ok25 F25 T re bt hc, F25.kp, B25.1, m25, B25.2⟩
    | 26, _ => exact ⟨fd26, ok26 F26 T re bt hc, F26.kp, B26.1, m26, B26.2⟩
    | 27, _ => exact ⟨fd27, ok27 F27 T re bt hc, F27.kp, B27.1, m27, B27.2⟩
    | 28, _ => exact ⟨fd28, ok28 F28 T re bt hc, F28.kp, B28.1, m28, B28.2⟩
    | 29, _ => exact ⟨fd29, ok29 F29 T re bt hc, F29.kp, B29.1, m29, B29.2⟩
    | 30, _ => exact ⟨fd30, ok30 F30 T re bt hc, F30.kp, B30.1, m30, B30.2⟩
    | 31, _ => exact ⟨fd31, ok31 F31 T re bt hc, F31.kp, B31.1, m31, B31.2⟩
    | 32, _ => exact ⟨fd32, ok32 F32 T re bt hc, F32.kp, B32.1, m32, B32.2⟩
    | 33, _ => exact ⟨fd33, ok33 F33 T re bt hc, F33.kp, B33.1, m33, B33.2⟩
    | 34, _ => exact ⟨fd34, ok34 F34 T re bt hc, F34.kp, B34.1, m34, B34.2⟩
    | 35, _ => exact ⟨fd35, ok35 F35 T re bt hc, F35.kp, B35.1, m35, B35.2⟩
    | n + 36, hf => exact absurd hf (Nat.not_lt.mpr (Nat.le_add_left _ _))
end
abbrev fas (f0 f1 f2 f3 f4 f5 f6 f7 f8 f9 f10 f11 f12 f13 f14 f15 f16 f17 f18 f19 f20 f21 f22 f23 f24 f25 f26 f27 f28 f29 f30 f31 f32 f33 f34 f35 : Addr) : Nat → Addr := fun f => [f0, f1, f2, f3, f4, f5, f6, f7, f8, f9, f10, f11, f12, f13, f14, f15, f16, f17, f18, f19, f20, f21, f22, f23, f24, f25, f26, f27, f28, f29, f30, f31, f32, f33, f34, f35].getD f 0
/-- what is left: the meaning of law -/
abbrev Meant (lv : Nat) : Prop := ∀ ns : List Int, ns.length ≤ 63 → ∃ S, callF prog lv 35 [.d (.scr ns)] [] = some (.bl true, S)
theorem sp_law {lv : Nat} (M : Meant lv) {K : PySem.W.Frag} {fa : Nat → Addr} {C : Addr} {H : Hp} {a : Addr} {ns : List Int} (hl : ns.length ≤ 63) (hS : SqL K H a (ns.map V.int)) {Q : VK} {E : XK} (h : ∀ H, Q (.bl true) H) : spC K fa C (callF prog lv) 35 [.ref a] H Q E :=
  spLaw_of (M ns hl) hS h
theorem all_mk {l : PySem.W.OpenLaw} {w : World} {K : PySem.W.Frag} {h : Heap} {mg : Str → Option Value} {fa0 C B fI f0 f1 f2 f3 f4 f5 f6 f7 f8 f9 f10 f11 f12 f13 f14 f15 f16 f17 f18 f19 f20 f21 f22 f23 f24 f25 f26 f27 f28 f29 f30 f31 f32 f33 f34 f35 : Addr} (X : K.In h) (G : h.Ns mainGlobals mg) (hfa : mg "law" = some (.ref fa0)) {lv : Nat} (M : Meant (lv + 1))
    {od0 an0 od1 an1 od2 an2 od3 an3 od4 an4 od5 an5 od6 an6 od7 an7 od8 an8 od9 an9 od10 an10 od11 an11 od12 an12 od13 an13 od14 an14 od15 an15 od16 an16 od17 an17 od18 an18 od19 an19 od20 an20 od21 an21 od22 an22 od23 an23 od24 an24 od25 an25 od26 an26 od27 an27 od28 an28 od29 an29 od30 an30 od31 an31 od32 an32 od33 an33 od34 an34 od35 an35 odI anI : Option Addr} {sl0 sl1 sl2 sl3 sl4 sl5 sl6 sl7 sl8 sl9 sl10 sl11 sl12 sl13 sl14 sl15 sl16 sl17 sl18 sl19 sl20 sl21 sl22 sl23 sl24 sl25 sl26 sl27 sl28 sl29 sl30 sl31 sl32 sl33 sl34 sl35 slI : Array (Option Value)} {oc0 kV0 dc0 pm0 cd0 ct0 oc1 kV1 dc1 pm1 cd1 ct1 oc2 kV2 dc2 pm2 cd2 ct2 oc3 kV3 dc3 pm3 cd3 ct3 oc4 kV4 dc4 pm4 cd4 ct4 oc5 kV5 dc5 pm5 cd5 ct5 oc6 kV6 dc6 pm6 cd6 ct6 oc7 kV7 dc7 pm7 cd7 ct7 oc8 kV8 dc8 pm8 cd8 ct8 oc9 kV9 dc9 pm9 cd9 ct9 oc10 kV10 dc10 pm10 cd10 ct10 oc11 kV11 dc11 pm11 cd11 ct11 oc12 kV12 dc12 pm12 cd12 ct12 oc13 kV13 dc13 pm13 cd13 ct13 oc14 kV14 dc14 pm14 cd14 ct14 oc15 kV15 dc15 pm15 cd15 ct15 oc16 kV16 dc16 pm16 cd16 ct16 oc17 kV17 dc17 pm17 cd17 ct17 oc18 kV18 dc18 pm18 cd18 ct18 oc19 kV19 dc19 pm19 cd19 ct19 oc20 kV20 dc20 pm20 cd20 ct20 oc21 kV21 dc21 pm21 cd21 ct21 oc22 kV22 dc22 pm22 cd22 ct22 oc23 kV23 dc23 pm23 cd23 ct23 oc24 kV24 dc24 pm24 cd24 ct24 oc25 kV25 dc25 pm25 cd25 ct25 oc26 kV26 dc26 pm26 cd26 ct26 oc27 kV27 dc27 pm27 cd27 ct27 oc28 kV28 dc28 pm28 cd28 ct28 oc29 kV29 dc29 pm29 cd29 ct29 oc30 kV30 dc30 pm30 cd30 ct30 oc31 kV31 dc31 pm31 cd31 ct31 oc32 kV32 dc32 pm32 cd32 ct32 oc33 kV33 dc33 pm33 cd33 ct33 oc34 kV34 dc34 pm34 cd34 ct34 oc35 kV35 dc35 pm35 cd35 ct35 ocI kVI dcI pmI cdI ctI : Value} {t_LAST_SECOND t_DAY t_FEAST : Tok}
    {nmE qE : Str} {NE : Addr} {bsE : List Value} {snE : List Str} {subE : List Value} {abE : Bool} {colE : Option Bool} {ddE : Option Addr} {mE0 mE1 mE2 mE3 mE5 : Option Value}
    (a0 : PySem.W.nsIn K mainGlobals "need" = some (some (.ref f0))) (l0 : K.lookup f0 = some ⟨oc0, od0, .func (PySem.W.fnOf "need" "need" (defArgs st0) (defBody st0) (defScope st0) .none kV0 dc0 pm0 an0 cd0 ct0), sl0⟩) (c0 : PySem.W.codeIn K cd0 "need" = true) (k0 : PySem.W.keepIn K (.ref f0) = true)
    (a1 : PySem.W.nsIn K mainGlobals "is_integer" = some (some (.ref f1))) (l1 : K.lookup f1 = some ⟨oc1, od1, .func (PySem.W.fnOf "is_integer" "is_integer" (defArgs st1) (defBody st1) (defScope st1) .none kV1 dc1 pm1 an1 cd1 ct1), sl1⟩) (c1 : PySem.W.codeIn K cd1 "is_integer" = true) (k1 : PySem.W.keepIn K (.ref f1) = true)
    (a2 : PySem.W.nsIn K mainGlobals "is_within" = some (some (.ref f2))) (l2 : K.lookup f2 = some ⟨oc2, od2, .func (PySem.W.fnOf "is_within" "is_within" (defArgs st2) (defBody st2) (defScope st2) .none kV2 dc2 pm2 an2 cd2 ct2), sl2⟩) (c2 : PySem.W.codeIn K cd2 "is_within" = true) (k2 : PySem.W.keepIn K (.ref f2) = true)
    (a3 : PySem.W.nsIn K mainGlobals "is_word" = some (some (.ref f3))) (l3 : K.lookup f3 = some ⟨oc3, od3, .func (PySem.W.fnOf "is_word" "is_word" (defArgs st3) (defBody st3) (defScope st3) .none kV3 dc3 pm3 an3 cd3 ct3), sl3⟩) (c3 : PySem.W.codeIn K cd3 "is_word" = true) (k3 : PySem.W.keepIn K (.ref f3) = true)
    (a4 : PySem.W.nsIn K mainGlobals "is_second" = some (some (.ref f4))) (l4 : K.lookup f4 = some ⟨oc4, od4, .func (PySem.W.fnOf "is_second" "is_second" (defArgs st4) (defBody st4) (defScope st4) .none kV4 dc4 pm4 an4 cd4 ct4), sl4⟩) (c4 : PySem.W.codeIn K cd4 "is_second" = true) (k4 : PySem.W.keepIn K (.ref f4) = true)
    (a5 : PySem.W.nsIn K mainGlobals "is_rows" = some (some (.ref f5))) (l5 : K.lookup f5 = some ⟨oc5, od5, .func (PySem.W.fnOf "is_rows" "is_rows" (defArgs st5) (defBody st5) (defScope st5) .none kV5 dc5 pm5 an5 cd5 ct5), sl5⟩) (c5 : PySem.W.codeIn K cd5 "is_rows" = true) (k5 : PySem.W.keepIn K (.ref f5) = true)
    (a6 : PySem.W.nsIn K mainGlobals "is_rows_of" = some (some (.ref f6))) (l6 : K.lookup f6 = some ⟨oc6, od6, .func (PySem.W.fnOf "is_rows_of" "is_rows_of" (defArgs st6) (defBody st6) (defScope st6) .none kV6 dc6 pm6 an6 cd6 ct6), sl6⟩) (c6 : PySem.W.codeIn K cd6 "is_rows_of" = true) (k6 : PySem.W.keepIn K (.ref f6) = true)
    (a7 : PySem.W.nsIn K mainGlobals "is_ascending" = some (some (.ref f7))) (l7 : K.lookup f7 = some ⟨oc7, od7, .func (PySem.W.fnOf "is_ascending" "is_ascending" (defArgs st7) (defBody st7) (defScope st7) .none kV7 dc7 pm7 an7 cd7 ct7), sl7⟩) (c7 : PySem.W.codeIn K cd7 "is_ascending" = true) (k7 : PySem.W.keepIn K (.ref f7) = true)
    (a8 : PySem.W.nsIn K mainGlobals "is_start" = some (some (.ref f8))) (l8 : K.lookup f8 = some ⟨oc8, od8, .func (PySem.W.fnOf "is_start" "is_start" (defArgs st8) (defBody st8) (defScope st8) .none kV8 dc8 pm8 an8 cd8 ct8), sl8⟩) (c8 : PySem.W.codeIn K cd8 "is_start" = true) (k8 : PySem.W.keepIn K (.ref f8) = true)
    (a9 : PySem.W.nsIn K mainGlobals "is_day" = some (some (.ref f9))) (l9 : K.lookup f9 = some ⟨oc9, od9, .func (PySem.W.fnOf "is_day" "is_day" (defArgs st9) (defBody st9) (defScope st9) .none kV9 dc9 pm9 an9 cd9 ct9), sl9⟩) (c9 : PySem.W.codeIn K cd9 "is_day" = true) (k9 : PySem.W.keepIn K (.ref f9) = true)
    (a10 : PySem.W.nsIn K mainGlobals "is_feast" = some (some (.ref f10))) (l10 : K.lookup f10 = some ⟨oc10, od10, .func (PySem.W.fnOf "is_feast" "is_feast" (defArgs st10) (defBody st10) (defScope st10) .none kV10 dc10 pm10 an10 cd10 ct10), sl10⟩) (c10 : PySem.W.codeIn K cd10 "is_feast" = true) (k10 : PySem.W.keepIn K (.ref f10) = true)
    (a11 : PySem.W.nsIn K mainGlobals "is_week" = some (some (.ref f11))) (l11 : K.lookup f11 = some ⟨oc11, od11, .func (PySem.W.fnOf "is_week" "is_week" (defArgs st11) (defBody st11) (defScope st11) .none kV11 dc11 pm11 an11 cd11 ct11), sl11⟩) (c11 : PySem.W.codeIn K cd11 "is_week" = true) (k11 : PySem.W.keepIn K (.ref f11) = true)
    (a12 : PySem.W.nsIn K mainGlobals "day_of" = some (some (.ref f12))) (l12 : K.lookup f12 = some ⟨oc12, od12, .func (PySem.W.fnOf "day_of" "day_of" (defArgs st12) (defBody st12) (defScope st12) .none kV12 dc12 pm12 an12 cd12 ct12), sl12⟩) (c12 : PySem.W.codeIn K cd12 "day_of" = true) (k12 : PySem.W.keepIn K (.ref f12) = true)
    (a13 : PySem.W.nsIn K mainGlobals "band_at" = some (some (.ref f13))) (l13 : K.lookup f13 = some ⟨oc13, od13, .func (PySem.W.fnOf "band_at" "band_at" (defArgs st13) (defBody st13) (defScope st13) .none kV13 dc13 pm13 an13 cd13 ct13), sl13⟩) (c13 : PySem.W.codeIn K cd13 "band_at" = true) (k13 : PySem.W.keepIn K (.ref f13) = true)
    (a14 : PySem.W.nsIn K mainGlobals "band" = some (some (.ref f14))) (l14 : K.lookup f14 = some ⟨oc14, od14, .func (PySem.W.fnOf "band" "band" (defArgs st14) (defBody st14) (defScope st14) .none kV14 dc14 pm14 an14 cd14 ct14), sl14⟩) (c14 : PySem.W.codeIn K cd14 "band" = true) (k14 : PySem.W.keepIn K (.ref f14) = true)
    (a15 : PySem.W.nsIn K mainGlobals "_law_so" = some (some (.ref f15))) (l15 : K.lookup f15 = some ⟨oc15, od15, .func (PySem.W.fnOf "_law_so" "_law_so" (defArgs st15) (defBody st15) (defScope st15) .none kV15 dc15 pm15 an15 cd15 ct15), sl15⟩) (c15 : PySem.W.codeIn K cd15 "_law_so" = true) (k15 : PySem.W.keepIn K (.ref f15) = true)
    (a16 : PySem.W.nsIn K mainGlobals "_law_numbers" = some (some (.ref f16))) (l16 : K.lookup f16 = some ⟨oc16, od16, .func (PySem.W.fnOf "_law_numbers" "_law_numbers" (defArgs st16) (defBody st16) (defScope st16) .none kV16 dc16 pm16 an16 cd16 ct16), sl16⟩) (c16 : PySem.W.codeIn K cd16 "_law_numbers" = true) (k16 : PySem.W.keepIn K (.ref f16) = true)
    (a17 : PySem.W.nsIn K mainGlobals "_law_draw" = some (some (.ref f17))) (l17 : K.lookup f17 = some ⟨oc17, od17, .func (PySem.W.fnOf "_law_draw" "_law_draw" (defArgs st17) (defBody st17) (defScope st17) .none kV17 dc17 pm17 an17 cd17 ct17), sl17⟩) (c17 : PySem.W.codeIn K cd17 "_law_draw" = true) (k17 : PySem.W.keepIn K (.ref f17) = true)
    (a18 : PySem.W.nsIn K mainGlobals "_law_take" = some (some (.ref f18))) (l18 : K.lookup f18 = some ⟨oc18, od18, .func (PySem.W.fnOf "_law_take" "_law_take" (defArgs st18) (defBody st18) (defScope st18) .none kV18 dc18 pm18 an18 cd18 ct18), sl18⟩) (c18 : PySem.W.codeIn K cd18 "_law_take" = true) (k18 : PySem.W.keepIn K (.ref f18) = true)
    (a19 : PySem.W.nsIn K mainGlobals "_law_wide" = some (some (.ref f19))) (l19 : K.lookup f19 = some ⟨oc19, od19, .func (PySem.W.fnOf "_law_wide" "_law_wide" (defArgs st19) (defBody st19) (defScope st19) .none kV19 dc19 pm19 an19 cd19 ct19), sl19⟩) (c19 : PySem.W.codeIn K cd19 "_law_wide" = true) (k19 : PySem.W.keepIn K (.ref f19) = true)
    (a20 : PySem.W.nsIn K mainGlobals "_law_whole" = some (some (.ref f20))) (l20 : K.lookup f20 = some ⟨oc20, od20, .func (PySem.W.fnOf "_law_whole" "_law_whole" (defArgs st20) (defBody st20) (defScope st20) .none kV20 dc20 pm20 an20 cd20 ct20), sl20⟩) (c20 : PySem.W.codeIn K cd20 "_law_whole" = true) (k20 : PySem.W.keepIn K (.ref f20) = true)
    (a21 : PySem.W.nsIn K mainGlobals "_law_listed" = some (some (.ref f21))) (l21 : K.lookup f21 = some ⟨oc21, od21, .func (PySem.W.fnOf "_law_listed" "_law_listed" (defArgs st21) (defBody st21) (defScope st21) .none kV21 dc21 pm21 an21 cd21 ct21), sl21⟩) (c21 : PySem.W.codeIn K cd21 "_law_listed" = true) (k21 : PySem.W.keepIn K (.ref f21) = true)
    (a22 : PySem.W.nsIn K mainGlobals "_law_either" = some (some (.ref f22))) (l22 : K.lookup f22 = some ⟨oc22, od22, .func (PySem.W.fnOf "_law_either" "_law_either" (defArgs st22) (defBody st22) (defScope st22) .none kV22 dc22 pm22 an22 cd22 ct22), sl22⟩) (c22 : PySem.W.codeIn K cd22 "_law_either" = true) (k22 : PySem.W.keepIn K (.ref f22) = true)
    (a23 : PySem.W.nsIn K mainGlobals "_law_handed" = some (some (.ref f23))) (l23 : K.lookup f23 = some ⟨oc23, od23, .func (PySem.W.fnOf "_law_handed" "_law_handed" (defArgs st23) (defBody st23) (defScope st23) .none kV23 dc23 pm23 an23 cd23 ct23), sl23⟩) (c23 : PySem.W.codeIn K cd23 "_law_handed" = true) (k23 : PySem.W.keepIn K (.ref f23) = true)
    (a24 : PySem.W.nsIn K mainGlobals "_law_pick" = some (some (.ref f24))) (l24 : K.lookup f24 = some ⟨oc24, od24, .func (PySem.W.fnOf "_law_pick" "_law_pick" (defArgs st24) (defBody st24) (defScope st24) .none kV24 dc24 pm24 an24 cd24 ct24), sl24⟩) (c24 : PySem.W.codeIn K cd24 "_law_pick" = true) (k24 : PySem.W.keepIn K (.ref f24) = true)
    (a25 : PySem.W.nsIn K mainGlobals "_law_between" = some (some (.ref f25))) (l25 : K.lookup f25 = some ⟨oc25, od25, .func (PySem.W.fnOf "_law_between" "_law_between" (defArgs st25) (defBody st25) (defScope st25) .none kV25 dc25 pm25 an25 cd25 ct25), sl25⟩) (c25 : PySem.W.codeIn K cd25 "_law_between" = true) (k25 : PySem.W.keepIn K (.ref f25) = true)
    (a26 : PySem.W.nsIn K mainGlobals "_law_is_word" = some (some (.ref f26))) (l26 : K.lookup f26 = some ⟨oc26, od26, .func (PySem.W.fnOf "_law_is_word" "_law_is_word" (defArgs st26) (defBody st26) (defScope st26) .none kV26 dc26 pm26 an26 cd26 ct26), sl26⟩) (c26 : PySem.W.codeIn K cd26 "_law_is_word" = true) (k26 : PySem.W.keepIn K (.ref f26) = true)
    (a27 : PySem.W.nsIn K mainGlobals "_law_is_day" = some (some (.ref f27))) (l27 : K.lookup f27 = some ⟨oc27, od27, .func (PySem.W.fnOf "_law_is_day" "_law_is_day" (defArgs st27) (defBody st27) (defScope st27) .none kV27 dc27 pm27 an27 cd27 ct27), sl27⟩) (c27 : PySem.W.codeIn K cd27 "_law_is_day" = true) (k27 : PySem.W.keepIn K (.ref f27) = true)
    (a28 : PySem.W.nsIn K mainGlobals "_law_is_week" = some (some (.ref f28))) (l28 : K.lookup f28 = some ⟨oc28, od28, .func (PySem.W.fnOf "_law_is_week" "_law_is_week" (defArgs st28) (defBody st28) (defScope st28) .none kV28 dc28 pm28 an28 cd28 ct28), sl28⟩) (c28 : PySem.W.codeIn K cd28 "_law_is_week" = true) (k28 : PySem.W.keepIn K (.ref f28) = true)
    (a29 : PySem.W.nsIn K mainGlobals "_law_day_row" = some (some (.ref f29))) (l29 : K.lookup f29 = some ⟨oc29, od29, .func (PySem.W.fnOf "_law_day_row" "_law_day_row" (defArgs st29) (defBody st29) (defScope st29) .none kV29 dc29 pm29 an29 cd29 ct29), sl29⟩) (c29 : PySem.W.codeIn K cd29 "_law_day_row" = true) (k29 : PySem.W.keepIn K (.ref f29) = true)
    (a30 : PySem.W.nsIn K mainGlobals "_law_band" = some (some (.ref f30))) (l30 : K.lookup f30 = some ⟨oc30, od30, .func (PySem.W.fnOf "_law_band" "_law_band" (defArgs st30) (defBody st30) (defScope st30) .none kV30 dc30 pm30 an30 cd30 ct30), sl30⟩) (c30 : PySem.W.codeIn K cd30 "_law_band" = true) (k30 : PySem.W.keepIn K (.ref f30) = true)
    (a31 : PySem.W.nsIn K mainGlobals "_law_day" = some (some (.ref f31))) (l31 : K.lookup f31 = some ⟨oc31, od31, .func (PySem.W.fnOf "_law_day" "_law_day" (defArgs st31) (defBody st31) (defScope st31) .none kV31 dc31 pm31 an31 cd31 ct31), sl31⟩) (c31 : PySem.W.codeIn K cd31 "_law_day" = true) (k31 : PySem.W.keepIn K (.ref f31) = true)
    (a32 : PySem.W.nsIn K mainGlobals "_law_week" = some (some (.ref f32))) (l32 : K.lookup f32 = some ⟨oc32, od32, .func (PySem.W.fnOf "_law_week" "_law_week" (defArgs st32) (defBody st32) (defScope st32) .none kV32 dc32 pm32 an32 cd32 ct32), sl32⟩) (c32 : PySem.W.codeIn K cd32 "_law_week" = true) (k32 : PySem.W.keepIn K (.ref f32) = true)
    (a33 : PySem.W.nsIn K mainGlobals "_law_part_changed" = some (some (.ref f33))) (l33 : K.lookup f33 = some ⟨oc33, od33, .func (PySem.W.fnOf "_law_part_changed" "_law_part_changed" (defArgs st33) (defBody st33) (defScope st33) .none kV33 dc33 pm33 an33 cd33 ct33), sl33⟩) (c33 : PySem.W.codeIn K cd33 "_law_part_changed" = true) (k33 : PySem.W.keepIn K (.ref f33) = true)
    (a34 : PySem.W.nsIn K mainGlobals "_law_told" = some (some (.ref f34))) (l34 : K.lookup f34 = some ⟨oc34, od34, .func (PySem.W.fnOf "_law_told" "_law_told" (defArgs st34) (defBody st34) (defScope st34) .none kV34 dc34 pm34 an34 cd34 ct34), sl34⟩) (c34 : PySem.W.codeIn K cd34 "_law_told" = true) (k34 : PySem.W.keepIn K (.ref f34) = true)
    (a35 : PySem.W.nsIn K mainGlobals "law" = some (some (.ref f35))) (l35 : K.lookup f35 = some ⟨oc35, od35, .func (PySem.W.fnOf "law" "law" (defArgs st35) (defBody st35) (defScope st35) .none kV35 dc35 pm35 an35 cd35 ct35), sl35⟩) (c35 : PySem.W.codeIn K cd35 "law" = true) (k35 : PySem.W.keepIn K (.ref f35) = true)
    (z_len : PySem.W.nsIn K mainGlobals "len" = some none)
    (z_int : PySem.W.nsIn K mainGlobals "int" = some none)
    (z_isinstance : PySem.W.nsIn K mainGlobals "isinstance" = some none)
    (z_range : PySem.W.nsIn K mainGlobals "range" = some none)
    (z_all : PySem.W.nsIn K mainGlobals "all" = some none)
    (z_any : PySem.W.nsIn K mainGlobals "any" = some none)
    (z_sum : PySem.W.nsIn K mainGlobals "sum" = some none)
    (z_max : PySem.W.nsIn K mainGlobals "max" = some none)
    (z_min : PySem.W.nsIn K mainGlobals "min" = some none)
    (z_str : PySem.W.nsIn K mainGlobals "str" = some none)
    (z_tuple : PySem.W.nsIn K mainGlobals "tuple" = some none)
    (z_list : PySem.W.nsIn K mainGlobals "list" = some none)
    (z_sorted : PySem.W.nsIn K mainGlobals "sorted" = some none)
    (z_zip : PySem.W.nsIn K mainGlobals "zip" = some none)
    (z_bool : PySem.W.nsIn K mainGlobals "bool" = some none)
    (z_dict : PySem.W.nsIn K mainGlobals "dict" = some none)
    (n_LAST_SECOND : PySem.W.nsIn K mainGlobals "LAST_SECOND" = some (some (.int 100000000 t_LAST_SECOND)))
    (n_DAY : PySem.W.nsIn K mainGlobals "DAY" = some (some (.int 86400 t_DAY)))
    (n_FEAST : PySem.W.nsIn K mainGlobals "FEAST" = some (some (.int 7 t_FEAST)))
    (eC : PySem.W.nsIn K mainGlobals "BadValue" = some (some (.ref C)))
    (eB : PySem.W.nsIn K mainGlobals "SecondError" = some (some (.ref B)))
    (xL : K.lookup C = some (excClassObj nmE qE C NE bsE [.ref B, .type "Exception", .type "BaseException", .type "object"] true snE subE abE colE ddE mE0 mE1 mE2 mE3 mE5 "Exception.__new__"))
    (e_sa : PySem.W.findIn K (.ref C) "__setattr__" = some (some (.builtin "object.__setattr__")))
    (e_ga : PySem.W.findIn K (.ref C) "__getattribute__" = some (some (.builtin "BaseException.__getattribute__")))
    (e_gg : PySem.W.findIn K (.ref C) "__getattr__" = some none)
    (e_nf : PySem.W.findIn K (.ref C) "at" = some none)
    (e_kC : PySem.W.keepIn K (.ref C) = true)
    (e_ex : PySem.W.subIn K (.ref C) (.type "BaseException") = some true)
    (e_ty : PySem.W.typeIn K (.ref C) = some (.type "type"))
    (e_hd : PySem.W.hasDictIn K C = true)
    (e_is : PySem.W.isClsIn K C = true)
    (e_se : PySem.W.subIn K (.ref C) (.ref C) = some true)
    (e_tb : PySem.W.typeIn K (.ref B) = some (.type "type"))
    (e_sp : PySem.W.specialIn K (.ref B) "__getattribute__" = some (some (.builtin "type.__getattribute__")))
    (e_rd : PySem.W.readsIn K B (.type "type") = true)
    (e_fi : PySem.W.findCls K (.ref B) (.type "type") "__init__" = some (.val (.builtin "Exception.__init__")))
    (e_in : PySem.W.findIn K (.ref C) "__init__" = some (some (.ref fI)))
    (e_ti : PySem.W.typeIn K (.ref fI) = some (.type "function"))
    (lI : K.lookup fI = some ⟨ocI, odI, .func (PySem.W.fnOf "__init__" "BadValue.__init__" (defArgs stE) (defBody stE) (defScope stE) .none kVI dcI pmI anI cdI ctI), slI⟩)
    (cI : PySem.W.codeIn K cdI "BadValue.__init__" = true)
    (kI : PySem.W.keepIn K (.ref fI) = true) :
    ∃ fd : FuncData, (∀ (s : Shared) (v : Value), BindsTo s fd ⟨[v], []⟩ [("script", v)]) ∧ ∀ base : Heap, K.In base → base.Ns mainGlobals mg → FnOk l.prog w K mg base CX0 (lv + 3) fa0 fd ["script"] (spLawP K) := by
  have e := hfa.symm.trans (PySem.W.mg_of X G a35)
  cases e
  have bt : Bt mg := ⟨PySem.W.mg_none_of X G z_len, PySem.W.mg_none_of X G z_int, PySem.W.mg_none_of X G z_isinstance, PySem.W.mg_none_of X G z_range, PySem.W.mg_none_of X G z_all, PySem.W.mg_none_of X G z_any, PySem.W.mg_none_of X G z_sum, PySem.W.mg_none_of X G z_max, PySem.W.mg_none_of X G z_min, PySem.W.mg_none_of X G z_str, PySem.W.mg_none_of X G z_tuple, PySem.W.mg_none_of X G z_list, PySem.W.mg_none_of X G z_sorted, PySem.W.mg_none_of X G z_zip, PySem.W.mg_none_of X G z_bool, PySem.W.mg_none_of X G z_dict⟩
  have hc : Cst mg := ⟨⟨_, PySem.W.mg_of X G n_LAST_SECOND⟩, ⟨_, PySem.W.mg_of X G n_DAY⟩, ⟨_, PySem.W.mg_of X G n_FEAST⟩⟩
  have TE : ErrC K mg "BadValue" "SecondError" "at" C B := ⟨PySem.W.mg_of X G eC, ⟨_, _, _, _, _, _, _, _, _, _, _, _, _, _, xL⟩, e_sa, e_ga, e_gg, e_nf, e_kC, e_ex, e_ty, e_hd, e_is, e_se, PySem.W.mg_of X G eB, e_tb, e_sp, e_rd, e_fi⟩
  have FI := fun_mk (st := stE) lI cI kI
  have BI := FI.binds (ps := ["self", "at"]) fun _ _ _ _ _ _ us hl => match us, hl with | [_, _], _ => rfl
  have F0 := fun_mk (st := st0) l0 c0 k0
  have B0 := And.intro (F0.binds (ps := ps0) fun _ _ _ _ _ _ us hl => match us, hl with | [_, _], _ => rfl) (kbd_of F0 (ps := ps0) fun _ _ _ _ _ _ us hl => match us, hl with | [_, _], _ => rfl)
  have F1 := fun_mk (st := st1) l1 c1 k1
  have B1 := And.intro (F1.binds (ps := ps1) fun _ _ _ _ _ _ us hl => match us, hl with | [_], _ => rfl) (kbd_of F1 (ps := ps1) fun _ _ _ _ _ _ us hl => match us, hl with | [_], _ => rfl)
  have F2 := fun_mk (st := st2) l2 c2 k2
  have B2 := And.intro (F2.binds (ps := ps2) fun _ _ _ _ _ _ us hl => match us, hl with | [_, _, _], _ => rfl) (kbd_of F2 (ps := ps2) fun _ _ _ _ _ _ us hl => match us, hl with | [_, _, _], _ => rfl)
  have F3 := fun_mk (st := st3) l3 c3 k3
  have B3 := And.intro (F3.binds (ps := ps3) fun _ _ _ _ _ _ us hl => match us, hl with | [_], _ => rfl) (kbd_of F3 (ps := ps3) fun _ _ _ _ _ _ us hl => match us, hl with | [_], _ => rfl)
  have F4 := fun_mk (st := st4) l4 c4 k4
  have B4 := And.intro (F4.binds (ps := ps4) fun _ _ _ _ _ _ us hl => match us, hl with | [_], _ => rfl) (kbd_of F4 (ps := ps4) fun _ _ _ _ _ _ us hl => match us, hl with | [_], _ => rfl)
  have F5 := fun_mk (st := st5) l5 c5 k5
  have B5 := And.intro (F5.binds (ps := ps5) fun _ _ _ _ _ _ us hl => match us, hl with | [_, _, _], _ => rfl) (kbd_of F5 (ps := ps5) fun _ _ _ _ _ _ us hl => match us, hl with | [_, _, _], _ => rfl)
  have F6 := fun_mk (st := st6) l6 c6 k6
  have B6 := And.intro (F6.binds (ps := ps6) fun _ _ _ _ _ _ us hl => match us, hl with | [_, _, _, _], _ => rfl) (kbd_of F6 (ps := ps6) fun _ _ _ _ _ _ us hl => match us, hl with | [_, _, _, _], _ => rfl)
  have F7 := fun_mk (st := st7) l7 c7 k7
  have B7 := And.intro (F7.binds (ps := ps7) fun _ _ _ _ _ _ us hl => match us, hl with | [_], _ => rfl) (kbd_of F7 (ps := ps7) fun _ _ _ _ _ _ us hl => match us, hl with | [_], _ => rfl)
  have F8 := fun_mk (st := st8) l8 c8 k8
  have B8 := And.intro (F8.binds (ps := ps8) fun _ _ _ _ _ _ us hl => match us, hl with | [_], _ => rfl) (kbd_of F8 (ps := ps8) fun _ _ _ _ _ _ us hl => match us, hl with | [_], _ => rfl)
  have F9 := fun_mk (st := st9) l9 c9 k9
  have B9 := And.intro (F9.binds (ps := ps9) fun _ _ _ _ _ _ us hl => match us, hl with | [_], _ => rfl) (kbd_of F9 (ps := ps9) fun _ _ _ _ _ _ us hl => match us, hl with | [_], _ => rfl)
  have F10 := fun_mk (st := st10) l10 c10 k10
  have B10 := And.intro (F10.binds (ps := ps10) fun _ _ _ _ _ _ us hl => match us, hl with | [_], _ => rfl) (kbd_of F10 (ps := ps10) fun _ _ _ _ _ _ us hl => match us, hl with | [_], _ => rfl)
  have F11 := fun_mk (st := st11) l11 c11 k11
  have B11 := And.intro (F11.binds (ps := ps11) fun _ _ _ _ _ _ us hl => match us, hl with | [_], _ => rfl) (kbd_of F11 (ps := ps11) fun _ _ _ _ _ _ us hl => match us, hl with | [_], _ => rfl)
  have F12 := fun_mk (st := st12) l12 c12 k12
  have B12 := And.intro (F12.binds (ps := ps12) fun _ _ _ _ _ _ us hl => match us, hl with | [_, _], _ => rfl) (kbd_of F12 (ps := ps12) fun _ _ _ _ _ _ us hl => match us, hl with | [_, _], _ => rfl)
  have F13 := fun_mk (st := st13) l13 c13 k13
  have B13 := And.intro (F13.binds (ps := ps13) fun _ _ _ _ _ _ us hl => match us, hl with | [_, _], _ => rfl) (kbd_of F13 (ps := ps13) fun _ _ _ _ _ _ us hl => match us, hl with | [_, _], _ => rfl)
  have F14 := fun_mk (st := st14) l14 c14 k14
  have B14 := And.intro (F14.binds (ps := ps14) fun _ _ _ _ _ _ us hl => match us, hl with | [_, _], _ => rfl) (kbd_of F14 (ps := ps14) fun _ _ _ _ _ _ us hl => match us, hl with | [_, _], _ => rfl)
  have F15 := fun_mk (st := st15) l15 c15 k15
  have B15 := And.intro (F15.binds (ps := ps15) fun _ _ _ _ _ _ us hl => match us, hl with | [_, _], _ => rfl) (kbd_of F15 (ps := ps15) fun _ _ _ _ _ _ us hl => match us, hl with | [_, _], _ => rfl)
  have F16 := fun_mk (st := st16) l16 c16 k16
  have B16 := And.intro (F16.binds (ps := ps16) fun _ _ _ _ _ _ us hl => match us, hl with | [_], _ => rfl) (kbd_of F16 (ps := ps16) fun _ _ _ _ _ _ us hl => match us, hl with | [_], _ => rfl)
  have F17 := fun_mk (st := st17) l17 c17 k17
  have B17 := And.intro (F17.binds (ps := ps17) fun _ _ _ _ _ _ us hl => match us, hl with | [_, _, _], _ => rfl) (kbd_of F17 (ps := ps17) fun _ _ _ _ _ _ us hl => match us, hl with | [_, _, _], _ => rfl)
  have F18 := fun_mk (st := st18) l18 c18 k18
  have B18 := And.intro (F18.binds (ps := ps18) fun _ _ _ _ _ _ us hl => match us, hl with | [_, _, _], _ => rfl) (kbd_of F18 (ps := ps18) fun _ _ _ _ _ _ us hl => match us, hl with | [_, _, _], _ => rfl)
  have F19 := fun_mk (st := st19) l19 c19 k19
  have B19 := And.intro (F19.binds (ps := ps19) fun _ _ _ _ _ _ us hl => match us, hl with | [_, _, _], _ => rfl) (kbd_of F19 (ps := ps19) fun _ _ _ _ _ _ us hl => match us, hl with | [_, _, _], _ => rfl)
  have F20 := fun_mk (st := st20) l20 c20 k20
  have B20 := And.intro (F20.binds (ps := ps20) fun _ _ _ _ _ _ us hl => match us, hl with | [_], _ => rfl) (kbd_of F20 (ps := ps20) fun _ _ _ _ _ _ us hl => match us, hl with | [_], _ => rfl)
  have F21 := fun_mk (st := st21) l21 c21 k21
  have B21 := And.intro (F21.binds (ps := ps21) fun _ _ _ _ _ _ us hl => match us, hl with | [_], _ => rfl) (kbd_of F21 (ps := ps21) fun _ _ _ _ _ _ us hl => match us, hl with | [_], _ => rfl)
  have F22 := fun_mk (st := st22) l22 c22 k22
  have B22 := And.intro (F22.binds (ps := ps22) fun _ _ _ _ _ _ us hl => match us, hl with | [_, _, _], _ => rfl) (kbd_of F22 (ps := ps22) fun _ _ _ _ _ _ us hl => match us, hl with | [_, _, _], _ => rfl)
  have F23 := fun_mk (st := st23) l23 c23 k23
  have B23 := And.intro (F23.binds (ps := ps23) fun _ _ _ _ _ _ us hl => match us, hl with | [_, _, _], _ => rfl) (kbd_of F23 (ps := ps23) fun _ _ _ _ _ _ us hl => match us, hl with | [_, _, _], _ => rfl)
  have F24 := fun_mk (st := st24) l24 c24 k24
  have B24 := And.intro (F24.binds (ps := ps24) fun _ _ _ _ _ _ us hl => match us, hl with | [_, _, _], _ => rfl) (kbd_of F24 (ps := ps24) fun _ _ _ _ _ _ us hl => match us, hl with | [_, _, _], _ => rfl)
  have F25 := fun_mk (st := st25) l25 c25 k25
  have B25 := And.intro (F25.binds (ps := ps25) fun _ _ _ _ _ _ us hl => match us, hl with | [_, _, _], _ => rfl) (kbd_of F25 (ps := ps25) fun _ _ _ _ _ _ us hl => match us, hl with | [_, _, _], _ => rfl)
  have F26 := fun_mk (st := st26) l26 c26 k26
  have B26 := And.intro (F26.binds (ps := ps26) fun _ _ _ _ _ _ us hl => match us, hl with | [_], _ => rfl) (kbd_of F26 (ps := ps26) fun _ _ _ _ _ _ us hl => match us, hl with | [_], _ => rfl)
  have F27 := fun_mk (st := st27) l27 c27 k27
  have B27 := And.intro (F27.binds (ps := ps27) fun _ _ _ _ _ _ us hl => match us, hl with | [_], _ => rfl) (kbd_of F27 (ps := ps27) fun _ _ _ _ _ _ us hl => match us, hl with | [_], _ => rfl)
  have F28 := fun_mk (st := st28) l28 c28 k28
  have B28 := And.intro (F28.binds (ps := ps28) fun _ _ _ _ _ _ us hl => match us, hl with | [_], _ => rfl) (kbd_of F28 (ps := ps28) fun _ _ _ _ _ _ us hl => match us, hl with | [_], _ => rfl)
  have F29 := fun_mk (st := st29) l29 c29 k29
  have B29 := And.intro (F29.binds (ps := ps29) fun _ _ _ _ _ _ us hl => match us, hl with | [_, _], _ => rfl) (kbd_of F29 (ps := ps29) fun _ _ _ _ _ _ us hl => match us, hl with | [_, _], _ => rfl)
  have F30 := fun_mk (st := st30) l30 c30 k30
  have B30 := And.intro (F30.binds (ps := ps30) fun _ _ _ _ _ _ us hl => match us, hl with | [_, _], _ => rfl) (kbd_of F30 (ps := ps30) fun _ _ _ _ _ _ us hl => match us, hl with | [_, _], _ => rfl)
  have F31 := fun_mk (st := st31) l31 c31 k31
  have B31 := And.intro (F31.binds (ps := ps31) fun _ _ _ _ _ _ us hl => match us, hl with | [_, _], _ => rfl) (kbd_of F31 (ps := ps31) fun _ _ _ _ _ _ us hl => match us, hl with | [_, _], _ => rfl)
  have F32 := fun_mk (st := st32) l32 c32 k32
  have B32 := And.intro (F32.binds (ps := ps32) fun _ _ _ _ _ _ us hl => match us, hl with | [_, _], _ => rfl) (kbd_of F32 (ps := ps32) fun _ _ _ _ _ _ us hl => match us, hl with | [_, _], _ => rfl)
  have F33 := fun_mk (st := st33) l33 c33 k33
  have B33 := And.intro (F33.binds (ps := ps33) fun _ _ _ _ _ _ us hl => match us, hl with | [_, _, _], _ => rfl) (kbd_of F33 (ps := ps33) fun _ _ _ _ _ _ us hl => match us, hl with | [_, _, _], _ => rfl)
  have F34 := fun_mk (st := st34) l34 c34 k34
  have B34 := And.intro (F34.binds (ps := ps34) fun _ _ _ _ _ _ us hl => match us, hl with | [_, _], _ => rfl) (kbd_of F34 (ps := ps34) fun _ _ _ _ _ _ us hl => match us, hl with | [_, _], _ => rfl)
  have F35 := fun_mk (st := st35) l35 c35 k35
  have B35 := And.intro (F35.binds (ps := ps35) fun _ _ _ _ _ _ us hl => match us, hl with | [_], _ => rfl) (kbd_of F35 (ps := ps35) fun _ _ _ _ _ _ us hl => match us, hl with | [_], _ => rfl)
  refine ⟨PySem.W.fnOf "law" "law" (defArgs st35) (defBody st35) (defScope st35) .none kV35 dc35 pm35 an35 cd35 ct35, fun s v => .of_eq rfl, fun base _ _ => ?_⟩
  have re : ErrOk l.prog w K mg base C := ⟨⟨B, fI, _, TE, e_in, e_ti, okE FI TE, BI⟩⟩
  have T : Tbl l.prog w K mg base (lv + 2) (fas f0 f1 f2 f3 f4 f5 f6 f7 f8 f9 f10 f11 f12 f13 f14 f15 f16 f17 f18 f19 f20 f21 f22 f23 f24 f25 f26 f27 f28 f29 f30 f31 f32 f33 f34 fa0) (spC K (fas f0 f1 f2 f3 f4 f5 f6 f7 f8 f9 f10 f11 f12 f13 f14 f15 f16 f17 f18 f19 f20 f21 f22 f23 f24 f25 f26 f27 f28 f29 f30 f31 f32 f33 f34 fa0) C (callF prog lv)) tb nm pn := lev re bt hc F0 (PySem.W.mg_of X G a0) F1 (PySem.W.mg_of X G a1) F2 (PySem.W.mg_of X G a2) F3 (PySem.W.mg_of X G a3) F4 (PySem.W.mg_of X G a4) F5 (PySem.W.mg_of X G a5) F6 (PySem.W.mg_of X G a6) F7 (PySem.W.mg_of X G a7) F8 (PySem.W.mg_of X G a8) F9 (PySem.W.mg_of X G a9) F10 (PySem.W.mg_of X G a10) F11 (PySem.W.mg_of X G a11) F12 (PySem.W.mg_of X G a12) F13 (PySem.W.mg_of X G a13) F14 (PySem.W.mg_of X G a14) F15 (PySem.W.mg_of X G a15) F16 (PySem.W.mg_of X G a16) F17 (PySem.W.mg_of X G a17) F18 (PySem.W.mg_of X G a18) F19 (PySem.W.mg_of X G a19) F20 (PySem.W.mg_of X G a20) F21 (PySem.W.mg_of X G a21) F22 (PySem.W.mg_of X G a22) F23 (PySem.W.mg_of X G a23) F24 (PySem.W.mg_of X G a24) F25 (PySem.W.mg_of X G a25) F26 (PySem.W.mg_of X G a26) F27 (PySem.W.mg_of X G a27) F28 (PySem.W.mg_of X G a28) F29 (PySem.W.mg_of X G a29) F30 (PySem.W.mg_of X G a30) F31 (PySem.W.mg_of X G a31) F32 (PySem.W.mg_of X G a32) F33 (PySem.W.mg_of X G a33) F34 (PySem.W.mg_of X G a34) F35 (PySem.W.mg_of X G a35) B0 B1 B2 B3 B4 B5 B6 B7 B8 B9 B10 B11 B12 B13 B14 B15 B16 B17 B18 B19 B20 B21 B22 B23 B24 B25 B26 B27 B28 B29 B30 B31 B32 B33 B34 B35 lv
  exact fn_noX ((ok35 F35 T re bt hc).imp fun vs H Q E ⟨a, ns, e, hS, hl, q⟩ => by
    subst e
    exact sp_law M hl hS q) fun _ _ _ _ z => z
theorem walk {l : PySem.W.OpenLaw} {q : Program} {loose : List Str} {XP : (Str → Option Value) → Heap → Prop} {YP : World → Heap → Prop} {d : DefRec} {K : Params → PySem.W.Frag} {lv : Nat} (hr : Room (lv + 3) callerA) (hn : l.most = some 63) (hdf : d.params.defaults = [])
    (hY : ∀ (w : World) (h : Heap), YP w h → (K w.params).In h)
    (F : ∀ (w : World) (mg : Str → Option Value) (fa0 : Addr) (h : Heap), (K w.params).In h → h.Ns mainGlobals mg → mg d.name = some (.ref fa0) →
      ∃ fd : FuncData, (∀ (s : Shared) (u : Value), BindsTo s fd ⟨[u], []⟩ [("script", u)]) ∧ ∀ base : Heap, (K w.params).In base → base.Ns mainGlobals mg → FnOk l.prog w (K w.params) mg base CX0 (lv + 3) fa0 fd ["script"] (spLawP (K w.params))) :
    PySem.W.WalkO q loose XP YP l.row.toRowW d [] (fun f vs => PySem.call f vs) :=
  L2.walk_of (n := 63) (k := lv + 3) (x := "script") (CX := fun _ => CX0) (sp := fun w => spLawP (K w.params)) hn (by decide) hdf hr hY F (fun w H a ns hl _ hS => ⟨a, ns, rfl, hS, hl, fun _ => rfl⟩) fun _ _ _ _ _ z => z
end Pg

set_option Elab.async false
set_option maxRecDepth 100000
namespace Pg
open Pv
theorem t05 : T05 prog where
  ix := ⟨⟨rfl, rfl, rfl, rfl, rfl, rfl, rfl, rfl, rfl, rfl, rfl, rfl, rfl⟩, rfl⟩
  lx := ⟨rfl, rfl, rfl, rfl, rfl, rfl, rfl, rfl, rfl⟩
  p14 := rfl
  p20 := rfl
  p25 := rfl
  p26 := rfl
  p27 := rfl
  p28 := rfl
  p29 := rfl
  p30 := rfl
  p31 := rfl
  p32 := rfl
  p33 := rfl
  p34 := rfl
  p35 := rfl
theorem meant : Meant 41 := fun ns _ => law05 t05
end Pg

set_option Elab.async false
open PySem PySem.W PyProof.Rows
set_option maxRecDepth 100000 in
set_option maxHeartbeats 0 in
theorem PySem.Challenge.cw_eachsecond_k05_weeks_and_bands_holds : PySem.Challenge.rw_eachsecond_k05_weeks_and_bands.Holds := by
  w_on; o_law; k_head; (case hw => w_witness2)
  k_fill
  refine Pg.walk (l := PySem.Challenge.rw_eachsecond_k05_weeks_and_bands) (lv := 40) ⟨rfl, by decide, by decide⟩ rfl rfl (fun w h Y => PySem.W.kIn_of Y) ?F
  case F =>
    intro w mg fa h KX G hmg
    refine' Pg.all_mk KX G hmg Pg.meant ?a0 ?l0 ?c0 ?k0 ?a1 ?l1 ?c1 ?k1 ?a2 ?l2 ?c2 ?k2 ?a3 ?l3 ?c3 ?k3 ?a4 ?l4 ?c4 ?k4 ?a5 ?l5 ?c5 ?k5 ?a6 ?l6 ?c6 ?k6 ?a7 ?l7 ?c7 ?k7 ?a8 ?l8 ?c8 ?k8 ?a9 ?l9 ?c9 ?k9 ?a10 ?l10 ?c10 ?k10 ?a11 ?l11 ?c11 ?k11 ?a12 ?l12 ?c12 ?k12 ?a13 ?l13 ?c13 ?k13 ?a14 ?l14 ?c14 ?k14 ?a15 ?l15 ?c15 ?k15 ?a16 ?l16 ?c16 ?k16 ?a17 ?l17 ?c17 ?k17 ?a18 ?l18 ?c18 ?k18 ?a19 ?l19 ?c19 ?k19 ?a20 ?l20 ?c20 ?k20 ?a21 ?l21 ?c21 ?k21 ?a22 ?l22 ?c22 ?k22 ?a23 ?l23 ?c23 ?k23 ?a24 ?l24 ?c24 ?k24 ?a25 ?l25 ?c25 ?k25 ?a26 ?l26 ?c26 ?k26 ?a27 ?l27 ?c27 ?k27 ?a28 ?l28 ?c28 ?k28 ?a29 ?l29 ?c29 ?k29 ?a30 ?l30 ?c30 ?k30 ?a31 ?l31 ?c31 ?k31 ?a32 ?l32 ?c32 ?k32 ?a33 ?l33 ?c33 ?k33 ?a34 ?l34 ?c34 ?k34 ?a35 ?l35 ?c35 ?k35 ?z_len ?z_int ?z_isinstance ?z_range ?z_all ?z_any ?z_sum ?z_max ?z_min ?z_str ?z_tuple ?z_list ?z_sorted ?z_zip ?z_bool ?z_dict ?n_LAST_SECOND ?n_DAY ?n_FEAST ?eC ?eB ?xL ?e_sa ?e_ga ?e_gg ?e_nf ?e_kC ?e_ex ?e_ty ?e_hd ?e_is ?e_se ?e_tb ?e_sp ?e_rd ?e_fi ?e_in ?e_ti ?lI ?cI ?kI
    (case a0 => k_is); (case l0 => k_is); (case c0 => k_is); (case k0 => k_is)
    (case a1 => k_is); (case l1 => k_is); (case c1 => k_is); (case k1 => k_is)
    (case a2 => k_is); (case l2 => k_is); (case c2 => k_is); (case k2 => k_is)
    (case a3 => k_is); (case l3 => k_is); (case c3 => k_is); (case k3 => k_is)
    (case a4 => k_is); (case l4 => k_is); (case c4 => k_is); (case k4 => k_is)
    (case a5 => k_is); (case l5 => k_is); (case c5 => k_is); (case k5 => k_is)
    (case a6 => k_is); (case l6 => k_is); (case c6 => k_is); (case k6 => k_is)
    (case a7 => k_is); (case l7 => k_is); (case c7 => k_is); (case k7 => k_is)
    (case a8 => k_is); (case l8 => k_is); (case c8 => k_is); (case k8 => k_is)
    (case a9 => k_is); (case l9 => k_is); (case c9 => k_is); (case k9 => k_is)
    (case a10 => k_is); (case l10 => k_is); (case c10 => k_is); (case k10 => k_is)
    (case a11 => k_is); (case l11 => k_is); (case c11 => k_is); (case k11 => k_is)
    (case a12 => k_is); (case l12 => k_is); (case c12 => k_is); (case k12 => k_is)
    (case a13 => k_is); (case l13 => k_is); (case c13 => k_is); (case k13 => k_is)
    (case a14 => k_is); (case l14 => k_is); (case c14 => k_is); (case k14 => k_is)
    (case a15 => k_is); (case l15 => k_is); (case c15 => k_is); (case k15 => k_is)
    (case a16 => k_is); (case l16 => k_is); (case c16 => k_is); (case k16 => k_is)
    (case a17 => k_is); (case l17 => k_is); (case c17 => k_is); (case k17 => k_is)
    (case a18 => k_is); (case l18 => k_is); (case c18 => k_is); (case k18 => k_is)
    (case a19 => k_is); (case l19 => k_is); (case c19 => k_is); (case k19 => k_is)
    (case a20 => k_is); (case l20 => k_is); (case c20 => k_is); (case k20 => k_is)
    (case a21 => k_is); (case l21 => k_is); (case c21 => k_is); (case k21 => k_is)
    (case a22 => k_is); (case l22 => k_is); (case c22 => k_is); (case k22 => k_is)
    (case a23 => k_is); (case l23 => k_is); (case c23 => k_is); (case k23 => k_is)
    (case a24 => k_is); (case l24 => k_is); (case c24 => k_is); (case k24 => k_is)
    (case a25 => k_is); (case l25 => k_is); (case c25 => k_is); (case k25 => k_is)
    (case a26 => k_is); (case l26 => k_is); (case c26 => k_is); (case k26 => k_is)
    (case a27 => k_is); (case l27 => k_is); (case c27 => k_is); (case k27 => k_is)
    (case a28 => k_is); (case l28 => k_is); (case c28 => k_is); (case k28 => k_is)
    (case a29 => k_is); (case l29 => k_is); (case c29 => k_is); (case k29 => k_is)
    (case a30 => k_is); (case l30 => k_is); (case c30 => k_is); (case k30 => k_is)
    (case a31 => k_is); (case l31 => k_is); (case c31 => k_is); (case k31 => k_is)
    (case a32 => k_is); (case l32 => k_is); (case c32 => k_is); (case k32 => k_is)
    (case a33 => k_is); (case l33 => k_is); (case c33 => k_is); (case k33 => k_is)
    (case a34 => k_is); (case l34 => k_is); (case c34 => k_is); (case k34 => k_is)
    (case a35 => k_is); (case l35 => k_is); (case c35 => k_is); (case k35 => k_is)
    (case z_len => k_is)
    (case z_int => k_is)
    (case z_isinstance => k_is)
    (case z_range => k_is)
    (case z_all => k_is)
    (case z_any => k_is)
    (case z_sum => k_is)
    (case z_max => k_is)
    (case z_min => k_is)
    (case z_str => k_is)
    (case z_tuple => k_is)
    (case z_list => k_is)
    (case z_sorted => k_is)
    (case z_zip => k_is)
    (case z_bool => k_is)
    (case z_dict => k_is)
    (case n_LAST_SECOND => k_is)
    (case n_DAY => k_is)
    (case n_FEAST => k_is)
    (case eC => k_is)
    (case eB => k_is)
    (case xL => k_is)
    (case e_sa => k_is)
    (case e_ga => k_is)
    (case e_gg => k_is)
    (case e_nf => k_is)
    (case e_kC => k_is)
    (case e_ex => k_is)
    (case e_ty => k_is)
    (case e_hd => k_is)
    (case e_is => k_is)
    (case e_se => first | rfl | k_is)
    (case e_tb => k_is)
    (case e_sp => k_is)
    (case e_rd => k_is)
    (case e_fi => k_is)
    (case e_in => k_is)
    (case e_ti => k_is)
    (case lI => k_is)
    (case cI => k_is)
    (case kI => k_is)
#print axioms PySem.Challenge.cw_eachsecond_k05_weeks_and_bands_holds
