import PyProof.Rows.All
import Wide.All
import OpenK.AllK
import Wide.FinOn
import HandS.ForMost
import HandS.More
import HandS.SortInts
import HandS.Zip
import KE.GoesZip
import KE.GoesMore
import KE.LtData
import KE.SortData
import HandS.Conv
import HandS.TupLe
import HandS.Wide
import HandS.IsInst
import HandS.CallLocal
import HandS.TupAny
import HandS.NoneIn
import HandS.StrMore
import HandS.Codes
import HandS.SetKeys
import HandS.Lambda
import HandS.ExcValue
import KE.KFromBytes
import HandS.ForExc
import HandS.ExcInit
import HandS.FStr
import HandS.Defaults
import KE.KLam
import KE.SortKeyHeap
import HandS.EndTab
import HandS.Sort
import KE.KTupSum
import PyProof.ListRange
import HandS.ExcIs
import HandS.TupMul
import HandS.DictComp
import HandS.Iter
import HandS.MakeKw
import HandS.TryMany
import HandS.ExcOwn
import HandS.Small
import HandS.ListItems
import PyProof.StrLawsIn
import PySem.Challenge.RW_eachsecond_k00_errors
set_option Elab.async false
set_option linter.all false
set_option maxRecDepth 100000
set_option maxHeartbeats 4000000
namespace PvR
open PySem PySem.Spec PyProof.Rows L2
def rLtD (K : PySem.W.Frag) : R2 := fun x y H Q => ∃ d e, Dp K H x d ∧ Dp K H y e ∧ PySem.W.alike d e = true ∧ d ≠ .none ∧ min d.depth e.depth ≤ 64 ∧ Q (.bl (PySem.W.dataLt d e)) H
theorem op_ltD {X : Cx} (hu : X.A.units + 64 < cLine) : OpR X (compareOp .Lt) (rLtD X.K) := by
  intro pins s σ H x y v u Q I rx ry h
  obtain ⟨d, e, hd, he, al, hn, hm, q⟩ := h
  obtain ⟨as, r1⟩ := Dp.reads I d x v hd rx
  obtain ⟨bs, r2⟩ := Dp.reads I e y u he ry
  exact PySem.W.rcLt_alike d e X.A s v u as bs r1 r2 al hn (by omega) X.prog X.w X.xe _ ⟨.bl _, H, I, rfl, q⟩
def rSortedDI : List V → Hp → VK → Prop := fun xs H Q => ∃ (a : Addr) (kvs : List (Key × V)) (ks : List Int), xs = [.ref a] ∧ Rd H a (.dK kvs) ∧ kvs.map (·.1) = ks.map Sum.inl ∧
    ∀ (ns' : List Int) (p : Addr), ns'.Perm ks → ns'.Pairwise (· ≤ ·) → H p = none → Q (.ref p) (upd H p (.lst (ns'.map V.int)))
def rSortedDS : List V → Hp → VK → Prop := fun xs H Q => ∃ (a : Addr) (kvs : List (Key × V)) (ks : List Str), xs = [.ref a] ∧ Rd H a (.dK kvs) ∧ kvs.map (·.1) = ks.map Sum.inr ∧
    ∀ (p : Addr), H p = none → Q (.ref p) (upd H p (.lst ((ks.mergeSort (PySem.W.dataLe false PyData.str)).map V.str)))
def keyPy : Key → PyData
  | .inl i => .int i
  | .inr x => .str x
def keysPy (k : List Key) : PyData := .tuple (k.map keyPy)
def rSortedDT : List V → Hp → VK → Prop := fun xs H Q => ∃ (a : Addr) (kvs : List (List Key × V)), xs = [.ref a] ∧ Rd H a (.dT kvs) ∧ PySem.W.AllAlike ((kvs.map (·.1)).map keysPy) ∧ (∀ k ∈ kvs.map (·.1), k ≠ []) ∧
    ∀ (p : Addr) (bs : List (List Key × Addr)), bs.map (·.1) = (kvs.map (·.1)).mergeSort (PySem.W.dataLe false keysPy) → (∀ b ∈ bs, H b.2 = some (.tup (b.1.map kV))) → H p = none → Q (.ref p) (upd H p (.lst (bs.map fun b => V.ref b.2)))
def SqX (k : Bool) (K : PySem.W.Frag) (H : Hp) (a : Addr) (xs : List V) : Prop := cond k (SqT K H a xs) (SqL K H a xs)
def IsX (k : Bool) (h : Heap) (a : Addr) (xs : Array Value) : Prop := cond k (h.IsTuple a xs) (h.IsList a xs)
theorem inv_x {X : Cx} {pins : List (Addr × Obj)} {σ : L2.St} {H : Hp} {s : Shared} {k : Bool} {a : Addr} {xs : List V} (I : Inv X pins σ H s) (h : SqX k X.K H a xs) : ∃ its : List Value, Vals xs its ∧ IsX k s.heap a its.toArray ∧ a < s.heap.objs.size := by
  cases k with
  | true =>
    obtain ⟨its, rv, p, _⟩ := I.tuple h
    exact ⟨its, rv, (show s.heap.IsTuple a its.toArray from p), IsTup.lt p⟩
  | false =>
    obtain ⟨its, rv, p, _⟩ := I.list h
    exact ⟨its, rv, p.isList, p.lt⟩
def ItzX (K : PySem.W.Frag) (k1 k2 : Bool) (a b : Addr) : L2.It :=
  ⟨fun i H => ∃ (xs ys : List V) (x y : V), SqX k1 K H a xs ∧ SqX k2 K H b ys ∧ xs[i]? = some x ∧ ys[i]? = some y,
    fun i H v H' => ∃ T x y, v = .ref T ∧ H T = none ∧ H' = upd H T (.tup [x, y]) ∧ (∀ xs, SqX k1 K H a xs → xs[i]? = some x) ∧ ∀ ys, SqX k2 K H b ys → ys[i]? = some y,
    fun i H => ∃ xs ys : List V, SqX k1 K H a xs ∧ SqX k2 K H b ys ∧ i ≤ xs.length ∧ i ≤ ys.length ∧ (i = xs.length ∨ i = ys.length)⟩
def iZipX (K : PySem.W.Frag) (ta : TA) : TI := fun σ H R => ta σ H fun vs H1 => ∃ k1 k2 a b xs ys, vs = [.ref a, .ref b] ∧ SqX k1 K H1 a xs ∧ SqX k2 K H1 b ys ∧ R (ItzX K k1 k2 a b) H1
def geP (p q r t : Str) : Bool := if p = r then !decide (q.cps.toList < t.cps.toList) else !decide (p.cps.toList < r.cps.toList)
def rGeP (K : PySem.W.Frag) : R2 := fun x y H Q => ∃ (a b : Addr) (p q r t : Str), x = .ref a ∧ y = .ref b ∧ SqT K H a [.str p, .str q] ∧ SqT K H b [.str r, .str t] ∧ Q (.bl (geP p q r t)) H
theorem rc_ge_str {A : Around} {s : Shared} (x y : Str) (t u : Tok) : Ob.RcOp .GtE A s (.str x t) (.str y u) (!decide (x.cps.toList < y.cps.toList)) := fun _ _ _ _ h => PySem.P.ge_str h
theorem vals_two {p q : Str} {its : List Value} (h : Vals [.str p, .str q] its) : ∃ t u, its = [.str p t, .str q u] := by
  cases h with
  | cons h1 h => cases h with
    | cons h2 h => cases h with
      | nil =>
        obtain ⟨t, rfl⟩ := h1
        obtain ⟨u, rfl⟩ := h2
        exact ⟨t, u, rfl⟩
theorem op_geP {X : Cx} (hu : X.A.units + 64 < cLine) : OpR X (compareOp .GtE) (rGeP X.K) := by
  intro pins s σ H x y v u Q I rx ry h
  obtain ⟨a, b, p, q, r, t, rfl, rfl, ha, hb, hq⟩ := h
  cases rx
  cases ry
  obtain ⟨its, h1, i1, _⟩ := inv_x (k := true) I ha
  obtain ⟨its2, h2, i2, _⟩ := inv_x (k := true) I hb
  obtain ⟨t1, t2, rfl⟩ := vals_two h1
  obtain ⟨u1, u2, rfl⟩ := vals_two h2
  have key := Ob.RcOp.tuples_ge (A := X.A) (s := s) (e := fun j => if j = 0 then p == r else q == t) (r := fun j => if j = 0 then !decide (p.cps.toList < r.cps.toList) else !decide (q.cps.toList < t.cps.toList)) i1 i2 (by omega)
    (fun j h1 h2 => match j, h1, h2 with
      | 0, _, _ => PySem.SeqAt.EqAt.str_str p t1 r u1
      | 1, _, _ => PySem.SeqAt.EqAt.str_str q t2 t u2)
    (fun j h1 h2 _ => match j, h1, h2 with
      | 0, _, _ => rc_ge_str p r t1 u1
      | 1, _, _ => rc_ge_str q t t2 u2)
  have e : Ob.lexAt (fun j => if j = 0 then p == r else q == t) (fun j => if j = 0 then !decide (p.cps.toList < r.cps.toList) else !decide (q.cps.toList < t.cps.toList)) true 0 2 = geP p q r t := by
    rw [Ob.lexAt_succ, Ob.lexAt_succ, Ob.lexAt_zero]
    unfold geP
    by_cases c : p = r
    · subst c
      by_cases d : q = t
      · subst d
        have : ¬ q.cps.toList < q.cps.toList := List.lt_irrefl _
        simp [this]
      · simp [d]
    · simp [c]
  have key : Ob.RcOp .GtE X.A s (.ref a) (.ref b) (geP p q r t) := by
    rw [← e]
    exact key
  exact key X.prog X.w X.xe _ ⟨.bl _, H, I, rfl, hq⟩
def rSortedL (K : PySem.W.Frag) : List V → Hp → VK → Prop := fun xs H Q => ∃ (a : Addr) (ps : List (V × PyData)), xs = [.ref a] ∧ SqL K H a (ps.map (·.1)) ∧ (∀ p ∈ ps, Dp K H p.1 p.2) ∧ PySem.W.AllAlike (ps.map (·.2)) ∧ (∀ p ∈ ps, ∃ x r, p.2 = .tuple (x :: r)) ∧ (∀ p ∈ ps, p.2.depth ≤ 60) ∧ ps.length ≤ sizeLine ∧
    ∀ (p : Addr), H p = none → Q (.ref p) (upd H p (.lst ((ps.mergeSort (PySem.W.dataLe false (·.2))).map (·.1))))
def repS (a : Str) (k : Int) : Str := ⟨List.foldl (fun x1 x2 => x1 ++ x2) #[] (List.replicate k.toNat a.cps)⟩
theorem foldl_size (c : Array Nat) : ∀ (n : Nat) (i : Array Nat), (List.foldl (fun x1 x2 => x1 ++ x2) i (List.replicate n c)).size = i.size + n * c.size
  | 0, i => by simp
  | n + 1, i => by
    rw [List.replicate_succ, List.foldl_cons, foldl_size c n, Array.size_append, Nat.succ_mul]
    omega
theorem repS_len (a : Str) (k : Int) : (repS a k).length = k.toNat * a.length := by
  have := foldl_size a.cps k.toNat #[]
  show (List.foldl (fun x1 x2 => x1 ++ x2) #[] (List.replicate k.toNat a.cps)).size = _
  rw [this]
  simp [Str.length]
def rMulS : R2 := fun x y H Q => ∃ (a : Str) (k : Int), x = .str a ∧ y = .int k ∧ 1 ≤ k ∧ k ≤ 1000 ∧ a.length ≤ 1000 ∧ 1 ≤ a.length ∧ Q (.str (repS a k)) H
theorem op_mulS {X : Cx} : OpR X (binaryOp .Mult) rMulS := by
  intro pins s σ H x y v u Q I rx ry h
  obtain ⟨a, k, rfl, rfl, k1, k2, a2, a1, q⟩ := h
  obtain ⟨t, rfl⟩ := rx
  obtain ⟨t2, rfl⟩ := ry
  have hd : (1000 : Int) ≤ (2 ^ 63 - 1) / k := by
    rw [Int.le_ediv_iff_mul_le (by omega)]
    have e : (2 : Int) ^ 63 - 1 = 9223372036854775807 := by decide
    rw [e]
    omega
  refine PySem.P.mul_str ?_ (fun _ _ => ?_) (fun _ _ => ?_) ?_
  · have e : (2 : Int) ^ 63 = 9223372036854775808 := by decide
    rw [Bool.or_eq_false_iff]
    exact ⟨decide_eq_false (by omega), decide_eq_false (by omega)⟩
  · omega
  · unfold Builtin.Str.tooLong
    refine decide_eq_false ?_
    have h1 : k.toNat ≤ 1000 := by omega
    have h2 : a.length * k.toNat ≤ 1000 * 1000 := Nat.mul_le_mul a2 h1
    have h3 : sizeLine = 16777216 := rfl
    omega
  · rw [if_neg (by omega)]
    by_cases e : k = 1
    · subst e
      have e0 : ((1 : Int) == 1 || a.length == 0) = true := by simp
      rw [if_pos e0]
      have er : repS a 1 = a := by
        unfold repS
        simp
      rw [er] at q
      exact ⟨.str a, H, I, ⟨t, rfl⟩, q⟩
    · have e0 : (k == 1 || a.length == 0) = false := by
        rw [Bool.or_eq_false_iff]
        exact ⟨by simpa using e, by simp; omega⟩
      rw [e0, if_neg (by decide)]
      have h1 : k.toNat ≤ 1000 := by omega
      have h2 : k.toNat * a.length ≤ 1000 * 1000 := Nat.mul_le_mul h1 a2
      have h3 : sizeLine = 16777216 := rfl
      exact ⟨by have := repS_len a k; unfold repS at this; omega, .str (repS a k), H, I.tok _, ⟨_, rfl⟩, q⟩
end PvR

set_option Elab.async false
set_option linter.all false
set_option maxRecDepth 100000
set_option maxHeartbeats 4000000
namespace Pv
open PySem L2

inductive D where
  | non | bl (b : Bool) | int (i : Int) | str (x : Str)
  | tup (ds : List D) | lst (ds : List D)
  | dK (ks : List Key) (ds : List D) | dT (ks : List (List Key)) (ds : List D)
  | fn (n : Nat) | scr (ns : List Int) | exc (k : Nat) (ds : List D)
inductive W where
  | d (x : D) | mu (n : Nat)
def hasK (k : Key) (ks : List Key) : Bool := ks.any fun q => decide (q = k)
inductive MO where
  | dead | lst (ds : List D) | dK (ks : List Key) (ds : List D) | dT (ks : List (List Key)) (ds : List D) | set (ks : List Key)
  | ins (c : Nat) (ks : List Str) (ws : List W) | dW (ks : List Key) (ws : List W) | lW (ws : List W)
def refsW : List W → List Nat
  | [] => []
  | .d _ :: ws => refsW ws
  | .mu n :: ws => n :: refsW ws
def MO.refs : MO → List Nat
  | .ins _ _ ws => refsW ws
  | .dW _ ws => refsW ws
  | .lW ws => refsW ws
  | _ => []
def MO.isC : MO → Bool
  | .ins _ _ _ => true
  | .dW _ _ => true
  | .lW _ => true
  | _ => false
structure FA where
  fa : Nat → Addr
  P : Program
  w : World
  tabs : List (Addr × Str)
  cl : Nat → Addr
  ec : Nat → Addr
  ea : Nat → Str
instance : CoeFun FA fun _ => Nat → Addr := ⟨FA.fa⟩
abbrev Store := List MO
abbrev En := List (Option W)

abbrev nilH : Hp := fun _ => none

def ExD (cls : Value) (d : Option Addr) (a : Addr) : HO := .ext fun h => ∃ (oe : Obj) (vs : Array Value), h.get? a = some oe ∧ Zc cls d oe ∧ oe.data = .fields vs
def ExG (fa : FA) (G : Hp) (a : Addr) (k : Nat) (vs : List V) : Prop :=
  (vs = [] ∧ G a = some (ExD (.ref (fa.ec k)) none a)) ∨ ∃ (dd : Addr) (u : V), vs = [u] ∧ G a = some (ExD (.ref (fa.ec k)) (some dd) a) ∧ G dd = some (.xd [(fa.ea k, u)])
section
variable (K : PySem.W.Frag) (fa : FA) (G : Hp)
mutual
def RepD : V → D → Prop
  | v, .non => v = .non
  | v, .bl b => v = .bl b
  | v, .int i => v = .int i
  | v, .str x => v = .str x
  | v, .tup ds => ∃ a vs, v = .ref a ∧ (G a = some (.tup vs) ∨ False) ∧ RepDs vs ds
  | v, .lst ds => ∃ a vs, v = .ref a ∧ G a = some (.lst vs) ∧ RepDs vs ds
  | v, .dK ks ds => ∃ a kvs, v = .ref a ∧ G a = some (.dK kvs) ∧ kvs.map (·.1) = ks ∧ RepDs (kvs.map (·.2)) ds
  | v, .dT ks ds => ∃ a kvs, v = .ref a ∧ G a = some (.dT kvs) ∧ kvs.map (·.1) = ks ∧ RepDs (kvs.map (·.2)) ds
  | v, .fn n => v = .ref (fa n)
  | v, .scr ns => ∃ a, v = .ref a ∧ SqL K G a (ns.map V.int)
  | v, .exc k ds => ∃ a vs, v = .ref a ∧ ExG fa G a k vs ∧ RepDs vs ds
def RepDs : List V → List D → Prop
  | vs, [] => vs = []
  | vs, d :: ds => ∃ v r, vs = v :: r ∧ RepD v d ∧ RepDs r ds
end
end

abbrev GLe (G G' : Hp) : Prop := ∀ a u, G a = some u → G' a = some u
section
variable {K : PySem.W.Frag} {fa : FA} {G G' : Hp}
mutual
theorem RepD.mono (l : GLe G G') : ∀ {d : D} {v : V}, RepD K fa G v d → RepD K fa G' v d
  | .non, _, h | .bl _, _, h | .int _, _, h | .str _, _, h | .fn _, _, h => by simpa only [RepD] using h
  | .tup ds, _, h => by
    simp only [RepD] at h ⊢
    obtain ⟨a, vs, e, q, r⟩ := h
    exact ⟨a, vs, e, q.imp (l _ _) id, RepDs.mono l r⟩
  | .lst ds, _, h => by
    simp only [RepD] at h ⊢
    obtain ⟨a, vs, e, q, r⟩ := h
    exact ⟨a, vs, e, l _ _ q, RepDs.mono l r⟩
  | .scr ns, _, h => by
    simp only [RepD] at h ⊢
    obtain ⟨a, e, q⟩ := h
    refine ⟨a, e, ?_⟩
    rcases q with (q | ⟨o, q⟩) | q
    · exact .inl (.inl (l _ _ q))
    · exact .inl (.inr ⟨o, l _ _ q⟩)
    · exact .inr q
  | .exc k ds, _, h => by
    simp only [RepD] at h ⊢
    obtain ⟨a, vs, e, q, r⟩ := h
    exact ⟨a, vs, e, q.imp (fun z => ⟨z.1, l _ _ z.2⟩) (fun ⟨dd, u, z1, z2, z3⟩ => ⟨dd, u, z1, l _ _ z2, l _ _ z3⟩), RepDs.mono l r⟩
  | .dK ks ds, _, h => by
    simp only [RepD] at h ⊢
    obtain ⟨a, kvs, e, q, e2, r⟩ := h
    exact ⟨a, kvs, e, l _ _ q, e2, RepDs.mono l r⟩
  | .dT ks ds, _, h => by
    simp only [RepD] at h ⊢
    obtain ⟨a, kvs, e, q, e2, r⟩ := h
    exact ⟨a, kvs, e, l _ _ q, e2, RepDs.mono l r⟩
theorem RepDs.mono (l : GLe G G') : ∀ {ds : List D} {vs : List V}, RepDs K fa G vs ds → RepDs K fa G' vs ds
  | [], _, h => by simpa only [RepDs] using h
  | d :: ds, _, h => by
    simp only [RepDs] at h ⊢
    obtain ⟨v, r, e, h1, h2⟩ := h
    exact ⟨v, r, e, RepD.mono l h1, RepDs.mono l h2⟩
end
theorem RepDs.length : ∀ {ds : List D} {vs : List V}, RepDs K fa G vs ds → vs.length = ds.length
  | [], _, h => by simp only [RepDs] at h; subst h; rfl
  | d :: ds, _, h => by
    simp only [RepDs] at h
    obtain ⟨v, r, rfl, h1, h2⟩ := h
    simp [RepDs.length h2]
theorem RepDs.nil : RepDs K fa G [] [] := by simp only [RepDs]
theorem RepDs.cons {v : V} {vs : List V} {d : D} {ds : List D} (h1 : RepD K fa G v d) (h2 : RepDs K fa G vs ds) : RepDs K fa G (v :: vs) (d :: ds) := by
  simp only [RepDs]
  exact ⟨v, vs, rfl, h1, h2⟩
theorem RepDs.get : ∀ {ds : List D} {vs : List V} {i : Nat} {d : D}, RepDs K fa G vs ds → ds[i]? = some d → ∃ v, vs[i]? = some v ∧ RepD K fa G v d
  | [], _, _, _, _, e => by simp at e
  | d' :: ds, _, 0, d, h, e => by
    simp only [RepDs] at h
    obtain ⟨v, r, rfl, h1, h2⟩ := h
    simp at e; subst e
    exact ⟨v, rfl, h1⟩
  | d' :: ds, _, i + 1, d, h, e => by
    simp only [RepDs] at h
    obtain ⟨v, r, rfl, h1, h2⟩ := h
    obtain ⟨v', q1, q2⟩ := RepDs.get (i := i) (d := d) h2 (by simpa using e)
    exact ⟨v', by simpa using q1, q2⟩
theorem RepDs.append : ∀ {ds es : List D} {vs us : List V}, RepDs K fa G vs ds → RepDs K fa G us es → RepDs K fa G (vs ++ us) (ds ++ es)
  | [], es, _, us, h, q => by simp only [RepDs] at h; subst h; exact q
  | d :: ds, es, _, us, h, q => by
    simp only [RepDs] at h
    obtain ⟨v, r, rfl, h1, h2⟩ := h
    exact RepDs.cons h1 (RepDs.append h2 q)
theorem RepDs.take : ∀ {ds : List D} {vs : List V} (n : Nat), RepDs K fa G vs ds → RepDs K fa G (vs.take n) (ds.take n)
  | [], _, n, h => by simp only [RepDs] at h; subst h; simpa using RepDs.nil
  | d :: ds, _, 0, h => by simpa using RepDs.nil
  | d :: ds, _, n + 1, h => by
    simp only [RepDs] at h
    obtain ⟨v, r, rfl, h1, h2⟩ := h
    simpa using RepDs.cons h1 (RepDs.take n h2)
theorem RepDs.drop : ∀ {ds : List D} {vs : List V} (n : Nat), RepDs K fa G vs ds → RepDs K fa G (vs.drop n) (ds.drop n)
  | [], _, n, h => by simp only [RepDs] at h; subst h; simpa using RepDs.nil
  | d :: ds, _, 0, h => by simpa using h
  | d :: ds, _, n + 1, h => by
    simp only [RepDs] at h
    obtain ⟨v, r, rfl, h1, h2⟩ := h
    simpa using RepDs.drop n h2
theorem RepDs.set : ∀ {ds : List D} {vs : List V} (i : Nat) {v : V} {d : D}, RepDs K fa G vs ds → RepD K fa G v d → RepDs K fa G (vs.set i v) (ds.set i d)
  | [], _, i, _, _, h, _ => by simp only [RepDs] at h; subst h; simpa using RepDs.nil
  | d' :: ds, _, 0, _, _, h, q => by
    simp only [RepDs] at h
    obtain ⟨v, r, rfl, h1, h2⟩ := h
    simpa using RepDs.cons q h2
  | d' :: ds, _, n + 1, _, _, h, q => by
    simp only [RepDs] at h
    obtain ⟨v, r, rfl, h1, h2⟩ := h
    simpa using RepDs.cons h1 (RepDs.set n h2 q)
theorem RepDs.ints : ∀ {ns : List Int} {vs : List V}, RepDs K fa G vs (ns.map D.int) → vs = ns.map V.int
  | [], _, h => by simpa [RepDs] using h
  | n :: ns, _, h => by
    simp only [List.map_cons, RepDs] at h
    obtain ⟨v, r, rfl, h1, h2⟩ := h
    simp only [RepD] at h1
    rw [h1, RepDs.ints h2]; rfl
theorem RepDs.of_ints : ∀ {ns : List Int}, RepDs K fa G (ns.map V.int) (ns.map D.int)
  | [] => RepDs.nil
  | n :: ns => RepDs.cons (by simp only [RepD]) RepDs.of_ints
theorem RepDs.bls : ∀ {ns : List Bool} {vs : List V}, RepDs K fa G vs (ns.map D.bl) → vs = ns.map V.bl
  | [], _, h => by simpa [RepDs] using h
  | n :: ns, _, h => by
    simp only [List.map_cons, RepDs] at h
    obtain ⟨v, r, rfl, h1, h2⟩ := h
    simp only [RepD] at h1
    rw [h1, RepDs.bls h2]; rfl
end

structure Gh where
  G : Hp
  φ : Nat → Addr
  n : Nat
  lk : Bool
  F : Hp
  ro : Bool
  I : Nat → Option (List Nat)
def isDic : HO → Bool
  | .dK _ => true
  | .dT _ => true
  | _ => false
def isTp : HO → Bool
  | .tup _ => true
  | .ext _ => true
  | .tbl _ => true
  | _ => false
structure Gh.le (g g' : Gh) : Prop where
  G : GLe g.G g'.G
  φ : ∀ i, i < g.n → g'.φ i = g.φ i
  n : g.n ≤ g'.n
  lk : g'.lk = g.lk
  F : g'.F = g.F
  ro : g'.ro = g.ro
  I : g.ro = true → g'.I = g.I
theorem Gh.le.refl (g : Gh) : g.le g := ⟨fun _ _ h => h, fun _ _ => rfl, Nat.le_refl _, rfl, rfl, rfl, fun _ => rfl⟩
theorem Gh.le.trans {a b c : Gh} (h : a.le b) (q : b.le c) : a.le c :=
  ⟨fun x u e => q.G x u (h.G x u e), fun i hi => (q.φ i (Nat.lt_of_lt_of_le hi h.n)).trans (h.φ i hi), Nat.le_trans h.n q.n, q.lk.trans h.lk, q.F.trans h.F, q.ro.trans h.ro, fun z => (q.I (h.ro.trans z)).trans (h.I z)⟩

section
variable (K : PySem.W.Frag) (fa : FA)
def RepW (g : Gh) (v : V) : W → Prop
  | .d x => RepD K fa g.G v x
  | .mu i => v = .ref (g.φ i) ∧ i < g.n
inductive RWs (g : Gh) : List V → List W → Prop
  | nil : RWs g [] []
  | cons {v : V} {vs : List V} {w : W} {ws : List W} : RepW K fa g v w → RWs g vs ws → RWs g (v :: vs) (w :: ws)
def RepM (g : Gh) (a : Addr) (u : HO) : MO → Prop
  | .dead => False
  | .set ks => u = SetK fa.P fa.w a (fun k => hasK k ks) ks.length
  | .lst ds => ∃ vs, u = .lst vs ∧ RepDs K fa g.G vs ds
  | .dK ks ds => ∃ kvs, u = .dK kvs ∧ kvs.map (·.1) = ks ∧ RepDs K fa g.G (kvs.map (·.2)) ds
  | .dT ks ds => ∃ kvs, u = .dT kvs ∧ kvs.map (·.1) = ks ∧ RepDs K fa g.G (kvs.map (·.2)) ds
  | .ins c ks ws => ∃ dx fs, u = .ins (fa.cl c) dx fs ∧ fs.map (·.1) = ks ∧ RWs K fa g (fs.map (·.2)) ws
  | .dW ks ws => ∃ kvs, u = .dK kvs ∧ kvs.map (·.1) = ks ∧ RWs K fa g (kvs.map (·.2)) ws
  | .lW ws => ∃ vs, u = .lst vs ∧ RWs K fa g vs ws
structure Rel (g : Gh) (H : Hp) (S : Store) : Prop where
  len : S.length = g.n
  ext : ∀ a u, g.G a = some u → H a = some u ∨ (isDic u = true ∧ g.lk = true ∧ ∃ o, H a = some (.frz o u))
  live : ∀ (i : Nat) mo, S[i]? = some mo → mo ≠ .dead → ∃ u, H (g.φ i) = some u ∧ RepM K fa g (g.φ i) u mo ∧ g.G (g.φ i) = none
  inj : ∀ (i j : Nat) mi mj, S[i]? = some mi → S[j]? = some mj → mi ≠ .dead → mj ≠ .dead → g.φ i = g.φ j → i = j
  frm : ∀ a u, g.F a = some u → H a = some u ∧ g.G a = none ∧ ∀ (i : Nat) mo, S[i]? = some mo → mo ≠ .dead → g.φ i ≠ a
  ft : ∀ a u, g.F a = some u → isTp u = false
  tb : ∀ p ∈ fa.tabs, LamX.TabS H p.1 p.2 ∧ g.G p.1 = none
  gt : ∀ a ps, g.G a ≠ some (.tbl ps)
  ii : ∀ (i : Nat) mo, S[i]? = some mo → mo.isC = true → g.I i = some mo.refs
  ir : ∀ (i : Nat) l, g.I i = some l → ∀ r ∈ l, r < g.n
structure RepEn (ob : Bool) (g : Gh) (σ : L2.St) (ρ : En) : Prop where
  len : σ.length = ρ.length
  get : ∀ (i : Nat) w, ρ[i]? = some (some w) → ∃ v, σ[i]? = some (some v) ∧ RepW K fa g v w
  may : ob = true → g.ro = false
end

section
variable {K : PySem.W.Frag} {fa : FA} {g g' : Gh} {H : Hp} {S : Store} {σ : L2.St} {ρ : En}
theorem RepW.mono (l : g.le g') {v : V} : ∀ {w : W}, RepW K fa g v w → RepW K fa g' v w
  | .d _, h => RepD.mono l.G h
  | .mu i, h => ⟨h.1.trans (congrArg V.ref (l.φ i h.2).symm), Nat.lt_of_lt_of_le h.2 l.n⟩
theorem RepEn.mono {ob : Bool} (l : g.le g') (h : RepEn K fa ob g σ ρ) : RepEn K fa ob g' σ ρ := ⟨h.1, fun i w e => let ⟨v, a, b⟩ := h.2 i w e; ⟨v, a, RepW.mono l b⟩, fun z => l.ro.trans (h.3 z)⟩
theorem Rel.rd (r : Rel K fa g H S) {a : Addr} {u : HO} (e : g.G a = some u) : Rd H a u := by
  rcases r.ext a u e with h | ⟨_, _, h⟩
  · exact .inl h
  · exact .inr h
theorem Rel.sqT (r : Rel K fa g H S) {a : Addr} {vs : List V} (e : g.G a = some (.tup vs) ∨ False) : SqT K H a vs := by
  rcases e with e | e
  · exact .inl (r.rd e)
  · exact e.elim
theorem Rel.lst (r : Rel K fa g H S) {a : Addr} {vs : List V} (e : g.G a = some (.lst vs)) : H a = some (.lst vs) := by
  rcases r.ext a _ e with h | ⟨h, _⟩
  · exact h
  · cases h
theorem Rel.scr (r : Rel K fa g H S) {a : Addr} {vs : List V} (e : SqL K g.G a vs) : SqL K H a vs := by
  rcases e with (e | ⟨o, e⟩) | e
  · exact .inl (r.rd e)
  · rcases r.ext a _ e with h | ⟨h, _⟩
    · exact .inl (.inr ⟨o, h⟩)
    · cases h
  · exact .inr e
theorem Rel.fresh (r : Rel K fa g H S) {p : Addr} (hp : H p = none) : g.G p = none := by
  cases q : g.G p with
  | none => rfl
  | some u =>
    rcases r.ext p u q with h | ⟨_, _, o, h⟩ <;> rw [hp] at h <;> cases h
theorem Rel.ne_live (r : Rel K fa g H S) {p : Addr} (hp : H p = none) {i : Nat} {mo : MO} (e : S[i]? = some mo) (hm : mo ≠ .dead) : g.φ i ≠ p := by
  obtain ⟨u, h, _⟩ := r.live i mo e hm
  rintro rfl
  rw [hp] at h; cases h

theorem setK_ne {P : Program} {w : World} {a : Addr} {S : Key → Bool} {n : Nat} {q : Str} : SetK P w a S n ≠ LamX.CodeO a q := fun z => by
  have e := HO.ext.inj z
  have h2 : (fun h : Heap => ∃ (oc : Obj) (vs : Array Value) (t : Tok), h.get? a = some oc ∧ oc.data = .fields vs ∧ vs[1]? = some (.str q t)) { objs := Array.replicate (a + 1) { cls := .none, data := .fields #[.none, .str q 0] } } := by
    refine ⟨{ cls := .none, data := .fields #[.none, .str q 0] }, _, 0, ?_, rfl, rfl⟩
    simp [Heap.get?]
  rw [← e] at h2
  obtain ⟨o, es, ep, t, ho, _, hd, _⟩ := h2
  simp [Heap.get?] at ho
  subst ho
  cases hd
theorem repM_not {g : Gh} {a : Addr} {u : HO} : ∀ {mo : MO}, RepM K fa g a u mo → (∀ ps, u ≠ .tbl ps) ∧ ∀ q, u ≠ LamX.CodeO a q
  | .dead, h => h.elim
  | .lst _, ⟨_, e, _⟩ => by subst e; exact ⟨(fun _ z => nomatch z), (fun _ z => by unfold LamX.CodeO at z; cases z)⟩
  | .dK _ _, ⟨_, e, _⟩ => by subst e; exact ⟨(fun _ z => nomatch z), (fun _ z => by unfold LamX.CodeO at z; cases z)⟩
  | .dT _ _, ⟨_, e, _⟩ => by subst e; exact ⟨(fun _ z => nomatch z), (fun _ z => by unfold LamX.CodeO at z; cases z)⟩
  | .set _, e => by
    have e' := e
    simp only [RepM] at e'
    subst e'
    exact ⟨(fun _ z => by unfold SetK at z; cases z), fun _ => setK_ne⟩
  | .ins _ _ _, ⟨_, _, e, _⟩ => by subst e; exact ⟨(fun _ z => nomatch z), (fun _ z => by unfold LamX.CodeO at z; cases z)⟩
  | .dW _ _, ⟨_, e, _⟩ => by subst e; exact ⟨(fun _ z => nomatch z), (fun _ z => by unfold LamX.CodeO at z; cases z)⟩
  | .lW _, ⟨_, e, _⟩ => by subst e; exact ⟨(fun _ z => nomatch z), (fun _ z => by unfold LamX.CodeO at z; cases z)⟩
theorem tabS_upd {H : Hp} {P : Addr} {q : Str} (t : LamX.TabS H P q) {x : Addr} {o : HO} (h1 : ∀ ps, H x ≠ some (.tbl ps)) (h2 : ∀ q, H x ≠ some (LamX.CodeO x q)) : LamX.TabS (upd H x o) P q ∧ x ≠ P := by
  obtain ⟨ps, a1, a2, a3⟩ := t
  have ne : x ≠ P := fun z => h1 ps (z ▸ a1)
  refine ⟨⟨ps, by rw [upd_ne (Ne.symm ne)]; exact a1, a2, fun pos cv hc => ?_⟩, ne⟩
  obtain ⟨c, e1, e2⟩ := a3 pos cv hc
  refine ⟨c, e1, ?_⟩
  have : c ≠ x := fun z => h2 q (by rw [← z]; exact e2)
  rw [upd_ne this]; exact e2
theorem Rel.live_not (r : Rel K fa g H S) {n : Nat} {mo : MO} (e : S[n]? = some mo) (hm : mo ≠ .dead) : (∀ ps, H (g.φ n) ≠ some (.tbl ps)) ∧ ∀ q, H (g.φ n) ≠ some (LamX.CodeO (g.φ n) q) := by
  obtain ⟨u, h1, h2, _⟩ := r.live n mo e hm
  obtain ⟨a1, a2⟩ := repM_not h2
  exact ⟨fun ps z => a1 ps (by rw [h1] at z; exact Option.some.inj z), fun q z => a2 q (by rw [h1] at z; exact Option.some.inj z)⟩
theorem Rel.frm_not (r : Rel K fa g H S) {p : Addr} {o : HO} (e : g.F p = some o) : (∀ ps, H p ≠ some (.tbl ps)) ∧ ∀ q, H p ≠ some (LamX.CodeO p q) := by
  have h1 := (r.frm p o e).1
  have h2 := r.ft p o e
  refine ⟨fun ps z => ?_, fun q z => ?_⟩
  · rw [h1] at z; cases z; cases h2
  · rw [h1] at z; cases z; cases h2
theorem none_not {p : Addr} (hp : H p = none) : (∀ ps, H p ≠ some (.tbl ps)) ∧ ∀ q, H p ≠ some (LamX.CodeO p q) := ⟨(fun _ z => by rw [hp] at z; cases z), (fun _ z => by rw [hp] at z; cases z)⟩
theorem Rel.tabU (r : Rel K fa g H S) {x : Addr} {o : HO} (h : (∀ ps, H x ≠ some (.tbl ps)) ∧ ∀ q, H x ≠ some (LamX.CodeO x q)) : ∀ p ∈ fa.tabs, LamX.TabS (upd H x o) p.1 p.2 ∧ g.G p.1 = none := fun p hp => ⟨(tabS_upd (r.tb p hp).1 h.1 h.2).1, (r.tb p hp).2⟩
theorem Rel.tabG (r : Rel K fa g H S) {x : Addr} {o : HO} (h : (∀ ps, H x ≠ some (.tbl ps)) ∧ ∀ q, H x ≠ some (LamX.CodeO x q)) : ∀ p ∈ fa.tabs, upd g.G x o p.1 = none := fun p hp => by
  have ne := (tabS_upd (o := o) (r.tb p hp).1 h.1 h.2).2
  rw [upd_ne (Ne.symm ne)]
  exact (r.tb p hp).2
def Gh.add (g : Gh) (p : Addr) (o : HO) : Gh := { g with G := upd g.G p o }
theorem Gh.le_add {p : Addr} {o : HO} (hp : g.G p = none) : g.le (g.add p o) :=
  ⟨fun a u e => by show upd g.G p o a = some u; rw [upd_ne (ne_of_none e hp)]; exact e, fun _ _ => rfl, Nat.le_refl _, rfl, rfl, rfl, fun _ => rfl⟩
theorem RWs.mono (l : g.le g') : ∀ {vs : List V} {ws : List W}, RWs K fa g vs ws → RWs K fa g' vs ws
  | _, _, .nil => .nil
  | _, _, .cons h t => .cons (RepW.mono l h) (RWs.mono l t)
theorem RWs.length : ∀ {vs : List V} {ws : List W}, RWs K fa g vs ws → vs.length = ws.length
  | _, _, .nil => rfl
  | _, _, .cons h t => by simp [RWs.length t]
theorem RWs.get : ∀ {vs : List V} {ws : List W} {i : Nat} {w : W}, RWs K fa g vs ws → ws[i]? = some w → ∃ v, vs[i]? = some v ∧ RepW K fa g v w
  | _, _, _, _, .nil, e => by simp at e
  | _, _, 0, _, .cons h t, e => by simp at e; subst e; exact ⟨_, rfl, h⟩
  | _, _, i + 1, _, .cons h t, e => by
    obtain ⟨v, a, b⟩ := RWs.get (i := i) t (by simpa using e)
    exact ⟨v, by simpa using a, b⟩
theorem RWs.append : ∀ {vs us : List V} {ws zs : List W}, RWs K fa g vs ws → RWs K fa g us zs → RWs K fa g (vs ++ us) (ws ++ zs)
  | _, _, _, _, .nil, q => q
  | _, _, _, _, .cons h t, q => .cons h (RWs.append t q)
theorem RWs.set : ∀ {vs : List V} {ws : List W} (i : Nat) {v : V} {w : W}, RWs K fa g vs ws → RepW K fa g v w → RWs K fa g (vs.set i v) (ws.set i w)
  | _, _, _, _, _, .nil, _ => .nil
  | _, _, 0, _, _, .cons _ t, q => .cons q t
  | _, _, i + 1, _, _, .cons h t, q => .cons h (RWs.set i t q)
theorem RWs.refs : ∀ {vs : List V} {ws : List W}, RWs K fa g vs ws → ∀ r ∈ refsW ws, r < g.n
  | _, _, .nil, r, h => by simp [refsW] at h
  | _, _, .cons (w := .d _) _ t, r, h => RWs.refs t r h
  | _, _, .cons (w := .mu n) h1 t, r, h => by
    rcases List.mem_cons.mp h with rfl | h
    · exact h1.2
    · exact RWs.refs t r h
theorem RWs.cut {n : Nat} : ∀ {vs : List V} {ws : List W}, RWs K fa g vs ws → (∀ r ∈ refsW ws, r < n) → RWs K fa { g with n := n } vs ws
  | _, _, .nil, _ => .nil
  | _, _, .cons (w := .d _) h1 t, h => .cons h1 (RWs.cut t h)
  | _, _, .cons (w := .mu k) h1 t, h => .cons ⟨h1.1, h k List.mem_cons_self⟩ (RWs.cut t fun r hr => h r (List.mem_cons_of_mem _ hr))
theorem RepM.refs {a : Addr} {u : HO} : ∀ {mo : MO}, RepM K fa g a u mo → ∀ r ∈ mo.refs, r < g.n
  | .ins _ _ _, ⟨_, _, _, _, h⟩ => h.refs
  | .dW _ _, ⟨_, _, _, h⟩ => h.refs
  | .lW _, ⟨_, _, h⟩ => h.refs
  | .dead, _ | .lst _, _ | .dK _ _, _ | .dT _ _, _ | .set _, _ => fun r h => by simp [MO.refs] at h
theorem RepM.cut {n : Nat} {a : Addr} {u : HO} : ∀ {mo : MO}, RepM K fa g a u mo → (∀ r ∈ mo.refs, r < n) → RepM K fa { g with n := n } a u mo
  | .dead, h, _ => h
  | .set _, h, _ => h
  | .lst _, h, _ => h
  | .dK _ _, h, _ => h
  | .dT _ _, h, _ => h
  | .ins _ _ _, ⟨dx, fs, e, e2, h⟩, q => ⟨dx, fs, e, e2, h.cut q⟩
  | .dW _ _, ⟨fs, e, e2, h⟩, q => ⟨fs, e, e2, h.cut q⟩
  | .lW _, ⟨fs, e, h⟩, q => ⟨fs, e, h.cut q⟩
theorem RepM.mono (l : g.le g') {a : Addr} {u : HO} : ∀ {mo : MO}, RepM K fa g a u mo → RepM K fa g' a u mo
  | .dead, h => h
  | .set _, h => h
  | .lst _, ⟨vs, e, h⟩ => ⟨vs, e, RepDs.mono l.G h⟩
  | .dK _ _, ⟨vs, e, e2, h⟩ => ⟨vs, e, e2, RepDs.mono l.G h⟩
  | .dT _ _, ⟨vs, e, e2, h⟩ => ⟨vs, e, e2, RepDs.mono l.G h⟩
  | .ins _ _ _, ⟨dx, fs, e, e2, h⟩ => ⟨dx, fs, e, e2, RWs.mono l h⟩
  | .dW _ _, ⟨fs, e, e2, h⟩ => ⟨fs, e, e2, RWs.mono l h⟩
  | .lW _, ⟨fs, e, h⟩ => ⟨fs, e, RWs.mono l h⟩
theorem RWs.same0 (h1 : g'.G = g.G) (h2 : g'.φ = g.φ) (h3 : g'.n = g.n) : ∀ {vs : List V} {ws : List W}, RWs K fa g vs ws → RWs K fa g' vs ws
  | _, _, .nil => .nil
  | _, _, .cons (w := .d _) h t => .cons (by simp only [RepW] at h ⊢; rw [h1]; exact h) (RWs.same0 h1 h2 h3 t)
  | _, _, .cons (w := .mu _) h t => .cons (by simp only [RepW] at h ⊢; rw [h2, h3]; exact h) (RWs.same0 h1 h2 h3 t)
theorem RWs.same {vs : List V} {ws : List W} (h : RWs K fa g vs ws) (e : g'.G = g.G ∧ g'.φ = g.φ ∧ g'.n = g.n := by exact ⟨rfl, rfl, rfl⟩) : RWs K fa g' vs ws := RWs.same0 e.1 e.2.1 e.2.2 h
theorem RepM.same0 (h1 : g'.G = g.G) (h2 : g'.φ = g.φ) (h3 : g'.n = g.n) {a : Addr} {u : HO} : ∀ {mo : MO}, RepM K fa g a u mo → RepM K fa g' a u mo
  | .dead, h => h
  | .set _, h => h
  | .lst _, ⟨vs, e, h⟩ => ⟨vs, e, by rw [h1]; exact h⟩
  | .dK _ _, ⟨vs, e, e2, h⟩ => ⟨vs, e, e2, by rw [h1]; exact h⟩
  | .dT _ _, ⟨vs, e, e2, h⟩ => ⟨vs, e, e2, by rw [h1]; exact h⟩
  | .ins _ _ _, ⟨dx, fs, e, e2, h⟩ => ⟨dx, fs, e, e2, RWs.same0 h1 h2 h3 h⟩
  | .dW _ _, ⟨fs, e, e2, h⟩ => ⟨fs, e, e2, RWs.same0 h1 h2 h3 h⟩
  | .lW _, ⟨fs, e, h⟩ => ⟨fs, e, RWs.same0 h1 h2 h3 h⟩
theorem RepM.same {a : Addr} {u : HO} {mo : MO} (h : RepM K fa g a u mo) (e : g'.G = g.G ∧ g'.φ = g.φ ∧ g'.n = g.n := by exact ⟨rfl, rfl, rfl⟩) : RepM K fa g' a u mo := RepM.same0 e.1 e.2.1 e.2.2 h
theorem updG_gt {G : Hp} (h : ∀ a ps, G a ≠ some (.tbl ps)) {x : Addr} {o : HO} (ho : ∀ ps, o ≠ .tbl ps) : ∀ a ps, upd G x o a ≠ some (.tbl ps) := fun a ps z => by
  by_cases ha : a = x
  · rw [ha, upd_same] at z; exact ho ps (Option.some.inj z)
  · rw [upd_ne ha] at z; exact h a ps z
def isTb : HO → Bool
  | .tbl _ => true
  | _ => false
theorem isTb_ne {o : HO} (h : isTb o = false) : ∀ ps, o ≠ .tbl ps := fun ps z => by subst z; cases h
theorem Rel.add (r : Rel K fa g H S) {p : Addr} {o : HO} (hp : H p = none) (ho : isTb o = false := by rfl) : Rel K fa (g.add p o) (upd H p o) S := by
  have hg := r.fresh hp
  refine ⟨r.len, fun a u e => ?_, fun i mo e hm => ?_, r.inj, fun a u e => ?_, r.ft, fun q hq => ⟨(r.tabU (none_not hp) q hq).1, r.tabG (none_not hp) q hq⟩, updG_gt r.gt (isTb_ne ho), r.ii, r.ir⟩
  · by_cases ha : a = p
    · subst ha
      have e' : upd g.G a o a = some u := e
      rw [upd_same] at e'; cases e'
      exact .inl upd_same
    · have e' : upd g.G p o a = some u := e
      rw [upd_ne ha] at e'
      rw [upd_ne ha]
      exact r.ext a u e'
  · obtain ⟨u, h1, h2, h3⟩ := r.live i mo e hm
    have ne : g.φ i ≠ p := r.ne_live hp e hm
    refine ⟨u, by show upd H p o (g.φ i) = some u; rw [upd_ne ne]; exact h1, RepM.mono (Gh.le_add hg) h2, ?_⟩
    show upd g.G p o (g.φ i) = none
    rw [upd_ne ne]; exact h3
  · obtain ⟨h1, h2, h3⟩ := r.frm a u e
    have ne : a ≠ p := ne_of_none h1 hp
    refine ⟨by rw [upd_ne ne]; exact h1, ?_, h3⟩
    show upd g.G p o a = none
    rw [upd_ne ne]; exact h2
def Gh.push (g : Gh) (p : Addr) : Gh := { g with φ := fun i => if i = g.n then p else g.φ i, n := g.n + 1 }
theorem Gh.le_push {p : Addr} : g.le (g.push p) :=
  ⟨fun _ _ e => e, fun i hi => by show (if i = g.n then p else g.φ i) = g.φ i; rw [if_neg (by omega)], Nat.le_succ _, rfl, rfl, rfl, fun _ => rfl⟩
theorem getElem?_push {S : Store} {mo m : MO} {i : Nat} (h : (S ++ [mo])[i]? = some m) : S[i]? = some m ∧ i < S.length ∨ i = S.length ∧ m = mo := by
  rcases Nat.lt_or_ge i S.length with hi | hi
  · rw [List.getElem?_append_left hi] at h
    exact .inl ⟨h, hi⟩
  · rw [List.getElem?_append_right hi] at h
    rcases Nat.eq_or_lt_of_le hi with e | e
    · subst e
      simp at h
      exact .inr ⟨rfl, h.symm⟩
    · rw [List.getElem?_eq_none (by simp; omega)] at h; cases h
theorem Rel.push (r : Rel K fa g H S) {p : Addr} {o : HO} {mo : MO} (hp : H p = none) (hm : RepM K fa g p o mo) (hcn : mo.isC = false := by rfl) : Rel K fa (g.push p) (upd H p o) (S ++ [mo]) := by
  have hg := r.fresh hp
  have old : ∀ {i : Nat}, i < S.length → (g.push p).φ i = g.φ i := fun {i} hi => by
    show (if i = g.n then p else g.φ i) = g.φ i
    rw [if_neg (by rw [r.len] at hi; omega)]
  have new : (g.push p).φ S.length = p := by
    show (if S.length = g.n then p else g.φ S.length) = p
    rw [if_pos r.len]
  refine ⟨by simp [Gh.push, r.len], fun a u e => ?_, fun i m e hm' => ?_, fun i j mi mj ei ej hi hj q => ?_, fun a u e => ?_, r.ft, r.tabU (none_not hp), r.gt, fun i m e hc => (by
      rcases getElem?_push e with ⟨e1, _⟩ | ⟨rfl, rfl⟩
      · exact r.ii i m e1 hc
      · rw [hcn] at hc; cases hc), fun i l e q hq => Nat.lt_succ_of_lt (r.ir i l e q hq)⟩
  · have e' : g.G a = some u := e
    have ha : a ≠ p := ne_of_none e' hg
    rw [upd_ne ha]
    exact r.ext a u e'
  · rcases getElem?_push e with ⟨e1, hl⟩ | ⟨rfl, rfl⟩
    · rw [old hl]
      obtain ⟨u, h1, h2, h3⟩ := r.live i m e1 hm'
      exact ⟨u, by rw [upd_ne (r.ne_live hp e1 hm')]; exact h1, RepM.mono Gh.le_push h2, h3⟩
    · rw [new]
      exact ⟨o, upd_same, RepM.mono Gh.le_push hm, hg⟩
  · rcases getElem?_push ei with ⟨e1, l1⟩ | ⟨rfl, rfl⟩
    · rcases getElem?_push ej with ⟨e2, l2⟩ | ⟨rfl, rfl⟩
      · rw [old l1, old l2] at q
        exact r.inj i j mi mj e1 e2 hi hj q
      · rw [old l1, new] at q
        exact absurd q (r.ne_live hp e1 hi)
    · rcases getElem?_push ej with ⟨e2, l2⟩ | ⟨rfl, rfl⟩
      · rw [new, old l2] at q
        exact absurd q.symm (r.ne_live hp e2 hj)
      · rfl
  · obtain ⟨h1, h2, h3⟩ := r.frm a u e
    have ne : a ≠ p := ne_of_none h1 hp
    refine ⟨by rw [upd_ne ne]; exact h1, h2, fun i m ei hi => ?_⟩
    rcases getElem?_push ei with ⟨e1, l1⟩ | ⟨rfl, rfl⟩
    · rw [old l1]; exact h3 i m e1 hi
    · rw [new]; exact ne.symm
theorem getElem?_setS {S : Store} {mo m : MO} {i n : Nat} (h : (S.set n mo)[i]? = some m) : i = n ∧ m = mo ∧ n < S.length ∨ i ≠ n ∧ S[i]? = some m := by
  by_cases hi : i = n
  · subst hi
    by_cases hl : i < S.length
    · rw [List.getElem?_set_self hl] at h
      cases h
      exact .inl ⟨rfl, rfl, hl⟩
    · rw [List.getElem?_eq_none (by simpa using hl)] at h; cases h
  · rw [List.getElem?_set_ne (Ne.symm hi)] at h
    exact .inr ⟨hi, h⟩
theorem Rel.write (r : Rel K fa g H S) {n : Nat} {m0 mo : MO} {o : HO} (e0 : S[n]? = some m0) (h0 : m0 ≠ .dead) (hm : RepM K fa g (g.φ n) o mo) (hcn : mo.isC = false := by rfl) : Rel K fa g (upd H (g.φ n) o) (S.set n mo) := by
  obtain ⟨u0, l1, l2, l3⟩ := r.live n m0 e0 h0
  have key : ∀ (i : Nat) mi, (S.set n mo)[i]? = some mi → mi ≠ .dead → ∃ m', S[i]? = some m' ∧ m' ≠ .dead := fun i mi ei hi => by
    rcases getElem?_setS ei with ⟨rfl, _, _⟩ | ⟨_, e1⟩
    · exact ⟨m0, e0, h0⟩
    · exact ⟨mi, e1, hi⟩
  refine ⟨by simpa using r.len, fun a u e => ?_, fun i m e hm' => ?_, fun i j mi mj ei ej hi hj q => ?_, fun a u e => ?_, r.ft, r.tabU (r.live_not e0 h0), r.gt, fun i m e hc => (by
      rcases getElem?_setS e with ⟨rfl, rfl, _⟩ | ⟨_, e1⟩
      · rw [hcn] at hc; cases hc
      · exact r.ii i m e1 hc), r.ir⟩
  · have ha : a ≠ g.φ n := ne_of_none e l3
    rw [upd_ne ha]
    exact r.ext a u e
  · rcases getElem?_setS e with ⟨rfl, rfl, _⟩ | ⟨hi, e1⟩
    · exact ⟨o, upd_same, hm, l3⟩
    · obtain ⟨u, h1, h2, h3⟩ := r.live i m e1 hm'
      refine ⟨u, ?_, h2, h3⟩
      rw [upd_ne fun q => hi (r.inj i n m m0 e1 e0 hm' h0 q)]
      exact h1
  · obtain ⟨m1, a1, a2⟩ := key i mi ei hi
    obtain ⟨m2, b1, b2⟩ := key j mj ej hj
    exact r.inj i j m1 m2 a1 b1 a2 b2 q
  · obtain ⟨h1, h2, h3⟩ := r.frm a u e
    refine ⟨by rw [upd_ne (h3 n m0 e0 h0).symm]; exact h1, h2, fun i m ei hi => ?_⟩
    obtain ⟨m1, a1, a2⟩ := key i m ei hi
    exact h3 i m1 a1 a2
theorem Rel.freeze (r : Rel K fa g H S) {n : Nat} {m0 : MO} (e0 : S[n]? = some m0) (h0 : m0 ≠ .dead) :
    ∃ u, g.G (g.φ n) = none ∧ RepM K fa g (g.φ n) u m0 ∧ Rel K fa (g.add (g.φ n) u) H (S.set n .dead) := by
  obtain ⟨u, l1, l2, l3⟩ := r.live n m0 e0 h0
  refine ⟨u, l3, l2, by simpa [Gh.add] using r.len, fun a w e => ?_, fun i m e hm' => ?_, fun i j mi mj ei ej hi hj q => ?_, fun a w e => ?_, r.ft, fun q hq => ⟨(r.tb q hq).1, r.tabG (r.live_not e0 h0) q hq⟩, updG_gt r.gt (repM_not l2).1, fun i m e hc => (by
      rcases getElem?_setS e with ⟨rfl, rfl, _⟩ | ⟨_, e1⟩
      · cases hc
      · exact r.ii i m e1 hc), r.ir⟩
  · have e' : upd g.G (g.φ n) u a = some w := e
    by_cases ha : a = g.φ n
    · rw [ha, upd_same] at e'; cases e'
      rw [ha]
      exact .inl l1
    · rw [upd_ne ha] at e'
      exact r.ext a w e'
  · rcases getElem?_setS e with ⟨rfl, rfl, _⟩ | ⟨hi, e1⟩
    · exact absurd rfl hm'
    · obtain ⟨w, h1, h2, h3⟩ := r.live i m e1 hm'
      refine ⟨w, h1, RepM.mono (Gh.le_add l3) h2, ?_⟩
      show upd g.G (g.φ n) u (g.φ i) = none
      rw [upd_ne fun q => hi (r.inj i n m m0 e1 e0 hm' h0 q)]
      exact h3
  · rcases getElem?_setS ei with ⟨rfl, rfl, _⟩ | ⟨_, e1⟩
    · exact absurd rfl hi
    · rcases getElem?_setS ej with ⟨rfl, rfl, _⟩ | ⟨_, e2⟩
      · exact absurd rfl hj
      · exact r.inj i j mi mj e1 e2 hi hj q
  · obtain ⟨h1, h2, h3⟩ := r.frm a w e
    refine ⟨h1, ?_, fun i m ei hi => ?_⟩
    · show upd g.G (g.φ n) u a = none
      rw [upd_ne (h3 n m0 e0 h0).symm]; exact h2
    · rcases getElem?_setS ei with ⟨rfl, rfl, _⟩ | ⟨_, e1⟩
      · exact absurd rfl hi
      · exact h3 i m e1 hi

def Gh.hold (g : Gh) (p : Addr) (o : HO) : Gh := { g with F := upd g.F p o }
theorem Rel.hold (r : Rel K fa g H S) {p : Addr} {o : HO} (hp : H p = none) (ho : isTp o = false := by rfl) : Rel K fa (g.hold p o) (upd H p o) S := by
  have hg := r.fresh hp
  refine ⟨r.len, fun a u e => ?_, fun i mo e hm => ?_, r.inj, fun a u e => ?_, fun a u e => ?_, r.tabU (none_not hp), r.gt, r.ii, r.ir⟩
  · rw [upd_ne (ne_of_none (show g.G a = some u from e) hg)]
    exact r.ext a u e
  · obtain ⟨u, h1, h2, h3⟩ := r.live i mo e hm
    exact ⟨u, by show upd H p o (g.φ i) = some u; rw [upd_ne (r.ne_live hp e hm)]; exact h1, RepM.same h2, h3⟩
  · have e' : upd g.F p o a = some u := e
    by_cases ha : a = p
    · subst ha
      rw [upd_same] at e'; cases e'
      exact ⟨upd_same, hg, fun i mo e hm => r.ne_live hp e hm⟩
    · rw [upd_ne ha] at e'
      obtain ⟨h1, h2, h3⟩ := r.frm a u e'
      exact ⟨by rw [upd_ne ha]; exact h1, h2, h3⟩
  · have e' : upd g.F p o a = some u := e
    by_cases ha : a = p
    · subst ha
      rw [upd_same] at e'; cases e'
      exact ho
    · rw [upd_ne ha] at e'
      exact r.ft a u e'
theorem Rel.rehold (r : Rel K fa g H S) {p : Addr} {o o' : HO} (hp : g.F p = some o) (ho : isTp o' = false := by rfl) : Rel K fa { g with F := upd g.F p o' } (upd H p o') S := by
  obtain ⟨q1, q2, q3⟩ := r.frm p o hp
  refine ⟨r.len, fun a u e => ?_, fun i mo e hm => ?_, r.inj, fun a u e => ?_, fun a u e => ?_, r.tabU (r.frm_not hp), r.gt, r.ii, r.ir⟩
  · rw [upd_ne (ne_of_none (show g.G a = some u from e) q2)]
    exact r.ext a u e
  · obtain ⟨u, h1, h2, h3⟩ := r.live i mo e hm
    exact ⟨u, by show upd H p o' (g.φ i) = some u; rw [upd_ne (q3 i mo e hm)]; exact h1, RepM.same h2, h3⟩
  · have e' : upd g.F p o' a = some u := e
    by_cases ha : a = p
    · subst ha
      rw [upd_same] at e'; cases e'
      exact ⟨upd_same, q2, q3⟩
    · rw [upd_ne ha] at e'
      obtain ⟨h1, h2, h3⟩ := r.frm a u e'
      exact ⟨by rw [upd_ne ha]; exact h1, h2, h3⟩
  · have e' : upd g.F p o' a = some u := e
    by_cases ha : a = p
    · subst ha
      rw [upd_same] at e'; cases e'
      exact ho
    · rw [upd_ne ha] at e'
      exact r.ft a u e'
theorem Rel.unhold (r : Rel K fa g H S) {p : Addr} {o : HO} {F0 : Hp} (hp : g.F p = some o) (hF : ∀ a u, F0 a = some u → a ≠ p ∧ g.F a = some u) : Rel K fa { g.add p o with F := F0 } H S ∧ g.G p = none := by
  obtain ⟨q1, q2, q3⟩ := r.frm p o hp
  refine ⟨⟨r.len, fun a u e => ?_, fun i mo e hm => ?_, r.inj, fun a u e => ?_, fun a u e => r.ft a u (hF a u e).2, fun q hq => ⟨(r.tb q hq).1, r.tabG (r.frm_not hp) q hq⟩, updG_gt r.gt (fun ps z => by have := r.ft p o hp; rw [z] at this; cases this), r.ii, r.ir⟩, q2⟩
  · have e' : upd g.G p o a = some u := e
    by_cases ha : a = p
    · subst ha
      rw [upd_same] at e'; cases e'
      exact .inl q1
    · rw [upd_ne ha] at e'
      exact r.ext a u e'
  · obtain ⟨u, h1, h2, h3⟩ := r.live i mo e hm
    refine ⟨u, h1, RepM.same (RepM.mono (Gh.le_add (o := o) q2) h2), ?_⟩
    show upd g.G p o (g.φ i) = none
    rw [upd_ne (q3 i mo e hm)]; exact h3
  · obtain ⟨n1, n2⟩ := hF a u e
    obtain ⟨h1, h2, h3⟩ := r.frm a u n2
    refine ⟨h1, ?_, h3⟩
    show upd g.G p o a = none
    rw [upd_ne n1]; exact h2
theorem Rel.lockF (r : Rel K fa g H S) {n : Nat} {m0 : MO} {o : HO} (e0 : S[n]? = some m0) (h0 : m0 ≠ .dead) (ho : isTp o = false := by rfl) : Rel K fa { g with F := upd g.F (g.φ n) o } (upd H (g.φ n) o) (S.set n .dead) := by
  obtain ⟨u, l1, l2, l3⟩ := r.live n m0 e0 h0
  refine ⟨by simpa using r.len, fun a w e => ?_, fun i m e hm' => ?_, fun i j mi mj ei ej hi hj q => ?_, fun a w e => ?_, fun a w e => ?_, r.tabU (r.live_not e0 h0), r.gt, fun i m e hc => (by
      rcases getElem?_setS e with ⟨rfl, rfl, _⟩ | ⟨_, e1⟩
      · cases hc
      · exact r.ii i m e1 hc), r.ir⟩
  · rw [upd_ne (ne_of_none (show g.G a = some w from e) l3)]
    exact r.ext a w e
  · rcases getElem?_setS e with ⟨rfl, rfl, _⟩ | ⟨hi, e1⟩
    · exact absurd rfl hm'
    · obtain ⟨w, h1, h2, h3⟩ := r.live i m e1 hm'
      refine ⟨w, ?_, RepM.same h2, h3⟩
      show upd H (g.φ n) o (g.φ i) = some w
      rw [upd_ne fun q => hi (r.inj i n m m0 e1 e0 hm' h0 q)]
      exact h1
  · rcases getElem?_setS ei with ⟨rfl, rfl, _⟩ | ⟨_, e1⟩
    · exact absurd rfl hi
    · rcases getElem?_setS ej with ⟨rfl, rfl, _⟩ | ⟨_, e2⟩
      · exact absurd rfl hj
      · exact r.inj i j mi mj e1 e2 hi hj q
  · have e' : upd g.F (g.φ n) o a = some w := e
    by_cases ha : a = g.φ n
    · subst ha
      rw [upd_same] at e'; cases e'
      refine ⟨upd_same, l3, fun i m ei hi => ?_⟩
      rcases getElem?_setS ei with ⟨rfl, rfl, _⟩ | ⟨hn, e1⟩
      · exact absurd rfl hi
      · exact fun q => hn (r.inj i n m m0 e1 e0 hi h0 q)
    · rw [upd_ne ha] at e'
      obtain ⟨h1, h2, h3⟩ := r.frm a w e'
      refine ⟨by rw [upd_ne ha]; exact h1, h2, fun i m ei hi => ?_⟩
      rcases getElem?_setS ei with ⟨rfl, rfl, _⟩ | ⟨_, e1⟩
      · exact absurd rfl hi
      · exact h3 i m e1 hi
  · have e' : upd g.F (g.φ n) o a = some w := e
    by_cases ha : a = g.φ n
    · subst ha
      rw [upd_same] at e'; cases e'
      exact ho
    · rw [upd_ne ha] at e'
      exact r.ft a w e'
theorem Rel.letgo (r : Rel K fa g H S) {p : Addr} {o o' : HO} {F0 : Hp} (hp : g.F p = some o) (hF : ∀ a u, F0 a = some u → a ≠ p ∧ g.F a = some u) : Rel K fa { g with F := F0 } (upd H p o') S := by
  obtain ⟨q1, q2, q3⟩ := r.frm p o hp
  refine ⟨r.len, fun a u e => ?_, fun i mo e hm => ?_, r.inj, fun a u e => ?_, fun a u e => r.ft a u (hF a u e).2, r.tabU (r.frm_not hp), r.gt, r.ii, r.ir⟩
  · rw [upd_ne (ne_of_none (show g.G a = some u from e) q2)]
    exact r.ext a u e
  · obtain ⟨u, h1, h2, h3⟩ := r.live i mo e hm
    refine ⟨u, ?_, RepM.same h2, h3⟩
    show upd H p o' (g.φ i) = some u
    rw [upd_ne (q3 i mo e hm)]; exact h1
  · obtain ⟨n1, n2⟩ := hF a u e
    obtain ⟨h1, h2, h3⟩ := r.frm a u n2
    exact ⟨by rw [upd_ne n1]; exact h1, h2, h3⟩
theorem Rel.tables (r : Rel K fa g H S) {H1 : Hp} (e : LamX.ExtN H H1) (t : LamX.Tabs fa.tabs H1) : Rel K fa g H1 S := by
  refine ⟨r.len, fun a u q => ?_, fun i mo q hm => ?_, r.inj, fun a u q => ?_, r.ft, fun p hp => ⟨t p hp, (r.tb p hp).2⟩, r.gt, r.ii, r.ir⟩
  · rcases r.ext a u q with h | ⟨h1, h2, o, h3⟩
    · exact .inl (e a u h fun ps z => r.gt a ps (by rw [q, z]))
    · exact .inr ⟨h1, h2, o, e a _ h3 fun _ z => nomatch z⟩
  · obtain ⟨u, h1, h2, h3⟩ := r.live i mo q hm
    exact ⟨u, e _ _ h1 (repM_not h2).1, h2, h3⟩
  · obtain ⟨h1, h2, h3⟩ := r.frm a u q
    exact ⟨e a u h1 (fun ps z => by have := r.ft a u q; rw [z] at this; cases this), h2, h3⟩
theorem Rel.cut (r : Rel K fa g H S) {n : Nat} (hn : n ≤ g.n) (hI : ∀ (i : Nat) l, g.I i = some l → ∀ q ∈ l, q < n) : Rel K fa { g with n := n } H (S.take n) := by
  have key : ∀ (i : Nat) mo, (S.take n)[i]? = some mo → S[i]? = some mo := fun i mo e => by
    rw [List.getElem?_take] at e
    split at e
    · exact e
    · cases e
  refine ⟨by have := r.len; rw [List.length_take]; show min n S.length = n; omega, r.ext, fun i mo e hm => (by
      obtain ⟨u, h1, h2, h3⟩ := r.live i mo (key i mo e) hm
      refine ⟨u, h1, h2.cut ?_, h3⟩
      cases hc : mo.isC with
      | true => exact hI i _ (r.ii i mo (key i mo e) hc)
      | false => intro q hq; cases mo <;> first | (simp [MO.refs] at hq; done) | cases hc), fun i j mi mj ei ej => r.inj i j mi mj (key i mi ei) (key j mj ej), fun a u e => ?_, r.ft, r.tb, r.gt, fun i mo e hc => r.ii i mo (key i mo e) hc, hI⟩
  obtain ⟨h1, h2, h3⟩ := r.frm a u e
  exact ⟨h1, h2, fun i mo ei hi => h3 i mo (key i mo ei) hi⟩
theorem Rel.adopt (r : Rel K fa g H S) {b : Addr} {vs : List V} (hb : H b = some (.tup vs)) : ∃ g', g.le g' ∧ Rel K fa g' H S ∧ g'.G b = some (.tup vs) := by
  cases hg : g.G b with
  | some u =>
    refine ⟨g, .refl g, r, ?_⟩
    rcases r.ext b u hg with h | ⟨_, _, o, h⟩
    · rw [hb] at h; rw [hg]; exact h.symm
    · rw [hb] at h; cases h
  | none =>
    refine ⟨g.add b (.tup vs), Gh.le_add hg, ⟨r.len, fun a u e => ?_, fun i mo e hm => ?_, r.inj, fun a u e => ?_, r.ft, fun q hq => ⟨(r.tb q hq).1, r.tabG ⟨fun ps z => (by rw [hb] at z; cases z), fun q z => (by rw [hb] at z; unfold LamX.CodeO at z; cases z)⟩ q hq⟩, updG_gt r.gt (fun _ z => nomatch z), r.ii, r.ir⟩, upd_same⟩
    · have e' : upd g.G b (.tup vs) a = some u := e
      by_cases ha : a = b
      · subst ha
        rw [upd_same] at e'; cases e'
        exact .inl hb
      · rw [upd_ne ha] at e'
        exact r.ext a u e'
    · obtain ⟨u, h1, h2, h3⟩ := r.live i mo e hm
      have ne : g.φ i ≠ b := by
        rintro rfl
        rw [hb] at h1
        cases h1
        cases mo with
        | dead => exact hm rfl
        | lst ds => obtain ⟨_, z, _⟩ := h2; cases z
        | dK ks ds => obtain ⟨_, z, _⟩ := h2; cases z
        | dT ks ds => obtain ⟨_, z, _⟩ := h2; cases z
        | set ks => exact absurd h2 (fun z => nomatch z)
        | ins c ks ws => obtain ⟨_, _, z, _⟩ := h2; cases z
        | dW ks ws => obtain ⟨_, z, _⟩ := h2; cases z
        | lW ws => obtain ⟨_, z, _⟩ := h2; cases z
      refine ⟨u, h1, RepM.mono (Gh.le_add hg) h2, ?_⟩
      show upd g.G b (.tup vs) (g.φ i) = none
      rw [upd_ne ne]; exact h3
    · obtain ⟨h1, h2, h3⟩ := r.frm a u e
      have ne : a ≠ b := by
        rintro rfl
        rw [hb] at h1
        cases h1
        have := r.ft _ _ e
        simp [isTp] at this
      refine ⟨h1, ?_, h3⟩
      show upd g.G b (.tup vs) a = none
      rw [upd_ne ne]; exact h2
theorem Rel.junk (r : Rel K fa g H S) {p : Addr} {o : HO} (hp : H p = none) : Rel K fa g (upd H p o) S := by
  have hg := r.fresh hp
  refine ⟨r.len, fun a u e => ?_, fun i mo e hm => ?_, r.inj, fun a u e => ?_, r.ft, r.tabU (none_not hp), r.gt, r.ii, r.ir⟩
  · rw [upd_ne (ne_of_none e hg)]
    exact r.ext a u e
  · obtain ⟨u, h1, h2, h3⟩ := r.live i mo e hm
    exact ⟨u, by rw [upd_ne (r.ne_live hp e hm)]; exact h1, h2, h3⟩
  · obtain ⟨h1, h2, h3⟩ := r.frm a u e
    exact ⟨by rw [upd_ne (ne_of_none h1 hp)]; exact h1, h2, h3⟩
def Gh.tell (g : Gh) (i : Nat) (l : List Nat) : Gh := { g with I := fun j => if j = i then some l else g.I j }
theorem Gh.le_tell {i : Nat} {l : List Nat} (h : g.ro = false) : g.le (g.tell i l) := ⟨fun _ _ e => e, fun _ _ => rfl, Nat.le_refl _, rfl, rfl, rfl, fun z => by rw [h] at z; cases z⟩
theorem Rel.tell (r : Rel K fa g H S) {i : Nat} {l : List Nat} (hl : ∀ q ∈ l, q < g.n) (hi : ∀ mo, S[i]? = some mo → mo.isC = true → mo.refs = l) : Rel K fa (g.tell i l) H S := by
  refine ⟨r.len, r.ext, fun j mo e hm => ?_, r.inj, r.frm, r.ft, r.tb, r.gt, fun j mo e hc => ?_, fun j m e => ?_⟩
  · obtain ⟨u, h1, h2, h3⟩ := r.live j mo e hm
    exact ⟨u, h1, RepM.same h2, h3⟩
  · show (if j = i then some l else g.I j) = _
    by_cases hj : j = i
    · subst hj; rw [if_pos rfl, hi mo e hc]
    · rw [if_neg hj]; exact r.ii j mo e hc
  · have e' : (if j = i then some l else g.I j) = some m := e
    split at e'
    · cases e'; exact hl
    · exact r.ir j m e'
theorem Rel.mark (r : Rel K fa g H S) {b : Bool} : Rel K fa { g with ro := b } H S :=
  ⟨r.len, r.ext, fun j mo e hm => let ⟨u, h1, h2, h3⟩ := r.live j mo e hm; ⟨u, h1, RepM.same h2, h3⟩, r.inj, r.frm, r.ft, r.tb, r.gt, r.ii, r.ir⟩
theorem Rel.pushC (r : Rel K fa g H S) {p : Addr} {o : HO} {mo : MO} (hp : H p = none) (hm : RepM K fa g p o mo) : Rel K fa ((g.push p).tell S.length mo.refs) (upd H p o) (S ++ [mo]) := by
  have r1 : Rel K fa (g.push p) (upd H p o) (S ++ [MO.dead]) := by
    have hg := r.fresh hp
    have old : ∀ {i : Nat}, i < S.length → (g.push p).φ i = g.φ i := fun {i} hi => by
      show (if i = g.n then p else g.φ i) = g.φ i
      rw [if_neg (by rw [r.len] at hi; omega)]
    refine ⟨by simp [Gh.push, r.len], fun a u e => ?_, fun i m e hm' => ?_, fun i j mi mj ei ej hi hj q => ?_, fun a u e => ?_, r.ft, r.tabU (none_not hp), r.gt, fun i m e hc => ?_, fun i l e q hq => Nat.lt_succ_of_lt (r.ir i l e q hq)⟩
    · have e' : g.G a = some u := e
      rw [upd_ne (ne_of_none e' hg)]
      exact r.ext a u e'
    · rcases getElem?_push e with ⟨e1, hl⟩ | ⟨rfl, rfl⟩
      · rw [old hl]
        obtain ⟨u, h1, h2, h3⟩ := r.live i m e1 hm'
        exact ⟨u, by rw [upd_ne (r.ne_live hp e1 hm')]; exact h1, RepM.mono Gh.le_push h2, h3⟩
      · exact absurd rfl hm'
    · rcases getElem?_push ei with ⟨e1, l1⟩ | ⟨rfl, rfl⟩
      · rcases getElem?_push ej with ⟨e2, l2⟩ | ⟨rfl, rfl⟩
        · rw [old l1, old l2] at q
          exact r.inj i j mi mj e1 e2 hi hj q
        · exact absurd rfl hj
      · exact absurd rfl hi
    · obtain ⟨h1, h2, h3⟩ := r.frm a u e
      have ne : a ≠ p := ne_of_none h1 hp
      refine ⟨by rw [upd_ne ne]; exact h1, h2, fun i m ei hi => ?_⟩
      rcases getElem?_push ei with ⟨e1, l1⟩ | ⟨rfl, rfl⟩
      · rw [old l1]; exact h3 i m e1 hi
      · exact absurd rfl hi
    · rcases getElem?_push e with ⟨e1, _⟩ | ⟨rfl, rfl⟩
      · exact r.ii i m e1 hc
      · cases hc
  have r2 := r1.tell (i := S.length) (l := mo.refs) (fun q hq => Nat.lt_succ_of_lt (hm.refs q hq)) (fun m e hc => by
    rw [List.getElem?_append_right (Nat.le_refl _)] at e
    simp at e; subst e; cases hc)
  have hφ : ((g.push p).tell S.length mo.refs).φ S.length = p := by
    show (if S.length = g.n then p else g.φ S.length) = p
    rw [if_pos r.len]
  have hGn : g.G p = none := r.fresh hp
  have hle : RepM K fa ((g.push p).tell S.length mo.refs) p o mo := RepM.same (g := g.push p) (RepM.mono Gh.le_push hm)
  refine ⟨by simp [r2.len.symm], r2.ext, fun i m e hm' => ?_, fun i j mi mj ei ej hi hj q => ?_, fun a u e => ?_, r2.ft, r2.tb, r2.gt, fun i m e hc => ?_, r2.ir⟩
  · rcases getElem?_push e with ⟨e1, hl⟩ | ⟨rfl, rfl⟩
    · exact r2.live i m (by rw [List.getElem?_append_left hl]; exact e1) hm'
    · rw [hφ]; exact ⟨o, upd_same, hle, hGn⟩
  · have apart : ∀ {k : Nat} {mk : MO}, S[k]? = some mk → k < S.length → mk ≠ .dead → ((g.push p).tell S.length mo.refs).φ k ≠ p := fun {k mk} ek lk hk => by
      show (if k = g.n then p else g.φ k) ≠ p
      rw [if_neg (by rw [r.len] at lk; omega)]
      exact r.ne_live hp ek hk
    rcases getElem?_push ei with ⟨e1, l1⟩ | ⟨rfl, rfl⟩
    · rcases getElem?_push ej with ⟨e2, l2⟩ | ⟨rfl, rfl⟩
      · exact r2.inj i j mi mj (by rw [List.getElem?_append_left l1]; exact e1) (by rw [List.getElem?_append_left l2]; exact e2) hi hj q
      · rw [hφ] at q
        exact absurd q (apart e1 l1 hi)
    · rcases getElem?_push ej with ⟨e2, l2⟩ | ⟨rfl, rfl⟩
      · rw [hφ] at q
        exact absurd q.symm (apart e2 l2 hj)
      · rfl
  · obtain ⟨h1, h2, h3⟩ := r2.frm a u e
    refine ⟨h1, h2, fun i m ei hi => ?_⟩
    rcases getElem?_push ei with ⟨e1, l1⟩ | ⟨rfl, rfl⟩
    · exact h3 i m (by rw [List.getElem?_append_left l1]; exact e1) hi
    · rw [hφ]
      exact fun z => ne_of_none (r.frm a u e).1 hp z.symm
  · rcases getElem?_push e with ⟨e1, hl⟩ | ⟨rfl, rfl⟩
    · exact r2.ii i m (by rw [List.getElem?_append_left hl]; exact e1) hc
    · show (if S.length = S.length then some m.refs else _) = _
      rw [if_pos rfl]
theorem Rel.writeC (r : Rel K fa g H S) {n : Nat} {m0 mo : MO} {o : HO} (e0 : S[n]? = some m0) (h0 : m0 ≠ .dead) (hm : RepM K fa g (g.φ n) o mo) : Rel K fa (g.tell n mo.refs) (upd H (g.φ n) o) (S.set n mo) := by
  obtain ⟨u0, l1, l2, l3⟩ := r.live n m0 e0 h0
  have key : ∀ (i : Nat) mi, (S.set n mo)[i]? = some mi → mi ≠ .dead → ∃ m', S[i]? = some m' ∧ m' ≠ .dead := fun i mi ei hi => by
    rcases getElem?_setS ei with ⟨rfl, _, _⟩ | ⟨_, e1⟩
    · exact ⟨m0, e0, h0⟩
    · exact ⟨mi, e1, hi⟩
  refine ⟨by rw [List.length_set]; exact r.len, fun a u e => ?_, fun i m e hm' => ?_, fun i j mi mj ei ej hi hj q => ?_, fun a u e => ?_, r.ft, r.tabU (r.live_not e0 h0), r.gt, fun i m e hc => ?_, fun i l e => ?_⟩
  · rw [upd_ne (ne_of_none (show g.G a = some u from e) l3)]
    exact r.ext a u e
  · rcases getElem?_setS e with ⟨rfl, rfl, _⟩ | ⟨hi, e1⟩
    · exact ⟨o, upd_same, RepM.same hm, l3⟩
    · obtain ⟨u, h1, h2, h3⟩ := r.live i m e1 hm'
      refine ⟨u, ?_, RepM.same h2, h3⟩
      show upd H (g.φ n) o (g.φ i) = some u
      rw [upd_ne fun q => hi (r.inj i n m m0 e1 e0 hm' h0 q)]
      exact h1
  · obtain ⟨m1, a1, a2⟩ := key i mi ei hi
    obtain ⟨m2, b1, b2⟩ := key j mj ej hj
    exact r.inj i j m1 m2 a1 b1 a2 b2 q
  · obtain ⟨h1, h2, h3⟩ := r.frm a u e
    refine ⟨by rw [upd_ne (h3 n m0 e0 h0).symm]; exact h1, h2, fun i m ei hi => ?_⟩
    obtain ⟨m1, a1, a2⟩ := key i m ei hi
    exact h3 i m1 a1 a2
  · show (if i = n then some mo.refs else g.I i) = _
    rcases getElem?_setS e with ⟨rfl, rfl, _⟩ | ⟨hi, e1⟩
    · rw [if_pos rfl]
    · rw [if_neg hi]; exact r.ii i m e1 hc
  · have e' : (if i = n then some mo.refs else g.I i) = some l := e
    split at e'
    · cases e'; exact hm.refs
    · exact r.ir i l e'
theorem Rel.news (r : Rel K fa g H S) {H' G' : Hp} (hx : ∀ b o, H b = some o → H' b = some o) (l : GLe g.G G') (hG : ∀ a u, G' a = some u → g.G a = some u ∨ H a = none ∧ H' a = some u ∧ ∃ vs, u = .tup vs) : g.le { g with G := G' } ∧ Rel K fa { g with G := G' } H' S := by
  have le : g.le { g with G := G' } := ⟨l, fun _ _ => rfl, Nat.le_refl _, rfl, rfl, rfl, fun _ => rfl⟩
  have free : ∀ {a : Addr} {o : HO}, H a = some o → g.G a = none → G' a = none := fun {a o} ha hg => by
    cases e : G' a with
    | none => rfl
    | some u =>
      rcases hG a u e with h | ⟨h, _⟩
      · rw [hg] at h; cases h
      · rw [ha] at h; cases h
  refine ⟨le, r.len, fun a u e => ?_, fun i mo e hm => ?_, r.inj, fun a u e => ?_, r.ft, fun p hp => ?_, fun a ps e => ?_, r.ii, r.ir⟩
  · rcases hG a u e with h | ⟨_, h, _⟩
    · rcases r.ext a u h with h | ⟨h1, h2, o, h3⟩
      · exact .inl (hx _ _ h)
      · exact .inr ⟨h1, h2, o, hx _ _ h3⟩
    · exact .inl h
  · obtain ⟨u, h1, h2, h3⟩ := r.live i mo e hm
    exact ⟨u, hx _ _ h1, RepM.mono le h2, free h1 h3⟩
  · obtain ⟨h1, h2, h3⟩ := r.frm a u e
    exact ⟨hx _ _ h1, free h1 h2, h3⟩
  · obtain ⟨⟨ps, a1, a2, a3⟩, h2⟩ := r.tb p hp
    refine ⟨⟨ps, hx _ _ a1, a2, fun pos cv hc => ?_⟩, free a1 h2⟩
    obtain ⟨c, e1, e2⟩ := a3 pos cv hc
    exact ⟨c, e1, hx _ _ e2⟩
  · rcases hG a _ e with h | ⟨_, _, _, h⟩
    · exact r.gt a ps h
    · cases h
end
end Pv

set_option Elab.async false
set_option linter.all false
set_option maxRecDepth 100000
set_option maxHeartbeats 4000000
namespace Pv
open PySem PySem.W PySem.Calls PyProof.Rows PySem.HandSPX

abbrev xTl : List Value := [.type "Exception", .type "BaseException", .type "object"]
theorem has_tl {C B : Addr} (X : String) : (Value.ref C :: Value.ref B :: xTl).contains (.type X) = xTl.contains (.type X) := by
  rw [List.contains_cons, List.contains_cons]; rfl
theorem has_tl1 {B : Addr} (X : String) : (Value.ref B :: xTl).contains (.type X) = xTl.contains (.type X) := by
  rw [List.contains_cons]; rfl

section
open Builtin Builtin.ObjectAttr
variable {prog : Program} {w : World} {A : Around} {R : Result → Shared → Prop} {hp : Heap} {g : Array GenState} {d : Drawn} {t : Nat} {os : OsState}
theorem osaE {K : Frag} {fl : Str} {tk : Tok} {v : Value} {x C B : Addr} {fv : Array Value} {cd : ClassData}
    (X : K.In hp) (gx : hp.get? x = some { cls := .ref C, data := .fields fv }) (gcd : clsIn K C = some cd) (gm : cd.mro = .ref C :: .ref B :: xTl) (gd : cd.hasDict = true) (ga : findIn K (.ref C) fl = some none)
    (end_ : ∀ h' tk' dx, (∀ b o, b ≠ x → hp.get? b = some o → h'.get? b = some o) → hp.objs.size ≤ dx → dx ≠ x → h'.get? x = some { cls := .ref C, dict := some dx, data := .fields fv } → h'.Ns1 dx (fun y => if y = fl then some v else none) → R (.ok (.ret .none)) ⟨h', g, d, tk', os⟩) :
    codeAny (model prog w) A (.call (.builtin "object.__setattr__") ⟨[.ref x, .str fl tk, v], []⟩) R ⟨hp, g, d, t, os⟩ := by
  have I0 : InstAt hp x { cls := .ref C, data := .fields fv } C none := ⟨gx, rfl, rfl, trivial⟩
  have sto := F.store_object
  have ob : cd.mro.contains (.type "object") = true := by rw [gm, has_tl]; decide +kernel
  have nem : cd.mro.isEmpty = false := by rw [gm]; rfl
  have xne : x ≠ hp.objs.size := Nat.ne_of_lt (Heap.lt_size gx)
  have isub : Looks (model prog w) hp (isInstance (.ref x) (.type "object")) true := I0.type.andThen (looks_mroIn X (by unfold mroIn; rw [gcd, Option.bind_some, if_neg (by rw [nem]; decide), ob]))
  refine codeAny_call_builtin sto.slot.plain sto.entry (@check_slot (model prog w) _ _ ⟨hp, g, d, t, os⟩ "object.__setattr__" "object" "__setattr__" (.ref x) [.str fl tk, v] [] _ sto.kind sto.split isub (sto.args (.ref x) (.str fl tk) v) ?_)
  have lmro : Looks (model prog w) hp (mroOf (.ref C)) cd.mro := (looks_clsIn X gcd).andThen .now
  have ltk : Looks (model prog w) hp (storeTaker? none) none := .now
  have lcd : Looks (model prog w) hp (classData C) cd := looks_clsIn X gcd
  have pass : refuseLoop (.ref x) "__setattr__" cd.mro = pure () := by rw [gm, refuseLoop_ref, refuseLoop_ref]; exact F.store_Exception.passes _
  rw [osa_eq, refuse_eq]
  refine wpAny_bind (wpAny_bind (I0.type.at (wpAny_bind (lmro.at ?_)))); rw [pass]
  refine wpAny_pure (wpAny_bind (I0.type.at (wpAny_bind ((looks_findIn X ga).at (wpAny_bind (ltk.at ?_))))))
  show wpAny _ _ (storeInOwnDict (.ref x) (.ref C) (.str fl tk) fl v false) _ _ _
  obtain ⟨n0, b0, m0, s0, q0, hd0, sn0, sb0, ab0, co0, de0⟩ := cd
  dsimp only at gd; subst gd
  unfold storeInOwnDict ownDictForStores
  repeat (first | with_reducible refine store_in_new ?_ ?_ | with_reducible refine wpAny_loadPart_at gx ?_ | with_reducible refine lcd.at ?_ | wp_step)
  · exact ⟨_, #[], _, (Heap.get?_update_ne _ _ _ _ xne.symm).trans (Heap.get?_push_at rfl rfl), rfl, fun e he => absurd he (by simp), fun _ => rfl⟩
  · intro h' tk' hn' sb'
    have gx₁ : (hp.push { cls := .type "dict", data := .dict #[] }).get? x = some { cls := .ref C, data := .fields fv } := Heap.get?_push_of_some _ gx
    refine end_ h' tk' hp.objs.size (fun b o hb ho => (sb'.2 b (Nat.ne_of_lt (Heap.lt_size ho))).trans ((Heap.get?_update_ne _ _ _ _ hb).trans (Heap.get?_push_of_some _ ho))) (Nat.le_refl _) xne.symm ?_ hn'
    exact (sb'.2 x xne).trans (Heap.get?_update_self _ gx₁ rfl)
end
end Pv

namespace Pv
open PySem L2 PySem.Spec PyProof.Rows
structure ErrC (K : PySem.W.Frag) (mg : Str → Option Value) (x bx f : Str) (C B : Addr) : Prop where
  gC : mg x = some (.ref C)
  cls : ∃ nm q N bs sn sub ab col dd k0 k1 k2 k3 k5, K.lookup C = some (excClassObj nm q C N bs (.ref B :: xTl) true sn sub ab col dd k0 k1 k2 k3 k5 "Exception.__new__")
  sa : PySem.W.findIn K (.ref C) "__setattr__" = some (some (.builtin "object.__setattr__"))
  ga : PySem.W.findIn K (.ref C) "__getattribute__" = some (some (.builtin "BaseException.__getattribute__"))
  gg : PySem.W.findIn K (.ref C) "__getattr__" = some none
  noF : PySem.W.findIn K (.ref C) f = some none
  kC : PySem.W.keepIn K (.ref C) = true
  exC : PySem.W.subIn K (.ref C) (.type "BaseException") = some true
  tyC : PySem.W.typeIn K (.ref C) = some (.type "type")
  hdC : PySem.W.hasDictIn K C = true
  isC : PySem.W.isClsIn K C = true
  seC : PySem.W.subIn K (.ref C) (.ref C) = some true
  gB : mg bx = some (.ref B)
  tyB : PySem.W.typeIn K (.ref B) = some (.type "type")
  spB : PySem.W.specialIn K (.ref B) "__getattribute__" = some (some (.builtin "type.__getattribute__"))
  rdB : PySem.W.readsIn K B (.type "type") = true
  fiB : PySem.W.findCls K (.ref B) (.type "type") "__init__" = some (.val (.builtin "Exception.__init__"))
theorem exmSelf {K : PySem.W.Frag} {S : Addr} (h1 : PySem.W.subIn K (.ref S) (.type "BaseException") = some true) (h2 : PySem.W.isClsIn K S = true) (h3 : PySem.W.typeIn K (.ref S) = some (.type "type")) (h4 : PySem.W.subIn K (.ref S) (.ref S) = some true) :
    PySem.W.exmOne K (.ref S) (.ref S) = some true := by
  have e1 : (PySem.W.subIn K (.ref S) (.type "BaseException") == some true) = true := by rw [h1] <;> rfl
  have e2 : ((PySem.W.clsIn K S).isSome && PySem.W.typeIn K (.ref S) == some (.type "type")) = true := by
    have h2' : (PySem.W.clsIn K S).isSome = true := h2
    rw [h2', h3] <;> rfl
  show (if (PySem.W.subIn K (.ref S) (.type "BaseException") == some true) = true then (if ((PySem.W.clsIn K S).isSome && PySem.W.typeIn K (.ref S) == some (.type "type")) = true then PySem.W.subIn K (.ref S) (.ref S) else none) else none) = some true
  rw [if_pos e1, if_pos e2]
  exact h4
section
variable {X : Cx} {pins : List (Addr × Obj)} {σ : L2.St} {H : Hp} {s : Shared} {a C B dx : Addr} {x bx f : Str} {y : V} {u : Value} {E : Value → Shared → Prop} {A : Around}
theorem ErrC.clsD {K : PySem.W.Frag} {mg : Str → Option Value} (T : ErrC K mg x bx f C B) : ∃ cd, PySem.W.clsIn K C = some cd ∧ cd.mro = .ref C :: .ref B :: xTl ∧ cd.hasDict = true := by
  obtain ⟨nm, q, N, bs, sn, sub, ab, col, dd, k0, k1, k2, k3, k5, hC⟩ := T.cls
  exact ⟨{ name := nm, bases := bs, mro := .ref C :: .ref B :: xTl, ns := N, qualname := q, hasDict := true, slotNames := sn, subclasses := sub, abstract := ab, collection := col, hasDel := false }, by unfold PySem.W.clsIn; rw [hC] <;> rfl, rfl, rfl⟩
theorem ostE {Q : Unit → Shared → Prop} (T : ErrC X.K X.mg x bx f C B) (I : Inv X pins σ H s) (e : H a = some (exo a C none)) (ry : RelV y u)
    (k : ∀ dx s', H dx = none → dx ≠ a → Inv X pins σ (upd (upd H dx (exd dx [(f, y)])) a (exo a C (some dx))) s' → Q () s') : wpAny (model X.prog X.w) A (setAttr (.ref a) f u) Q E s := by
  obtain ⟨cd, c1, c2, c3⟩ := T.clsD
  obtain ⟨t1, ho⟩ := exo_at I.hok e
  obtain ⟨hp, g, d, t, os⟩ := s
  refine PySem.W.set_plain I.kIn (ox := { cls := .ref C, dict := none, data := .fields #[.ref t1, .none, .none, .none, .bool false, .none] }) (od := none) ⟨ho, rfl, rfl, trivial⟩ T.sa ?_
  refine osaE I.kIn ho c1 c2 c3 T.noF (fun h' tk' dx kp dn dne hx hn => ?_)
  have dfr : H dx = none := I.hok.fresh dn
  have ned : ∀ {b : Addr} {o : Obj}, hp.get? b = some o → b ≠ dx := fun {b o} q => Nat.ne_of_lt (Nat.lt_of_lt_of_le (Heap.lt_size q) dn)
  have nea : ∀ {b : Addr}, H b = none → b ≠ a := fun {b} n z => by rw [z, e] at n; cases n
  have un : Un X.fs [] H (upd (upd H dx (exd dx [(f, y)])) a (exo a C (some dx))) hp h' :=
    ⟨fun b o q n _ _ => kp b o (nea n) q, fun b o q n _ _ => ⟨o.slots, kp b o (nea n) q⟩, fun b o q n _ => by rw [upd_ne (nea n), upd_ne (ned q)]; exact n,
      fun b o q _ => by
        by_cases hb : b = a
        · exact ⟨_, by rw [hb]; exact hx⟩
        · exact ⟨o, kp b o hb q⟩,
      fun b xs q => by rw [upd_ne (at_ne e q exo_tup), upd_ne (ne_of_none q dfr)]; exact q, fun b o v q => by rw [upd_ne (at_ne e q exo_frz), upd_ne (ne_of_none q dfr)]; exact q,
      fun b ps q => ⟨#[], by rw [upd_ne (at_ne e q exo_tbl), upd_ne (ne_of_none q dfr), q]; simp⟩⟩
  refine k dx _ dfr dne (I.un (t' := tk') un fun b o q => ?_)
  by_cases hb : b = a
  · subst hb; rw [upd_same] at q; cases q
    exact exo_ok hx
  · rw [upd_ne hb] at q
    by_cases hd : b = dx
    · subst hd; rw [upd_same] at q; cases q
      exact exd_ok hn (relO_put (fs := []) ry fun g => True.intro)
    · rw [upd_ne hd] at q
      refine (I.hok b o q).stay (fun c v hc z => kp c v (hc.elim (fun hc => by rw [hc]; exact hb) fun hc => at_ne e hc exo_own) z) (fun c hc => ?_) fun c xs hc => ?_
      · rw [upd_ne (at_ne e hc exo_own), upd_ne (ne_of_none hc dfr)]; exact hc
      · rw [upd_ne (at_ne e hc exo_tup), upd_ne (ne_of_none hc dfr)]; exact hc
theorem initE {us : List Value} {Q : Value → Shared → Prop} (T : ErrC X.K X.mg x bx f C B) (I : Inv X pins σ H s) (e : H a = some (exo a C none)) (hl : us.length ≤ sizeLine) (k : ∀ s', Inv X pins σ H s' → Q .none s') :
    wpAny (model X.prog X.w) A (call (.builtin "Exception.__init__") (.ref a :: us)) Q E s := by
  obtain ⟨nm, q, N, bs, sn, sub, ab, col, dd, k0, k1, k2, k3, k5, hC⟩ := T.cls
  obtain ⟨t1, ho⟩ := exo_at I.hok e
  obtain ⟨hp, g, d, t, os⟩ := s
  refine wpAny_call (PySem.HandSPX.init_base F.excBase_Exception (fun Y => has_tl1 Y) (I.kIn _ _ hC) ho hl fun h' t2 kp hx => ?_)
  have J := I.write (t' := t) (x := a) (e := a) (o := exo a C none) (by rw [e]; exact True.intro) (.inl rfl) kp ⟨_, hx⟩ (exo_ok hx)
  have eu : upd H a (exo a C none) = H := funext fun b => by
    by_cases hb : b = a
    · rw [hb, upd_same, e]
    · rw [upd_ne hb]
  rw [eu] at J
  exact k _ J
end

def tErI (C : Addr) (ta : TA) : TE := fun σ H Q => ta σ H fun vs H1 => ∃ (a : Addr) (ws : List V), vs = .ref a :: ws ∧ ws.length ≤ 1000 ∧ H1 a = some (exo a C none) ∧ Q .non H1
def tErF (C : Addr) (f : Str) (to te : TE) : TS := fun D σ H => te σ H fun y H1 => to σ H1 fun x H2 => ∃ a : Addr, x = .ref a ∧ H2 a = some (exo a C none) ∧ ∀ dx, H2 dx = none → dx ≠ a → D.nx σ (upd (upd H2 dx (exd dx [(f, y)])) a (exo a C (some dx)))
def tErM (C : Addr) (sp : Sp) (ta : TA) : L2.St → Hp → XK → Prop := fun σ H Q => ta σ H fun vs H1 => vs.length ≤ 1000 ∧ ∀ a, H1 a = none → sp (.ref a :: vs) (upd H1 a (exo a C none))
  (fun v H2 => v = .non ∧ ∃ (d : Addr) (fs : List (Str × V)), H2 a = some (exo a C (some d)) ∧ H2 d = some (exd d fs) ∧ H1 d = none ∧ Q (.ref C) (some d) (upd (L2.del H2 a) d (.xd fs))) (fun _ _ _ => False)
section
variable {X : Cx} {C B : Addr} {x bx f : Str} {o e : Expr} {es : List Expr} {to te : TE} {ta : TA} {p p' p1 p2 pos : Pos}
theorem pe_erI {pl : Sem Bool} (T : ErrC X.K X.mg x bx f C B) (hg : Gl X bx) (ha : PA X (e :: es) ta) (hdb : (bx == ("__debug__" : Str)) = false := by decide)
    (hc : eval (.Call (.Attribute (.Name bx p1) "__init__" p2) (e :: es) [] pos) X.env = (do
      let ov ← eval (.Name bx p1) X.env
      standAt p2.atName
      let (f, first) ← holding [ov] (getMethod ov "__init__" pl)
      callWith pos f first (backTo pos (starEach (e :: es) X.env)) (backToKw pos (keywordEach [] X.env))) := by rfl)
    (he : starEach (e :: es) X.env = (false, eval e X.env) :: starEach es X.env := by rfl) (hpl : (backTo pos (starEach es X.env)).any (·.1) = false := by rfl) :
    PE X (.Call (.Attribute (.Name bx p1) "__init__" p2) (e :: es) [] pos) (tErI C ta) := by
  refine ⟨fun pins s σ H Q I h => ?_⟩
  refine PySem.W.methodCall_KW (ld_glob I hg T.gB ?_ hdb) hc
  obtain ⟨m, fr⟩ := I.fr
  refine PySem.W.method_of_cls fr I.ok.mod.kin T.spB (PySem.W.cls_val fr I.ok.mod.kin (mc := .type "type") T.tyB T.rdB T.fiB (by decide +kernel) ?_)
  show wpAny _ _ (callWith pos (Value.builtin "Exception.__init__") [] (backTo pos (starEach (e :: es) X.env)) []) _ _ _
  refine PyProof.Rows.callWith_method1 (thn (ha.run pos pins _ σ H _ (I.tok _) h) fun us s1 ⟨vs, H1, I1, r1, a, ws, ev, hl, ea, q⟩ => ?_) he hpl
  subst ev
  cases r1 with
  | @cons _ u0 _ ur ra rw' =>
    obtain rfl : u0 = Value.ref a := ra
    have hlen : ur.length ≤ sizeLine := by rw [← Paired.length rw', sizeLine_eq]; omega
    exact initE T I1 ea hlen fun s' J => ⟨.non, H1, J, rfl, q⟩
theorem ps_erF (T : ErrC X.K X.mg x bx f C B) (ho : PE X o to) (he : PE X e te) (hs : swapsWith e (some (.Attribute o f p')) pos.line X.env = pure false := by rfl) : PS X (.Assign [.Attribute o f p'] e pos) (tErF C f to te) := by
  refine ⟨fun pins s σ H D I h => ?_⟩
  refine plainObj_wpAny_Assign_Attribute (thn (he.run pins s σ H _ I h) fun v s1 ⟨y, H1, I1, r1, q1⟩ => thn (ho.run pins s1 σ H1 _ I1 q1) fun u s2 ⟨z, H2, I2, r2, a, ex, ea, q⟩ => ?_) hs
  subst ex
  obtain rfl : u = Value.ref a := r2
  exact ostE T I2 ea r1 fun dx s' n ne J => ⟨σ, _, J, q dx n ne⟩
theorem pmk_er {CX : CXT} {fI : Addr} {k : Nat} {fd : FuncData} {ps : List Str} {sp : Sp} (T : ErrC X.K X.mg x bx f C B) (iC : PySem.W.findIn X.K (.ref C) "__init__" = some (some (.ref fI))) (tI : PySem.W.typeIn X.K (.ref fI) = some (.type "function"))
    (F1 : FnOk X.prog X.w X.K X.mg X.base CX k fI fd ps sp) (hr : Room (k + 1) X.A) (hb : Binds X.K fd ps []) (hx : Passes CX X (fun _ _ _ => False)) (hg : Gl X x) (ha : PA X (e :: es) ta)
    (hdb : (x == ("__debug__" : Str)) = false := by decide) (he : starEach (e :: es) X.env = (false, eval e X.env) :: starEach es X.env := by rfl) (hpl : (backTo pos (starEach es X.env)).any (·.1) = false := by rfl) :
    PMk X (.Call (.Name x p) (e :: es) [] pos) (tErM C sp ta) := by
  intro pins s σ H Q I h
  obtain ⟨nm, q, N, bs, sn, sub, ab, col, dd, k0, k1, k2, k3, k5, hC⟩ := T.cls
  refine wpAny_Call_Name_kw (ld_glob I hg T.gC ?_ hdb)
  refine PySem.W.callWith_K (h₀ := X.base) I.ok.mod.kin T.kC (thn (ha.run pos pins s σ H _ I h) fun us s1 ⟨vs, H1, I1, r1, hz, q1⟩ => ⟨I1.kIn, ?_⟩) he hpl
  show wpAny _ _ (call (.ref C) us) _ _ _
  obtain ⟨hp, g, dr, tk, os⟩ := s1
  have hsz : hp.objs.size ≤ hp.objs.size + 1 := Nat.le_succ _
  have hn : H1 (hp.objs.size + 1) = none := I1.hok.fresh hsz
  have hq := q1 (hp.objs.size + 1) hn
  have kk : ∀ b o, hp.get? b = some o → ((hp.push (PySem.W.kdv_tup us)).push (PySem.HandSPX.excO C hp.objs.size)).get? b = some o := fun b o e => Heap.get?_push_of_some _ (Heap.get?_push_of_some _ e)
  have hget : ((hp.push (PySem.W.kdv_tup us)).push (PySem.HandSPX.excO C hp.objs.size)).get? (hp.objs.size + 1) = some (PySem.HandSPX.excO C hp.objs.size) := by heap_get
  have I2 : Inv X pins σ (upd H1 (hp.objs.size + 1) (exo (hp.objs.size + 1) C none)) ⟨(hp.push (PySem.W.kdv_tup us)).push (PySem.HandSPX.excO C hp.objs.size), g, dr, tk, os⟩ :=
    I1.laid (t' := tk) (a := hp.objs.size + 1) (o := exo (hp.objs.size + 1) C none) (h' := (hp.push (PySem.W.kdv_tup us)).push (PySem.HandSPX.excO C hp.objs.size)) kk hsz (exo_ok hget)
  have r2 : Vals (V.ref (hp.objs.size + 1) :: vs) (Value.ref (hp.objs.size + 1) :: us) := .cons rfl r1
  have hl : (Value.ref (hp.objs.size + 1) :: us ++ []).length = ps.length := by
    have e := r2.length
    rw [F1.len _ _ _ _ hq] at e
    rw [List.append_nil]
    exact e.symm
  have hus : us.length ≤ sizeLine := by rw [← Paired.length r1, sizeLine_eq]; omega
  refine wpAny_call (PySem.HandSPX.call_own F.excBase_Exception (fun Y => has_tl1 Y) (I1.kIn _ _ hC) (PySem.W.looks_findIn I1.kIn iC) (fun self => PySem.W.bind_fn I1.kIn self tI) hus
    (codeAny_mono (F1.run _ X.stack _ _ ⟨Value.ref (hp.objs.size + 1) :: us, []⟩ (Value.ref (hp.objs.size + 1) :: us) _ _ (fun _ _ _ => False) (hr.make C us []) (I2.env0.make C us []) (by simpa using hb _ (Value.ref (hp.objs.size + 1) :: us) I2.kIn hl) r2 hq) fun r s' hq' => ?_))
  cases r with
  | error er => exact hx pins σ _ _ er s' I2 hq'
  | ok fl =>
    cases fl with
    | ret u =>
      obtain ⟨v, H2, os2, bare2, un2, hok2, rv, ev, d, fs, ea, ed, hd1, q2⟩ := hq'
      subst ev
      obtain ⟨h2, g2, d2, t2, os'⟩ := s'
      exact ⟨rv, mk_end (raises_own T.exC T.tyC) I1 hsz kk un2 hok2 os2 bare2 ea ed hd1 q2⟩
    | next => exact False.elim hq'
    | brk => exact False.elim hq'
    | cont => exact False.elim hq'
end
def atOk (i : Int) : Bool := decide (-1000 < i ∧ i < 1000)
theorem at_len : ∀ i : Fin 1000, ((toString (i.val : Int) : Str)).length ≤ 20 ∧ ((toString (-(i.val : Int)) : Str)).length ≤ 20 := by decide +kernel
theorem atOk_len {i : Int} (h : atOk i = true) : ((toString i : Str)).length ≤ 20 := by
  simp only [atOk, decide_eq_true_eq] at h
  rcases Int.le_total 0 i with h0 | h0
  · have := (at_len ⟨i.toNat, by omega⟩).1
    rw [show i = ((i.toNat : Nat) : Int) by omega]
    exact this
  · have := (at_len ⟨(-i).toNat, by omega⟩).2
    rw [show i = -(((-i).toNat : Nat) : Int) by omega]
    exact this
theorem atOk_log {i : Int} (h : atOk i = true) : i.natAbs.log2 < 1920 := by
  simp only [atOk, decide_eq_true_eq] at h
  refine Nat.lt_of_le_of_lt (Nat.log2_le_self _) (by omega)
def spI (C : Addr) : Sp := fun vs H Q _ => ∃ (a : Addr) (i : Int), vs = [.ref a, .int i] ∧ atOk i = true ∧ H a = some (exo a C none) ∧ ∀ dx, H dx = none → dx ≠ a → Q .non (upd (upd H dx (exd dx [(("at" : Str), .int i)])) a (exo a C (some dx)))
def tErB (C : Addr) (x y : Str) : TS := tSeq (tDrop (tErI C (tCons (tVar 0) (tCons (fun σ H Q => tJs [tC (.str x), tFmt (tVar 1), tC (.str y)] Str.empty σ H fun out H1 => Q (.str out) H1) tNil)))) (tErF C "at" (tVar 0) (tVar 1))
theorem pure_init {C : Addr} {x y : Str} (hx : x.length ≤ 1000) (hy : y.length ≤ 1000) {vs : List V} {H : Hp} {Q : VK} {E : XK} (h : spI C vs H Q E) : tErB C x y { nx := fun _ H' => Q .non H', rt := Q } (L2.start ["self", "at"] vs) H := by
  obtain ⟨a, i, rfl, hi, ha, k⟩ := h
  have hl := atOk_len hi
  have app : ∀ u v : Str, (u ++ v).length = u.length + v.length := fun u v => by first | exact Str.length_append u v | simp [Str.length]
  refine ⟨_, rfl, x, rfl, ?_, _, rfl, .inr ⟨i, rfl, atOk_log hi, toString i, rfl, ?_, y, rfl, ?_, a, [_], rfl, by show 1 ≤ 1000; decide, ha, ?_⟩⟩
  · rw [app, sizeLine_eq]; show 0 + _ ≤ _; omega
  · rw [app, app, sizeLine_eq]; show 0 + _ + _ ≤ _; omega
  · rw [app, app, app, sizeLine_eq]; show 0 + _ + _ + _ ≤ _; omega
  · exact ⟨_, rfl, _, rfl, a, rfl, ha, k⟩
end Pv

set_option Elab.async false
set_option linter.all false
set_option maxRecDepth 100000
set_option maxHeartbeats 2000000
namespace PvLm
open PySem PySem.Spec PyProof.Rows L2
abbrev byNeg (ns : List Int) : List Nat := (List.range ns.length).mergeSort (PySem.W.dataLe false fun j => PyData.int (-(ns.getD j 0)))
open LamX
section
variable {X : Cx}
def tSortR (K : PySem.W.Frag) (T : List (Addr × Str)) (i : Nat) : TE := fun σ H Q => ∃ (a : Addr) (ns : List Int), σ[i]? = some (some (.ref a)) ∧ SqL K H a (ns.map V.int) ∧ ns.length ≤ 1000 ∧ Tabs T H ∧
  ∀ H1, ExtN H H1 → Tabs T H1 → ∀ D, H1 D = none → Q (.ref D) (upd H1 D (.lst ((byNeg ns).map fun j : Nat => V.int (j : Int))))
def rSumT (K : PySem.W.Frag) : List V → Hp → VK → Prop := fun vs H Q => ∃ (a : Addr) (ns : List Int), vs = [V.ref a] ∧ SqT K H a (ns.map V.int) ∧ Q (.int ns.sum) H
end
end PvLm

set_option Elab.async false
set_option linter.all false
set_option maxRecDepth 100000
set_option maxHeartbeats 4000000
namespace Pv
open PySem L2 PySem.Spec PySem.Calls PyProof.Rows

theorem exD_ok {P : Program} {w : World} {H : Hp} {h : Heap} {a : Addr} {cls : Value} {d : Option Addr} {oe : Obj} {vs : Array Value} (e : h.get? a = some oe) (z : Zc cls d oe) (f : oe.data = .fields vs) : ObjOk P w H h a (ExD cls d a) :=
  ⟨⟨oe, vs, e, z, f⟩, ⟨oe, e⟩, fun _ _ ⟨o, v, q, r⟩ k => ⟨o, v, k o q, r⟩⟩
theorem exD_at {P : Program} {w : World} {H : Hp} {h : Heap} {a : Addr} {cls : Value} {d : Option Addr} (k : HOk P w H h) (e : H a = some (ExD cls d a)) : ∃ (oe : Obj) (vs : Array Value), h.get? a = some oe ∧ Zc cls d oe ∧ oe.data = .fields vs := by
  have x : ObjOk P w H h a (.ext fun h => ∃ (oe : Obj) (vs : Array Value), h.get? a = some oe ∧ Zc cls d oe ∧ oe.data = .fields vs) := k a _ e
  exact x.1
def tMkV (t : L2.St → Hp → XK → Prop) : TE := fun σ H Q => t σ H fun cls d H1 => ∀ a, H1 a = none → Q (.ref a) (upd H1 a (ExD cls d a))
theorem pe_mkV {X : Cx} {e : Expr} {t : L2.St → Hp → XK → Prop} (he : PMk X e t) : PE X e (tMkV t) := by
  refine ⟨fun pins s σ H Q I h => ?_⟩
  refine wpAny_mono (he pins s σ H _ I h) (fun u s1 hu => ?_) fun _ _ x => x
  obtain ⟨a, oe, vs, sI, H1, cls, d, rfl, J, kp, ge, he', hz, hd, _, hn, os, bare, _, q⟩ := hu
  exact ⟨.ref a, _, J.call' (ch := []) os (Un.laidN kp ge hn) (J.hok.laidN kp hn (exD_ok he' hz hd)) bare (fun b z => absurd z (by simp)), rfl, q a hn⟩
structure XfD (K : PySem.W.Frag) (C : Addr) (f : Str) : Prop where
  ga : PySem.W.findIn K (.ref C) "__getattribute__" = some (some (.builtin "BaseException.__getattribute__"))
  gg : PySem.W.findIn K (.ref C) "__getattr__" = some none
  ex : PySem.W.subIn K (.ref C) (.type "BaseException") = some true
  hd : PySem.W.hasDictIn K C = true
  no : PySem.W.findIn K (.ref C) f = some none
section
open PySem.W
variable {K : Frag} {x D : Addr} {ox : Obj} {od : Option Obj}
theorem cls_stands (h : hasDictIn K D = true) : ∃ c d cd sl, K.lookup D = some ⟨c, d, .cls cd, sl⟩ := by
  obtain ⟨cd, e, _⟩ := PySem.W.any_some h
  unfold PySem.W.clsIn at e
  split at e
  · rename_i c d cd' sl ho; exact ⟨c, d, cd', sl, ho⟩
  · cases e
theorem exc_class {prog : Program} {w : World} {A : Around} {E : Value → Shared → Prop} {s : Shared} {Q : Option Value → Shared → Prop} (T : ExcC K D) (X : K.In s.heap) (I : InstAt s.heap x ox D od) (q : Q (some (.ref D)) { s with toks := s.toks + 1 }) :
    wpAny (model prog w) A (getAttr? (.ref x) "__class__") Q E s := by
  have hf : findObj K D od "__class__" = some (.bind (.builtin "getset_descriptor.__get__") (.builtin "object.__class__")) := by
    have c : (clsIn K D).isSome = true := by obtain ⟨cd, e, _⟩ := PySem.W.any_some T.hd; rw [e] <;> rfl
    cases od with
    | none => exact findObj_dataN c T.ha T.hn T.ht
    | some o => exact findObj_data c T.ha T.hn T.ht
  obtain ⟨hp, g, dr, tk, os⟩ := s
  have ty := I.type (M := model prog w)
  have lga := looks_findIn (M := model prog w) X T.hg
  have lgt := looks_findIn (M := model prog w) X T.hk
  have lf := looks_find (M := model prog w) X I hf
  have isx : Looks (model prog w) hp (isInstance (.ref x) (.type "BaseException")) true := ty.andThen (looks_subIn X T.hs)
  have z0 : (false && onTheHeap (Value.builtin "BaseException.__getattribute__")) = false := rfl
  have z1 : (onTheHeap (Value.ref D) && Value.builtin "BaseException.__getattribute__" == Value.builtin "object.__getattribute__") = false := by
    rw [show (Value.builtin "BaseException.__getattribute__" == Value.builtin "object.__getattribute__") = false by decide +kernel]; rfl
  unfold getAttr? getAttrBy? getAttrBy
  refine wpAny_bind (wpAny_mkText (wpAny_bind (wpAny_attempt (wpAny_holding (wpAny_bind (ty.at (wpAny_bind (lga.at ?_))))))))
  show wpAny _ _ (if (onTheHeap (Value.ref D) && Value.builtin "BaseException.__getattribute__" == Value.builtin "object.__getattribute__") = true then _ else _) _ _ _
  rw [z1, if_neg Bool.false_ne_true]; unfold getAttrByItsOwn hookBefore
  refine wpAny_bind ?_
  rw [if_pos (show onTheHeap (Value.ref D) = true from rfl)]; refine lgt.at ?_
  refine wpAny_bind (wpAny_attempt (wpAny_holding ?_)); unfold callGetattribute
  rw [z0, if_neg Bool.false_ne_true]; unfold boundAndCalled
  rw [PySem.F.excAttr_ValueError.ga.bind (.ref x)]; refine wpAny_bind (wpAny_pure ?_)
  show wpAny _ _ (call (.builtin "BaseException.__getattribute__") [.ref x, .str "__class__" tk]) _ _ _
  refine wpAny_call (codeAny_call_builtin PySem.F.excAttr_ValueError.ga.plain PySem.F.entry_bexc_ga ?_)
  refine @check_slot (model prog w) _ _ ⟨hp, g, dr, tk + 1, os⟩ "BaseException.__getattribute__" "BaseException" "__getattribute__" (.ref x) [.str "__class__" tk] [] _ (by decide +kernel) (by decide +kernel) isx (PySem.F.args_bexc_ga (.ref x) (.str "__class__" tk)) ?_
  unfold Builtin.«object.__getattribute__»
  refine wpAny_bind (wpAny_of_eq (a := ((Value.ref x : Value), [Value.str "__class__" tk])) (by first | rfl | (simp only [slotArgs]; rfl)) ?_)
  refine wpAny_bind (wpAny_pure (wpAny_bind (ty.at (wpAny_bind (lf.at ?_)))))
  show wpAny _ _ (holding [Value.builtin "object.__class__"] (call (.builtin "getset_descriptor.__get__") [.builtin "object.__class__", .ref x, .ref D]) >>= ret) _ _ _
  refine wpAny_bind (wpAny_holding (wpAny_call (class_get (s := ⟨hp, g, dr, tk + 1, os⟩) (ox := ox) (od := od) X I T.hm ?_)))
  refine wpAny_pure ?_; show wpAny _ _ (handedOut (.ref D)) _ _ _
  rw [handedOut_of (v := .ref D) rfl]
  first
    | exact wpAny_pure (wpAny_pure q)
    | exact wpAny_pure q
    | exact wpAny_pure (wpAny_bind (wpAny_pure (wpAny_pure q)))
theorem exc_kit (T : ExcC K D) : KitX K (.ref x) (.ref D) (fun h => InstAt h x ox D od) := by
  obtain ⟨c, d, cd, sl, ho⟩ := cls_stands T.hd
  refine ⟨fun _ _ _ I => I.type, fun _ h X _ A' Q' E' s' k q => ?_, fun h tp dd its n sl' X htp => ?_, fun X I k => exc_class T X I k⟩
  · unfold isType loadHead; exact wpAny_bind (wpAny_loadPart (k _ _ (X _ _ ho)) (wpAny_pure q))
  · refine Bool.eq_false_iff.mpr fun q => ?_
    obtain rfl : D = tp := Value.ref.inj (beq_iff_eq.mp q)
    cases (X _ _ ho).symm.trans htp
end
structure IsXs (K : PySem.W.Frag) (Ys Ns : List Addr) (cv : V) : Prop where
  ok : ∃ u, (∀ w, RelV cv w → w = u) ∧ (∀ C ∈ Ys, ExcC K C ∧ PySem.W.kitOne K (.ref C) u = some true) ∧ ∀ C ∈ Ns, ExcC K C ∧ PySem.W.kitOne K (.ref C) u = some false
def rIsX (Ys Ns : List Addr) (cv : V) : List V → Hp → VK → Prop := fun xs H Q => ∃ (a C : Addr) (d : Option Addr) (b : Bool), xs = [.ref a, cv] ∧ H a = some (ExD (.ref C) d a) ∧ (∀ dd, d = some dd → ∃ fs, H dd = some (.xd fs)) ∧ C ∈ cond b Ys Ns ∧ Q (.bl b) H
theorem inst_of {X : Cx} {pins : List (Addr × Obj)} {σ : L2.St} {H : Hp} {s : Shared} {a C : Addr} {oe : Obj} {d : Option Addr} {vs : Array Value} (I : Inv X pins σ H s) (h1 : s.heap.get? a = some oe) (hz : Zc (.ref C) d oe) (hd : oe.data = .fields vs) (hx : ∀ dd, d = some dd → ∃ fs, H dd = some (.xd fs)) :
    ∃ od, PySem.W.InstAt s.heap a oe C od := by
  cases d with
  | none =>
    refine ⟨none, h1, hz.1, by unfold PySem.W.notCls; rw [hd] <;> rfl, ?_⟩
    rw [hz.2]; trivial
  | some dd =>
    obtain ⟨fs, e⟩ := hx dd rfl
    have hx : ObjOk X.prog X.w H s.heap dd (.xd fs) := I.hok dd _ e
    obtain ⟨mA, hns, _⟩ := hx
    obtain ⟨od, ho, _⟩ := lookIn_ns hns
    exact ⟨some od, h1, hz.1, by unfold PySem.W.notCls; rw [hd] <;> rfl, by rw [hz.2]; exact ho⟩
theorem call_isX {X : Cx} {Ys Ns : List Addr} {cv : V} (T : IsXs X.K Ys Ns cv) : CallR X (.builtin "isinstance") (rIsX Ys Ns cv) := by
  intro pins s σ H xs us Q I r h
  obtain ⟨a, C, d, b, rfl, ha, hx, hC, q⟩ := h
  obtain ⟨u, hu, hY, hN⟩ := T.ok
  obtain ⟨u1, u2, rfl, r1, r2⟩ := vals2 r
  obtain rfl := hu _ r2
  cases (show u1 = Value.ref a from r1)
  obtain ⟨oe, vs, h1, hz, hd⟩ := exD_at I.hok ha
  obtain ⟨od, J⟩ := inst_of I h1 hz hd hx
  have t : ExcC X.K C ∧ PySem.W.kitOne X.K (.ref C) u2 = some b := by
    cases b with
    | true => exact hY C hC
    | false => exact hN C hC
  exact PySem.W.kia_one (exc_kit (od := od) t.1) I.kIn J t.2 (fun z => nomatch z) fun tk => ⟨.bl b, H, I.tok tk, rfl, q⟩
def rIsS (Ys Ns : List Addr) (cv : V) (a : Addr) (cls : Value) (d : Option Addr) : List V → Hp → VK → Prop := fun xs H Q => ∃ (C : Addr) (b : Bool), xs = [.ref a, cv] ∧ cls = .ref C ∧ (∀ dd, d = some dd → ∃ fs, H dd = some (.xd fs)) ∧ C ∈ cond b Ys Ns ∧ Q (.bl b) H
theorem call_isS {X : Cx} {Ys Ns : List Addr} {cv : V} {a : Addr} {oe : Obj} {cls : Value} {d : Option Addr} {pn : List (Addr × Obj)} (T : IsXs X.K Ys Ns cv) (hz : Zc cls d oe) (hf : ∃ vs, oe.data = .fields vs) :
    CallR (X.suite a ((a, oe) :: pn)) (.builtin "isinstance") (rIsS Ys Ns cv a cls d) := by
  intro pins s σ H xs us Q I r h
  obtain ⟨C, b, rfl, rfl, hx, hC, q⟩ := h
  obtain ⟨u, hu, hY, hN⟩ := T.ok
  obtain ⟨u1, u2, rfl, r1, r2⟩ := vals2 r
  obtain rfl := hu _ r2
  cases (show u1 = Value.ref a from r1)
  obtain ⟨h1, _⟩ := I.pin (a, oe) (List.mem_append.mpr (.inl List.mem_cons_self))
  obtain ⟨vs, hd⟩ := hf
  obtain ⟨od, J⟩ := inst_of I h1 hz hd hx
  have t : ExcC X.K C ∧ PySem.W.kitOne X.K (.ref C) u2 = some b := by
    cases b with
    | true => exact hY C hC
    | false => exact hN C hC
  exact PySem.W.kia_one (exc_kit (od := od) t.1) I.kIn J t.2 (fun z => nomatch z) fun tk => ⟨.bl b, H, I.tok tk, rfl, q⟩
end Pv

set_option Elab.async false
set_option linter.all false
set_option maxRecDepth 100000
set_option maxHeartbeats 4000000
namespace Pv
open PySem L2 PySem.Spec PySem.Calls PyProof.Rows PySem.HandSPX
section
variable {M : Model} {A : Around} {E : Value → Shared → Prop} {h : Heap} {g : Array GenState} {dr : Drawn} {tk : Nat} {os : OsState}
variable {nm q : Str} {C N : Addr} {bs bm bmB : List Value} {hdct : Bool} {sn : List Str} {sub : List Value} {ab : Bool} {col : Option Bool} {dd : Option Addr} {k0 k1 k2 k3 k5 : Option Value} {B newId initId : String} {f : Str} {v : Value}
theorem newK_check (F : ExcBaseFacts B newId initId bmB) (hT : ∀ Y : String, bm.contains (.type Y) = bmB.contains (.type Y)) {Q : Unit → Shared → Prop}
    (lC : h.get? C = some (excClassObj nm q C N bs bm hdct sn sub ab col dd k0 k1 k2 k3 k5 newId)) (hq : Q () ⟨h, g, dr, tk, os⟩) : wpAny M A (checkBuiltinCall newId ⟨[.ref C], [(f, v)]⟩) Q E ⟨h, g, dr, tk, os⟩ := by
  have isB : (Value.ref C :: bm).contains (.type B) = true := by rw [List.contains_cons, hT, F.hasB, Bool.or_true]
  have star := F.noStar
  simp only [checkBuiltinCall, F.newKind, F.newSplit, F.newRow]
  repeat (first | refine wpAny_loadPart_at lC ?_ | (refine wpAny_isSubtype_exc lC ?_; rw [isB]) | refine wpAny_staticBase_exc lC ?_ | refine wpAny_madeBy_exc lC ?_ | simp only [bne_self_eq_false, Bool.false_eq_true, if_false] | wp_step)
  exact hq
end
section
variable {prog : Program} {w : World} {A : Around} {E : Value → Shared → Prop} {R : Result → Shared → Prop} {h : Heap} {g : Array GenState} {dr : Drawn} {tk : Nat} {os : OsState}
variable {nm q : Str} {C N : Addr} {bs bm bmB : List Value} {hdct : Bool} {sn : List Str} {sub : List Value} {ab : Bool} {col : Option Bool} {dd : Option Addr} {k0 k1 k2 k3 k5 : Option Value} {B newId initId : String} {f : Str} {v : Value}
theorem newK (F : ExcBaseFacts B newId initId bmB) (hT : ∀ Y : String, bm.contains (.type Y) = bmB.contains (.type Y)) (lC : h.get? C = some (excClassObj nm q C N bs bm hdct sn sub ab col dd k0 k1 k2 k3 k5 newId))
    (hq : R (.ok (.ret (.ref (h.objs.size + 1)))) ⟨(h.push (PySem.W.kdv_tup [])).push (excO C h.objs.size), g, dr, tk, os⟩) : codeAny (model prog w) A (.builtin newId ⟨[.ref C], [(f, v)]⟩) R ⟨h, g, dr, tk, os⟩ := by
  have ends := F.ends
  have isB : (Value.ref C :: bm).contains (.type B) = true := by rw [List.contains_cons, hT, F.hasB, Bool.or_true]
  have noA : (Value.ref C :: bm).contains (.type "AttributeError") = false := by rw [List.contains_cons, hT, F.noAttr] <;> rfl
  have noN : (Value.ref C :: bm).contains (.type "NameError") = false := by rw [List.contains_cons, hT, F.noName] <;> rfl
  have short : ([] : List Value).length ≤ sizeLine := Nat.zero_le _
  refine codeAny_builtinAt F.entry ?_; unfold Builtin.«BaseException.__new__»
  refine PyProof.Rows.wpAt_bind ?_; show PyProof.Rows.wpAt _ _ _ (stack >>= _) _ _ _
  refine PyProof.Rows.wpAt_bind (PyProof.Rows.wpAt_stack fun p below => wpAt_of_wpAny ?_); wp_walk
  refine wpAt_of_wpAny ?_; rw [F.owner]
  repeat (first | with_reducible refine wpAny_madeHere_exc F.canon lC ?_ | with_reducible refine wpAny_loadPart_at lC ?_ | (with_reducible refine wpAny_isSubtype_exc lC ?_; first | rw [isB] | rw [noA] | rw [noN]) | wp_step)
  show R _ _; rw [Heap.size_push]; exact hq
theorem typeCallK (F : ExcBaseFacts B newId initId bmB) (hT : ∀ Y : String, bm.contains (.type Y) = bmB.contains (.type Y)) {fI : Addr} {Q : Fin → Shared → Prop} (lC : h.get? C = some (excClassObj nm q C N bs bm hdct sn sub ab col dd k0 k1 k2 k3 k5 newId))
    (hi : PySem.W.Looks (model prog w) h (typeLookup (.ref C) "__init__") (some (.ref fI))) (hb : ∀ self, PySem.W.Looks (model prog w) h (bindSpecial (.ref fI) self) (.ref fI, [self]))
    (hq : codeAny (model prog w) A (.call (.ref fI) ⟨[.ref (h.objs.size + 1)], [(f, v)]⟩)
      (fun r s' => match r with | .ok (.ret u) => u = .none ∧ Q (.done (.ret (.ref (h.objs.size + 1)))) s' | .ok _ => False | .error e => E e s') ⟨(h.push (PySem.W.kdv_tup [])).push (excO C h.objs.size), g, dr, tk, os⟩) :
    wpAny (model prog w) A (Builtin.«type.__call__» ⟨[.ref C], [(f, v)]⟩) Q E ⟨h, g, dr, tk, os⟩ := by
  repeat (first | with_reducible refine wpAny_loadPart_at lC ?_ | with_reducible refine wpAny_madeBy_exc lC ?_ | wp_step)
  refine codeAny_call_builtin_code (Code.quiet_builtin _ F.quiet) (newK_check F hT lC ?_)
  refine newK F hT lC ?_
  show wpAny _ _ _ _ _ _
  have up : ∀ b o, h.get? b = some o → ((h.push (PySem.W.kdv_tup [])).push (excO C h.objs.size)).get? b = some o := fun b o e => Heap.get?_push_of_some _ (Heap.get?_push_of_some _ e)
  have lC' := up _ _ lC
  have lE : ((h.push (PySem.W.kdv_tup [])).push (excO C h.objs.size)).get? (h.objs.size + 1) = some (excO C h.objs.size) := by heap_get
  have self : (Value.ref C :: bm).contains (.ref C) = true := by simp
  have i' := hi.keeps up
  have b' := (hb (.ref (h.objs.size + 1))).keeps up
  unfold isInstance
  repeat (first | with_reducible refine wpAny_loadPart_at lE ?_ | (with_reducible refine wpAny_isSubtype_exc lC' ?_; rw [self]) | wp_step)
  show wpAny _ _ (typeLookup (.ref C) _) _ _ _
  refine i'.at (wpAny_holding (wpAny_bind (b'.at ?_)))
  refine wpAny_bind (wpAny_call (codeAny_mono hq fun r s' z => ?_))
  rcases r with e | (u | _ | _ | _) <;> first | exact z | exact z.elim | skip
  obtain ⟨rfl, z⟩ := z
  first | exact wpAny_pure (wpAny_pure z) | (wp_walk; exact z)
theorem callK (F : ExcBaseFacts B newId initId bmB) (hT : ∀ Y : String, bm.contains (.type Y) = bmB.contains (.type Y)) {fI : Addr} (lC : h.get? C = some (excClassObj nm q C N bs bm hdct sn sub ab col dd k0 k1 k2 k3 k5 newId))
    (hi : PySem.W.Looks (model prog w) h (typeLookup (.ref C) "__init__") (some (.ref fI))) (hb : ∀ self, PySem.W.Looks (model prog w) h (bindSpecial (.ref fI) self) (.ref fI, [self]))
    (hq : codeAny (model prog w) (A.under (.builtin "type.__call__" ⟨[.ref C], [(f, v)]⟩)) (.call (.ref fI) ⟨[.ref (h.objs.size + 1)], [(f, v)]⟩) (PySem.W.InitBack (h.objs.size + 1) R) ⟨(h.push (PySem.W.kdv_tup [])).push (excO C h.objs.size), g, dr, tk, os⟩) :
    codeAny (model prog w) A (.call (.ref C) ⟨[], [(f, v)]⟩) R ⟨h, g, dr, tk, os⟩ := by
  have l1 := tc_lookup
  have l2 := tc_bind (.ref C)
  have ty : (⟨h, g, dr, tk, os⟩ : Shared).TypeIs (.ref C) "type" := ⟨_, lC, rfl⟩
  refine codeAny_of_tree ?_; show wpAny _ _ (callAny (.ref C) _) _ _ _
  repeat (any_goals (first | assumption | with_reducible refine wpAny_loadPart_at lC ?_ | wp_step))
  refine ⟨rfl, ?_⟩
  refine codeAny_call_builtin_at (Code.quiet_builtin _ (by decide +kernel)) entry_typeCall (wpAny_check_type_call_sub lC (typeCallK F hT lC hi hb ?_))
  refine codeAny_mono hq fun r s' z => ?_
  rcases r with e | (u | _ | _ | _) <;> exact z
end
theorem pmk_erK {X : Cx} {CX : CXT} {fI C B : Addr} {k : Nat} {fd : FuncData} {n0 n1 x bx f : Str} {sp : Sp} {kws : List Keyword} {t : TA} {p pos : Pos} (T : ErrC X.K X.mg x bx f C B) (iC : PySem.W.findIn X.K (.ref C) "__init__" = some (some (.ref fI)))
    (tI : PySem.W.typeIn X.K (.ref fI) = some (.type "function")) (F1 : FnOk X.prog X.w X.K X.mg X.base CX k fI fd [n0, n1] sp) (hr : Room (k + 1) X.A) (hb : ∀ (s : Shared) (u w : Value), X.K.In s.heap → BindsTo s fd ⟨[u], [(n1, w)]⟩ [(n0, u), (n1, w)])
    (hx : Passes CX X (fun _ _ _ => False)) (hg : Gl X x) (hkw : PK X kws t) (hdb : (x == ("__debug__" : Str)) = false := by decide) (hall : (backToKw pos (keywordEach kws X.env)).all (·.1.isSome) = true := by rfl)
    (hks : (backToKw pos (keywordEach kws X.env)).filterMap (·.1) = [n1] := by rfl) (hpl : ((backTo pos (starEach [] X.env)).any (·.1) || (backToKw pos (keywordEach kws X.env)).any (·.1.isNone)) = false := by rfl) :
    PMk X (.Call (.Name x p) [] kws pos) (tErM C sp t) := by
  intro pins s σ H Q I h
  obtain ⟨nm, q, N, bs, sn, sub, ab, col, dd, k0, k1, k2, k3, k5, hC⟩ := T.cls
  refine wpAny_Call_Name_kw (ld_glob I hg T.gC ?_ hdb)
  refine PySem.W.callWith_KW0 (h₀ := X.base) I.ok.mod.kin T.kC hall (L2.thn (hkw.run pos pins s σ H _ I h) fun us s1 ⟨vs, H1, I1, r1, hz, q1⟩ => ⟨I1.kIn, ?_⟩) hpl
  rw [hks]
  obtain ⟨hp, g, dr, tk, os⟩ := s1
  have hsz : hp.objs.size ≤ hp.objs.size + 1 := Nat.le_succ _
  have hn : H1 (hp.objs.size + 1) = none := I1.hok.fresh hsz
  have hq := q1 (hp.objs.size + 1) hn
  have l1 : vs.length = 1 := by
    have e := F1.len _ _ _ _ hq
    simpa using e
  have l2 : us.length = 1 := r1.length.symm.trans l1
  obtain ⟨v, rfl⟩ := List.length_eq_one_iff.mp l1
  obtain ⟨w, rfl⟩ := List.length_eq_one_iff.mp l2
  show wpAny _ _ (PySem.call (.ref C) [] [(n1, w)]) _ _ _
  have kk : ∀ b o, hp.get? b = some o → ((hp.push (PySem.W.kdv_tup [])).push (PySem.HandSPX.excO C hp.objs.size)).get? b = some o := fun b o e => Heap.get?_push_of_some _ (Heap.get?_push_of_some _ e)
  have hget : ((hp.push (PySem.W.kdv_tup [])).push (PySem.HandSPX.excO C hp.objs.size)).get? (hp.objs.size + 1) = some (PySem.HandSPX.excO C hp.objs.size) := by heap_get
  have I2 : Inv X pins σ (upd H1 (hp.objs.size + 1) (exo (hp.objs.size + 1) C none)) ⟨(hp.push (PySem.W.kdv_tup [])).push (PySem.HandSPX.excO C hp.objs.size), g, dr, tk, os⟩ :=
    I1.laid (t' := tk) (a := hp.objs.size + 1) (o := exo (hp.objs.size + 1) C none) (h' := (hp.push (PySem.W.kdv_tup [])).push (PySem.HandSPX.excO C hp.objs.size)) kk hsz (exo_ok hget)
  have r2 : Vals (V.ref (hp.objs.size + 1) :: [v]) (Value.ref (hp.objs.size + 1) :: [w]) := .cons rfl r1
  refine wpAny_call (callK F.excBase_Exception (fun Y => has_tl1 Y) (I1.kIn _ _ hC) (PySem.W.looks_findIn I1.kIn iC) (fun self => PySem.W.bind_fn I1.kIn self tI)
    (codeAny_mono (F1.run _ X.stack _ _ ⟨[Value.ref (hp.objs.size + 1)], [(n1, w)]⟩ (Value.ref (hp.objs.size + 1) :: [w]) _ _ (fun _ _ _ => False) (hr.make C [] [(n1, w)]) (I2.env0.make C [] [(n1, w)]) (hb _ _ w I2.kIn) r2 hq) fun r s' hq' => ?_))
  cases r with
  | error er => exact hx pins σ _ _ er s' I2 hq'
  | ok fl =>
    cases fl with
    | ret u =>
      obtain ⟨v', H2, os2, bare2, un2, hok2, rv, ev, d, fs, ea, ed, hd1, q2⟩ := hq'
      subst ev
      obtain ⟨h2, g2, d2, t2, os'⟩ := s'
      exact ⟨rv, mk_end (raises_own T.exC T.tyC) I1 hsz kk un2 hok2 os2 bare2 ea ed hd1 q2⟩
    | next => exact False.elim hq'
    | brk => exact False.elim hq'
    | cont => exact False.elim hq'
end Pv

set_option Elab.async false
set_option linter.all false
set_option maxRecDepth 100000
set_option maxHeartbeats 4000000
namespace Pv
open PySem L2

mutual
def toPy : D → PyData
  | .non => .none
  | .bl b => .bool b
  | .int i => .int i
  | .str x => .str x
  | .tup ds => .tuple (toPyL ds)
  | .lst ds => .list (toPyL ds)
  | .dK _ _ => .dict []
  | .dT _ _ => .dict []
  | .fn _ => .dict []
  | .scr _ => .dict []
  | .exc _ _ => .dict []
def toPyL : List D → List PyData
  | [] => []
  | d :: ds => toPy d :: toPyL ds
end
def flatD : D → Bool
  | .non => true | .bl _ => true | .int _ => true | .str _ => true
  | _ => false
def scalD : D → D → Bool
  | .non, .non => true | .non, .int _ => true | .int _, .non => true | .non, .bl _ => true | .bl _, .non => true | .non, .str _ => true | .str _, .non => true
  | .int _, .int _ => true | .bl _, .bl _ => true | .str _, .str _ => true
  | .int _, .str _ => true | .str _, .int _ => true | .bl _, .str _ => true | .str _, .bl _ => true
  | _, _ => false
def eqS : D → D → Bool
  | .non, .non => true
  | .int i, .int j => decide (i = j)
  | .bl i, .bl j => decide (i = j)
  | .str i, .str j => decide (i = j)
  | _, _ => false
def cEq (a b : D) : Option Bool :=
  if scalD a b then some (eqS a b) else if SeqAt.shaped (toPy a) && SeqAt.shaped (toPy b) then some (PyData.eqv (toPy a) (toPy b)) else none
def cLt : D → D → Option Bool
  | .int i, .int j => some (decide (i < j))
  | .str x, .str y => some (decide (x.cps.toList < y.cps.toList))
  | _, _ => none
def cLe : D → D → Option Bool
  | .int i, .int j => some (decide (i ≤ j))
  | .str x, .str y => some (!decide (y.cps.toList < x.cps.toList))
  | _, _ => none
def ltT : D → D → Option Bool
  | .tup ds, .tup es => if ((toPy (.tup ds)).canLay0 = true ∧ (toPy (.tup es)).canLay0 = true) ∧ PySem.W.alike (toPy (.tup ds)) (toPy (.tup es)) = true ∧ min (toPy (.tup ds)).depth (toPy (.tup es)).depth ≤ 64 then some (PySem.W.dataLt (toPy (.tup ds)) (toPy (.tup es))) else none
  | _, _ => none
def inD1 (x : D) : D → Bool := fun y => match y, x with
  | .non, .non => true
  | .bl a, .bl b => a == b
  | .bl a, .int b => (if a then 1 else 0) == b
  | .int a, .bl b => a == (if b then 1 else 0)
  | .int a, .int b => a == b
  | .str a, .str b => a == b
  | _, _ => false
def inDs (x : D) (ys : List D) : Bool := ys.any (inD1 x)
def geT : D → D → Option Bool
  | .tup [.str p, .str q], .tup [.str r, .str t] => some (PvR.geP p q r t)
  | _, _ => none
def cIn (x : D) : D → Option Bool
  | .lst ys => if flatD x && ys.all flatD then some (inDs x ys) else none
  | .tup ys => if flatD x && ys.all flatD then some (inDs x ys) else none
  | .str y => match x with
    | .str z => some (!(Builtin.Str.occurrences y z 0 y.length 1).isEmpty)
    | _ => none
  | _ => none

inductive BOp | add | sub | mul | div | mod | pow
inductive COp | eq | ne | lt | le | gt | ge | inn | nin
inductive Bi | len | int | all | any | sum | max2 | min2 | str | tuple | list | sorted | minL | maxL
inductive Me | isascii | isalpha | islower | isdigit | startswith

instance (i j : Int) : Decidable (CMul i j) := inferInstanceAs (Decidable (_ ∨ _))
instance (i j : Int) : Decidable (CPow i j) := inferInstanceAs (Decidable (_ ∧ _))
instance (i j : Int) : Decidable (CDivW i j) := inferInstanceAs (Decidable (_ ∧ _))

def tupC : D → Bool
  | .tup (d :: ds) => (toPy (.tup (d :: ds))).canLay0 && decide ((toPy (.tup (d :: ds))).depth ≤ 60)
  | _ => false
def tupsB (ds : List D) : Bool := decide (ds.length ≤ sizeLine) && (ds.all tupC && ds.all fun d => ds.all fun e => PySem.W.alike (toPy d) (toPy e))
def bRun : BOp → D → D → Option D
  | .add, .int i, .int j => some (.int (i + j))
  | .add, .str x, .str y => if x.length + y.length ≤ sizeLine then some (.str (x ++ y)) else none
  | .add, .tup x, .tup y => if x.length + y.length ≤ sizeLine then some (.tup (x ++ y)) else none
  | .add, .lst x, .lst y => if x.length + y.length ≤ sizeLine then some (.lst (x ++ y)) else none
  | .sub, .int i, .int j => some (.int (i - j))
  | .mul, .int i, .int j => if CMul i j then some (.int (i * j)) else none
  | .mul, .tup xs, .int k => if xs.isEmpty = false ∧ 2 ≤ k ∧ k ≤ 1000 ∧ xs.length ≤ 1000 then some (.tup (List.replicate k.toNat xs).flatten) else none
  | .mul, .str x, .int k => if 1 ≤ k ∧ k ≤ 1000 ∧ x.length ≤ 1000 ∧ 1 ≤ x.length then some (.str (PvR.repS x k)) else none
  | .div, .int i, .int j => if CDivW i j then some (.int (i / j)) else none
  | .mod, .int i, .int j => if 0 < j then some (.int (i % j)) else none
  | .pow, .int i, .int j => if CPow i j then some (.int (i ^ j.toNat)) else none
  | _, _, _ => none
def cRun : COp → D → D → Option Bool
  | .eq, a, b => cEq a b
  | .ne, a, b => (cEq a b).map (!·)
  | .lt, a, b => (cLt a b).or (ltT a b)
  | .le, a, b => cLe a b
  | .gt, a, b => cLt b a
  | .ge, a, b => (cLe b a).or (geT a b)
  | .inn, a, b => cIn a b
  | .nin, a, b => (cIn a b).map (!·)
def blsOf : List D → Option (List Bool)
  | [] => some []
  | .bl b :: ds => (blsOf ds).map (b :: ·)
  | _ => none
def intsOf : List D → Option (List Int)
  | [] => some []
  | .int b :: ds => (intsOf ds).map (b :: ·)
  | _ => none
def intsK : List Key → Option (List Int)
  | [] => some []
  | .inl b :: ds => (intsK ds).map (b :: ·)
  | _ => none
def strsK : List Key → Option (List Str)
  | [] => some []
  | .inr b :: ds => (strsK ds).map (b :: ·)
  | _ => none
def keyD : Key → D
  | .inl i => .int i
  | .inr x => .str x
def keysB (ks : List (List Key)) : Bool := (ks.all fun k => ks.all fun q => PySem.W.alike (PvR.keysPy k) (PvR.keysPy q)) && ks.all fun k => !k.isEmpty
def insI (x : Int) : List Int → List Int
  | [] => [x]
  | y :: ys => if x ≤ y then x :: y :: ys else y :: insI x ys
def sortI : List Int → List Int
  | [] => []
  | x :: xs => insI x (sortI xs)
def minI : List Int → Option Int
  | [] => none
  | x :: xs => match minI xs with
    | none => some x
    | some m => some (if m < x then m else x)
def maxI : List Int → Option Int
  | [] => none
  | x :: xs => match maxI xs with
    | none => some x
    | some m => some (if m > x then m else x)
def biRun : Bi → List D → Option D
  | .len, [.tup ds] => some (.int ds.length)
  | .len, [.lst ds] => some (.int ds.length)
  | .len, [.str x] => if x.length ≤ sizeLine then some (.int x.length) else none
  | .int, [.int i] => some (.int i)
  | .all, [.lst ds] => (blsOf ds).map fun bs => .bl (bs.all id)
  | .any, [.lst ds] => (blsOf ds).map fun bs => .bl (bs.any id)
  | .sum, [.lst ds] => (intsOf ds).map fun ns => .int ns.sum
  | .sum, [.tup ds] => (intsOf ds).map fun ns => .int ns.sum
  | .max2, [.int i, .int j] => some (.int (if j > i then j else i))
  | .min2, [.int i, .int j] => some (.int (if j < i then j else i))
  | .str, [.int i] => if i.natAbs.log2 < 1920 then some (.str (toString i)) else none
  | .tuple, [.lst ds] => some (.tup ds)
  | .tuple, [.tup ds] => some (.tup ds)
  | .list, [.lst ds] => some (.lst ds)
  | .list, [.tup ds] => some (.lst ds)
  | .minL, [.lst ds] => (intsOf ds).bind fun ns => (minI ns).map .int
  | .maxL, [.lst ds] => (intsOf ds).bind fun ns => (maxI ns).map .int
  | .sorted, [.lst ds] => ((intsOf ds).map fun ns => D.lst ((sortI ns).map .int)).or (if tupsB ds = true then some (.lst (ds.mergeSort (PySem.W.dataLe false toPy))) else none)
  | .sorted, [.dK ks _] => ((intsK ks).map fun ns => .lst ((sortI ns).map .int)).or ((strsK ks).map fun xs => .lst ((xs.mergeSort (PySem.W.dataLe false PyData.str)).map .str))
  | .sorted, [.dT ks _] => if keysB ks = true then some (.lst ((ks.mergeSort (PySem.W.dataLe false PvR.keysPy)).map fun k => .tup (k.map keyD))) else none
  | _, _ => none
def meRun0 : Me → D → Option D
  | .isascii, .str x => some (.bl (Txt.isascii x))
  | .isalpha, .str x => some (.bl (Txt.isalpha x))
  | .islower, .str x => some (.bl (Txt.islower x))
  | .isdigit, .str x => some (.bl (Txt.isdigit x))
  | _, _ => none
def meRun1 : Me → D → D → Option D
  | .startswith, .str x, .str y => some (.bl (Txt.startswith x y))
  | _, _, _ => none
def tyD : D → Option String
  | .non => some "NoneType" | .bl _ => some "bool" | .int _ => some "int" | .str _ => some "str" | .tup _ => some "tuple" | .lst _ => some "list" | .dK _ _ => some "dict"
  | _ => none
def isi1 (d : D) (t : String) : Option Bool := (tyD d).bind fun k => kitB k t
def isi2 (d : D) (t u : String) : Option Bool := match isi1 d t with
  | some true => some true
  | some false => isi1 d u
  | none => none
def ixRun : D → D → Option D
  | .lst ds, .int i => atI ds i
  | .tup ds, .int i => atI ds i
  | .str x, .int i => if x.length ≤ sizeLine then (atI x.cps.toList i).map fun c => .str ⟨#[c]⟩ else none
  | _, _ => none
def cutD (xs : List D) (lo hi : Option Int) : List D := (xs.drop (HT.sIx xs.length 0 lo)).take (HT.sIx xs.length xs.length hi - HT.sIx xs.length 0 lo)
def slRun : D → Option Int → Option Int → Option D
  | .lst ds, lo, hi => some (.lst (cutD ds lo hi))
  | .tup ds, lo, hi => some (.tup (cutD ds lo hi))
  | .str x, lo, hi => if x.length ≤ sizeLine then some (.str (cutS x lo hi)) else none
  | .scr ns, lo, hi => some (.lst (cutD (ns.map .int) lo hi))
  | _, _, _ => none

inductive Tg where
  | name (i : Nat) | tnil | tcons (a r : Tg) | tup (ts : Tg)
mutual
inductive E where
  | var (i : Nat) | cst (d : D) | fnv (f : Nat)
  | bin (o : BOp) (a b : E) | neg (a : E)
  | cmp (o : COp) (a b : E) | chain (o o' : COp) (a b c : E) | isN (a : E) | notN (a : E)
  | and (a b : E) | or (a b : E) | not (a : E) | ite (c : T) (a b : E)
  | call (f : Nat) (as : Es) | callv (i : Nat) (as : Es)
  | bi (b : Bi) (as : Es)
  | isi1 (a : E) (t : String) | isi2 (a : E) (t u : String)
  | mt0 (m : Me) (a : E) | mt1 (m : Me) (a b : E)
  | ix (a i : E) | sl (a : E) (lo hi : Eo)
  | tup (as : Es) | lst (as : Es)
  | comp (vs : List Nat) (tg : Tg) (it : It) (cond : To) (elt : E)
  | dget (a k : E) | get1 (a k : E) | get2 (a k z : E) | din (k a : E) | dcomp (vs : List Nat) (tg : Tg) (it : It) (cond : To) (kx vx : E)
  | dnin (k a : E) | nD | nT | nL (as : Es) | nW (ps : Es) | fld (cl : Nat) (a : E) (f : Str) | wget (a k : E) | mkO (cl f : Nat) (as : Es) | mth (cl f : Nat) (m : Str) (a : E) (as : Es) | callA (f : Nat) (as : Es) | itemsT (a : E)
  | mkE0 (k : Nat) | mkE (k : Nat) (num : Bool) (a : E) | efld (ks : List Nat) (a : E) | isE (ys ns : List Nat) (q : Nat ⊕ String) (a : E)
  | fz (a : E) | sortR (i : Nat) | sin (neg : Bool) (k a : E) | compK (vs : List Nat) (tg : Tg) (i : Nat) (cond : To) (elt : E) | compA (vs : List Nat) (tg : Tg) (a : E) (cond : To) (elt : E) | compV (vs : List Nat) (tg : Tg) (a : E) (cond : To) (elt : E)
inductive T where
  | val (e : E) | and (a b : T) | or (a b : T) | not (a : T) | ite (c a b : T)
inductive To where
  | none | some (t : T)
inductive Es where
  | nil | cons (e : E) (es : Es)
inductive Eo where
  | none | some (e : E)
inductive It where
  | seq (e : E) | fzq (e : E) | r1 (e : E) | r2 (a b : E) | zip (a b : E)
end
inductive XE where
  | call (f : Nat) (as : Es) | ite (c : T) (a b : XE) | pure (e : E)
  | mth (cl f : Nat) (m : Str) (a : E) (as : Es) | callA (f : Nat) (as : Es)
inductive TB where
  | ret (x : XE) | ifs (t : T) (x : XE) (r : TB)
inductive Hd where
  | told (k i : Nat) (word : Str) | cmp (k i : Nat) (w1 w2 : Str) (j q : Nat) | word (k : Nat) (w : Str)
mutual
inductive S where
  | asg (tg : Tg) (e : E) | par (i j : Nat) (a b : E)
  | newD (i : Nat) | newL (i : Nat) (as : Es) | newC (i : Nat) (vs : List Nat) (tg : Tg) (it : It) (cond : To) (elt : E)
  | app (i : Nat) (e : E) | setL (i : Nat) (k e : E) | setD (i : Nat) (k e : E)
  | drop (e : E) | ret (e : E) | retN
  | newDK (i : Nat) (ps : Es) | rais (e : E) | dropX (x : XE) | retX (x : XE) | asgX (i : Nat) (x : XE) | tryR (x : XE) (i : Nat) (word : Str)
  | popL (i : Nat) (e : E) | par2T (i j : Nat)
  | augL (i : Nat) (k e : E) | newS (i : Nat) | addS (i : Nat) (e : E) | whl (k : T) (body : Ss)
  | setF (cl : Nat) (a : E) (f : Str) (e : E) | augF (cl : Nat) (a : E) (f : Str) (sb : Bool) (e : E)
  | setA (a k e : E) | setAL (a k e : E) | augAL (a k : E) (sb : Bool) (e : E) | appA (a e : E) | delA (a k : E) | popA (a k : E) | popN (a k : E) | setW (a k e : E)
  | retM (e : E) | raisK (k : Nat) (e : E) | rais0 (k : Nat) | tryM (n : Nat) (b : TB) (hs : List Hd)
  | newT (i : Nat) | aug (i : Nat) (sb : Bool) (e : E)
  | tryN (t : T) (k0 k1 : Nat) (e : E) (i cb : Nat) (q : Nat ⊕ String) (ys ns : List Nat)
  | ifs (c : T) (a b : Ss) | forS (tg : Tg) (it : It) (body : Ss) | brk | cnt | pass | never
inductive Ss where
  | nil | cons (s : S) (ss : Ss)
end

def errOk : Bool → D → Bool
  | false, _ => true
  | true, .int i => atOk i
  | true, _ => false
def isOf (ys ns : List Nat) (k : Nat) : Option Bool := if ys.contains k = true then some true else if ns.contains k = true then some false else none
def rdW : W → Store → Option D
  | .d x, _ => some x
  | .mu n, S => match S[n]? with
    | some (.lst ds) => some (.lst ds)
    | some (.dK ks ds) => some (.dK ks ds)
    | some (.dT ks ds) => some (.dT ks ds)
    | _ => none
def fzW : W → Store → Option (D × Store)
  | .d x, S => some (x, S)
  | .mu n, S => match S[n]? with
    | some (.lst ds) => some (.lst ds, S.set n .dead)
    | some (.dK ks ds) => some (.dK ks ds, S.set n .dead)
    | some (.dT ks ds) => some (.dT ks ds, S.set n .dead)
    | _ => none
mutual
def asgn : Tg → D → En → Option En
  | .name i, d, ρ => if i < ρ.length then some (ρ.set i (some (.d d))) else none
  | .tup ts, .tup ds, ρ => asgns ts ds ρ
  | .tup ts, .lst ds, ρ => asgns ts ds ρ
  | _, _, _ => none
def asgns : Tg → List D → En → Option En
  | .tnil, [], ρ => some ρ
  | .tcons a r, d :: ds, ρ => (asgn a d ρ).bind fun ρ' => asgns r ds ρ'
  | _, _, _ => none
end
mutual
/-- the slots that a target stores are among these -/
def tgIn : Tg → List Nat → Bool
  | .name i, vs => vs.contains i
  | .tup ts, vs => tgsIn ts vs
  | _, _ => false
def tgsIn : Tg → List Nat → Bool
  | .tnil, _ => true
  | .tcons a r, vs => tgIn a vs && tgsIn r vs
  | _, _ => false
end
def wipeE (ρ : En) : List Nat → En
  | [] => ρ
  | v :: vs => (wipeE ρ vs).set v none
def keyOf : D → Option Key
  | .int i => some (.inl i)
  | .str x => some (.inr x)
  | _ => none
def repl {κ : Type} [DecidableEq κ] (k : κ) (d : D) : List κ → List D → List D
  | q :: ks, x :: ds => (if q = k then d else x) :: repl k d ks ds
  | _, ds => ds
def putD {κ : Type} [DecidableEq κ] (k : κ) (d : D) (ks : List κ) (ds : List D) : List κ × List D :=
  if (ks.any fun q => decide (q = k)) = true then (ks, repl k d ks ds) else (ks ++ [k], ds ++ [d])
def keysOf : List D → Option (List Key)
  | [] => some []
  | d :: ds => (keyOf d).bind fun k => (keysOf ds).map (k :: ·)
def lookD {κ : Type} [DecidableEq κ] (k : κ) : List κ → List D → Option D
  | q :: ks, x :: ds => if q = k then some x else lookD k ks ds
  | _, _ => none
def dropD {κ : Type} [DecidableEq κ] (k : κ) : List κ → List D → List D
  | q :: ks, x :: ds => if q = k then dropD k ks ds else x :: dropD k ks ds
  | _, _ => []
def dLook : D → D → Option (Option D)
  | .dK ks ds, y => (keyOf y).map fun k => lookD k ks ds
  | .dT ks ds, .tup ys => (keysOf ys).map fun k => lookD k ks ds
  | _, _ => none
def isDct : D → Bool
  | .dK _ _ => true
  | .dT _ _ => true
  | _ => false
def compD (f : D → Store → Option (Option (Key × D) × Store)) : List D → Store → List Key → List D → Option ((List Key × List D) × Store)
  | [], S, ks, es => some ((ks, es), S)
  | d :: ds, S, ks, es => (f d S).bind fun (r, S') => match r with
    | none => compD f ds S' ks es
    | some x => if ks.length < sizeLine then compD f ds S' (putD x.1 x.2 ks es).1 (putD x.1 x.2 ks es).2 else none
def compL (f : D → Store → Option (Option D × Store)) : List D → Store → List D → Option (List D × Store)
  | [], S, acc => some (acc, S)
  | d :: ds, S, acc => (f d S).bind fun (r, S') => match r with
    | none => compL f ds S' acc
    | some x => if acc.length < sizeLine then compL f ds S' (acc ++ [x]) else none
def zipD : List D → List D → List D
  | a :: as, b :: bs => .tup [a, b] :: zipD as bs
  | _, _ => []
def seqOf : W → Option (List D)
  | .d (.lst ds) => some ds
  | .d (.tup ds) => some ds
  | _ => none
def rangeD (lo : Int) : Nat → List D
  | 0 => []
  | n + 1 => .int lo :: rangeD (lo + 1) n
def setAt (S : Store) (n : Nat) : Option (List Key) := match S[n]? with
  | some (.set ks) => some ks
  | _ => none
def isNonW : W → Bool
  | .d .non => true
  | _ => false
structure Call where
  c : Nat → List W → Store → Option (D × Store)
  x : Nat → List W → Store → Option (D × Store)
  m : Nat → List W → Store → Option (W × Store)
  mx : Nat → List W → Store → Option (D × Store)
  ob : Bool
instance : CoeFun Call fun _ => Nat → List W → Store → Option (D × Store) := ⟨Call.c⟩
def Call.any (c : Call) (f : Nat) (ws : List W) (S : Store) : Option (W × Store) := match c.c f ws S with
  | some (d, S) => some (.d d, S)
  | none => if c.ob = true then c.m f ws S else none
def Call.anyx (c : Call) (f : Nat) (ws : List W) (S : Store) : Option (D × Store) := match c.x f ws S with
  | some (d, S) => some (d, S)
  | none => if c.ob = true then c.mx f ws S else none
def insC (S : Store) (n : Nat) (m : Str) : Option Nat := match S[n]? with
  | some (.ins cl ks _) => if ks.contains m = true then none else some cl
  | _ => none
def insF (S : Store) (cl n : Nat) : Option (List Str × List W) := match S[n]? with
  | some (.ins q ks ws) => if q = cl then some (ks, ws) else none
  | _ => none
def dWAt (S : Store) (n : Nat) : Option (List Key × List W) := match S[n]? with
  | some (.dW ks ws) => some (ks, ws)
  | _ => none
def dKAt (S : Store) (n : Nat) : Option (List Key × List D) := match S[n]? with
  | some (.dK ks ds) => some (ks, ds)
  | _ => none
def lookF {κ : Type} [DecidableEq κ] (k : κ) : List κ → List W → Option W
  | q :: ks, x :: ds => if q = k then some x else lookF k ks ds
  | _, _ => none
def replF {κ : Type} [DecidableEq κ] (k : κ) (d : W) : List κ → List W → List W
  | q :: ks, x :: ds => (if q = k then d else x) :: replF k d ks ds
  | _, ds => ds
def putW {κ : Type} [DecidableEq κ] (k : κ) (d : W) (ks : List κ) (ds : List W) : List κ × List W :=
  if (ks.any fun q => decide (q = k)) = true then (ks, replF k d ks ds) else (ks ++ [k], ds ++ [d])
def putFW (f : Str) (w : W) : List Str → List W → List Str × List W
  | g :: ks, x :: ws => if g = f then (g :: ks, w :: ws) else (g :: (putFW f w ks ws).1, x :: (putFW f w ks ws).2)
  | _, _ => ([f], [w])
def putWs (ps : List (Key × W)) : List Key × List W := ps.foldl (fun a p => putW p.1 p.2 a.1 a.2) ([], [])
def lstAt' (S : Store) (n : Nat) : Option (List D) := match S[n]? with
  | some (.lst ds) => some ds
  | _ => none
def isMu (n : Nat) : W → Bool
  | .mu m => decide (m = n)
  | _ => false
def deadAt (S : Store) (n : Nat) : Bool := match S[n]? with
  | some .dead => true
  | _ => false
def cwShape : Tg → E → E → Option (Nat × Nat × Str × Int)
  | .name v, .wget (.var i) (.cst (.str x)), .ix (.dget (.wget (.var i') (.cst (.str x'))) (.var v')) (.cst (.int j)) => if i' = i ∧ x' = x ∧ v' = v then some (v, i, x, j) else none
  | _, _, _ => none
def pairsD : List Key → List D → List D
  | k :: ks, d :: ds => .tup [keyD k, d] :: pairsD ks ds
  | _, _ => []
section
variable (c : Call)
mutual
def evE : E → En → Store → Option (W × Store)
  | .var i, ρ, S => match ρ[i]? with
    | some (some w) => some (w, S)
    | _ => none
  | .cst d, _, S => if flatD d then some (.d d, S) else none
  | .fnv f, _, S => some (.d (.fn f), S)
  | .bin o a b, ρ, S => (evE a ρ S).bind fun (x, S) => (evE b ρ S).bind fun (y, S) => (rdW x S).bind fun x => (rdW y S).bind fun y => (bRun o x y).map fun z => (.d z, S)
  | .neg a, ρ, S => (evE a ρ S).bind fun (x, S) => match x with
    | .d (.int i) => some (.d (.int (-i)), S)
    | _ => none
  | .cmp o a b, ρ, S => (evE a ρ S).bind fun (x, S) => (evE b ρ S).bind fun (y, S) => (rdW x S).bind fun x => (rdW y S).bind fun y => (cRun o x y).map fun z => (.d (.bl z), S)
  | .chain o o' a b k, ρ, S => (evE a ρ S).bind fun (x, S) => (evE b ρ S).bind fun (y, S) => (rdW x S).bind fun x => (rdW y S).bind fun y' => (cRun o x y').bind fun z =>
      if z then (evE k ρ S).bind fun (w, S) => (rdW y S).bind fun y => (rdW w S).bind fun w => (cRun o' y w).map fun z => (.d (.bl z), S) else some (.d (.bl false), S)
  | .isN a, ρ, S => (evE a ρ S).map fun (x, S) => (.d (.bl (isNonW x)), S)
  | .notN a, ρ, S => (evE a ρ S).map fun (x, S) => (.d (.bl (!isNonW x)), S)
  | .and a b, ρ, S => (evE a ρ S).bind fun (x, S) => match x with
    | .d (.bl true) => evE b ρ S
    | .d (.bl false) => some (.d (.bl false), S)
    | _ => none
  | .or a b, ρ, S => (evE a ρ S).bind fun (x, S) => match x with
    | .d (.bl false) => evE b ρ S
    | .d (.bl true) => some (.d (.bl true), S)
    | _ => none
  | .not a, ρ, S => (evE a ρ S).bind fun (x, S) => match x with
    | .d (.bl b) => some (.d (.bl (!b)), S)
    | _ => none
  | .ite k a b, ρ, S => (evT k ρ S).bind fun (x, S) => if x = true then evE a ρ S else evE b ρ S
  | .call f as, ρ, S => (evEs as ρ S).bind fun (ws, S) => (c f ws S).map fun (d, S) => (.d d, S)
  | .callv i as, ρ, S => match ρ[i]? with
    | some (some (.d (.fn f))) => (evEs as ρ S).bind fun (ws, S) => (c f ws S).map fun (d, S) => (.d d, S)
    | _ => none
  | .bi b as, ρ, S => (evEs as ρ S).bind fun (ws, S) => (ws.mapM fun w => rdW w S).bind fun ds => (biRun b ds).map fun d => (.d d, S)
  | .isi1 a t, ρ, S => (evE a ρ S).bind fun (x, S) => (rdW x S).bind fun x => (isi1 x t).map fun b => (.d (.bl b), S)
  | .isi2 a t u, ρ, S => (evE a ρ S).bind fun (x, S) => (rdW x S).bind fun x => (isi2 x t u).map fun b => (.d (.bl b), S)
  | .mt0 m a, ρ, S => (evE a ρ S).bind fun (x, S) => (rdW x S).bind fun x => (meRun0 m x).map fun d => (.d d, S)
  | .mt1 m a b, ρ, S => (evE a ρ S).bind fun (x, S) => (evE b ρ S).bind fun (y, S) => (rdW x S).bind fun x => (rdW y S).bind fun y => (meRun1 m x y).map fun d => (.d d, S)
  | .ix a i, ρ, S => (evE a ρ S).bind fun (x, S) => (evE i ρ S).bind fun (y, S) => (rdW x S).bind fun x => (rdW y S).bind fun y => (ixRun x y).map fun d => (.d d, S)
  | .sl a lo hi, ρ, S => (evE a ρ S).bind fun (x, S) => (evO lo ρ S).bind fun (l, S) => (evO hi ρ S).bind fun (h, S) => (rdW x S).bind fun x => (slRun x l h).map fun d => (.d d, S)
  | .tup as, ρ, S => (evZ as ρ S).bind fun (ds, S) => if ds.length ≤ sizeLine then some (.d (.tup ds), S) else none
  | .lst as, ρ, S => (evZ as ρ S).bind fun (ds, S) => if ds.length ≤ sizeLine then some (.d (.lst ds), S) else none
  | .comp vs tg it cond elt, ρ, S => if tgIn tg vs = true then (evI it ρ S).bind fun p => (compL (fun d S => (asgn tg d (wipeE ρ vs)).bind fun ρ' => (evTo cond ρ' S).bind fun q =>
      if q.1 = true then (evE elt ρ' q.2).bind fun w => (fzW w.1 w.2).map fun z => (some z.1, z.2) else some (none, q.2)) p.1 p.2 []).map fun r => (.d (.lst r.1), r.2) else none
  | .dget a k, ρ, S => (evE a ρ S).bind fun (x, S) => (evE k ρ S).bind fun (y, S) => (rdW x S).bind fun x => (rdW y S).bind fun y => (dLook x y).bind fun o => o.map fun d => (.d d, S)
  | .din k a, ρ, S => (evE k ρ S).bind fun (y, S) => (evE a ρ S).bind fun (x, S) => (rdW x S).bind fun x => (rdW y S).bind fun y => (dLook x y).map fun o => (.d (.bl o.isSome), S)
  | .get1 a k, ρ, S => (evE a ρ S).bind fun (x, S) => (rdW x S).bind fun x1 => if isDct x1 = true then (evE k ρ S).bind fun (y, S) => (rdW x S).bind fun x => (rdW y S).bind fun y => (dLook x y).map fun o => (.d (o.getD .non), S) else none
  | .get2 a k z, ρ, S => (evE a ρ S).bind fun (x, S) => (rdW x S).bind fun x1 => if isDct x1 = true then (evE k ρ S).bind fun (y, S) => (evE z ρ S).bind fun (w, S) => (rdW x S).bind fun x => (rdW y S).bind fun y => (dLook x y).map fun o => ((o.map W.d).getD w, S) else none
  | .dcomp vs tg it cond kx vx, ρ, S => if tgIn tg vs = true then (evI it ρ S).bind fun p => (compD (fun d S => (asgn tg d (wipeE ρ vs)).bind fun ρ' => (evTo cond ρ' S).bind fun q =>
      if q.1 = true then (evE kx ρ' q.2).bind fun y => (evE vx ρ' y.2).bind fun w => match y.1 with
        | .d kd => (keyOf kd).bind fun k => (fzW w.1 w.2).map fun z => (some (k, z.1), z.2)
        | _ => none else some (none, q.2)) p.1 p.2 [] []).map fun r => (.d (.dK r.1.1 r.1.2), r.2) else none
  | .dnin k a, ρ, S => (evE k ρ S).bind fun (y, S) => (evE a ρ S).bind fun (x, S) => (rdW x S).bind fun x => (rdW y S).bind fun y => (dLook x y).map fun o => (.d (.bl (!o.isSome)), S)
  | .nD, _, S => some (.mu S.length, S ++ [.dK [] []])
  | .nT, _, S => some (.mu S.length, S ++ [.dT [] []])
  | .nL as, ρ, S => (evZ as ρ S).bind fun (ds, S) => if ds.length ≤ sizeLine then some (.mu S.length, S ++ [.lst ds]) else none
  | .nW ps, ρ, S => if c.ob = true then (evWP ps ρ S).bind fun (kvs, S) => if kvs.length ≤ 15 then some (.mu S.length, S ++ [.dW (putWs kvs).1 (putWs kvs).2]) else none else none
  | .fld cl a f, ρ, S => (evE a ρ S).bind fun (x, S) => match x with
    | .mu n => (insF S cl n).bind fun q => (lookF f q.1 q.2).map fun w => (w, S)
    | _ => none
  | .wget a k, ρ, S => (evE a ρ S).bind fun (x, S) => (evE k ρ S).bind fun (y, S) => match x, y with
    | .mu n, .d kd => (keyOf kd).bind fun kk => (dWAt S n).bind fun q => (lookF kk q.1 q.2).map fun w => (w, S)
    | _, _ => none
  | .mkO cl f as, ρ, S => if c.ob = true then (evEs as ρ S).bind fun (ws, S) => (c.m f (.mu S.length :: ws) (S ++ [.ins cl [] []])).bind fun r => match r.1 with
      | .d .non => some (.mu S.length, r.2)
      | _ => none
    else none
  | .mth cl f m a as, ρ, S => (evE a ρ S).bind fun (x, S) => match x with
    | .mu n => if insC S n m = some cl then (evEs as ρ S).bind fun (ws, S) => c.any f (.mu n :: ws) S else none
    | _ => none
  | .callA f as, ρ, S => (evEs as ρ S).bind fun (ws, S) => c.any f ws S
  | .itemsT a, ρ, S => (evE a ρ S).bind fun (x, S) => match x with
    | .mu n => match S[n]? with
      | some (.dK ks ds) => if ks.length ≤ 1000 then some (.d (.tup (pairsD ks ds)), S) else none
      | _ => none
    | _ => none
  | .mkE0 k, _, S => some (.d (.exc k []), S)
  | .mkE k num a, ρ, S => (evE a ρ S).bind fun (x, S) => match x with
    | .d d => if errOk num d = true then some (.d (.exc k [d]), S) else none
    | _ => none
  | .efld ks a, ρ, S => (evE a ρ S).bind fun (x, S) => match x with
    | .d (.exc k [d]) => if ks.contains k = true then some (.d d, S) else none
    | _ => none
  | .isE ys ns _ a, ρ, S => (evE a ρ S).bind fun (x, S) => match x with
    | .d (.exc k _) => (isOf ys ns k).map fun b => (.d (.bl b), S)
    | _ => none
  | .fz a, ρ, S => (evE a ρ S).bind fun (x, S) => (fzW x S).map fun (d, S) => (.d d, S)
  | .sortR i, ρ, S => match ρ[i]? with
    | some (some (.d (.lst ds))) => (intsOf ds).bind fun ns => if ns.length ≤ 1000 then some (.d (.lst ((PvLm.byNeg ns).map fun j : Nat => .int (j : Int))), S) else none
    | _ => none
  | .sin neg k a, ρ, S => (evE k ρ S).bind fun (y, S) => (evE a ρ S).bind fun (x, S) => match y, x with
    | .d kd, .mu n => (keyOf kd).bind fun kk => (setAt S n).map fun ks => (.d (.bl (if neg = true then !hasK kk ks else hasK kk ks)), S)
    | _, _ => none
  | .compV vs tg a cond elt, ρ, S => if tgIn tg vs = true then (evE a ρ S).bind fun p => match p with
    | (.mu n, S1) => (lstAt' S1 n).bind fun ds => (compL (fun d S => (asgn tg d (wipeE ρ vs)).bind fun ρ' => (evTo cond ρ' S).bind fun q =>
        if q.1 = true then (evE elt ρ' q.2).bind fun w => (fzW w.1 w.2).map fun z => (some z.1, z.2) else some (none, q.2)) ds (S1.set n .dead) []).bind fun x => if deadAt x.2 n = true then some (.d (.lst x.1), x.2.set n (.lst ds)) else none
    | _ => none else none
  | .compA vs tg a cond elt, ρ, S => (cwShape tg a elt).bind fun sh => if tgIn tg vs = true then (evE a ρ S).bind fun p => match p with
    | (.mu n, S1) => (dKAt S1 n).bind fun r => (evE a ρ (S1.set n .dead)).bind fun p2 => if isMu n p2.1 = true then (compL (fun d S => (asgn tg d (wipeE ρ vs)).bind fun ρ' => (evTo cond ρ' S).bind fun q =>
        if q.1 = true then ((evE a ρ' q.2).bind fun z => if isMu n z.1 = true then match ρ'[sh.1]? with
          | some (some (.d kd)) => (keyOf kd).bind fun kk => (lookD kk r.1 r.2).bind fun d => (ixRun d (.int sh.2.2.2)).map fun x => (W.d x, z.2)
          | _ => none else none).bind fun w => (fzW w.1 w.2).map fun z => (some z.1, z.2) else some (none, q.2)) (r.1.map keyD) p2.2 []).bind fun x => if deadAt x.2 n = true then some (.d (.lst x.1), x.2.set n (.dK r.1 r.2)) else none else none
    | _ => none else none
  | .compK vs tg i cond elt, ρ, S => match ρ[i]? with
    | some (some (.mu n)) => match S[n]? with
      | some (.dK ks _) => if tgIn tg vs = true then (compL (fun d S => (asgn tg d (wipeE ρ vs)).bind fun ρ' => (evTo cond ρ' S).bind fun q =>
          if q.1 = true then (evE elt ρ' q.2).bind fun w => (fzW w.1 w.2).map fun z => (some z.1, z.2) else some (none, q.2)) (ks.map keyD) (S.set n .dead) []).map fun r => (.d (.lst r.1), r.2) else none
      | _ => none
    | _ => none
def evTo : To → En → Store → Option (Bool × Store)
  | .none, _, S => some (true, S)
  | .some t, ρ, S => evT t ρ S
def evT : T → En → Store → Option (Bool × Store)
  | .val e, ρ, S => (evE e ρ S).bind fun (x, S) => match x with
    | .d (.bl b) => some (b, S)
    | _ => none
  | .and a b, ρ, S => (evT a ρ S).bind fun (x, S) => if x = true then evT b ρ S else some (false, S)
  | .or a b, ρ, S => (evT a ρ S).bind fun (x, S) => if x = true then some (true, S) else evT b ρ S
  | .ite k a b, ρ, S => (evT k ρ S).bind fun (x, S) => if x = true then evT a ρ S else evT b ρ S
  | .not a, ρ, S => (evT a ρ S).map fun (x, S) => (!x, S)
/-- arguments of a call, as they are -/
def evEs : Es → En → Store → Option (List W × Store)
  | .nil, _, S => some ([], S)
  | .cons e es, ρ, S => (evE e ρ S).bind fun (w, S) => (evEs es ρ S).map fun (ws, S) => (w :: ws, S)
/-- items of a display: what they hold is known for good -/
def evZ : Es → En → Store → Option (List D × Store)
  | .nil, _, S => some ([], S)
  | .cons e es, ρ, S => (evE e ρ S).bind fun (w, S) => (fzW w S).bind fun (d, S) => (evZ es ρ S).map fun (ds, S) => (d :: ds, S)
/-- the pairs of a dict that is written, their values as they are -/
def evWP : Es → En → Store → Option (List (Key × W) × Store)
  | .nil, _, S => some ([], S)
  | .cons k r, ρ, S => match r with
    | .cons e r => (evE k ρ S).bind fun (x, S) => match x with
      | .d kd => (keyOf kd).bind fun kk => (evE e ρ S).bind fun (w, S) => (evWP r ρ S).map fun (ps, S) => ((kk, w) :: ps, S)
      | _ => none
    | _ => none
def evO : Eo → En → Store → Option (Option Int × Store)
  | .none, _, S => some (none, S)
  | .some e, ρ, S => (evE e ρ S).bind fun (x, S) => match x with
    | .d (.int i) => some (some i, S)
    | _ => none
def evI : It → En → Store → Option (List D × Store)
  | .seq e, ρ, S => (evE e ρ S).bind fun (w, S) => match w with
    | .d (.lst ds) => some (ds, S)
    | .d (.tup ds) => some (ds, S)
    | .d (.str x) => some (x.cps.toList.map fun c => .str ⟨#[c]⟩, S)
    | _ => none
  | .fzq e, ρ, S => (evE e ρ S).bind fun (w, S) => (fzW w S).bind fun (d, S) => match d with
    | .lst ds => some (ds, S)
    | .tup ds => some (ds, S)
    | _ => none
  | .r1 a, ρ, S => (evE a ρ S).bind fun (w, S) => match w with
    | .d (.int j) => if -(2 ^ 62) ≤ j ∧ j < 2 ^ 62 then some (rangeD 0 j.toNat, S) else none
    | _ => none
  | .r2 a b, ρ, S => (evE a ρ S).bind fun (w, S) => (evE b ρ S).bind fun (u, S) => match w, u with
    | .d (.int i), .d (.int j) => if -(2 ^ 62) ≤ i ∧ i < 2 ^ 62 ∧ -(2 ^ 62) ≤ j ∧ j < 2 ^ 62 then some (rangeD i (j - i).toNat, S) else none
    | _, _ => none
  | .zip a b, ρ, S => (evE a ρ S).bind fun (w, S) => (evE b ρ S).bind fun (u, S) => (seqOf w).bind fun xs => (seqOf u).map fun ys => (zipD xs ys, S)
end
inductive Out where
  | nx (ρ : En) (S : Store) | bk (ρ : En) (S : Store) | ct (ρ : En) (S : Store) | rt (d : D) (S : Store) | xc (d : D) (S : Store) | rm (n : Nat) (S : Store)
def outW : W × Store → Out
  | (.d d, S) => .rt d S
  | (.mu n, S) => .rm n S
def evX : XE → En → Store → Option Out
  | .call f as, ρ, S => (evEs c as ρ S).bind fun (ws, S) => match c f ws S with
    | some (d, S) => some (.rt d S)
    | none => (c.x f ws S).map fun (d, S) => .xc d S
  | .ite k a b, ρ, S => (evT c k ρ S).bind fun (x, S) => if x = true then evX a ρ S else evX b ρ S
  | .pure e, ρ, S => (evE c e ρ S).bind fun (w, S) => (fzW w S).map fun (d, S) => .rt d S
  | .mth cl f m a as, ρ, S => (evE c a ρ S).bind fun (x, S) => match x with
    | .mu n => if insC S n m = some cl then (evEs c as ρ S).bind fun (ws, S) => match c.any f (.mu n :: ws) S with
        | some r => some (outW r)
        | none => (c.anyx f (.mu n :: ws) S).map fun (d, S) => .xc d S
      else none
    | _ => none
  | .callA f as, ρ, S => (evEs c as ρ S).bind fun (ws, S) => match c.any f ws S with
    | some r => some (outW r)
    | none => (c.anyx f ws S).map fun (d, S) => .xc d S
def evTB : TB → En → Store → Option Out
  | .ret x, ρ, S => evX c x ρ S
  | .ifs t x r, ρ, S => (evT c t ρ S).bind fun (b, S) => if b = true then evX c x ρ S else evTB r ρ S
def forL (f : D → En → Store → Option Out) : List D → En → Store → Option Out
  | [], ρ, S => some (.nx ρ S)
  | d :: ds, ρ, S => (f d ρ S).bind fun o => match o with
    | .nx ρ S => forL f ds ρ S
    | .ct ρ S => forL f ds ρ S
    | .bk ρ S => some (.nx ρ S)
    | .rt r S => some (.rt r S)
    | .xc r S => some (.xc r S)
    | .rm r S => some (.rm r S)
def whL (t : En → Store → Option (Bool × Store)) (f : En → Store → Option Out) : Nat → En → Store → Option Out
  | 0, _, _ => none
  | n + 1, ρ, S => (t ρ S).bind fun q => if q.1 = true then (f ρ q.2).bind fun o => match o with
      | .nx ρ S => whL t f n ρ S
      | .ct ρ S => whL t f n ρ S
      | .bk ρ S => some (.nx ρ S)
      | .rt r S => some (.rt r S)
      | .xc r S => some (.xc r S)
      | .rm r S => some (.rm r S)
    else some (.nx ρ q.2)
def lstAt (S : Store) (n : Nat) : Option (List D) := match S[n]? with
  | some (.lst ds) => some ds
  | _ => none
def evP : Es → En → Store → Option (List (Key × D) × Store)
  | .nil, _, S => some ([], S)
  | .cons k (.cons e r), ρ, S => (evE c k ρ S).bind fun (x, S) => match x with
    | .d kd => (keyOf kd).bind fun kk => (evE c e ρ S).bind fun (w, S) => (fzW w S).bind fun (d, S) => (evP r ρ S).map fun (ps, S) => ((kk, d) :: ps, S)
    | _ => none
  | _, _, _ => none
def exK : D → Option Nat
  | .int _ => some 0
  | .tup [.int k, _] => if 0 < k then some k.toNat else none
  | .tup [.int k] => if 0 < k then some k.toNat else none
  | _ => none
def exV : D → Option D
  | .int i => some (.int i)
  | .tup [.int k, v] => if 0 < k then some v else none
  | _ => none
def Hd.k : Hd → Nat
  | .told k _ _ => k
  | .cmp k _ _ _ _ _ => k
  | .word k _ => k
def Hd.run (d : D) (ρ : En) (S : Store) : Hd → Option Out
  | .told _ i w => if i < ρ.length then (exV d).map fun v => .rt (.tup [.str w, v]) S else none
  | .cmp _ i w1 w2 j q => if i < ρ.length ∧ i ≠ j then (exV d).bind fun v => match ρ[j]? with
    | some (some (.d (.tup ds))) => (L2.atI ds (q : Int)).bind fun y => if scalD v y = true then some (.rt (.str (if eqS v y = true then w1 else w2)) S) else none
    | _ => none else none
  | .word _ w => some (.rt (.str w) S)
def hdsRun (d : D) (ρ : En) (S : Store) (k : Nat) : List Hd → Option Out
  | [] => some (.xc d S)
  | h :: hs => if h.k = k then h.run d ρ S else hdsRun d ρ S k hs
def putAll (ps : List (Key × D)) : List Key × List D := ps.foldl (fun a p => putD p.1 p.2 a.1 a.2) ([], [])
mutual
def evS : S → En → Store → Option Out
  | .asg tg e, ρ, S => (evE c e ρ S).bind fun (w, S) => match tg with
    | .name i => if i < ρ.length then some (.nx (ρ.set i (some w)) S) else none
    | tg => match w with
      | .d d => (asgn tg d ρ).map fun ρ' => .nx ρ' S
      | _ => none
  | .par i j a b, ρ, S => (evE c a ρ S).bind fun (x, S) => (evE c b ρ S).bind fun (y, S) => if i < ρ.length ∧ j < ρ.length then some (.nx ((ρ.set i (some x)).set j (some y)) S) else none
  | .newD i, ρ, S => if i < ρ.length then some (.nx (ρ.set i (some (.mu S.length))) (S ++ [.dK [] []])) else none
  | .newT i, ρ, S => if i < ρ.length then some (.nx (ρ.set i (some (.mu S.length))) (S ++ [.dT [] []])) else none
  | .popL i e, ρ, S => match ρ[i]? with
    | some (some (.mu n)) => (lstAt S n).bind fun _ => (evE c e ρ S).bind fun q => match q.1 with
      | .d (.int z) => (lstAt q.2 n).bind fun ds => if 0 ≤ z ∧ z < 1000 ∧ z.toNat < ds.length then some (.nx ρ (q.2.set n (.lst (ds.eraseIdx z.toNat)))) else none
      | _ => none
    | _ => none
  | .par2T i j, ρ, S => if i < ρ.length ∧ j < ρ.length then some (.nx ((ρ.set i (some (.mu S.length))).set j (some (.mu (S ++ [MO.dT [] []]).length))) ((S ++ [MO.dT [] []]) ++ [MO.dT [] []])) else none
  | .augL i k e, ρ, S => match ρ[i]? with
    | some (some (.mu n)) => (evE c k ρ S).bind fun q => match q.1 with
      | .d (.int z) => (lstAt q.2 n).bind fun ds => (L2.atI ds z).bind fun x => match x with
        | .int a => (evE c e ρ q.2).bind fun w => match w.1 with
          | .d (.int b) => (lstAt w.2 n).bind fun ds' => (ixN ds'.length z).map fun j => .nx ρ (w.2.set n (.lst (ds'.set j (.int (a + b)))))
          | _ => none
        | _ => none
      | _ => none
    | _ => none
  | .newS i, ρ, S => if i < ρ.length then some (.nx (ρ.set i (some (.mu S.length))) (S ++ [.set []])) else none
  | .addS i e, ρ, S => match ρ[i]? with
    | some (some (.mu n)) => (setAt S n).bind fun _ => (evE c e ρ S).bind fun q => match q.1 with
      | .d kd => (keyOf kd).bind fun k => (setAt q.2 n).bind fun ks => if ks.length + 1 < scanBound then some (.nx ρ (q.2.set n (.set (if hasK k ks = true then ks else ks ++ [k])))) else none
      | _ => none
    | _ => none
  | .whl k body, ρ, S => whL (fun ρ S => evT c k ρ S) (fun ρ S => evSs body ρ S) 5000 ρ S
  | .aug i sb e, ρ, S => match ρ[i]? with
    | some (some (.d (.int a))) => (evE c e ρ S).bind fun q => match q.1 with
      | .d (.int b) => some (.nx (ρ.set i (some (.d (.int (if sb = true then a - b else a + b))))) q.2)
      | _ => none
    | _ => none
  | .newL i as, ρ, S => (evZ c as ρ S).bind fun (ds, S) => if i < ρ.length ∧ ds.length ≤ sizeLine then some (.nx (ρ.set i (some (.mu S.length))) (S ++ [.lst ds])) else none
  | .newC i vs tg it cond elt, ρ, S => (evE c (.comp vs tg it cond elt) ρ S).bind fun (w, S) => match w with
    | .d (.lst ds) => if i < ρ.length then some (.nx (ρ.set i (some (.mu S.length))) (S ++ [.lst ds])) else none
    | _ => none
  | .app i e, ρ, S => match ρ[i]? with
    | some (some (.mu n)) => (lstAt S n).bind fun _ => (evE c e ρ S).bind fun w => (fzW w.1 w.2).bind fun z => (lstAt z.2 n).bind fun ds =>
        if ds.length < sizeLine then some (.nx ρ (z.2.set n (.lst (ds ++ [z.1])))) else none
    | _ => none
  | .setL i k e, ρ, S => match ρ[i]? with
    | some (some (.mu n)) => (evE c e ρ S).bind fun w => (fzW w.1 w.2).bind fun z => (evE c k ρ z.2).bind fun q => match q.1 with
      | .d (.int i) => (lstAt q.2 n).bind fun ds => (ixN ds.length i).map fun j => .nx ρ (q.2.set n (.lst (ds.set j z.1)))
      | _ => none
    | _ => none
  | .setD i k e, ρ, S => match ρ[i]? with
    | some (some (.mu n)) => (evE c e ρ S).bind fun w => (fzW w.1 w.2).bind fun z => (evE c k ρ z.2).bind fun q => match q.1, q.2[n]? with
      | .d kd, some (.dK ks ds) => (keyOf kd).bind fun k => if ks.length < sizeLine then some (.nx ρ (q.2.set n (.dK (putD k z.1 ks ds).1 (putD k z.1 ks ds).2))) else none
      | .d (.tup ys), some (.dT ks ds) => (keysOf ys).bind fun k => if ks.length < sizeLine then some (.nx ρ (q.2.set n (.dT (putD k z.1 ks ds).1 (putD k z.1 ks ds).2))) else none
      | _, _ => none
    | _ => none
  | .newDK i ps, ρ, S => (evP c ps ρ S).bind fun (kvs, S) => if i < ρ.length ∧ kvs.length ≤ 15 then some (.nx (ρ.set i (some (.mu S.length))) (S ++ [.dK (putAll kvs).1 (putAll kvs).2])) else none
  | .rais e, ρ, S => (evE c e ρ S).bind fun (w, S) => match w with
    | .d (.int i) => if atOk i = true then some (.xc (.int i) S) else none
    | _ => none
  | .dropX x, ρ, S => (evX c x ρ S).bind fun o => match o with
    | .rt _ S => some (.nx ρ S)
    | .xc d S => some (.xc d S)
    | _ => none
  | .retX x, ρ, S => evX c x ρ S
  | .asgX i x, ρ, S => (evX c x ρ S).bind fun o => match o with
    | .rt d S => if i < ρ.length then some (.nx (ρ.set i (some (.d d))) S) else none
    | .xc d S => some (.xc d S)
    | _ => none
  | .tryR x i word, ρ, S => if i < ρ.length then (evX c x ρ S).bind fun o => match o with
    | .rt d S => some (.rt d S)
    | .xc (.int d) S => some (.rt (.tup [.str word, .int d]) S)
    | _ => none else none
  | .setF cl a f e, ρ, S => if c.ob = true then (evE c e ρ S).bind fun (w, S) => (evE c a ρ S).bind fun (x, S) => match x with
    | .mu n => (insF S cl n).bind fun q => if q.1.length < 1000 then some (.nx ρ (S.set n (.ins cl (putFW f w q.1 q.2).1 (putFW f w q.1 q.2).2))) else none
    | _ => none else none
  | .augF cl a f sb e, ρ, S => if c.ob = true then (evE c a ρ S).bind fun (x, S) => match x with
    | .mu n => (insF S cl n).bind fun q => match lookF f q.1 q.2 with
      | some (.d (.int i)) => (evE c e ρ S).bind fun (y, S) => match y with
        | .d (.int j) => (insF S cl n).bind fun q => if q.1.length < 1000 then some (.nx ρ (S.set n (.ins cl (putFW f (.d (.int (if sb = true then i - j else i + j))) q.1 q.2).1 (putFW f (.d (.int (if sb = true then i - j else i + j))) q.1 q.2).2))) else none
        | _ => none
      | _ => none
    | _ => none else none
  | .setA a k e, ρ, S => (evE c e ρ S).bind fun w => (fzW w.1 w.2).bind fun z => (evE c a ρ z.2).bind fun p => (evE c k ρ p.2).bind fun q => match p.1 with
    | .mu n => match q.1, q.2[n]? with
      | .d kd, some (.dK ks ds) => (keyOf kd).bind fun k => if ks.length < sizeLine then some (.nx ρ (q.2.set n (.dK (putD k z.1 ks ds).1 (putD k z.1 ks ds).2))) else none
      | .d (.tup ys), some (.dT ks ds) => (keysOf ys).bind fun k => if ks.length < sizeLine then some (.nx ρ (q.2.set n (.dT (putD k z.1 ks ds).1 (putD k z.1 ks ds).2))) else none
      | _, _ => none
    | _ => none
  | .setAL a k e, ρ, S => (evE c e ρ S).bind fun w => (fzW w.1 w.2).bind fun z => (evE c a ρ z.2).bind fun p => (evE c k ρ p.2).bind fun q => match p.1, q.1 with
    | .mu n, .d (.int i) => (lstAt q.2 n).bind fun ds => (ixN ds.length i).map fun j => .nx ρ (q.2.set n (.lst (ds.set j z.1)))
    | _, _ => none
  | .augAL a k sb e, ρ, S => (evE c a ρ S).bind fun p => (evE c k ρ p.2).bind fun q => match p.1, q.1 with
    | .mu n, .d (.int z) => (lstAt q.2 n).bind fun ds => (L2.atI ds z).bind fun x => match x with
      | .int a => (evE c e ρ q.2).bind fun w => match w.1 with
        | .d (.int b) => (lstAt w.2 n).bind fun ds' => (ixN ds'.length z).map fun j => .nx ρ (w.2.set n (.lst (ds'.set j (.int (if sb = true then a - b else a + b)))))
        | _ => none
      | _ => none
    | _, _ => none
  | .appA a e, ρ, S => (evE c a ρ S).bind fun p => match p.1 with
    | .mu n => (lstAt p.2 n).bind fun _ => (evE c e ρ p.2).bind fun w => (fzW w.1 w.2).bind fun z => (lstAt z.2 n).bind fun ds =>
        if ds.length < sizeLine then some (.nx ρ (z.2.set n (.lst (ds ++ [z.1])))) else none
    | _ => none
  | .delA a k, ρ, S => (evE c a ρ S).bind fun p => (evE c k ρ p.2).bind fun q => match p.1, q.1 with
    | .mu n, .d kd => (keyOf kd).bind fun kk => match q.2[n]? with
      | some (.dK ks ds) => if (lookD kk ks ds).isSome = true then some (.nx ρ (q.2.set n (.dK (ks.filter fun q => !decide (q = kk)) (dropD kk ks ds)))) else none
      | _ => none
    | _, _ => none
  | .popA a k, ρ, S => (evE c a ρ S).bind fun p => match p.1 with
    | .mu n => (dKAt p.2 n).bind fun _ => (evE c k ρ p.2).bind fun q => match q.1 with
      | .d kd => (keyOf kd).bind fun kk => (dKAt q.2 n).bind fun r => if (lookD kk r.1 r.2).isSome = true then some (.nx ρ (q.2.set n (.dK (r.1.filter fun q => !decide (q = kk)) (dropD kk r.1 r.2)))) else none
      | _ => none
    | _ => none
  | .popN a k, ρ, S => (evE c a ρ S).bind fun p => match p.1 with
    | .mu n => (dKAt p.2 n).bind fun _ => (evE c k ρ p.2).bind fun q => match q.1 with
      | .d kd => (keyOf kd).bind fun kk => (dKAt q.2 n).map fun r => if (lookD kk r.1 r.2).isSome = true then .nx ρ (q.2.set n (.dK (r.1.filter fun q => !decide (q = kk)) (dropD kk r.1 r.2))) else .nx ρ q.2
      | _ => none
    | _ => none
  | .setW a k e, ρ, S => if c.ob = true then (evE c e ρ S).bind fun w => (evE c a ρ w.2).bind fun p => (evE c k ρ p.2).bind fun q => match p.1, q.1 with
    | .mu n, .d kd => (keyOf kd).bind fun kk => (dWAt q.2 n).bind fun r => if r.1.length < sizeLine then some (.nx ρ (q.2.set n (.dW (putW kk w.1 r.1 r.2).1 (putW kk w.1 r.1 r.2).2))) else none
    | _, _ => none else none
  | .retM e, ρ, S => (evE c e ρ S).map outW
  | .raisK k e, ρ, S => if 0 < k then (evE c e ρ S).bind fun (w, S) => match w with
    | .d d => some (.xc (.tup [.int k, d]) S)
    | _ => none else none
  | .rais0 k, _, S => if 0 < k then some (.xc (.tup [.int k]) S) else none
  | .tryM n b hs, ρ, S => if (hs.all fun h => decide (h.k < n)) = true then (evTB c b ρ S).bind fun o => match o with
    | .xc d S => (exK d).bind fun k => if k < n then hdsRun d ρ S k hs else none
    | o => some o
    else none
  | .tryN t k0 k1 e i _ _ ys ns, ρ, S => if i < ρ.length then (evT c t ρ S).bind fun (b, S) => if b = true then (isOf ys ns k0).map fun r => .rt (.bl r) S else (evE c e ρ S).bind fun (w, S) => match w with
      | .d _ => (isOf ys ns k1).map fun r => .rt (.bl r) S
      | _ => none
    else none
  | .drop e, ρ, S => (evE c e ρ S).map fun (_, S) => .nx ρ S
  | .ret e, ρ, S => (evE c e ρ S).bind fun (w, S) => (fzW w S).map fun (d, S) => .rt d S
  | .retN, _, S => some (.rt .non S)
  | .ifs k a b, ρ, S => (evT c k ρ S).bind fun (x, S) => if x = true then evSs a ρ S else evSs b ρ S
  | .forS tg it body, ρ, S => (evI c it ρ S).bind fun (ds, S) => forL (fun d ρ S => (asgn tg d ρ).bind fun ρ' => evSs body ρ' S) ds ρ S
  | .brk, ρ, S => some (.bk ρ S)
  | .cnt, ρ, S => some (.ct ρ S)
  | .pass, ρ, S => some (.nx ρ S)
  | .never, _, _ => none
def evSs : Ss → En → Store → Option Out
  | .nil, ρ, S => some (.nx ρ S)
  | .cons s ss, ρ, S => (evS s ρ S).bind fun o => match o with
    | .nx ρ S => evSs ss ρ S
    | o => some o
end
end
structure Fn where
  ar : Nat
  sl : Nat
  body : Ss
def startE (n : Nat) (ws : List W) : En := ws.map some ++ List.replicate (n - ws.length) none
def callF (P : Nat → Option Fn) : Nat → Call
  | 0 => ⟨fun _ _ _ => none, fun _ _ _ => none, fun _ _ _ => none, fun _ _ _ => none, false⟩
  | k + 1 => ⟨fun f ws S => (P f).bind fun q => if ws.length = q.ar ∧ q.ar ≤ q.sl then (evSs (callF P k) q.body (startE q.sl ws) S).bind fun o => match o with
      | .rt d S' => some (d, S'.take S.length)
      | .nx _ S' => some (.non, S'.take S.length)
      | _ => none
    else none,
    fun f ws S => (P f).bind fun q => if ws.length = q.ar ∧ q.ar ≤ q.sl then (evSs (callF P k) q.body (startE q.sl ws) S).bind fun o => match o with
      | .xc d S' => some (d, S'.take S.length)
      | _ => none
    else none,
    fun f ws S => (P f).bind fun q => if ws.length + 1000 = q.ar ∧ ws.length ≤ q.sl then (evSs { callF P k with ob := true } q.body (startE q.sl ws) S).bind fun o => match o with
      | .rt d S' => some (.d d, S')
      | .nx _ S' => some (.d .non, S')
      | .rm n S' => some (.mu n, S')
      | _ => none
    else none,
    fun f ws S => (P f).bind fun q => if ws.length + 1000 = q.ar ∧ ws.length ≤ q.sl then (evSs { callF P k with ob := true } q.body (startE q.sl ws) S).bind fun o => match o with
      | .xc d S' => some (d, S')
      | _ => none
    else none, false⟩
end Pv

set_option Elab.async false
set_option linter.all false
set_option maxRecDepth 100000
set_option maxHeartbeats 4000000
namespace Pv
open PySem L2

def vOf : D → V
  | .bl b => .bl b
  | .int i => .int i
  | .str x => .str x
  | _ => .non
section
variable (K : PySem.W.Frag)
def rB : BOp → R2
  | .add => fun x y H Q => (rI0 fun i j => .int (i + j)) x y H Q ∨ (∃ i j, x = .str i ∧ y = .str j ∧ i.length + j.length ≤ sizeLine ∧ Q (.str (i ++ j)) H) ∨ rCatA K x y H Q ∨ rCat x y H Q
  | .sub => rI0 fun i j => .int (i - j)
  | .mul => fun x y H Q => (rI CMul fun i j => .int (i * j)) x y H Q ∨ rRepT K x y H Q ∨ PvR.rMulS x y H Q
  | .div => rI CDivW fun i j => .int (i / j)
  | .mod => rI (fun _ j => 0 < j) fun i j => .int (i % j)
  | .pow => rI CPow fun i j => .int (i ^ j.toNat)
def rStr (p : Str → Str → Bool) : R2 := fun x y H Q => ∃ i j, x = .str i ∧ y = .str j ∧ Q (.bl (p i j)) H
def rC : COp → R2
  | .eq => fun x y H Q => rEq x y H Q ∨ rEqD K x y H Q
  | .ne => fun x y H Q => rNe x y H Q ∨ rNeD K x y H Q
  | .lt => fun x y H Q => ((rI0 fun i j => .bl (decide (i < j))) x y H Q ∨ rStr (fun i j => decide (i.cps.toList < j.cps.toList)) x y H Q) ∨ PvR.rLtD K x y H Q
  | .le => fun x y H Q => (rI0 fun i j => .bl (decide (i ≤ j))) x y H Q ∨ rStr (fun i j => !decide (j.cps.toList < i.cps.toList)) x y H Q
  | .gt => fun x y H Q => (rI0 fun i j => .bl (decide (j < i))) x y H Q ∨ rStr (fun i j => decide (j.cps.toList < i.cps.toList)) x y H Q
  | .ge => fun x y H Q => ((rI0 fun i j => .bl (decide (j ≤ i))) x y H Q ∨ rStr (fun i j => !decide (i.cps.toList < j.cps.toList)) x y H Q) ∨ PvR.rGeP K x y H Q
  | .inn => fun x y H Q => rIn K false x y H Q ∨ rStr (fun i j => !(Builtin.Str.occurrences j i 0 j.length 1).isEmpty) x y H Q
  | .nin => fun x y H Q => rIn K true x y H Q ∨ rStr (fun i j => !(!(Builtin.Str.occurrences j i 0 j.length 1).isEmpty)) x y H Q
def rBi : Bi → List V → Hp → VK → Prop
  | .len => fun xs H Q => (∃ p ys, xs = [.ref p] ∧ (SqL K H p ys ∨ SqT K H p ys) ∧ Q (.int ys.length) H) ∨ ∃ z, xs = [.str z] ∧ z.length ≤ sizeLine ∧ Q (.int z.length) H
  | .int => fun xs H Q => (∃ i, xs = [.int i] ∧ Q (.int i) H) ∨ ∃ k, xs = [.bl k] ∧ Q (.int (if k then 1 else 0)) H
  | .all => rAll K
  | .any => rAny K
  | .sum => fun xs H Q => rSum K xs H Q ∨ PvLm.rSumT K xs H Q
  | .max2 => fun xs H Q => ∃ i j, xs = [.int i, .int j] ∧ Q (.int (if j > i then j else i)) H
  | .min2 => fun xs H Q => ∃ i j, xs = [.int i, .int j] ∧ Q (.int (if j < i then j else i)) H
  | .str => fun xs H Q => ∃ i, xs = [.int i] ∧ i.natAbs.log2 < 1920 ∧ Q (.str (toString i)) H
  | .tuple => fun xs H Q => ∃ p ys, xs = [.ref p] ∧ ((SqL K H p ys ∧ ∀ l, H l = none → Q (.ref l) (upd H l (.tup ys))) ∨ (SqT K H p ys ∧ Q (.ref p) H))
  | .list => fun xs H Q => ∃ p ys, xs = [.ref p] ∧ (SqL K H p ys ∨ SqT K H p ys) ∧ ∀ l, H l = none → Q (.ref l) (upd H l (.lst ys))
  | .minL => rMin K
  | .maxL => rMax K
  | .sorted => fun xs H Q => (rSortedI K xs H Q ∨ PvR.rSortedDI xs H Q) ∨ PvR.rSortedDS xs H Q ∨ PvR.rSortedDT xs H Q ∨ PvR.rSortedL K xs H Q
def rMe : Me → V → List V → Hp → VK → Prop
  | .isascii => fun x xs H Q => ∃ a, x = .str a ∧ xs = [] ∧ True ∧ Q (.bl (Txt.isascii a)) H
  | .isalpha => fun x xs H Q => ∃ a, x = .str a ∧ xs = [] ∧ True ∧ Q (.bl (Txt.isalpha a)) H
  | .islower => fun x xs H Q => ∃ a, x = .str a ∧ xs = [] ∧ True ∧ Q (.bl (Txt.islower a)) H
  | .isdigit => fun x xs H Q => ∃ a, x = .str a ∧ xs = [] ∧ True ∧ Q (.bl (Txt.isdigit a)) H
  | .startswith => fun x xs H Q => ∃ a b, x = .str a ∧ xs = [.str b] ∧ Q (.bl (Txt.startswith a b)) H
def rSl : V → Option Int → Option Int → Hp → VK → Prop := fun x lo hi H Q => rSlL K x lo hi H Q ∨ rSlA K x lo hi H Q ∨ rSlS x lo hi H Q
variable (fa : FA) (sp : Nat → Sp) (tb : Nat → Prop)
def tFldC (C : Addr) (ta : TE) (f : Str) : TE := fun σ H Q => ta σ H fun x H1 => ∃ (a dx : Addr) (fs : List (Str × V)) (v : V), x = .ref a ∧ H1 a = some (.ins C dx fs) ∧ fs.lookup f = some v ∧ Q v H1
def sFldC (C : Addr) (ta tv : TE) (f : Str) : TS := fun D σ H => tv σ H fun y H1 => ta σ H1 fun x H2 => ∃ (a dx : Addr) (fs : List (Str × V)), x = .ref a ∧ H2 a = some (.ins C dx fs) ∧ fs.length < 1000 ∧ D.nx σ (upd H2 a (.ins C dx (putF f y fs)))
def sFldAugC (C : Addr) (ta tv : TE) (rd : V → V → Hp → VK → Prop) (f : Str) : TS := fun D σ H => ta σ H fun x H1 => ∃ (a dx : Addr) (fs : List (Str × V)) (v : V), x = .ref a ∧ H1 a = some (.ins C dx fs) ∧ fs.lookup f = some v ∧
  tv σ H1 fun y H2 => rd v y H2 fun z H3 => ∃ (dx' : Addr) (fs' : List (Str × V)), H3 a = some (.ins C dx' fs') ∧ fs'.length < 1000 ∧ D.nx σ (upd H3 a (.ins C dx' (putF f z fs')))
def tItemsT (te : TE) : TE := fun σ H Q => te σ H fun x H1 => ∃ (d : Addr) (kvs : List (Key × V)), x = .ref d ∧ H1 d = some (.dK kvs) ∧ kvs.length ≤ 1000 ∧
  ∀ (H' : Hp) (p : Addr) (ts : List Addr), (∀ b o, H1 b = some o → H' b = some o) → H1 p = none → (∀ t ∈ ts, H1 t = none) → p ∉ ts → H' p = some (.tup (ts.map V.ref)) → Paired (fun (t : Addr) (q : Key × V) => H' t = some (.tup [kV q.1, q.2])) ts kvs → Q (.ref p) H'
def clsV (fa : FA) : Nat ⊕ String → V
  | .inl k => .ref (fa.ec k)
  | .inr t => .ty t
def ecs (fa : FA) (ks : List Nat) : List Addr := ks.map fa.ec
def spE (fa : FA) (k : Nat) : Bool → Sp
  | true => fun vs H Q _ => ∃ (a : Addr) (i : Int), vs = [.ref a, .int i] ∧ atOk i = true ∧ H a = some (exo a (fa.ec k) none) ∧ ∀ dx, H dx = none → dx ≠ a → Q .non (upd (upd H dx (exd dx [(fa.ea k, .int i)])) a (exo a (fa.ec k) (some dx)))
  | false => fun vs H Q _ => ∃ (a : Addr) (v : V), vs = [.ref a, v] ∧ H a = some (exo a (fa.ec k) none) ∧ ∀ dx, H dx = none → dx ≠ a → Q .non (upd (upd H dx (exd dx [(fa.ea k, v)])) a (exo a (fa.ec k) (some dx)))
def tXfK (fa : FA) (ks : List Nat) (te : TE) : TE := fun σ H Q => te σ H fun x H1 => ∃ (a dd : Addr) (k : Nat) (v : V), x = .ref a ∧ k ∈ ks ∧ H1 a = some (ExD (.ref (fa.ec k)) (some dd) a) ∧ H1 dd = some (.xd [(fa.ea k, v)]) ∧ Q v H1
def wOne (K : PySem.W.Frag) (Wout : WX) (cv : Value) (i : Nat) (ts : Addr → Value → Option Addr → TS) (D : Ends) : WX := fun cls d σ H => ∃ b, PySem.W.exmOne K cls cv = some b ∧
  (b = true → ∀ a, H a = none → ts a cls d { nx := fun σ' H' => D.nx (σ'.set i none) H', rt := D.rt, bk := fun σ' H' => D.bk (σ'.set i none) H', ct := fun σ' H' => D.ct (σ'.set i none) H' } (σ.set i (some (.ref a))) H) ∧ (b = false → Wout cls d σ H)
def tIsS (fa : FA) (ys ns : List Nat) (q : Nat ⊕ String) (i : Nat) : Addr → Value → Option Addr → TS := fun a cls d => tRet (tCB (rIsS (ecs fa ys) (ecs fa ns) (clsV fa q) a cls d) (tCons (tVar i) (tCons (tC (clsV fa q)) tNil)))
def tgLen : Tg → Nat
  | .tcons _ r => tgLen r + 1
  | _ => 0
def tTg : Tg → TG
  | .name i => gName i
  | .tup ts => fun v σ H Q => ∃ a xs, v = .ref a ∧ (SqT K H a xs ∨ SqL K H a xs) ∧ xs.length = tgLen ts ∧ go ts xs σ H Q
  | .tnil => fun _ _ _ _ => False
  | .tcons _ _ => fun _ _ _ _ => False
where go : Tg → TGs
  | .tnil => gNil
  | .tcons a r => gCons (tTg a) (go r)
  | _ => fun _ _ _ _ => False
mutual
def tE : E → TE
  | .var i => tVar i
  | .cst d => tC (vOf d)
  | .fnv f => tC (.ref (fa f))
  | .bin o a b => tOp (rB K o) (tE a) (tE b)
  | .neg a => tUn (rU fun i => .int (-i)) (tE a)
  | .cmp o a b => tOp (rC K o) (tE a) (tE b)
  | .chain o o' a b c => tChain (rC K o) (rC K o') (tE a) (tE b) (tE c)
  | .isN a => tIsN (tE a)
  | .notN a => tNotN (tE a)
  | .and a b => tAndV (tE a) (tE b)
  | .or a b => tOrV (tE a) (tE b)
  | .not a => tNotV (tE a)
  | .ite c a b => tIf (tT c) (tE a) (tE b)
  | .call f as => tCall (sp f) [] E0 (tEs as)
  | .callv i as => fun σ H Q => ∃ f, tb f ∧ tCallL i (fa f) (sp f) [] E0 (tEs as) σ H Q
  | .bi b as => tCB (rBi K b) (tEs as)
  | .isi1 a t => tCB (rIsi K) (tCons (tE a) (tCons (tC (.ty t)) tNil))
  | .isi2 a t u => tCB (rIsiT K) (tCons (tE a) (tCons (tTup (tCons (tC (.ty t)) (tCons (tC (.ty u)) tNil))) tNil))
  | .mt0 m a => tM0 (rMe m) (tE a)
  | .mt1 m a b => tM1 (rMe m) (tE a) (tE b)
  | .ix a i => tOp (rIx K) (tE a) (tE i)
  | .sl a lo hi => tSl (rSl K) (tE a) (tO lo) (tO hi)
  | .tup as => tTup (tEs as)
  | .lst as => tLst (tEs as)
  | .comp vs tg it cond elt => tLc (tI it) (tTg K tg) (tTo cond) (tE elt) vs
  | .dget a k => tDGet (tE a) (tE k)
  | .get1 a k => tDGet1 (tE a) (tE k)
  | .get2 a k z => tDGet2 (tE a) (tE k) (tE z)
  | .din k a => tDIn (tE k) (tE a)
  | .dcomp vs tg it cond kx vx => tDc (tI it) (tTg K tg) (tTo cond) (tE kx) (tE vx) vs
  | .compV vs tg a cond elt => tLc (fun σ H R => iList K (tE a) σ H R ∨ iTup K (tE a) σ H R ∨ iStr (tE a) σ H R) (tTg K tg) (tTo cond) (tE elt) vs
  | .compA vs tg a cond elt => tLockE (tLc (iKeys (tE a)) (tTg K tg) (tTo cond) (tE elt) vs)
  | .compK vs tg i cond elt => tLockE (tLc (iKeys (tVar i)) (tTg K tg) (tTo cond) (tE elt) vs)
  | .dnin k a => tDNotIn (tE k) (tE a)
  | .nD => tDNewK
  | .nT => tDNewT
  | .nL as => tLst (tEs as)
  | .nW ps => tDisp (tWP ps)
  | .fld cl a f => tFldC (fa.cl cl) (tE a) f
  | .wget a k => tDGet (tE a) (tE k)
  | .mkO cl f as => tMake (fa.cl cl) (sp f) [] E0 (tEs as)
  | .mth cl f m a as => tMeth (fa.cl cl) m (sp f) [] E0 (tE a) (tEs as)
  | .callA f as => tCall (sp f) [] E0 (tEs as)
  | .itemsT a => tItemsT (tE a)
  | .fz a => tE a
  | .mkE0 k => tMkV fun _ H Q => Q (.ref (fa.ec k)) none H
  | .mkE k num a => tMkV (tErM (fa.ec k) (spE fa k num) (tCons (tE a) tNil))
  | .efld ks a => tXfK fa ks (tE a)
  | .isE ys ns q a => tCB (rIsX (ecs fa ys) (ecs fa ns) (clsV fa q)) (tCons (tE a) (tCons (tC (clsV fa q)) tNil))
  | .sortR i => PvLm.tSortR K fa.tabs i
  | .sin neg k a => tOp (rSInK fa.P fa.w neg) (tE k) (tE a)
def tT : T → TT
  | .val e => tB (tE e)
  | .and a b => tAnd (tT a) (tT b)
  | .or a b => tOr (tT a) (tT b)
  | .not a => tNot (tT a)
  | .ite k a b => fun σ H Q => tT k σ H fun x H1 => if x = true then tT a σ H1 Q else tT b σ H1 Q
def tTo : To → TT
  | .none => tYes
  | .some t => tT t
def tEs : Es → TA
  | .nil => tNil
  | .cons e es => tCons (tE e) (tEs es)
def tWP : Es → List (TE × TE)
  | .nil => []
  | .cons k r => match r with
    | .cons e r => (tE k, tE e) :: tWP r
    | .nil => []
def tO : Eo → TO
  | .none => tNoPart
  | .some e => tPart (tE e)
def tI : It → TI
  | .seq e => fun σ H R => iList K (tE e) σ H R ∨ iTup K (tE e) σ H R ∨ iStr (tE e) σ H R
  | .fzq e => fun σ H R => iList K (tE e) σ H R ∨ iTup K (tE e) σ H R ∨ iStr (tE e) σ H R
  | .r1 a => iRng1 (tCons (tE a) tNil)
  | .r2 a b => iRng2 (tCons (tE a) (tCons (tE b) tNil))
  | .zip a b => PvR.iZipX K (tCons (tE a) (tCons (tE b) tNil))
end
def tX (W : WX) : XE → TE
  | .call f as => tCallS (sp f) (WE W) (tEs K fa sp tb as)
  | .ite c a b => tIf (tT K fa sp tb c) (tX W a) (tX W b)
  | .pure e => tE K fa sp tb e
  | .mth cl f m a as => fun σ H Q => tE K fa sp tb a σ H fun x H1 => ∃ (p dx : Addr) (fs : List (Str × V)), x = .ref p ∧ H1 p = some (.ins (fa.cl cl) dx fs) ∧ fs.lookup m = none ∧ tEs K fa sp tb as σ H1 fun vs H2 => sp f (x :: vs) H2 Q (WE W σ)
  | .callA f as => tCallS (sp f) (WE W) (tEs K fa sp tb as)
def tTB (W : WX) : TB → TS
  | .ret x => tRet (tX K fa sp tb W x)
  | .ifs t x r => tSeq (tIfS (tT K fa sp tb t) (tRet (tX K fa sp tb W x)) tNext) (tTB W r)
def tPs : Es → List (TE × TE)
  | .cons k (.cons e r) => (tE K fa sp tb k, tE K fa sp tb e) :: tPs r
  | _ => []
def rAug : Bool → TIp
  | false => ipI fun i j => i + j
  | true => ipI fun i j => i - j
def tRais (C : Addr) (W : WX) (te : TE) : TS := fun _ σ H => tErM C (spI C) (tCons te tNil) σ H fun cls d H' => W cls d σ H'
def tAt (C : Addr) (i : Nat) (a : Addr) (cls : Value) (d : Option Addr) : TE := fun σ H Q => tVar i σ H fun x H1 => x = .ref a ∧ cls = .ref C ∧ ∃ (dd : Addr) (v : V), d = some dd ∧ H1 dd = some (.xd [(("at" : Str), v)]) ∧ Q v H1
def tSuite (C : Addr) (i : Nat) (word : Str) : Addr → Value → Option Addr → TS := fun a cls d => tRet (tTup (tCons (tC (.str word)) (tCons (tAt C i a cls d) tNil)))
def spIK (C : Addr) (f : Str) : Sp := fun vs H Q _ => ∃ (a : Addr) (v : V), vs = [.ref a, v] ∧ H a = some (exo a C none) ∧ ∀ dx, H dx = none → dx ≠ a → Q .non (upd (upd H dx (exd dx [(f, v)])) a (exo a C (some dx)))
def tRaisK (C : Addr) (f : Str) (W : WX) (te : TE) : TS := fun _ σ H => tErM C (spIK C f) (tCons te tNil) σ H fun cls d H' => W cls d σ H'
def ecA (C : Addr) (k : Nat) : Addr := if k = 0 then C else fa.ec k
def eaA (k : Nat) : Str := if k = 0 then "at" else fa.ea k
def tAtK (C : Addr) (f : Str) (i : Nat) (a : Addr) (cls : Value) (d : Option Addr) : TE := fun σ H Q => tVar i σ H fun x H1 => x = .ref a ∧ cls = .ref C ∧ ∃ (dd : Addr) (v : V), d = some dd ∧ H1 dd = some (.xd [(f, v)]) ∧ Q v H1
def tHd (C : Addr) : Hd → Addr → Value → Option Addr → TS
  | .told k i w => fun a cls d => tRet (tTup (tCons (tC (.str w)) (tCons (tAtK (ecA fa C k) (eaA fa k) i a cls d) tNil)))
  | .cmp k i w1 w2 j q => fun a cls d => tRet (tIf (tB (tOp rEq (tAtK (ecA fa C k) (eaA fa k) i a cls d) (tOp (rIx K) (tVar j) (tC (.int q))))) (tC (.str w1)) (tC (.str w2)))
  | .word _ w => fun _ _ _ => tRet (tC (.str w))
def tHdS (h : Hd) (D : Ends) (ts : TS) (a : Addr) : L2.St → Hp → Prop := match h with
  | .word _ _ => ts D
  | .told _ i _ | .cmp _ i _ _ _ _ => fun σ H => ts { nx := fun σ' H' => D.nx (σ'.set i none) H', rt := D.rt, bk := fun σ' H' => D.bk (σ'.set i none) H', ct := fun σ' H' => D.ct (σ'.set i none) H' } (σ.set i (some (.ref a))) H
def wMy (C : Addr) (W : WX) (D : Ends) : List Hd → WX
  | [] => W
  | h :: hs => fun cls d σ H => ∃ b, PySem.W.exmOne K cls (.ref (ecA fa C h.k)) = some b ∧ (b = true → ∀ a, H a = none → tHdS h D (tHd K fa C h a cls d) a σ H) ∧ (b = false → wMy C W D hs cls d σ H)
def tTN (W : WX) (t : T) (k0 k1 : Nat) (e : E) : TS := tSeq (tIfS (tT K fa sp tb t) (tSeq (fun _ σ H => W (.ref (fa.ec k0)) none σ H) tNext) tNext) (tSeq (tRaisK (fa.ec k1) (fa.ea k1) W (tE K fa sp tb e)) tNext)
def wTry (C : Addr) (i : Nat) (word : Str) (D : Ends) : WX := wAs K (.ref C) i (tSuite C i word) (fun _ _ _ _ => False) D
variable (C : Addr) (W : WX)
mutual
def tS : S → TS
  | .asg tg e => tAsg (tE K fa sp tb e) (tTg K tg)
  | .par i j a b => tPar i j (tCons (tE K fa sp tb a) (tCons (tE K fa sp tb b) tNil))
  | .newD i => tAsg tDNewK (gName i)
  | .newT i => tAsg tDNewT (gName i)
  | .popL i e => tDrop (tBM K "list" rPopAt (tVar i) (tCons (tE K fa sp tb e) tNil))
  | .par2T i j => tPar i j (tCons tDNewT (tCons tDNewT tNil))
  | .augL i k e => tAugS (tVar i) (tE K fa sp tb k) (tE K fa sp tb e) (rIxL K) (ipI fun i j => i + j) rSetL
  | .newS i => tAsg (tCB (rSet0K fa.P fa.w) tNil) (gName i)
  | .addS i e => tDrop (tSAddK fa.P fa.w (tVar i) (tCons (tE K fa sp tb e) tNil))
  | .whl k body => tWhile (tT K fa sp tb k) (tSs body)
  | .aug i sb e => tAug i (tE K fa sp tb e) (rAug sb)
  | .newL i as => tAsg (tLst (tEs K fa sp tb as)) (gName i)
  | .newC i vs tg it cond elt => tAsg (tE K fa sp tb (.comp vs tg it cond elt)) (gName i)
  | .app i e => tDrop (tBM K "list" rAppend (tVar i) (tCons (tE K fa sp tb e) tNil))
  | .setL i k e => tAsg (tE K fa sp tb e) (gSub (tVar i) (tE K fa sp tb k) rSetL)
  | .setD i k e => sDPut (tVar i) (tE K fa sp tb k) (tE K fa sp tb e)
  | .newDK i ps => tAsg (tDisp (tPs K fa sp tb ps)) (gName i)
  | .rais e => tRais C W (tE K fa sp tb e)
  | .dropX x => tDrop (tX K fa sp tb W x)
  | .retX x => tRet (tX K fa sp tb W x)
  | .asgX i x => tAsg (tX K fa sp tb W x) (gName i)
  | .tryR x i word => fun D σ H => tRet (tX K fa sp tb (wTry K C i word D) x) D σ H
  | .drop e => tDrop (tE K fa sp tb e)
  | .ret e => tRet (tE K fa sp tb e)
  | .retN => tRetN
  | .ifs c a b => tIfS (tT K fa sp tb c) (tSs a) (tSs b)
  | .forS tg it body => tFor (tI K fa sp tb it) (tTg K tg) (tSs body)
  | .brk => tBreak
  | .cnt => tCont
  | .pass => tNext
  | .never => tNever
  | .setF cl a f e => sFldC (fa.cl cl) (tE K fa sp tb a) (tE K fa sp tb e) f
  | .augF cl a f sb e => sFldAugC (fa.cl cl) (tE K fa sp tb a) (tE K fa sp tb e) (if sb = true then rSub else rAdd) f
  | .setA a k e => sDPut (tE K fa sp tb a) (tE K fa sp tb k) (tE K fa sp tb e)
  | .setAL a k e => tAsg (tE K fa sp tb e) (gSub (tE K fa sp tb a) (tE K fa sp tb k) rSetL)
  | .augAL a k sb e => tAugS (tE K fa sp tb a) (tE K fa sp tb k) (tE K fa sp tb e) (rIxL K) (rAug sb) rSetL
  | .appA a e => tDrop (tBM K "list" rAppend (tE K fa sp tb a) (tCons (tE K fa sp tb e) tNil))
  | .delA a k => sDDel (tE K fa sp tb a) (tE K fa sp tb k)
  | .popA a k => tDrop (tDPop1 (tE K fa sp tb a) (tE K fa sp tb k))
  | .popN a k => tDrop (tDPop2 (tE K fa sp tb a) (tE K fa sp tb k) (tE K fa sp tb (.cst .non)))
  | .setW a k e => sDPut (tE K fa sp tb a) (tE K fa sp tb k) (tE K fa sp tb e)
  | .retM e => tRet (tE K fa sp tb e)
  | .raisK k e => tRaisK (fa.ec k) (fa.ea k) W (tE K fa sp tb e)
  | .rais0 k => fun _ σ H => W (.ref (fa.ec k)) none σ H
  | .tryN t k0 k1 e i cb q ys ns => fun D σ H => PySem.W.exmOne K (.ref (fa.ec k0)) (.ref (fa.ec cb)) = some true → PySem.W.exmOne K (.ref (fa.ec k1)) (.ref (fa.ec cb)) = some true → tTN K fa sp tb (wOne K W (.ref (fa.ec cb)) i (tIsS fa ys ns q i) D) t k0 k1 e D σ H
  | .tryM _ b hs => fun D σ H => tTB K fa sp tb (wMy K fa C W D hs) b D σ H
def tSs : Ss → TS
  | .nil => tNext
  | .cons s ss => tSeq (tS s) (tSs ss)
end
end

section
variable (K : PySem.W.Frag) (fa : FA)
def Sh (G H : Hp) (v : V) : D → Prop
  | .tup ds => ∃ a vs, v = .ref a ∧ SqT K H a vs ∧ RepDs K fa G vs ds ∧ RepD K fa G v (.tup ds)
  | .lst ds => ∃ a vs, v = .ref a ∧ H a = some (.lst vs) ∧ RepDs K fa G vs ds
  | .dK ks ds => ∃ a kvs, v = .ref a ∧ Rd H a (.dK kvs) ∧ kvs.map (·.1) = ks ∧ RepDs K fa G (kvs.map (·.2)) ds
  | .dT ks ds => ∃ a kvs, v = .ref a ∧ Rd H a (.dT kvs) ∧ kvs.map (·.1) = ks ∧ RepDs K fa G (kvs.map (·.2)) ds
  | .scr ns => ∃ a, v = .ref a ∧ SqL K H a (ns.map V.int)
  | .non => v = .non
  | .bl b => v = .bl b
  | .int i => v = .int i
  | .str x => v = .str x
  | .fn n => v = .ref (fa n)
  | .exc k ds => ∃ a vs, v = .ref a ∧ ExG fa H a k vs ∧ RepDs K fa G vs ds
end
section
variable {K : PySem.W.Frag} {fa : FA} {g g' : Gh} {H H' : Hp} {S : Store} {σ : L2.St} {ρ : En}
theorem Rel.exG (r : Rel K fa g H S) {a : Addr} {k : Nat} {vs : List V} (h : ExG fa g.G a k vs) : ExG fa H a k vs := by
  have up : ∀ b u, g.G b = some u → isDic u = false → H b = some u := fun b u e z => by
    rcases r.ext b u e with h | ⟨h, _⟩
    · exact h
    · rw [z] at h; cases h
  rcases h with ⟨h1, h2⟩ | ⟨dd, u, h1, h2, h3⟩
  · exact .inl ⟨h1, up _ _ h2 rfl⟩
  · exact .inr ⟨dd, u, h1, up _ _ h2 rfl, up _ _ h3 rfl⟩
theorem Rel.sh (r : Rel K fa g H S) {v : V} : ∀ {d : D}, RepD K fa g.G v d → Sh K fa g.G H v d
  | .non, h | .bl _, h | .int _, h | .str _, h | .fn _, h => by simpa only [RepD, Sh] using h
  | .tup ds, h => by
    have h0 := h
    simp only [RepD] at h
    obtain ⟨a, vs, e, q, h2⟩ := h
    exact ⟨a, vs, e, r.sqT q, h2, h0⟩
  | .lst ds, h => by
    simp only [RepD] at h
    obtain ⟨a, vs, e, q, h2⟩ := h
    exact ⟨a, vs, e, r.lst q, h2⟩
  | .dK ks ds, h => by
    simp only [RepD] at h
    obtain ⟨a, vs, e, q, e2, h2⟩ := h
    exact ⟨a, vs, e, r.rd q, e2, h2⟩
  | .dT ks ds, h => by
    simp only [RepD] at h
    obtain ⟨a, vs, e, q, e2, h2⟩ := h
    exact ⟨a, vs, e, r.rd q, e2, h2⟩
  | .scr ns, h => by
    simp only [RepD] at h
    obtain ⟨a, e, q⟩ := h
    exact ⟨a, e, r.scr q⟩
  | .exc k ds, h => by
    simp only [RepD] at h
    obtain ⟨a, vs, e, q, h2⟩ := h
    exact ⟨a, vs, e, r.exG q, h2⟩
theorem Rel.shW (r : Rel K fa g H S) {v : V} {w : W} {d : D} (h : RepW K fa g v w) (e : rdW w S = some d) : Sh K fa g.G H v d := by
  cases w with
  | d x =>
    have e' : x = d := Option.some.inj e
    subst e'
    exact r.sh h
  | mu n =>
    obtain ⟨rfl, hn⟩ := h
    simp only [rdW] at e
    split at e
    · rename_i ds hs
      cases e
      obtain ⟨u, h1, ⟨vs, rfl, h2⟩, h3⟩ := r.live n _ hs (fun z => nomatch z)
      exact ⟨_, vs, rfl, h1, h2⟩
    · rename_i ks ds hs
      cases e
      obtain ⟨u, h1, ⟨vs, rfl, e2, h2⟩, h3⟩ := r.live n _ hs (fun z => nomatch z)
      exact ⟨_, vs, rfl, .inl h1, e2, h2⟩
    · rename_i ks ds hs
      cases e
      obtain ⟨u, h1, ⟨vs, rfl, e2, h2⟩, h3⟩ := r.live n _ hs (fun z => nomatch z)
      exact ⟨_, vs, rfl, .inl h1, e2, h2⟩
    · cases e
theorem Rel.fz (r : Rel K fa g H S) {v : V} {w : W} {d : D} {S' : Store} (h : RepW K fa g v w) (e : fzW w S = some (d, S')) : ∃ g', g.le g' ∧ Rel K fa g' H S' ∧ RepD K fa g'.G v d := by
  cases w with
  | d x =>
    have e' := Option.some.inj e
    cases e'
    exact ⟨g, .refl g, r, h⟩
  | mu n =>
    obtain ⟨rfl, hn⟩ := h
    simp only [fzW] at e
    split at e
    · rename_i ds hs
      cases e
      obtain ⟨u, h1, ⟨vs, rfl, h2⟩, h3⟩ := r.freeze hs (fun z => nomatch z)
      have l := Gh.le_add (g := g) (p := g.φ n) (o := HO.lst vs) h1
      refine ⟨_, l, h3, ?_⟩
      simp only [RepD]
      exact ⟨_, vs, rfl, upd_same, RepDs.mono l.G h2⟩
    · rename_i ks ds hs
      cases e
      obtain ⟨u, h1, ⟨vs, rfl, e2, h2⟩, h3⟩ := r.freeze hs (fun z => nomatch z)
      have l := Gh.le_add (g := g) (p := g.φ n) (o := HO.dK vs) h1
      refine ⟨_, l, h3, ?_⟩
      simp only [RepD]
      exact ⟨_, vs, rfl, upd_same, e2, RepDs.mono l.G h2⟩
    · rename_i ks ds hs
      cases e
      obtain ⟨u, h1, ⟨vs, rfl, e2, h2⟩, h3⟩ := r.freeze hs (fun z => nomatch z)
      have l := Gh.le_add (g := g) (p := g.φ n) (o := HO.dT vs) h1
      refine ⟨_, l, h3, ?_⟩
      simp only [RepD]
      exact ⟨_, vs, rfl, upd_same, e2, RepDs.mono l.G h2⟩
    · cases e

abbrev PD (K : PySem.W.Frag) (fa : FA) (g : Gh) (S : Store) (Q : VK) (d : D) : Prop := ∀ g' H' v, g.le g' → Rel K fa g' H' S → RepD K fa g'.G v d → Q v H'
theorem PD.at (r : Rel K fa g H S) {Q : VK} {d : D} {v : V} (h : PD K fa g S Q d) (q : RepD K fa g.G v d) : Q v H := h g H v (.refl g) r q
theorem PD.int (r : Rel K fa g H S) {Q : VK} {i : Int} (h : PD K fa g S Q (.int i)) : Q (.int i) H := h.at r (by simp only [RepD])
theorem PD.bl (r : Rel K fa g H S) {Q : VK} {i : Bool} (h : PD K fa g S Q (.bl i)) : Q (.bl i) H := h.at r (by simp only [RepD])
theorem PD.str (r : Rel K fa g H S) {Q : VK} {i : Str} (h : PD K fa g S Q (.str i)) : Q (.str i) H := h.at r (by simp only [RepD])
theorem PD.tup (r : Rel K fa g H S) {Q : VK} {ds : List D} {vs : List V} (h : PD K fa g S Q (.tup ds)) (q : RepDs K fa g.G vs ds) (p : Addr) (hp : H p = none) : Q (.ref p) (upd H p (.tup vs)) := by
  have l := Gh.le_add (g := g) (p := p) (o := HO.tup vs) (r.fresh hp)
  refine h _ _ _ l (r.add hp) ?_
  simp only [RepD]
  exact ⟨p, vs, rfl, .inl upd_same, RepDs.mono l.G q⟩
theorem PD.lst (r : Rel K fa g H S) {Q : VK} {ds : List D} {vs : List V} (h : PD K fa g S Q (.lst ds)) (q : RepDs K fa g.G vs ds) (p : Addr) (hp : H p = none) : Q (.ref p) (upd H p (.lst vs)) := by
  have l := Gh.le_add (g := g) (p := p) (o := HO.lst vs) (r.fresh hp)
  refine h _ _ _ l (r.add hp) ?_
  simp only [RepD]
  exact ⟨p, vs, rfl, upd_same, RepDs.mono l.G q⟩

theorem rep_ok {G : Hp} {vs : List V} {ds : List D} (h : RepDs K fa G vs ds) : ∀ n : Nat, RepDs K fa G (List.replicate n vs).flatten (List.replicate n ds).flatten
  | 0 => by simpa using RepDs.nil
  | n + 1 => by
    rw [List.replicate_succ, List.replicate_succ, List.flatten_cons, List.flatten_cons]
    exact h.append (rep_ok h n)
theorem bRun_ok (r : Rel K fa g H S) {o : BOp} {x y : V} {a b z : D} {Q : VK} (hx : Sh K fa g.G H x a) (hy : Sh K fa g.G H y b) (e : bRun o a b = some z) (h : PD K fa g S Q z) : rB K o x y H Q := by
  unfold bRun at e
  split at e
  · cases e
    exact .inl ⟨_, _, hx, hy, h.int r⟩
  · split at e
    · cases e
      exact .inr (.inl ⟨_, _, hx, hy, ‹_›, h.str r⟩)
    · cases e
  · split at e
    · rename_i xs ys hl
      cases e
      obtain ⟨p, vs, rfl, h1, h2, h3⟩ := hx
      obtain ⟨q, us, rfl, k1, k2, k3⟩ := hy
      refine .inr (.inr (.inl ⟨p, q, vs, us, rfl, rfl, h1, k1, by rw [h2.length, k2.length]; exact hl, fun e => ?_, fun _ e => ?_, fun _ _ => h.tup r (h2.append k2)⟩))
      · subst e
        have : xs = [] := List.eq_nil_of_length_eq_zero (by rw [← h2.length]; rfl)
        subst this
        exact h.at r k3
      · subst e
        have : ys = [] := List.eq_nil_of_length_eq_zero (by rw [← k2.length]; rfl)
        subst this
        rw [List.append_nil] at h
        exact h.at r h3
    · cases e
  · split at e
    · cases e
      obtain ⟨p, vs, rfl, h1, h2⟩ := hx
      obtain ⟨q, us, rfl, k1, k2⟩ := hy
      exact .inr (.inr (.inr ⟨p, q, vs, us, rfl, rfl, h1, k1, by rw [h2.length, k2.length]; assumption, h.lst r (h2.append k2)⟩))
    · cases e
  · cases e
    exact ⟨_, _, hx, hy, h.int r⟩
  · split at e
    · cases e
      exact .inl ⟨_, _, hx, hy, ‹_›, h.int r⟩
    · cases e
  · split at e
    · rename_i xs k hz
      cases e
      obtain ⟨p, vs, rfl, h1, h2, h3⟩ := hx
      have hl := h2.length
      refine .inr (.inl ⟨p, k, vs, rfl, hy, h1, ?_, hz.2.1, hz.2.2.1, by rw [hl]; exact hz.2.2.2, fun q hq => h.tup r (rep_ok h2 k.toNat) q hq⟩)
      rintro rfl
      cases xs with
      | nil => simp at hz
      | cons _ _ => simp at hl
    · cases e
  · split at e
    · rename_i hz
      cases e
      exact .inr (.inr ⟨_, _, hx, hy, hz.1, hz.2.1, hz.2.2.1, hz.2.2.2, h.str r⟩)
    · cases e
  · split at e
    · cases e
      exact ⟨_, _, hx, hy, ‹_›, h.int r⟩
    · cases e
  · split at e
    · cases e
      exact ⟨_, _, hx, hy, ‹_›, h.int r⟩
    · cases e
  · split at e
    · cases e
      exact ⟨_, _, hx, hy, ‹_›, h.int r⟩
    · cases e
  · cases e
end
end Pv

set_option Elab.async false
set_option linter.all false
set_option maxRecDepth 100000
set_option maxHeartbeats 4000000
namespace Pv
open PySem L2

section
variable {K : PySem.W.Frag} {fa : FA} {g g' : Gh} {H H' : Hp} {S : Store} {σ : L2.St} {ρ : En}
mutual
theorem dpD (r : Rel K fa g H S) : ∀ {d : D} {v : V}, (toPy d).canLay0 = true → RepD K fa g.G v d → Dp K H v (toPy d)
  | .non, _, _, h => by simp only [RepD] at h; subst h; exact .non
  | .bl b, _, _, h => by simp only [RepD] at h; subst h; exact .bl b
  | .int b, _, _, h => by simp only [RepD] at h; subst h; exact .int b
  | .str b, _, _, h => by simp only [RepD] at h; subst h; exact .str b
  | .tup ds, _, c, h => by
    simp only [RepD] at h
    obtain ⟨a, vs, rfl, q, h2⟩ := h
    simp only [toPy, PyData.canLay0] at c ⊢
    exact .tup (r.sqT q) (dpDs r c h2)
  | .lst ds, _, c, h => by
    simp only [RepD] at h
    obtain ⟨a, vs, rfl, q, h2⟩ := h
    simp only [toPy, PyData.canLay0] at c ⊢
    exact .lst (.of (r.lst q)) (dpDs r c h2)
  | .dK _ _, _, c, _ | .dT _ _, _, c, _ | .fn _, _, c, _ | .scr _, _, c, _ | .exc _ _, _, c, _ => by simp [toPy, PyData.canLay0] at c
theorem dpDs (r : Rel K fa g H S) : ∀ {ds : List D} {vs : List V}, PyData.canLayAll0 (toPyL ds) = true → RepDs K fa g.G vs ds → DpAll K H vs (toPyL ds)
  | [], _, _, h => by simp only [RepDs] at h; subst h; exact .nil
  | d :: ds, _, c, h => by
    simp only [RepDs] at h
    obtain ⟨v, t, rfl, h1, h2⟩ := h
    simp only [toPyL, PyData.canLayAll0, Bool.and_eq_true] at c ⊢
    exact .cons (dpD r c.1 h1) (dpDs r c.2 h2)
end
theorem shDp (r : Rel K fa g H S) {v : V} : ∀ {d : D}, (toPy d).canLay0 = true → Sh K fa g.G H v d → Dp K H v (toPy d)
  | .non, _, h => by obtain rfl : v = _ := h; exact .non
  | .bl b, _, h => by obtain rfl : v = _ := h; exact .bl b
  | .int b, _, h => by obtain rfl : v = _ := h; exact .int b
  | .str b, _, h => by obtain rfl : v = _ := h; exact .str b
  | .tup ds, c, h => by
    obtain ⟨a, vs, rfl, q, h2, _⟩ := h
    simp only [toPy, PyData.canLay0] at c ⊢
    exact .tup q (dpDs r c h2)
  | .lst ds, c, h => by
    obtain ⟨a, vs, rfl, q, h2⟩ := h
    simp only [toPy, PyData.canLay0] at c ⊢
    exact .lst (.of q) (dpDs r c h2)
  | .dK _ _, c, _ | .dT _ _, c, _ | .fn _, c, _ | .scr _, c, _ | .exc _ _, c, _ => by simp [toPy, PyData.canLay0] at c
theorem canLay_of {p : PyData} (h : SeqAt.shaped p = true) : p.canLay0 = true := SeqAt.canLay_of_shaped h

theorem scal_ok {x y : V} : ∀ {a b : D}, Sh K fa g.G H x a → Sh K fa g.G H y b → scalD a b = true → scal x y = true ∧ decide (x = y) = eqS a b := by
  intro a b hx hy h
  unfold scalD at h
  split at h <;> first
    | (cases h; done)
    | (simp only [Sh] at hx hy; subst hx; subst hy; exact ⟨rfl, by simp [eqS]⟩)
theorem cEq_ok (r : Rel K fa g H S) {x y : V} {a b : D} {z : Bool} {Q : VK} (hx : Sh K fa g.G H x a) (hy : Sh K fa g.G H y b) (e : cEq a b = some z) (h : Q (.bl z) H) : rC K .eq x y H Q := by
  unfold cEq at e
  split at e
  · rename_i hs
    cases e
    obtain ⟨h1, h2⟩ := scal_ok hx hy hs
    exact .inl ⟨h1, by rw [h2]; exact h⟩
  · split at e
    · rename_i hs
      cases e
      rw [Bool.and_eq_true] at hs
      exact .inr ⟨_, _, shDp r (canLay_of hs.1) hx, shDp r (canLay_of hs.2) hy, hs.1, hs.2, h⟩
    · cases e
theorem cNe_ok (r : Rel K fa g H S) {x y : V} {a b : D} {z : Bool} {Q : VK} (hx : Sh K fa g.G H x a) (hy : Sh K fa g.G H y b) (e : cEq a b = some z) (h : Q (.bl (!z)) H) : rC K .ne x y H Q := by
  unfold cEq at e
  split at e
  · rename_i hs
    cases e
    obtain ⟨h1, h2⟩ := scal_ok hx hy hs
    exact .inl ⟨h1, by rw [h2]; exact h⟩
  · split at e
    · rename_i hs
      cases e
      rw [Bool.and_eq_true] at hs
      exact .inr ⟨_, _, shDp r (canLay_of hs.1) hx, shDp r (canLay_of hs.2) hy, hs.1, hs.2, h⟩
    · cases e
theorem flat_v {G : Hp} {v : V} : ∀ {d : D}, flatD d = true → RepD K fa G v d → v = vOf d ∧ flatV v = true
  | .non, _, h | .bl _, _, h | .int _, _, h | .str _, _, h => by simp only [RepD] at h; subst h; exact ⟨rfl, rfl⟩
  | .tup _, c, _ | .lst _, c, _ | .dK _ _, c, _ | .dT _ _, c, _ | .fn _, c, _ | .scr _, c, _ | .exc _ _, c, _ => by simp [flatD] at c
theorem flat_sh {G : Hp} {v : V} : ∀ {d : D}, flatD d = true → Sh K fa G H v d → v = vOf d ∧ flatV v = true
  | .non, _, h | .bl _, _, h | .int _, _, h | .str _, _, h => by obtain rfl : v = _ := h; exact ⟨rfl, rfl⟩
  | .tup _, c, _ | .lst _, c, _ | .dK _ _, c, _ | .dT _ _, c, _ | .fn _, c, _ | .scr _, c, _ | .exc _ _, c, _ => by simp [flatD] at c
theorem flat_vs {G : Hp} : ∀ {ds : List D} {vs : List V}, ds.all flatD = true → RepDs K fa G vs ds → vs = ds.map vOf ∧ vs.all flatV = true
  | [], _, _, h => by simp only [RepDs] at h; subst h; exact ⟨rfl, rfl⟩
  | d :: ds, _, c, h => by
    simp only [RepDs] at h
    obtain ⟨v, t, rfl, h1, h2⟩ := h
    rw [List.all_cons, Bool.and_eq_true] at c
    obtain ⟨e1, f1⟩ := flat_v c.1 h1
    obtain ⟨e2, f2⟩ := flat_vs c.2 h2
    exact ⟨by rw [List.map_cons, ← e1, ← e2], by rw [List.all_cons, f1, f2]; rfl⟩
theorem inD1_ok : ∀ {x y : D}, flatD x = true → flatD y = true → eqV (vOf y) (vOf x) = inD1 x y := by
  intro x y hx hy
  cases x <;> cases y <;> first
    | (simp [flatD] at hx; done)
    | (simp [flatD] at hy; done)
    | rfl
theorem inDs_ok {x : D} (hx : flatD x = true) : ∀ {ys : List D}, ys.all flatD = true → inV (vOf x) (ys.map vOf) = inDs x ys
  | [], _ => rfl
  | y :: ys, c => by
    rw [List.all_cons, Bool.and_eq_true] at c
    have ih := inDs_ok hx c.2
    unfold inV inDs at ih ⊢
    rw [List.map_cons, List.any_cons, List.any_cons, ih, inD1_ok hx c.1]
theorem cIn_ok (r : Rel K fa g H S) {x y : V} {a b : D} {z : Bool} (hx : Sh K fa g.G H x a) (hy : Sh K fa g.G H y b) (e : cIn a b = some z) :
    (∃ p xs, y = .ref p ∧ (SqL K H p xs ∨ SqT K H p xs) ∧ flatV x = true ∧ xs.all flatV = true ∧ inV x xs = z) ∨ ∃ i j, x = .str i ∧ y = .str j ∧ (!(Builtin.Str.occurrences j i 0 j.length 1).isEmpty) = z := by
  unfold cIn at e
  split at e
  · split at e
    · rename_i hs
      cases e
      rw [Bool.and_eq_true] at hs
      obtain ⟨p, vs, rfl, h1, h2⟩ := hy
      obtain ⟨rfl, f1⟩ := flat_sh hs.1 hx
      obtain ⟨rfl, f2⟩ := flat_vs hs.2 h2
      exact .inl ⟨p, _, rfl, .inl (.of h1), f1, f2, inDs_ok hs.1 hs.2⟩
    · cases e
  · split at e
    · rename_i hs
      cases e
      rw [Bool.and_eq_true] at hs
      obtain ⟨p, vs, rfl, h1, h2, _⟩ := hy
      obtain ⟨rfl, f1⟩ := flat_sh hs.1 hx
      obtain ⟨rfl, f2⟩ := flat_vs hs.2 h2
      exact .inl ⟨p, _, rfl, .inr h1, f1, f2, inDs_ok hs.1 hs.2⟩
    · cases e
  · split at e
    · cases e
      exact .inr ⟨_, _, hx, hy, rfl⟩
    · cases e
  · cases e
theorem cLt_ok {x y : V} {a b : D} {z : Bool} (hx : Sh K fa g.G H x a) (hy : Sh K fa g.G H y b) (e : cLt a b = some z) :
    (∃ i j, x = .int i ∧ y = .int j ∧ decide (i < j) = z) ∨ ∃ i j, x = .str i ∧ y = .str j ∧ decide (i.cps.toList < j.cps.toList) = z := by
  unfold cLt at e
  split at e
  · cases e; exact .inl ⟨_, _, hx, hy, rfl⟩
  · cases e; exact .inr ⟨_, _, hx, hy, rfl⟩
  · cases e
theorem cLe_ok {x y : V} {a b : D} {z : Bool} (hx : Sh K fa g.G H x a) (hy : Sh K fa g.G H y b) (e : cLe a b = some z) :
    (∃ i j, x = .int i ∧ y = .int j ∧ decide (i ≤ j) = z) ∨ ∃ i j, x = .str i ∧ y = .str j ∧ (!decide (j.cps.toList < i.cps.toList)) = z := by
  unfold cLe at e
  split at e
  · cases e; exact .inl ⟨_, _, hx, hy, rfl⟩
  · cases e; exact .inr ⟨_, _, hx, hy, rfl⟩
  · cases e
theorem cRun_ok (r : Rel K fa g H S) {o : COp} {x y : V} {a b : D} {z : Bool} {Q : VK} (hx : Sh K fa g.G H x a) (hy : Sh K fa g.G H y b) (e : cRun o a b = some z) (h : Q (.bl z) H) : rC K o x y H Q := by
  cases o with
  | eq => exact cEq_ok r hx hy e h
  | ne =>
    obtain ⟨z', e', rfl⟩ := Option.map_eq_some_iff.mp e
    exact cNe_ok r hx hy e' h
  | lt =>
    simp only [cRun] at e
    cases e0 : cLt a b with
    | some z' =>
      rw [e0] at e
      simp only [Option.some_or, Option.some.injEq] at e
      subst e
      rcases cLt_ok hx hy e0 with ⟨i, j, rfl, rfl, rfl⟩ | ⟨i, j, rfl, rfl, rfl⟩
      · exact .inl (.inl ⟨i, j, rfl, rfl, h⟩)
      · exact .inl (.inr ⟨i, j, rfl, rfl, h⟩)
    | none =>
      rw [e0] at e
      simp only [Option.none_or] at e
      unfold ltT at e
      split at e
      · split at e
        · rename_i hc
          cases e
          exact .inr ⟨_, _, shDp r hc.1.1 hx, shDp r hc.1.2 hy, hc.2.1, by simp [toPy], hc.2.2, h⟩
        · cases e
      · cases e
  | le =>
    rcases cLe_ok hx hy e with ⟨i, j, rfl, rfl, rfl⟩ | ⟨i, j, rfl, rfl, rfl⟩
    · exact .inl ⟨i, j, rfl, rfl, h⟩
    · exact .inr ⟨i, j, rfl, rfl, h⟩
  | gt =>
    rcases cLt_ok hy hx e with ⟨i, j, rfl, rfl, rfl⟩ | ⟨i, j, rfl, rfl, rfl⟩
    · exact .inl ⟨_, _, rfl, rfl, h⟩
    · exact .inr ⟨_, _, rfl, rfl, h⟩
  | ge =>
    simp only [cRun] at e
    cases e0 : cLe b a with
    | some z' =>
      rw [e0] at e
      simp only [Option.some_or, Option.some.injEq] at e
      subst e
      rcases cLe_ok hy hx e0 with ⟨i, j, rfl, rfl, rfl⟩ | ⟨i, j, rfl, rfl, rfl⟩
      · exact .inl (.inl ⟨_, _, rfl, rfl, h⟩)
      · exact .inl (.inr ⟨_, _, rfl, rfl, h⟩)
    | none =>
      rw [e0] at e
      simp only [Option.none_or] at e
      unfold geT at e
      split at e
      · cases e
        obtain ⟨p1, vs1, rfl, h1, q1, _⟩ := hx
        obtain ⟨p2, vs2, rfl, h2, q2, _⟩ := hy
        obtain ⟨_, _, rfl, e1, _, _, rfl, e2, rfl⟩ := q1
        obtain ⟨_, _, rfl, e3, _, _, rfl, e4, rfl⟩ := q2
        cases e1; cases e2; cases e3; cases e4
        exact .inr ⟨_, _, _, _, _, _, rfl, rfl, h1, h2, h⟩
      · cases e
  | inn =>
    rcases cIn_ok r hx hy e with ⟨p, xs, h1, h2, h3, h4, rfl⟩ | ⟨i, j, rfl, rfl, rfl⟩
    · exact .inl ⟨p, xs, h1, h2, h3, h4, h⟩
    · exact .inr ⟨i, j, rfl, rfl, h⟩
  | nin =>
    obtain ⟨z', e', rfl⟩ := Option.map_eq_some_iff.mp e
    rcases cIn_ok r hx hy e' with ⟨p, xs, h1, h2, h3, h4, rfl⟩ | ⟨i, j, rfl, rfl, rfl⟩
    · exact .inl ⟨p, xs, h1, h2, h3, h4, h⟩
    · exact .inr ⟨i, j, rfl, rfl, h⟩

theorem blsOf_ok : ∀ {ds : List D} {bs : List Bool}, blsOf ds = some bs → ds = bs.map D.bl
  | [], bs, h => by cases h; rfl
  | d :: ds, bs, h => by
    unfold blsOf at h
    split at h
    · cases h
      rename_i e; cases e
    · obtain ⟨bs', e', rfl⟩ := Option.map_eq_some_iff.mp h
      rename_i e; cases e
      rw [blsOf_ok e']; rfl
    · cases h
theorem intsOf_ok : ∀ {ds : List D} {bs : List Int}, intsOf ds = some bs → ds = bs.map D.int
  | [], bs, h => by cases h; rfl
  | d :: ds, bs, h => by
    unfold intsOf at h
    split at h
    · cases h
      rename_i e; cases e
    · obtain ⟨bs', e', rfl⟩ := Option.map_eq_some_iff.mp h
      rename_i e; cases e
      rw [intsOf_ok e']; rfl
    · cases h
theorem intsK_ok : ∀ {ks : List Key} {bs : List Int}, intsK ks = some bs → ks = bs.map Sum.inl
  | [], bs, h => by cases h; rfl
  | d :: ds, bs, h => by
    unfold intsK at h
    split at h
    · cases h
      rename_i e; cases e
    · obtain ⟨bs', e', rfl⟩ := Option.map_eq_some_iff.mp h
      rename_i e; cases e
      rw [intsK_ok e']; rfl
    · cases h
theorem insI_perm (x : Int) : ∀ ys : List Int, (insI x ys).Perm (x :: ys)
  | [] => .refl _
  | y :: ys => by
    unfold insI
    split
    · exact .refl _
    · exact ((insI_perm x ys).cons y).trans (.swap x y ys)
theorem sortI_perm : ∀ xs : List Int, (sortI xs).Perm xs
  | [] => .refl _
  | x :: xs => (insI_perm x (sortI xs)).trans ((sortI_perm xs).cons x)
theorem insI_up (x : Int) : ∀ {ys : List Int}, ys.Pairwise (· ≤ ·) → (insI x ys).Pairwise (· ≤ ·)
  | [], _ => by simp [insI]
  | y :: ys, h => by
    unfold insI
    rw [List.pairwise_cons] at h
    split
    · rename_i hxy
      rw [List.pairwise_cons, List.pairwise_cons]
      refine ⟨fun a ha => ?_, h⟩
      rcases List.mem_cons.mp ha with rfl | ha
      · exact hxy
      · exact Int.le_trans hxy (h.1 a ha)
    · rename_i hxy
      rw [List.pairwise_cons]
      refine ⟨fun a ha => ?_, insI_up x h.2⟩
      have := (insI_perm x ys).mem_iff.mp ha
      rcases List.mem_cons.mp this with rfl | ha
      · omega
      · exact h.1 a ha
theorem sortI_up : ∀ xs : List Int, (sortI xs).Pairwise (· ≤ ·)
  | [] => .nil
  | x :: xs => insI_up x (sortI_up xs)
theorem sortI_only {xs ys : List Int} (p : ys.Perm xs) (h : ys.Pairwise (· ≤ ·)) : ys = sortI xs :=
  List.Perm.eq_of_pairwise (fun a b _ _ h1 h2 => Int.le_antisymm h1 h2) h (sortI_up xs) (p.trans (sortI_perm xs).symm)

inductive Shs (K : PySem.W.Frag) (fa : FA) (G H : Hp) : List V → List D → Prop
  | nil : Shs K fa G H [] []
  | cons {v : V} {vs : List V} {d : D} {ds : List D} : Sh K fa G H v d → Shs K fa G H vs ds → Shs K fa G H (v :: vs) (d :: ds)
theorem minI_ok : ∀ {ns : List Int} {m : Int}, minI ns = some m → m ∈ ns ∧ ∀ y, y ∈ ns → m ≤ y
  | [], _, h => by simp [minI] at h
  | x :: xs, m, h => by
    unfold minI at h
    split at h
    · rename_i hn
      cases h
      have : xs = [] := by
        cases xs with
        | nil => rfl
        | cons a t =>
          unfold minI at hn
          split at hn <;> cases hn
      subst this
      exact ⟨List.mem_cons_self, fun y hy => by simp at hy; omega⟩
    · rename_i m' hm
      obtain ⟨h1, h2⟩ := minI_ok hm
      cases h
      split
      · exact ⟨List.mem_cons_of_mem _ h1, fun y hy => by
          rcases List.mem_cons.mp hy with rfl | hy
          · omega
          · exact h2 y hy⟩
      · exact ⟨List.mem_cons_self, fun y hy => by
          rcases List.mem_cons.mp hy with rfl | hy
          · omega
          · have := h2 y hy; omega⟩
theorem maxI_ok : ∀ {ns : List Int} {m : Int}, maxI ns = some m → m ∈ ns ∧ ∀ y, y ∈ ns → y ≤ m
  | [], _, h => by simp [maxI] at h
  | x :: xs, m, h => by
    unfold maxI at h
    split at h
    · rename_i hn
      cases h
      have : xs = [] := by
        cases xs with
        | nil => rfl
        | cons a t =>
          unfold maxI at hn
          split at hn <;> cases hn
      subst this
      exact ⟨List.mem_cons_self, fun y hy => by simp at hy; omega⟩
    · rename_i m' hm
      obtain ⟨h1, h2⟩ := maxI_ok hm
      cases h
      split
      · exact ⟨List.mem_cons_of_mem _ h1, fun y hy => by
          rcases List.mem_cons.mp hy with rfl | hy
          · omega
          · exact h2 y hy⟩
      · exact ⟨List.mem_cons_self, fun y hy => by
          rcases List.mem_cons.mp hy with rfl | hy
          · omega
          · have := h2 y hy; omega⟩
theorem strsK_ok : ∀ {ks : List Key} {bs : List Str}, strsK ks = some bs → ks = bs.map Sum.inr
  | [], bs, h => by cases h; rfl
  | d :: ds, bs, h => by
    unfold strsK at h
    split at h
    · cases h
      rename_i e; cases e
    · obtain ⟨bs', e', rfl⟩ := Option.map_eq_some_iff.mp h
      rename_i e; cases e
      rw [strsK_ok e']; rfl
    · cases h
theorem rep_strs {G : Hp} : ∀ {xs : List Str}, RepDs K fa G (xs.map V.str) (xs.map D.str)
  | [] => RepDs.nil
  | x :: xs => RepDs.cons (by simp only [RepD]) rep_strs
theorem rep_keys {G : Hp} : ∀ {k : List Key}, RepDs K fa G (k.map kV) (k.map keyD)
  | [] => RepDs.nil
  | .inl i :: k => RepDs.cons (by simp only [RepD, keyD, kV]) rep_keys
  | .inr i :: k => RepDs.cons (by simp only [RepD, keyD, kV]) rep_keys
theorem rep_tups {G : Hp} : ∀ {bs : List (List Key × Addr)}, (∀ b ∈ bs, G b.2 = some (.tup (b.1.map kV))) → RepDs K fa G (bs.map fun b => V.ref b.2) ((bs.map (·.1)).map fun k => D.tup (k.map keyD))
  | [], _ => RepDs.nil
  | b :: bs, h => by
    refine RepDs.cons ?_ (rep_tups fun x hx => h x (List.mem_cons_of_mem _ hx))
    simp only [RepD]
    exact ⟨b.2, _, rfl, .inl (h b List.mem_cons_self), rep_keys⟩
theorem Rel.adopt_all (r : Rel K fa g H S) : ∀ {bs : List (List Key × Addr)}, (∀ b ∈ bs, H b.2 = some (.tup (b.1.map kV))) → ∃ g', g.le g' ∧ Rel K fa g' H S ∧ ∀ b ∈ bs, g'.G b.2 = some (.tup (b.1.map kV))
  | [], _ => ⟨g, .refl g, r, by simp⟩
  | b :: bs, h => by
    obtain ⟨g1, l1, r1, h1⟩ := r.adopt_all fun x hx => h x (List.mem_cons_of_mem _ hx)
    obtain ⟨g2, l2, r2, h2⟩ := r1.adopt (h b List.mem_cons_self)
    refine ⟨g2, l1.trans l2, r2, fun x hx => ?_⟩
    rcases List.mem_cons.mp hx with rfl | hx
    · exact h2
    · exact l2.G _ _ (h1 x hx)
theorem tupC_ok {d : D} (h : tupC d = true) : (toPy d).canLay0 = true ∧ (toPy d).depth ≤ 60 ∧ ∃ x r, toPy d = .tuple (x :: r) := by
  unfold tupC at h
  split at h
  · simp only [Bool.and_eq_true, decide_eq_true_eq] at h
    rename_i d ds
    exact ⟨h.1, h.2, toPy d, toPyL ds, by simp only [toPy, toPyL]⟩
  · cases h
theorem repds_zip {G : Hp} : ∀ {ds : List D} {vs : List V}, RepDs K fa G vs ds → ∀ x ∈ vs.zip ds, RepD K fa G x.1 x.2
  | [], vs, h, x, hx => by simp at hx
  | d :: ds, vs, h, x, hx => by
    simp only [RepDs] at h
    obtain ⟨v, t, rfl, h1, h2⟩ := h
    rw [List.zip_cons_cons] at hx
    rcases List.mem_cons.mp hx with rfl | hx
    · exact h1
    · exact repds_zip h2 x hx
theorem repds_pairs {G : Hp} : ∀ {l : List (V × D)}, (∀ x ∈ l, RepD K fa G x.1 x.2) → RepDs K fa G (l.map (·.1)) (l.map (·.2))
  | [], _ => RepDs.nil
  | x :: l, h => RepDs.cons (h x List.mem_cons_self) (repds_pairs fun y hy => h y (List.mem_cons_of_mem _ hy))
theorem biRun_ok (r : Rel K fa g H S) {b : Bi} {vs : List V} {ds : List D} {z : D} {Q : VK} (hv : Shs K fa g.G H vs ds) (e : biRun b ds = some z) (h : PD K fa g S Q z) : rBi K b vs H Q := by
  unfold biRun at e
  split at e
  · cases e
    cases hv with | cons h1 t => cases t with | nil =>
    obtain ⟨p, us, rfl, q, h2, _⟩ := h1
    exact .inl ⟨p, us, rfl, .inr q, by rw [h2.length]; exact h.int r⟩
  · cases e
    cases hv with | cons h1 t => cases t with | nil =>
    obtain ⟨p, us, rfl, q, h2⟩ := h1
    exact .inl ⟨p, us, rfl, .inl (.of q), by rw [h2.length]; exact h.int r⟩
  · split at e
    · cases e
      cases hv with | cons h1 t => cases t with | nil =>
      obtain rfl : _ = _ := h1
      exact .inr ⟨_, rfl, ‹_›, h.int r⟩
    · cases e
  · cases e
    cases hv with | cons h1 t => cases t with | nil =>
    obtain rfl : _ = _ := h1
    exact .inl ⟨_, rfl, h.int r⟩
  · obtain ⟨bs, e', rfl⟩ := Option.map_eq_some_iff.mp e
    cases hv with | cons h1 t => cases t with | nil =>
    obtain ⟨p, us, rfl, q, h2⟩ := h1
    rw [blsOf_ok e'] at h2
    rw [h2.bls] at q
    exact ⟨p, bs, rfl, .of q, h.bl r⟩
  · obtain ⟨bs, e', rfl⟩ := Option.map_eq_some_iff.mp e
    cases hv with | cons h1 t => cases t with | nil =>
    obtain ⟨p, us, rfl, q, h2⟩ := h1
    rw [blsOf_ok e'] at h2
    rw [h2.bls] at q
    exact ⟨p, bs, rfl, .of q, h.bl r⟩
  · obtain ⟨bs, e', rfl⟩ := Option.map_eq_some_iff.mp e
    cases hv with | cons h1 t => cases t with | nil =>
    obtain ⟨p, us, rfl, q, h2⟩ := h1
    rw [intsOf_ok e'] at h2
    rw [h2.ints] at q
    exact .inl ⟨p, bs, rfl, .of q, h.int r⟩
  · obtain ⟨bs, e', rfl⟩ := Option.map_eq_some_iff.mp e
    cases hv with | cons h1 t => cases t with | nil =>
    obtain ⟨p, us, rfl, q, h2, _⟩ := h1
    rw [intsOf_ok e'] at h2
    rw [h2.ints] at q
    exact .inr ⟨p, bs, rfl, q, h.int r⟩
  · cases e
    cases hv with | cons h1 t => cases t with | cons h2 t => cases t with | nil =>
    obtain rfl : _ = _ := h1
    obtain rfl : _ = _ := h2
    exact ⟨_, _, rfl, h.int r⟩
  · cases e
    cases hv with | cons h1 t => cases t with | cons h2 t => cases t with | nil =>
    obtain rfl : _ = _ := h1
    obtain rfl : _ = _ := h2
    exact ⟨_, _, rfl, h.int r⟩
  · split at e
    · cases e
      cases hv with | cons h1 t => cases t with | nil =>
      obtain rfl : _ = _ := h1
      exact ⟨_, rfl, ‹_›, h.str r⟩
    · cases e
  · cases e
    cases hv with | cons h1 t => cases t with | nil =>
    obtain ⟨p, us, rfl, q, h2⟩ := h1
    exact ⟨p, us, rfl, .inl ⟨.of q, h.tup r h2⟩⟩
  · cases e
    cases hv with | cons h1 t => cases t with | nil =>
    obtain ⟨p, us, rfl, q, h2, h3⟩ := h1
    exact ⟨p, us, rfl, .inr ⟨q, h.at r h3⟩⟩
  · cases e
    cases hv with | cons h1 t => cases t with | nil =>
    obtain ⟨p, us, rfl, q, h2⟩ := h1
    exact ⟨p, us, rfl, .inl (.of q), h.lst r h2⟩
  · cases e
    cases hv with | cons h1 t => cases t with | nil =>
    obtain ⟨p, us, rfl, q, h2, h3⟩ := h1
    exact ⟨p, us, rfl, .inr q, h.lst r h2⟩
  · obtain ⟨bs, e', e⟩ := Option.bind_eq_some_iff.mp e
    obtain ⟨m, e2, rfl⟩ := Option.map_eq_some_iff.mp e
    cases hv with | cons h1 t => cases t with | nil =>
    obtain ⟨p, us, rfl, q, h2⟩ := h1
    rw [intsOf_ok e'] at h2
    rw [h2.ints] at q
    obtain ⟨m1, m2⟩ := minI_ok e2
    refine ⟨p, bs, rfl, .of q, List.length_pos_of_mem m1, fun m' h3 h4 => ?_⟩
    have := h4 m m1
    have := m2 m' h3
    obtain rfl : m' = m := by omega
    exact h.int r
  · obtain ⟨bs, e', e⟩ := Option.bind_eq_some_iff.mp e
    obtain ⟨m, e2, rfl⟩ := Option.map_eq_some_iff.mp e
    cases hv with | cons h1 t => cases t with | nil =>
    obtain ⟨p, us, rfl, q, h2⟩ := h1
    rw [intsOf_ok e'] at h2
    rw [h2.ints] at q
    obtain ⟨m1, m2⟩ := maxI_ok e2
    refine ⟨p, bs, rfl, .of q, List.length_pos_of_mem m1, fun m' h3 h4 => ?_⟩
    have := h4 m m1
    have := m2 m' h3
    obtain rfl : m' = m := by omega
    exact h.int r
  · rename_i ds0
    cases hv with | cons h1 t => cases t with | nil =>
    obtain ⟨p, us, rfl, q, h2⟩ := h1
    cases e0 : intsOf ds0 with
    | some bs =>
      rw [e0] at e
      simp only [Option.map_some, Option.some_or, Option.some.injEq] at e
      subst e
      rw [intsOf_ok e0] at h2
      rw [h2.ints] at q
      refine .inl (.inl ⟨p, bs, rfl, .of q, fun ns' p' pm up hp => ?_⟩)
      rw [sortI_only pm up]
      exact h.lst r RepDs.of_ints p' hp
    | none =>
      rw [e0] at e
      simp only [Option.map_none, Option.none_or] at e
      split at e
      case isFalse => cases e
      rename_i ht
      cases e
      simp only [tupsB, Bool.and_eq_true, List.all_eq_true, decide_eq_true_eq] at ht
      obtain ⟨hlen, hc, hal⟩ := ht
      have hul := h2.length
      have hz := repds_zip h2
      have eu : ((us.zip ds0).map fun x => (x.1, toPy x.2)).map (·.1) = us := by
        rw [List.map_map]
        exact List.map_fst_zip (by omega)
      have ed : (us.zip ds0).map (·.2) = ds0 := List.map_snd_zip (by omega)
      have hmem : ∀ x ∈ us.zip ds0, x.2 ∈ ds0 := fun x hx => by rw [← ed]; exact List.mem_map_of_mem hx
      refine .inr (.inr (.inr ⟨p, (us.zip ds0).map fun x => (x.1, toPy x.2), rfl, by rw [eu]; exact .of q, fun b hb => ?_, fun d hd d' hd' => ?_, fun b hb => ?_, fun b hb => ?_, by rw [List.length_map, List.length_zip]; omega, fun p' hp => ?_⟩))
      · obtain ⟨x, hx, rfl⟩ := List.mem_map.mp hb
        exact dpD r (tupC_ok (hc _ (hmem x hx))).1 (hz x hx)
      · rw [List.map_map] at hd hd'
        obtain ⟨x, hx, rfl⟩ := List.mem_map.mp hd
        obtain ⟨x', hx', rfl⟩ := List.mem_map.mp hd'
        exact hal _ (hmem x hx) _ (hmem x' hx')
      · obtain ⟨x, hx, rfl⟩ := List.mem_map.mp hb
        exact (tupC_ok (hc _ (hmem x hx))).2.2
      · obtain ⟨x, hx, rfl⟩ := List.mem_map.mp hb
        exact (tupC_ok (hc _ (hmem x hx))).2.1
      · have e1 : ((us.zip ds0).map fun x => (x.1, toPy x.2)).mergeSort (PySem.W.dataLe false (·.2)) = ((us.zip ds0).mergeSort (PySem.W.dataLe false fun x => toPy x.2)).map fun x => (x.1, toPy x.2) :=
          (PySem.W.sort_maps (f := fun x : V × D => (x.1, toPy x.2)) (r := PySem.W.dataLe false fun x => toPy x.2) (s := PySem.W.dataLe false (·.2)) fun a _ b _ => rfl).symm
        have e2 : ds0.mergeSort (PySem.W.dataLe false toPy) = ((us.zip ds0).mergeSort (PySem.W.dataLe false fun x => toPy x.2)).map (·.2) := by
          conv => lhs; rw [← ed]
          exact (PySem.W.sort_maps (f := fun x : V × D => x.2) (r := PySem.W.dataLe false fun x => toPy x.2) (s := PySem.W.dataLe false toPy) fun a _ b _ => rfl).symm
        rw [e2] at h
        rw [e1, List.map_map]
        exact h.lst r (repds_pairs fun x hx => hz x (List.mem_mergeSort.mp hx)) p' hp
  · rename_i ks ds0
    cases hv with | cons h1 t => cases t with | nil =>
    obtain ⟨p, kvs, rfl, q, hk, h2⟩ := h1
    cases e0 : intsK ks with
    | some bs =>
      rw [e0] at e
      simp only [Option.map_some, Option.some_or, Option.some.injEq] at e
      subst e
      rw [intsK_ok e0] at hk
      refine .inl (.inr ⟨p, kvs, bs, rfl, q, hk, fun ns' p' pm up hp => ?_⟩)
      rw [sortI_only pm up]
      exact h.lst r RepDs.of_ints p' hp
    | none =>
      rw [e0] at e
      simp only [Option.map_none, Option.none_or] at e
      obtain ⟨bs, e', rfl⟩ := Option.map_eq_some_iff.mp e
      rw [strsK_ok e'] at hk
      exact .inr (.inl ⟨p, kvs, bs, rfl, q, hk, fun p' hp => h.lst r rep_strs p' hp⟩)
  · rename_i ks ds0
    split at e
    case isFalse => cases e
    rename_i hk0
    cases e
    cases hv with | cons h1 t => cases t with | nil =>
    obtain ⟨p, kvs, rfl, q, rfl, h2⟩ := h1
    simp only [keysB, Bool.and_eq_true, List.all_eq_true] at hk0
    refine .inr (.inr (.inl ⟨p, kvs, rfl, q, ?_, ?_, fun p' bs hb1 hb2 hp => ?_⟩))
    · intro d hd d' hd'
      obtain ⟨k, hk, rfl⟩ := List.mem_map.mp hd
      obtain ⟨k', hk', rfl⟩ := List.mem_map.mp hd'
      exact hk0.1 k hk k' hk'
    · intro k hk e
      subst e
      have := hk0.2 _ hk
      simp at this
    · obtain ⟨g', l, r', hG⟩ := r.adopt_all hb2
      rw [← hb1] at h
      exact PD.lst r' (fun g'' H'' v l'' => h g'' H'' v (l.trans l'')) (rep_tups hG) p' hp
  · cases e
theorem meRun0_ok (r : Rel K fa g H S) {m : Me} {x : V} {a z : D} {Q : VK} (hx : Sh K fa g.G H x a) (e : meRun0 m a = some z) (h : PD K fa g S Q z) : (∃ a, x = .str a) ∧ rMe m x [] H Q := by
  unfold meRun0 at e
  split at e
  all_goals first
    | (cases e
       obtain rfl : _ = _ := hx
       exact ⟨⟨_, rfl⟩, _, rfl, rfl, trivial, h.bl r⟩)
    | cases e
theorem meRun1_ok (r : Rel K fa g H S) {m : Me} {x y : V} {a b z : D} {Q : VK} (hx : Sh K fa g.G H x a) (hy : Sh K fa g.G H y b) (e : meRun1 m a b = some z) (h : PD K fa g S Q z) : rMe m x [y] H Q := by
  unfold meRun1 at e
  split at e
  · cases e
    obtain rfl : _ = _ := hx
    obtain rfl : _ = _ := hy
    exact ⟨_, _, rfl, rfl, h.bl r⟩
  · cases e
theorem meRun1_str {m : Me} {x : V} {a b z : D} (hx : Sh K fa g.G H x a) (e : meRun1 m a b = some z) : ∃ s, x = .str s := by
  unfold meRun1 at e
  split at e
  · exact ⟨_, hx⟩
  · cases e
theorem ty_ok {x : V} : ∀ {a : D} {t : String}, Sh K fa g.G H x a → tyD a = some t → TyX K H x (.type t)
  | .non, _, h, e => by cases e; obtain rfl : x = _ := h; exact .base .non
  | .bl _, _, h, e => by cases e; obtain rfl : x = _ := h; exact .base (.bl _)
  | .int _, _, h, e => by cases e; obtain rfl : x = _ := h; exact .base (.int _)
  | .str _, _, h, e => by cases e; obtain rfl : x = _ := h; exact .base (.str _)
  | .tup _, _, h, e => by
    cases e
    obtain ⟨p, us, rfl, q, h2⟩ := h
    rcases q with (q | ⟨o, q⟩) | ⟨o, _, _, q, c, _⟩
    · exact .base (.tup q)
    · exact .fTuple q
    · exact .kTuple q c
  | .lst _, _, h, e => by
    cases e
    obtain ⟨p, us, rfl, q, h2⟩ := h
    exact .base (.lst q)
  | .dK _ _, _, h, e => by
    cases e
    obtain ⟨p, us, rfl, q, h2⟩ := h
    rcases q with q | ⟨o, q⟩
    · exact .base (.dK q)
    · exact .fDict q
  | .dT _ _, _, _, e | .fn _, _, _, e | .scr _, _, _, e | .exc _ _, _, _, e => by cases e
theorem isi1_ok {x : V} {a : D} {t : String} {z : Bool} {Q : VK} (hx : Sh K fa g.G H x a) (e : isi1 a t = some z) (h : Q (.bl z) H) : rIsi K [x, .ty t] H Q := by
  unfold isi1 at e
  obtain ⟨k, e1, e2⟩ := Option.bind_eq_some_iff.mp e
  exact ⟨x, .ty t, _, _, z, rfl, .ty t, ty_ok hx e1, kit_ty e2, h⟩
theorem isi2_ok {x : V} {a : D} {t u : String} {z : Bool} {Q : VK} {tp : Addr} (hx : Sh K fa g.G H x a) (hp : H tp = some (.tup [.ty t, .ty u])) (e : isi2 a t u = some z) (h : Q (.bl z) H) : rIsiT K [x, .ref tp] H Q := by
  unfold isi2 at e
  split at e
  · rename_i e0
    cases e
    unfold isi1 at e0
    obtain ⟨k, e1, e2⟩ := Option.bind_eq_some_iff.mp e0
    exact ⟨x, tp, _, _, [.type t, .type u], true, rfl, hp, .cons (.ty t) (.cons (.ty u) .nil), ty_ok hx e1, kitAny_cons (kit_ty e2) (fun z => nomatch z) fun _ => rfl, h⟩
  · rename_i e0
    unfold isi1 at e0 e
    obtain ⟨k, e1, e2⟩ := Option.bind_eq_some_iff.mp e0
    obtain ⟨k', e3, e4⟩ := Option.bind_eq_some_iff.mp e
    rw [e1] at e3; cases e3
    refine ⟨x, tp, _, _, [.type t, .type u], z, rfl, hp, .cons (.ty t) (.cons (.ty u) .nil), ty_ok hx e1, kitAny_cons (kit_ty e2) (fun _ => kitAny_cons (kit_ty e4) (fun hz => ?_) fun hz => hz) (fun z => nomatch z), h⟩
    rw [hz]; exact kitAny_nil
  · cases e
theorem RepDs.atI {G : Hp} {ds : List D} {vs : List V} {i : Int} {d : D} (h : RepDs K fa G vs ds) (e : L2.atI ds i = some d) : ∃ v, L2.atI vs i = some v ∧ RepD K fa G v d := by
  unfold L2.atI at e ⊢
  rw [h.length]
  obtain ⟨j, e1, e2⟩ := Option.bind_eq_some_iff.mp e
  obtain ⟨v, q1, q2⟩ := h.get e2
  exact ⟨v, by rw [e1]; exact q1, q2⟩
theorem ixRun_ok (r : Rel K fa g H S) {x y : V} {a b z : D} {Q : VK} (hx : Sh K fa g.G H x a) (hy : Sh K fa g.G H y b) (e : ixRun a b = some z) (h : PD K fa g S Q z) : rIx K x y H Q := by
  unfold ixRun at e
  split at e
  · obtain ⟨p, us, rfl, q, h2⟩ := hx
    obtain rfl : _ = _ := hy
    obtain ⟨v, e1, e2⟩ := h2.atI e
    exact .inl ⟨p, us, _, v, rfl, rfl, .of q, e1, h.at r e2⟩
  · obtain ⟨p, us, rfl, q, h2, _⟩ := hx
    obtain rfl : _ = _ := hy
    obtain ⟨v, e1, e2⟩ := h2.atI e
    exact .inr (.inl ⟨p, us, _, v, rfl, rfl, q, e1, h.at r e2⟩)
  · split at e
    · obtain rfl : _ = _ := hx
      obtain rfl : _ = _ := hy
      obtain ⟨c, e1, rfl⟩ := Option.map_eq_some_iff.mp e
      exact .inr (.inr ⟨_, _, c, rfl, rfl, ‹_›, e1, h.str r⟩)
    · cases e
  · cases e
theorem RepDs.cut {G : Hp} {ds : List D} {vs : List V} (h : RepDs K fa G vs ds) (lo hi : Option Int) : RepDs K fa G (cutV vs lo hi) (cutD ds lo hi) := by
  unfold cutV cutD
  rw [h.length]
  exact (h.drop _).take _
theorem slRun_ok (r : Rel K fa g H S) {x : V} {a z : D} {lo hi : Option Int} {Q : VK} (hx : Sh K fa g.G H x a) (e : slRun a lo hi = some z) (h : PD K fa g S Q z) : rSl K x lo hi H Q := by
  unfold slRun at e
  split at e
  · cases e
    obtain ⟨p, us, rfl, q, h2⟩ := hx
    exact .inl ⟨p, us, rfl, .of q, h.lst r (h2.cut lo hi)⟩
  · cases e
    obtain ⟨p, us, rfl, q, h2, h3⟩ := hx
    rename_i ds
    refine .inr (.inl ⟨p, us, rfl, q, fun w => ?_, fun _ => h.tup r (h2.cut lo hi)⟩)
    have e : cutD ds lo hi = ds := by
      unfold cutD
      rw [h2.length] at w
      rw [w.1, w.2]
      simp
    rw [e] at h
    exact h.at r h3
  · split at e
    · cases e
      obtain rfl : _ = _ := hx
      exact .inr (.inr ⟨_, rfl, ‹_›, h.str r⟩)
    · cases e
  · cases e
    obtain ⟨p, rfl, q⟩ := hx
    exact .inl ⟨p, _, rfl, q, h.lst r (RepDs.of_ints.cut lo hi)⟩
  · cases e
end
end Pv

set_option Elab.async false
set_option linter.all false
set_option maxRecDepth 100000
set_option maxHeartbeats 4000000
namespace Pv
open PySem L2

section
variable {K : PySem.W.Frag} {fa : FA} {g g' : Gh} {H H' : Hp} {S : Store} {σ : L2.St} {ρ : En} {ob : Bool}
theorem RepEn.set (h : RepEn K fa ob g σ ρ) {i : Nat} {v : V} {w : W} (hw : RepW K fa g v w) : RepEn K fa ob g (σ.set i (some v)) (ρ.set i (some w)) := by
  refine ⟨by simpa using h.1, fun j w' e => ?_, h.3⟩
  by_cases hj : j = i
  · subst hj
    by_cases hl : j < ρ.length
    · rw [List.getElem?_set_self hl] at e
      cases e
      exact ⟨v, by rw [List.getElem?_set_self (by rw [h.1]; exact hl)], hw⟩
    · rw [List.getElem?_eq_none (by simpa using hl)] at e; cases e
  · rw [List.getElem?_set_ne (Ne.symm hj)] at e
    obtain ⟨v', a, b⟩ := h.2 j w' e
    exact ⟨v', by rw [List.getElem?_set_ne (Ne.symm hj)]; exact a, b⟩
theorem RepEn.wipe (h : RepEn K fa ob g σ ρ) : ∀ vs : List Nat, RepEn K fa ob g (L2.wipe σ vs) (wipeE ρ vs)
  | [] => h
  | v :: vs => by
    have ih := h.wipe vs
    unfold L2.wipe wipeE
    refine ⟨by simpa using ih.1, fun j w' e => ?_, ih.3⟩
    by_cases hj : j = v
    · subst hj
      by_cases hl : j < (wipeE ρ vs).length
      · rw [List.getElem?_set_self hl] at e; cases e
      · rw [List.getElem?_eq_none (by simpa using hl)] at e; cases e
    · rw [List.getElem?_set_ne (Ne.symm hj)] at e
      rw [List.getElem?_set_ne (Ne.symm hj)]
      exact ih.2 j w' e
theorem wipe_get (σ : L2.St) (vs : List Nat) (j : Nat) : (L2.wipe σ vs)[j]? = if j ∈ vs then (if j < σ.length then some none else none) else σ[j]? := by
  induction vs with
  | nil => simp [L2.wipe]
  | cons v vs ih =>
    unfold L2.wipe
    by_cases hj : j = v
    · subst hj
      rw [if_pos List.mem_cons_self]
      by_cases hl : j < σ.length
      · rw [if_pos hl, List.getElem?_set_self (by rw [L2.wipe_length]; exact hl)]
      · rw [if_neg hl, List.getElem?_eq_none (by rw [List.length_set, L2.wipe_length]; omega)]
    · rw [List.getElem?_set_ne (Ne.symm hj), ih]
      by_cases hm : j ∈ vs
      · rw [if_pos hm, if_pos (List.mem_cons_of_mem _ hm)]
      · rw [if_neg hm, if_neg]
        intro z
        rcases List.mem_cons.mp z with z | z
        · exact hj z
        · exact hm z
theorem wipe_set {σ : L2.St} {vs : List Nat} {i : Nat} {x : Option V} (h : i ∈ vs) : L2.wipe (σ.set i x) vs = L2.wipe σ vs := by
  apply List.ext_getElem?
  intro j
  rw [wipe_get, wipe_get, List.length_set]
  by_cases hj : j ∈ vs
  · rw [if_pos hj, if_pos hj]
  · rw [if_neg hj, if_neg hj, List.getElem?_set_ne]
    rintro rfl
    exact hj h
theorem wipe_wipe {σ : L2.St} {vs : List Nat} : L2.wipe (L2.wipe σ vs) vs = L2.wipe σ vs := by
  apply List.ext_getElem?
  intro j
  rw [wipe_get, wipe_get, L2.wipe_length]
  by_cases hj : j ∈ vs
  · rw [if_pos hj, if_pos hj]
  · rw [if_neg hj, if_neg hj]
theorem asgns_len : ∀ {tg : Tg} {ds : List D} {ρ ρ' : En}, asgns tg ds ρ = some ρ' → ds.length = tgLen tg
  | .tnil, ds, _, _, e => by cases ds <;> simp [asgns, tgLen] at e ⊢
  | .tcons a r, ds, _, _, e => by
    cases ds with
    | nil => simp [asgns] at e
    | cons d ds =>
      simp only [asgns] at e
      obtain ⟨ρ1, e1, e2⟩ := Option.bind_eq_some_iff.mp e
      simp only [tgLen, List.length_cons, asgns_len e2]
  | .name _, ds, _, _, e => by cases ds <;> simp [asgns] at e
  | .tup _, ds, _, _, e => by cases ds <;> simp [asgns] at e
mutual
theorem tg_ok (r : Rel K fa g H S) : ∀ {tg : Tg} {d : D} {v : V} {σ : L2.St} {ρ ρ' : En} {Q : L2.St → Hp → Prop}, asgn tg d ρ = some ρ' → RepD K fa g.G v d → RepEn K fa ob g σ ρ →
    (∀ σ', RepEn K fa ob g σ' ρ' → (∀ vs, tgIn tg vs = true → L2.wipe σ' vs = L2.wipe σ vs) → Q σ' H) → tTg K tg v σ H Q
  | .name i, d, v, σ, ρ, ρ', Q, e, hv, hσ, k => by
    simp only [asgn] at e
    split at e
    · cases e
      exact k _ (hσ.set hv) fun vs h => wipe_set (by simpa [tgIn] using h)
    · cases e
  | .tup ts, d, v, σ, ρ, ρ', Q, e, hv, hσ, k => by
    cases d with
    | tup ds =>
      simp only [asgn] at e
      simp only [RepD] at hv
      obtain ⟨a, us, rfl, q, h2⟩ := hv
      exact ⟨a, us, rfl, .inl (r.sqT q), h2.length.trans (asgns_len e), tgs_ok r e h2 hσ fun σ' h1 h2 => k σ' h1 fun vs h => h2 vs (by simpa [tgIn] using h)⟩
    | lst ds =>
      simp only [asgn] at e
      simp only [RepD] at hv
      obtain ⟨a, us, rfl, q, h2⟩ := hv
      exact ⟨a, us, rfl, .inr (.of (r.lst q)), h2.length.trans (asgns_len e), tgs_ok r e h2 hσ fun σ' h1 h2 => k σ' h1 fun vs h => h2 vs (by simpa [tgIn] using h)⟩
    | _ => simp [asgn] at e
  | .tnil, d, _, _, _, _, _, e, _, _, _ => by cases d <;> simp [asgn] at e
  | .tcons _ _, d, _, _, _, _, _, e, _, _, _ => by cases d <;> simp [asgn] at e
theorem tgs_ok (r : Rel K fa g H S) : ∀ {tg : Tg} {ds : List D} {us : List V} {σ : L2.St} {ρ ρ' : En} {Q : L2.St → Hp → Prop}, asgns tg ds ρ = some ρ' → RepDs K fa g.G us ds → RepEn K fa ob g σ ρ →
    (∀ σ', RepEn K fa ob g σ' ρ' → (∀ vs, tgsIn tg vs = true → L2.wipe σ' vs = L2.wipe σ vs) → Q σ' H) → tTg.go K tg us σ H Q
  | .tnil, ds, us, σ, ρ, ρ', Q, e, hv, hσ, k => by
    cases ds with
    | nil =>
      simp only [asgns] at e
      cases e
      simp only [RepDs] at hv
      exact ⟨hv, k σ hσ fun _ _ => rfl⟩
    | cons _ _ => simp [asgns] at e
  | .tcons a t, ds, us, σ, ρ, ρ', Q, e, hv, hσ, k => by
    cases ds with
    | nil => simp [asgns] at e
    | cons d ds =>
      simp only [asgns] at e
      obtain ⟨ρ1, e1, e2⟩ := Option.bind_eq_some_iff.mp e
      simp only [RepDs] at hv
      obtain ⟨v, us', rfl, h1, h2⟩ := hv
      exact ⟨v, us', rfl, tg_ok r e1 h1 hσ fun σ1 q1 w1 => tgs_ok r e2 h2 q1 fun σ2 q2 w2 => k σ2 q2 fun vs h => by
        simp only [tgsIn, Bool.and_eq_true] at h
        exact (w2 vs h.2).trans (w1 vs h.1)⟩
  | .name _, ds, _, _, _, _, _, e, _, _, _ => by cases ds <;> simp [asgns] at e
  | .tup _, ds, _, _, _, _, _, e, _, _, _ => by cases ds <;> simp [asgns] at e
end

def Src (K : PySem.W.Frag) (fa : FA) (g : Gh) (J : L2.It) (ds : List D) : Prop :=
  ∀ (i : Nat) (g' : Gh) (H : Hp) (S : Store), GLe g.G g'.G → Rel K fa g' H S →
    (∀ d, ds[i]? = some d → J.go i H ∧ ∀ x H', J.yld i H x H' → ∃ g'', g'.le g'' ∧ Rel K fa g'' H' S ∧ RepD K fa g''.G x d) ∧ (i = ds.length → J.stop i H)
def SrcF (K : PySem.W.Frag) (fa : FA) (g : Gh) (J : L2.It) (ds : List D) : Prop :=
  ∀ (i : Nat) (g' : Gh) (H : Hp) (S : Store), GLe g.G g'.G → (∀ a u, g.F a = some u → g'.F a = some u) → Rel K fa g' H S →
    (∀ d, ds[i]? = some d → J.go i H ∧ ∀ x H', J.yld i H x H' → ∃ g'', g'.le g'' ∧ Rel K fa g'' H' S ∧ RepD K fa g''.G x d) ∧ (i = ds.length → J.stop i H)
theorem Src.F {J : L2.It} {ds : List D} (h : Src K fa g J ds) : SrcF K fa g J ds := fun i g' H S l _ r => h i g' H S l r
theorem rep_key {G : Hp} (k : Key) : RepD K fa G (kV k) (keyD k) := by cases k <;> simp [RepD, kV, keyD]
theorem src_keys {d : Addr} {o : Obj} {kvs : List (Key × V)} (hd : g.F d = some (.frz o (.dK kvs))) : SrcF K fa g (Itk d o kvs) ((kvs.map (·.1)).map keyD) := fun i g' H S l lF r => by
  have h := (r.frm d _ (lF d _ hd)).1
  refine ⟨fun x e => ?_, fun hi => ⟨h, by rw [hi]; simp⟩⟩
  rw [List.getElem?_map, List.getElem?_map] at e
  cases hk : kvs[i]? with
  | none => rw [hk] at e; cases e
  | some p =>
    rw [hk] at e
    cases e
    refine ⟨⟨h, (List.getElem?_eq_some_iff.mp hk).1⟩, fun x H' y => ?_⟩
    obtain ⟨rfl, k, v, hk2, rfl⟩ := y
    rw [hk] at hk2; cases hk2
    exact ⟨g', .refl g', r, rep_key k⟩
theorem src_list {a : Addr} {vs : List V} {ds : List D} (q : g.G a = some (.lst vs)) (h : RepDs K fa g.G vs ds) : Src K fa g (Itl K a) ds := fun i g' H S l r => by
  have hs : SqL K H a vs := .of (r.lst (l _ _ q))
  refine ⟨fun d e => ?_, fun hi => ⟨vs, hs, by rw [h.length]; omega⟩⟩
  obtain ⟨v, e1, e2⟩ := h.get e
  refine ⟨⟨vs, v, hs, e1⟩, fun x H' y => ?_⟩
  obtain ⟨rfl, y2⟩ := y
  have := y2 vs hs
  rw [e1] at this; cases this
  exact ⟨g', .refl g', r, RepD.mono l e2⟩
theorem src_listF {a : Addr} {vs : List V} {ds : List D} (hd : g.F a = some (.lst vs)) (h : RepDs K fa g.G vs ds) : SrcF K fa g (Itl K a) ds := fun i g' H S l lF r => by
  have hs : SqL K H a vs := .of (r.frm a _ (lF a _ hd)).1
  refine ⟨fun d e => ?_, fun hi => ⟨vs, hs, by rw [h.length]; omega⟩⟩
  obtain ⟨v, e1, e2⟩ := h.get e
  refine ⟨⟨vs, v, hs, e1⟩, fun x H' y => ?_⟩
  obtain ⟨rfl, y2⟩ := y
  have := y2 vs hs
  rw [e1] at this; cases this
  exact ⟨g', .refl g', r, RepD.mono l e2⟩
theorem src_tup {a : Addr} {vs : List V} {ds : List D} (q : g.G a = some (.tup vs) ∨ False) (h : RepDs K fa g.G vs ds) : Src K fa g (Itt K a) ds := fun i g' H S l r => by
  have hs : SqT K H a vs := r.sqT (q.imp (l _ _) id)
  refine ⟨fun d e => ?_, fun hi => ⟨vs, hs, by rw [h.length]; omega⟩⟩
  obtain ⟨v, e1, e2⟩ := h.get e
  refine ⟨⟨vs, v, hs, e1⟩, fun x H' y => ?_⟩
  obtain ⟨rfl, y2⟩ := y
  have := y2 vs hs
  rw [e1] at this; cases this
  exact ⟨g', .refl g', r, RepD.mono l e2⟩
theorem rangeD_get : ∀ {n : Nat} {lo : Int} {i : Nat} {d : D}, (rangeD lo n)[i]? = some d → i < n ∧ d = .int (lo + i)
  | 0, _, _, _, e => by simp [rangeD] at e
  | n + 1, lo, 0, d, e => by
    simp [rangeD] at e
    exact ⟨Nat.succ_pos _, by rw [← e]; simp⟩
  | n + 1, lo, i + 1, d, e => by
    obtain ⟨h1, h2⟩ := rangeD_get (n := n) (lo := lo + 1) (i := i) (d := d) (by simpa [rangeD] using e)
    exact ⟨by omega, by rw [h2]; congr 1; omega⟩
theorem rangeD_length : ∀ (n : Nat) (lo : Int), (rangeD lo n).length = n
  | 0, _ => rfl
  | n + 1, lo => by simp [rangeD, rangeD_length n]
theorem src_range (lo : Int) (n : Nat) : Src K fa g (Itr lo n) (rangeD lo n) := fun i g' H S l r => by
  refine ⟨fun d e => ?_, fun hi => by rw [rangeD_length] at hi; show _ ≤ _; omega⟩
  obtain ⟨h1, rfl⟩ := rangeD_get e
  refine ⟨h1, fun x H' y => ?_⟩
  obtain ⟨rfl, rfl⟩ := y
  exact ⟨g', .refl g', r, by simp only [RepD]⟩
theorem src_str (y : Str) : Src K fa g (Its y) (y.cps.toList.map fun c => D.str ⟨#[c]⟩) := fun i g' H S l r => by
  refine ⟨fun d e => ?_, fun hi => by show y.cps.size ≤ i; simp at hi; omega⟩
  rw [List.getElem?_map] at e
  obtain ⟨c, e1, rfl⟩ := Option.map_eq_some_iff.mp e
  have e2 : y.cps[i]? = some c := by simpa using e1
  refine ⟨(Array.getElem?_eq_some_iff.mp e2).1, fun x H' q => ?_⟩
  obtain ⟨rfl, c', e3, rfl⟩ := q
  rw [e2] at e3; cases e3
  exact ⟨g', .refl g', r, by simp only [RepD]⟩
theorem zipD_get : ∀ {as bs : List D} {i : Nat} {d : D}, (zipD as bs)[i]? = some d → ∃ a b, as[i]? = some a ∧ bs[i]? = some b ∧ d = .tup [a, b]
  | [], bs, i, d, e => by simp [zipD] at e
  | a :: as, [], i, d, e => by simp [zipD] at e
  | a :: as, b :: bs, 0, d, e => by
    simp [zipD] at e
    exact ⟨a, b, rfl, rfl, e.symm⟩
  | a :: as, b :: bs, i + 1, d, e => by
    obtain ⟨x, y, h1, h2, h3⟩ := zipD_get (as := as) (bs := bs) (i := i) (d := d) (by simpa [zipD] using e)
    exact ⟨x, y, by simpa using h1, by simpa using h2, h3⟩
theorem zipD_length : ∀ (as bs : List D), (zipD as bs).length = min as.length bs.length
  | [], bs => by simp [zipD]
  | a :: as, [] => by simp [zipD]
  | a :: as, b :: bs => by simp [zipD, zipD_length as bs]
def KnX (K : PySem.W.Frag) (k : Bool) (G : Hp) (a : Addr) (vs : List V) : Prop := cond k (G a = some (.tup vs) ∨ False) (G a = some (.lst vs))
theorem KnX.sq {k : Bool} {a : Addr} {vs : List V} (r : Rel K fa g H S) (h : KnX K k g.G a vs) : PvR.SqX k K H a vs := by
  cases k with
  | true => exact r.sqT h
  | false => exact .of (r.lst h)
theorem KnX.mono {k : Bool} {G G' : Hp} {a : Addr} {vs : List V} (l : GLe G G') (h : KnX K k G a vs) : KnX K k G' a vs := by
  cases k with
  | true => exact Or.imp (l _ _) id h
  | false => exact l _ _ h
theorem seqOf_ok {w : W} {ds : List D} {v : V} (e : seqOf w = some ds) (h : RepW K fa g v w) : ∃ k a vs, v = .ref a ∧ KnX K k g.G a vs ∧ RepDs K fa g.G vs ds := by
  unfold seqOf at e
  split at e
  · cases e
    simp only [RepW, RepD] at h
    obtain ⟨a, vs, e, q, h⟩ := h
    exact ⟨false, a, vs, e, q, h⟩
  · cases e
    simp only [RepW, RepD] at h
    obtain ⟨a, vs, e, q, h⟩ := h
    exact ⟨true, a, vs, e, q, h⟩
  · cases e
theorem src_zip {k1 k2 : Bool} {a b : Addr} {vs us : List V} {ds es : List D} (q : KnX K k1 g.G a vs) (h : RepDs K fa g.G vs ds) (q' : KnX K k2 g.G b us) (h' : RepDs K fa g.G us es) : Src K fa g (PvR.ItzX K k1 k2 a b) (zipD ds es) := fun i g' H S l r => by
  have hs : PvR.SqX k1 K H a vs := (q.mono l).sq r
  have hs' : PvR.SqX k2 K H b us := (q'.mono l).sq r
  have e1 := h.length
  have e2 := h'.length
  refine ⟨fun d e => ?_, fun hi => ⟨vs, us, hs, hs', by rw [zipD_length] at hi; omega, by rw [zipD_length] at hi; omega, by rw [zipD_length] at hi; omega⟩⟩
  obtain ⟨x, y, e1, e2, rfl⟩ := zipD_get e
  obtain ⟨v, f1, f2⟩ := h.get e1
  obtain ⟨u, k1, k2⟩ := h'.get e2
  refine ⟨⟨vs, us, v, u, hs, hs', f1, k1⟩, fun z H' y => ?_⟩
  obtain ⟨T, v', u', rfl, hT, rfl, y1, y2⟩ := y
  have e3 := y1 vs hs
  have e4 := y2 us hs'
  rw [f1] at e3; cases e3
  rw [k1] at e4; cases e4
  have lt := Gh.le_add (g := g') (p := T) (o := HO.tup [v, u]) (r.fresh hT)
  refine ⟨_, lt, r.add hT, ?_⟩
  simp only [RepD]
  exact ⟨T, _, rfl, .inl upd_same, RepDs.cons (RepD.mono lt.G (RepD.mono l f2)) (RepDs.cons (RepD.mono lt.G (RepD.mono l k2)) RepDs.nil)⟩

theorem RWs.sh (r : Rel K fa g H S) : ∀ {vs : List V} {ws : List W} {ds : List D}, RWs K fa g vs ws → (ws.mapM fun w => rdW w S) = some ds → Shs K fa g.G H vs ds
  | _, _, _, .nil, e => by simp at e; subst e; exact .nil
  | _, _, _, .cons h t, e => by
    rw [List.mapM_cons] at e
    obtain ⟨d, e1, e2⟩ := Option.bind_eq_some_iff.mp e
    obtain ⟨ds, e3, e4⟩ := Option.bind_eq_some_iff.mp e2
    cases e4
    exact .cons (r.shW h e1) (RWs.sh r t e3)
def PX (K : PySem.W.Frag) (fa : FA) (C : Addr) (g : Gh) (S : Store) (E : XK) (v : D) : Prop :=
  ∀ g' H', g.le g' → Rel K fa g' H' S → match exK v with
    | some k => match exV v with
      | some d => ∀ dd vv, H' dd = some (.xd [(eaA fa k, vv)]) → RepD K fa g'.G vv d → E (.ref (ecA fa C k)) (some dd) H'
      | none => E (.ref (ecA fa C k)) none H'
    | none => True
theorem PX.mono {C : Addr} {E : XK} {v : D} (l : g.le g') (h : PX K fa C g S E v) : PX K fa C g' S E v := fun g2 H2 l2 r2 => h g2 H2 (l.trans l2) r2
abbrev PWs (K : PySem.W.Frag) (fa : FA) (g : Gh) (S : Store) (Q : VK) (w : W) : Prop := ∀ g' H' v, g.le g' → Rel K fa g' H' S → RepW K fa g' v w → Q v H'
def spC (K : PySem.W.Frag) (fa : FA) (C : Addr) (c : Call) (f : Nat) : Sp := fun vs H Q E => ∃ g S ws, Rel K fa g H S ∧ RWs K fa g vs ws ∧
  (((∃ d S', c f ws S = some (d, S') ∧ PD K fa g S' Q d) ∨ ∃ v S', c.x f ws S = some (v, S') ∧ PX K fa C g S' E v) ∨
    g.ro = false ∧ ((∃ w S', c.m f ws S = some (w, S') ∧ PWs K fa g S' Q w) ∨ ∃ v S', c.mx f ws S = some (v, S') ∧ PX K fa C g S' E v))
end

section
variable {K : PySem.W.Frag} {fa : FA} {C : Addr} {c : Call} {tb : Nat → Prop} (htb : ∀ f ws S r, c f ws S = some r → tb f)
def OkE (K : PySem.W.Frag) (fa : FA) (C : Addr) (c : Call) (tb : Nat → Prop) (e : E) : Prop := ∀ ρ S w S', evE c e ρ S = some (w, S') → ∀ g σ H, Rel K fa g H S → RepEn K fa c.ob g σ ρ → ∀ Q : VK, PWs K fa g S' Q w → tE K fa (spC K fa C c) tb e σ H Q
def OkT (K : PySem.W.Frag) (fa : FA) (C : Addr) (c : Call) (tb : Nat → Prop) (e : T) : Prop := ∀ ρ S w S', evT c e ρ S = some (w, S') → ∀ g σ H, Rel K fa g H S → RepEn K fa c.ob g σ ρ → ∀ Q : Bool → Hp → Prop, (∀ g' H', g.le g' → Rel K fa g' H' S' → Q w H') → tT K fa (spC K fa C c) tb e σ H Q
def OkEs (K : PySem.W.Frag) (fa : FA) (C : Addr) (c : Call) (tb : Nat → Prop) (e : Es) : Prop := ∀ ρ S w S', evEs c e ρ S = some (w, S') → ∀ g σ H, Rel K fa g H S → RepEn K fa c.ob g σ ρ → ∀ Q : List V → Hp → Prop, (∀ g' H' vs, g.le g' → Rel K fa g' H' S' → RWs K fa g' vs w → Q vs H') → tEs K fa (spC K fa C c) tb e σ H Q
def OkZ (K : PySem.W.Frag) (fa : FA) (C : Addr) (c : Call) (tb : Nat → Prop) (e : Es) : Prop := ∀ ρ S w S', evZ c e ρ S = some (w, S') → ∀ g σ H, Rel K fa g H S → RepEn K fa c.ob g σ ρ → ∀ Q : List V → Hp → Prop, (∀ g' H' vs, g.le g' → Rel K fa g' H' S' → RepDs K fa g'.G vs w → Q vs H') → tEs K fa (spC K fa C c) tb e σ H Q
def OkO (K : PySem.W.Frag) (fa : FA) (C : Addr) (c : Call) (tb : Nat → Prop) (e : Eo) : Prop := ∀ ρ S w S', evO c e ρ S = some (w, S') → ∀ g σ H, Rel K fa g H S → RepEn K fa c.ob g σ ρ → ∀ Q : Option Int → Hp → Prop, (∀ g' H', g.le g' → Rel K fa g' H' S' → Q w H') → tO K fa (spC K fa C c) tb e σ H Q
def OkI (K : PySem.W.Frag) (fa : FA) (C : Addr) (c : Call) (tb : Nat → Prop) (e : It) : Prop := ∀ ρ S ds S', evI c e ρ S = some (ds, S') → ∀ g σ H, Rel K fa g H S → RepEn K fa c.ob g σ ρ → ∀ R : L2.It → Hp → Prop, (∀ g' H' J, g.le g' → Rel K fa g' H' S' → Src K fa g' J ds → R J H') → tI K fa (spC K fa C c) tb e σ H R
def OkTo (K : PySem.W.Frag) (fa : FA) (C : Addr) (c : Call) (tb : Nat → Prop) : To → Prop
  | .none => True
  | .some t => OkT K fa C c tb t

theorem ok_bin {o : BOp} {a b : E} (ha : OkE K fa C c tb a) (hb : OkE K fa C c tb b) : OkE K fa C c tb (.bin o a b) := fun ρ S w S' e g σ H r hσ Q k => by
  simp only [evE] at e
  obtain ⟨⟨x, S1⟩, e1, e⟩ := Option.bind_eq_some_iff.mp e
  obtain ⟨⟨y, S2⟩, e2, e⟩ := Option.bind_eq_some_iff.mp e
  obtain ⟨x', e3, e⟩ := Option.bind_eq_some_iff.mp e
  obtain ⟨y', e4, e⟩ := Option.bind_eq_some_iff.mp e
  obtain ⟨z, e5, e⟩ := Option.map_eq_some_iff.mp e
  cases e
  refine ha _ _ _ _ e1 g σ H r hσ _ fun g1 H1 v l1 r1 h1 => hb _ _ _ _ e2 g1 σ H1 r1 (hσ.mono l1) _ fun g2 H2 u l2 r2 h2 => ?_
  exact bRun_ok r2 (r2.shW (RepW.mono l2 h1) e3) (r2.shW h2 e4) e5 fun g3 H3 v3 l3 r3 h3 => k g3 H3 v3 (l1.trans (l2.trans l3)) r3 h3
theorem ok_cmp {o : COp} {a b : E} (ha : OkE K fa C c tb a) (hb : OkE K fa C c tb b) : OkE K fa C c tb (.cmp o a b) := fun ρ S w S' e g σ H r hσ Q k => by
  simp only [evE] at e
  obtain ⟨⟨x, S1⟩, e1, e⟩ := Option.bind_eq_some_iff.mp e
  obtain ⟨⟨y, S2⟩, e2, e⟩ := Option.bind_eq_some_iff.mp e
  obtain ⟨x', e3, e⟩ := Option.bind_eq_some_iff.mp e
  obtain ⟨y', e4, e⟩ := Option.bind_eq_some_iff.mp e
  obtain ⟨z, e5, e⟩ := Option.map_eq_some_iff.mp e
  cases e
  refine ha _ _ _ _ e1 g σ H r hσ _ fun g1 H1 v l1 r1 h1 => hb _ _ _ _ e2 g1 σ H1 r1 (hσ.mono l1) _ fun g2 H2 u l2 r2 h2 => ?_
  exact cRun_ok r2 (r2.shW (RepW.mono l2 h1) e3) (r2.shW h2 e4) e5 (k g2 H2 _ (l1.trans l2) r2 (by simp only [RepW, RepD]))
theorem ok_chain {o o' : COp} {a b q : E} (ha : OkE K fa C c tb a) (hb : OkE K fa C c tb b) (hq : OkE K fa C c tb q) : OkE K fa C c tb (.chain o o' a b q) := fun ρ S w S' e g σ H r hσ Q k => by
  simp only [evE] at e
  obtain ⟨⟨x, S1⟩, e1, e⟩ := Option.bind_eq_some_iff.mp e
  obtain ⟨⟨y, S2⟩, e2, e⟩ := Option.bind_eq_some_iff.mp e
  obtain ⟨x', e3, e⟩ := Option.bind_eq_some_iff.mp e
  obtain ⟨y', e4, e⟩ := Option.bind_eq_some_iff.mp e
  obtain ⟨z, e5, e⟩ := Option.bind_eq_some_iff.mp e
  refine ha _ _ _ _ e1 g σ H r hσ _ fun g1 H1 v l1 r1 h1 => hb _ _ _ _ e2 g1 σ H1 r1 (hσ.mono l1) _ fun g2 H2 u l2 r2 h2 => ?_
  refine cRun_ok r2 (r2.shW (RepW.mono l2 h1) e3) (r2.shW h2 e4) e5 ⟨z, rfl, ?_⟩
  cases z with
  | false =>
    cases e
    exact k g2 H2 _ (l1.trans l2) r2 (by simp only [RepW, RepD])
  | true =>
    obtain ⟨⟨t, S3⟩, e6, e⟩ := Option.bind_eq_some_iff.mp e
    obtain ⟨y'', e7, e⟩ := Option.bind_eq_some_iff.mp e
    obtain ⟨t', e8, e⟩ := Option.bind_eq_some_iff.mp e
    obtain ⟨z, e9, e⟩ := Option.map_eq_some_iff.mp e
    cases e
    refine hq _ _ _ _ e6 g2 σ H2 r2 ((hσ.mono l1).mono l2) _ fun g3 H3 v3 l3 r3 h3 => ?_
    exact cRun_ok r3 (r3.shW (RepW.mono l3 h2) e7) (r3.shW h3 e8) e9 (k g3 H3 _ (l1.trans (l2.trans l3)) r3 (by simp only [RepW, RepD]))
end
end Pv

set_option Elab.async false
set_option linter.all false
set_option maxRecDepth 100000
set_option maxHeartbeats 4000000
namespace Pv
open PySem L2

section
variable {K : PySem.W.Frag} {fa : FA} {C : Addr} {c : Call} {tb : Nat → Prop}
theorem vOf_rep {G : Hp} {d : D} (h : flatD d = true) : RepD K fa G (vOf d) d := by
  cases d <;> first
    | (simp [flatD] at h; done)
    | simp only [RepD, vOf]
theorem ok_var {i : Nat} : OkE K fa C c tb (.var i) := fun ρ S w S' e g σ H r hσ Q k => by
  simp only [evE] at e
  split at e
  · rename_i w' h
    cases e
    obtain ⟨v, h1, h2⟩ := hσ.2 i _ h
    exact ⟨v, h1, k g H v (.refl g) r h2⟩
  · cases e
theorem ok_cst {d : D} : OkE K fa C c tb (.cst d) := fun ρ S w S' e g σ H r hσ Q k => by
  simp only [evE] at e
  split at e
  · cases e
    exact k g H _ (.refl g) r (vOf_rep ‹_›)
  · cases e
theorem ok_fnv {f : Nat} : OkE K fa C c tb (.fnv f) := fun ρ S w S' e g σ H r hσ Q k => by
  simp only [evE] at e
  cases e
  exact k g H _ (.refl g) r (by simp only [RepW, RepD])
theorem ok_fz {a : E} (ha : OkE K fa C c tb a) : OkE K fa C c tb (.fz a) := fun ρ S w S' e g σ H r hσ Q k => by
  simp only [evE] at e
  obtain ⟨⟨x, S1⟩, e1, e⟩ := Option.bind_eq_some_iff.mp e
  obtain ⟨⟨d, S2⟩, e2, e⟩ := Option.map_eq_some_iff.mp e
  cases e
  refine ha _ _ _ _ e1 g σ H r hσ _ fun g1 H1 v l1 r1 h1 => ?_
  obtain ⟨g2, l2, r2, h2⟩ := r1.fz h1 e2
  exact k g2 H1 _ (l1.trans l2) r2 h2
theorem ok_neg {a : E} (ha : OkE K fa C c tb a) : OkE K fa C c tb (.neg a) := fun ρ S w S' e g σ H r hσ Q k => by
  simp only [evE] at e
  obtain ⟨⟨x, S1⟩, e1, e⟩ := Option.bind_eq_some_iff.mp e
  split at e
  · rename_i h
    cases e
    obtain rfl : x = _ := h
    refine ha _ _ _ _ e1 g σ H r hσ _ fun g1 H1 v l1 r1 h1 => ?_
    simp only [RepW, RepD] at h1
    exact ⟨_, h1, k g1 H1 _ l1 r1 (by simp only [RepW, RepD])⟩
  · cases e
theorem isN_dec {g : Gh} {v : V} {x : W} (h : RepW K fa g v x) : decide (v = .non) = isNonW x := by
  cases x with
  | mu n => obtain ⟨rfl, _⟩ := h; exact decide_eq_false (fun z => nomatch z)
  | d y =>
    cases y <;> simp only [RepW, RepD] at h
    case non => subst h; rfl
    case bl => subst h; exact decide_eq_false (fun z => nomatch z)
    case int => subst h; exact decide_eq_false (fun z => nomatch z)
    case str => subst h; exact decide_eq_false (fun z => nomatch z)
    case fn => subst h; exact decide_eq_false (fun z => nomatch z)
    all_goals (obtain ⟨a, h⟩ := h)
    case scr => obtain ⟨rfl, _⟩ := h; exact decide_eq_false (fun z => nomatch z)
    all_goals (obtain ⟨b, rfl, _⟩ := h; exact decide_eq_false (fun z => nomatch z))
theorem ok_isN {a : E} (ha : OkE K fa C c tb a) : OkE K fa C c tb (.isN a) := fun ρ S w S' e g σ H r hσ Q k => by
  simp only [evE] at e
  obtain ⟨⟨x, S1⟩, e1, e⟩ := Option.map_eq_some_iff.mp e
  cases e
  refine ha _ _ _ _ e1 g σ H r hσ _ fun g1 H1 v l1 r1 h1 => ?_
  show Q (.bl (decide (v = .non))) H1
  rw [isN_dec h1]
  exact k g1 H1 _ l1 r1 (by simp only [RepW, RepD])
theorem ok_notN {a : E} (ha : OkE K fa C c tb a) : OkE K fa C c tb (.notN a) := fun ρ S w S' e g σ H r hσ Q k => by
  simp only [evE] at e
  obtain ⟨⟨x, S1⟩, e1, e⟩ := Option.map_eq_some_iff.mp e
  cases e
  refine ha _ _ _ _ e1 g σ H r hσ _ fun g1 H1 v l1 r1 h1 => ?_
  show Q (.bl (!decide (v = .non))) H1
  rw [isN_dec h1]
  exact k g1 H1 _ l1 r1 (by simp only [RepW, RepD])
theorem ok_and {a b : E} (ha : OkE K fa C c tb a) (hb : OkE K fa C c tb b) : OkE K fa C c tb (.and a b) := fun ρ S w S' e g σ H r hσ Q k => by
  simp only [evE] at e
  obtain ⟨⟨x, S1⟩, e1, e⟩ := Option.bind_eq_some_iff.mp e
  refine ha _ _ _ _ e1 g σ H r hσ _ fun g1 H1 v l1 r1 h1 => ?_
  split at e
  · rename_i h
    obtain rfl : x = _ := h
    simp only [RepW, RepD] at h1
    refine ⟨true, h1, ?_⟩
    rw [if_pos rfl]
    exact hb _ _ _ _ e g1 σ H1 r1 (hσ.mono l1) Q fun g2 H2 v2 l2 r2 h2 => k g2 H2 v2 (l1.trans l2) r2 h2
  · rename_i h
    cases e
    obtain rfl : x = _ := h
    simp only [RepW, RepD] at h1
    refine ⟨false, h1, ?_⟩
    rw [if_neg (fun z => nomatch z)]
    exact k g1 H1 _ l1 r1 (by simp only [RepW, RepD])
  · cases e
theorem ok_or {a b : E} (ha : OkE K fa C c tb a) (hb : OkE K fa C c tb b) : OkE K fa C c tb (.or a b) := fun ρ S w S' e g σ H r hσ Q k => by
  simp only [evE] at e
  obtain ⟨⟨x, S1⟩, e1, e⟩ := Option.bind_eq_some_iff.mp e
  refine ha _ _ _ _ e1 g σ H r hσ _ fun g1 H1 v l1 r1 h1 => ?_
  split at e
  · rename_i h
    obtain rfl : x = _ := h
    simp only [RepW, RepD] at h1
    refine ⟨false, h1, ?_⟩
    rw [if_neg (fun z => nomatch z)]
    exact hb _ _ _ _ e g1 σ H1 r1 (hσ.mono l1) Q fun g2 H2 v2 l2 r2 h2 => k g2 H2 v2 (l1.trans l2) r2 h2
  · rename_i h
    cases e
    obtain rfl : x = _ := h
    simp only [RepW, RepD] at h1
    refine ⟨true, h1, ?_⟩
    rw [if_pos rfl]
    exact k g1 H1 _ l1 r1 (by simp only [RepW, RepD])
  · cases e
theorem ok_not {a : E} (ha : OkE K fa C c tb a) : OkE K fa C c tb (.not a) := fun ρ S w S' e g σ H r hσ Q k => by
  simp only [evE] at e
  obtain ⟨⟨x, S1⟩, e1, e⟩ := Option.bind_eq_some_iff.mp e
  refine ha _ _ _ _ e1 g σ H r hσ _ fun g1 H1 v l1 r1 h1 => ?_
  split at e
  · rename_i b h
    cases e
    obtain rfl : x = _ := h
    simp only [RepW, RepD] at h1
    exact ⟨b, h1, k g1 H1 _ l1 r1 (by simp only [RepW, RepD])⟩
  · cases e
theorem ok_ite {t : T} {a b : E} (ht : OkT K fa C c tb t) (ha : OkE K fa C c tb a) (hb : OkE K fa C c tb b) : OkE K fa C c tb (.ite t a b) := fun ρ S w S' e g σ H r hσ Q k => by
  simp only [evE] at e
  obtain ⟨⟨x, S1⟩, e1, e⟩ := Option.bind_eq_some_iff.mp e
  refine ht _ _ _ _ e1 g σ H r hσ _ fun g1 H1 l1 r1 => ?_
  cases x with
  | true =>
    rw [if_pos rfl] at e
    rw [if_pos rfl]
    exact ha _ _ _ _ e g1 σ H1 r1 (hσ.mono l1) Q fun g2 H2 v2 l2 r2 h2 => k g2 H2 v2 (l1.trans l2) r2 h2
  | false =>
    rw [if_neg (fun z => nomatch z)] at e
    rw [if_neg (fun z => nomatch z)]
    exact hb _ _ _ _ e g1 σ H1 r1 (hσ.mono l1) Q fun g2 H2 v2 l2 r2 h2 => k g2 H2 v2 (l1.trans l2) r2 h2
theorem ok_call {f : Nat} {as : Es} (ha : OkEs K fa C c tb as) : OkE K fa C c tb (.call f as) := fun ρ S w S' e g σ H r hσ Q k => by
  simp only [evE] at e
  obtain ⟨⟨ws, S1⟩, e1, e⟩ := Option.bind_eq_some_iff.mp e
  obtain ⟨⟨d, S2⟩, e2, e⟩ := Option.map_eq_some_iff.mp e
  cases e
  refine ha _ _ _ _ e1 g σ H r hσ _ fun g1 H1 vs l1 r1 h1 => ?_
  show spC K fa C c f (vs ++ []) H1 Q E0
  rw [List.append_nil]
  exact ⟨g1, S1, ws, r1, h1, .inl (.inl ⟨d, S2, e2, fun g2 H2 v l2 r2 h2 => k g2 H2 v (l1.trans l2) r2 h2⟩)⟩
theorem ok_callv (htb : ∀ f ws S r, c f ws S = some r → tb f) {i : Nat} {as : Es} (ha : OkEs K fa C c tb as) : OkE K fa C c tb (.callv i as) := fun ρ S w S' e g σ H r hσ Q k => by
  simp only [evE] at e
  split at e
  · rename_i f hf
    obtain ⟨⟨ws, S1⟩, e1, e⟩ := Option.bind_eq_some_iff.mp e
    obtain ⟨⟨d, S2⟩, e2, e⟩ := Option.map_eq_some_iff.mp e
    cases e
    obtain ⟨v, q1, q2⟩ := hσ.2 i _ hf
    simp only [RepW, RepD] at q2
    subst q2
    refine ⟨f, htb _ _ _ _ e2, q1, ha _ _ _ _ e1 g σ H r hσ _ fun g1 H1 vs l1 r1 h1 => ?_⟩
    show spC K fa C c f (vs ++ []) H1 Q E0
    rw [List.append_nil]
    exact ⟨g1, S1, ws, r1, h1, .inl (.inl ⟨d, S2, e2, fun g2 H2 v l2 r2 h2 => k g2 H2 v (l1.trans l2) r2 h2⟩)⟩
  · cases e
theorem ok_bi {b : Bi} {as : Es} (ha : OkEs K fa C c tb as) : OkE K fa C c tb (.bi b as) := fun ρ S w S' e g σ H r hσ Q k => by
  simp only [evE] at e
  obtain ⟨⟨ws, S1⟩, e1, e⟩ := Option.bind_eq_some_iff.mp e
  obtain ⟨ds, e2, e⟩ := Option.bind_eq_some_iff.mp e
  obtain ⟨d, e3, e⟩ := Option.map_eq_some_iff.mp e
  cases e
  refine ha _ _ _ _ e1 g σ H r hσ _ fun g1 H1 vs l1 r1 h1 => ?_
  exact biRun_ok r1 (h1.sh r1 e2) e3 fun g2 H2 v l2 r2 h2 => k g2 H2 v (l1.trans l2) r2 h2
theorem ok_mkE0 {q : Nat} : OkE K fa C c tb (.mkE0 q) := fun ρ S w S' e g σ H r hσ Q k => by
  simp only [evE] at e
  cases e
  intro a ha
  have l := Gh.le_add (g := g) (p := a) (o := ExD (.ref (fa.ec q)) none a) (r.fresh ha)
  refine k _ _ _ l (r.add ha) ?_
  simp only [RepW, RepD]
  exact ⟨a, [], rfl, .inl ⟨rfl, upd_same⟩, RepDs.nil⟩
theorem ok_mkE {q : Nat} {num : Bool} {a : E} (ha : OkE K fa C c tb a) : OkE K fa C c tb (.mkE q num a) := fun ρ S w S' e g σ H r hσ Q k => by
  simp only [evE] at e
  obtain ⟨⟨x, S1⟩, e1, e⟩ := Option.bind_eq_some_iff.mp e
  cases x with
  | mu _ => cases e
  | d x =>
    simp only at e
    split at e
    case isFalse => cases e
    rename_i hq
    cases e
    refine ha _ _ _ _ e1 g σ H r hσ _ fun g1 H1 v l1 r1 h1 => ?_
    refine ⟨by show 1 ≤ 1000; decide, fun b hb => ?_⟩
    have fin : ∀ dx, upd H1 b (exo b (fa.ec q) none) dx = none → dx ≠ b → (V.non = V.non ∧ ∃ (d : Addr) (fs : List (Str × V)), upd (upd (upd H1 b (exo b (fa.ec q) none)) dx (exd dx [(fa.ea q, v)])) b (exo b (fa.ec q) (some dx)) b = some (exo b (fa.ec q) (some d)) ∧
        upd (upd (upd H1 b (exo b (fa.ec q) none)) dx (exd dx [(fa.ea q, v)])) b (exo b (fa.ec q) (some dx)) d = some (exd d fs) ∧ H1 d = none ∧
        ∀ a, upd (L2.del (upd (upd (upd H1 b (exo b (fa.ec q) none)) dx (exd dx [(fa.ea q, v)])) b (exo b (fa.ec q) (some dx))) b) d (.xd fs) a = none → Q (.ref a) (upd (upd (L2.del (upd (upd (upd H1 b (exo b (fa.ec q) none)) dx (exd dx [(fa.ea q, v)])) b (exo b (fa.ec q) (some dx))) b) d (.xd fs)) a (ExD (.ref (fa.ec q)) (some d) a))) := fun dx hd hne => by
      have hd1 : H1 dx = none := by rw [upd_ne hne] at hd; exact hd
      refine ⟨rfl, dx, [(fa.ea q, v)], upd_same, by rw [upd_ne hne, upd_same], hd1, ?_⟩
      have eH : upd (L2.del (upd (upd (upd H1 b (exo b (fa.ec q) none)) dx (exd dx [(fa.ea q, v)])) b (exo b (fa.ec q) (some dx))) b) dx (.xd [(fa.ea q, v)]) = upd H1 dx (.xd [(fa.ea q, v)]) := by
        funext y
        by_cases hy : y = dx
        · subst hy; rw [upd_same, upd_same]
        · rw [upd_ne hy, upd_ne hy]
          by_cases hyb : y = b
          · subst hyb; rw [L2.del_same]; exact hb.symm
          · rw [L2.del_ne hyb, upd_ne hyb, upd_ne hy, upd_ne hyb]
      rw [eH]
      intro a' ha'
      have l2 := Gh.le_add (g := g1) (p := dx) (o := HO.xd [(fa.ea q, v)]) (r1.fresh hd1)
      have r2 : Rel K fa (g1.add dx (HO.xd [(fa.ea q, v)])) _ _ := r1.add hd1
      have l3 := Gh.le_add (g := g1.add dx (HO.xd [(fa.ea q, v)])) (p := a') (o := ExD (.ref (fa.ec q)) (some dx) a') (r2.fresh ha')
      refine k _ _ _ (l1.trans (l2.trans l3)) (r2.add ha') ?_
      simp only [RepW, RepD]
      exact ⟨a', [v], rfl, .inr ⟨dx, v, rfl, upd_same, l3.G _ _ upd_same⟩, RepDs.cons (RepD.mono (fun x u e => l3.G _ _ (l2.G _ _ e)) h1) RepDs.nil⟩
    cases num with
    | false => exact ⟨b, v, rfl, upd_same, fin⟩
    | true =>
      cases x with
      | int i =>
        simp only [RepW, RepD] at h1
        subst h1
        exact ⟨b, i, rfl, hq, upd_same, fin⟩
      | _ => cases hq
theorem exG_one {H : Hp} {a : Addr} {q : Nat} {vs : List V} {x : D} {G : Hp} (h : ExG fa H a q vs) (hv : RepDs K fa G vs [x]) : ∃ dd u, H a = some (ExD (.ref (fa.ec q)) (some dd) a) ∧ H dd = some (.xd [(fa.ea q, u)]) ∧ RepD K fa G u x := by
  simp only [RepDs] at hv
  obtain ⟨u, t, rfl, h1, rfl⟩ := hv
  rcases h with ⟨h, _⟩ | ⟨dd, u', h2, h3, h4⟩
  · cases h
  · cases h2
    exact ⟨dd, u, h3, h4, h1⟩
theorem ok_efld {ks : List Nat} {a : E} (ha : OkE K fa C c tb a) : OkE K fa C c tb (.efld ks a) := fun ρ S w S' e g σ H r hσ Q k => by
  simp only [evE] at e
  obtain ⟨⟨x, S1⟩, e1, e⟩ := Option.bind_eq_some_iff.mp e
  refine ha _ _ _ _ e1 g σ H r hσ _ fun g1 H1 v l1 r1 h1 => ?_
  split at e
  case h_2 => cases e
  rename_i q d hx
  obtain rfl : x = .d (.exc q [d]) := hx
  split at e
  case isFalse => cases e
  rename_i hq
  cases e
  simp only [RepW, RepD] at h1
  obtain ⟨p, vs, rfl, h2, h3⟩ := h1
  obtain ⟨dd, u, h4, h5, h6⟩ := exG_one (r1.exG h2) h3
  exact ⟨p, dd, q, u, rfl, List.contains_iff_mem.mp hq, h4, h5, k g1 H1 _ l1 r1 h6⟩
theorem isOf_some {ys ns : List Nat} {q : Nat} {b : Bool} (h : isOf ys ns q = some b) : fa.ec q ∈ cond b (ecs fa ys) (ecs fa ns) := by
  unfold isOf at h
  split at h
  · rename_i hy
    cases h
    exact List.mem_map_of_mem (List.contains_iff_mem.mp hy)
  · split at h
    · rename_i hn
      cases h
      exact List.mem_map_of_mem (List.contains_iff_mem.mp hn)
    · cases h
theorem exG_any {H : Hp} {a : Addr} {q : Nat} {vs : List V} (h : ExG fa H a q vs) : ∃ d, H a = some (ExD (.ref (fa.ec q)) d a) ∧ ∀ dd, d = some dd → ∃ fs, H dd = some (.xd fs) := by
  rcases h with ⟨_, h⟩ | ⟨dd, u, _, h3, h4⟩
  · exact ⟨none, h, fun _ z => nomatch z⟩
  · exact ⟨some dd, h3, fun _ z => by cases z; exact ⟨_, h4⟩⟩
theorem ok_isE {ys ns : List Nat} {q : Nat ⊕ String} {a : E} (ha : OkE K fa C c tb a) : OkE K fa C c tb (.isE ys ns q a) := fun ρ S w S' e g σ H r hσ Q k => by
  simp only [evE] at e
  obtain ⟨⟨x, S1⟩, e1, e⟩ := Option.bind_eq_some_iff.mp e
  refine ha _ _ _ _ e1 g σ H r hσ _ fun g1 H1 v l1 r1 h1 => ?_
  split at e
  case h_2 => cases e
  rename_i j ds hx
  obtain rfl : x = .d (.exc j ds) := hx
  obtain ⟨b, e2, e⟩ := Option.map_eq_some_iff.mp e
  cases e
  simp only [RepW, RepD] at h1
  obtain ⟨p, vs, rfl, h2, h3⟩ := h1
  obtain ⟨d, h4, h5⟩ := exG_any (r1.exG h2)
  exact ⟨p, fa.ec j, d, b, rfl, h4, h5, isOf_some e2, k g1 H1 _ l1 r1 (by simp only [RepW, RepD])⟩
theorem ok_isi1 {a : E} {t : String} (ha : OkE K fa C c tb a) : OkE K fa C c tb (.isi1 a t) := fun ρ S w S' e g σ H r hσ Q k => by
  simp only [evE] at e
  obtain ⟨⟨x, S1⟩, e1, e⟩ := Option.bind_eq_some_iff.mp e
  obtain ⟨d, e2, e⟩ := Option.bind_eq_some_iff.mp e
  obtain ⟨b, e3, e⟩ := Option.map_eq_some_iff.mp e
  cases e
  refine ha _ _ _ _ e1 g σ H r hσ _ fun g1 H1 v l1 r1 h1 => ?_
  exact isi1_ok (r1.shW h1 e2) e3 (k g1 H1 _ l1 r1 (by simp only [RepW, RepD]))
theorem ok_isi2 {a : E} {t u : String} (ha : OkE K fa C c tb a) : OkE K fa C c tb (.isi2 a t u) := fun ρ S w S' e g σ H r hσ Q k => by
  simp only [evE] at e
  obtain ⟨⟨x, S1⟩, e1, e⟩ := Option.bind_eq_some_iff.mp e
  obtain ⟨d, e2, e⟩ := Option.bind_eq_some_iff.mp e
  obtain ⟨b, e3, e⟩ := Option.map_eq_some_iff.mp e
  cases e
  refine ha _ _ _ _ e1 g σ H r hσ _ fun g1 H1 v l1 r1 h1 => ⟨by show 2 ≤ sizeLine; decide, fun p hp => ?_⟩
  have r2 := r1.add (p := p) (o := .tup [.ty t, .ty u]) hp
  have l2 := Gh.le_add (g := g1) (p := p) (o := HO.tup [.ty t, .ty u]) (r1.fresh hp)
  exact isi2_ok (r2.shW (RepW.mono l2 h1) e2) upd_same e3 (k _ _ _ (l1.trans l2) r2 (by simp only [RepW, RepD]))
theorem ok_mt0 {m : Me} {a : E} (ha : OkE K fa C c tb a) : OkE K fa C c tb (.mt0 m a) := fun ρ S w S' e g σ H r hσ Q k => by
  simp only [evE] at e
  obtain ⟨⟨x, S1⟩, e1, e⟩ := Option.bind_eq_some_iff.mp e
  obtain ⟨d, e2, e⟩ := Option.bind_eq_some_iff.mp e
  obtain ⟨b, e3, e⟩ := Option.map_eq_some_iff.mp e
  cases e
  refine ha _ _ _ _ e1 g σ H r hσ _ fun g1 H1 v l1 r1 h1 => ?_
  exact meRun0_ok r1 (r1.shW h1 e2) e3 fun g2 H2 v l2 r2 h2 => k g2 H2 v (l1.trans l2) r2 h2
theorem ok_mt1 {m : Me} {a b : E} (ha : OkE K fa C c tb a) (hb : OkE K fa C c tb b) : OkE K fa C c tb (.mt1 m a b) := fun ρ S w S' e g σ H r hσ Q k => by
  simp only [evE] at e
  obtain ⟨⟨x, S1⟩, e1, e⟩ := Option.bind_eq_some_iff.mp e
  obtain ⟨⟨y, S2⟩, e2, e⟩ := Option.bind_eq_some_iff.mp e
  obtain ⟨x', e3, e⟩ := Option.bind_eq_some_iff.mp e
  obtain ⟨y', e4, e⟩ := Option.bind_eq_some_iff.mp e
  obtain ⟨z, e5, e⟩ := Option.map_eq_some_iff.mp e
  cases e
  refine ha _ _ _ _ e1 g σ H r hσ _ fun g1 H1 v l1 r1 h1 => ⟨?_, ?_⟩
  · cases x with
    | d x =>
      have : x = x' := Option.some.inj e3
      subst this
      exact meRun1_str (r1.sh h1) e5
    | mu n =>
      simp only [rdW] at e3
      split at e3 <;> cases e3 <;> cases m <;> simp [meRun1] at e5
  · refine hb _ _ _ _ e2 g1 σ H1 r1 (hσ.mono l1) _ fun g2 H2 u l2 r2 h2 => ?_
    exact meRun1_ok r2 (r2.shW (RepW.mono l2 h1) e3) (r2.shW h2 e4) e5 fun g3 H3 v3 l3 r3 h3 => k g3 H3 v3 (l1.trans (l2.trans l3)) r3 h3
theorem ok_ix {a b : E} (ha : OkE K fa C c tb a) (hb : OkE K fa C c tb b) : OkE K fa C c tb (.ix a b) := fun ρ S w S' e g σ H r hσ Q k => by
  simp only [evE] at e
  obtain ⟨⟨x, S1⟩, e1, e⟩ := Option.bind_eq_some_iff.mp e
  obtain ⟨⟨y, S2⟩, e2, e⟩ := Option.bind_eq_some_iff.mp e
  obtain ⟨x', e3, e⟩ := Option.bind_eq_some_iff.mp e
  obtain ⟨y', e4, e⟩ := Option.bind_eq_some_iff.mp e
  obtain ⟨z, e5, e⟩ := Option.map_eq_some_iff.mp e
  cases e
  refine ha _ _ _ _ e1 g σ H r hσ _ fun g1 H1 v l1 r1 h1 => hb _ _ _ _ e2 g1 σ H1 r1 (hσ.mono l1) _ fun g2 H2 u l2 r2 h2 => ?_
  exact ixRun_ok r2 (r2.shW (RepW.mono l2 h1) e3) (r2.shW h2 e4) e5 fun g3 H3 v3 l3 r3 h3 => k g3 H3 v3 (l1.trans (l2.trans l3)) r3 h3
theorem ok_sl {a : E} {lo hi : Eo} (ha : OkE K fa C c tb a) (hl : OkO K fa C c tb lo) (hh : OkO K fa C c tb hi) : OkE K fa C c tb (.sl a lo hi) := fun ρ S w S' e g σ H r hσ Q k => by
  simp only [evE] at e
  obtain ⟨⟨x, S1⟩, e1, e⟩ := Option.bind_eq_some_iff.mp e
  obtain ⟨⟨l, S2⟩, e2, e⟩ := Option.bind_eq_some_iff.mp e
  obtain ⟨⟨u, S3⟩, e3, e⟩ := Option.bind_eq_some_iff.mp e
  obtain ⟨x', e4, e⟩ := Option.bind_eq_some_iff.mp e
  obtain ⟨z, e5, e⟩ := Option.map_eq_some_iff.mp e
  cases e
  refine ha _ _ _ _ e1 g σ H r hσ _ fun g1 H1 v l1 r1 h1 => hl _ _ _ _ e2 g1 σ H1 r1 (hσ.mono l1) _ fun g2 H2 l2 r2 => hh _ _ _ _ e3 g2 σ H2 r2 ((hσ.mono l1).mono l2) _ fun g3 H3 l3 r3 => ?_
  exact slRun_ok r3 (r3.shW (RepW.mono (l2.trans l3) h1) e4) e5 fun g4 H4 v4 l4 r4 h4 => k g4 H4 v4 (l1.trans (l2.trans (l3.trans l4))) r4 h4
theorem ok_tup {as : Es} (ha : OkZ K fa C c tb as) : OkE K fa C c tb (.tup as) := fun ρ S w S' e g σ H r hσ Q k => by
  simp only [evE] at e
  obtain ⟨⟨ds, S1⟩, e1, e⟩ := Option.bind_eq_some_iff.mp e
  split at e
  · cases e
    refine ha _ _ _ _ e1 g σ H r hσ _ fun g1 H1 vs l1 r1 h1 => ⟨by rw [h1.length]; assumption, PD.tup r1 (fun g2 H2 v l2 r2 h2 => k g2 H2 v (l1.trans l2) r2 h2) h1⟩
  · cases e
theorem ok_lst {as : Es} (ha : OkZ K fa C c tb as) : OkE K fa C c tb (.lst as) := fun ρ S w S' e g σ H r hσ Q k => by
  simp only [evE] at e
  obtain ⟨⟨ds, S1⟩, e1, e⟩ := Option.bind_eq_some_iff.mp e
  split at e
  · cases e
    refine ha _ _ _ _ e1 g σ H r hσ _ fun g1 H1 vs l1 r1 h1 => ⟨by rw [h1.length]; assumption, PD.lst r1 (fun g2 H2 v l2 r2 h2 => k g2 H2 v (l1.trans l2) r2 h2) h1⟩
  · cases e

theorem repl_ok {κ : Type} [DecidableEq κ] {G : Hp} {k : κ} {d : D} {v : V} (hv : RepD K fa G v d) : ∀ {kvs : List (κ × V)} {ds : List D}, RepDs K fa G (kvs.map (·.2)) ds →
    RepDs K fa G ((kvs.map fun kv => if kv.1 = k then (kv.1, v) else kv).map (·.2)) (repl k d (kvs.map (·.1)) ds)
  | [], ds, h => by
    have := h.length
    cases ds with
    | nil => exact RepDs.nil
    | cons => simp at this
  | kv :: kvs, ds, h => by
    cases ds with
    | nil => have := h.length; simp at this
    | cons x ds =>
      simp only [List.map_cons, RepDs] at h
      obtain ⟨v', t, e, h1, h2⟩ := h
      injection e with e1 e2
      subst e1; subst e2
      simp only [List.map_cons, repl]
      refine RepDs.cons ?_ (repl_ok hv h2)
      split
      · exact hv
      · exact h1
theorem putD_ok {κ : Type} [DecidableEq κ] {G : Hp} {k : κ} {d : D} {v : V} (hv : RepD K fa G v d) {kvs : List (κ × V)} {ds : List D} (h : RepDs K fa G (kvs.map (·.2)) ds) :
    (putK kvs k v).map (·.1) = (putD k d (kvs.map (·.1)) ds).1 ∧ RepDs K fa G ((putK kvs k v).map (·.2)) (putD k d (kvs.map (·.1)) ds).2 := by
  have ea : ((kvs.map (·.1)).any fun q => decide (q = k)) = kvs.any fun kv => decide (kv.1 = k) := by
    rw [List.any_map]; rfl
  unfold putK putD
  rw [ea]
  split
  · refine ⟨?_, repl_ok hv h⟩
    show List.map _ (List.map _ kvs) = List.map _ kvs
    rw [List.map_map]
    apply List.map_congr_left
    intro kv _
    show (if kv.1 = k then (kv.1, v) else kv).1 = kv.1
    split <;> rfl
  · refine ⟨by simp, ?_⟩
    rw [List.map_append]
    exact RepDs.append h (RepDs.cons hv RepDs.nil)

def POut (K : PySem.W.Frag) (fa : FA) (C : Addr) (W : WX) (ob : Bool) (g : Gh) (Z : Ends) : Out → Prop
  | .nx ρ S => ∀ g' σ H, g.le g' → Rel K fa g' H S → RepEn K fa ob g' σ ρ → Z.nx σ H
  | .bk ρ S => ∀ g' σ H, g.le g' → Rel K fa g' H S → RepEn K fa ob g' σ ρ → Z.bk σ H
  | .ct ρ S => ∀ g' σ H, g.le g' → Rel K fa g' H S → RepEn K fa ob g' σ ρ → Z.ct σ H
  | .rt d S => PD K fa g S Z.rt d
  | .xc d S => ∀ σ, PX K fa C g S (WE W σ) d
  | .rm n S => PWs K fa g S Z.rt (.mu n)
theorem keyOf_ok {G : Hp} {d : D} {k : Key} {v : V} (h : keyOf d = some k) (q : RepD K fa G v d) : v = kV k := by
  unfold keyOf at h
  split at h
  · cases h; simp only [RepD] at q; exact q
  · cases h; simp only [RepD] at q; exact q
  · cases h

theorem keysOf_ok {G : Hp} : ∀ {ds : List D} {ks : List Key} {vs : List V}, keysOf ds = some ks → RepDs K fa G vs ds → vs = ks.map kV
  | [], ks, vs, e, h => by
    simp only [keysOf, Option.some.injEq] at e
    subst e
    simp only [RepDs] at h
    subst h
    rfl
  | d :: ds, ks, vs, e, h => by
    simp only [keysOf] at e
    obtain ⟨k, e1, e⟩ := Option.bind_eq_some_iff.mp e
    obtain ⟨ks', e2, e⟩ := Option.map_eq_some_iff.mp e
    subst e
    simp only [RepDs] at h
    obtain ⟨v, r, rfl, h1, h2⟩ := h
    rw [keyOf_ok e1 h1, keysOf_ok e2 h2]
    rfl
theorem lookD_ok {κ : Type} [DecidableEq κ] {G : Hp} {k : κ} : ∀ {kvs : List (κ × V)} {ds : List D}, RepDs K fa G (kvs.map (·.2)) ds → match lookD k (kvs.map (·.1)) ds with
    | some d => ∃ v, valV kvs k = some v ∧ RepD K fa G v d
    | none => valV kvs k = none
  | [], ds, h => by simp [lookD, valV]
  | (q, v) :: kvs, [], h => by
    have := h.length
    simp at this
  | (q, v) :: kvs, d :: ds, h => by
    simp only [List.map_cons, RepDs] at h
    obtain ⟨v', t, e, h1, h2⟩ := h
    injection e with e1 e2
    subst e1; subst e2
    have ih := lookD_ok (k := k) h2
    by_cases hq : q = k
    · subst hq
      simp only [List.map_cons, lookD, if_true]
      exact ⟨v, by simp [valV], h1⟩
    · simp only [List.map_cons, lookD, if_neg hq]
      have ev : valV ((q, v) :: kvs) k = valV kvs k := by simp [valV, hq]
      rw [ev]
      exact ih
def OptV (K : PySem.W.Frag) (fa : FA) (G : Hp) (ov : Option V) : Option D → Prop
  | some d => ∃ v, ov = some v ∧ RepD K fa G v d
  | none => ov = none
theorem lookD_opt {κ : Type} [DecidableEq κ] {G : Hp} {k : κ} {kvs : List (κ × V)} {ds : List D} (h : RepDs K fa G (kvs.map (·.2)) ds) : OptV K fa G (valV kvs k) (lookD k (kvs.map (·.1)) ds) := by
  have := lookD_ok (k := k) h
  cases e : lookD k (kvs.map (·.1)) ds with
  | none => rw [e] at this; exact this
  | some d => rw [e] at this; exact this
theorem isDct_ok {G H : Hp} {x : V} {d : D} (h : Sh K fa G H x d) (e : isDct d = true) : ∃ a, x = .ref a ∧ IsD H a := by
  cases d <;> simp [isDct] at e
  · obtain ⟨a, kvs, rfl, q, _⟩ := h
    exact ⟨a, rfl, .inl ⟨kvs, q⟩⟩
  · obtain ⟨a, kvs, rfl, q, _⟩ := h
    exact ⟨a, rfl, .inr ⟨kvs, q⟩⟩
theorem dLook_ok {g : Gh} {H : Hp} {S : Store} (r : Rel K fa g H S) {x y : V} {a k : D} {o : Option D} (hx : Sh K fa g.G H x a) (hy : Sh K fa g.G H y k) (e : dLook a k = some o) :
    ∃ p ov, x = .ref p ∧ DGet H p y ov ∧ OptV K fa g.G ov o := by
  cases a <;> simp only [dLook] at e <;> try (cases e; done)
  · rename_i ks ds
    obtain ⟨kk, e1, e⟩ := Option.map_eq_some_iff.mp e
    obtain ⟨p, kvs, rfl, q, rfl, h2⟩ := hx
    have hk : y = kV kk := by
      unfold keyOf at e1
      split at e1 <;> cases e1 <;> exact hy
    subst hk
    refine ⟨p, valV kvs kk, rfl, .inl ⟨kvs, kk, q, rfl, rfl⟩, ?_⟩
    rw [← e]
    exact lookD_opt h2
  · rename_i ks ds
    cases k <;> try (cases e; done)
    rename_i ys
    obtain ⟨kk, e1, e⟩ := Option.map_eq_some_iff.mp e
    obtain ⟨p, kvs, rfl, q, rfl, h2⟩ := hx
    obtain ⟨_, _, _, _, _, hr⟩ := hy
    simp only [RepD] at hr
    obtain ⟨b, vs, rfl, hb, hvs⟩ := hr
    rcases hb with hb | hb
    · have hb' : H b = some (.tup vs) := by
        rcases r.ext b _ hb with h | ⟨h, _⟩
        · exact h
        · cases h
      rw [keysOf_ok e1 hvs] at hb'
      refine ⟨p, valV kvs kk, rfl, .inr ⟨kvs, kk, b, q, rfl, hb', rfl⟩, ?_⟩
      rw [← e]
      exact lookD_opt h2
    · exact hb.elim
theorem ok_dget {a b : E} (ha : OkE K fa C c tb a) (hb : OkE K fa C c tb b) : OkE K fa C c tb (.dget a b) := fun ρ S w S' e g σ H r hσ Q k => by
  simp only [evE] at e
  obtain ⟨⟨x, S1⟩, e1, e⟩ := Option.bind_eq_some_iff.mp e
  obtain ⟨⟨y, S2⟩, e2, e⟩ := Option.bind_eq_some_iff.mp e
  obtain ⟨x', e3, e⟩ := Option.bind_eq_some_iff.mp e
  obtain ⟨y', e4, e⟩ := Option.bind_eq_some_iff.mp e
  obtain ⟨o, e5, e⟩ := Option.bind_eq_some_iff.mp e
  obtain ⟨z, e6, e⟩ := Option.map_eq_some_iff.mp e
  cases e
  subst e6
  refine ha _ _ _ _ e1 g σ H r hσ _ fun g1 H1 v l1 r1 h1 => hb _ _ _ _ e2 g1 σ H1 r1 (hσ.mono l1) _ fun g2 H2 u l2 r2 h2 => ?_
  obtain ⟨p, ov, rfl, q1, vz, rfl, q2⟩ := dLook_ok r2 (r2.shW (RepW.mono l2 h1) e3) (r2.shW h2 e4) e5
  exact ⟨p, vz, rfl, q1, k g2 H2 vz (l1.trans l2) r2 q2⟩
theorem ok_din {a b : E} (hb : OkE K fa C c tb b) (ha : OkE K fa C c tb a) : OkE K fa C c tb (.din b a) := fun ρ S w S' e g σ H r hσ Q k => by
  simp only [evE] at e
  obtain ⟨⟨y, S1⟩, e1, e⟩ := Option.bind_eq_some_iff.mp e
  obtain ⟨⟨x, S2⟩, e2, e⟩ := Option.bind_eq_some_iff.mp e
  obtain ⟨x', e3, e⟩ := Option.bind_eq_some_iff.mp e
  obtain ⟨y', e4, e⟩ := Option.bind_eq_some_iff.mp e
  obtain ⟨o, e5, e⟩ := Option.map_eq_some_iff.mp e
  cases e
  refine hb _ _ _ _ e1 g σ H r hσ _ fun g1 H1 u l1 r1 h1 => ha _ _ _ _ e2 g1 σ H1 r1 (hσ.mono l1) _ fun g2 H2 v l2 r2 h2 => ?_
  obtain ⟨p, ov, rfl, q1, q2⟩ := dLook_ok r2 (r2.shW h2 e3) (r2.shW (RepW.mono l2 h1) e4) e5
  refine ⟨p, ov, rfl, q1, k g2 H2 _ (l1.trans l2) r2 ?_⟩
  simp only [RepW, RepD]
  cases o with
  | none => subst q2; rfl
  | some d => obtain ⟨v', rfl, _⟩ := q2; rfl
theorem ok_dnin {a b : E} (hb : OkE K fa C c tb b) (ha : OkE K fa C c tb a) : OkE K fa C c tb (.dnin b a) := fun ρ S w S' e g σ H r hσ Q k => by
  simp only [evE] at e
  obtain ⟨⟨y, S1⟩, e1, e⟩ := Option.bind_eq_some_iff.mp e
  obtain ⟨⟨x, S2⟩, e2, e⟩ := Option.bind_eq_some_iff.mp e
  obtain ⟨x', e3, e⟩ := Option.bind_eq_some_iff.mp e
  obtain ⟨y', e4, e⟩ := Option.bind_eq_some_iff.mp e
  obtain ⟨o, e5, e⟩ := Option.map_eq_some_iff.mp e
  cases e
  refine hb _ _ _ _ e1 g σ H r hσ _ fun g1 H1 u l1 r1 h1 => ha _ _ _ _ e2 g1 σ H1 r1 (hσ.mono l1) _ fun g2 H2 v l2 r2 h2 => ?_
  obtain ⟨p, ov, rfl, q1, q2⟩ := dLook_ok r2 (r2.shW h2 e3) (r2.shW (RepW.mono l2 h1) e4) e5
  refine ⟨p, ov, rfl, q1, k g2 H2 _ (l1.trans l2) r2 ?_⟩
  simp only [RepW, RepD]
  cases o with
  | none => subst q2; rfl
  | some d => obtain ⟨v', rfl, _⟩ := q2; rfl
theorem setAt_some {S : Store} {n : Nat} {ks : List Key} (h : setAt S n = some ks) : S[n]? = some (.set ks) := by
  unfold setAt at h
  split at h
  · cases h; assumption
  · cases h
theorem ok_sin {neg : Bool} {a b : E} (hb : OkE K fa C c tb b) (ha : OkE K fa C c tb a) : OkE K fa C c tb (.sin neg b a) := fun ρ S w S' e g σ H r hσ Q k => by
  simp only [evE] at e
  obtain ⟨⟨y, S1⟩, e1, e⟩ := Option.bind_eq_some_iff.mp e
  obtain ⟨⟨x, S2⟩, e2, e⟩ := Option.bind_eq_some_iff.mp e
  cases y with
  | mu _ => cases e
  | d kd =>
  cases x with
  | d _ => cases e
  | mu n =>
    obtain ⟨kk, e3, e⟩ := Option.bind_eq_some_iff.mp e
    obtain ⟨ks, e4, e⟩ := Option.map_eq_some_iff.mp e
    cases e
    refine hb _ _ _ _ e1 g σ H r hσ _ fun g1 H1 u l1 r1 h1 => ha _ _ _ _ e2 g1 σ H1 r1 (hσ.mono l1) _ fun g2 H2 v l2 r2 h2 => ?_
    obtain ⟨rfl, hn⟩ := h2
    obtain ⟨o, m1, m2, m3⟩ := r2.live n _ (setAt_some e4) (fun z => nomatch z)
    have m2' : o = SetK fa.P fa.w (g2.φ n) (fun k => hasK k ks) ks.length := m2
    subst m2'
    exact ⟨kk, _, _, _, keyOf_ok (K := K) (fa := fa) e3 (RepD.mono l2.G h1), rfl, m1, k g2 H2 _ (l1.trans l2) r2 (by simp only [RepW, RepD])⟩
theorem ok_sortR {i : Nat} : OkE K fa C c tb (.sortR i) := fun ρ S w S' e g σ H r hσ Q k => by
  simp only [evE] at e
  split at e
  case h_2 => cases e
  rename_i ds hn
  obtain ⟨ns, e1, e⟩ := Option.bind_eq_some_iff.mp e
  split at e
  case isFalse => cases e
  rename_i hl
  cases e
  obtain ⟨v, q1, q2⟩ := hσ.2 i _ hn
  simp only [RepW, RepD] at q2
  obtain ⟨a, vs, rfl, q, h2⟩ := q2
  rw [intsOf_ok e1] at h2
  rw [h2.ints] at q
  refine ⟨a, ns, q1, .of (r.lst q), hl, fun p hp => (r.tb p hp).1, fun H1 ex ts D hD => ?_⟩
  have r1 := r.tables ex ts
  have l := Gh.le_add (g := g) (p := D) (o := HO.lst ((PvLm.byNeg ns).map fun j : Nat => V.int (j : Int))) (r1.fresh hD)
  refine k _ _ _ l (r1.add hD) ?_
  simp only [RepW, RepD]
  refine ⟨D, _, rfl, upd_same, ?_⟩
  have e2 : ((PvLm.byNeg ns).map fun j : Nat => V.int (j : Int)) = ((PvLm.byNeg ns).map fun j : Nat => (j : Int)).map V.int := by rw [List.map_map]; rfl
  rw [e2]
  have e4 : ((PvLm.byNeg ns).map fun j : Nat => Pv.D.int (j : Int)) = ((PvLm.byNeg ns).map fun j : Nat => (j : Int)).map Pv.D.int := by rw [List.map_map]; rfl
  rw [e4]
  exact RepDs.of_ints
theorem ok_get1 {a b : E} (ha : OkE K fa C c tb a) (hb : OkE K fa C c tb b) : OkE K fa C c tb (.get1 a b) := fun ρ S w S' e g σ H r hσ Q k => by
  simp only [evE] at e
  obtain ⟨⟨x, S1⟩, e1, e⟩ := Option.bind_eq_some_iff.mp e
  obtain ⟨x1, e0, e⟩ := Option.bind_eq_some_iff.mp e
  split at e
  case isFalse => cases e
  rename_i hd
  obtain ⟨⟨y, S2⟩, e2, e⟩ := Option.bind_eq_some_iff.mp e
  obtain ⟨x', e3, e⟩ := Option.bind_eq_some_iff.mp e
  obtain ⟨y', e4, e⟩ := Option.bind_eq_some_iff.mp e
  obtain ⟨o, e5, e⟩ := Option.map_eq_some_iff.mp e
  cases e
  refine ha _ _ _ _ e1 g σ H r hσ _ fun g1 H1 v l1 r1 h1 => ?_
  obtain ⟨p, rfl, hp⟩ := isDct_ok (r1.shW h1 e0) hd
  refine ⟨p, rfl, hp, hb _ _ _ _ e2 g1 σ H1 r1 (hσ.mono l1) _ fun g2 H2 u l2 r2 h2 => ?_⟩
  obtain ⟨p', ov, ep, q1, q2⟩ := dLook_ok r2 (r2.shW (RepW.mono l2 h1) e3) (r2.shW h2 e4) e5
  cases ep
  refine ⟨ov, q1, k g2 H2 _ (l1.trans l2) r2 ?_⟩
  cases o with
  | none => subst q2; simp only [Option.getD_none, RepW, RepD]
  | some d => obtain ⟨v', rfl, q2⟩ := q2; exact q2
theorem ok_get2 {a b z : E} (ha : OkE K fa C c tb a) (hb : OkE K fa C c tb b) (hz : OkE K fa C c tb z) : OkE K fa C c tb (.get2 a b z) := fun ρ S w S' e g σ H r hσ Q k => by
  simp only [evE] at e
  obtain ⟨⟨x, S1⟩, e1, e⟩ := Option.bind_eq_some_iff.mp e
  obtain ⟨x1, e0, e⟩ := Option.bind_eq_some_iff.mp e
  split at e
  case isFalse => cases e
  rename_i hd
  obtain ⟨⟨y, S2⟩, e2, e⟩ := Option.bind_eq_some_iff.mp e
  obtain ⟨⟨wz, S3⟩, e6, e⟩ := Option.bind_eq_some_iff.mp e
  obtain ⟨x', e3, e⟩ := Option.bind_eq_some_iff.mp e
  obtain ⟨y', e4, e⟩ := Option.bind_eq_some_iff.mp e
  obtain ⟨o, e5, e⟩ := Option.map_eq_some_iff.mp e
  cases e
  refine ha _ _ _ _ e1 g σ H r hσ _ fun g1 H1 v l1 r1 h1 => ?_
  obtain ⟨p, rfl, hp⟩ := isDct_ok (r1.shW h1 e0) hd
  refine ⟨p, rfl, hp, hb _ _ _ _ e2 g1 σ H1 r1 (hσ.mono l1) _ fun g2 H2 u l2 r2 h2 => hz _ _ _ _ e6 g2 σ H2 r2 ((hσ.mono l1).mono l2) _ fun g3 H3 t l3 r3 h3 => ?_⟩
  obtain ⟨p', ov, ep, q1, q2⟩ := dLook_ok r3 (r3.shW (RepW.mono (l2.trans l3) h1) e3) (r3.shW (RepW.mono l3 h2) e4) e5
  cases ep
  refine ⟨ov, q1, k g3 H3 _ (l1.trans (l2.trans l3)) r3 ?_⟩
  cases o with
  | none => subst q2; exact h3
  | some d => obtain ⟨v', rfl, q2⟩ := q2; exact q2
theorem mu_nw {g : Gh} {S : Store} {p : Addr} (hl : S.length = g.n) : RepW K fa (g.push p) (.ref p) (.mu S.length) := by
  refine ⟨?_, by show S.length < g.n + 1; omega⟩
  show V.ref p = V.ref (if S.length = g.n then p else g.φ S.length)
  rw [if_pos hl]
theorem mu_nwC {g : Gh} {S : Store} {p : Addr} {l : List Nat} (hl : S.length = g.n) : RepW K fa ((g.push p).tell S.length l) (.ref p) (.mu S.length) := ⟨(mu_nw (K := K) (fa := fa) (p := p) hl).1, (mu_nw (K := K) (fa := fa) (p := p) hl).2⟩
theorem ok_nD : OkE K fa C c tb .nD := fun ρ S w S' e g σ H r hσ Q k => by
  simp only [evE] at e
  cases e
  intro p hp
  exact k (g.push p) _ _ Gh.le_push (r.push (o := .dK []) (mo := .dK [] []) hp ⟨[], rfl, rfl, RepDs.nil⟩) (mu_nw r.len)
theorem ok_nT : OkE K fa C c tb .nT := fun ρ S w S' e g σ H r hσ Q k => by
  simp only [evE] at e
  cases e
  intro p hp
  exact k (g.push p) _ _ Gh.le_push (r.push (o := .dT []) (mo := .dT [] []) hp ⟨[], rfl, rfl, RepDs.nil⟩) (mu_nw r.len)
theorem ok_nL {as : Es} (ha : OkZ K fa C c tb as) : OkE K fa C c tb (.nL as) := fun ρ S w S' e g σ H r hσ Q k => by
  simp only [evE] at e
  obtain ⟨⟨ds, S1⟩, e1, e⟩ := Option.bind_eq_some_iff.mp e
  split at e
  · rename_i hz
    cases e
    refine ha _ _ _ _ e1 g σ H r hσ _ fun g1 H1 vs l1 r1 h1 => ⟨by rw [h1.length]; exact hz, fun p hp => ?_⟩
    exact k (g1.push p) _ _ (l1.trans Gh.le_push) (r1.push (o := .lst vs) (mo := .lst ds) hp ⟨vs, rfl, h1⟩) (mu_nw r1.len)
  · cases e
theorem insF_some {S : Store} {cl n : Nat} {q : List Str × List W} (h : insF S cl n = some q) : S[n]? = some (.ins cl q.1 q.2) := by
  unfold insF at h
  split at h
  · split at h
    · cases h; rename_i h1 h2; rw [h1, h2]
    · cases h
  · cases h
theorem lookF_ins {g : Gh} {f : Str} {w : W} : ∀ {fs : List (Str × V)} {ws : List W}, RWs K fa g (fs.map (·.2)) ws → lookF f (fs.map (·.1)) ws = some w → ∃ v, fs.lookup f = some v ∧ RepW K fa g v w
  | [], ws, h, e => by cases ws <;> simp [lookF] at e
  | (q, v) :: fs, [], h, e => by simp [lookF] at e
  | (q, v) :: fs, x :: ws, h, e => by
    simp only [List.map_cons] at h e
    cases h with
    | cons h1 h2 =>
      simp only [lookF] at e
      by_cases hq : q = f
      · subst hq
        simp at e; subst e
        exact ⟨v, by simp [List.lookup], h1⟩
      · rw [if_neg hq] at e
        obtain ⟨v', a, b⟩ := lookF_ins h2 e
        exact ⟨v', by rw [List.lookup_cons, show (f == q) = false by simpa using fun z : f = q => hq z.symm]; exact a, b⟩
theorem lookF_dict {g : Gh} {f : Key} {w : W} : ∀ {fs : List (Key × V)} {ws : List W}, RWs K fa g (fs.map (·.2)) ws → lookF f (fs.map (·.1)) ws = some w → ∃ v, valV fs f = some v ∧ RepW K fa g v w
  | [], ws, h, e => by cases ws <;> simp [lookF] at e
  | (q, v) :: fs, [], h, e => by simp [lookF] at e
  | (q, v) :: fs, x :: ws, h, e => by
    simp only [List.map_cons] at h e
    cases h with
    | cons h1 h2 =>
      simp only [lookF] at e
      by_cases hq : q = f
      · subst hq
        simp at e; subst e
        exact ⟨v, by simp [valV], h1⟩
      · rw [if_neg hq] at e
        obtain ⟨v', a, b⟩ := lookF_dict h2 e
        exact ⟨v', by simpa [valV, hq] using a, b⟩
theorem putFW_ok {g : Gh} {f : Str} {v : V} {w : W} (hv : RepW K fa g v w) : ∀ {fs : List (Str × V)} {ws : List W}, RWs K fa g (fs.map (·.2)) ws → (L2.putF f v fs).map (·.1) = (putFW f w (fs.map (·.1)) ws).1 ∧ RWs K fa g ((L2.putF f v fs).map (·.2)) (putFW f w (fs.map (·.1)) ws).2
  | [], ws, h => by cases h; exact ⟨rfl, .cons hv .nil⟩
  | (q, x) :: fs, ws, h => by
    simp only [List.map_cons] at h
    cases h with
    | cons h1 h2 =>
      obtain ⟨i1, i2⟩ := putFW_ok (f := f) hv h2
      simp only [L2.putF, List.map_cons, putFW]
      by_cases hq : q = f
      · simp only [if_pos hq, List.map_cons]
        exact ⟨trivial, .cons hv h2⟩
      · simp only [if_neg hq, List.map_cons]
        exact ⟨by rw [i1], .cons h1 i2⟩
theorem replF_ok {g : Gh} {k : Key} {d : W} {v : V} (hv : RepW K fa g v d) : ∀ {kvs : List (Key × V)} {ds : List W}, RWs K fa g (kvs.map (·.2)) ds →
    RWs K fa g ((kvs.map fun kv => if kv.1 = k then (kv.1, v) else kv).map (·.2)) (replF k d (kvs.map (·.1)) ds)
  | [], ds, h => by cases h; exact .nil
  | kv :: kvs, ds, h => by
    simp only [List.map_cons] at h
    cases h with
    | cons h1 h2 =>
      simp only [List.map_cons, replF]
      refine .cons ?_ (replF_ok hv h2)
      split
      · exact hv
      · exact h1
theorem putW_ok {g : Gh} {k : Key} {d : W} {v : V} (hv : RepW K fa g v d) {kvs : List (Key × V)} {ds : List W} (h : RWs K fa g (kvs.map (·.2)) ds) :
    (putK kvs k v).map (·.1) = (putW k d (kvs.map (·.1)) ds).1 ∧ RWs K fa g ((putK kvs k v).map (·.2)) (putW k d (kvs.map (·.1)) ds).2 := by
  have ea : ((kvs.map (·.1)).any fun q => decide (q = k)) = kvs.any fun kv => decide (kv.1 = k) := by
    rw [List.any_map]; rfl
  unfold putK putW
  rw [ea]
  split
  · refine ⟨?_, replF_ok hv h⟩
    show List.map _ (List.map _ kvs) = List.map _ kvs
    rw [List.map_map]
    apply List.map_congr_left
    intro kv _
    show (if kv.1 = k then (kv.1, v) else kv).1 = kv.1
    split <;> rfl
  · refine ⟨by simp, ?_⟩
    rw [List.map_append]
    exact RWs.append h (.cons hv .nil)
theorem ok_fld {cl : Nat} {a : E} {f : Str} (ha : OkE K fa C c tb a) : OkE K fa C c tb (.fld cl a f) := fun ρ S w S' e g σ H r hσ Q k => by
  simp only [evE] at e
  obtain ⟨⟨x, S1⟩, e1, e⟩ := Option.bind_eq_some_iff.mp e
  cases x with
  | d _ => cases e
  | mu n =>
    obtain ⟨q, e2, e⟩ := Option.bind_eq_some_iff.mp e
    obtain ⟨w', e3, e⟩ := Option.map_eq_some_iff.mp e
    cases e
    refine ha _ _ _ _ e1 g σ H r hσ _ fun g1 H1 v l1 r1 h1 => ?_
    obtain ⟨rfl, hn⟩ := h1
    obtain ⟨u, m1, ⟨dx, fs, rfl, e4, m2⟩, m3⟩ := r1.live n _ (insF_some e2) (fun z => nomatch z)
    rw [← e4] at e3
    obtain ⟨v, l, hw⟩ := lookF_ins m2 e3
    exact ⟨_, dx, fs, v, rfl, m1, l, k g1 H1 v l1 r1 hw⟩
theorem dWAt_some {S : Store} {n : Nat} {q : List Key × List W} (h : dWAt S n = some q) : S[n]? = some (.dW q.1 q.2) := by
  unfold dWAt at h
  split at h
  · cases h; assumption
  · cases h
theorem ok_wget {a b : E} (ha : OkE K fa C c tb a) (hb : OkE K fa C c tb b) : OkE K fa C c tb (.wget a b) := fun ρ S w S' e g σ H r hσ Q k => by
  simp only [evE] at e
  obtain ⟨⟨x, S1⟩, e1, e⟩ := Option.bind_eq_some_iff.mp e
  obtain ⟨⟨y, S2⟩, e2, e⟩ := Option.bind_eq_some_iff.mp e
  cases x with
  | d _ => cases e
  | mu n =>
  cases y with
  | mu _ => cases e
  | d kd =>
    obtain ⟨kk, e3, e⟩ := Option.bind_eq_some_iff.mp e
    obtain ⟨q, e4, e⟩ := Option.bind_eq_some_iff.mp e
    obtain ⟨w', e5, e⟩ := Option.map_eq_some_iff.mp e
    cases e
    refine ha _ _ _ _ e1 g σ H r hσ _ fun g1 H1 v l1 r1 h1 => hb _ _ _ _ e2 g1 σ H1 r1 (hσ.mono l1) _ fun g2 H2 u l2 r2 h2 => ?_
    obtain ⟨rfl, hn⟩ := RepW.mono l2 h1
    obtain rfl := keyOf_ok (K := K) (fa := fa) e3 h2
    obtain ⟨u, m1, ⟨kvs, rfl, e6, m2⟩, m3⟩ := r2.live n _ (dWAt_some e4) (fun z => nomatch z)
    rw [← e6] at e5
    obtain ⟨v, l, hw⟩ := lookF_dict m2 e5
    exact ⟨_, v, rfl, .inl ⟨kvs, kk, .inl m1, rfl, l.symm⟩, k g2 H2 v (l1.trans l2) r2 hw⟩
theorem any_ok {g : Gh} {H : Hp} {S : Store} {ws : List W} {vs : List V} {f : Nat} {w : W} {S' : Store} {Q : VK} {E : XK} (r : Rel K fa g H S) (hv : RWs K fa g vs ws) (ho : c.ob = true → g.ro = false) (e : c.any f ws S = some (w, S')) (k : PWs K fa g S' Q w) : spC K fa C c f vs H Q E := by
  refine ⟨g, S, ws, r, hv, ?_⟩
  unfold Call.any at e
  split at e
  · rename_i d S2 he
    cases e
    exact .inl (.inl ⟨d, _, he, k⟩)
  · split at e
    · rename_i hob
      exact .inr ⟨ho hob, .inl ⟨w, S', e, k⟩⟩
    · cases e
theorem anyx_ok {g : Gh} {H : Hp} {S : Store} {ws : List W} {vs : List V} {f : Nat} {d : D} {S' : Store} {Q : VK} {E : XK} (r : Rel K fa g H S) (hv : RWs K fa g vs ws) (ho : c.ob = true → g.ro = false) (e : c.anyx f ws S = some (d, S')) (k : PX K fa C g S' E d) : spC K fa C c f vs H Q E := by
  refine ⟨g, S, ws, r, hv, ?_⟩
  unfold Call.anyx at e
  split at e
  · rename_i d2 S2 he
    cases e
    exact .inl (.inr ⟨d, _, he, k⟩)
  · split at e
    · rename_i hob
      exact .inr ⟨ho hob, .inr ⟨d, S', e, k⟩⟩
    · cases e
theorem insC_some {S : Store} {n cl : Nat} {m : Str} (h : insC S n m = some cl) : ∃ ks ws, S[n]? = some (.ins cl ks ws) ∧ ks.contains m = false := by
  unfold insC at h
  split at h
  · rename_i cl' ks ws hs
    split at h
    · cases h
    · rename_i hc
      cases h
      exact ⟨ks, ws, hs, by simpa using hc⟩
  · cases h
theorem lookup_not {m : Str} : ∀ {fs : List (Str × V)}, (fs.map (·.1)).contains m = false → fs.lookup m = none
  | [], _ => rfl
  | (q, v) :: fs, h => by
    simp only [List.map_cons, List.contains_cons, Bool.or_eq_false_iff] at h
    rw [List.lookup_cons, h.1]
    exact lookup_not h.2
theorem ok_mth {cl f : Nat} {m : Str} {a : E} {as : Es} (ha : OkE K fa C c tb a) (hs : OkEs K fa C c tb as) : OkE K fa C c tb (.mth cl f m a as) := fun ρ S w S' e g σ H r hσ Q k => by
  simp only [evE] at e
  obtain ⟨⟨x, S1⟩, e1, e⟩ := Option.bind_eq_some_iff.mp e
  cases x with
  | d _ => cases e
  | mu n =>
    simp only at e
    split at e
    case isFalse => cases e
    rename_i hc
    obtain ⟨⟨ws, S2⟩, e2, e⟩ := Option.bind_eq_some_iff.mp e
    refine ha _ _ _ _ e1 g σ H r hσ _ fun g1 H1 v l1 r1 h1 => ?_
    obtain ⟨ks, us, h3, h4⟩ := insC_some hc
    have h1' := h1
    obtain ⟨rfl, hn⟩ := h1'
    obtain ⟨u, m1, ⟨dx, fs, rfl, e4, m2⟩, m3⟩ := r1.live n _ h3 (fun z => nomatch z)
    refine ⟨_, dx, fs, rfl, m1, lookup_not (by rw [e4]; exact h4), hs _ _ _ _ e2 g1 σ H1 r1 (hσ.mono l1) _ fun g2 H2 vs l2 r2 h2 => ?_⟩
    rw [List.append_nil]
    exact any_ok r2 (.cons (RepW.mono l2 h1) h2) (((hσ.mono l1).mono l2).3) e fun g3 H3 v3 l3 r3 h3 => k g3 H3 v3 (l1.trans (l2.trans l3)) r3 h3
theorem ok_callA {f : Nat} {as : Es} (hs : OkEs K fa C c tb as) : OkE K fa C c tb (.callA f as) := fun ρ S w S' e g σ H r hσ Q k => by
  simp only [evE] at e
  obtain ⟨⟨ws, S2⟩, e2, e⟩ := Option.bind_eq_some_iff.mp e
  refine hs _ _ _ _ e2 g σ H r hσ _ fun g2 H2 vs l2 r2 h2 => ?_
  show spC K fa C c f (vs ++ []) H2 Q E0
  rw [List.append_nil]
  exact any_ok r2 h2 (hσ.mono l2).3 e fun g3 H3 v3 l3 r3 h3 => k g3 H3 v3 (l2.trans l3) r3 h3
theorem ok_mkO {cl f : Nat} {as : Es} (hs : OkEs K fa C c tb as) : OkE K fa C c tb (.mkO cl f as) := fun ρ S w S' e g σ H r hσ Q k => by
  simp only [evE] at e
  split at e
  case isFalse => cases e
  rename_i hob
  obtain ⟨⟨ws, S2⟩, e2, e⟩ := Option.bind_eq_some_iff.mp e
  obtain ⟨⟨w3, S3⟩, e3, e⟩ := Option.bind_eq_some_iff.mp e
  split at e
  case h_2 => cases e
  rename_i hw
  obtain rfl : w3 = _ := hw
  cases e
  refine hs _ _ _ _ e2 g σ H r hσ _ fun g2 H2 vs l2 r2 h2 => fun x dx hx hdx hne => ?_
  rw [List.append_nil]
  have hx' : upd H2 dx (.own x) x = none := by rw [upd_ne hne.symm]; exact hx
  have ro := (hσ.mono l2).3 hob
  have r3 := (r2.junk (o := .own x) hdx).pushC (p := x) (o := .ins (fa.cl cl) dx []) (mo := .ins cl [] []) hx' ⟨dx, [], rfl, rfl, .nil⟩
  have l3 : g2.le ((g2.push x).tell S2.length (MO.ins cl [] []).refs) := Gh.le_push.trans (Gh.le_tell (g := g2.push x) ro)
  refine ⟨_, _, .mu S2.length :: ws, r3, .cons (mu_nwC r2.len) (h2.mono l3), .inr ⟨ro, .inl ⟨.d .non, S3, e3, fun g4 H4 v l4 r4 h4 => ?_⟩⟩⟩
  simp only [RepW, RepD] at h4
  exact ⟨h4, k g4 H4 _ (l2.trans (l3.trans l4)) r4 (RepW.mono l4 (mu_nwC r2.len))⟩
theorem rep_pairs {G : Hp} : ∀ {kvs : List (Key × V)} {ts : List Addr} {ds : List D}, RepDs K fa G (kvs.map (·.2)) ds → Paired (fun (t : Addr) (q : Key × V) => G t = some (.tup [kV q.1, q.2])) ts kvs → RepDs K fa G (ts.map V.ref) (pairsD (kvs.map (·.1)) ds)
  | [], ts, ds, h, p => by
    cases p
    cases ds <;> exact RepDs.nil
  | q :: kvs, ts, ds, h, p => by
    cases p with
    | cons h1 h2 =>
      cases ds with
      | nil => simp only [List.map_cons, RepDs] at h; cases h
      | cons d ds =>
        simp only [List.map_cons, RepDs] at h
        obtain ⟨v, t, e, h3, h4⟩ := h
        injection e with e1 e2
        subst e1; subst e2
        simp only [List.map_cons, pairsD]
        refine RepDs.cons ?_ (rep_pairs h4 h2)
        simp only [RepD]
        exact ⟨_, _, rfl, .inl h1, RepDs.cons (rep_key q.1) (RepDs.cons h3 RepDs.nil)⟩
theorem leF {g1 gb g4 : Gh} {p : Addr} {o : HO} (l1 : g1.le gb) (l2 : (gb.hold p o).le g4) : g1.le { g4 with F := g1.F } :=
  ⟨fun a u e => l2.G a u (l1.G a u e), fun i hi => (l2.φ i (Nat.lt_of_lt_of_le hi l1.n)).trans (l1.φ i hi), Nat.le_trans l1.n l2.n, l2.lk.trans l1.lk, rfl, l2.ro.trans l1.ro, fun z => (l2.I (l1.ro.trans z)).trans (l1.I z)⟩
theorem comp_coreG {vs : List Nat} {tg : Tg} {cond : To} {elt : E} {fe : En → Store → Option (W × Store)} {g1 : Gh} (hc : OkTo K fa C c tb cond)
    (he : ∀ ρ S w S', fe ρ S = some (w, S') → ∀ (g : Gh) σ H, g1.le { g with F := g1.F } → (∀ a u, g1.F a = some u → g.F a = some u) → Rel K fa g H S → RepEn K fa c.ob g σ ρ → ∀ Q : VK, (∀ g' H' v, g.le g' → Rel K fa g' H' S' → RepW K fa g' v w → Q v H') → tE K fa (spC K fa C c) tb elt σ H Q) (htg : tgIn tg vs = true) {ρ : En} {S1 S2 : Store} {ds res : List D}
    (e2 : compL (fun (d : D) (S : Store) => (asgn tg d (wipeE ρ vs)).bind fun ρ' => (evTo c cond ρ' S).bind fun q =>
      if q.1 = true then (fe ρ' q.2).bind fun w => (fzW w.1 w.2).map fun z => (some z.1, z.2) else some (none, q.2)) ds S1 [] = some (res, S2)) {σ : L2.St} {H1 : Hp} {J : L2.It} (r1 : Rel K fa g1 H1 S1) (hσ : RepEn K fa c.ob g1 σ ρ) (src : SrcF K fa g1 J ds) {Q : VK}
    (k : ∀ gb H' p accV, g1.le gb → (∀ a u, gb.F a = some u → a ≠ p) → Rel K fa (gb.hold p (.lst accV)) H' S2 → RepDs K fa gb.G accV res → Q (.ref p) H') : tLc (fun _ H R => R J H) (tTg K tg) (tTo K fa (spC K fa C c) tb cond) (tE K fa (spC K fa C c) tb elt) vs σ H1 Q := by
  intro p hp
  have hFp : ∀ a u, g1.F a = some u → a ≠ p ∧ g1.F a = some u := fun a u ea => ⟨ne_of_none (r1.frm a u ea).1 hp, ea⟩
  generalize hf : (fun (d : D) (S : Store) => (asgn tg d (wipeE ρ vs)).bind fun ρ' => (evTo c cond ρ' S).bind fun q =>
      if q.1 = true then (fe ρ' q.2).bind fun w => (fzW w.1 w.2).map fun z => (some z.1, z.2) else some (none, q.2)) = f at e2
  refine ⟨fun i m H => m = ds.length - i ∧ i ≤ ds.length ∧ ∃ gb S' acc accV, g1.le gb ∧ Rel K fa (gb.hold p (.lst accV)) H S' ∧ RepDs K fa gb.G accV acc ∧ compL f (ds.drop i) S' acc = some (res, S2),
    ⟨_, rfl, Nat.zero_le _, g1, S1, [], [], .refl g1, r1.hold hp, RepDs.nil, by simpa using e2⟩, ?_⟩
  rintro i m H ⟨rfl, hil, gb, S', acc, accV, lb, rb, hacc, ec⟩
  have s0 := src i _ H S' (show GLe g1.G (gb.hold p (.lst accV)).G from lb.G) (fun a u ea => by show upd gb.F p _ a = some u; rw [upd_ne (hFp a u ea).1, lb.F]; exact ea) rb
  rcases Nat.eq_or_lt_of_le hil with hi | hi
  · left
    refine ⟨s0.2 (by omega), ?_⟩
    subst hi
    rw [List.drop_length] at ec
    simp only [compL] at ec
    cases ec
    exact k gb H p accV lb (fun a u ea => by rw [lb.F] at ea; exact (hFp a u ea).1) rb hacc
  · right
    have hd : ds[i]? = some ds[i] := List.getElem?_eq_getElem hi
    obtain ⟨hgo, hy⟩ := s0.1 _ hd
    have edrop : ds.drop i = ds[i] :: ds.drop (i + 1) := List.drop_eq_getElem_cons hi
    rw [edrop] at ec
    simp only [compL] at ec
    obtain ⟨⟨o, S3⟩, e3, ec⟩ := Option.bind_eq_some_iff.mp ec
    refine ⟨hgo, fun H => ∃ gb S' acc accV, g1.le gb ∧ Rel K fa (gb.hold p (.lst accV)) H S' ∧ RepDs K fa gb.G accV acc ∧ compL f (ds.drop (i + 1)) S' acc = some (res, S2),
      fun H' q => ⟨ds.length - (i + 1), by omega, rfl, hi, q⟩, fun x H' y => ?_⟩
    obtain ⟨g2, l2, r2, hx⟩ := hy x H' y
    rw [← hf] at e3
    obtain ⟨ρ', e4, e3⟩ := Option.bind_eq_some_iff.mp e3
    have hσ2 : RepEn K fa c.ob g2 (L2.wipe σ vs) (wipeE ρ vs) := by
      have h1 := hσ.wipe vs
      refine ⟨h1.1, fun j w ej => ?_, fun z => (leF lb l2).ro.trans (h1.3 z)⟩
      obtain ⟨v, a, b⟩ := h1.2 j w ej
      refine ⟨v, a, ?_⟩
      have b2 := RepW.mono (leF lb l2) b
      cases w with
      | d z => exact b2
      | mu n => exact b2
    refine tg_ok r2 e4 hx hσ2 fun σ2 hσ3 hw => ⟨(hw vs htg).trans wipe_wipe, ?_⟩
    -- the element, once the test has let it in
    have elem : ∀ g3 H3 S4, g2.le g3 → Rel K fa g3 H3 S4 → ((fe ρ' S4).bind fun w => (fzW w.1 w.2).map fun z => (some z.1, z.2)) = some (o, S3) →
        tE K fa (spC K fa C c) tb elt σ2 H3 fun y H4 => ∃ acc, H4 p = some (.lst acc) ∧ acc.length < sizeLine ∧ (fun H => ∃ gb S' acc accV, g1.le gb ∧ Rel K fa (gb.hold p (.lst accV)) H S' ∧ RepDs K fa gb.G accV acc ∧ compL f (ds.drop (i + 1)) S' acc = some (res, S2)) (upd H4 p (.lst (acc ++ [y]))) := fun g3 H3 S4 l3 r3 e5 => by
      obtain ⟨⟨w5, S5⟩, e6, e5⟩ := Option.bind_eq_some_iff.mp e5
      obtain ⟨⟨d5, S6⟩, e7, e5⟩ := Option.map_eq_some_iff.mp e5
      cases e5
      have l23 := l2.trans l3
      refine he _ _ _ _ e6 g3 σ2 H3 (leF lb l23) (fun a u ea => by rw [l23.F]; show upd gb.F p _ a = some u; rw [upd_ne (hFp a u ea).1, lb.F]; exact ea) r3 (hσ3.mono l3) _ fun g4 H4 y l4 r4 h4 => ?_
      obtain ⟨g5, l5, r5, h5⟩ := r4.fz h4 e7
      have l25 := l2.trans (l3.trans (l4.trans l5))
      have hF5 : g5.F p = some (.lst accV) := by rw [l25.F]; exact upd_same
      simp only at ec
      split at ec
      case isFalse => cases ec
      rename_i hz
      refine ⟨accV, (r5.frm p _ hF5).1, by rw [hacc.length]; exact hz, { g5 with F := g1.F }, _, acc ++ [d5], accV ++ [y], leF lb l25, ?_, RepDs.append (RepDs.mono l25.G hacc) (RepDs.cons h5 RepDs.nil), ec⟩
      have r6 := r5.rehold (o' := .lst (accV ++ [y])) hF5
      have ef : upd g5.F p (HO.lst (accV ++ [y])) = upd g1.F p (HO.lst (accV ++ [y])) := by
        rw [l25.F]
        show upd (upd gb.F p _) p _ = _
        rw [upd_upd, lb.F]
      rw [ef] at r6
      exact r6
    obtain ⟨⟨b, S4⟩, e5, e3⟩ := Option.bind_eq_some_iff.mp e3
    cases cond with
    | none =>
      simp only [evTo] at e5
      cases e5
      simp only [tTo]
      unfold tYes
      simp only [if_true] at e3 ⊢
      exact elem g2 H' S' (Gh.le.refl g2) r2 e3
    | some t =>
      simp only [evTo] at e5
      refine hc _ _ _ _ e5 g2 σ2 H' r2 hσ3 _ fun g3 H3 l3 r3 => ?_
      cases b with
      | true =>
        rw [if_pos rfl]
        simp only [if_true] at e3
        exact elem g3 H3 S4 l3 r3 e3
      | false =>
        rw [if_neg (fun z => nomatch z)]
        simp only [Bool.false_eq_true, if_false] at e3
        cases e3
        have l23 := l2.trans l3
        refine ⟨{ g3 with F := g1.F }, S3, acc, accV, leF lb l23, ?_, RepDs.mono l23.G hacc, ec⟩
        have hF3 : g3.F = upd g1.F p (.lst accV) := by rw [l23.F, ← lb.F]; rfl
        have r6 := r3
        show Rel K fa { g3 with F := upd g1.F p (.lst accV) } H3 S3
        rw [← hF3]
        exact r6

theorem comp_coreJ {vs : List Nat} {tg : Tg} {cond : To} {elt : E} (hc : OkTo K fa C c tb cond) (he : OkE K fa C c tb elt) (htg : tgIn tg vs = true) {ρ : En} {S1 S2 : Store} {ds res : List D}
    (e2 : compL (fun (d : D) (S : Store) => (asgn tg d (wipeE ρ vs)).bind fun ρ' => (evTo c cond ρ' S).bind fun q =>
      if q.1 = true then (evE c elt ρ' q.2).bind fun w => (fzW w.1 w.2).map fun z => (some z.1, z.2) else some (none, q.2)) ds S1 [] = some (res, S2)) {g1 : Gh} {σ : L2.St} {H1 : Hp} {J : L2.It} (r1 : Rel K fa g1 H1 S1) (hσ : RepEn K fa c.ob g1 σ ρ) (src : SrcF K fa g1 J ds) {Q : VK}
    (k : ∀ gb H' p accV, g1.le gb → (∀ a u, gb.F a = some u → a ≠ p) → Rel K fa (gb.hold p (.lst accV)) H' S2 → RepDs K fa gb.G accV res → Q (.ref p) H') : tLc (fun _ H R => R J H) (tTg K tg) (tTo K fa (spC K fa C c) tb cond) (tE K fa (spC K fa C c) tb elt) vs σ H1 Q :=
  comp_coreG (fe := evE c elt) hc (fun ρ S w S' e g σ H _ _ r hσ Q k => he ρ S w S' e g σ H r hσ Q k) htg e2 r1 hσ src k
theorem comp_core {vs : List Nat} {tg : Tg} {it : It} {cond : To} {elt : E} (hi : OkI K fa C c tb it) (hc : OkTo K fa C c tb cond) (he : OkE K fa C c tb elt) {ρ : En} {S S2 : Store} {res : List D}
    (e : evE c (.comp vs tg it cond elt) ρ S = some (.d (.lst res), S2)) {g : Gh} {σ : L2.St} {H : Hp} (r : Rel K fa g H S) (hσ : RepEn K fa c.ob g σ ρ) {Q : VK}
    (k : ∀ gb H' p accV, g.le gb → (∀ a u, gb.F a = some u → a ≠ p) → Rel K fa (gb.hold p (.lst accV)) H' S2 → RepDs K fa gb.G accV res → Q (.ref p) H') : tE K fa (spC K fa C c) tb (.comp vs tg it cond elt) σ H Q := by
  simp only [evE] at e
  split at e
  case isFalse => cases e
  rename_i htg
  obtain ⟨⟨ds, S1⟩, e1, e⟩ := Option.bind_eq_some_iff.mp e
  obtain ⟨⟨res, S2⟩, e2, e⟩ := Option.map_eq_some_iff.mp e
  cases e
  exact hi _ _ _ _ e1 g σ H r hσ _ fun g1 H1 J l1 r1 src => comp_coreJ (J := J) hc he htg e2 r1 (hσ.mono l1) src.F fun gb H' p accV lb => k gb H' p accV (l1.trans lb)
theorem ok_compK {vs : List Nat} {tg : Tg} {i : Nat} {cond : To} {elt : E} (hc : OkTo K fa C c tb cond) (he : OkE K fa C c tb elt) : OkE K fa C c tb (.compK vs tg i cond elt) := fun ρ S w S' e g σ H r hσ Q k => by
  simp only [evE] at e
  split at e
  case h_2 => cases e
  rename_i n hn
  split at e
  case h_2 => cases e
  rename_i ks es hs
  split at e
  case isFalse => cases e
  rename_i htg
  obtain ⟨⟨res, S2⟩, e2, e⟩ := Option.map_eq_some_iff.mp e
  cases e
  obtain ⟨v, q1, rfl, q3⟩ := hσ.2 i _ hn
  obtain ⟨u, m1, ⟨kvs, rfl, m2, m4⟩, m3⟩ := r.live n _ hs (fun z => nomatch z)
  subst m2
  refine ⟨g.φ n, .dK kvs, m1, trivial, fun od => ?_⟩
  have r0 := r.lockF (o := .frz od (.dK kvs)) hs (fun z => nomatch z)
  have hσ0 : RepEn K fa c.ob { g with F := upd g.F (g.φ n) (.frz od (.dK kvs)) } σ ρ := ⟨hσ.1, fun j w ej => by
    obtain ⟨v, a, b⟩ := hσ.2 j w ej
    refine ⟨v, a, ?_⟩
    cases w with
    | d z => exact b
    | mu n => exact b, hσ.3⟩
  refine ⟨_, q1, _, od, rfl, .inl ⟨kvs, upd_same, ?_⟩⟩
  refine comp_coreJ (J := Itk (g.φ n) od kvs) (Q := fun v H' => H' (g.φ n) = some (HO.frz od (HO.dK kvs)) ∧ Q v (upd H' (g.φ n) (HO.dK kvs))) hc he htg e2 r0 hσ0 (src_keys (d := g.φ n) upd_same) fun gb H' p accV lb hF rb hacc => ?_
  have hd : gb.F (g.φ n) = some (.frz od (.dK kvs)) := by rw [lb.F]; exact upd_same
  have hdp := hF _ _ hd
  have hd' := (rb.frm (g.φ n) _ (by show upd gb.F p _ (g.φ n) = _; rw [upd_ne hdp]; exact hd)).1
  refine ⟨hd', ?_⟩
  obtain ⟨rf, hg⟩ := rb.unhold (p := p) (o := .lst accV) (F0 := gb.F) upd_same fun a u ea => ⟨hF a u ea, by show upd gb.F p _ a = some u; rw [upd_ne (hF a u ea)]; exact ea⟩
  have la := (Gh.le_add (g := gb.hold p (.lst accV)) (p := p) (o := HO.lst accV) hg)
  have rl := rf.letgo (p := g.φ n) (o' := .dK kvs) (F0 := g.F) hd fun a u ea => by
    have ne : a ≠ g.φ n := fun z => (r.frm a u ea).2.2 n _ hs (fun z => nomatch z) z.symm
    refine ⟨ne, ?_⟩
    show gb.F a = some u
    rw [lb.F]
    show upd g.F (g.φ n) _ a = some u
    rw [upd_ne ne]; exact ea
  refine k { (gb.hold p (.lst accV)).add p (.lst accV) with F := g.F } _ _ ⟨fun a u ea => la.G a u (lb.G a u ea), lb.φ, lb.n, lb.lk, rfl, lb.ro, lb.I⟩ rl ?_
  simp only [RepW, RepD]
  exact ⟨p, accV, rfl, upd_same, RepDs.mono la.G hacc⟩
theorem Rel.unlockF {g : Gh} {H : Hp} {S : Store} (r : Rel K fa g H S) {n : Nat} {o o' : HO} {F0 : Hp} {m' : MO} (hp : g.F (g.φ n) = some o) (hF : ∀ a u, F0 a = some u → a ≠ g.φ n ∧ g.F a = some u) (hd : S[n]? = some .dead) (hc' : m'.isC = false) (hm' : RepM K fa { g with F := F0 } (g.φ n) o' m') : Rel K fa { g with F := F0 } (upd H (g.φ n) o') (S.set n m') := by
  obtain ⟨q1, q2, q3⟩ := r.frm _ o hp
  refine ⟨by simpa using r.len, fun a u e => ?_, fun i mo e hm => ?_, fun i j mi mj ei ej hi hj q => ?_, fun a u e => ?_, fun a u e => r.ft a u (hF a u e).2, r.tabU (r.frm_not hp), r.gt, fun i mo e hc => ?_, r.ir⟩
  · rw [upd_ne (ne_of_none (show g.G a = some u from e) q2)]
    exact r.ext a u e
  · rcases getElem?_setS e with ⟨rfl, rfl, _⟩ | ⟨hi, e1⟩
    · exact ⟨_, upd_same, hm', q2⟩
    · obtain ⟨u, h1, h2, h3⟩ := r.live i mo e1 hm
      refine ⟨u, ?_, RepM.same h2, h3⟩
      show upd H (g.φ n) _ (g.φ i) = some u
      rw [upd_ne (q3 i mo e1 hm)]; exact h1
  · rcases getElem?_setS ei with ⟨rfl, rfl, _⟩ | ⟨_, e1⟩
    · rcases getElem?_setS ej with ⟨rfl, rfl, _⟩ | ⟨_, e2⟩
      · rfl
      · exact absurd q.symm (q3 j mj e2 hj)
    · rcases getElem?_setS ej with ⟨rfl, rfl, _⟩ | ⟨_, e2⟩
      · exact absurd q (q3 i mi e1 hi)
      · exact r.inj i j mi mj e1 e2 hi hj q
  · obtain ⟨n1, n2⟩ := hF a u e
    obtain ⟨h1, h2, h3⟩ := r.frm a u n2
    refine ⟨by rw [upd_ne n1]; exact h1, h2, fun i mo ei hi => ?_⟩
    rcases getElem?_setS ei with ⟨rfl, rfl, _⟩ | ⟨_, e1⟩
    · exact fun z => n1 z.symm
    · exact h3 i mo e1 hi
  · rcases getElem?_setS e with ⟨rfl, rfl, _⟩ | ⟨_, e1⟩
    · rw [hc'] at hc; cases hc
    · exact r.ii i mo e1 hc
theorem updS {H : Hp} {a : Addr} {o : HO} (h : H a = some o) : upd H a o = H := by
  funext b
  by_cases hb : b = a
  · rw [hb, upd_same, h]
  · rw [upd_ne hb]
theorem lstAt_some' {S : Store} {n : Nat} {ds : List D} (h : lstAt' S n = some ds) : S[n]? = some (.lst ds) := by
  unfold lstAt' at h
  split at h
  · cases h; assumption
  · cases h
theorem dKAt_some' {S : Store} {n : Nat} {q : List Key × List D} (h : dKAt S n = some q) : S[n]? = some (.dK q.1 q.2) := by
  unfold dKAt at h
  split at h
  · cases h; assumption
  · cases h
theorem isMu_eq {n : Nat} {w : W} (h : isMu n w = true) : w = .mu n := by
  cases w with
  | d _ => cases h
  | mu m => rw [of_decide_eq_true h]
theorem deadAt_eq {S : Store} {n : Nat} (h : deadAt S n = true) : S[n]? = some .dead := by
  unfold deadAt at h
  split at h
  · assumption
  · cases h
theorem cwShape_eq {tg : Tg} {a elt : E} {sh : Nat × Nat × Str × Int} (h : cwShape tg a elt = some sh) : tg = .name sh.1 ∧ a = .wget (.var sh.2.1) (.cst (.str sh.2.2.1)) ∧ elt = .ix (.dget a (.var sh.1)) (.cst (.int sh.2.2.2)) := by
  unfold cwShape at h
  split at h
  · split at h
    · rename_i hh
      obtain ⟨rfl, rfl, rfl⟩ := hh
      cases h
      exact ⟨rfl, rfl, rfl⟩
    · cases h
  · cases h
theorem ok_compA {vs : List Nat} {tg : Tg} {a : E} {cond : To} {elt : E} (ha : OkE K fa C c tb a) (hc : OkTo K fa C c tb cond) : OkE K fa C c tb (.compA vs tg a cond elt) := fun ρ S w S' e g σ H r hσ Q k => by
  simp only [evE] at e
  obtain ⟨sh, esh, e⟩ := Option.bind_eq_some_iff.mp e
  obtain ⟨etg, _, eel⟩ := cwShape_eq esh
  split at e
  case isFalse => cases e
  rename_i htg
  obtain ⟨⟨x, S1⟩, e1, e⟩ := Option.bind_eq_some_iff.mp e
  cases x with
  | d _ => cases e
  | mu n =>
    simp only at e
    obtain ⟨⟨ks, es⟩, e2, e⟩ := Option.bind_eq_some_iff.mp e
    obtain ⟨⟨w2, S2⟩, e3, e⟩ := Option.bind_eq_some_iff.mp e
    split at e
    case isFalse => cases e
    rename_i hw2
    obtain rfl := isMu_eq hw2
    obtain ⟨⟨res, S3⟩, e4, e⟩ := Option.bind_eq_some_iff.mp e
    split at e
    case isFalse => cases e
    rename_i hd3
    cases e
    have hd3' := deadAt_eq hd3
    have hS1 : S1 = S := by
      obtain ⟨_, ea, _⟩ := cwShape_eq esh
      subst ea
      simp only [evE] at e1
      obtain ⟨⟨x1, T1⟩, f1, e1⟩ := Option.bind_eq_some_iff.mp e1
      split at f1
      case h_2 => cases f1
      cases f1
      simp only [flatD, if_true, Option.bind_some] at e1
      split at e1
      case h_2 => cases e1
      obtain ⟨kk, _, e1⟩ := Option.bind_eq_some_iff.mp e1
      obtain ⟨q, _, e1⟩ := Option.bind_eq_some_iff.mp e1
      obtain ⟨w', _, e1⟩ := Option.map_eq_some_iff.mp e1
      cases e1
      rfl
    subst hS1
    have hs := dKAt_some' e2
    obtain ⟨u, m1, ⟨kvs, rfl, m2, m4⟩, m3⟩ := r.live n _ hs (fun z => nomatch z)
    simp only at m2 m4 hs
    subst m2
    have hnl : n < g.n := by rw [← r.len]; exact (List.getElem?_eq_some_iff.mp hs).1
    refine ⟨g.φ n, .dK kvs, m1, trivial, fun od => ?_⟩
    have r0 := r.lockF (o := .frz od (.dK kvs)) hs (fun z => nomatch z)
    have hσ0 : RepEn K fa c.ob { g with F := upd g.F (g.φ n) (.frz od (.dK kvs)) } σ ρ := ⟨hσ.1, fun j w ej => by
      obtain ⟨v, a, b⟩ := hσ.2 j w ej
      refine ⟨v, a, ?_⟩
      cases w with
      | d z => exact b
      | mu n => exact b, hσ.3⟩
    refine ha _ _ _ _ e3 _ σ _ r0 hσ0 _ fun g1 H1 v1 l1 r1 h1 => ?_
    obtain ⟨rfl, hn1⟩ := h1
    have e1φ : g1.φ n = g.φ n := l1.φ n hnl
    have hF1 : g1.F (g1.φ n) = some (.frz od (.dK kvs)) := by rw [l1.F, e1φ]; exact upd_same
    have hH1 := (r1.frm _ _ hF1).1
    refine ⟨g1.φ n, od, rfl, .inl ⟨kvs, hH1, ?_⟩⟩
    have m5 : RepDs K fa g1.G (kvs.map (·.2)) es := RepDs.mono l1.G m4
    simp only at e4
    refine comp_coreG (fe := fun ρ' S' => (evE c a ρ' S').bind fun z => if isMu n z.1 = true then match ρ'[sh.1]? with
      | some (some (.d kd)) => (keyOf kd).bind fun kk => (lookD kk (kvs.map (·.1)) es).bind fun d => (ixRun d (.int sh.2.2.2)).map fun x => (W.d x, z.2)
      | _ => none else none) (J := Itk (g1.φ n) od kvs) (Q := fun v H' => H' (g.φ n) = some (HO.frz od (HO.dK kvs)) ∧ Q v (upd H' (g.φ n) (HO.dK kvs))) hc ?_ htg e4 r1 (hσ0.mono l1) (src_keys (d := g1.φ n) hF1) fun gb H' p accV lb hF rb hacc => ?_
    · intro ρ2 T w2 T' ef g2 σ2 H2 le2 sub2 r2 hσ2 Q2 k2
      obtain ⟨⟨z, T1⟩, f1, ef⟩ := Option.bind_eq_some_iff.mp ef
      split at ef
      case isFalse => cases ef
      rename_i hz
      obtain rfl := isMu_eq hz
      split at ef
      case h_2 => cases ef
      rename_i kd hkd
      obtain ⟨kk, f2, ef⟩ := Option.bind_eq_some_iff.mp ef
      obtain ⟨d, f3, ef⟩ := Option.bind_eq_some_iff.mp ef
      obtain ⟨xd, f4, ef⟩ := Option.map_eq_some_iff.mp ef
      cases ef
      subst eel
      refine ha _ _ _ _ f1 g2 σ2 H2 r2 hσ2 _ fun g3 H3 v3 l3 r3 h3 => ?_
      obtain ⟨rfl, hn3⟩ := h3
      obtain ⟨vk, q1, q2⟩ := (hσ2.mono l3).2 _ _ hkd
      refine ⟨vk, q1, ?_⟩
      obtain rfl := keyOf_ok (K := K) (fa := fa) f2 q2
      have e2φ : g2.φ n = g1.φ n := le2.φ n hn1
      have e3φ : g3.φ n = g2.φ n := l3.φ n (Nat.lt_of_lt_of_le hn1 le2.n)
      have hF3 : g3.F (g3.φ n) = some (.frz od (.dK kvs)) := by rw [l3.F, e3φ, e2φ]; exact sub2 _ _ hF1
      have hH3 := (r3.frm _ _ hF3).1
      have hl := lookD_ok (K := K) (fa := fa) (k := kk) (RepDs.mono (fun a u ea => l3.G a u (le2.G a u ea)) m5)
      rw [f3] at hl
      obtain ⟨vz, p1, p2⟩ := hl
      refine ⟨g3.φ n, vz, rfl, .inl ⟨kvs, kk, .inr ⟨od, hH3⟩, rfl, p1.symm⟩, ?_⟩
      refine ok_cst (ρ := ρ2) (S := T1) (w := .d (.int sh.2.2.2)) (S' := T1) (by simp [evE, flatD]) g3 σ2 H3 r3 (hσ2.mono l3) _ fun g4 H4 u4 l4 r4 h4 => ?_
      exact ixRun_ok r4 (r4.shW (w := .d d) (RepW.mono l4 p2) rfl) (r4.shW h4 rfl) f4 fun g5 H5 v5 l5 r5 h5 => k2 g5 H5 v5 (l3.trans (l4.trans l5)) r5 h5
    · have hd : gb.F (gb.φ n) = some (.frz od (.dK kvs)) := by rw [lb.F, lb.φ n hn1]; exact hF1
      have ebφ : gb.φ n = g.φ n := (lb.φ n hn1).trans e1φ
      have hdp := hF _ _ hd
      have hd' := (rb.frm (gb.φ n) _ (by show upd gb.F p _ (gb.φ n) = _; rw [upd_ne hdp]; exact hd)).1
      rw [ebφ] at hd'
      refine ⟨hd', ?_⟩
      obtain ⟨rf, hg⟩ := rb.unhold (p := p) (o := .lst accV) (F0 := gb.F) upd_same fun a u ea => ⟨hF a u ea, by show upd gb.F p _ a = some u; rw [upd_ne (hF a u ea)]; exact ea⟩
      have la := (Gh.le_add (g := gb.hold p (.lst accV)) (p := p) (o := HO.lst accV) hg)
      have m6 : RepDs K fa (Gh.add (gb.hold p (.lst accV)) p (.lst accV)).G (kvs.map (·.2)) es := RepDs.mono (fun a u ea => la.G a u (lb.G a u ea)) m5
      have rl := rf.unlockF (n := n) (F0 := g.F) (m' := .dK (kvs.map (·.1)) es) (o' := .dK kvs) hd (fun a u ea => by
        have ne : a ≠ g.φ n := fun z => (r.frm a u ea).2.2 n _ hs (fun z => nomatch z) z.symm
        refine ⟨fun z => ne (z.trans ebφ), ?_⟩
        show gb.F a = some u
        rw [lb.F, l1.F]
        show upd g.F (g.φ n) _ a = some u
        rw [upd_ne ne]; exact ea) hd3' rfl ⟨kvs, rfl, rfl, m6⟩
      have er : (({ (Gh.add (gb.hold p (.lst accV)) p (.lst accV)) with F := gb.F } : Gh).φ n) = g.φ n := ebφ
      rw [er] at rl
      refine k { (gb.hold p (.lst accV)).add p (.lst accV) with F := g.F } _ _ ⟨fun a u ea => la.G a u (lb.G a u (l1.G a u ea)), fun j hj => (lb.φ j (Nat.lt_of_lt_of_le hj l1.n)).trans (l1.φ j hj), Nat.le_trans l1.n lb.n, lb.lk.trans l1.lk, rfl, lb.ro.trans l1.ro, fun z => (lb.I (l1.ro.trans z)).trans (l1.I z)⟩ rl ?_
      simp only [RepW, RepD]
      exact ⟨p, accV, rfl, upd_same, RepDs.mono la.G hacc⟩
theorem ok_compV {vs : List Nat} {tg : Tg} {a : E} {cond : To} {elt : E} (ha : OkE K fa C c tb a) (hc : OkTo K fa C c tb cond) (he : OkE K fa C c tb elt) : OkE K fa C c tb (.compV vs tg a cond elt) := fun ρ S w S' e g σ H r hσ Q k => by
  simp only [evE] at e
  split at e
  case isFalse => cases e
  rename_i htg
  obtain ⟨⟨x, S1⟩, e1, e⟩ := Option.bind_eq_some_iff.mp e
  cases x with
  | d _ => cases e
  | mu n =>
    simp only at e
    obtain ⟨ds, e2, e⟩ := Option.bind_eq_some_iff.mp e
    obtain ⟨⟨res, S3⟩, e4, e⟩ := Option.bind_eq_some_iff.mp e
    split at e
    case isFalse => cases e
    rename_i hd3
    cases e
    have hd3' := deadAt_eq hd3
    have hs := lstAt_some' e2
    refine .inl ?_
    refine ha _ _ _ _ e1 g σ H r hσ _ fun g1 H1 v1 l1 r1 h1 => ?_
    obtain ⟨rfl, hn⟩ := h1
    obtain ⟨u, m1, ⟨vl, rfl, m4⟩, m3⟩ := r1.live n _ hs (fun z => nomatch z)
    have r0 := r1.lockF (o := .lst vl) hs (fun z => nomatch z)
    rw [updS m1] at r0
    have hσ0 : RepEn K fa c.ob { g1 with F := upd g1.F (g1.φ n) (.lst vl) } σ ρ := ⟨hσ.1, fun j w ej => by
      obtain ⟨v, a, b⟩ := (hσ.mono l1).2 j w ej
      refine ⟨v, a, ?_⟩
      cases w with
      | d z => exact b
      | mu n => exact b, (hσ.mono l1).3⟩
    refine ⟨g1.φ n, rfl, ⟨vl, .of m1⟩, ?_⟩
    refine comp_coreJ (J := Itl K (g1.φ n)) hc he htg e4 r0 hσ0 (src_listF (a := g1.φ n) upd_same m4) fun gb H' p accV lb hF rb hacc => ?_
    have hd : gb.F (gb.φ n) = some (.lst vl) := by rw [lb.F, lb.φ n hn]; exact upd_same
    have ebφ : gb.φ n = g1.φ n := lb.φ n hn
    have hdp := hF _ _ hd
    have hd' := (rb.frm (gb.φ n) _ (by show upd gb.F p _ (gb.φ n) = _; rw [upd_ne hdp]; exact hd)).1
    obtain ⟨rf, hg⟩ := rb.unhold (p := p) (o := .lst accV) (F0 := gb.F) upd_same fun a u ea => ⟨hF a u ea, by show upd gb.F p _ a = some u; rw [upd_ne (hF a u ea)]; exact ea⟩
    have la := (Gh.le_add (g := gb.hold p (.lst accV)) (p := p) (o := HO.lst accV) hg)
    have m6 : RepDs K fa (Gh.add (gb.hold p (.lst accV)) p (.lst accV)).G vl ds := RepDs.mono (fun a u ea => la.G a u (lb.G a u ea)) m4
    have rl := rf.unlockF (n := n) (F0 := g1.F) (m' := .lst ds) (o' := .lst vl) hd (fun a u ea => by
      have ne : a ≠ g1.φ n := fun z => (r1.frm a u ea).2.2 n _ hs (fun z => nomatch z) z.symm
      refine ⟨fun z => ne (z.trans ebφ), ?_⟩
      show gb.F a = some u
      rw [lb.F]
      show upd g1.F (g1.φ n) _ a = some u
      rw [upd_ne ne]; exact ea) hd3' rfl ⟨vl, rfl, m6⟩
    have er : (({ (Gh.add (gb.hold p (.lst accV)) p (.lst accV)) with F := gb.F } : Gh).φ n) = gb.φ n := rfl
    rw [er, updS hd'] at rl
    refine k { (gb.hold p (.lst accV)).add p (.lst accV) with F := g1.F } _ _ ⟨fun a u ea => la.G a u (lb.G a u (l1.G a u ea)), fun j hj => (lb.φ j (Nat.lt_of_lt_of_le hj l1.n)).trans (l1.φ j hj), Nat.le_trans l1.n lb.n, lb.lk.trans l1.lk, l1.F, lb.ro.trans l1.ro, fun z => (lb.I (l1.ro.trans z)).trans (l1.I z)⟩ rl ?_
    simp only [RepW, RepD]
    exact ⟨p, accV, rfl, upd_same, RepDs.mono la.G hacc⟩
theorem ok_comp {vs : List Nat} {tg : Tg} {it : It} {cond : To} {elt : E} (hi : OkI K fa C c tb it) (hc : OkTo K fa C c tb cond) (he : OkE K fa C c tb elt) : OkE K fa C c tb (.comp vs tg it cond elt) := fun ρ S w S' e g σ H r hσ Q k => by
  have ew : ∃ res, w = .d (.lst res) := by
    simp only [evE] at e
    split at e
    case isFalse => cases e
    obtain ⟨⟨ds, S1⟩, e1, e⟩ := Option.bind_eq_some_iff.mp e
    obtain ⟨⟨res, S2⟩, e2, e⟩ := Option.map_eq_some_iff.mp e
    cases e
    exact ⟨_, rfl⟩
  obtain ⟨res, rfl⟩ := ew
  refine comp_core hi hc he e r hσ fun gb H' p accV lb hF rb hacc => ?_
  obtain ⟨rf, hg⟩ := rb.unhold (p := p) (o := .lst accV) (F0 := gb.F) upd_same fun a u ea => ⟨hF a u ea, by show upd gb.F p _ a = some u; rw [upd_ne (hF a u ea)]; exact ea⟩
  have la := (Gh.le_add (g := gb.hold p (.lst accV)) (p := p) (o := HO.lst accV) hg)
  refine k _ H' _ (lb.trans (leF (.refl gb) la)) rf ?_
  simp only [RepW, RepD]
  exact ⟨p, accV, rfl, upd_same, RepDs.mono la.G hacc⟩

theorem ok_dcomp {vs : List Nat} {tg : Tg} {it : It} {cond : To} {kx vx : E} (hi : OkI K fa C c tb it) (hc : OkTo K fa C c tb cond) (hk : OkE K fa C c tb kx) (he : OkE K fa C c tb vx) : OkE K fa C c tb (.dcomp vs tg it cond kx vx) := fun ρ S w S' e g σ H r hσ Q k => by
  simp only [evE] at e
  split at e
  case isFalse => cases e
  rename_i htg
  obtain ⟨⟨ds, S1⟩, e1, e⟩ := Option.bind_eq_some_iff.mp e
  obtain ⟨⟨⟨rk, rd⟩, S2⟩, e2, e⟩ := Option.map_eq_some_iff.mp e
  cases e
  refine hi _ _ _ _ e1 g σ H r hσ _ fun g1 H1 J l1 r1 src => fun p hp => ?_
  have hFp : ∀ a u, g1.F a = some u → a ≠ p ∧ g1.F a = some u := fun a u ea => ⟨ne_of_none (r1.frm a u ea).1 hp, ea⟩
  generalize hf : (fun (d : D) (S : Store) => (asgn tg d (wipeE ρ vs)).bind fun ρ' => (evTo c cond ρ' S).bind fun q =>
      if q.1 = true then (evE c kx ρ' q.2).bind fun y => (evE c vx ρ' y.2).bind fun w => match y.1 with
        | .d kd => (keyOf kd).bind fun k => (fzW w.1 w.2).map fun z => (some (k, z.1), z.2)
        | _ => none else some (none, q.2)) = f at e2
  refine ⟨fun i m H => m = ds.length - i ∧ i ≤ ds.length ∧ ∃ gb S' kvs es, g1.le gb ∧ Rel K fa (gb.hold p (.dK kvs)) H S' ∧ RepDs K fa gb.G (kvs.map (·.2)) es ∧ compD f (ds.drop i) S' (kvs.map (·.1)) es = some ((rk, rd), S2),
    ⟨_, rfl, Nat.zero_le _, g1, S1, [], [], .refl g1, r1.hold hp, RepDs.nil, by simpa using e2⟩, ?_⟩
  rintro i m H ⟨rfl, hil, gb, S', kvs, es, lb, rb, hacc, ec⟩
  have s0 := src i _ H S' (show GLe g1.G (gb.hold p (.dK kvs)).G from lb.G) rb
  rcases Nat.eq_or_lt_of_le hil with hi | hi
  · left
    refine ⟨s0.2 (by omega), ?_⟩
    subst hi
    rw [List.drop_length] at ec
    simp only [compD] at ec
    cases ec
    obtain ⟨rf, hg⟩ := rb.unhold (p := p) (o := .dK kvs) (F0 := gb.F) upd_same fun a u ea => ⟨by rw [lb.F] at ea; exact (hFp a u ea).1, by show upd gb.F p _ a = some u; rw [upd_ne (by rw [lb.F] at ea; exact (hFp a u ea).1)]; exact ea⟩
    have la := (Gh.le_add (g := gb.hold p (.dK kvs)) (p := p) (o := HO.dK kvs) hg)
    refine k _ H _ ((l1.trans lb).trans (leF (.refl gb) la)) rf ?_
    simp only [RepW, RepD]
    exact ⟨p, kvs, rfl, upd_same, rfl, RepDs.mono la.G hacc⟩
  · right
    have hd : ds[i]? = some ds[i] := List.getElem?_eq_getElem hi
    obtain ⟨hgo, hy⟩ := s0.1 _ hd
    have edrop : ds.drop i = ds[i] :: ds.drop (i + 1) := List.drop_eq_getElem_cons hi
    rw [edrop] at ec
    simp only [compD] at ec
    obtain ⟨⟨o, S3⟩, e3, ec⟩ := Option.bind_eq_some_iff.mp ec
    refine ⟨hgo, fun H => ∃ gb S' kvs es, g1.le gb ∧ Rel K fa (gb.hold p (.dK kvs)) H S' ∧ RepDs K fa gb.G (kvs.map (·.2)) es ∧ compD f (ds.drop (i + 1)) S' (kvs.map (·.1)) es = some ((rk, rd), S2),
      fun H' q => ⟨ds.length - (i + 1), by omega, rfl, hi, q⟩, fun x H' y => ?_⟩
    obtain ⟨g2, l2, r2, hx⟩ := hy x H' y
    rw [← hf] at e3
    obtain ⟨ρ', e4, e3⟩ := Option.bind_eq_some_iff.mp e3
    have hσ2 : RepEn K fa c.ob g2 (L2.wipe σ vs) (wipeE ρ vs) := by
      have h1 := (hσ.mono l1).wipe vs
      refine ⟨h1.1, fun j w ej => ?_, fun z => (leF lb l2).ro.trans (h1.3 z)⟩
      obtain ⟨v, a, b⟩ := h1.2 j w ej
      refine ⟨v, a, ?_⟩
      have b2 := RepW.mono (leF lb l2) b
      cases w with
      | d z => exact b2
      | mu n => exact b2
    refine tg_ok r2 e4 hx hσ2 fun σ2 hσ3 hw => ⟨(hw vs htg).trans wipe_wipe, ?_⟩
    have elem : ∀ g3 H3 S4, g2.le g3 → Rel K fa g3 H3 S4 → ((evE c kx ρ' S4).bind fun y => (evE c vx ρ' y.2).bind fun w => match y.1 with
        | .d kd => (keyOf kd).bind fun k => (fzW w.1 w.2).map fun z => (some (k, z.1), z.2)
        | _ => none) = some (o, S3) →
        tE K fa (spC K fa C c) tb kx σ2 H3 fun y H4 => tE K fa (spC K fa C c) tb vx σ2 H4 fun z H5 => ∃ kvs k, y = kV k ∧ H5 p = some (.dK kvs) ∧ kvs.length < sizeLine ∧ (fun H => ∃ gb S' kvs es, g1.le gb ∧ Rel K fa (gb.hold p (.dK kvs)) H S' ∧ RepDs K fa gb.G (kvs.map (·.2)) es ∧ compD f (ds.drop (i + 1)) S' (kvs.map (·.1)) es = some ((rk, rd), S2)) (upd H5 p (.dK (putK kvs k z))) := fun g3 H3 S4 l3 r3 e5 => by
      obtain ⟨⟨y5, S5⟩, e6, e5⟩ := Option.bind_eq_some_iff.mp e5
      obtain ⟨⟨w5, S6⟩, e7, e5⟩ := Option.bind_eq_some_iff.mp e5
      cases y5 with
      | mu n => cases e5
      | d kd =>
        simp only at e5 e7
        obtain ⟨kk, e8, e5⟩ := Option.bind_eq_some_iff.mp e5
        obtain ⟨⟨d5, S7⟩, e9, e5⟩ := Option.map_eq_some_iff.mp e5
        cases e5
        refine hk _ _ _ _ e6 g3 σ2 H3 r3 (hσ3.mono l3) _ fun g4 H4 y l4 r4 h4 => he _ _ _ _ e7 g4 σ2 H4 r4 ((hσ3.mono l3).mono l4) _ fun g5 H5 z l5 r5 h5 => ?_
        obtain rfl := keyOf_ok (K := K) (fa := fa) e8 h4
        obtain ⟨g6, l6, r6, h6⟩ := r5.fz h5 e9
        have l26 := l2.trans (l3.trans (l4.trans (l5.trans l6)))
        have hF6 : g6.F p = some (.dK kvs) := by rw [l26.F]; exact upd_same
        simp only at ec
        split at ec
        case isFalse => cases ec
        rename_i hz
        obtain ⟨p1, p2⟩ := putD_ok (k := kk) h6 (RepDs.mono l26.G hacc)
        refine ⟨kvs, kk, rfl, (r6.frm p _ hF6).1, by simpa using hz, { g6 with F := g1.F }, _, putK kvs kk z, _, leF lb l26, ?_, p2, by rw [p1]; exact ec⟩
        have r7 := r6.rehold (o' := .dK (putK kvs kk z)) hF6
        have ef : upd g6.F p (HO.dK (putK kvs kk z)) = upd g1.F p (HO.dK (putK kvs kk z)) := by
          rw [l26.F]
          show upd (upd gb.F p _) p _ = _
          rw [upd_upd, lb.F]
        rw [ef] at r7
        exact r7
    obtain ⟨⟨b, S4⟩, e5, e3⟩ := Option.bind_eq_some_iff.mp e3
    cases cond with
    | none =>
      simp only [evTo] at e5
      cases e5
      simp only [tTo]
      unfold tYes
      simp only [if_true] at e3 ⊢
      exact elem g2 H' S' (Gh.le.refl g2) r2 e3
    | some t =>
      simp only [evTo] at e5
      refine hc _ _ _ _ e5 g2 σ2 H' r2 hσ3 _ fun g3 H3 l3 r3 => ?_
      cases b with
      | true =>
        rw [if_pos rfl]
        simp only [if_true] at e3
        exact elem g3 H3 S4 l3 r3 e3
      | false =>
        rw [if_neg (fun z => nomatch z)]
        simp only [Bool.false_eq_true, if_false] at e3
        cases e3
        have l23 := l2.trans l3
        refine ⟨{ g3 with F := g1.F }, S3, kvs, es, leF lb l23, ?_, RepDs.mono l23.G hacc, ec⟩
        have hF3 : g3.F = upd g1.F p (.dK kvs) := by rw [l23.F, ← lb.F]; rfl
        have r6 := r3
        show Rel K fa { g3 with F := upd g1.F p (.dK kvs) } H3 S3
        rw [← hF3]
        exact r6
def OkWP (K : PySem.W.Frag) (fa : FA) (C : Addr) (c : Call) (tb : Nat → Prop) (ps : Es) : Prop := ∀ ρ S kvs S', evWP c ps ρ S = some (kvs, S') → ∀ (g : Gh) (σ : L2.St) (H : Hp), Rel K fa g H S → RepEn K fa c.ob g σ ρ → ∀ Q : List (V × V) → Hp → Prop,
    (∀ g' H' (ks : List (Key × V)), g.le g' → Rel K fa g' H' S' → ks.map (·.1) = kvs.map (·.1) → RWs K fa g' (ks.map (·.2)) (kvs.map (·.2)) → Q (ks.map fun kv => (kV kv.1, kv.2)) H') → tPairs (tWP K fa (spC K fa C c) tb ps) σ H Q
theorem okWP_nil : OkWP K fa C c tb .nil := fun ρ S kvs S' e g σ H r hσ Q k => by
  simp only [evWP] at e
  cases e
  exact k g H [] (.refl g) r rfl .nil
theorem okWP_one {a : E} : OkWP K fa C c tb (.cons a .nil) := fun ρ S kvs S' e g σ H r hσ Q k => by simp [evWP] at e
theorem okWP_cons {a b : E} {t : Es} (ha : OkE K fa C c tb a) (hb : OkE K fa C c tb b) (ht : OkWP K fa C c tb t) : OkWP K fa C c tb (.cons a (.cons b t)) := fun ρ S kvs S' e g σ H r hσ Q k => by
  simp only [evWP] at e
  obtain ⟨⟨x, S1⟩, e1, e⟩ := Option.bind_eq_some_iff.mp e
  cases x with
  | mu _ => cases e
  | d kd =>
    obtain ⟨kk, e2, e⟩ := Option.bind_eq_some_iff.mp e
    obtain ⟨⟨w, S2⟩, e3, e⟩ := Option.bind_eq_some_iff.mp e
    obtain ⟨⟨kr, S4⟩, e5, e⟩ := Option.map_eq_some_iff.mp e
    cases e
    simp only [tWP]
    refine ha _ _ _ _ e1 g σ H r hσ _ fun g1 H1 u l1 r1 h1 => hb _ _ _ _ e3 g1 σ H1 r1 (hσ.mono l1) _ fun g2 H2 v l2 r2 h2 => ?_
    obtain rfl := keyOf_ok e2 h1
    refine ht _ _ _ _ e5 g2 σ H2 r2 ((hσ.mono l1).mono l2) _ fun g4 H4 ks l4 r4 q1 q2 => ?_
    exact k g4 H4 ((kk, v) :: ks) (l1.trans (l2.trans l4)) r4 (by simp [q1]) (.cons (RepW.mono l4 h2) q2)
theorem mergeW_ok {g : Gh} : ∀ (ks : List (Key × V)) (kvs : List (Key × W)) (acc : List (Key × V)) (ad : List Key × List W), ks.map (·.1) = kvs.map (·.1) → RWs K fa g (ks.map (·.2)) (kvs.map (·.2)) → acc.map (·.1) = ad.1 → RWs K fa g (acc.map (·.2)) ad.2 →
    (mergeK acc ks).map (·.1) = (kvs.foldl (fun a p => putW p.1 p.2 a.1 a.2) ad).1 ∧ RWs K fa g ((mergeK acc ks).map (·.2)) (kvs.foldl (fun a p => putW p.1 p.2 a.1 a.2) ad).2
  | [], kvs, acc, ad, e, h, e2, h2 => by
    cases kvs with
    | nil => exact ⟨e2, h2⟩
    | cons _ _ => simp at e
  | x :: ks, kvs, acc, ad, e, h, e2, h2 => by
    cases kvs with
    | nil => simp at e
    | cons y kvs =>
      simp only [List.map_cons, List.cons.injEq] at e
      simp only [List.map_cons] at h
      cases h with
      | cons h3 h4 =>
        obtain ⟨y1, y2⟩ := y
        obtain ⟨x1, x2⟩ := x
        simp only at e h3
        obtain ⟨rfl, e⟩ := e
        obtain ⟨p1, p2⟩ := putW_ok (k := x1) h3 h2
        rw [e2] at p1 p2
        exact mergeW_ok ks kvs (putK acc x1 x2) (putW x1 y2 ad.1 ad.2) e h4 p1 p2
theorem Rel.pushHeldC {g : Gh} {H : Hp} {S : Store} {p : Addr} {o : HO} {mo : MO} (r : Rel K fa (g.hold p o) H S) (hF : ∀ a u, g.F a = some u → a ≠ p) (hm : RepM K fa (g.hold p o) p o mo) : Rel K fa ((g.push p).tell S.length mo.refs) H (S ++ [mo]) := by
  obtain ⟨q1, q2, q3⟩ := r.frm p o upd_same
  have rl : S.length = g.n := r.len
  have old : ∀ {i : Nat}, i < S.length → ((g.push p).tell S.length mo.refs).φ i = g.φ i := fun {i} hi => by
    show (if i = g.n then p else g.φ i) = g.φ i
    rw [if_neg (by omega)]
  have new : ((g.push p).tell S.length mo.refs).φ S.length = p := by
    show (if S.length = g.n then p else g.φ S.length) = p
    rw [if_pos rl]
  have up : ∀ {a : Addr} {u : HO} {m : MO}, RepM K fa (g.hold p o) a u m → RepM K fa ((g.push p).tell S.length mo.refs) a u m := fun {a u m} h =>
    RepM.same (g := g.push p) (RepM.mono Gh.le_push (RepM.same (g' := g) h))
  refine ⟨by simp [Gh.push, Gh.tell, rl], r.ext, fun i m e hm' => ?_, fun i j mi mj ei ej hi hj q => ?_, fun a u e => ?_, fun a u e => r.ft a u (by show upd g.F p o a = some u; rw [upd_ne (hF a u e)]; exact e), r.tb, r.gt, fun i m e hc => ?_, fun i l e q hq => ?_⟩
  · rcases getElem?_push e with ⟨e1, hl⟩ | ⟨rfl, rfl⟩
    · rw [old hl]
      obtain ⟨u, h1, h2, h3⟩ := r.live i m e1 hm'
      exact ⟨u, h1, up h2, h3⟩
    · rw [new]; exact ⟨o, q1, up hm, q2⟩
  · rcases getElem?_push ei with ⟨e1, l1⟩ | ⟨rfl, rfl⟩
    · rcases getElem?_push ej with ⟨e2, l2⟩ | ⟨rfl, rfl⟩
      · rw [old l1, old l2] at q
        exact r.inj i j mi mj e1 e2 hi hj q
      · rw [old l1, new] at q
        exact absurd q (q3 i mi e1 hi)
    · rcases getElem?_push ej with ⟨e2, l2⟩ | ⟨rfl, rfl⟩
      · rw [new, old l2] at q
        exact absurd q.symm (q3 j mj e2 hj)
      · rfl
  · have ne : a ≠ p := hF a u e
    obtain ⟨h1, h2, h3⟩ := r.frm a u (by show upd g.F p o a = some u; rw [upd_ne ne]; exact e)
    refine ⟨h1, h2, fun i m ei hi => ?_⟩
    rcases getElem?_push ei with ⟨e1, l1⟩ | ⟨rfl, rfl⟩
    · rw [old l1]; exact h3 i m e1 hi
    · rw [new]; exact ne.symm
  · show (if i = S.length then some mo.refs else g.I i) = _
    rcases getElem?_push e with ⟨e1, hl⟩ | ⟨rfl, rfl⟩
    · rw [if_neg (by omega)]; exact r.ii i m e1 hc
    · rw [if_pos rfl]
  · have e' : (if i = S.length then some mo.refs else g.I i) = some l := e
    split at e'
    · cases e'; exact Nat.lt_succ_of_lt (hm.refs q hq)
    · exact Nat.lt_succ_of_lt (r.ir i l e' q hq)
theorem RepEn.hold {ob : Bool} {g : Gh} {σ : L2.St} {ρ : En} {p : Addr} {o : HO} (h : RepEn K fa ob g σ ρ) : RepEn K fa ob (g.hold p o) σ ρ := ⟨h.1, fun i w e => by
  obtain ⟨v, a, b⟩ := h.2 i w e
  refine ⟨v, a, ?_⟩
  cases w <;> exact b, h.3⟩
theorem ok_nW {ps : Es} (hp : OkWP K fa C c tb ps) : OkE K fa C c tb (.nW ps) := fun ρ S w S' e g σ H r hσ Q k => by
  simp only [evE] at e
  split at e
  case isFalse => cases e
  rename_i hob
  obtain ⟨⟨kvs, S1⟩, e1, e⟩ := Option.bind_eq_some_iff.mp e
  split at e
  case isFalse => cases e
  rename_i hz
  cases e
  intro p hp0
  have hF : ∀ a u, g.F a = some u → a ≠ p := fun a u ea => ne_of_none (r.frm a u ea).1 hp0
  refine hp _ _ _ _ e1 (g.hold p (.dK [])) σ _ (r.hold hp0) hσ.hold _ fun g2 H2 ks l2 r2 q1 q2 => ?_
  have hF2 : g2.F p = some (.dK []) := by rw [l2.F]; exact upd_same
  refine ⟨(r2.frm p _ hF2).1, ks, rfl, ?_, ?_⟩
  · have : ks.length = kvs.length := by simpa using congrArg List.length q1
    rw [this]; exact hz
  · have r6 := r2.rehold (o' := .dK (mergeK [] ks)) hF2
    have ef : upd g2.F p (HO.dK (mergeK [] ks)) = upd g.F p (HO.dK (mergeK [] ks)) := by
      rw [l2.F]
      show upd (upd g.F p _) p _ = _
      rw [upd_upd]
    rw [ef] at r6
    have lb : g.le { g2 with F := g.F } := leF (.refl g) l2
    obtain ⟨m1, m2⟩ := mergeW_ok ks kvs [] ([], []) q1 q2 rfl .nil
    have ro : g2.ro = false := l2.ro.trans (hσ.3 hob)
    have r7 := Rel.pushHeldC (g := { g2 with F := g.F }) (mo := .dW (putWs kvs).1 (putWs kvs).2) r6 hF ⟨_, rfl, m1, RWs.same m2⟩
    exact k _ _ _ (lb.trans (Gh.le_push.trans (Gh.le_tell (g := Gh.push { g2 with F := g.F } p) ro))) r7 (mu_nwC r6.len)
theorem ok_itemsT {a : E} (ha : OkE K fa C c tb a) : OkE K fa C c tb (.itemsT a) := fun ρ S w S' e g σ H r hσ Q k => by
  simp only [evE] at e
  obtain ⟨⟨x, S1⟩, e1, e⟩ := Option.bind_eq_some_iff.mp e
  cases x with
  | d _ => cases e
  | mu n =>
    simp only at e
    split at e
    case h_2 => cases e
    rename_i ks ds hs
    split at e
    case isFalse => cases e
    rename_i hz
    cases e
    refine ha _ _ _ _ e1 g σ H r hσ _ fun g1 H1 v l1 r1 h1 => ?_
    obtain ⟨rfl, hn⟩ := h1
    obtain ⟨u, m1, ⟨kvs, rfl, rfl, m2⟩, m3⟩ := r1.live n _ hs (fun z => nomatch z)
    refine ⟨_, kvs, rfl, m1, by simpa using hz, fun H' p ts hx hp hts hn2 hp2 hpair => ?_⟩
    have hG : ∀ a u, (fun a => if a = p ∨ a ∈ ts then H' a else g1.G a) a = some u → g1.G a = some u ∨ H1 a = none ∧ H' a = some u ∧ ∃ vs, u = .tup vs := fun a u e => by
      simp only at e
      split at e
      · rename_i hc
        rcases hc with rfl | hc
        · rw [hp2] at e; cases e
          exact .inr ⟨hp, hp2, _, rfl⟩
        · refine .inr ⟨hts a hc, e, ?_⟩
          have : ∀ {ts : List Addr} {kvs : List (Key × V)}, Paired (fun (t : Addr) (q : Key × V) => H' t = some (.tup [kV q.1, q.2])) ts kvs → ∀ t ∈ ts, ∃ vs, H' t = some (.tup vs) := by
            intro ts kvs hh
            induction hh with
            | nil => intro t ht; simp at ht
            | cons h1 _ ih =>
              intro t ht
              rcases List.mem_cons.mp ht with rfl | ht
              · exact ⟨_, h1⟩
              · exact ih t ht
          obtain ⟨vs, h⟩ := this hpair a hc
          rw [h] at e; cases e
          exact ⟨vs, rfl⟩
      · exact .inl e
    have hl : GLe g1.G (fun a => if a = p ∨ a ∈ ts then H' a else g1.G a) := fun a u e => by
      have ne : ¬ (a = p ∨ a ∈ ts) := by
        intro hc
        have hn0 : H1 a = none := by
          rcases hc with rfl | hc
          · exact hp
          · exact hts a hc
        rw [r1.fresh hn0] at e; cases e
      show (if a = p ∨ a ∈ ts then H' a else g1.G a) = some u
      rw [if_neg ne]; exact e
    obtain ⟨l2, r2⟩ := r1.news hx hl hG
    refine k _ H' _ (l1.trans l2) r2 ?_
    simp only [RepW, RepD]
    refine ⟨p, _, rfl, .inl (by show (if p = p ∨ p ∈ ts then H' p else g1.G p) = _; rw [if_pos (.inl rfl)]; exact hp2), rep_pairs (RepDs.mono l2.G m2) ?_⟩
    have : ∀ {us : List Addr} {kvs : List (Key × V)}, (∀ t ∈ us, t ∈ ts) → Paired (fun (t : Addr) (q : Key × V) => H' t = some (.tup [kV q.1, q.2])) us kvs → Paired (fun (t : Addr) (q : Key × V) => (if t = p ∨ t ∈ ts then H' t else g1.G t) = some (.tup [kV q.1, q.2])) us kvs := by
      intro us kvs hm hh
      induction hh with
      | nil => exact .nil
      | cons h1 _ ih => exact .cons (by rw [if_pos (.inr (hm _ List.mem_cons_self))]; exact h1) (ih fun t ht => hm t (List.mem_cons_of_mem _ ht))
    exact this (fun _ h => h) hpair
theorem okT_val {e : E} (h : OkE K fa C c tb e) : OkT K fa C c tb (.val e) := fun ρ S w S' ev g σ H r hσ Q k => by
  simp only [evT] at ev
  obtain ⟨⟨x, S1⟩, e1, ev⟩ := Option.bind_eq_some_iff.mp ev
  split at ev
  · rename_i b hb
    cases ev
    obtain rfl : x = _ := hb
    refine h _ _ _ _ e1 g σ H r hσ _ fun g1 H1 v l1 r1 h1 => ?_
    simp only [RepW, RepD] at h1
    exact ⟨w, h1, k g1 H1 l1 r1⟩
  · cases ev
theorem okT_and {a b : T} (ha : OkT K fa C c tb a) (hb : OkT K fa C c tb b) : OkT K fa C c tb (.and a b) := fun ρ S w S' e g σ H r hσ Q k => by
  simp only [evT] at e
  obtain ⟨⟨x, S1⟩, e1, e⟩ := Option.bind_eq_some_iff.mp e
  refine ha _ _ _ _ e1 g σ H r hσ _ fun g1 H1 l1 r1 => ?_
  cases x with
  | true =>
    rw [if_pos rfl] at e ⊢
    exact hb _ _ _ _ e g1 σ H1 r1 (hσ.mono l1) Q fun g2 H2 l2 r2 => k g2 H2 (l1.trans l2) r2
  | false =>
    rw [if_neg (fun z => nomatch z)] at e ⊢
    cases e
    exact k g1 H1 l1 r1
theorem okT_or {a b : T} (ha : OkT K fa C c tb a) (hb : OkT K fa C c tb b) : OkT K fa C c tb (.or a b) := fun ρ S w S' e g σ H r hσ Q k => by
  simp only [evT] at e
  obtain ⟨⟨x, S1⟩, e1, e⟩ := Option.bind_eq_some_iff.mp e
  refine ha _ _ _ _ e1 g σ H r hσ _ fun g1 H1 l1 r1 => ?_
  cases x with
  | true =>
    rw [if_pos rfl] at e ⊢
    cases e
    exact k g1 H1 l1 r1
  | false =>
    rw [if_neg (fun z => nomatch z)] at e ⊢
    exact hb _ _ _ _ e g1 σ H1 r1 (hσ.mono l1) Q fun g2 H2 l2 r2 => k g2 H2 (l1.trans l2) r2
theorem okT_ite {k a b : T} (hk : OkT K fa C c tb k) (ha : OkT K fa C c tb a) (hb : OkT K fa C c tb b) : OkT K fa C c tb (.ite k a b) := fun ρ S w S' e g σ H r hσ Q kk => by
  simp only [evT] at e
  obtain ⟨⟨x, S1⟩, e1, e⟩ := Option.bind_eq_some_iff.mp e
  refine hk _ _ _ _ e1 g σ H r hσ _ fun g1 H1 l1 r1 => ?_
  cases x with
  | true =>
    rw [if_pos rfl] at e ⊢
    exact ha _ _ _ _ e g1 σ H1 r1 (hσ.mono l1) Q fun g2 H2 l2 r2 => kk g2 H2 (l1.trans l2) r2
  | false =>
    rw [if_neg (fun z => nomatch z)] at e ⊢
    exact hb _ _ _ _ e g1 σ H1 r1 (hσ.mono l1) Q fun g2 H2 l2 r2 => kk g2 H2 (l1.trans l2) r2
theorem okT_not {a : T} (ha : OkT K fa C c tb a) : OkT K fa C c tb (.not a) := fun ρ S w S' e g σ H r hσ Q k => by
  simp only [evT] at e
  obtain ⟨⟨x, S1⟩, e1, e⟩ := Option.map_eq_some_iff.mp e
  cases e
  exact ha _ _ _ _ e1 g σ H r hσ _ fun g1 H1 l1 r1 => k g1 H1 l1 r1
theorem okEs_nil : OkEs K fa C c tb .nil := fun ρ S w S' e g σ H r hσ Q k => by
  simp only [evEs] at e
  cases e
  exact k g H [] (.refl g) r .nil
theorem okEs_cons {a : E} {as : Es} (ha : OkE K fa C c tb a) (h : OkEs K fa C c tb as) : OkEs K fa C c tb (.cons a as) := fun ρ S w S' e g σ H r hσ Q k => by
  simp only [evEs] at e
  obtain ⟨⟨x, S1⟩, e1, e⟩ := Option.bind_eq_some_iff.mp e
  obtain ⟨⟨ws, S2⟩, e2, e⟩ := Option.map_eq_some_iff.mp e
  cases e
  refine ha _ _ _ _ e1 g σ H r hσ _ fun g1 H1 v l1 r1 h1 => h _ _ _ _ e2 g1 σ H1 r1 (hσ.mono l1) _ fun g2 H2 vs l2 r2 h2 => ?_
  exact k g2 H2 _ (l1.trans l2) r2 (.cons (RepW.mono l2 h1) h2)
theorem okZ_nil : OkZ K fa C c tb .nil := fun ρ S w S' e g σ H r hσ Q k => by
  simp only [evZ] at e
  cases e
  exact k g H [] (.refl g) r RepDs.nil
theorem okZ_cons {a : E} {as : Es} (ha : OkE K fa C c tb a) (h : OkZ K fa C c tb as) : OkZ K fa C c tb (.cons a as) := fun ρ S w S' e g σ H r hσ Q k => by
  simp only [evZ] at e
  obtain ⟨⟨x, S1⟩, e1, e⟩ := Option.bind_eq_some_iff.mp e
  obtain ⟨⟨d, S2⟩, e2, e⟩ := Option.bind_eq_some_iff.mp e
  obtain ⟨⟨ws, S3⟩, e3, e⟩ := Option.map_eq_some_iff.mp e
  cases e
  refine ha _ _ _ _ e1 g σ H r hσ _ fun g1 H1 v l1 r1 h1 => ?_
  obtain ⟨g2, l2, r2, h2⟩ := r1.fz h1 e2
  refine h _ _ _ _ e3 g2 σ H1 r2 ((hσ.mono l1).mono l2) _ fun g3 H3 vs l3 r3 h3 => ?_
  exact k g3 H3 _ (l1.trans (l2.trans l3)) r3 (RepDs.cons (RepD.mono l3.G h2) h3)
theorem okO_none : OkO K fa C c tb .none := fun ρ S w S' e g σ H r hσ Q k => by
  simp only [evO] at e
  cases e
  exact k g H (.refl g) r
theorem okO_some {a : E} (ha : OkE K fa C c tb a) : OkO K fa C c tb (.some a) := fun ρ S w S' e g σ H r hσ Q k => by
  simp only [evO] at e
  obtain ⟨⟨x, S1⟩, e1, e⟩ := Option.bind_eq_some_iff.mp e
  split at e
  · rename_i i hb
    cases e
    obtain rfl : x = _ := hb
    refine ha _ _ _ _ e1 g σ H r hσ _ fun g1 H1 v l1 r1 h1 => ?_
    simp only [RepW, RepD] at h1
    exact ⟨i, h1, k g1 H1 l1 r1⟩
  · cases e
theorem okI_seq {a : E} (ha : OkE K fa C c tb a) : OkI K fa C c tb (.seq a) := fun ρ S ds S' e g σ H r hσ R k => by
  simp only [evI] at e
  obtain ⟨⟨x, S1⟩, e1, e⟩ := Option.bind_eq_some_iff.mp e
  split at e
  · rename_i ds' hb
    cases e
    obtain rfl : x = _ := hb
    left
    refine ha _ _ _ _ e1 g σ H r hσ _ fun g1 H1 v l1 r1 h1 => ?_
    simp only [RepW, RepD] at h1
    obtain ⟨a, vs, rfl, q, h2⟩ := h1
    exact ⟨a, rfl, ⟨vs, .of (r1.lst q)⟩, k g1 H1 _ l1 r1 (src_list q h2)⟩
  · rename_i ds' hb
    cases e
    obtain rfl : x = _ := hb
    refine .inr (.inl ?_)
    refine ha _ _ _ _ e1 g σ H r hσ _ fun g1 H1 v l1 r1 h1 => ?_
    simp only [RepW, RepD] at h1
    obtain ⟨a, vs, rfl, q, h2⟩ := h1
    exact ⟨a, rfl, ⟨vs, r1.sqT q⟩, k g1 H1 _ l1 r1 (src_tup q h2)⟩
  · rename_i y hb
    cases e
    obtain rfl : x = _ := hb
    refine .inr (.inr ?_)
    refine ha _ _ _ _ e1 g σ H r hσ _ fun g1 H1 v l1 r1 h1 => ?_
    simp only [RepW, RepD] at h1
    exact ⟨y, h1, k g1 H1 _ l1 r1 (src_str y)⟩
  · cases e
theorem okI_fzq {a : E} (ha : OkE K fa C c tb a) : OkI K fa C c tb (.fzq a) := fun ρ S ds S' e g σ H r hσ R k => by
  simp only [evI] at e
  obtain ⟨⟨x, S1⟩, e1, e⟩ := Option.bind_eq_some_iff.mp e
  obtain ⟨⟨d, S2⟩, e2, e⟩ := Option.bind_eq_some_iff.mp e
  split at e
  · rename_i ds' hb
    cases e
    obtain rfl : d = _ := hb
    left
    refine ha _ _ _ _ e1 g σ H r hσ _ fun g1 H1 v l1 r1 h1 => ?_
    obtain ⟨g2, l2, r2, h2⟩ := r1.fz h1 e2
    simp only [RepD] at h2
    obtain ⟨a, vs, rfl, q, h2⟩ := h2
    exact ⟨a, rfl, ⟨vs, .of (r2.lst q)⟩, k g2 H1 _ (l1.trans l2) r2 (src_list q h2)⟩
  · rename_i ds' hb
    cases e
    obtain rfl : d = _ := hb
    refine .inr (.inl ?_)
    refine ha _ _ _ _ e1 g σ H r hσ _ fun g1 H1 v l1 r1 h1 => ?_
    obtain ⟨g2, l2, r2, h2⟩ := r1.fz h1 e2
    simp only [RepD] at h2
    obtain ⟨a, vs, rfl, q, h2⟩ := h2
    exact ⟨a, rfl, ⟨vs, r2.sqT q⟩, k g2 H1 _ (l1.trans l2) r2 (src_tup q h2)⟩
  · cases e
theorem okI_r1 {a : E} (ha : OkE K fa C c tb a) : OkI K fa C c tb (.r1 a) := fun ρ S ds S' e g σ H r hσ R k => by
  simp only [evI] at e
  obtain ⟨⟨x, S1⟩, e1, e⟩ := Option.bind_eq_some_iff.mp e
  split at e
  · rename_i i hb
    obtain rfl : x = _ := hb
    split at e
    · rename_i hz
      cases e
      refine ha _ _ _ _ e1 g σ H r hσ _ fun g1 H1 v l1 r1 h1 => ?_
      simp only [RepW, RepD] at h1
      subst h1
      exact ⟨i, rfl, hz.1, hz.2, k g1 H1 _ l1 r1 (src_range 0 _)⟩
    · cases e
  · cases e
theorem okI_r2 {a b : E} (ha : OkE K fa C c tb a) (hb : OkE K fa C c tb b) : OkI K fa C c tb (.r2 a b) := fun ρ S ds S' e g σ H r hσ R k => by
  simp only [evI] at e
  obtain ⟨⟨x, S1⟩, e1, e⟩ := Option.bind_eq_some_iff.mp e
  obtain ⟨⟨y, S2⟩, e2, e⟩ := Option.bind_eq_some_iff.mp e
  split at e
  · rename_i i j h1 h2
    obtain rfl : x = _ := h1
    obtain rfl : y = _ := h2
    split at e
    · rename_i hz
      cases e
      refine ha _ _ _ _ e1 g σ H r hσ _ fun g1 H1 v l1 r1 h1 => hb _ _ _ _ e2 g1 σ H1 r1 (hσ.mono l1) _ fun g2 H2 u l2 r2 h2 => ?_
      simp only [RepW, RepD] at h1 h2
      subst h1; subst h2
      exact ⟨i, j, rfl, hz, k g2 H2 _ (l1.trans l2) r2 (src_range i _)⟩
    · cases e
  · cases e
theorem okI_zip {a b : E} (ha : OkE K fa C c tb a) (hb : OkE K fa C c tb b) : OkI K fa C c tb (.zip a b) := fun ρ S ds S' e g σ H r hσ R k => by
  simp only [evI] at e
  obtain ⟨⟨x, S1⟩, e1, e⟩ := Option.bind_eq_some_iff.mp e
  obtain ⟨⟨y, S2⟩, e2, e⟩ := Option.bind_eq_some_iff.mp e
  obtain ⟨xs, e3, e⟩ := Option.bind_eq_some_iff.mp e
  obtain ⟨ys, e4, e⟩ := Option.map_eq_some_iff.mp e
  cases e
  refine ha _ _ _ _ e1 g σ H r hσ _ fun g1 H1 v l1 r1 h1 => hb _ _ _ _ e2 g1 σ H1 r1 (hσ.mono l1) _ fun g2 H2 u l2 r2 h2 => ?_
  obtain ⟨k1, p, vs, rfl, q1, q2⟩ := seqOf_ok e3 (RepW.mono l2 h1)
  obtain ⟨k2, p', vs', rfl, q1', q2'⟩ := seqOf_ok e4 h2
  exact ⟨k1, k2, p, p', vs, vs', rfl, q1.sq r2, q1'.sq r2, k g2 H2 _ (l1.trans l2) r2 (src_zip q1 q2 q1' q2')⟩

mutual
theorem okE (htb : ∀ f ws S r, c f ws S = some r → tb f) : ∀ e : E, OkE K fa C c tb e
  | .var _ => ok_var
  | .cst _ => ok_cst
  | .fnv _ => ok_fnv
  | .bin _ a b => ok_bin (okE htb a) (okE htb b)
  | .dnin b a => ok_dnin (okE htb b) (okE htb a)
  | .nD => ok_nD
  | .nT => ok_nT
  | .nL as => ok_nL (okZ htb as)
  | .nW ps => ok_nW (okWP htb ps)
  | .fld _ a _ => ok_fld (okE htb a)
  | .wget a b => ok_wget (okE htb a) (okE htb b)
  | .mkO _ _ as => ok_mkO (okEs htb as)
  | .mth _ _ _ a as => ok_mth (okE htb a) (okEs htb as)
  | .callA _ as => ok_callA (okEs htb as)
  | .itemsT a => ok_itemsT (okE htb a)
  | .fz a => ok_fz (okE htb a)
  | .mkE0 _ => ok_mkE0
  | .mkE _ _ a => ok_mkE (okE htb a)
  | .efld _ a => ok_efld (okE htb a)
  | .isE _ _ _ a => ok_isE (okE htb a)
  | .neg a => ok_neg (okE htb a)
  | .cmp _ a b => ok_cmp (okE htb a) (okE htb b)
  | .chain _ _ a b q => ok_chain (okE htb a) (okE htb b) (okE htb q)
  | .isN a => ok_isN (okE htb a)
  | .notN a => ok_notN (okE htb a)
  | .and a b => ok_and (okE htb a) (okE htb b)
  | .or a b => ok_or (okE htb a) (okE htb b)
  | .not a => ok_not (okE htb a)
  | .ite t a b => ok_ite (okT htb t) (okE htb a) (okE htb b)
  | .call _ as => ok_call (okEs htb as)
  | .callv _ as => ok_callv htb (okEs htb as)
  | .bi _ as => ok_bi (okEs htb as)
  | .isi1 a _ => ok_isi1 (okE htb a)
  | .isi2 a _ _ => ok_isi2 (okE htb a)
  | .mt0 _ a => ok_mt0 (okE htb a)
  | .mt1 _ a b => ok_mt1 (okE htb a) (okE htb b)
  | .ix a b => ok_ix (okE htb a) (okE htb b)
  | .sl a lo hi => ok_sl (okE htb a) (okO htb lo) (okO htb hi)
  | .tup as => ok_tup (okZ htb as)
  | .lst as => ok_lst (okZ htb as)
  | .comp _ _ it cond elt => ok_comp (okI htb it) (okTo htb cond) (okE htb elt)
  | .dget a b => ok_dget (okE htb a) (okE htb b)
  | .get1 a b => ok_get1 (okE htb a) (okE htb b)
  | .get2 a b z => ok_get2 (okE htb a) (okE htb b) (okE htb z)
  | .din b a => ok_din (okE htb b) (okE htb a)
  | .sortR _ => ok_sortR
  | .sin _ b a => ok_sin (okE htb b) (okE htb a)
  | .compK _ _ _ cond elt => ok_compK (okTo htb cond) (okE htb elt)
  | .compA _ _ a cond _ => ok_compA (okE htb a) (okTo htb cond)
  | .compV _ _ a cond elt => ok_compV (okE htb a) (okTo htb cond) (okE htb elt)
  | .dcomp _ _ it cond kx vx => ok_dcomp (okI htb it) (okTo htb cond) (okE htb kx) (okE htb vx)
theorem okT (htb : ∀ f ws S r, c f ws S = some r → tb f) : ∀ e : T, OkT K fa C c tb e
  | .val e => okT_val (okE htb e)
  | .and a b => okT_and (okT htb a) (okT htb b)
  | .or a b => okT_or (okT htb a) (okT htb b)
  | .not a => okT_not (okT htb a)
  | .ite k a b => okT_ite (okT htb k) (okT htb a) (okT htb b)
theorem okTo (htb : ∀ f ws S r, c f ws S = some r → tb f) : ∀ e : To, OkTo K fa C c tb e
  | .none => trivial
  | .some t => okT htb t
theorem okEs (htb : ∀ f ws S r, c f ws S = some r → tb f) : ∀ e : Es, OkEs K fa C c tb e
  | .nil => okEs_nil
  | .cons a as => okEs_cons (okE htb a) (okEs htb as)
theorem okZ (htb : ∀ f ws S r, c f ws S = some r → tb f) : ∀ e : Es, OkZ K fa C c tb e
  | .nil => okZ_nil
  | .cons a as => okZ_cons (okE htb a) (okZ htb as)
theorem okWP (htb : ∀ f ws S r, c f ws S = some r → tb f) : ∀ e : Es, OkWP K fa C c tb e
  | .nil => okWP_nil
  | .cons _ .nil => okWP_one
  | .cons a (.cons b t) => okWP_cons (okE htb a) (okE htb b) (okWP htb t)
theorem okO (htb : ∀ f ws S r, c f ws S = some r → tb f) : ∀ e : Eo, OkO K fa C c tb e
  | .none => okO_none
  | .some a => okO_some (okE htb a)
theorem okI (htb : ∀ f ws S r, c f ws S = some r → tb f) : ∀ e : It, OkI K fa C c tb e
  | .seq a => okI_seq (okE htb a)
  | .fzq a => okI_fzq (okE htb a)
  | .r1 a => okI_r1 (okE htb a)
  | .r2 a b => okI_r2 (okE htb a) (okE htb b)
  | .zip a b => okI_zip (okE htb a) (okE htb b)
end
end
end Pv

set_option Elab.async false
set_option linter.all false
set_option maxRecDepth 100000
set_option maxHeartbeats 4000000
namespace Pv
open PySem L2

section
variable {K : PySem.W.Frag} {fa : FA} {C : Addr} {W : WX} {c : Call} {tb : Nat → Prop} {g : Gh} {H : Hp} {S : Store}
theorem Rel.pushHeld {p : Addr} {o : HO} {mo : MO} (r : Rel K fa (g.hold p o) H S) (hF : ∀ a u, g.F a = some u → a ≠ p) (hm : RepM K fa g p o mo) (hcn : mo.isC = false := by rfl) : Rel K fa (g.push p) H (S ++ [mo]) := by
  obtain ⟨q1, q2, q3⟩ := r.frm p o upd_same
  have rl : S.length = g.n := r.len
  have old : ∀ {i : Nat}, i < S.length → (g.push p).φ i = g.φ i := fun {i} hi => by
    show (if i = g.n then p else g.φ i) = g.φ i
    rw [if_neg (by omega)]
  have new : (g.push p).φ S.length = p := by
    show (if S.length = g.n then p else g.φ S.length) = p
    rw [if_pos rl]
  refine ⟨by simp [Gh.push, rl], r.ext, fun i m e hm' => ?_, fun i j mi mj ei ej hi hj q => ?_, fun a u e => ?_, fun a u e => r.ft a u (by show upd g.F p o a = some u; rw [upd_ne (hF a u e)]; exact e), r.tb, r.gt, fun i m e hc => (by
      rcases getElem?_push e with ⟨e1, _⟩ | ⟨rfl, rfl⟩
      · exact r.ii i m e1 hc
      · rw [hcn] at hc; cases hc), fun i l e q hq => Nat.lt_succ_of_lt (r.ir i l e q hq)⟩
  · rcases getElem?_push e with ⟨e1, hl⟩ | ⟨rfl, rfl⟩
    · rw [old hl]
      obtain ⟨u, h1, h2, h3⟩ := r.live i m e1 hm'
      exact ⟨u, h1, RepM.mono Gh.le_push (RepM.same (g' := g) h2), h3⟩
    · rw [new]; exact ⟨o, q1, RepM.mono Gh.le_push hm, q2⟩
  · rcases getElem?_push ei with ⟨e1, l1⟩ | ⟨rfl, rfl⟩
    · rcases getElem?_push ej with ⟨e2, l2⟩ | ⟨rfl, rfl⟩
      · rw [old l1, old l2] at q
        exact r.inj i j mi mj e1 e2 hi hj q
      · rw [old l1, new] at q
        exact absurd q (q3 i mi e1 hi)
    · rcases getElem?_push ej with ⟨e2, l2⟩ | ⟨rfl, rfl⟩
      · rw [new, old l2] at q
        exact absurd q.symm (q3 j mj e2 hj)
      · rfl
  · have ne : a ≠ p := hF a u e
    obtain ⟨h1, h2, h3⟩ := r.frm a u (by show upd g.F p o a = some u; rw [upd_ne ne]; exact e)
    refine ⟨h1, h2, fun i m ei hi => ?_⟩
    rcases getElem?_push ei with ⟨e1, l1⟩ | ⟨rfl, rfl⟩
    · rw [old l1]; exact h3 i m e1 hi
    · rw [new]; exact ne.symm
theorem lstAt_some {S : Store} {n : Nat} {ds : List D} (h : lstAt S n = some ds) : S[n]? = some (.lst ds) := by
  unfold lstAt at h
  split at h
  · cases h; assumption
  · cases h
theorem POut.mono {g g' : Gh} {Z : Ends} {ob : Bool} (l : g.le g') : ∀ {o : Out}, POut K fa C W ob g Z o → POut K fa C W ob g' Z o
  | .nx _ _, h => fun g2 σ H l2 => h g2 σ H (l.trans l2)
  | .bk _ _, h => fun g2 σ H l2 => h g2 σ H (l.trans l2)
  | .ct _ _, h => fun g2 σ H l2 => h g2 σ H (l.trans l2)
  | .rt _ _, h => fun g2 H v l2 => h g2 H v (l.trans l2)
  | .xc _ _, h => fun σ => (h σ).mono l
  | .rm _ _, h => fun g2 H v l2 => h g2 H v (l.trans l2)
def OkS (K : PySem.W.Frag) (fa : FA) (C : Addr) (W : WX) (c : Call) (tb : Nat → Prop) (s : Pv.S) : Prop := ∀ ρ S o, evS c s ρ S = some o → ∀ g σ H, Rel K fa g H S → RepEn K fa c.ob g σ ρ → ∀ Z : Ends, POut K fa C W c.ob g Z o → tS K fa (spC K fa C c) tb C W s Z σ H
def OkSs (K : PySem.W.Frag) (fa : FA) (C : Addr) (W : WX) (c : Call) (tb : Nat → Prop) (s : Ss) : Prop := ∀ ρ S o, evSs c s ρ S = some o → ∀ g σ H, Rel K fa g H S → RepEn K fa c.ob g σ ρ → ∀ Z : Ends, POut K fa C W c.ob g Z o → tSs K fa (spC K fa C c) tb C W s Z σ H

variable (htb : ∀ f ws S r, c f ws S = some r → tb f)
theorem okS_asg {tg : Tg} {e : E} (he : OkE K fa C c tb e) : OkS K fa C W c tb (.asg tg e) := fun ρ S o ev g σ H r hσ Z k => by
  simp only [evS] at ev
  obtain ⟨⟨w, S1⟩, e1, ev⟩ := Option.bind_eq_some_iff.mp ev
  refine he _ _ _ _ e1 g σ H r hσ _ fun g1 H1 v l1 r1 h1 => ?_
  have gen : ∀ {tg : Tg} {d : D} {o : Out}, RepD K fa g1.G v d → ((asgn tg d ρ).map fun ρ' => Out.nx ρ' S1) = some o → POut K fa C W c.ob g Z o → tTg K tg v σ H1 Z.nx := fun h1 ev k => by
    obtain ⟨ρ', e2, ev⟩ := Option.map_eq_some_iff.mp ev
    cases ev
    exact tg_ok r1 e2 h1 (hσ.mono l1) fun σ' h2 _ => k g1 σ' H1 l1 r1 h2
  split at ev
  · split at ev
    · cases ev
      exact k g1 _ H1 l1 r1 ((hσ.mono l1).set h1)
    · cases ev
  · split at ev
    · rename_i d hw
      obtain rfl : w = _ := hw
      exact gen h1 ev k
    · cases ev
theorem okS_par {i j : Nat} {a b : E} (ha : OkE K fa C c tb a) (hb : OkE K fa C c tb b) : OkS K fa C W c tb (.par i j a b) := fun ρ S o ev g σ H r hσ Z k => by
  simp only [evS] at ev
  obtain ⟨⟨x, S1⟩, e1, ev⟩ := Option.bind_eq_some_iff.mp ev
  obtain ⟨⟨y, S2⟩, e2, ev⟩ := Option.bind_eq_some_iff.mp ev
  split at ev
  · cases ev
    refine ha _ _ _ _ e1 g σ H r hσ _ fun g1 H1 v l1 r1 h1 => hb _ _ _ _ e2 g1 σ H1 r1 (hσ.mono l1) _ fun g2 H2 u l2 r2 h2 => ?_
    exact ⟨v, u, rfl, k g2 _ H2 (l1.trans l2) r2 ((((hσ.mono l1).mono l2).set (RepW.mono l2 h1)).set h2)⟩
  · cases ev
theorem okS_newD {i : Nat} : OkS K fa C W c tb (.newD i) := fun ρ S o ev g σ H r hσ Z k => by
  simp only [evS] at ev
  split at ev
  · cases ev
    intro p hp
    have r1 := r.push (o := .dK []) (mo := .dK [] []) hp ⟨[], rfl, rfl, RepDs.nil⟩
    refine k (g.push p) _ _ Gh.le_push r1 ((hσ.mono Gh.le_push).set ?_)
    refine ⟨?_, by show S.length < g.n + 1; rw [r.len]; omega⟩
    show V.ref p = V.ref (if S.length = g.n then p else g.φ S.length)
    rw [if_pos r.len]
  · cases ev
theorem okS_newT {i : Nat} : OkS K fa C W c tb (.newT i) := fun ρ S o ev g σ H r hσ Z k => by
  simp only [evS] at ev
  split at ev
  · cases ev
    intro p hp
    have r1 := r.push (o := .dT []) (mo := .dT [] []) hp ⟨[], rfl, rfl, RepDs.nil⟩
    refine k (g.push p) _ _ Gh.le_push r1 ((hσ.mono Gh.le_push).set ?_)
    refine ⟨?_, by show S.length < g.n + 1; rw [r.len]; omega⟩
    show V.ref p = V.ref (if S.length = g.n then p else g.φ S.length)
    rw [if_pos r.len]
  · cases ev
theorem RepDs.eraseIdx {G : Hp} : ∀ {ds : List D} {vs : List V} (k : Nat), RepDs K fa G vs ds → RepDs K fa G (vs.eraseIdx k) (ds.eraseIdx k)
  | [], vs, k, h => by simp only [RepDs] at h; subst h; simpa using RepDs.nil
  | d :: ds, vs, 0, h => by
    simp only [RepDs] at h
    obtain ⟨v, t, rfl, h1, h2⟩ := h
    simpa using h2
  | d :: ds, vs, k + 1, h => by
    simp only [RepDs] at h
    obtain ⟨v, t, rfl, h1, h2⟩ := h
    simpa using RepDs.cons h1 (RepDs.eraseIdx k h2)
theorem mu_new0 {p : Addr} (hl : S.length = g.n) : RepW K fa (g.push p) (.ref p) (.mu S.length) := by
  refine ⟨?_, by show S.length < g.n + 1; omega⟩
  show V.ref p = V.ref (if S.length = g.n then p else g.φ S.length)
  rw [if_pos hl]
theorem okS_newS {i : Nat} : OkS K fa C W c tb (.newS i) := fun ρ S o ev g σ H r hσ Z k => by
  simp only [evS] at ev
  split at ev
  · cases ev
    refine ⟨rfl, fun p hp => ?_⟩
    have r1 := r.push (o := SetK fa.P fa.w p (fun _ => false) 0) (mo := .set []) hp (by
      show SetK fa.P fa.w p (fun _ => false) 0 = SetK fa.P fa.w p (fun k => hasK k ([] : List Key)) ([] : List Key).length
      congr 1)
    refine k (g.push p) _ _ Gh.le_push r1 ((hσ.mono Gh.le_push).set ?_)
    refine ⟨?_, by show S.length < g.n + 1; rw [r.len]; omega⟩
    show V.ref p = V.ref (if S.length = g.n then p else g.φ S.length)
    rw [if_pos r.len]
  · cases ev
theorem okS_addS {i : Nat} {e : E} (he : OkE K fa C c tb e) : OkS K fa C W c tb (.addS i e) := fun ρ S o ev g σ H r hσ Z k => by
  simp only [evS] at ev
  split at ev
  · rename_i n hn
    obtain ⟨ks0, e0, ev⟩ := Option.bind_eq_some_iff.mp ev
    obtain ⟨⟨w, S1⟩, e1, ev⟩ := Option.bind_eq_some_iff.mp ev
    cases w with
    | mu _ => cases ev
    | d kd =>
      obtain ⟨kk, e2, ev⟩ := Option.bind_eq_some_iff.mp ev
      obtain ⟨ks, e3, ev⟩ := Option.bind_eq_some_iff.mp ev
      split at ev
      · rename_i hz
        cases ev
        obtain ⟨v, q1, rfl, q3⟩ := hσ.2 i _ hn
        obtain ⟨u0, m1, m2, m3⟩ := r.live n _ (setAt_some e0) (fun z => nomatch z)
        have m2' : u0 = SetK fa.P fa.w (g.φ n) (fun k => hasK k ks0) ks0.length := m2
        subst m2'
        refine ⟨_, q1, ⟨_, _, _, rfl, m1⟩, he _ _ _ _ e1 g σ H r hσ _ fun g1 H1 v1 l1 r1 h1 => ?_⟩
        obtain ⟨u, n1, n2, n3⟩ := r1.live n _ (setAt_some e3) (fun z => nomatch z)
        have n2' : u = SetK fa.P fa.w (g1.φ n) (fun k => hasK k ks) ks.length := n2
        subst n2'
        have ef : g1.φ n = g.φ n := l1.φ n q3
        have r3 := r1.write (mo := .set (if hasK kk ks = true then ks else ks ++ [kk])) (o := SetK fa.P fa.w (g1.φ n) (fun j => hasK j ks || decide (j = kk)) (if hasK kk ks = true then ks.length else ks.length + 1)) (setAt_some e3) (fun z => nomatch z) (by
          show SetK fa.P fa.w (g1.φ n) _ _ = SetK fa.P fa.w (g1.φ n) _ _
          by_cases hk : hasK kk ks = true
          · rw [if_pos hk, if_pos hk]
            congr 1
            funext j
            by_cases hj : j = kk
            · subst hj; rw [hk]; simp
            · simp [hj]
          · rw [if_neg hk, if_neg hk]
            congr 1
            · funext j
              unfold hasK
              rw [List.any_append]
              by_cases hj : j = kk
              · subst hj; simp
              · simp [hj, fun z : kk = j => hj z.symm]
                intro z; exact absurd z.symm hj
            · simp)
        rw [ef] at n1 r3
        exact ⟨g.φ n, kk, _, _, rfl, by rw [keyOf_ok (K := K) (fa := fa) e2 h1], n1, hz, k g1 σ _ l1 r3 (hσ.mono l1)⟩
      · cases ev
  · cases ev
theorem okS_whl {t : T} {body : Ss} (ht : OkT K fa C c tb t) (hb : OkSs K fa C W c tb body) : OkS K fa C W c tb (.whl t body) := fun ρ S o ev g σ H r hσ Z k => by
  simp only [evS] at ev
  generalize hf : (fun (ρ : En) (S : Store) => evSs c body ρ S) = f at ev
  generalize hq : (fun (ρ : En) (S : Store) => evT c t ρ S) = q at ev
  refine ⟨fun m σ H => ∃ g' ρ' S', g.le g' ∧ Rel K fa g' H S' ∧ RepEn K fa c.ob g' σ ρ' ∧ whL q f m ρ' S' = some o, ⟨5000, g, ρ, S, .refl g, r, hσ, ev⟩, ?_⟩
  rintro m σ' H' ⟨g2, ρ2, S2, l2, r2, hσ2, ef⟩
  cases m with
  | zero => simp only [whL] at ef; cases ef
  | succ m =>
    simp only [whL] at ef
    obtain ⟨⟨b, S3⟩, e3, ef⟩ := Option.bind_eq_some_iff.mp ef
    rw [← hq] at e3
    refine ht _ _ _ _ e3 g2 σ' H' r2 hσ2 _ fun g3 H3 l3 r3 => ?_
    dsimp only at ef
    split at ef
    · rename_i hb1
      rw [if_pos hb1]
      obtain ⟨o1, e4, ef⟩ := Option.bind_eq_some_iff.mp ef
      rw [← hf] at e4
      have l23 := l2.trans l3
      refine ⟨fun σ H => ∃ g' ρ' S', g.le g' ∧ Rel K fa g' H S' ∧ RepEn K fa c.ob g' σ ρ' ∧ whL q f m ρ' S' = some o, fun σ4 H4 w4 => ⟨m, Nat.lt_succ_self m, w4⟩, hb _ _ _ e4 g3 σ' H3 r3 (hσ2.mono l3) _ ?_⟩
      cases o1 with
      | nx ρ5 S5 => exact fun g5 σ5 H5 l5 r5 h5 => ⟨g5, ρ5, S5, l23.trans l5, r5, h5, ef⟩
      | ct ρ5 S5 => exact fun g5 σ5 H5 l5 r5 h5 => ⟨g5, ρ5, S5, l23.trans l5, r5, h5, ef⟩
      | bk ρ5 S5 =>
        cases ef
        exact fun g5 σ5 H5 l5 r5 h5 => k g5 σ5 H5 (l23.trans l5) r5 h5
      | rt d5 S5 =>
        cases ef
        exact fun g5 H5 v5 l5 r5 h5 => k g5 H5 v5 (l23.trans l5) r5 h5
      | xc d5 S5 =>
        cases ef
        exact fun σ5 => (k σ5).mono l23
      | rm d5 S5 =>
        cases ef
        exact fun g5 H5 v5 l5 r5 h5 => k g5 H5 v5 (l23.trans l5) r5 h5
    · rename_i hb1
      rw [if_neg hb1]
      cases ef
      exact k g3 σ' H3 (l2.trans l3) r3 (hσ2.mono l3)
theorem okS_par2T {i j : Nat} : OkS K fa C W c tb (.par2T i j) := fun ρ S o ev g σ H r hσ Z k => by
  simp only [evS] at ev
  split at ev
  · cases ev
    intro p hp p2 hp2
    have r1 := r.push (o := .dT []) (mo := .dT [] []) hp ⟨[], rfl, rfl, RepDs.nil⟩
    have r2 := r1.push (o := .dT []) (mo := .dT [] []) hp2 ⟨[], rfl, rfl, RepDs.nil⟩
    exact ⟨_, _, rfl, k _ _ _ (Gh.le_push.trans Gh.le_push) r2 ((((hσ.mono Gh.le_push).mono Gh.le_push).set (RepW.mono Gh.le_push (mu_new0 r.len))).set (mu_new0 r1.len))⟩
  · cases ev
theorem okS_popL {i : Nat} {e : E} (he : OkE K fa C c tb e) : OkS K fa C W c tb (.popL i e) := fun ρ S o ev g σ H r hσ Z k => by
  simp only [evS] at ev
  split at ev
  · rename_i n hn
    obtain ⟨ds0, e0, ev⟩ := Option.bind_eq_some_iff.mp ev
    obtain ⟨⟨w, S1⟩, e1, ev⟩ := Option.bind_eq_some_iff.mp ev
    split at ev
    · rename_i z hw
      obtain rfl : w = _ := hw
      obtain ⟨ds, e3, ev⟩ := Option.bind_eq_some_iff.mp ev
      split at ev
      · rename_i hz
        cases ev
        obtain ⟨v, q1, rfl, q3⟩ := hσ.2 i _ hn
        obtain ⟨u0, m1, ⟨vs0, rfl, m2⟩, m3⟩ := r.live n _ (lstAt_some e0) (fun z => nomatch z)
        refine ⟨_, q1, .inl ⟨rfl, vs0, .of m1⟩, he _ _ _ _ e1 g σ H r hσ _ fun g1 H1 v1 l1 r1 h1 => ?_⟩
        simp only [RepW, RepD] at h1
        subst h1
        obtain ⟨u, n1, ⟨vs, rfl, n2⟩, n3⟩ := r1.live n _ (lstAt_some e3) (fun z => nomatch z)
        have ef : g1.φ n = g.φ n := (l1.φ n q3)
        have r3 := r1.write (mo := .lst (ds.eraseIdx z.toNat)) (o := .lst (vs.eraseIdx z.toNat)) (lstAt_some e3) (fun z => nomatch z) ⟨_, rfl, RepDs.eraseIdx z.toNat n2⟩
        rw [ef] at n1 r3
        have hl := n2.length
        have hix : seqIndex? z vs.length = some z.toNat := by
          unfold seqIndex?
          have h0 : ¬ z < 0 := by omega
          have h1 : (decide (0 ≤ z) && decide (z < (vs.length : Int))) = true := by
            rw [Bool.and_eq_true]
            exact ⟨decide_eq_true hz.1, decide_eq_true (by omega)⟩
          simp only [if_neg h0, h1, if_true]
        refine ⟨g.φ n, vs, z, z.toNat, _, rfl, rfl, n1, ?_, ?_, hix, List.getElem?_eq_getElem (by omega), k g1 σ _ l1 r3 (hσ.mono l1)⟩
        · have : (2 : Int) ^ 63 = 9223372036854775808 := by decide
          omega
        · have : (2 : Int) ^ 63 = 9223372036854775808 := by decide
          omega
      · cases ev
    · cases ev
  · cases ev
theorem okS_aug {i : Nat} {sb : Bool} {e : E} (he : OkE K fa C c tb e) : OkS K fa C W c tb (.aug i sb e) := fun ρ S o ev g σ H r hσ Z k => by
  simp only [evS] at ev
  split at ev
  · rename_i a ha
    obtain ⟨⟨w, S1⟩, e1, ev⟩ := Option.bind_eq_some_iff.mp ev
    split at ev
    · rename_i b hb
      obtain rfl : w = _ := hb
      cases ev
      obtain ⟨v, h1, h2⟩ := hσ.2 i _ ha
      simp only [RepW, RepD] at h2
      subst h2
      refine ⟨_, h1, he _ _ _ _ e1 g σ H r hσ _ fun g1 H1 v1 l1 r1 h3 => ?_⟩
      simp only [RepW, RepD] at h3
      subst h3
      cases sb with
      | false => exact ⟨a, b, rfl, rfl, k g1 _ _ l1 r1 ((hσ.mono l1).set (by simp only [Bool.false_eq_true, if_false, RepW, RepD]))⟩
      | true => exact ⟨a, b, rfl, rfl, k g1 _ _ l1 r1 ((hσ.mono l1).set (by simp only [if_true, RepW, RepD]))⟩
    · cases ev
  · cases ev
theorem mu_new {p : Addr} (hl : S.length = g.n) : RepW K fa (g.push p) (.ref p) (.mu S.length) := by
  refine ⟨?_, by show S.length < g.n + 1; omega⟩
  show V.ref p = V.ref (if S.length = g.n then p else g.φ S.length)
  rw [if_pos hl]
theorem okS_newL {i : Nat} {as : Es} (ha : OkZ K fa C c tb as) : OkS K fa C W c tb (.newL i as) := fun ρ S o ev g σ H r hσ Z k => by
  simp only [evS] at ev
  obtain ⟨⟨ds, S1⟩, e1, ev⟩ := Option.bind_eq_some_iff.mp ev
  split at ev
  · rename_i hz
    cases ev
    refine ha _ _ _ _ e1 g σ H r hσ _ fun g1 H1 vs l1 r1 h1 => ⟨by rw [h1.length]; exact hz.2, fun p hp => ?_⟩
    have r2 := r1.push (o := .lst vs) (mo := .lst ds) hp ⟨vs, rfl, h1⟩
    exact k (g1.push p) _ _ (l1.trans Gh.le_push) r2 (((hσ.mono l1).mono Gh.le_push).set (mu_new r1.len))
  · cases ev
theorem okS_newC {i : Nat} {vs : List Nat} {tg : Tg} {it : It} {cond : To} {elt : E} (hi : OkI K fa C c tb it) (hc : OkTo K fa C c tb cond) (he : OkE K fa C c tb elt) : OkS K fa C W c tb (.newC i vs tg it cond elt) := fun ρ S o ev g σ H r hσ Z k => by
  simp only [evS] at ev
  obtain ⟨⟨w, S1⟩, e1, ev⟩ := Option.bind_eq_some_iff.mp ev
  split at ev
  · rename_i ds hw
    obtain rfl : w = _ := hw
    split at ev
    · cases ev
      refine comp_core (Q := fun v H1 => gName i v σ H1 Z.nx) hi hc he e1 r hσ fun gb H' p accV lb hF rb hacc => ?_
      have r2 := rb.pushHeld (mo := .lst ds) hF ⟨accV, rfl, hacc⟩
      exact k (gb.push p) _ _ (lb.trans Gh.le_push) r2 (((hσ.mono lb).mono Gh.le_push).set (mu_new rb.len))
    · cases ev
  · cases ev
theorem okS_app {i : Nat} {e : E} (he : OkE K fa C c tb e) : OkS K fa C W c tb (.app i e) := fun ρ S o ev g σ H r hσ Z k => by
  simp only [evS] at ev
  split at ev
  · rename_i n hn
    obtain ⟨ds0, e0, ev⟩ := Option.bind_eq_some_iff.mp ev
    obtain ⟨⟨w, S1⟩, e1, ev⟩ := Option.bind_eq_some_iff.mp ev
    obtain ⟨⟨d, S2⟩, e2, ev⟩ := Option.bind_eq_some_iff.mp ev
    obtain ⟨ds, e3, ev⟩ := Option.bind_eq_some_iff.mp ev
    split at ev
    · rename_i hz
      cases ev
      obtain ⟨v, q1, rfl, q3⟩ := hσ.2 i _ hn
      obtain ⟨u0, m1, ⟨vs0, rfl, m2⟩, m3⟩ := r.live n _ (lstAt_some e0) (fun z => nomatch z)
      refine ⟨_, q1, .inl ⟨rfl, vs0, .of m1⟩, he _ _ _ _ e1 g σ H r hσ _ fun g1 H1 v1 l1 r1 h1 => ?_⟩
      obtain ⟨g2, l2, r2, h2⟩ := r1.fz h1 e2
      obtain ⟨u, n1, ⟨vs, rfl, n2⟩, n3⟩ := r2.live n _ (lstAt_some e3) (fun z => nomatch z)
      have ef : g2.φ n = g.φ n := ((l1.trans l2).φ n q3)
      have r3 := r2.write (mo := .lst (ds ++ [d])) (o := .lst (vs ++ [v1])) (lstAt_some e3) (fun z => nomatch z) ⟨_, rfl, RepDs.append n2 (RepDs.cons h2 RepDs.nil)⟩
      rw [ef] at n1 r3
      exact ⟨g.φ n, vs, v1, rfl, rfl, n1, by rw [n2.length]; exact hz, k g2 σ _ (l1.trans l2) r3 ((hσ.mono l1).mono l2)⟩
    · cases ev
  · cases ev
theorem okS_setL {i : Nat} {q e : E} (hq : OkE K fa C c tb q) (he : OkE K fa C c tb e) : OkS K fa C W c tb (.setL i q e) := fun ρ S o ev g σ H r hσ Z k => by
  simp only [evS] at ev
  split at ev
  · rename_i n hn
    obtain ⟨⟨w, S1⟩, e1, ev⟩ := Option.bind_eq_some_iff.mp ev
    obtain ⟨⟨d, S2⟩, e2, ev⟩ := Option.bind_eq_some_iff.mp ev
    obtain ⟨⟨x, S3⟩, e3, ev⟩ := Option.bind_eq_some_iff.mp ev
    split at ev
    · rename_i z hx
      obtain rfl : x = _ := hx
      obtain ⟨ds, e4, ev⟩ := Option.bind_eq_some_iff.mp ev
      obtain ⟨j, e5, ev⟩ := Option.map_eq_some_iff.mp ev
      cases ev
      refine he _ _ _ _ e1 g σ H r hσ _ fun g1 H1 v1 l1 r1 h1 => ?_
      obtain ⟨g2, l2, r2, h2⟩ := r1.fz h1 e2
      obtain ⟨v, q1, rfl, q3⟩ := hσ.2 i _ hn
      refine ⟨_, q1, hq _ _ _ _ e3 g2 σ H1 r2 ((hσ.mono l1).mono l2) _ fun g3 H3 v3 l3 r3 h3 => ?_⟩
      simp only [RepW, RepD] at h3
      subst h3
      obtain ⟨u, n1, ⟨vs, rfl, n2⟩, n3⟩ := r3.live n _ (lstAt_some e4) (fun z => nomatch z)
      have lt := l1.trans (l2.trans l3)
      have ef : g3.φ n = g.φ n := lt.φ n q3
      have r4 := r3.write (mo := .lst (ds.set j d)) (o := .lst (vs.set j v1)) (lstAt_some e4) (fun z => nomatch z) ⟨_, rfl, RepDs.set j n2 (RepD.mono l3.G h2)⟩
      rw [ef] at n1 r4
      exact ⟨g.φ n, vs, z, j, rfl, rfl, n1, by rw [n2.length]; exact e5, k g3 σ _ lt r4 (hσ.mono lt)⟩
    · cases ev
  · cases ev
theorem okS_augL {i : Nat} {q e : E} (hq : OkE K fa C c tb q) (he : OkE K fa C c tb e) : OkS K fa C W c tb (.augL i q e) := fun ρ S o ev g σ H r hσ Z k => by
  simp only [evS] at ev
  split at ev
  case h_2 => cases ev
  rename_i n hn
  obtain ⟨⟨x, S1⟩, e1, ev⟩ := Option.bind_eq_some_iff.mp ev
  split at ev
  case h_2 => cases ev
  rename_i z hx
  obtain rfl : x = _ := hx
  obtain ⟨ds, e2, ev⟩ := Option.bind_eq_some_iff.mp ev
  obtain ⟨y, e3, ev⟩ := Option.bind_eq_some_iff.mp ev
  split at ev
  case h_2 => cases ev
  rename_i a
  obtain ⟨⟨w, S2⟩, e4, ev⟩ := Option.bind_eq_some_iff.mp ev
  split at ev
  case h_2 => cases ev
  rename_i b hw
  obtain rfl : w = _ := hw
  obtain ⟨ds', e5, ev⟩ := Option.bind_eq_some_iff.mp ev
  obtain ⟨j, e6, ev⟩ := Option.map_eq_some_iff.mp ev
  cases ev
  obtain ⟨v, q1, rfl, q3⟩ := hσ.2 i _ hn
  refine ⟨_, q1, hq _ _ _ _ e1 g σ H r hσ _ fun g1 H1 v1 l1 r1 h1 => ?_⟩
  simp only [RepW, RepD] at h1
  subst h1
  obtain ⟨u, n1, ⟨vs, rfl, n2⟩, n3⟩ := r1.live n _ (lstAt_some e2) (fun z => nomatch z)
  have ef1 : g1.φ n = g.φ n := l1.φ n q3
  rw [ef1] at n1
  obtain ⟨va, m1, m2⟩ := n2.atI e3
  simp only [RepD] at m2
  subst m2
  refine ⟨g.φ n, vs, z, _, rfl, rfl, .of n1, m1, he _ _ _ _ e4 g1 σ H1 r1 (hσ.mono l1) _ fun g2 H2 v2 l2 r2 h2 => ?_⟩
  simp only [RepW, RepD] at h2
  subst h2
  refine ⟨a, b, rfl, rfl, ?_⟩
  obtain ⟨u, p1, ⟨us, rfl, p2⟩, p3⟩ := r2.live n _ (lstAt_some e5) (fun z => nomatch z)
  have lt := l1.trans l2
  have ef : g2.φ n = g.φ n := lt.φ n q3
  have r4 := r2.write (mo := .lst (ds'.set j (.int (a + b)))) (o := .lst (us.set j (.int (a + b)))) (lstAt_some e5) (fun z => nomatch z) ⟨_, rfl, RepDs.set j p2 (by simp only [RepD])⟩
  rw [ef] at p1 r4
  exact ⟨g.φ n, us, z, j, rfl, rfl, p1, by rw [p2.length]; exact e6, k g2 σ _ lt r4 (hσ.mono lt)⟩
theorem okS_setD {i : Nat} {q e : E} (hq : OkE K fa C c tb q) (he : OkE K fa C c tb e) : OkS K fa C W c tb (.setD i q e) := fun ρ S o ev g σ H r hσ Z k => by
  simp only [evS] at ev
  split at ev
  · rename_i n hn
    obtain ⟨⟨w, S1⟩, e1, ev⟩ := Option.bind_eq_some_iff.mp ev
    obtain ⟨⟨d, S2⟩, e2, ev⟩ := Option.bind_eq_some_iff.mp ev
    obtain ⟨⟨x, S3⟩, e3, ev⟩ := Option.bind_eq_some_iff.mp ev
    split at ev
    · rename_i kd ks ds hx hs
      obtain rfl : x = _ := hx
      obtain ⟨kk, e5, ev⟩ := Option.bind_eq_some_iff.mp ev
      split at ev
      · rename_i hz
        cases ev
        refine he _ _ _ _ e1 g σ H r hσ _ fun g1 H1 v1 l1 r1 h1 => ?_
        obtain ⟨g2, l2, r2, h2⟩ := r1.fz h1 e2
        obtain ⟨v, q1, rfl, q3⟩ := hσ.2 i _ hn
        refine ⟨_, q1, hq _ _ _ _ e3 g2 σ H1 r2 ((hσ.mono l1).mono l2) _ fun g3 H3 v3 l3 r3 h3 => ?_⟩
        obtain rfl := keyOf_ok e5 h3
        obtain ⟨u, n1, ⟨kvs, rfl, rfl, n2⟩, n3⟩ := r3.live n _ hs (fun z => nomatch z)
        have lt := l1.trans (l2.trans l3)
        have ef : g3.φ n = g.φ n := lt.φ n q3
        obtain ⟨p1, p2⟩ := putD_ok (k := kk) (RepD.mono l3.G h2) n2
        have r4 := r3.write (mo := .dK _ _) (o := .dK (putK kvs kk v1)) hs (fun z => nomatch z) ⟨_, rfl, p1, p2⟩
        rw [ef] at n1 r4
        refine ⟨g.φ n, _, rfl, DPut.k n1 (by simpa using hz), k g3 σ _ lt r4 (hσ.mono lt)⟩
      · cases ev
    · rename_i ys ks ds hx hs
      obtain rfl : x = _ := hx
      obtain ⟨kk, e5, ev⟩ := Option.bind_eq_some_iff.mp ev
      split at ev
      · rename_i hz
        cases ev
        refine he _ _ _ _ e1 g σ H r hσ _ fun g1 H1 v1 l1 r1 h1 => ?_
        obtain ⟨g2, l2, r2, h2⟩ := r1.fz h1 e2
        obtain ⟨v, q1, rfl, q3⟩ := hσ.2 i _ hn
        refine ⟨_, q1, hq _ _ _ _ e3 g2 σ H1 r2 ((hσ.mono l1).mono l2) _ fun g3 H3 v3 l3 r3 h3 => ?_⟩
        simp only [RepW, RepD] at h3
        obtain ⟨b, vs, rfl, hb, hvs⟩ := h3
        rcases hb with hb | hb
        · have hb' : H3 b = some (.tup vs) := by
            rcases r3.ext b _ hb with h | ⟨h, _⟩
            · exact h
            · cases h
          rw [keysOf_ok e5 hvs] at hb'
          obtain ⟨u, n1, ⟨kvs, rfl, rfl, n2⟩, n3⟩ := r3.live n _ hs (fun z => nomatch z)
          have lt := l1.trans (l2.trans l3)
          have ef : g3.φ n = g.φ n := lt.φ n q3
          obtain ⟨p1, p2⟩ := putD_ok (k := kk) (RepD.mono l3.G h2) n2
          have r4 := r3.write (mo := .dT _ _) (o := .dT (putK kvs kk v1)) hs (fun z => nomatch z) ⟨_, rfl, p1, p2⟩
          rw [ef] at n1 r4
          refine ⟨g.φ n, _, rfl, DPut.t n1 hb' (by simpa using hz), k g3 σ _ lt r4 (hσ.mono lt)⟩
        · exact hb.elim
      · cases ev
    · cases ev
  · cases ev
theorem okS_drop {e : E} (he : OkE K fa C c tb e) : OkS K fa C W c tb (.drop e) := fun ρ S o ev g σ H r hσ Z k => by
  simp only [evS] at ev
  obtain ⟨⟨w, S1⟩, e1, ev⟩ := Option.map_eq_some_iff.mp ev
  cases ev
  exact he _ _ _ _ e1 g σ H r hσ _ fun g1 H1 v l1 r1 h1 => k g1 σ H1 l1 r1 (hσ.mono l1)
theorem okS_ret {e : E} (he : OkE K fa C c tb e) : OkS K fa C W c tb (.ret e) := fun ρ S o ev g σ H r hσ Z k => by
  simp only [evS] at ev
  obtain ⟨⟨w, S1⟩, e1, ev⟩ := Option.bind_eq_some_iff.mp ev
  obtain ⟨⟨d, S2⟩, e2, ev⟩ := Option.map_eq_some_iff.mp ev
  cases ev
  refine he _ _ _ _ e1 g σ H r hσ _ fun g1 H1 v l1 r1 h1 => ?_
  obtain ⟨g2, l2, r2, h2⟩ := r1.fz h1 e2
  exact k g2 H1 v (l1.trans l2) r2 h2
theorem okS_retN : OkS K fa C W c tb .retN := fun ρ S o ev g σ H r hσ Z k => by
  simp only [evS] at ev
  cases ev
  exact k g H .non (.refl g) r (by simp only [RepD])
theorem okS_ifs {t : T} {a b : Ss} (ht : OkT K fa C c tb t) (ha : OkSs K fa C W c tb a) (hb : OkSs K fa C W c tb b) : OkS K fa C W c tb (.ifs t a b) := fun ρ S o ev g σ H r hσ Z k => by
  simp only [evS] at ev
  obtain ⟨⟨x, S1⟩, e1, ev⟩ := Option.bind_eq_some_iff.mp ev
  refine ht _ _ _ _ e1 g σ H r hσ _ fun g1 H1 l1 r1 => ?_
  cases x with
  | true =>
    rw [if_pos rfl] at ev ⊢
    exact ha _ _ _ ev g1 σ H1 r1 (hσ.mono l1) Z (k.mono l1)
  | false =>
    rw [if_neg (fun z => nomatch z)] at ev ⊢
    exact hb _ _ _ ev g1 σ H1 r1 (hσ.mono l1) Z (k.mono l1)
theorem okS_for {tg : Tg} {it : It} {body : Ss} (hi : OkI K fa C c tb it) (hb : OkSs K fa C W c tb body) : OkS K fa C W c tb (.forS tg it body) := fun ρ S o ev g σ H r hσ Z k => by
  simp only [evS] at ev
  obtain ⟨⟨ds, S1⟩, e1, ev⟩ := Option.bind_eq_some_iff.mp ev
  refine hi _ _ _ _ e1 g σ H r hσ _ fun g1 H1 J l1 r1 src => ?_
  generalize hf : (fun (d : D) (ρ : En) (S : Store) => (asgn tg d ρ).bind fun ρ' => evSs c body ρ' S) = f at ev
  refine ⟨fun i m σ H => m = ds.length - i ∧ i ≤ ds.length ∧ ∃ g' ρ' S', g1.le g' ∧ Rel K fa g' H S' ∧ RepEn K fa c.ob g' σ ρ' ∧ forL f (ds.drop i) ρ' S' = some o,
    ⟨_, rfl, Nat.zero_le _, g1, ρ, S1, .refl g1, r1, hσ.mono l1, by simpa using ev⟩, ?_⟩
  rintro i m σ' H ⟨rfl, hil, g2, ρ2, S2, l2, r2, hσ2, ef⟩
  have s0 := src i g2 H S2 l2.G r2
  rcases Nat.eq_or_lt_of_le hil with hi | hi
  · left
    refine ⟨s0.2 (by omega), ?_⟩
    subst hi
    rw [List.drop_length] at ef
    simp only [forL] at ef
    cases ef
    exact k g2 σ' H (l1.trans l2) r2 hσ2
  · right
    have hd : ds[i]? = some ds[i] := List.getElem?_eq_getElem hi
    obtain ⟨hgo, hy⟩ := s0.1 _ hd
    have edrop : ds.drop i = ds[i] :: ds.drop (i + 1) := List.drop_eq_getElem_cons hi
    rw [edrop] at ef
    simp only [forL] at ef
    obtain ⟨o1, e3, ef⟩ := Option.bind_eq_some_iff.mp ef
    refine ⟨hgo, fun σ H => ∃ g' ρ' S', g1.le g' ∧ Rel K fa g' H S' ∧ RepEn K fa c.ob g' σ ρ' ∧ forL f (ds.drop (i + 1)) ρ' S' = some o, fun σ' H' q => ⟨ds.length - (i + 1), by omega, rfl, hi, q⟩, fun x H' y => ?_⟩
    obtain ⟨g3, l3, r3, hx⟩ := hy x H' y
    rw [← hf] at e3
    obtain ⟨ρ4, e4, e3⟩ := Option.bind_eq_some_iff.mp e3
    refine tg_ok r3 e4 hx (hσ2.mono l3) fun σ4 h4 _ => hb _ _ _ e3 g3 σ4 H' r3 h4 _ ?_
    have l23 := l2.trans l3
    cases o1 with
    | nx ρ5 S5 => exact fun g5 σ5 H5 l5 r5 h5 => ⟨g5, ρ5, S5, l23.trans l5, r5, h5, ef⟩
    | ct ρ5 S5 => exact fun g5 σ5 H5 l5 r5 h5 => ⟨g5, ρ5, S5, l23.trans l5, r5, h5, ef⟩
    | bk ρ5 S5 =>
      cases ef
      exact fun g5 σ5 H5 l5 r5 h5 => k g5 σ5 H5 (l1.trans (l23.trans l5)) r5 h5
    | rt d5 S5 =>
      cases ef
      exact fun g5 H5 v5 l5 r5 h5 => k g5 H5 v5 (l1.trans (l23.trans l5)) r5 h5
    | xc d5 S5 =>
      cases ef
      exact fun σ5 => (k σ5).mono (l1.trans l23)
    | rm d5 S5 =>
      cases ef
      exact fun g5 H5 v5 l5 r5 h5 => k g5 H5 v5 (l1.trans (l23.trans l5)) r5 h5
theorem okSs_nil : OkSs K fa C W c tb .nil := fun ρ S o ev g σ H r hσ Z k => by
  simp only [evSs] at ev
  cases ev
  exact k g σ H (.refl g) r hσ
theorem okSs_cons {s : Pv.S} {ss : Ss} (h1 : OkS K fa C W c tb s) (h2 : OkSs K fa C W c tb ss) : OkSs K fa C W c tb (.cons s ss) := fun ρ S o ev g σ H r hσ Z k => by
  simp only [evSs] at ev
  obtain ⟨o1, e1, ev⟩ := Option.bind_eq_some_iff.mp ev
  refine h1 _ _ _ e1 g σ H r hσ _ ?_
  cases o1 with
  | nx ρ1 S1 => exact fun g1 σ1 H1 l1 r1 hσ1 => h2 _ _ _ ev g1 σ1 H1 r1 hσ1 Z (k.mono l1)
  | bk ρ1 S1 => cases ev; exact k
  | ct ρ1 S1 => cases ev; exact k
  | rt d S1 => cases ev; exact k
  | xc d S1 => cases ev; exact k
  | rm d S1 => cases ev; exact k
def XOut (K : PySem.W.Frag) (fa : FA) (C : Addr) (g : Gh) (Q : VK) (E : XK) : Out → Prop
  | .rt d S => PD K fa g S Q d
  | .xc d S => PX K fa C g S E d
  | .rm n S => PWs K fa g S Q (.mu n)
  | _ => True
theorem XOut.mono {g g' : Gh} {Q : VK} {E : XK} (l : g.le g') : ∀ {o : Out}, XOut K fa C g Q E o → XOut K fa C g' Q E o
  | .nx _ _, h | .bk _ _, h | .ct _ _, h => h
  | .rt _ _, h => fun g2 H v l2 => h g2 H v (l.trans l2)
  | .xc _ _, h => PX.mono l h
  | .rm _ _, h => fun g2 H v l2 => h g2 H v (l.trans l2)
theorem outW_ok {g : Gh} {Q : VK} {E : XK} {w : Pv.W} {S : Store} (h : XOut K fa C g Q E (outW (w, S))) : PWs K fa g S Q w := by
  cases w <;> exact h
theorem okX (htb : ∀ f ws S r, c f ws S = some r → tb f) : ∀ (x : XE) (ρ : En) (S : Store) (o : Out), evX c x ρ S = some o → ∀ (g : Gh) (σ : L2.St) (H : Hp), Rel K fa g H S → RepEn K fa c.ob g σ ρ → ∀ (W : WX) (Q : VK), XOut K fa C g Q (WE W σ) o → tX K fa (spC K fa C c) tb W x σ H Q
  | .call f as, ρ, S, o, e, g, σ, H, r, hσ, W, Q, k => by
    simp only [evX] at e
    obtain ⟨⟨ws, S1⟩, e1, e⟩ := Option.bind_eq_some_iff.mp e
    refine okEs htb as _ _ _ _ e1 g σ H r hσ _ fun g1 H1 vs l1 r1 h1 => ?_
    refine ⟨g1, S1, ws, r1, h1, ?_⟩
    split at e
    · rename_i d S2 hc
      cases e
      exact .inl (.inl ⟨d, S2, hc, fun g2 H2 v l2 r2 h2 => k g2 H2 v (l1.trans l2) r2 h2⟩)
    · obtain ⟨⟨d, S2⟩, e2, e⟩ := Option.map_eq_some_iff.mp e
      cases e
      exact .inl (.inr ⟨d, S2, e2, PX.mono l1 k⟩)
  | .ite t a b, ρ, S, o, e, g, σ, H, r, hσ, W, Q, k => by
    simp only [evX] at e
    obtain ⟨⟨x, S1⟩, e1, e⟩ := Option.bind_eq_some_iff.mp e
    refine okT htb t _ _ _ _ e1 g σ H r hσ _ fun g1 H1 l1 r1 => ?_
    cases x with
    | true =>
      rw [if_pos rfl] at e ⊢
      exact okX htb a _ _ _ e g1 σ H1 r1 (hσ.mono l1) W Q (k.mono l1)
    | false =>
      rw [if_neg (fun z => nomatch z)] at e ⊢
      exact okX htb b _ _ _ e g1 σ H1 r1 (hσ.mono l1) W Q (k.mono l1)
  | .pure a, ρ, S, o, e, g, σ, H, r, hσ, W, Q, k => by
    simp only [evX] at e
    obtain ⟨⟨w, S1⟩, e1, e⟩ := Option.bind_eq_some_iff.mp e
    obtain ⟨⟨d, S2⟩, e2, e⟩ := Option.map_eq_some_iff.mp e
    cases e
    refine okE htb a _ _ _ _ e1 g σ H r hσ _ fun g1 H1 v l1 r1 h1 => ?_
    obtain ⟨g2, l2, r2, h2⟩ := r1.fz h1 e2
    exact k g2 H1 v (l1.trans l2) r2 h2
  | .mth cl f m a as, ρ, S, o, e, g, σ, H, r, hσ, W, Q, k => by
    simp only [evX] at e
    obtain ⟨⟨x, S1⟩, e1, e⟩ := Option.bind_eq_some_iff.mp e
    cases x with
    | d _ => cases e
    | mu n =>
      simp only at e
      split at e
      case isFalse => cases e
      rename_i hc
      obtain ⟨⟨ws, S2⟩, e2, e⟩ := Option.bind_eq_some_iff.mp e
      refine okE htb a _ _ _ _ e1 g σ H r hσ _ fun g1 H1 v l1 r1 h1 => ?_
      obtain ⟨ks, us, h3, h4⟩ := insC_some hc
      have h1' := h1
      obtain ⟨rfl, hn⟩ := h1'
      obtain ⟨u, m1, ⟨dx, fs, rfl, e4, m2⟩, m3⟩ := r1.live n _ h3 (fun z => nomatch z)
      refine ⟨_, dx, fs, rfl, m1, lookup_not (by rw [e4]; exact h4), okEs htb as _ _ _ _ e2 g1 σ H1 r1 (hσ.mono l1) _ fun g2 H2 vs l2 r2 h2 => ?_⟩
      have kk := k.mono (l1.trans l2)
      simp only at e
      split at e
      · rename_i w hw
        cases e
        exact any_ok r2 (.cons (RepW.mono l2 h1) h2) (((hσ.mono l1).mono l2).3) hw (outW_ok kk)
      · obtain ⟨⟨d, S3⟩, e3, e⟩ := Option.map_eq_some_iff.mp e
        cases e
        exact anyx_ok r2 (.cons (RepW.mono l2 h1) h2) (((hσ.mono l1).mono l2).3) e3 kk
  | .callA f as, ρ, S, o, e, g, σ, H, r, hσ, W, Q, k => by
    simp only [evX] at e
    obtain ⟨⟨ws, S2⟩, e2, e⟩ := Option.bind_eq_some_iff.mp e
    refine okEs htb as _ _ _ _ e2 g σ H r hσ _ fun g2 H2 vs l2 r2 h2 => ?_
    have kk := k.mono l2
    simp only at e
    split at e
    · rename_i w hw
      cases e
      exact any_ok r2 h2 (hσ.mono l2).3 hw (outW_ok kk)
    · obtain ⟨⟨d, S3⟩, e3, e⟩ := Option.map_eq_some_iff.mp e
      cases e
      exact anyx_ok r2 h2 (hσ.mono l2).3 e3 kk
theorem okS_dropX (htb : ∀ f ws S r, c f ws S = some r → tb f) {x : XE} : OkS K fa C W c tb (.dropX x) := fun ρ S o ev g σ H r hσ Z k => by
  simp only [evS] at ev
  obtain ⟨o1, e1, ev⟩ := Option.bind_eq_some_iff.mp ev
  refine okX htb x _ _ _ e1 g σ H r hσ W _ ?_
  cases o1 with
  | rt d S1 => cases ev; exact fun g1 H1 v l1 r1 h1 => k g1 σ H1 l1 r1 (hσ.mono l1)
  | xc d S1 => cases ev; exact k σ
  | rm d S1 => cases ev
  | _ => trivial
theorem okS_retX (htb : ∀ f ws S r, c f ws S = some r → tb f) {x : XE} : OkS K fa C W c tb (.retX x) := fun ρ S o ev g σ H r hσ Z k => by
  simp only [evS] at ev
  refine okX htb x _ _ _ ev g σ H r hσ W _ ?_
  cases o with
  | rt d S1 => exact k
  | xc d S1 => exact k σ
  | rm d S1 => exact k
  | _ => trivial
theorem okS_asgX (htb : ∀ f ws S r, c f ws S = some r → tb f) {i : Nat} {x : XE} : OkS K fa C W c tb (.asgX i x) := fun ρ S o ev g σ H r hσ Z k => by
  simp only [evS] at ev
  obtain ⟨o1, e1, ev⟩ := Option.bind_eq_some_iff.mp ev
  refine okX htb x _ _ _ e1 g σ H r hσ W _ ?_
  cases o1 with
  | rt d S1 =>
    simp only at ev
    split at ev
    · cases ev; exact fun g1 H1 v l1 r1 h1 => k g1 _ H1 l1 r1 ((hσ.mono l1).set (w := .d d) h1)
    · cases ev
  | xc d S1 => cases ev; exact k σ
  | rm d S1 => cases ev
  | _ => trivial
theorem okS_rais {e : E} (he : OkE K fa C c tb e) : OkS K fa C W c tb (.rais e) := fun ρ S o ev g σ H r hσ Z k => by
  simp only [evS] at ev
  obtain ⟨⟨w, S1⟩, e1, ev⟩ := Option.bind_eq_some_iff.mp ev
  split at ev
  · rename_i i hw
    obtain rfl : w = _ := hw
    split at ev
    · rename_i hi
      cases ev
      refine he _ _ _ _ e1 g σ H r hσ _ fun g1 H1 v l1 r1 h1 => ?_
      simp only [RepW, RepD] at h1
      subst h1
      refine ⟨by show 1 ≤ 1000; decide, fun a ha => ⟨a, i, rfl, hi, upd_same, fun d hd hne => ?_⟩⟩
      have hd1 : H1 d = none := by rw [upd_ne hne] at hd; exact hd
      refine ⟨rfl, d, _, upd_same, by rw [upd_ne hne, upd_same], hd1, ?_⟩
      have eH : upd (L2.del (upd (upd (upd H1 a (exo a C none)) d (exd d [(("at" : Str), V.int i)])) a (exo a C (some d))) a) d (.xd [(("at" : Str), V.int i)]) = upd H1 d (.xd [(("at" : Str), V.int i)]) := by
        funext b
        by_cases hb : b = d
        · subst hb; rw [upd_same, upd_same]
        · rw [upd_ne hb, upd_ne hb]
          by_cases hba : b = a
          · subst hba; rw [L2.del_same]; exact ha.symm
          · rw [L2.del_ne hba, upd_ne hba, upd_ne hb, upd_ne hba]
      rw [eH]
      exact k σ _ _ (l1.trans (Gh.le_add (r1.fresh hd1))) (r1.add hd1) d (.int i) upd_same (by simp only [RepD])
    · cases ev
  · cases ev
theorem okS_tryR (te : PySem.W.exmOne K (.ref C) (.ref C) = some true) (htb : ∀ f ws S r, c f ws S = some r → tb f) {x : XE} {i : Nat} {word : Str} : OkS K fa C W c tb (.tryR x i word) := fun ρ S o ev g σ H r hσ Z k => by
  simp only [evS] at ev
  split at ev
  case isFalse => cases ev
  rename_i hi
  obtain ⟨o1, e1, ev⟩ := Option.bind_eq_some_iff.mp ev
  show tX K fa (spC K fa C c) tb (wTry K C i word Z) x σ H Z.rt
  refine okX htb x _ _ _ e1 g σ H r hσ (wTry K C i word Z) _ ?_
  cases o1 with
  | rt d S1 => cases ev; exact k
  | xc d S1 =>
    cases d with
    | int q =>
      cases ev
      intro g1 H1 l1 r1
      show ∀ dd vv, H1 dd = some (.xd [(("at" : Str), vv)]) → RepD K fa g1.G vv (.int q) → _
      intro dd vv hd hv
      refine ⟨true, te, fun _ a ha => ?_, fun z => Bool.noConfusion z⟩
      refine ⟨_, List.getElem?_set_self (by rw [hσ.1]; exact hi), rfl, rfl, dd, vv, rfl, hd, ?_⟩
      refine ⟨by show 2 ≤ sizeLine; rw [sizeLine_eq]; decide, fun p hp => ?_⟩
      refine PD.tup r1 (Q := Z.rt) (ds := [.str word, .int q]) (fun g2 H2 v l2 r2 h2 => k g2 H2 v (l1.trans l2) r2 h2) (RepDs.cons (by simp only [RepD]) (RepDs.cons hv RepDs.nil)) p hp
    | _ => cases ev
  | _ => cases ev
theorem okP (htb : ∀ f ws S r, c f ws S = some r → tb f) : ∀ (ps : Es) (ρ : En) (S : Store) (kvs : List (Key × D)) (S' : Store), evP c ps ρ S = some (kvs, S') → ∀ (g : Gh) (σ : L2.St) (H : Hp), Rel K fa g H S → RepEn K fa c.ob g σ ρ → ∀ Q : List (V × V) → Hp → Prop,
    (∀ g' H' (ks : List (Key × V)), g.le g' → Rel K fa g' H' S' → ks.map (·.1) = kvs.map (·.1) → RepDs K fa g'.G (ks.map (·.2)) (kvs.map (·.2)) → Q (ks.map fun kv => (kV kv.1, kv.2)) H') → tPairs (tPs K fa (spC K fa C c) tb ps) σ H Q
  | .nil, ρ, S, kvs, S', e, g, σ, H, r, hσ, Q, k => by
    simp only [evP] at e
    cases e
    exact k g H [] (.refl g) r rfl RepDs.nil
  | .cons a .nil, ρ, S, kvs, S', e, g, σ, H, r, hσ, Q, k => by simp [evP] at e
  | .cons a (.cons b t), ρ, S, kvs, S', e, g, σ, H, r, hσ, Q, k => by
    simp only [evP] at e
    obtain ⟨⟨x, S1⟩, e1, e⟩ := Option.bind_eq_some_iff.mp e
    split at e
    · rename_i kd hx
      obtain rfl : x = _ := hx
      obtain ⟨kk, e2, e⟩ := Option.bind_eq_some_iff.mp e
      obtain ⟨⟨w, S2⟩, e3, e⟩ := Option.bind_eq_some_iff.mp e
      obtain ⟨⟨d, S3⟩, e4, e⟩ := Option.bind_eq_some_iff.mp e
      obtain ⟨⟨kr, S4⟩, e5, e⟩ := Option.map_eq_some_iff.mp e
      cases e
      refine okE htb a _ _ _ _ e1 g σ H r hσ _ fun g1 H1 u l1 r1 h1 => okE htb b _ _ _ _ e3 g1 σ H1 r1 (hσ.mono l1) _ fun g2 H2 v l2 r2 h2 => ?_
      obtain rfl := keyOf_ok e2 h1
      obtain ⟨g3, l3, r3, h3⟩ := r2.fz h2 e4
      refine okP htb t _ _ _ _ e5 g3 σ H2 r3 (((hσ.mono l1).mono l2).mono l3) _ fun g4 H4 ks l4 r4 q1 q2 => ?_
      exact k g4 H4 ((kk, v) :: ks) (l1.trans (l2.trans (l3.trans l4))) r4 (by simp [q1]) (RepDs.cons (RepD.mono l4.G h3) q2)
    · cases e
theorem merge_ok {G : Hp} : ∀ (ks : List (Key × V)) (kvs : List (Key × D)) (acc : List (Key × V)) (ad : List Key × List D), ks.map (·.1) = kvs.map (·.1) → RepDs K fa G (ks.map (·.2)) (kvs.map (·.2)) → acc.map (·.1) = ad.1 → RepDs K fa G (acc.map (·.2)) ad.2 →
    (mergeK acc ks).map (·.1) = (kvs.foldl (fun a p => putD p.1 p.2 a.1 a.2) ad).1 ∧ RepDs K fa G ((mergeK acc ks).map (·.2)) (kvs.foldl (fun a p => putD p.1 p.2 a.1 a.2) ad).2
  | [], kvs, acc, ad, e, h, e2, h2 => by
    cases kvs with
    | nil => exact ⟨e2, h2⟩
    | cons _ _ => simp at e
  | x :: ks, kvs, acc, ad, e, h, e2, h2 => by
    cases kvs with
    | nil => simp at e
    | cons y kvs =>
      simp only [List.map_cons, List.cons.injEq] at e
      simp only [List.map_cons, RepDs] at h
      obtain ⟨v, t, q, h3, h4⟩ := h
      injection q with q1 q2
      subst q1; subst q2
      obtain ⟨y1, y2⟩ := y
      obtain ⟨x1, x2⟩ := x
      simp only at e h3
      obtain ⟨rfl, e⟩ := e
      obtain ⟨p1, p2⟩ := putD_ok (k := x1) h3 h2
      rw [e2] at p1 p2
      exact merge_ok ks kvs (putK acc x1 x2) (putD x1 y2 ad.1 ad.2) e h4 p1 p2
theorem okS_newDK (htb : ∀ f ws S r, c f ws S = some r → tb f) {i : Nat} {ps : Es} : OkS K fa C W c tb (.newDK i ps) := fun ρ S o ev g σ H r hσ Z k => by
  simp only [evS] at ev
  obtain ⟨⟨kvs, S1⟩, e1, ev⟩ := Option.bind_eq_some_iff.mp ev
  split at ev
  · rename_i hz
    cases ev
    intro p hp
    have hF : ∀ a u, g.F a = some u → a ≠ p := fun a u ea => ne_of_none (r.frm a u ea).1 hp
    refine okP htb ps _ _ _ _ e1 (g.hold p (.dK [])) σ _ (r.hold hp) hσ.hold _ fun g2 H2 ks l2 r2 q1 q2 => ?_
    have hF2 : g2.F p = some (.dK []) := by rw [l2.F]; exact upd_same
    refine ⟨(r2.frm p _ hF2).1, ks, rfl, ?_, ?_⟩
    · have : ks.length = kvs.length := by simpa using congrArg List.length q1
      rw [this]; exact hz.2
    · have r6 := r2.rehold (o' := .dK (mergeK [] ks)) hF2
      have ef : upd g2.F p (HO.dK (mergeK [] ks)) = upd g.F p (HO.dK (mergeK [] ks)) := by
        rw [l2.F]
        show upd (upd g.F p _) p _ = _
        rw [upd_upd]
      rw [ef] at r6
      have lb : g.le { g2 with F := g.F } := leF (.refl g) l2
      obtain ⟨m1, m2⟩ := merge_ok ks kvs [] ([], []) q1 q2 rfl RepDs.nil
      have r7 := Rel.pushHeld (g := { g2 with F := g.F }) (mo := .dK (putAll kvs).1 (putAll kvs).2) r6 hF ⟨_, rfl, m1, m2⟩
      exact k _ _ _ (lb.trans Gh.le_push) r7 (((hσ.mono lb).mono Gh.le_push).set (mu_new r6.len))
  · cases ev
theorem okS_setF {cl : Nat} {a e : E} {f : Str} (ha : OkE K fa C c tb a) (he : OkE K fa C c tb e) : OkS K fa C W c tb (.setF cl a f e) := fun ρ S o ev g σ H r hσ Z k => by
  simp only [evS] at ev
  split at ev
  case isFalse => cases ev
  rename_i hob
  obtain ⟨⟨w, S1⟩, e1, ev⟩ := Option.bind_eq_some_iff.mp ev
  obtain ⟨⟨x, S2⟩, e2, ev⟩ := Option.bind_eq_some_iff.mp ev
  cases x with
  | d _ => cases ev
  | mu n =>
    obtain ⟨q, e3, ev⟩ := Option.bind_eq_some_iff.mp ev
    split at ev
    case isFalse => cases ev
    rename_i hz
    cases ev
    refine he _ _ _ _ e1 g σ H r hσ _ fun g1 H1 v l1 r1 h1 => ha _ _ _ _ e2 g1 σ H1 r1 (hσ.mono l1) _ fun g2 H2 u l2 r2 h2 => ?_
    obtain ⟨rfl, hn⟩ := h2
    have hs := insF_some e3
    obtain ⟨u, m1, ⟨dx, fs, rfl, e4, m2⟩, m3⟩ := r2.live n _ hs (fun z => nomatch z)
    obtain ⟨p1, p2⟩ := putFW_ok (f := f) (RepW.mono l2 h1) m2
    rw [e4] at p1 p2
    have hσ2 := (hσ.mono l1).mono l2
    have r3 := r2.writeC (mo := .ins cl (putFW f w q.1 q.2).1 (putFW f w q.1 q.2).2) (o := .ins (fa.cl cl) dx (putF f v fs)) hs (fun z => nomatch z) ⟨dx, _, rfl, p1, p2⟩
    have l3 := Gh.le_tell (i := n) (l := (MO.ins cl (putFW f w q.1 q.2).1 (putFW f w q.1 q.2).2).refs) (hσ2.3 hob)
    exact ⟨_, dx, fs, rfl, m1, by rw [← e4, List.length_map] at hz; exact hz, k _ σ _ (l1.trans (l2.trans l3)) r3 (hσ2.mono l3)⟩
theorem okS_augF {cl : Nat} {a e : E} {f : Str} {sb : Bool} (ha : OkE K fa C c tb a) (he : OkE K fa C c tb e) : OkS K fa C W c tb (.augF cl a f sb e) := fun ρ S o ev g σ H r hσ Z k => by
  simp only [evS] at ev
  split at ev
  case isFalse => cases ev
  rename_i hob
  obtain ⟨⟨x, S1⟩, e1, ev⟩ := Option.bind_eq_some_iff.mp ev
  cases x with
  | d _ => cases ev
  | mu n =>
    obtain ⟨q, e3, ev⟩ := Option.bind_eq_some_iff.mp ev
    split at ev
    case h_2 => cases ev
    rename_i i hi
    obtain ⟨⟨y, S2⟩, e2, ev⟩ := Option.bind_eq_some_iff.mp ev
    split at ev
    case h_2 => cases ev
    rename_i j hj
    obtain rfl : y = _ := hj
    obtain ⟨q2, e5, ev⟩ := Option.bind_eq_some_iff.mp ev
    split at ev
    case isFalse => cases ev
    rename_i hz
    cases ev
    refine ha _ _ _ _ e1 g σ H r hσ _ fun g1 H1 u l1 r1 h1 => ?_
    obtain ⟨rfl, hn⟩ := h1
    obtain ⟨u, m1, ⟨dx, fs, rfl, e4, m2⟩, m3⟩ := r1.live n _ (insF_some e3) (fun z => nomatch z)
    rw [← e4] at hi
    obtain ⟨v, hl, hv⟩ := lookF_ins m2 hi
    simp only [RepW, RepD] at hv
    subst hv
    refine ⟨_, dx, fs, _, rfl, m1, hl, he _ _ _ _ e2 g1 σ H1 r1 (hσ.mono l1) _ fun g2 H2 v2 l2 r2 h2 => ?_⟩
    simp only [RepW, RepD] at h2
    subst h2
    have hs := insF_some e5
    obtain ⟨u, n1, ⟨dx', fs', rfl, e6, n2⟩, n3⟩ := r2.live n _ hs (fun z => nomatch z)
    have ef : g2.φ n = g1.φ n := l2.φ n hn
    have hσ2 := (hσ.mono l1).mono l2
    have hg : ∀ z : Int, ∃ g3, g2.le g3 ∧ Rel K fa g3 (upd H2 (g2.φ n) (.ins (fa.cl cl) dx' (putF f (.int z) fs'))) (S2.set n (.ins cl (putFW f (.d (.int z)) q2.1 q2.2).1 (putFW f (.d (.int z)) q2.1 q2.2).2)) := fun z => by
      obtain ⟨p1, p2⟩ := putFW_ok (K := K) (fa := fa) (g := g2) (f := f) (v := .int z) (w := .d (.int z)) (by simp only [RepW, RepD]) n2
      rw [e6] at p1 p2
      exact ⟨_, Gh.le_tell (hσ2.3 hob), r2.writeC (mo := .ins cl _ _) (o := .ins (fa.cl cl) dx' (putF f (.int z) fs')) hs (fun z => nomatch z) ⟨dx', _, rfl, p1, p2⟩⟩
    have hz' : fs'.length < 1000 := by rw [← e6, List.length_map] at hz; exact hz
    cases sb with
    | false =>
      obtain ⟨g3, l3, r3⟩ := hg (i + j)
      refine ⟨i, j, rfl, rfl, dx', fs', by rw [← ef]; exact n1, hz', ?_⟩
      rw [← ef]
      exact k g3 σ _ (l1.trans (l2.trans l3)) r3 (hσ2.mono l3)
    | true =>
      obtain ⟨g3, l3, r3⟩ := hg (i - j)
      refine ⟨i, j, rfl, rfl, dx', fs', by rw [← ef]; exact n1, hz', ?_⟩
      rw [← ef]
      exact k g3 σ _ (l1.trans (l2.trans l3)) r3 (hσ2.mono l3)
theorem okS_setW {a q e : E} (ha : OkE K fa C c tb a) (hq : OkE K fa C c tb q) (he : OkE K fa C c tb e) : OkS K fa C W c tb (.setW a q e) := fun ρ S o ev g σ H r hσ Z k => by
  simp only [evS] at ev
  split at ev
  case isFalse => cases ev
  rename_i hob
  obtain ⟨⟨w, S1⟩, e1, ev⟩ := Option.bind_eq_some_iff.mp ev
  obtain ⟨⟨x, S2⟩, e2, ev⟩ := Option.bind_eq_some_iff.mp ev
  obtain ⟨⟨y, S3⟩, e3, ev⟩ := Option.bind_eq_some_iff.mp ev
  cases x with
  | d _ => cases ev
  | mu n =>
  cases y with
  | mu _ => cases ev
  | d kd =>
    obtain ⟨kk, e4, ev⟩ := Option.bind_eq_some_iff.mp ev
    obtain ⟨q, e5, ev⟩ := Option.bind_eq_some_iff.mp ev
    split at ev
    case isFalse => cases ev
    rename_i hz
    cases ev
    refine he _ _ _ _ e1 g σ H r hσ _ fun g1 H1 v l1 r1 h1 => ha _ _ _ _ e2 g1 σ H1 r1 (hσ.mono l1) _ fun g2 H2 u l2 r2 h2 => hq _ _ _ _ e3 g2 σ H2 r2 ((hσ.mono l1).mono l2) _ fun g3 H3 y l3 r3 h3 => ?_
    obtain ⟨rfl, hn⟩ := h2
    obtain rfl := keyOf_ok (K := K) (fa := fa) e4 h3
    have hs := dWAt_some e5
    obtain ⟨u, m1, ⟨kvs, rfl, e6, m2⟩, m3⟩ := r3.live n _ hs (fun z => nomatch z)
    have ef : g3.φ n = g2.φ n := l3.φ n hn
    obtain ⟨p1, p2⟩ := putW_ok (k := kk) (RepW.mono (l2.trans l3) h1) m2
    rw [e6] at p1 p2
    have hσ3 := ((hσ.mono l1).mono l2).mono l3
    have r4 := r3.writeC (mo := .dW _ _) (o := .dK (putK kvs kk v)) hs (fun z => nomatch z) ⟨_, rfl, p1, p2⟩
    have l4 := Gh.le_tell (i := n) (l := (MO.dW (putW kk w q.1 q.2).1 (putW kk w q.1 q.2).2).refs) (hσ3.3 hob)
    rw [ef] at m1 r4
    exact ⟨g2.φ n, _, rfl, DPut.k m1 (by rw [← e6, List.length_map] at hz; exact hz), k _ σ _ (l1.trans (l2.trans (l3.trans l4))) r4 (hσ3.mono l4)⟩
theorem okS_setA {a q e : E} (ha : OkE K fa C c tb a) (hq : OkE K fa C c tb q) (he : OkE K fa C c tb e) : OkS K fa C W c tb (.setA a q e) := fun ρ S o ev g σ H r hσ Z k => by
  simp only [evS] at ev
  obtain ⟨⟨w, S1⟩, e1, ev⟩ := Option.bind_eq_some_iff.mp ev
  obtain ⟨⟨d, S2⟩, e2, ev⟩ := Option.bind_eq_some_iff.mp ev
  obtain ⟨⟨x, S3⟩, e3, ev⟩ := Option.bind_eq_some_iff.mp ev
  obtain ⟨⟨y, S4⟩, e4, ev⟩ := Option.bind_eq_some_iff.mp ev
  cases x with
  | d _ => cases ev
  | mu n =>
  refine he _ _ _ _ e1 g σ H r hσ _ fun g1 H1 v1 l1 r1 h1 => ?_
  obtain ⟨g2, l2, r2, h2⟩ := r1.fz h1 e2
  refine ha _ _ _ _ e3 g2 σ H1 r2 ((hσ.mono l1).mono l2) _ fun g3 H3 u3 l3 r3 h3 => hq _ _ _ _ e4 g3 σ H3 r3 (((hσ.mono l1).mono l2).mono l3) _ fun g4 H4 y4 l4 r4 h4 => ?_
  obtain ⟨rfl, hn⟩ := h3
  have lt := l1.trans (l2.trans (l3.trans l4))
  have ef : g4.φ n = g3.φ n := l4.φ n hn
  dsimp only at ev
  split at ev
  · rename_i kd ks ds hs
    obtain ⟨kk, e5, ev⟩ := Option.bind_eq_some_iff.mp ev
    split at ev
    · rename_i hz
      cases ev
      obtain rfl := keyOf_ok e5 h4
      obtain ⟨u, n1, ⟨kvs, rfl, rfl, n2⟩, n3⟩ := r4.live n _ hs (fun z => nomatch z)
      obtain ⟨p1, p2⟩ := putD_ok (k := kk) (RepD.mono (l3.trans l4).G h2) n2
      have r5 := r4.write (mo := .dK _ _) (o := .dK (putK kvs kk v1)) hs (fun z => nomatch z) ⟨_, rfl, p1, p2⟩
      rw [ef] at n1 r5
      exact ⟨g3.φ n, _, rfl, DPut.k n1 (by simpa using hz), k g4 σ _ lt r5 (hσ.mono lt)⟩
    · cases ev
  · rename_i ys ks ds hs
    obtain ⟨kk, e5, ev⟩ := Option.bind_eq_some_iff.mp ev
    split at ev
    · rename_i hz
      cases ev
      simp only [RepW, RepD] at h4
      obtain ⟨b, vs, rfl, hb, hvs⟩ := h4
      rcases hb with hb | hb
      · have hb' : H4 b = some (.tup vs) := by
          rcases r4.ext b _ hb with h | ⟨h, _⟩
          · exact h
          · cases h
        rw [keysOf_ok e5 hvs] at hb'
        obtain ⟨u, n1, ⟨kvs, rfl, rfl, n2⟩, n3⟩ := r4.live n _ hs (fun z => nomatch z)
        obtain ⟨p1, p2⟩ := putD_ok (k := kk) (RepD.mono (l3.trans l4).G h2) n2
        have r5 := r4.write (mo := .dT _ _) (o := .dT (putK kvs kk v1)) hs (fun z => nomatch z) ⟨_, rfl, p1, p2⟩
        rw [ef] at n1 r5
        exact ⟨g3.φ n, _, rfl, DPut.t n1 hb' (by simpa using hz), k g4 σ _ lt r5 (hσ.mono lt)⟩
      · exact hb.elim
    · cases ev
  · cases ev
theorem okS_setAL {a q e : E} (ha : OkE K fa C c tb a) (hq : OkE K fa C c tb q) (he : OkE K fa C c tb e) : OkS K fa C W c tb (.setAL a q e) := fun ρ S o ev g σ H r hσ Z k => by
  simp only [evS] at ev
  obtain ⟨⟨w, S1⟩, e1, ev⟩ := Option.bind_eq_some_iff.mp ev
  obtain ⟨⟨d, S2⟩, e2, ev⟩ := Option.bind_eq_some_iff.mp ev
  obtain ⟨⟨x, S3⟩, e3, ev⟩ := Option.bind_eq_some_iff.mp ev
  obtain ⟨⟨y, S4⟩, e4, ev⟩ := Option.bind_eq_some_iff.mp ev
  split at ev
  case h_2 => cases ev
  rename_i n z hx hy
  obtain rfl : x = _ := hx
  obtain rfl : y = _ := hy
  obtain ⟨ds, e5, ev⟩ := Option.bind_eq_some_iff.mp ev
  obtain ⟨j, e6, ev⟩ := Option.map_eq_some_iff.mp ev
  cases ev
  refine he _ _ _ _ e1 g σ H r hσ _ fun g1 H1 v1 l1 r1 h1 => ?_
  obtain ⟨g2, l2, r2, h2⟩ := r1.fz h1 e2
  refine ha _ _ _ _ e3 g2 σ H1 r2 ((hσ.mono l1).mono l2) _ fun g3 H3 u3 l3 r3 h3 => hq _ _ _ _ e4 g3 σ H3 r3 (((hσ.mono l1).mono l2).mono l3) _ fun g4 H4 y4 l4 r4 h4 => ?_
  obtain ⟨rfl, hn⟩ := h3
  simp only [RepW, RepD] at h4
  subst h4
  have lt := l1.trans (l2.trans (l3.trans l4))
  have ef : g4.φ n = g3.φ n := l4.φ n hn
  obtain ⟨u, n1, ⟨vs, rfl, n2⟩, n3⟩ := r4.live n _ (lstAt_some e5) (fun z => nomatch z)
  have r5 := r4.write (mo := .lst (ds.set j d)) (o := .lst (vs.set j v1)) (lstAt_some e5) (fun z => nomatch z) ⟨_, rfl, RepDs.set j n2 (RepD.mono (l3.trans l4).G h2)⟩
  rw [ef] at n1 r5
  exact ⟨g3.φ n, vs, z, j, rfl, rfl, n1, by rw [n2.length]; exact e6, k g4 σ _ lt r5 (hσ.mono lt)⟩
theorem okS_augAL {a q e : E} {sb : Bool} (ha : OkE K fa C c tb a) (hq : OkE K fa C c tb q) (he : OkE K fa C c tb e) : OkS K fa C W c tb (.augAL a q sb e) := fun ρ S o ev g σ H r hσ Z k => by
  simp only [evS] at ev
  obtain ⟨⟨x, S0⟩, e0, ev⟩ := Option.bind_eq_some_iff.mp ev
  obtain ⟨⟨y, S1⟩, e1, ev⟩ := Option.bind_eq_some_iff.mp ev
  split at ev
  case h_2 => cases ev
  rename_i n z hx hy
  obtain rfl : x = _ := hx
  obtain rfl : y = _ := hy
  obtain ⟨ds, e2, ev⟩ := Option.bind_eq_some_iff.mp ev
  obtain ⟨y, e3, ev⟩ := Option.bind_eq_some_iff.mp ev
  split at ev
  case h_2 => cases ev
  rename_i a
  obtain ⟨⟨w, S2⟩, e4, ev⟩ := Option.bind_eq_some_iff.mp ev
  split at ev
  case h_2 => cases ev
  rename_i b hw
  obtain rfl : w = _ := hw
  obtain ⟨ds', e5, ev⟩ := Option.bind_eq_some_iff.mp ev
  obtain ⟨j, e6, ev⟩ := Option.map_eq_some_iff.mp ev
  cases ev
  refine ha _ _ _ _ e0 g σ H r hσ _ fun g0 H0 v0 l0 r0 h0 => hq _ _ _ _ e1 g0 σ H0 r0 (hσ.mono l0) _ fun g1 H1 v1 l1 r1 h1 => ?_
  obtain ⟨rfl, hn⟩ := h0
  simp only [RepW, RepD] at h1
  subst h1
  obtain ⟨u, n1, ⟨vs, rfl, n2⟩, n3⟩ := r1.live n _ (lstAt_some e2) (fun z => nomatch z)
  have ef1 : g1.φ n = g0.φ n := l1.φ n hn
  rw [ef1] at n1
  obtain ⟨va, m1, m2⟩ := n2.atI e3
  simp only [RepD] at m2
  subst m2
  refine ⟨g0.φ n, vs, z, _, rfl, rfl, .of n1, m1, he _ _ _ _ e4 g1 σ H1 r1 ((hσ.mono l0).mono l1) _ fun g2 H2 v2 l2 r2 h2 => ?_⟩
  simp only [RepW, RepD] at h2
  subst h2
  have lt := l0.trans (l1.trans l2)
  have ef : g2.φ n = g0.φ n := (l1.trans l2).φ n hn
  obtain ⟨u, p1, ⟨us, rfl, p2⟩, p3⟩ := r2.live n _ (lstAt_some e5) (fun z => nomatch z)
  cases sb with
  | false =>
    refine ⟨a, b, rfl, rfl, ?_⟩
    have r4 := r2.write (mo := .lst (ds'.set j (.int (a + b)))) (o := .lst (us.set j (.int (a + b)))) (lstAt_some e5) (fun z => nomatch z) ⟨_, rfl, RepDs.set j p2 (by simp only [RepD])⟩
    rw [ef] at p1 r4
    exact ⟨g0.φ n, us, z, j, rfl, rfl, p1, by rw [p2.length]; exact e6, k g2 σ _ lt r4 (hσ.mono lt)⟩
  | true =>
    refine ⟨a, b, rfl, rfl, ?_⟩
    have r4 := r2.write (mo := .lst (ds'.set j (.int (a - b)))) (o := .lst (us.set j (.int (a - b)))) (lstAt_some e5) (fun z => nomatch z) ⟨_, rfl, RepDs.set j p2 (by simp only [RepD])⟩
    rw [ef] at p1 r4
    exact ⟨g0.φ n, us, z, j, rfl, rfl, p1, by rw [p2.length]; exact e6, k g2 σ _ lt r4 (hσ.mono lt)⟩
theorem okS_appA {a e : E} (ha : OkE K fa C c tb a) (he : OkE K fa C c tb e) : OkS K fa C W c tb (.appA a e) := fun ρ S o ev g σ H r hσ Z k => by
  simp only [evS] at ev
  obtain ⟨⟨x, S0⟩, e00, ev⟩ := Option.bind_eq_some_iff.mp ev
  cases x with
  | d _ => cases ev
  | mu n =>
    obtain ⟨ds0, e0, ev⟩ := Option.bind_eq_some_iff.mp ev
    obtain ⟨⟨w, S1⟩, e1, ev⟩ := Option.bind_eq_some_iff.mp ev
    obtain ⟨⟨d, S2⟩, e2, ev⟩ := Option.bind_eq_some_iff.mp ev
    obtain ⟨ds, e3, ev⟩ := Option.bind_eq_some_iff.mp ev
    split at ev
    case isFalse => cases ev
    rename_i hz
    cases ev
    refine ha _ _ _ _ e00 g σ H r hσ _ fun g0 H0 v0 l0 r0 h0 => ?_
    obtain ⟨rfl, hn⟩ := h0
    obtain ⟨u0, m1, ⟨vs0, rfl, m2⟩, m3⟩ := r0.live n _ (lstAt_some e0) (fun z => nomatch z)
    refine ⟨.inl ⟨rfl, vs0, .of m1⟩, he _ _ _ _ e1 g0 σ H0 r0 (hσ.mono l0) _ fun g1 H1 v1 l1 r1 h1 => ?_⟩
    obtain ⟨g2, l2, r2, h2⟩ := r1.fz h1 e2
    obtain ⟨u, n1, ⟨vs, rfl, n2⟩, n3⟩ := r2.live n _ (lstAt_some e3) (fun z => nomatch z)
    have ef : g2.φ n = g0.φ n := ((l1.trans l2).φ n hn)
    have r3 := r2.write (mo := .lst (ds ++ [d])) (o := .lst (vs ++ [v1])) (lstAt_some e3) (fun z => nomatch z) ⟨_, rfl, RepDs.append n2 (RepDs.cons h2 RepDs.nil)⟩
    rw [ef] at n1 r3
    have lt := l0.trans (l1.trans l2)
    exact ⟨g0.φ n, vs, v1, rfl, rfl, n1, by rw [n2.length]; exact hz, k g2 σ _ lt r3 (hσ.mono lt)⟩
theorem dropD_ok {G : Hp} {kk : Key} : ∀ {kvs : List (Key × V)} {ds : List D}, RepDs K fa G (kvs.map (·.2)) ds → (dropK kvs kk).map (·.1) = (kvs.map (·.1)).filter (fun q => !decide (q = kk)) ∧ RepDs K fa G ((dropK kvs kk).map (·.2)) (dropD kk (kvs.map (·.1)) ds)
  | [], ds, h => by
    have hl := h.length
    cases ds with
    | nil => exact ⟨rfl, RepDs.nil⟩
    | cons _ _ => simp at hl
  | (q, x) :: kvs, ds, h => by
    cases ds with
    | nil => have hl := h.length; simp at hl
    | cons d ds =>
      simp only [List.map_cons, RepDs] at h
      obtain ⟨v, t, e, h3, h4⟩ := h
      injection e with e1 e2
      subst e1; subst e2
      obtain ⟨i1, i2⟩ := dropD_ok (kk := kk) h4
      have ed : dropK ((q, x) :: kvs) kk = if q = kk then dropK kvs kk else (q, x) :: dropK kvs kk := by
        unfold dropK
        by_cases hq : q = kk <;> simp [hq]
      rw [ed]
      by_cases hq : q = kk
      · simp only [if_pos hq, List.map_cons, dropD, List.filter_cons, decide_eq_true hq, Bool.not_true, Bool.false_eq_true, if_false]
        exact ⟨i1, i2⟩
      · simp only [if_neg hq, List.map_cons, dropD, List.filter_cons, decide_eq_false hq, Bool.not_false, if_true]
        exact ⟨by rw [i1], RepDs.cons h3 i2⟩
theorem okS_delA {a q : E} (ha : OkE K fa C c tb a) (hq : OkE K fa C c tb q) : OkS K fa C W c tb (.delA a q) := fun ρ S o ev g σ H r hσ Z k => by
  simp only [evS] at ev
  obtain ⟨⟨x, S0⟩, e0, ev⟩ := Option.bind_eq_some_iff.mp ev
  obtain ⟨⟨y, S1⟩, e1, ev⟩ := Option.bind_eq_some_iff.mp ev
  split at ev
  case h_2 => cases ev
  rename_i n kd hx hy
  obtain rfl : x = _ := hx
  obtain rfl : y = _ := hy
  obtain ⟨kk, e2, ev⟩ := Option.bind_eq_some_iff.mp ev
  split at ev
  case h_2 => cases ev
  rename_i ks ds hs
  split at ev
  case isFalse => cases ev
  rename_i hz
  cases ev
  refine ha _ _ _ _ e0 g σ H r hσ _ fun g0 H0 v0 l0 r0 h0 => hq _ _ _ _ e1 g0 σ H0 r0 (hσ.mono l0) _ fun g1 H1 v1 l1 r1 h1 => ?_
  obtain ⟨rfl, hn⟩ := h0
  obtain rfl := keyOf_ok (K := K) (fa := fa) e2 h1
  obtain ⟨u, n1, ⟨kvs, rfl, rfl, n2⟩, n3⟩ := r1.live n _ hs (fun z => nomatch z)
  have ef : g1.φ n = g0.φ n := l1.φ n hn
  obtain ⟨p1, p2⟩ := dropD_ok (kk := kk) n2
  have r2 := r1.write (mo := .dK _ _) (o := .dK (dropK kvs kk)) hs (fun z => nomatch z) ⟨_, rfl, p1, p2⟩
  rw [ef] at n1 r2
  have lt := l0.trans l1
  refine ⟨g0.φ n, kvs, kk, rfl, n1, rfl, ?_, k g1 σ _ lt r2 (hσ.mono lt)⟩
  have hl := lookD_ok (K := K) (fa := fa) (k := kk) n2
  cases e : lookD kk (kvs.map (·.1)) ds with
  | none => rw [e] at hz; cases hz
  | some d =>
    rw [e] at hl
    obtain ⟨v, h, _⟩ := hl
    rw [h]; rfl
theorem dKAt_some {S : Store} {n : Nat} {q : List Key × List D} (h : dKAt S n = some q) : S[n]? = some (.dK q.1 q.2) := by
  unfold dKAt at h
  split at h
  · cases h; assumption
  · cases h
theorem okS_popA {a q : E} (ha : OkE K fa C c tb a) (hq : OkE K fa C c tb q) : OkS K fa C W c tb (.popA a q) := fun ρ S o ev g σ H r hσ Z k => by
  simp only [evS] at ev
  obtain ⟨⟨x, S0⟩, e0, ev⟩ := Option.bind_eq_some_iff.mp ev
  cases x with
  | d _ => cases ev
  | mu n =>
    obtain ⟨ds0, e00, ev⟩ := Option.bind_eq_some_iff.mp ev
    obtain ⟨⟨y, S1⟩, e1, ev⟩ := Option.bind_eq_some_iff.mp ev
    cases y with
    | mu _ => cases ev
    | d kd =>
      obtain ⟨kk, e2, ev⟩ := Option.bind_eq_some_iff.mp ev
      obtain ⟨⟨ks, ds⟩, e3, ev⟩ := Option.bind_eq_some_iff.mp ev
      split at ev
      case isFalse => cases ev
      rename_i hz
      cases ev
      refine ha _ _ _ _ e0 g σ H r hσ _ fun g0 H0 v0 l0 r0 h0 => ?_
      obtain ⟨rfl, hn⟩ := h0
      obtain ⟨u0, m1, ⟨kvs0, rfl, m2⟩, m3⟩ := r0.live n _ (dKAt_some e00) (fun z => nomatch z)
      refine ⟨g0.φ n, rfl, .inl ⟨kvs0, .of m1⟩, hq _ _ _ _ e1 g0 σ H0 r0 (hσ.mono l0) _ fun g1 H1 v1 l1 r1 h1 => ?_⟩
      obtain rfl := keyOf_ok (K := K) (fa := fa) e2 h1
      have hs := dKAt_some e3
      obtain ⟨u, n1, ⟨kvs, rfl, rfl, n2⟩, n3⟩ := r1.live n _ hs (fun z => nomatch z)
      have ef : g1.φ n = g0.φ n := l1.φ n hn
      obtain ⟨p1, p2⟩ := dropD_ok (kk := kk) n2
      have r2 := r1.write (mo := .dK _ _) (o := .dK (dropK kvs kk)) hs (fun z => nomatch z) ⟨_, rfl, p1, p2⟩
      rw [ef] at n1 r2
      have lt := l0.trans l1
      have hl := lookD_ok (K := K) (fa := fa) (k := kk) n2
      cases e : lookD kk (kvs.map (·.1)) ds with
      | none => simp only [e] at hz; cases hz
      | some d =>
        rw [e] at hl
        obtain ⟨v, h, _⟩ := hl
        exact ⟨kvs, kk, v, n1, rfl, h, k g1 σ _ lt r2 (hσ.mono lt)⟩
theorem okS_popN {a q : E} (ha : OkE K fa C c tb a) (hq : OkE K fa C c tb q) : OkS K fa C W c tb (.popN a q) := fun ρ S o ev g σ H r hσ Z k => by
  simp only [evS] at ev
  obtain ⟨⟨x, S0⟩, e0, ev⟩ := Option.bind_eq_some_iff.mp ev
  cases x with
  | d _ => cases ev
  | mu n =>
    obtain ⟨ds0, e00, ev⟩ := Option.bind_eq_some_iff.mp ev
    obtain ⟨⟨y, S1⟩, e1, ev⟩ := Option.bind_eq_some_iff.mp ev
    cases y with
    | mu _ => cases ev
    | d kd =>
      obtain ⟨kk, e2, ev⟩ := Option.bind_eq_some_iff.mp ev
      obtain ⟨⟨ks, ds⟩, e3, ev⟩ := Option.map_eq_some_iff.mp ev
      subst ev
      refine ha _ _ _ _ e0 g σ H r hσ _ fun g0 H0 v0 l0 r0 h0 => ?_
      obtain ⟨rfl, hn⟩ := h0
      obtain ⟨u0, m1, ⟨kvs0, rfl, m2⟩, m3⟩ := r0.live n _ (dKAt_some e00) (fun z => nomatch z)
      refine ⟨g0.φ n, rfl, .inl ⟨kvs0, .of m1⟩, hq _ _ _ _ e1 g0 σ H0 r0 (hσ.mono l0) _ fun g1 H1 v1 l1 r1 h1 => ?_⟩
      refine ok_cst (ρ := ρ) (S := S1) (w := .d .non) (S' := S1) (by simp [evE, flatD]) g1 σ H1 r1 ((hσ.mono l0).mono l1) _ fun g2 H2 v2 l2 r2 h2 => ?_
      obtain rfl := keyOf_ok (K := K) (fa := fa) e2 (RepD.mono l2.G h1)
      have hs := dKAt_some e3
      obtain ⟨u, n1, ⟨kvs, rfl, rfl, n2⟩, n3⟩ := r2.live n _ hs (fun z => nomatch z)
      have ef : g2.φ n = g0.φ n := (l1.trans l2).φ n hn
      have lt := l0.trans (l1.trans l2)
      have hl := lookD_ok (K := K) (fa := fa) (k := kk) n2
      have n1' := n1
      rw [ef] at n1'
      refine ⟨kvs, kk, n1', rfl, fun v hv => ?_, fun hv => ?_⟩
      · have hz : (lookD kk (kvs.map (·.1)) ds).isSome = true := by
          cases e : lookD kk (kvs.map (·.1)) ds with
          | none => rw [e] at hl; rw [hl] at hv; cases hv
          | some d => rfl
        simp only [hz, if_true] at k
        obtain ⟨p1, p2⟩ := dropD_ok (kk := kk) n2
        have r3 := r2.write (mo := .dK _ _) (o := .dK (dropK kvs kk)) hs (fun z => nomatch z) ⟨_, rfl, p1, p2⟩
        rw [ef] at r3
        exact k g2 σ _ lt r3 (hσ.mono lt)
      · have hz : (lookD kk (kvs.map (·.1)) ds).isSome = false := by
          cases e : lookD kk (kvs.map (·.1)) ds with
          | none => rfl
          | some d => rw [e] at hl; obtain ⟨v, h, _⟩ := hl; rw [h] at hv; cases hv
        simp only [hz, Bool.false_eq_true, if_false] at k
        exact k g2 σ _ lt r2 (hσ.mono lt)
theorem okS_retM {e : E} (he : OkE K fa C c tb e) : OkS K fa C W c tb (.retM e) := fun ρ S o ev g σ H r hσ Z k => by
  simp only [evS] at ev
  obtain ⟨⟨w, S1⟩, e1, ev⟩ := Option.map_eq_some_iff.mp ev
  refine he _ _ _ _ e1 g σ H r hσ _ fun g1 H1 v l1 r1 h1 => ?_
  cases w with
  | d x => cases ev; exact k g1 H1 v l1 r1 h1
  | mu n => cases ev; exact k g1 H1 v l1 r1 h1
theorem exTup {q : Nat} (hq : 0 < q) {d : D} : exK (.tup [.int q, d]) = some q ∧ exV (.tup [.int q, d]) = some d := by
  constructor <;> simp [exK, exV] <;> omega
theorem exTup0 {q : Nat} (hq : 0 < q) : exK (.tup [.int q]) = some q ∧ exV (.tup [.int q]) = none := by
  constructor <;> simp [exK, exV] <;> omega
theorem okS_raisK {q : Nat} {e : E} (he : OkE K fa C c tb e) : OkS K fa C W c tb (.raisK q e) := fun ρ S o ev g σ H r hσ Z k => by
  simp only [evS] at ev
  split at ev
  case isFalse => cases ev
  rename_i hq
  obtain ⟨⟨w, S1⟩, e1, ev⟩ := Option.bind_eq_some_iff.mp ev
  cases w with
  | mu _ => cases ev
  | d x =>
    cases ev
    refine he _ _ _ _ e1 g σ H r hσ _ fun g1 H1 v l1 r1 h1 => ?_
    refine ⟨by show 1 ≤ 1000; decide, fun a ha => ⟨a, v, rfl, upd_same, fun d hd hne => ?_⟩⟩
    have hd1 : H1 d = none := by rw [upd_ne hne] at hd; exact hd
    refine ⟨rfl, d, _, upd_same, by rw [upd_ne hne, upd_same], hd1, ?_⟩
    have eH : upd (L2.del (upd (upd (upd H1 a (exo a (fa.ec q) none)) d (exd d [(fa.ea q, v)])) a (exo a (fa.ec q) (some d))) a) d (.xd [(fa.ea q, v)]) = upd H1 d (.xd [(fa.ea q, v)]) := by
      funext b
      by_cases hb : b = d
      · subst hb; rw [upd_same, upd_same]
      · rw [upd_ne hb, upd_ne hb]
        by_cases hba : b = a
        · subst hba; rw [L2.del_same]; exact ha.symm
        · rw [L2.del_ne hba, upd_ne hba, upd_ne hb, upd_ne hba]
    rw [eH]
    have l2 := Gh.le_add (g := g1) (p := d) (o := HO.xd [(fa.ea q, v)]) (r1.fresh hd1)
    have kk := k σ _ _ (l1.trans l2) (r1.add hd1)
    obtain ⟨x1, x2⟩ := exTup hq (d := x)
    rw [x1] at kk
    simp only [x2] at kk
    have ne : q ≠ 0 := by omega
    simp only [eaA, ecA, if_neg ne] at kk
    exact kk d v upd_same (RepD.mono l2.G h1)
theorem okS_rais0 {q : Nat} : OkS K fa C W c tb (.rais0 q) := fun ρ S o ev g σ H r hσ Z k => by
  simp only [evS] at ev
  split at ev
  case isFalse => cases ev
  rename_i hq
  cases ev
  have kk := k σ _ _ (.refl g) r
  obtain ⟨x1, x2⟩ := exTup0 hq
  rw [x1] at kk
  simp only [x2] at kk
  have ne : q ≠ 0 := by omega
  simp only [ecA, if_neg ne] at kk
  exact kk
theorem okS_tryN (htb : ∀ f ws S r, c f ws S = some r → tb f) {t : T} {e : E} {k0 k1 i cb : Nat} {q : Nat ⊕ String} {ys ns : List Nat} : OkS K fa C W c tb (.tryN t k0 k1 e i cb q ys ns) := fun ρ S o ev g σ H r hσ Z k => by
  simp only [evS] at ev
  split at ev
  case isFalse => cases ev
  rename_i hi
  obtain ⟨⟨b, S1⟩, e1, ev⟩ := Option.bind_eq_some_iff.mp ev
  intro x0 x1
  refine okT htb t _ _ _ _ e1 g σ H r hσ _ fun g1 H1 l1 r1 => ?_
  -- what the suite gives of the error of the class no. j, its dict at d
  have suite : ∀ {j : Nat} {z : Bool} {S2 : Store} {g2 : Gh} {H2 : Hp} {d : Option Addr}, isOf ys ns j = some z → o = .rt (.bl z) S2 → g.le g2 → Rel K fa g2 H2 S2 → (∀ dd, d = some dd → ∃ fs, H2 dd = some (.xd fs)) → PySem.W.exmOne K (.ref (fa.ec j)) (.ref (fa.ec cb)) = some true →
      wOne K W (.ref (fa.ec cb)) i (tIsS fa ys ns q i) Z (.ref (fa.ec j)) d σ H2 := fun {j z S2 g2 H2 d} h1 h2 l2 r2 hd x => by
    refine ⟨true, x, fun _ a ha => ?_, fun z => Bool.noConfusion z⟩
    subst h2
    exact ⟨_, List.getElem?_set_self (by rw [hσ.1]; exact hi), fa.ec j, z, rfl, rfl, hd, isOf_some h1, k g2 H2 _ l2 r2 (by simp only [RepD])⟩
  cases b with
  | true =>
    rw [if_pos rfl] at ev
    obtain ⟨z, e2, ev⟩ := Option.map_eq_some_iff.mp ev
    rw [if_pos rfl]
    exact suite e2 ev.symm l1 r1 (fun _ z => nomatch z) x0
  | false =>
    rw [if_neg (fun z => nomatch z)] at ev
    obtain ⟨⟨w, S2⟩, e3, ev⟩ := Option.bind_eq_some_iff.mp ev
    cases w with
    | mu _ => cases ev
    | d x =>
      obtain ⟨z, e2, ev⟩ := Option.map_eq_some_iff.mp ev
      rw [if_neg (fun z => nomatch z)]
      refine okE htb e _ _ _ _ e3 g1 σ H1 r1 (hσ.mono l1) _ fun g2 H2 v l2 r2 h2 => ?_
      refine ⟨by show 1 ≤ 1000; decide, fun a ha => ⟨a, v, rfl, upd_same, fun d hd hne => ?_⟩⟩
      have hd1 : H2 d = none := by rw [upd_ne hne] at hd; exact hd
      refine ⟨rfl, d, _, upd_same, by rw [upd_ne hne, upd_same], hd1, ?_⟩
      have eH : upd (L2.del (upd (upd (upd H2 a (exo a (fa.ec k1) none)) d (exd d [(fa.ea k1, v)])) a (exo a (fa.ec k1) (some d))) a) d (.xd [(fa.ea k1, v)]) = upd H2 d (.xd [(fa.ea k1, v)]) := by
        funext b
        by_cases hb : b = d
        · subst hb; rw [upd_same, upd_same]
        · rw [upd_ne hb, upd_ne hb]
          by_cases hba : b = a
          · subst hba; rw [L2.del_same]; exact ha.symm
          · rw [L2.del_ne hba, upd_ne hba, upd_ne hb, upd_ne hba]
      rw [eH]
      have l3 := Gh.le_add (g := g2) (p := d) (o := HO.xd [(fa.ea k1, v)]) (r2.fresh hd1)
      exact suite e2 ev.symm (l1.trans (l2.trans l3)) (r2.add hd1) (fun dd hz => by cases hz; exact ⟨_, upd_same⟩) x1
theorem okTB (htb : ∀ f ws S r, c f ws S = some r → tb f) : ∀ (b : TB) (ρ : En) (S : Store) (o : Out), evTB c b ρ S = some o → ∀ (g : Gh) (σ : L2.St) (H : Hp), Rel K fa g H S → RepEn K fa c.ob g σ ρ → ∀ (W : WX) (Z : Ends), XOut K fa C g Z.rt (WE W σ) o → tTB K fa (spC K fa C c) tb W b Z σ H
  | .ret x, ρ, S, o, e, g, σ, H, r, hσ, W, Z, k => okX htb x ρ S o e g σ H r hσ W Z.rt k
  | .ifs t x b, ρ, S, o, e, g, σ, H, r, hσ, W, Z, k => by
    simp only [evTB] at e
    obtain ⟨⟨q, S1⟩, e1, e⟩ := Option.bind_eq_some_iff.mp e
    refine okT htb t _ _ _ _ e1 g σ H r hσ _ fun g1 H1 l1 r1 => ?_
    cases q with
    | true =>
      rw [if_pos rfl] at e ⊢
      exact okX htb x _ _ _ e g1 σ H1 r1 (hσ.mono l1) W Z.rt (k.mono l1)
    | false =>
      rw [if_neg (fun z => nomatch z)] at e ⊢
      exact okTB htb b _ _ _ e g1 σ H1 r1 (hσ.mono l1) W Z (k.mono l1)
theorem okHd {h : Hd} {d : D} {ρ : En} {S : Store} {o : Out} {q : Nat} (hq : exK d = some q) (hk : h.k = q) (e : h.run d ρ S = some o) {g : Gh} {σ : L2.St} {H : Hp} (r : Rel K fa g H S) (hσ : RepEn K fa c.ob g σ ρ) {Z : Ends} (k : POut K fa C W c.ob g Z o) {a : Addr} (ha : H a = none) :
    match exV d with
    | some v => ∀ dd vv, H dd = some (.xd [(eaA fa q, vv)]) → RepD K fa g.G vv v → tHdS h Z (tHd K fa C h a (.ref (ecA fa C q)) (some dd)) a σ H
    | none => tHdS h Z (tHd K fa C h a (.ref (ecA fa C q)) none) a σ H := by
  subst hk
  cases h with
  | word kk w =>
    cases e
    split
    · intro dd vv _ _
      exact k g H _ (.refl g) r (by simp only [RepD])
    · exact k g H _ (.refl g) r (by simp only [RepD])
  | told kk i w =>
    simp only [Hd.run] at e
    split at e
    case isFalse => cases e
    rename_i hi
    obtain ⟨v, e1, e⟩ := Option.map_eq_some_iff.mp e
    cases e
    rw [e1]
    intro dd vv hd hv
    refine ⟨_, List.getElem?_set_self (by rw [hσ.1]; exact hi), rfl, rfl, dd, vv, rfl, hd, by show 2 ≤ sizeLine; rw [sizeLine_eq]; decide, fun p hp => ?_⟩
    exact PD.tup r (Q := Z.rt) (ds := [.str w, v]) k (RepDs.cons (by simp only [RepD]) (RepDs.cons hv RepDs.nil)) p hp
  | cmp kk i w1 w2 j q =>
    simp only [Hd.run] at e
    split at e
    case isFalse => cases e
    rename_i hi
    obtain ⟨v, e1, e⟩ := Option.bind_eq_some_iff.mp e
    split at e
    case h_2 => cases e
    rename_i ds hj
    obtain ⟨y, e2, e⟩ := Option.bind_eq_some_iff.mp e
    split at e
    case isFalse => cases e
    rename_i hs
    cases e
    rw [e1]
    intro dd vv hd hv
    obtain ⟨u, u1, u2⟩ := hσ.2 j _ hj
    refine ⟨_, List.getElem?_set_self (by rw [hσ.1]; exact hi.1), rfl, rfl, dd, vv, rfl, hd, u, by rw [List.getElem?_set_ne hi.2]; exact u1, ?_⟩
    refine ixRun_ok r (a := .tup ds) (b := .int q) (r.shW u2 rfl) (by simp only [Sh]) e2 fun g3 H3 v3 l3 r3 h3 => ?_
    obtain ⟨s1, s2⟩ := scal_ok (r3.sh (RepD.mono l3.G hv)) (r3.sh h3) hs
    refine ⟨s1, _, rfl, ?_⟩
    rw [s2]
    by_cases hb : eqS v y = true
    · rw [if_pos hb] at k ⊢
      exact k g3 H3 _ l3 r3 (by simp only [RepD])
    · rw [if_neg hb] at k ⊢
      exact k g3 H3 _ l3 r3 (by simp only [RepD])
theorem okHds {N : Nat} (te : ∀ k j, k < N → j < N → PySem.W.exmOne K (.ref (ecA fa C k)) (.ref (ecA fa C j)) = some (decide (k = j))) {d : D} {ρ : En} {S : Store} {σ : L2.St} {q : Nat} (hq : exK d = some q) (hN : q < N) :
    ∀ (hs : List Hd) (o : Out), (hs.all fun h => decide (h.k < N)) = true → hdsRun d ρ S q hs = some o → ∀ g, RepEn K fa c.ob g σ ρ → ∀ Z : Ends, POut K fa C W c.ob g Z o → PX K fa C g S (WE (wMy K fa C W Z hs) σ) d
  | [], o, ha, e, g, hσ, Z, k => by
    cases e
    exact k σ
  | h :: hs, o, ha, e, g, hσ, Z, k => by
    simp only [List.all_cons, Bool.and_eq_true, decide_eq_true_eq] at ha
    intro g' H' l r
    rw [hq]
    simp only [hdsRun] at e
    by_cases hk : h.k = q
    · rw [if_pos hk] at e
      have et := te q h.k hN ha.1
      rw [decide_eq_true hk.symm] at et
      have key := fun (a : Addr) (hz : H' a = none) => okHd hq hk e r (hσ.mono l) (k.mono l) hz
      cases hv : exV d with
      | some v =>
        rw [hv] at key
        intro dd vv h1 h2
        exact ⟨true, et, fun _ a hz => key a hz dd vv h1 h2, fun z => Bool.noConfusion z⟩
      | none =>
        rw [hv] at key
        exact ⟨true, et, fun _ a hz => key a hz, fun z => Bool.noConfusion z⟩
    · rw [if_neg hk] at e
      have et := te q h.k hN ha.1
      rw [decide_eq_false fun z => hk z.symm] at et
      have kk := okHds te hq hN hs o ha.2 e g hσ Z k g' H' l r
      rw [hq] at kk
      cases hv : exV d with
      | some v =>
        rw [hv] at kk
        intro dd vv h1 h2
        exact ⟨false, et, fun z => Bool.noConfusion z, fun _ => kk dd vv h1 h2⟩
      | none =>
        rw [hv] at kk
        exact ⟨false, et, fun z => Bool.noConfusion z, fun _ => kk⟩
theorem okS_tryM (htb : ∀ f ws S r, c f ws S = some r → tb f) {N : Nat} {b : TB} {hs : List Hd} (te : ∀ k j, k < N → j < N → PySem.W.exmOne K (.ref (ecA fa C k)) (.ref (ecA fa C j)) = some (decide (k = j))) : OkS K fa C W c tb (.tryM N b hs) := fun ρ S o ev g σ H r hσ Z k => by
  simp only [evS] at ev
  split at ev
  case isFalse => cases ev
  rename_i ha
  obtain ⟨o1, e1, ev⟩ := Option.bind_eq_some_iff.mp ev
  show tTB K fa (spC K fa C c) tb (wMy K fa C W Z hs) b Z σ H
  refine okTB htb b _ _ _ e1 g σ H r hσ (wMy K fa C W Z hs) Z ?_
  cases o1 with
  | rt d S1 => cases ev; exact k
  | rm n S1 => cases ev; exact k
  | xc d S1 =>
    obtain ⟨q, hq, ev⟩ := Option.bind_eq_some_iff.mp ev
    split at ev
    · rename_i hN
      exact okHds te hq hN hs o ha ev g hσ Z k
    · cases ev
  | _ => trivial
mutual
/-- the classes of errors that its trys ask for -/
def triesS : Pv.S → Nat
  | .tryR _ _ _ => 1
  | .tryM n _ _ => n
  | .ifs _ a b => max (triesSs a) (triesSs b)
  | .forS _ _ b => triesSs b
  | .whl _ b => triesSs b
  | _ => 0
def triesSs : Ss → Nat
  | .nil => 0
  | .cons s ss => max (triesS s) (triesSs ss)
end
mutual
theorem okS (htb : ∀ f ws S r, c f ws S = some r → tb f) : ∀ s : Pv.S, (∀ k j, k < triesS s → j < triesS s → PySem.W.exmOne K (.ref (ecA fa C k)) (.ref (ecA fa C j)) = some (decide (k = j))) → OkS K fa C W c tb s
  | .asg _ e, _ => okS_asg (okE htb e)
  | .par _ _ a b, _ => okS_par (okE htb a) (okE htb b)
  | .newD _, _ => okS_newD
  | .newT _, _ => okS_newT
  | .popL _ e, _ => okS_popL (okE htb e)
  | .par2T _ _, _ => okS_par2T
  | .augL _ q e, _ => okS_augL (okE htb q) (okE htb e)
  | .newS _, _ => okS_newS
  | .addS _ e, _ => okS_addS (okE htb e)
  | .whl t body, te => okS_whl (okT htb t) (okSs htb body te)
  | .aug _ _ e, _ => okS_aug (okE htb e)
  | .newL _ as, _ => okS_newL (okZ htb as)
  | .newC _ _ _ it cond elt, _ => okS_newC (okI htb it) (okTo htb cond) (okE htb elt)
  | .app _ e, _ => okS_app (okE htb e)
  | .setL _ q e, _ => okS_setL (okE htb q) (okE htb e)
  | .setD _ q e, _ => okS_setD (okE htb q) (okE htb e)
  | .newDK _ _, _ => okS_newDK htb
  | .rais e, _ => okS_rais (okE htb e)
  | .dropX _, _ => okS_dropX htb
  | .retX _, _ => okS_retX htb
  | .asgX _ _, _ => okS_asgX htb
  | .tryR _ _ _, te => okS_tryR (te 0 0 (Nat.lt_succ_self _) (Nat.lt_succ_self _)) htb
  | .setF _ a _ e, _ => okS_setF (okE htb a) (okE htb e)
  | .augF _ a _ _ e, _ => okS_augF (okE htb a) (okE htb e)
  | .setA a q e, _ => okS_setA (okE htb a) (okE htb q) (okE htb e)
  | .setAL a q e, _ => okS_setAL (okE htb a) (okE htb q) (okE htb e)
  | .augAL a q _ e, _ => okS_augAL (okE htb a) (okE htb q) (okE htb e)
  | .appA a e, _ => okS_appA (okE htb a) (okE htb e)
  | .delA a q, _ => okS_delA (okE htb a) (okE htb q)
  | .popA a q, _ => okS_popA (okE htb a) (okE htb q)
  | .popN a q, _ => okS_popN (okE htb a) (okE htb q)
  | .setW a q e, _ => okS_setW (okE htb a) (okE htb q) (okE htb e)
  | .retM e, _ => okS_retM (okE htb e)
  | .raisK _ e, _ => okS_raisK (okE htb e)
  | .rais0 _, _ => okS_rais0
  | .tryN _ _ _ _ _ _ _ _ _, _ => okS_tryN htb
  | .tryM _ _ _, te => okS_tryM htb te
  | .drop e, _ => okS_drop (okE htb e)
  | .ret e, _ => okS_ret (okE htb e)
  | .retN, _ => okS_retN
  | .ifs t a b, te => okS_ifs (okT htb t) (okSs htb a fun k j h1 h2 => te k j (Nat.lt_of_lt_of_le h1 (Nat.le_max_left _ _)) (Nat.lt_of_lt_of_le h2 (Nat.le_max_left _ _))) (okSs htb b fun k j h1 h2 => te k j (Nat.lt_of_lt_of_le h1 (Nat.le_max_right _ _)) (Nat.lt_of_lt_of_le h2 (Nat.le_max_right _ _)))
  | .forS _ it body, te => okS_for (okI htb it) (okSs htb body te)
  | .brk, _ => fun ρ S o ev g σ H r hσ Z k => by
    simp only [evS] at ev
    cases ev
    exact k g σ H (.refl g) r hσ
  | .cnt, _ => fun ρ S o ev g σ H r hσ Z k => by
    simp only [evS] at ev
    cases ev
    exact k g σ H (.refl g) r hσ
  | .pass, _ => fun ρ S o ev g σ H r hσ Z k => by
    simp only [evS] at ev
    cases ev
    exact k g σ H (.refl g) r hσ
  | .never, _ => fun ρ S o ev g σ H r hσ Z k => by
    simp only [evS] at ev
    cases ev
theorem okSs (htb : ∀ f ws S r, c f ws S = some r → tb f) : ∀ s : Ss, (∀ k j, k < triesSs s → j < triesSs s → PySem.W.exmOne K (.ref (ecA fa C k)) (.ref (ecA fa C j)) = some (decide (k = j))) → OkSs K fa C W c tb s
  | .nil, _ => okSs_nil
  | .cons s ss, te => okSs_cons (okS htb s fun k j h1 h2 => te k j (Nat.lt_of_lt_of_le h1 (Nat.le_max_left _ _)) (Nat.lt_of_lt_of_le h2 (Nat.le_max_left _ _))) (okSs htb ss fun k j h1 h2 => te k j (Nat.lt_of_lt_of_le h1 (Nat.le_max_right _ _)) (Nat.lt_of_lt_of_le h2 (Nat.le_max_right _ _)))
end

theorem start_ok {g : Gh} {vs : List V} {ws : List Pv.W} {N : List Str} {n : Nat} (h : RWs K fa g vs ws) (hn : N.length = n) (hl : ws.length ≤ n) {ob : Bool} (ho : ob = true → g.ro = false) : RepEn K fa ob g (L2.start N vs) (startE n ws) := by
  have hlen := h.length
  unfold L2.start startE
  rw [hn, hlen]
  refine ⟨by simp [hlen], fun i w e => ?_, ho⟩
  rcases Nat.lt_or_ge i ws.length with hi | hi
  · rw [List.getElem?_append_left (by simpa using hi), List.getElem?_map] at e
    cases ew : ws[i]? with
    | none => rw [ew] at e; cases e
    | some w' =>
      rw [ew] at e
      have : w' = w := by simpa using e
      subst this
      obtain ⟨v, q1, q2⟩ := h.get ew
      exact ⟨v, by rw [List.getElem?_append_left (by simpa [hlen] using hi), List.getElem?_map, q1]; rfl, q2⟩
  · rw [List.getElem?_append_right (by simpa using hi), List.getElem?_replicate] at e
    split at e <;> cases e
theorem callF_ob {P : Nat → Option Fn} {k : Nat} : (callF P k).ob = false := by cases k <;> rfl
theorem body_ok {P : Nat → Option Fn} {k : Nat} {f : Nat} {q : Fn} {N : List Str} (hq : P f = some q) (hN : N.length = q.sl) (te : ∀ k j, k < triesSs q.body → j < triesSs q.body → PySem.W.exmOne K (.ref (ecA fa C k)) (.ref (ecA fa C j)) = some (decide (k = j))) (htb : ∀ f ws S r, callF P k f ws S = some r → tb f)
    {vs : List V} {H : Hp} {Q : VK} {E : XK} (h : spC K fa C (callF P (k + 1)) f vs H Q E) :
    tSs K fa (spC K fa C (callF P k)) tb C (fun cls d _ H => E cls d H) q.body { nx := fun _ H' => Q .non H', rt := Q } (L2.start N vs) H := by
  obtain ⟨g, S, ws, r, hv, h⟩ := h
  rcases h with h | ⟨ro, h⟩
  · have rm : Rel K fa { g with ro := true } H S := r.mark
    have hvm : RWs K fa { g with ro := true } vs ws := hv.same
    have fin : ∀ g' H' S1, Gh.le { g with ro := true } g' → Rel K fa g' H' S1 → g.le { g' with n := g.n, ro := g.ro } ∧ Rel K fa { g' with n := g.n, ro := g.ro } H' (S1.take S.length) := fun g' H' S1 l r1 =>
      ⟨⟨l.G, l.φ, Nat.le_refl _, l.lk, l.F, rfl, fun _ => l.I rfl⟩, by
        rw [r.len]
        refine (r1.cut (n := g.n) l.n fun i m e => ?_).mark
        have e2 : g'.I = g.I := l.I rfl
        rw [e2] at e
        exact r.ir i m e⟩
    rcases h with ⟨d, S', e, kk⟩ | ⟨d, S', e, kk⟩
    all_goals
      simp only [callF] at e
      rw [hq] at e
      simp only [Option.bind_some] at e
      split at e
      case isFalse => cases e
      rename_i hz
      obtain ⟨o, e1, e⟩ := Option.bind_eq_some_iff.mp e
      refine okSs htb q.body te _ _ _ e1 { g with ro := true } _ H rm (start_ok hvm hN (by omega) (fun z => by rw [callF_ob] at z; cases z)) _ ?_
    · cases o with
      | nx ρ1 S1 =>
        cases e
        exact fun g1 σ1 H1 l1 r1 _ => kk _ H1 .non (fin g1 H1 S1 l1 r1).1 (fin g1 H1 S1 l1 r1).2 (by simp only [RepD])
      | rt d1 S1 =>
        cases e
        exact fun g1 H1 v1 l1 r1 h1 => kk _ H1 v1 (fin g1 H1 S1 l1 r1).1 (fin g1 H1 S1 l1 r1).2 h1
      | _ => cases e
    · cases o with
      | xc d1 S1 =>
        cases e
        exact fun _ g1 H1 l1 r1 => kk { g1 with n := g.n, ro := g.ro } H1 (fin g1 H1 S1 l1 r1).1 (fin g1 H1 S1 l1 r1).2
      | _ => cases e
  · have es : spC K fa C { callF P k with ob := true } = spC K fa C (callF P k) := rfl
    rw [← es]
    rcases h with ⟨d, S', e, kk⟩ | ⟨d, S', e, kk⟩
    all_goals
      simp only [callF] at e
      rw [hq] at e
      simp only [Option.bind_some] at e
      split at e
      case isFalse => cases e
      rename_i hz
      obtain ⟨o, e1, e⟩ := Option.bind_eq_some_iff.mp e
      refine okSs (c := { callF P k with ob := true }) htb q.body te _ _ _ e1 g _ H r (start_ok hv hN (by omega) fun _ => ro) _ ?_
    · cases o with
      | nx ρ1 S1 =>
        cases e
        exact fun g1 σ1 H1 l1 r1 _ => kk g1 H1 .non l1 r1 (by simp only [RepW, RepD])
      | rt d1 S1 =>
        cases e
        exact fun g1 H1 v1 l1 r1 h1 => kk g1 H1 v1 l1 r1 h1
      | rm d1 S1 =>
        cases e
        exact fun g1 H1 v1 l1 r1 h1 => kk g1 H1 v1 l1 r1 h1
      | _ => cases e
    · cases o with
      | xc d1 S1 =>
        cases e
        exact fun _ => kk
      | _ => cases e
def Fn.par (q : Fn) : Nat := if 1000 ≤ q.ar then q.ar - 1000 else q.ar
theorem len_ok {P : Nat → Option Fn} {k : Nat} {f : Nat} {q : Fn} {m : Nat} (hq : P f = some q) (hm : q.ar = m ∧ m < 1000 ∧ q.sl < 1000 ∨ q.ar = m + 1000 ∧ m < 1000 ∧ q.sl < 1000) {vs : List V} {H : Hp} {Q : VK} {E : XK} (h : spC K fa C (callF P (k + 1)) f vs H Q E) : vs.length = m := by
  obtain ⟨g, S, ws, r, hv, h⟩ := h
  have hl := hv.length
  rcases h with (⟨d, S', e, kk⟩ | ⟨d, S', e, kk⟩) | ⟨_, (⟨d, S', e, kk⟩ | ⟨d, S', e, kk⟩)⟩
  all_goals
    simp only [callF] at e
    rw [hq] at e
    simp only [Option.bind_some] at e
    split at e
    · rename_i hz
      omega
    · cases e
end
end Pv

set_option Elab.async false
set_option linter.all false
set_option maxRecDepth 100000
set_option maxHeartbeats 4000000
namespace Pv
open PySem L2

theorem pi_or {X : Cx} {tg e : Expr} {t u : TI} (h : PI X tg e t) (h' : PI X tg e u) : PI X tg e (fun σ H R => t σ H R ∨ u σ H R) :=
  ⟨fun pins s σ H R I q => q.elim (h.run pins s σ H R I) (h'.run pins s σ H R I)⟩
theorem fn_zero {P : Program} {w : World} {K : PySem.W.Frag} {mg : Str → Option Value} {base : Heap} {fa : FA} {C : Addr} {CX : CXT} {g : Nat → Option Fn} {f : Nat} {a : Addr} {fd : FuncData} {ps : List Str} {k : Nat} : FnOk P w K mg base CX k a fd ps (spC K fa C (callF g 0) f) where
  len := fun vs H Q E h => by
    obtain ⟨_, _, _, _, _, h⟩ := h
    rcases h with (⟨_, _, e, _⟩ | ⟨_, _, e, _⟩) | ⟨_, (⟨_, _, e, _⟩ | ⟨_, _, e, _⟩)⟩ <;> cases e
  run := fun A outer s H args us vs Q E _ _ _ _ h => by
    obtain ⟨_, _, _, _, _, h⟩ := h
    rcases h with (⟨_, _, e, _⟩ | ⟨_, _, e, _⟩) | ⟨_, (⟨_, _, e, _⟩ | ⟨_, _, e, _⟩)⟩ <;> cases e
def KBd1 (K : PySem.W.Frag) (fd : FuncData) (ps : List Str) : Prop := ∀ (s : Shared) (u : Value) (ws : List Value), K.In s.heap → (u :: ws).length = ps.length → BindsTo s fd ⟨[u], ps.tail.zip ws⟩ (ps.zip (u :: ws))
structure KBd (K : PySem.W.Frag) (fd : FuncData) (ps : List Str) : Prop where
  all : ∀ (s : Shared) (ws : List Value), K.In s.heap → ws.length = ps.length → BindsTo s fd ⟨[], ps.zip ws⟩ (ps.zip ws)
  one : KBd1 K fd ps
theorem kbd_of {K : PySem.W.Frag} {x qual : Str} {st : Stmt} {f : Addr} {fd : FuncData} {ps : List Str} (F : Fun K x qual st f fd)
    (h : ∀ (kV doc pm : Value) (an : Option Addr) (cdv ct : Value) (us : List Value), us.length = ps.length → bindArgs (PySem.W.fnOf x qual (defArgs st) (defBody st) (defScope st) .none kV doc pm an cdv ct) ⟨[], ps.zip us⟩ = pure (ps.zip us) ∧ ∀ u r, us = u :: r → bindArgs (PySem.W.fnOf x qual (defArgs st) (defBody st) (defScope st) .none kV doc pm an cdv ct) ⟨[u], ps.tail.zip r⟩ = pure (ps.zip (u :: r))) : KBd K fd ps := by
  obtain ⟨oc, od, kV, doc, pm, an, cdv, ct, osl, rfl, lk, hcd⟩ := F.ex
  exact ⟨fun s ws _ hl => .of_eq (h kV doc pm an cdv ct ws hl).1, fun s u ws _ hl => .of_eq ((h kV doc pm an cdv ct (u :: ws) hl).2 u ws rfl)⟩
structure ErrOk (P : Program) (w : World) (K : PySem.W.Frag) (mg : Str → Option Value) (base : Heap) (C : Addr) : Prop where
  ex : ∃ (B fI : Addr) (fd : FuncData), ErrC K mg "BadValue" "SecondError" "at" C B ∧ PySem.W.findIn K (.ref C) "__init__" = some (some (.ref fI)) ∧ PySem.W.typeIn K (.ref fI) = some (.type "function") ∧
    FnOk P w K mg base (L2.CX P w) 1 fI fd ["self", "at"] (spI C) ∧ Binds K fd ["self", "at"] []
theorem ErrOk.te {P : Program} {w : World} {K : PySem.W.Frag} {mg : Str → Option Value} {base : Heap} {C : Addr} (r : ErrOk P w K mg base C) : PySem.W.exmOne K (.ref C) (.ref C) = some true := by
  obtain ⟨B, fI, fd, T, _⟩ := r.ex
  exact exmSelf T.exC T.isC T.tyC T.seC
theorem te_one {K : PySem.W.Frag} {fa : FA} {C : Addr} {m : Nat} (h : PySem.W.exmOne K (.ref C) (.ref C) = some true) (hm : m ≤ 1) : ∀ k j, k < m → j < m → PySem.W.exmOne K (.ref (ecA fa C k)) (.ref (ecA fa C j)) = some (decide (k = j)) := fun k j h1 h2 => by
  obtain rfl : k = 0 := by omega
  obtain rfl : j = 0 := by omega
  exact h
theorem passF {P : Program} {w : World} {X : Cx} : Passes (L2.CX P w) X E0 := fun pins σ H s e s' I c => by
  obtain ⟨_, _, _, _, _, _, _, _, _, _, _, _, q⟩ := c
  exact False.elim q
theorem fn_noX {P : Program} {w : World} {K : PySem.W.Frag} {mg : Str → Option Value} {base : Heap} {k : Nat} {f : Addr} {fd : FuncData} {ps : List Str} {sp : Sp} (F : FnOk P w K mg base (L2.CX P w) k f fd ps sp) (h : ∀ vs H Q E, sp vs H Q E → sp vs H Q E0) : FnOk P w K mg base CX0 k f fd ps sp where
  len := F.len
  run := fun A outer s H args us vs Q E hr e b r q => codeAny_mono (F.run A outer s H args us vs Q E0 hr e b r (h vs H Q E q)) fun r s' hq => by
    cases r with
    | error er =>
      obtain ⟨_, _, _, _, _, _, _, _, _, _, _, _, q⟩ := hq
      exact False.elim q
    | ok fl => cases fl <;> exact hq
theorem mgOf {mg : Str → Option Value} {n x : Str} {v : Value} (m : mg n = some v ∨ n = "") (hx : n = x) (hn : (x == ("" : Str)) = false) : mg x = some v := by
  rcases m with m | m
  · exact hx ▸ m
  · subst hx; subst m; simp at hn
structure Tbl (P : Program) (w : World) (K : PySem.W.Frag) (mg : Str → Option Value) (base : Heap) (k : Nat) (fa : FA) (sp : Nat → Sp) (tb : Nat → Prop) (nm : Nat → Str) (pn : Nat → List Str) : Prop where
  eP : fa.P = P
  ew : fa.w = w
  fn : ∀ f, tb f → ∃ fd, FnOk P w K mg base (L2.CX P w) k (fa f) fd (pn f) (sp f) ∧ PySem.W.keepIn K (.ref (fa f)) = true ∧ Binds K fd (pn f) [] ∧ (mg (nm f) = some (.ref (fa f)) ∨ nm f = "") ∧ KBd K fd (pn f)
theorem spLaw_of {K : PySem.W.Frag} {fa : FA} {C : Addr} {g : Nat → Option Fn} {lv f : Nat} {H : Hp} {a : Addr} {ns : List Int} (ht : LamX.Tabs fa.tabs H) (M : ∃ S, callF g lv f [.d (.scr ns)] [] = some (.bl true, S)) (hS : SqL K H a (ns.map V.int)) {Q : VK} {E : XK} (h : ∀ H, Q (.bl true) H) :
    spC K fa C (callF g lv) f [.ref a] H Q E := by
  obtain ⟨S, e⟩ := M
  -- what is known at the start is the script alone
  have key : ∃ G : Hp, (∀ b u, G b = some u → H b = some u ∧ ∀ ps, u ≠ .tbl ps) ∧ SqL K G a (ns.map V.int) := by
    have up : ∀ o, H a = some o → (∀ ps, o ≠ .tbl ps) → ∀ b u, upd nilH a o b = some u → H b = some u ∧ ∀ ps, u ≠ .tbl ps := fun o q no b u e => by
      by_cases hb : b = a
      · subst hb
        rw [upd_same] at e; cases e; exact ⟨q, no⟩
      · rw [upd_ne hb] at e; cases e
    rcases hS with (q | ⟨o, q⟩) | q
    · exact ⟨upd nilH a _, up _ q (fun _ z => nomatch z), Or.inl (Or.inl upd_same)⟩
    · exact ⟨upd nilH a _, up _ q (fun _ z => nomatch z), Or.inl (Or.inr ⟨o, upd_same⟩)⟩
    · exact ⟨nilH, fun _ _ e => (nomatch e), Or.inr q⟩
  obtain ⟨G, g1, g2⟩ := key
  refine ⟨⟨G, fun _ => 0, 0, false, fun _ => none, false, fun _ => none⟩, [], [.d (.scr ns)], ⟨rfl, fun b u e => .inl (g1 b u e).1, fun i mo e => by simp at e, fun i j mi mj e => by simp at e, fun b u e => (by cases e), fun b u e => (by cases e), fun p hp => ⟨ht p hp, (by
    cases e : G p.1 with
    | none => exact e
    | some u =>
      obtain ⟨ps, q, _⟩ := ht p hp
      obtain ⟨q1, q2⟩ := g1 _ _ e
      rw [q] at q1; cases q1
      exact absurd rfl (q2 ps))⟩, fun a ps e => (g1 a _ e).2 ps rfl, fun i mo e => (by simp at e), fun i l e => (by cases e)⟩, .cons ?_ .nil, .inl (.inl ⟨.bl true, S, e, fun g' H' v _ _ hv => ?_⟩)⟩
  · simp only [RepW, RepD]
    exact ⟨a, rfl, g2⟩
  · simp only [RepD] at hv
    subst hv
    exact h H'
def spLawP (K : PySem.W.Frag) : Sp := fun vs H Q _ => ∃ (a : Addr) (ns : List Int), vs = [.ref a] ∧ SqL K H a (ns.map V.int) ∧ ns.length ≤ 63 ∧ ∀ H', Q (.bl true) H'
structure Bt (mg : Str → Option Value) : Prop where
  len : mg "len" = none
  int : mg "int" = none
  isinstance : mg "isinstance" = none
  range : mg "range" = none
  all : mg "all" = none
  any : mg "any" = none
  sum : mg "sum" = none
  max : mg "max" = none
  min : mg "min" = none
  str : mg "str" = none
  tuple : mg "tuple" = none
  list : mg "list" = none
  sorted : mg "sorted" = none
  zip : mg "zip" = none
  bool : mg "bool" = none
  dict : mg "dict" = none
  set : mg "set" = none
structure Okx (X : Cx) (k : Nat) (fa : FA) (sp : Nat → Sp) (tb : Nat → Prop) (nm : Nat → Str) (pn : Nat → List Str) : Prop where
  calm : X.calm = true
  room : Room k X.A
  nd : X.N.Nodup
  tbl : Tbl X.prog X.w X.K X.mg X.base k fa sp tb nm pn
  bt : Bt X.mg

section
variable {X : Cx} {k : Nat} {fa : FA} {sp : Nat → Sp} {tb : Nat → Prop} {nm : Nat → Str} {pn : Nat → List Str} {a b q e : Expr} {es : List Expr} {a' b' q' e' : E} {as' : Es} {pos p : Pos} {x : Str} {C : Addr} {Wx : WX}
theorem Okx.blk (h : Okx X k fa sp tb nm pn) {s : Shared} {H : Hp} {scope : Scope} {cenv : Env} {fp : List Addr} : Okx (X.blk s H scope cenv fp) k fa sp tb nm pn := ⟨h.calm, h.room, h.nd, h.tbl, h.bt⟩
theorem Okx.hu (h : Okx X k fa sp tb nm pn) : X.A.units + 64 < cLine := h.room.units
theorem d_int {i : Int} {j : Nat} : PE X (.Constant (.int i) j pos) ((tE X.K fa sp tb) (.cst (.int i))) := pe_int
theorem d_bl {i : Bool} {j : Nat} : PE X (.Constant (.bool i) j pos) ((tE X.K fa sp tb) (.cst (.bl i))) := pe_bl
theorem d_non {j : Nat} : PE X (.Constant .none j pos) ((tE X.K fa sp tb) (.cst .non)) := pe_non
theorem d_str {i : Str} {j : Nat} : PE X (.Constant (.str i) j pos) ((tE X.K fa sp tb) (.cst (.str i))) := pe_str
theorem d_add (ha : PE X a ((tE X.K fa sp tb) a')) (hb : PE X b ((tE X.K fa sp tb) b')) : PE X (.BinOp a .Add b pos) ((tE X.K fa sp tb) (.bin .add a' b')) := pe_op (op_add.or (op_add_str.or (op_catA.or op_cat))) ha hb
theorem d_sub (ha : PE X a ((tE X.K fa sp tb) a')) (hb : PE X b ((tE X.K fa sp tb) b')) : PE X (.BinOp a .Sub b pos) ((tE X.K fa sp tb) (.bin .sub a' b')) := pe_op op_sub ha hb
theorem d_mul (ha : PE X a ((tE X.K fa sp tb) a')) (hb : PE X b ((tE X.K fa sp tb) b')) : PE X (.BinOp a .Mult b pos) ((tE X.K fa sp tb) (.bin .mul a' b')) := pe_op (op_mul.or (op_repT.or PvR.op_mulS)) ha hb
theorem d_div (ha : PE X a ((tE X.K fa sp tb) a')) (hb : PE X b ((tE X.K fa sp tb) b')) : PE X (.BinOp a .FloorDiv b pos) ((tE X.K fa sp tb) (.bin .div a' b')) := pe_op op_fdivW ha hb
theorem d_mod (ha : PE X a ((tE X.K fa sp tb) a')) (hb : PE X b ((tE X.K fa sp tb) b')) : PE X (.BinOp a .Mod b pos) ((tE X.K fa sp tb) (.bin .mod a' b')) := pe_op op_mod ha hb
theorem d_pow (ha : PE X a ((tE X.K fa sp tb) a')) (hb : PE X b ((tE X.K fa sp tb) b')) : PE X (.BinOp a .Pow b pos) ((tE X.K fa sp tb) (.bin .pow a' b')) := pe_op op_pow ha hb
theorem d_neg (ha : PE X a ((tE X.K fa sp tb) a')) : PE X (.UnaryOp .USub a pos) ((tE X.K fa sp tb) (.neg a')) := pe_un un_neg ha
def cop : COp → CmpOp
  | .eq => .Eq | .ne => .NotEq | .lt => .Lt | .le => .LtE | .gt => .Gt | .ge => .GtE | .inn => .In | .nin => .NotIn
theorem cop_ok (h : Okx X k fa sp tb nm pn) : ∀ o : COp, OpR X (compareOp (cop o)) (rC X.K o)
  | .eq => op_eq.or (op_eqD h.hu)
  | .ne => op_ne.or (op_neD h.hu)
  | .lt => (op_lt.or op_lt_str).or (PvR.op_ltD h.hu)
  | .le => op_le.or op_le_str
  | .gt => op_gt.or op_gt_str
  | .ge => (op_ge.or op_ge_str).or (PvR.op_geP h.hu)
  | .inn => op_in_seq.or op_in_str
  | .nin => op_notIn_seq.or op_notIn_str
theorem d_cmp (h : Okx X k fa sp tb nm pn) (o : COp) (ha : PE X a ((tE X.K fa sp tb) a')) (hb : PE X b ((tE X.K fa sp tb) b')) (hm : behindInMarks (cop o) b = false := by rfl) : PE X (.Compare a [cop o] [b] pos) ((tE X.K fa sp tb) (.cmp o a' b')) := pe_cmpR (cop_ok h o) ha hb hm
theorem d_isN {j : Nat} {pos' : Pos} (ha : PE X a ((tE X.K fa sp tb) a')) : PE X (.Compare a [.Is] [.Constant .none j pos'] pos) ((tE X.K fa sp tb) (.isN a')) := pe_cmp (pc_isN ha) rfl
theorem d_one {op : BoolOp} (ha : PE X a ((tE X.K fa sp tb) a')) : PE X (.BoolOp op [a] pos) ((tE X.K fa sp tb) a') := pe_one ha
theorem d_and {r : List Expr} (ha : PE X a ((tE X.K fa sp tb) a')) (hb : PE X (.BoolOp .And (b :: r) pos) ((tE X.K fa sp tb) b')) : PE X (.BoolOp .And (a :: b :: r) pos) ((tE X.K fa sp tb) (.and a' b')) := pe_and ha hb
theorem d_or {r : List Expr} (ha : PE X a ((tE X.K fa sp tb) a')) (hb : PE X (.BoolOp .Or (b :: r) pos) ((tE X.K fa sp tb) b')) : PE X (.BoolOp .Or (a :: b :: r) pos) ((tE X.K fa sp tb) (.or a' b')) := pe_or ha hb
theorem d_not (ha : PE X a ((tE X.K fa sp tb) a')) : PE X (.UnaryOp .Not a pos) ((tE X.K fa sp tb) (.not a')) := pe_not ha
theorem d_nil : PA X [] ((tEs X.K fa sp tb) .nil) := pa_nil
theorem d_cons (ha : PE X a ((tE X.K fa sp tb) a')) (hr : PA X es ((tEs X.K fa sp tb) as')) (hs : starEach (a :: es) X.env = (false, eval a X.env) :: starEach es X.env := by rfl) : PA X (a :: es) ((tEs X.K fa sp tb) (.cons a' as')) := pa_cons ha hr hs
theorem d_call (h : Okx X k fa sp tb nm pn) (f : Nat) (hf : tb f) (ha : PA X (e :: es) ((tEs X.K fa sp tb) as')) (hx : nm f = x := by rfl) (hn : (x == ("" : Str)) = false := by decide) (hg : Gl X x := by rfl) (hdb : (x == ("__debug__" : Str)) = false := by decide)
    (he : starEach (e :: es) X.env = (false, eval e X.env) :: starEach es X.env := by rfl) (hpl : (backTo pos (starEach es X.env)).any (·.1) = false := by rfl) : PE X (.Call (.Name x p) (e :: es) [] pos) ((tE X.K fa sp tb) (.call f as')) := by
  obtain ⟨fd, F, kp, bd, m, kb⟩ := h.tbl.fn f hf
  exact pe_call F h.room hg (mgOf m hx hn) kp bd .nil passF ha hdb he hpl
theorem k_nil : PK X [] ((tEs X.K fa sp tb) .nil) := pk_nil
theorem k_cons {n : Str} {kp : Pos} {kws : List Keyword} (ha : PE X a ((tE X.K fa sp tb) a')) (hr : PK X kws ((tEs X.K fa sp tb) as')) : PK X (⟨some n, a, kp⟩ :: kws) ((tEs X.K fa sp tb) (.cons a' as')) := pk_cons ha hr
theorem d_len (h : Okx X k fa sp tb nm pn) (ha : PA X [e] ((tEs X.K fa sp tb) as')) (hg : Gl X "len" := by rfl) (he : starEach [e] X.env = (false, eval e X.env) :: starEach [] X.env := by rfl) (hpl : (backTo pos (starEach [] X.env)).any (·.1) = false := by rfl) :
    PE X (.Call (.Name "len" p) [e] [] pos) ((tE X.K fa sp tb) (.bi .len as')) := pe_callB (call_len_seq.or call_len_str) hg h.bt.len boot_len ha (by decide) (by decide) he hpl
theorem d_intf (h : Okx X k fa sp tb nm pn) (ha : PA X [e] ((tEs X.K fa sp tb) as')) (hg : Gl X "int" := by rfl) (he : starEach [e] X.env = (false, eval e X.env) :: starEach [] X.env := by rfl) (hpl : (backTo pos (starEach [] X.env)).any (·.1) = false := by rfl) :
    PE X (.Call (.Name "int" p) [e] [] pos) ((tE X.K fa sp tb) (.bi .int as')) := pe_callTy call_int1 hg h.bt.int (by decide +kernel) ha (by decide) (by decide) he hpl
theorem d_isi1 (h : Okx X k fa sp tb nm pn) {y : Str} {p2 : Pos} {t : String} (ha : PE X e ((tE X.K fa sp tb) e')) (hm : X.mg y = none) (hv : bootBuiltins y = some (.type t)) (hg : Gl X "isinstance" := by rfl) (hy : Gl X y := by rfl)
    (hn : y ≠ "__name__" := by decide) (hd : (y == ("__debug__" : Str)) = false := by decide)
    (he : starEach [e, .Name y p2] X.env = (false, eval e X.env) :: starEach [.Name y p2] X.env := by rfl) (he2 : starEach [.Name y p2] X.env = (false, eval (.Name y p2) X.env) :: starEach [] X.env := by rfl) (hpl : (backTo pos (starEach [.Name y p2] X.env)).any (·.1) = false := by rfl) :
    PE X (.Call (.Name "isinstance" p) [e, .Name y p2] [] pos) ((tE X.K fa sp tb) (.isi1 e' t)) :=
  pe_callB call_isi hg h.bt.isinstance (by decide +kernel) (pa_cons ha (pa_cons (pe_bltn hy hm hv rfl hn hd) pa_nil he2) he) (by decide) (by decide) he hpl
theorem d_ix (ha : PE X a ((tE X.K fa sp tb) a')) (hb : PE X b ((tE X.K fa sp tb) b')) (hs : PlainIx b := by exact fun _ _ => rfl) : PE X (.Subscript a b pos) ((tE X.K fa sp tb) (.ix a' b')) := pe_ix ix_seq ha hb hs
theorem d_sl {lo hi : Option Expr} {lo' hi' : Eo} {p2 : Pos} (ha : PE X a ((tE X.K fa sp tb) a')) (h1 : PO X lo (tO X.K fa sp tb lo')) (h2 : PO X hi (tO X.K fa sp tb hi')) : PE X (.Subscript a (.Slice lo hi none p2) pos) ((tE X.K fa sp tb) (.sl a' lo' hi')) :=
  pe_slice (sl_list.or (sl_tupA.or sl_str)) ha h1 h2
theorem d_on : PO X none (tO X.K fa sp tb .none) := po_none
theorem d_os (ha : PE X a ((tE X.K fa sp tb) a')) : PO X (some a) (tO X.K fa sp tb (.some a')) := po_some ha
theorem d_tup {j : Nat} (h : PA X es ((tEs X.K fa sp tb) as')) : PE X (.Tuple es j pos) ((tE X.K fa sp tb) (.tup as')) := pe_tup h
theorem d_lst (h : PA X es ((tEs X.K fa sp tb) as')) : PE X (.List es pos) ((tE X.K fa sp tb) (.lst as')) := pe_lst h
theorem d_comp (h : Okx X k fa sp tb nm pn) {elt tg iter : Expr} {ifs : List Expr} {scope : Scope} (own : List (Str × Nat)) {tg' : Tg} {it' : It} {c' : To} {elt' : E} {vs : List Nat}
    (hi : PI X tg iter (tI X.K fa sp tb it')) (ok : BlkOk X.N X.env.scope scope own)
    (hg : ∀ (s : Shared) (H : Hp) (C : Addr) (cl : List (Str × Addr)) (fp : List Addr), PG (X.blk s H scope (compEnvC scope cl C X.env) fp) tg (tTg X.K tg'))
    (ht : ∀ (s : Shared) (H : Hp) (C : Addr) (cl : List (Str × Addr)) (fp : List Addr), PTs (X.blk s H scope (compEnvC scope cl C X.env) fp) ifs (tTo X.K fa sp tb c'))
    (he : ∀ (s : Shared) (H : Hp) (C : Addr) (cl : List (Str × Addr)) (fp : List Addr), PE (X.blk s H scope (compEnvC scope cl C X.env) fp) elt ((tE X.K fa sp tb) elt'))
    (hv : own.map (·.2) = vs := by rfl) (hs : ∀ x, foldedSetIterable iter X.env x = pure x := by intro _; rfl) : PE X (.ListComp elt [⟨tg, iter, ifs, 0⟩] scope pos) ((tE X.K fa sp tb) (.comp vs tg' it' c' elt')) := by
  subst hv
  exact pe_lc h.calm h.nd hi ok hg ht he hs
theorem d_tn : PTs X [] (tTo X.K fa sp tb .none) := pts_nil
theorem d_seq {tg : Expr} (ha : PE X a ((tE X.K fa sp tb) a')) : PI X tg a (tI X.K fa sp tb (.seq a')) := pi_or (pi_list ha) (pi_or (pi_tup ha) (pi_str ha))
theorem d_r1 (h : Okx X k fa sp tb nm pn) {tg : Expr} (ha : PE X a ((tE X.K fa sp tb) a')) (hg : Gl X "range" := by rfl) (hs : starEach [a] X.env = [(false, eval a X.env)] := by rfl) : PI X tg (.Call (.Name "range" p) [a] [] pos) (tI X.K fa sp tb (.r1 a')) :=
  pi_range1 hg h.bt.range (pa_cons ha pa_nil hs) hs
theorem d_val (h : PE X a ((tE X.K fa sp tb) a')) (hv : ∀ whole, PySem.isTrue a X.env whole = (do let v ← whole; standAt a.pos; holding [v] (truthy v)) := by intro _; rfl) : PT X a ((tT X.K fa sp tb) (.val a')) := pt_val h hv
theorem d_tcmp (h : Okx X k fa sp tb nm pn) (o : COp) (ha : PE X a ((tE X.K fa sp tb) a')) (hb : PE X b ((tE X.K fa sp tb) b')) (hm : behindInMarks (cop o) b = false := by rfl) : PT X (.Compare a [cop o] [b] pos) ((tT X.K fa sp tb) (.val (.cmp o a' b'))) := pt_cmpR (cop_ok h o) ha hb hm
theorem d_tisN {j : Nat} {pos' : Pos} (ha : PE X a ((tE X.K fa sp tb) a')) : PT X (.Compare a [.Is] [.Constant .none j pos'] pos) ((tT X.K fa sp tb) (.val (.isN a'))) := pt_cmp (pc_isN ha) rfl
variable {t u : T}
theorem d_tnot (h : PT X a ((tT X.K fa sp tb) t)) : PT X (.UnaryOp .Not a pos) ((tT X.K fa sp tb) (.not t)) := pt_not h
theorem d_wor1 (h : PT X a ((tT X.K fa sp tb) t)) : PW X (.BoolOp .Or [a] pos) ((tT X.K fa sp tb) t) := pw_or1 h
theorem d_wor {r : List Expr} (ha : PT X a ((tT X.K fa sp tb) t)) (hb : PW X (.BoolOp .Or (b :: r) pos) ((tT X.K fa sp tb) u)) : PW X (.BoolOp .Or (a :: b :: r) pos) ((tT X.K fa sp tb) (.or t u)) := pw_or ha hb
theorem d_w (h : PW X a ((tT X.K fa sp tb) t)) : PT X a ((tT X.K fa sp tb) t) := h.pt
theorem d_gn (h : Okx X k fa sp tb nm pn) {i : Nat} (hi : X.N[i]? = some x := by rfl) (hx : L2.Loc X.env.scope x := by first | exact Or.inl rfl | exact Or.inr rfl) (hf : X.fn x = true ∨ X.env.scope.names.lookup x = some .local := by first | exact .inl rfl | exact .inr rfl) : PG X (.Name x pos) (tTg X.K (.name i)) := pg_name h.nd hi hx hf
end

section
variable {X : Cx} {k : Nat} {fa : FA} {sp : Nat → Sp} {tb : Nat → Prop} {nm : Nat → Str} {pn : Nat → List Str} {a b q e : Expr} {es : List Expr} {a' b' q' e' : E} {as' : Es} {pos p : Pos} {x : Str} {C : Addr} {Wx : WX}
theorem s_nil : PSs X [] ((tSs X.K fa sp tb C Wx) .nil) := pss_nil
theorem s_cons {st : Stmt} {rest : List Stmt} {s : Pv.S} {ss : Ss} (h1 : PS X st ((tS X.K fa sp tb C Wx) s)) (h2 : PSs X rest ((tSs X.K fa sp tb C Wx) ss)) : PSs X (st :: rest) ((tSs X.K fa sp tb C Wx) (.cons s ss)) := pss_cons h1 h2
theorem s_set (h : Okx X k fa sp tb nm pn) {i : Nat} {p' : Pos} (he : PE X e ((tE X.K fa sp tb) e')) (hi : X.N[i]? = some x := by rfl) (hx : L2.Loc X.env.scope x := by first | exact Or.inl rfl | exact Or.inr rfl)
    (hs : swapsWith e (some (.Name x p')) pos.line X.env = pure false := by rfl) (hf : X.fn x = true ∨ X.env.scope.names.lookup x = some .local := by first | exact .inl rfl | exact .inr rfl) : PS X (.Assign [.Name x p'] e pos) ((tS X.K fa sp tb C Wx) (.asg (.name i) e')) := ps_set h.nd hi hx he hs hf
theorem s_newL (h : Okx X k fa sp tb nm pn) {i : Nat} {p' p2 : Pos} (ha : PA X es (tEs X.K fa sp tb as')) (hi : X.N[i]? = some x := by rfl) (hx : L2.Loc X.env.scope x := by first | exact Or.inl rfl | exact Or.inr rfl)
    (hs : swapsWith (.List es p2) (some (.Name x p')) pos.line X.env = pure false := by rfl) (hf : X.fn x = true ∨ X.env.scope.names.lookup x = some .local := by first | exact .inl rfl | exact .inr rfl) : PS X (.Assign [.Name x p'] (.List es p2) pos) ((tS X.K fa sp tb C Wx) (.newL i as')) := ps_set h.nd hi hx (pe_lst ha) hs hf
theorem s_app {i : Nat} {ap p2 : Pos} (ha : PE X a ((tE X.K fa sp tb) a')) (hN : X.N[i]? = some x := by rfl) (hv : Vis X.env.scope x := by first | exact Or.inl rfl | exact Or.inr (Or.inl rfl) | exact Or.inr (Or.inr rfl))
    (hd : (x == ("__debug__" : Str)) = false := by decide) (hcd : (x == ("__classdict__" : Str)) = false := by decide)
    (h1 : attributeBase (.Name x p) "append" X.env (eval (.Name x p) X.env) = eval (.Name x p) X.env := by rfl)
    (h2 : ((((backTo p2 (starEach [a] X.env)).all fun x => !x.1) && (backToKw p2 (keywordEach [] X.env)).all fun x => x.1.isSome) && decide (([a].length + ([] : List Keyword).length + if ([] : List Keyword).isEmpty = true then 0 else 1) < 30)) = true := by rfl)
    (h3 : (ap.endLine == p2.line) = true := by rfl) (h4 : starEach [a] X.env = (false, eval a X.env) :: starEach [] X.env := by rfl) (h5 : (backTo p2 (starEach [] X.env)).any (·.1) = false := by rfl)
    (hs : swapsWith (.Call (.Attribute (.Name x p) "append" ap) [a] [] p2) none pos.line X.env = pure false := by rfl) :
    PS X (.Expr (.Call (.Attribute (.Name x p) "append" ap) [a] [] p2) pos) ((tS X.K fa sp tb C Wx) (.app i a')) :=
  ps_expr (pe_bm PySem.F.plainAttrs_list PySem.F.slot_list_append PySem.F.type_list_append mt_append (pv i hN hv hd hcd) (pa_cons ha pa_nil h4) h1 h2 h3 h4 h5) hs
theorem s_setL {i : Nat} {p' : Pos} (hk : PE X a ((tE X.K fa sp tb) a')) (he : PE X e ((tE X.K fa sp tb) e')) (hN : X.N[i]? = some x := by rfl) (hv : Vis X.env.scope x := by first | exact Or.inl rfl | exact Or.inr (Or.inl rfl) | exact Or.inr (Or.inr rfl))
    (hd : (x == ("__debug__" : Str)) = false := by decide) (hcd : (x == ("__classdict__" : Str)) = false := by decide)
    (h0 : ∀ v, assign (.Subscript (.Name x p) a p') X.env v = (do let ov ← holding [v] (eval (.Name x p) X.env); let iv ← holding [v, ov] (eval a X.env); standAt p'; holding [v, ov, iv] (setItem ov iv v); release [v, ov, iv] []) := by intro _; rfl)
    (h1 : swapsWithSole [.Subscript (.Name x p) a p'] e pos.line X.env = pure false := by rfl) (h2 : swappedStores [.Subscript (.Name x p) a p'] e X.env = pure none := by rfl)
    (h3 : (assignEach [.Subscript (.Name x p) a p'] X.env).map (·.2) = [assign (.Subscript (.Name x p) a p') X.env] := by rfl) :
    PS X (.Assign [.Subscript (.Name x p) a p'] e pos) ((tS X.K fa sp tb C Wx) (.setL i a' e')) := ps_asg he (pg_sub (pv i hN hv hd hcd) hk set_list h0) h1 h2 h3
theorem Okx.tr (h : Okx X k fa sp tb nm pn) {q : List (Addr × Obj)} {xe : Value → Shared → Prop} : Okx (X.tr q xe) k fa sp tb nm pn := ⟨h.calm, h.room, h.nd, h.tbl, h.bt⟩
theorem s_ret (he : PE X e ((tE X.K fa sp tb) e')) : PS X (.Return (some e) pos) ((tS X.K fa sp tb C Wx) (.ret e')) := ps_ret he
theorem s_if {t : T} {A B : List Stmt} {A' B' : Ss} (hc : PT X q (tT X.K fa sp tb t)) (ha : PSs X A ((tSs X.K fa sp tb C Wx) A')) (hb : PSs X B ((tSs X.K fa sp tb C Wx) B')) : PS X (.If q A B pos) ((tS X.K fa sp tb C Wx) (.ifs t A' B')) := ps_if hc ha hb
theorem s_for (h : Okx X k fa sp tb nm pn) {iter tg : Expr} {body : List Stmt} {it' : It} {g : Tg} {B' : Ss} (hp : PassesOwn (model X.prog X.w) X.A X.env X.xe) (hi : PI X tg iter (tI X.K fa sp tb it')) (hg : PG X tg (tTg X.K g)) (hb : PSs X body ((tSs X.K fa sp tb C Wx) B'))
    (hs : ∀ x, foldedSetIterable iter X.env x = pure x := by intro _; rfl) : PS X (.For tg iter body [] pos) ((tS X.K fa sp tb C Wx) (.forS g it' B')) := ps_for hp h.calm hi hg hb hs
theorem s_brk : PS X (.Break pos) ((tS X.K fa sp tb C Wx) .brk) := ps_break
end
end Pv

set_option Elab.async false
set_option linter.all false
set_option maxRecDepth 100000
set_option maxHeartbeats 4000000
namespace Pv
open PySem L2 PySem.Spec PyProof.Rows

theorem ps_imp {X : Cx} {e : Stmt} {t u : TS} (h : PS X e t) (i : ∀ D σ H, u D σ H → t D σ H) : PS X e u := ⟨fun pins s σ H D I q => h.run pins s σ H D I (i _ _ _ q)⟩

section
variable {X : Cx} {o e value : Expr} {f : Str} {pos pos' tpos : Pos} {ta tv : TE} {C : Addr}
end

section
variable {X : Cx} {CX : CXT} {k : Nat} {f C : Addr} {fd : FuncData} {ps : List Str} {sp : Sp} {E : L2.St → XK} {x m : Str} {p pos apos : Pos} {e o : Expr} {es : List Expr} {ta : TE} {t : TA} {kws : List Keyword}
end

def tErBK (C : Addr) (f : Str) (x : Str) : TS := tSeq (tDrop (tErI C (tCons (tVar 0) (tCons (tC (.str x)) tNil)))) (tErF C f (tVar 0) (tVar 1))
theorem pure_initK {C : Addr} {f x : Str} {n0 n1 : Str} {vs : List V} {H : Hp} {Q : VK} {E : XK} (h : spIK C f vs H Q E) : tErBK C f x { nx := fun _ H' => Q .non H', rt := Q } (L2.start [n0, n1] vs) H := by
  obtain ⟨a, v, rfl, ha, k⟩ := h
  exact ⟨_, rfl, a, [_], rfl, by show 1 ≤ 1000; decide, ha, _, rfl, _, rfl, a, rfl, ha, k⟩
structure ErrK (P : Program) (w : World) (K : PySem.W.Frag) (mg : Str → Option Value) (base : Heap) (C : Addr) (x bx f : Str) : Prop where
  ex : ∃ (B fI : Addr) (fd : FuncData) (ps : List Str), ErrC K mg x bx f C B ∧ PySem.W.findIn K (.ref C) "__init__" = some (some (.ref fI)) ∧ PySem.W.typeIn K (.ref fI) = some (.type "function") ∧
    FnOk P w K mg base (L2.CX P w) 1 fI fd ps (spIK C f) ∧ Binds K fd ps []
structure ErrN (K : PySem.W.Frag) (mg : Str → Option Value) (C : Addr) (x : Str) : Prop where
  gC : mg x = some (.ref C)
  ex : PySem.W.excIn K C [.type "Exception", .type "BaseException", .type "object"] "Exception.__new__" = true
  kC : PySem.W.keepIn K (.ref C) = true
  sb : PySem.W.subIn K (.ref C) (.type "BaseException") = some true
  ty : PySem.W.typeIn K (.ref C) = some (.type "type")
section
variable {X : Cx} {C : Addr} {bmB : List Value} {B newId initId : String} {x : Str} {p pos : Pos}
theorem pmk_own0 (F : ExcBaseFacts B newId initId bmB) (q : PySem.W.excIn X.K C bmB newId = true) (gC : X.mg x = some (.ref C))
    (kC : PySem.W.keepIn X.K (.ref C) = true) (r : Raises X (.ref C)) (hg : Gl X x) (hdb : (x == ("__debug__" : Str)) = false := by decide) : PMk X (.Call (.Name x p) [] [] pos) (fun _ H Q => Q (.ref C) none H) := by
  intro pins s σ H Q I h
  refine wpAny_Call_Name_kw (ld_glob I hg gC ?_ hdb)
  refine PySem.W.callWith_K0 I.kIn kC ?_
  show wpAny _ _ (call (.ref C) []) _ _ _
  obtain ⟨bm, N, nm, qn, bs, hdct, sn, sub, ab, col, dd, k0, k1, k2, k3, k5, mN, hC, hN, hni, T⟩ := exc_obj I.kIn q
  refine wpAny_call_exc_subT F T hC hN hni (fun h' e hm => ?_) (by simp)
  exact mk_of I hm r h (I.hok.gone hm.new)
end
theorem exmTwo {K : PySem.W.Frag} {S T : Addr} {b : Bool} (h1 : PySem.W.subIn K (.ref T) (.type "BaseException") = some true) (h2 : PySem.W.isClsIn K T = true) (h3 : PySem.W.typeIn K (.ref T) = some (.type "type")) (h4 : PySem.W.subIn K (.ref S) (.ref T) = some b) :
    PySem.W.exmOne K (.ref S) (.ref T) = some b := by
  have e1 : (PySem.W.subIn K (.ref T) (.type "BaseException") == some true) = true := by rw [h1] <;> rfl
  have e2 : ((PySem.W.clsIn K T).isSome && PySem.W.typeIn K (.ref T) == some (.type "type")) = true := by
    have h2' : (PySem.W.clsIn K T).isSome = true := h2
    rw [h2', h3] <;> rfl
  show (if (PySem.W.subIn K (.ref T) (.type "BaseException") == some true) = true then (if ((PySem.W.clsIn K T).isSome && PySem.W.typeIn K (.ref T) == some (.type "type")) = true then PySem.W.subIn K (.ref S) (.ref T) else none) else none) = some b
  rw [if_pos e1, if_pos e2]
  exact h4
def wMix (K : PySem.W.Frag) (Wout : WX) (D : Ends) : List (Value × Option Nat × (Addr → Value → Option Addr → TS)) → WX
  | [] => Wout
  | (c, n, ts) :: r => fun cls d σ H => ∃ b, PySem.W.exmOne K cls c = some b ∧ (b = true → ∀ a, H a = none → match n with
      | none => ts a cls d D σ H
      | some i => ts a cls d { nx := fun σ' H' => D.nx (σ'.set i none) H', rt := D.rt, bk := fun σ' H' => D.bk (σ'.set i none) H', ct := fun σ' H' => D.ct (σ'.set i none) H' } (σ.set i (some (.ref a))) H) ∧ (b = false → wMix K Wout D r cls d σ H)
inductive MixOk (X : Cx) : List ExceptHandler → List (Value × Option Nat × (Addr → Value → Option Addr → TS)) → Prop
  | nil : MixOk X [] []
  | one {x : Str} {c : Value} {ts : Addr → Value → Option Addr → TS} {b₀ : Stmt} {suite : List Stmt} {np pos' : Pos} {hds : List ExceptHandler} {l : List (Value × Option Nat × (Addr → Value → Option Addr → TS))} (hc : Names X x c)
      (hsu : ∀ (a : Addr) (oe : Obj) (cls : Value) (d : Option Addr) (pn : List (Addr × Obj)), Zc cls d oe → (∃ vs, oe.data = .fields vs) → PSs (X.suite a ((a, oe) :: pn)) (b₀ :: suite) (ts a cls d)) (r : MixOk X hds l) :
      MixOk X (.ExceptHandler (some (.Name x np)) none (b₀ :: suite) pos' :: hds) ((c, none, ts) :: l)
  | as {x n : Str} {i : Nat} {c : Value} {ts : Addr → Value → Option Addr → TS} {b₀ : Stmt} {suite : List Stmt} {np pos' : Pos} {hds : List ExceptHandler} {l : List (Value × Option Nat × (Addr → Value → Option Addr → TS))} (hN : X.N.Nodup) (hi : X.N[i]? = some n) (hln : X.env.kindOf n = some .local) (hc : Names X x c)
      (hsu : ∀ (a : Addr) (oe : Obj) (cls : Value) (d : Option Addr) (pn : List (Addr × Obj)), Zc cls d oe → (∃ vs, oe.data = .fields vs) → PSs (X.suite a ((a, oe) :: pn)) (b₀ :: suite) (ts a cls d)) (r : MixOk X hds l) :
      MixOk X (.ExceptHandler (some (.Name x np)) (some n) (b₀ :: suite) pos' :: hds) ((c, some i, ts) :: l)
section
variable {X : Cx} {body : List Stmt} {h₀ : ExceptHandler} {hds : List ExceptHandler} {l : List (Value × Option Nat × (Addr → Value → Option Addr → TS))} {pos : Pos} {tb : WX → TS} {Wout : WX}
theorem ps_try_mix (hs : X.stack = X.env :: X.outer) (hf : X.env.frame = some X.env.locals) (tk : Takes X Wout)
    (hb : ∀ (W : WX) (pn : List (Addr × Obj)) (xe : Value → Shared → Prop), Takes (X.tr pn xe) W → PassesOwn (model X.prog X.w) X.A X.env xe → PSs (X.tr pn xe) body (tb W))
    (hh : MixOk X (h₀ :: hds) l) : PS X (.Try body (h₀ :: hds) [] [] pos) (fun D σ H => tb (wMix X.K Wout D l) D σ H) := by
  refine ⟨fun pins s σ H D I h => ?_⟩
  have ok := I.ok
  have hfr : X.A.frames = some (X.env :: X.outer) := by rw [ok.frames, hs]
  refine wpAny_Try_except ?_
  refine wpAny_mono ((hb (wMix X.K Wout D l) (X.pn ++ pins) (fun e s₁ => wpAny (model X.prog X.w) X.A (noteFrame e X.env) (fun _ s₂ => wpAny (model X.prog X.w) X.A (setFlight e none) (fun _ s₃ =>
    wpAny (model X.prog X.w) X.A (handleBy e X.env (h₀ :: hds)) (SP X pins D) X.xe s₃) X.xe s₂) X.xe s₁) (fun u s' xx => ?_) PassesOwn.looking).run [] s σ H D (I.toTry _) h) (fun f s1 hsp => ?_) (fun e s1 he => he)
  · obtain ⟨a, B, sI, pins', σ', H', cls, d, rfl, J', nb, up, sky, na, os, ag, w⟩ := xx
    have J : Inv X pins σ' H' sI := J'.ofTry ok
    have sky' : Sky B (X.env :: X.outer) a (Zc cls d) X.env.locals s'.heap := by rw [← hs]; exact sky
    show wpAny (model X.prog X.w) X.A (noteFrame (.ref a) X.env) _ _ _
    refine Sky.land Zc.steady hfr hf sky' fun h3 fl3 up3 => ?_
    have J3 : Inv X pins σ' H' { s' with heap := h3 } := J.landed nb fl3.1 (up.trans up3) os ag
    obtain ⟨oe3, vs3, he3, hz3, hd3⟩ := fl3.there
    have notFr : ∀ {h : Heap} {o : Obj} {vs : Array Value}, h.FunFrames B (X.env :: X.outer) → h.get? a = some o → o.data = .fields vs → a ∉ frs (X.env :: X.outer) := fun {h o vs} ff e dd hm => by
      obtain ⟨_, o', e', hnf⟩ := ff.mem hm
      rw [e] at e'; cases e'
      exact hnf _ dd
    have nfr := notFr fl3.2.2.1 he3 hd3
    have nL : a ≠ X.env.locals := fun z => nfr (List.mem_filterMap.mpr ⟨X.env, List.mem_cons_self, by rw [hf, z]⟩)
    have nF : a ∉ X.fs := fun hm => by
      obtain ⟨e, he, q⟩ := List.mem_filterMap.mp hm
      exact nfr (List.mem_filterMap.mpr ⟨e, List.mem_cons_of_mem _ he, q⟩)
    have S3 := J3.suite he3 hd3 na nL nF
    have LT : PySem.W.Looks (model X.prog X.w) h3 (typeOf (.ref a)) cls := fun A Q E s k q => wpAny_typeOf_ref (k _ _ he3) (by rw [hz3.1]; exact q)
    have test : ∀ {x : Str} {c : Value} {np : Pos}, Names X x c → ∀ {Q : Value → Shared → Prop} {E : Value → Shared → Prop}, Q c { s' with heap := h3 } → wpAny (model X.prog X.w) (X.A.mark (some (.ref a))) (eval (.Name x np) X.env) Q E { s' with heap := h3 } := fun {x c np} hc {Q E} q => by
      obtain ⟨hg, hdbg, hm | ⟨hm, hv, hnn⟩⟩ := hc
      · exact ld_glob (X := X.suite a ((a, oe3) :: (X.pn ++ pins))) S3 hg hm q hdbg
      · exact ld_blt (X := X.suite a ((a, oe3) :: (X.pn ++ pins))) S3 hg hm hv q hnn hdbg
    have go : ∀ {hds' : List ExceptHandler} {l' : List (Value × Option Nat × (Addr → Value → Option Addr → TS))}, MixOk X hds' l' → wMix X.K Wout D l' cls d σ' H' →
        wpAny (model X.prog X.w) X.A (handleBy (.ref a) X.env hds') (SP X pins D) X.xe { s' with heap := h3 } := by
      intro hds' l' hk
      induction hk with
      | nil =>
        intro w
        refine wpAny_handleBy_nil ?_
        obtain ⟨k1, k2, k3, oe, vs, T, oT, ts', he, hz, hd, h1, hr⟩ := id fl3
        unfold PySem.passOn
        refine wpAny_bind (wpAny_field he hd h1 ?_)
        rw [if_neg (show ¬ ((Value.ref T == Value.none) = true) from by simp)]
        have fin : wpAny (model X.prog X.w) X.A (setFlight (.ref a) X.env.frame) (fun _ s4 => wpAny (model X.prog X.w) X.A (throw (.ref a) : Sem Flow) (SP X pins D) X.xe s4) X.xe { s' with heap := h3 } := by
          rw [hf]
          refine HandSPX.setFlight_upZ fl3 fun h4 hh4 up4 => wpAny_throw (tk _ _ ?_)
          exact ⟨a, B, sI, pins, σ', H', cls, d, rfl, J, nb, (up.trans up3).trans up4, .inr (.inr (by rw [hs]; exact hh4)), na, os, ag, w⟩
        first
          | exact wpAny_bind (wpAny_pure (wpAny_bind fin))
          | exact wpAny_bind fin
      | @one x c ts b₀ suite np pos' hds2 l2 hc hsu r ih =>
        intro w
        obtain ⟨b, hb1, hyes, hno⟩ := w
        refine wpAny_handleBy_cons (codeAny_handlers_test ?_) (by intro q; cases q)
        have LM := PySem.W.exm_one (M := model X.prog X.w) (J3.kIn) LT hb1
        refine test hc (LM.here ?_)
        cases b with
        | true =>
          refine codeAny_handlers_suite ?_
          refine HandSPX.lands_againZ fl3 fun h4 fl4 up4 => ?_
          have J4 : Inv X pins σ' H' { s' with heap := h4 } := J.landed nb fl4.1 ((up.trans up3).trans up4) os ag
          obtain ⟨oe4, vs4, he4, hz4, hd4⟩ := fl4.there
          have S4 := J4.suite he4 hd4 na nL nF
          refine wpAny_mono ((hsu a oe4 cls d (X.pn ++ pins) hz4 ⟨_, hd4⟩).run [] _ _ H' _ S4 (hyes rfl a na)) (fun f s6 hsp => ?_) (fun _ _ z => False.elim z)
          cases f with
          | next =>
            obtain ⟨σ6, H6, S6, q6⟩ := hsp
            exact ⟨_, _, S6.unsuite ok, q6⟩
          | brk =>
            obtain ⟨σ6, H6, S6, q6⟩ := hsp
            exact ⟨_, _, S6.unsuite ok, q6⟩
          | cont =>
            obtain ⟨σ6, H6, S6, q6⟩ := hsp
            exact ⟨_, _, S6.unsuite ok, q6⟩
          | ret u =>
            obtain ⟨v6, σ6, H6, S6, r6, q6⟩ := hsp
            exact ⟨_, _, _, S6.unsuite ok, r6, q6⟩
        | false =>
          show wpAny _ X.A (handleBy (.ref a) X.env hds2) _ _ _
          exact ih (hno rfl)
      | @as x n i c ts b₀ suite np pos' hds2 l2 hN hi hln hc hsu r ih =>
        intro w
        obtain ⟨b, hb1, hyes, hno⟩ := w
        have hloc : L2.Loc X.env.scope n := .inl hln
        refine wpAny_handleBy_cons (codeAny_handlers_test ?_) (by intro q; cases q)
        have LM := PySem.W.exm_one (M := model X.prog X.w) (J3.kIn) LT hb1
        refine test hc (LM.here ?_)
        cases b with
        | true =>
          refine codeAny_handlers_suite_as ?_
          refine HandSPX.lands_againZ fl3 fun h4 fl4 up4 => ?_
          have J4 : Inv X pins σ' H' { s' with heap := h4 } := J.landed nb fl4.1 ((up.trans up3).trans up4) os ag
          obtain ⟨oe4, vs4, he4, hz4, hd4⟩ := fl4.there
          have S4 := J4.suite he4 hd4 na nL nF
          refine store_ok (X := X.suite a ((a, oe4) :: (X.pn ++ pins))) (v := .ref a) S4 hN hi hloc rfl (fun s5 S5 => ?_) (.inr hln)
          refine wpAny_mono ((hsu a oe4 cls d (X.pn ++ pins) hz4 ⟨_, hd4⟩).run [] s5 _ H' _ S5 (hyes rfl a na)) (fun f s6 hsp => ?_) (fun _ _ z => False.elim z)
          have end_ : ∀ {σ6 : L2.St} {H6 : Hp} {Q : Shared → Prop}, Inv (X.suite a ((a, oe4) :: (X.pn ++ pins))) [] σ6 H6 s6 → (∀ s7, Inv X pins (σ6.set i none) H6 s7 → Q s7) →
              wpAny (model X.prog X.w) X.A (do bindName X.env n .none; unbindBehindTheSuite X.env n pos') (fun _ s7 => Q s7) X.xe s6 := fun {σ6 H6 Q} S6 hq => gone_ok (S6.unsuite ok) hN hi hln hq
          cases f with
          | next =>
            obtain ⟨σ6, H6, S6, q6⟩ := hsp
            exact end_ S6 fun s7 J7 => ⟨_, _, J7, q6⟩
          | brk =>
            obtain ⟨σ6, H6, S6, q6⟩ := hsp
            exact end_ S6 fun s7 J7 => ⟨_, _, J7, q6⟩
          | cont =>
            obtain ⟨σ6, H6, S6, q6⟩ := hsp
            exact end_ S6 fun s7 J7 => ⟨_, _, J7, q6⟩
          | ret u =>
            obtain ⟨v6, σ6, H6, S6, r6, q6⟩ := hsp
            exact end_ S6 fun s7 J7 => ⟨_, _, _, J7, r6, q6⟩
        | false =>
          show wpAny _ X.A (handleBy (.ref a) X.env hds2) _ _ _
          exact ih (hno rfl)
    exact go hh w
  · cases f with
    | next =>
      obtain ⟨σ', H', J', q⟩ := hsp
      exact wpAny_execs_nil ⟨σ', H', J'.ofTry ok, q⟩
    | brk =>
      obtain ⟨σ', H', J', q⟩ := hsp
      exact ⟨σ', H', J'.ofTry ok, q⟩
    | cont =>
      obtain ⟨σ', H', J', q⟩ := hsp
      exact ⟨σ', H', J'.ofTry ok, q⟩
    | ret u =>
      obtain ⟨v, σ', H', J', r, q⟩ := hsp
      exact ⟨v, σ', H', J'.ofTry ok, r, q⟩
end
end Pv

set_option Elab.async false
set_option linter.all false
set_option maxRecDepth 100000
set_option maxHeartbeats 4000000
namespace Pv
open PySem PySem.Spec PyProof.Rows L2 LiI

section
variable {X : Cx} {e : Expr} {te : TE} {p apos cpos pos : Pos}
end
section
variable {prog : Program} {w : World} {A : Around} {E : Value → Shared → Prop} {s : Shared} {r d : Addr} {ep : Nat} {knd : KeyKind prog w Key} {kvs : List (Key × Value)}
end
section
variable {X : Cx} {e : Expr} {te : TE} {p apos cpos pos : Pos}
end
end Pv

set_option Elab.async false
set_option linter.all false
set_option maxRecDepth 100000
set_option maxHeartbeats 4000000
namespace Pv
open PySem L2

structure CI where
  nm : Str
  fl : List Str
  ms : List (Str × Nat)
  ini : Nat
structure EI where
  nm : Str
  at_ : Option Str
def fldB (cs : List CI) (cl : Nat) (f : Str) : Bool := (cs[cl]?).any fun ci => ci.fl.any fun g => decide (g = f)
def mthB (cs : List CI) (cl : Nat) (m : Str) (f : Nat) : Bool := (cs[cl]?).any fun ci => ci.ms.any fun p => decide (p.1 = m) && decide (p.2 = f)
def iniB (cs : List CI) (cl : Nat) (x : Str) (f : Nat) : Bool := (cs[cl]?).any fun ci => decide (ci.nm = x) && decide (ci.ini = f)
structure ObjT (P : Program) (w : World) (K : PySem.W.Frag) (mg : Str → Option Value) (base : Heap) (fa : FA) (C : Addr) (cs : List CI) (es : List EI) : Prop where
  cls : ∀ (c : Nat) ci, cs[c]? = some ci → Cls K (fa.cl c) ∧ (∀ f ∈ ci.fl, NoAttr K (fa.cl c) f) ∧ (∀ p ∈ ci.ms, Meth K (fa.cl c) p.1 (fa p.2)) ∧ Mk K (fa.cl c) (fa ci.ini) ∧ mg ci.nm = some (.ref (fa.cl c))
  erK : ∀ (k : Nat) ei f, es[k]? = some ei → ei.at_ = some f → ErrK P w K mg base (fa.ec (k + 1)) ei.nm "SecondError" f ∧ fa.ea (k + 1) = f
  erN : ∀ (k : Nat) ei, es[k]? = some ei → ei.at_ = none → ErrN K mg (fa.ec (k + 1)) ei.nm
  ex : ∀ k j, k < es.length + 1 → j < es.length + 1 → PySem.W.exmOne K (.ref (ecA fa C k)) (.ref (ecA fa C j)) = some (decide (k = j))
theorem any_some {α : Type} {o : Option α} {p : α → Bool} (h : o.any p = true) : ∃ a, o = some a ∧ p a = true := by
  cases o with
  | none => cases h
  | some a => exact ⟨a, rfl, h⟩
section
variable {X : Cx} {k : Nat} {fa : FA} {sp : Nat → Sp} {tb : Nat → Prop} {nm : Nat → Str} {pn : Nat → List Str} {a b q e o : Expr} {es : List Expr} {a' b' q' e' o' : E} {as' : Es} {pos p apos cpos : Pos} {x m : Str} {C : Addr} {Wx : WX} {cs : List CI} {er : List EI} {kws : List Keyword}
theorem ObjT.fld (ot : ObjT X.prog X.w X.K X.mg X.base fa C cs er) {cl : Nat} {f : Str} (h : fldB cs cl f = true) : Cls X.K (fa.cl cl) ∧ NoAttr X.K (fa.cl cl) f := by
  obtain ⟨ci, e1, e2⟩ := any_some h
  obtain ⟨g, hg, e3⟩ := List.any_eq_true.mp e2
  obtain rfl := of_decide_eq_true e3
  obtain ⟨c, n, _⟩ := ot.cls cl ci e1
  exact ⟨c, n g hg⟩
theorem ObjT.mth (ot : ObjT X.prog X.w X.K X.mg X.base fa C cs er) {cl f : Nat} {m : Str} (h : mthB cs cl m f = true) : Cls X.K (fa.cl cl) ∧ Meth X.K (fa.cl cl) m (fa f) := by
  obtain ⟨ci, e1, e2⟩ := any_some h
  obtain ⟨g, hg, e3⟩ := List.any_eq_true.mp e2
  rw [Bool.and_eq_true] at e3
  obtain ⟨c, _, n, _⟩ := ot.cls cl ci e1
  have := n g hg
  rw [of_decide_eq_true e3.1, of_decide_eq_true e3.2] at this
  exact ⟨c, this⟩
theorem ObjT.made (ot : ObjT X.prog X.w X.K X.mg X.base fa C cs er) {cl f : Nat} {x : Str} (h : iniB cs cl x f = true) : Mk X.K (fa.cl cl) (fa f) ∧ X.mg x = some (.ref (fa.cl cl)) := by
  obtain ⟨ci, e1, e2⟩ := any_some h
  rw [Bool.and_eq_true] at e2
  obtain ⟨_, _, _, n1, n2⟩ := ot.cls cl ci e1
  rw [of_decide_eq_true e2.2] at n1
  rw [of_decide_eq_true e2.1] at n2
  exact ⟨n1, n2⟩
end
theorem all_nil {α : Type} {p : α → Prop} : ∀ x ∈ ([] : List α), p x := fun _ h => by simp at h
theorem all_cons {α : Type} {p : α → Prop} {a : α} {l : List α} (h : p a) (t : ∀ x ∈ l, p x) : ∀ x ∈ a :: l, p x := fun x hx => by
  rcases List.mem_cons.mp hx with rfl | hx
  · exact h
  · exact t x hx
end Pv

set_option Elab.async false
set_option linter.all false
set_option maxRecDepth 100000
set_option maxHeartbeats 4000000
namespace Pv
open PySem L2 PySem.Spec PyProof.Rows

structure XI where
  nm : Str
  at_ : Option Str
  num : Bool
structure QI where
  q : Nat ⊕ String
  nm : Str
  ys : List Nat
  ns : List Nat
structure MkX (P : Program) (w : World) (K : PySem.W.Frag) (mg : Str → Option Value) (base : Heap) (fa : FA) (k : Nat) (x : XI) (f : Str) : Prop where
  ea : fa.ea k = f
  no : XfD K (fa.ec k) f
  ex : ∃ (B fI : Addr) (fd : FuncData) (n0 : Str), ErrC K mg x.nm "SecondError" f (fa.ec k) B ∧ PySem.W.findIn K (.ref (fa.ec k)) "__init__" = some (some (.ref fI)) ∧ PySem.W.typeIn K (.ref fI) = some (.type "function") ∧
    FnOk P w K mg base (L2.CX P w) 1 fI fd [n0, f] (spE fa k x.num) ∧ Binds K fd [n0, f] [] ∧ ∀ (s : Shared) (u v : Value), K.In s.heap → BindsTo s fd ⟨[u], [(f, v)]⟩ [(n0, u), (f, v)]
def NmOk (mg : Str → Option Value) (fa : FA) (nm : Str) : Nat ⊕ String → Prop
  | .inl k => mg nm = some (.ref (fa.ec k))
  | .inr t => mg nm = none ∧ bootBuiltins nm = some (.type t) ∧ nm ≠ "__name__"
structure ExT (P : Program) (w : World) (K : PySem.W.Frag) (mg : Str → Option Value) (base : Heap) (fa : FA) (xs : List XI) (qs : List QI) : Prop where
  mk1 : ∀ (k : Nat) x f, xs[k]? = some x → x.at_ = some f → MkX P w K mg base fa k x f
  mk0 : ∀ (k : Nat) x, xs[k]? = some x → x.at_ = none → ErrN K mg (fa.ec k) x.nm
  is : ∀ (j : Nat) q, qs[j]? = some q → IsXs K (ecs fa q.ys) (ecs fa q.ns) (clsV fa q.q) ∧ NmOk mg fa q.nm q.q
  ex : ∀ k, k < xs.length → PySem.W.exmOne K (.ref (fa.ec k)) (.ref (fa.ec xs.length)) = some true
  gB : mg "SecondError" = some (.ref (fa.ec xs.length))
theorem kit_own {K : PySem.W.Frag} {S T : Addr} {b : Bool} (h2 : PySem.W.isClsIn K T = true) (h3 : PySem.W.typeIn K (.ref T) = some (.type "type")) (h4 : PySem.W.subIn K (.ref S) (.ref T) = some b) (h0 : PySem.W.subIn K (.ref T) (.ref T) = some true) : PySem.W.kitOne K (.ref S) (.ref T) = some b := by
  unfold PySem.W.kitOne
  by_cases e : S = T
  · subst e
    rw [h4] at h0
    cases h0
    rw [if_pos (by simp)]
  · rw [if_neg (by simpa using e)]
    unfold PySem.W.kitCls
    have e2 : ((PySem.W.clsIn K T).isSome && PySem.W.typeIn K (.ref T) == some (.type "type")) = true := by
      have h2' : (PySem.W.clsIn K T).isSome = true := h2
      rw [h2', h3] <;> rfl
    show (if ((PySem.W.clsIn K T).isSome && PySem.W.typeIn K (.ref T) == some (.type "type")) = true then PySem.W.subIn K (.ref S) (.ref T) else none) = some b
    rw [if_pos e2]; exact h4
theorem kit_blt {K : PySem.W.Frag} {S : Addr} {T : String} {b : Bool} (h4 : PySem.W.subIn K (.ref S) (.type T) = some b) (h2 : PySem.W.kitMeta T = true := by decide +kernel) : PySem.W.kitOne K (.ref S) (.type T) = some b := by
  unfold PySem.W.kitOne
  rw [if_neg (by simp)]
  show (if PySem.W.kitMeta T = true then PySem.W.subIn K (.ref S) (.type T) else none) = some b
  rw [if_pos h2]; exact h4
section
variable {X : Cx} {k : Nat} {fa : FA} {sp : Nat → Sp} {tb : Nat → Prop} {nm : Nat → Str} {pn : Nat → List Str} {a b q e o : Expr} {es : List Expr} {a' b' q' e' o' : E} {as' : Es} {pos p apos cpos : Pos} {x m : Str} {C : Addr} {Wx : WX} {kws : List Keyword} {xs : List XI} {qs : List QI}
theorem d_mkE0 (h : Okx X (k + 2) fa sp tb nm pn) (xt : ExT X.prog X.w X.K X.mg X.base fa xs qs) (c : Nat) (xi : XI) (hi : xs[c]? = some xi) (ha : xi.at_ = none) (hn : xi.nm = x) (hg : Gl X x := by rfl) (hdb : (x == ("__debug__" : Str)) = false := by decide) : PE X (.Call (.Name x p) [] [] pos) ((tE X.K fa sp tb) (.mkE0 c)) := by
  have ek := xt.mk0 c xi hi ha
  subst hn
  exact pe_mkV (pmk_own0 PySem.F.excBase_Exception ek.ex ek.gC ek.kC (raises_own ek.sb ek.ty) hg hdb)
theorem d_mkE (h : Okx X (k + 2) fa sp tb nm pn) (xt : ExT X.prog X.w X.K X.mg X.base fa xs qs) (c : Nat) (xi : XI) (f : Str) (hi : xs[c]? = some xi) (hf : xi.at_ = some f) (hn : xi.nm = x) (he : PE X e ((tE X.K fa sp tb) e')) (hg : Gl X x := by rfl) (hdb : (x == ("__debug__" : Str)) = false := by decide)
    (hs1 : starEach [e] X.env = (false, eval e X.env) :: starEach [] X.env := by rfl) (hpl : (backTo pos (starEach [] X.env)).any (·.1) = false := by rfl) : PE X (.Call (.Name x p) [e] [] pos) ((tE X.K fa sp tb) (.mkE c xi.num e')) := by
  obtain ⟨_, _, B, fI, fd, n0, T, iC, tI, F1, bd, kb⟩ := xt.mk1 c xi f hi hf
  subst hn
  exact pe_mkV (pmk_er T iC tI F1 (h.room.mono (Nat.le_add_left 2 k)) bd passF hg (pa_cons he pa_nil hs1) hdb hs1 hpl)
theorem d_mkEK (h : Okx X (k + 2) fa sp tb nm pn) (xt : ExT X.prog X.w X.K X.mg X.base fa xs qs) (c : Nat) (xi : XI) (f : Str) (hi : xs[c]? = some xi) (hf : xi.at_ = some f) (hn : xi.nm = x) (hkw : PK X kws (tCons ((tE X.K fa sp tb) e') tNil)) (hg : Gl X x := by rfl) (hdb : (x == ("__debug__" : Str)) = false := by decide)
    (hall : (backToKw pos (keywordEach kws X.env)).all (·.1.isSome) = true := by rfl) (hks : (backToKw pos (keywordEach kws X.env)).filterMap (·.1) = [f] := by rfl) (hpl : ((backTo pos (starEach [] X.env)).any (·.1) || (backToKw pos (keywordEach kws X.env)).any (·.1.isNone)) = false := by rfl) :
    PE X (.Call (.Name x p) [] kws pos) ((tE X.K fa sp tb) (.mkE c xi.num e')) := by
  obtain ⟨_, _, B, fI, fd, n0, T, iC, tI, F1, bd, kb⟩ := xt.mk1 c xi f hi hf
  subst hn
  exact pe_mkV (pmk_erK T iC tI F1 (h.room.mono (Nat.le_add_left 2 k)) kb passF hg hkw hdb hall hks hpl)
theorem pe_xfK {ks : List Nat} {te : TE} {f : Str} (T : ∀ c ∈ ks, XfD X.K (fa.ec c) f ∧ fa.ea c = f) (he : PE X e te) (hb : attributeBase e f X.env (eval e X.env) = eval e X.env := by rfl) : PE X (.Attribute e f pos) (tXfK fa ks te) := by
  refine ⟨fun pins s σ H Q I h => attr_of hb (L2.thn (he.run pins s σ H _ I h) fun u s1 hh => ?_)⟩
  obtain ⟨x, H1, I1, rx, a, dd, c, v, rfl, hC, ha, hdd, q⟩ := hh
  obtain ⟨t, ee⟩ := T c hC
  rw [ee] at hdd
  obtain rfl : u = Value.ref a := rx
  obtain ⟨oe, vs, h1, hz, hd⟩ := exD_at I1.hok ha
  have hx : ObjOk X.prog X.w H1 s1.heap dd (.xd [(f, v)]) := I1.hok dd _ hdd
  obtain ⟨mA, hns, hr⟩ := hx
  obtain ⟨od, ho, hl⟩ := lookIn_ns hns
  obtain ⟨w, hu, ru⟩ := RelO.some_of (v := v) (o := mA f) (by rw [← show List.lookup f [(f, v)] = some v by simp [List.lookup]]; exact hr f)
  have J : PySem.W.InstAt s1.heap a oe (fa.ec c) (some od) := ⟨h1, hz.1, by unfold PySem.W.notCls; rw [hd] <;> rfl, by rw [hz.2]; exact ho⟩
  exact HandSPX.exc_get I1.kIn J t.ga t.gg t.ex (PySem.W.findObj_own t.hd t.no rfl (by rw [hl, hu])) (handed_of ru) ⟨v, H1, I1.tok _, ru, q⟩
def fldX (xs : List XI) (ks : List Nat) (f : Str) : Bool := ks.all fun k => (xs[k]?).any fun x => decide (x.at_ = some f)
theorem d_efld (xt : ExT X.prog X.w X.K X.mg X.base fa xs qs) (ks : List Nat) {f : Str} (he : PE X e ((tE X.K fa sp tb) e')) (hf : fldX xs ks f = true := by decide +kernel) (hb : attributeBase e f X.env (eval e X.env) = eval e X.env := by rfl) : PE X (.Attribute e f pos) ((tE X.K fa sp tb) (.efld ks e')) := by
  have key : ∀ c ∈ ks, ∃ x, MkX X.prog X.w X.K X.mg X.base fa c x f := fun c hc => by
    obtain ⟨x, e1, e2⟩ := any_some (List.all_eq_true.mp hf c hc)
    exact ⟨x, xt.mk1 c x f e1 (of_decide_eq_true e2)⟩
  exact pe_xfK (fun c hc => by obtain ⟨x, m⟩ := key c hc; exact ⟨m.no, m.ea⟩) he hb
theorem isX_pe {y : Str} {p2 : Pos} {j : Nat ⊕ String} (hm : NmOk X.mg fa y j) (hy : Gl X y) (hd : (y == ("__debug__" : Str)) = false) : PE X (.Name y p2) (tC (clsV fa j)) := by
  cases j with
  | inl c => exact pe_glob hy hm rfl hd
  | inr t => exact pe_bltn hy hm.1 hm.2.1 rfl hm.2.2 hd
theorem d_isE (h : Okx X k fa sp tb nm pn) (xt : ExT X.prog X.w X.K X.mg X.base fa xs qs) {j : Nat} (qi : QI) {y : Str} {p2 : Pos} (hj : qs[j]? = some qi) (hn : qi.nm = y) (ha : PE X e ((tE X.K fa sp tb) e')) (hg : Gl X "isinstance" := by rfl) (hy : Gl X y := by rfl) (hd : (y == ("__debug__" : Str)) = false := by decide)
    (he : starEach [e, .Name y p2] X.env = (false, eval e X.env) :: starEach [.Name y p2] X.env := by rfl) (he2 : starEach [.Name y p2] X.env = (false, eval (.Name y p2) X.env) :: starEach [] X.env := by rfl) (hpl : (backTo pos (starEach [.Name y p2] X.env)).any (·.1) = false := by rfl) :
    PE X (.Call (.Name "isinstance" p) [e, .Name y p2] [] pos) ((tE X.K fa sp tb) (.isE qi.ys qi.ns qi.q e')) := by
  obtain ⟨T, hm⟩ := xt.is j qi hj
  subst hn
  exact pe_callB (call_isX T) hg h.bt.isinstance (by decide +kernel) (pa_cons ha (pa_cons (isX_pe hm hy hd) pa_nil he2) he) (by decide) (by decide) he hpl
theorem s_tryN (h : Okx X (k + 2) fa sp tb nm pn) (xt : ExT X.prog X.w X.K X.mg X.base fa xs qs) (tk : Takes X Wx) {c0 c1 cb i j : Nat} (x0 x1 : XI) (qi : QI) {f n z0 z1 zb zc : Str} {t : T} {p1 p2 p3 p4 p5 p6 p7 p8 p9 pb pc pd pe pf : Pos}
    (hi0 : xs[c0]? = some x0) (ha0 : x0.at_ = none) (hn0 : x0.nm = z0) (hi1 : xs[c1]? = some x1) (ha1 : x1.at_ = some f) (hn1 : x1.nm = z1) (hb1 : x1.num = false) (hj : qs[j]? = some qi) (hnc : qi.nm = zc) (gB : X.mg zb = some (.ref (fa.ec cb)))
    (e0 : PySem.W.exmOne X.K (.ref (fa.ec c0)) (.ref (fa.ec cb)) = some true) (e1 : PySem.W.exmOne X.K (.ref (fa.ec c1)) (.ref (fa.ec cb)) = some true)
    (ht : ∀ (pn : List (Addr × Obj)) (xe : Value → Shared → Prop), PT (X.tr pn xe) q ((tT X.K fa sp tb) t)) (he : ∀ (pn : List (Addr × Obj)) (xe : Value → Shared → Prop), PE (X.tr pn xe) e ((tE X.K fa sp tb) e'))
    (hst : X.stack = X.env :: X.outer := by rfl) (hfr : X.env.frame = some X.env.locals := by rfl) (hi : X.N[i]? = some n := by rfl) (hln : X.env.kindOf n = some .local := by rfl)
    (hg0 : Gl X z0 := by rfl) (hg1 : Gl X z1 := by rfl) (hgb : Gl X zb := by rfl) (hgc : Gl X zc := by rfl) (hgi : Gl X "isinstance" := by rfl)
    (hd0 : (z0 == ("__debug__" : Str)) = false := by decide) (hd1 : (z1 == ("__debug__" : Str)) = false := by decide) (hdb : (zb == ("__debug__" : Str)) = false := by decide) (hdc : (zc == ("__debug__" : Str)) = false := by decide)
    (hv : Vis X.env.scope n := by first | exact Or.inl rfl | exact Or.inr (Or.inl rfl) | exact Or.inr (Or.inr rfl)) (hd : (n == ("__debug__" : Str)) = false := by decide) (hcd : (n == ("__classdict__" : Str)) = false := by decide)
    (hs1 : starEach [e] X.env = (false, eval e X.env) :: starEach [] X.env := by rfl) (hpl : (backTo pc (starEach [] X.env)).any (·.1) = false := by rfl)
    (hs2 : starEach [.Name n p5, .Name zc p6] X.env = (false, eval (.Name n p5) X.env) :: starEach [.Name zc p6] X.env := by rfl) (hs3 : starEach [.Name zc p6] X.env = (false, eval (.Name zc p6) X.env) :: starEach [] X.env := by rfl) (hpl2 : (backTo p7 (starEach [.Name zc p6] X.env)).any (·.1) = false := by rfl) :
    PS X (.Try [.If q [.Raise (some (.Call (.Name z0 p1) [] [] p2)) none p3] [] p4, .Raise (some (.Call (.Name z1 pb) [e] [] pc)) none pd] [.ExceptHandler (some (.Name zb pe)) (some n) [.Return (some (.Call (.Name "isinstance" p8) [.Name n p5, .Name zc p6] [] p7)) p9] pf] [] [] pos)
      ((tS X.K fa sp tb C Wx) (.tryN t c0 c1 e' i cb qi.q qi.ys qi.ns)) := by
  have k0 := xt.mk0 c0 x0 hi0 ha0
  obtain ⟨fea, _, B, fI, fd, n0, T1, iC, tI, F1, bd, kb⟩ := xt.mk1 c1 x1 f hi1 ha1
  obtain ⟨TQ, hm⟩ := xt.is j qi hj
  subst hn0; subst hn1; subst hnc
  rw [hb1] at F1
  refine ps_imp (ps_try_mix (l := [(.ref (fa.ec cb), some i, tIsS fa qi.ys qi.ns qi.q i)]) (tb := fun W => tTN X.K fa sp tb W t c0 c1 e') hst hfr tk (fun W pn xe tw _ => ?_) ?_) fun D σ H z => z e0 e1
  · have h2 : Okx (X.tr pn xe) (k + 2) fa sp tb nm _ := h.tr
    refine pss_cons (ps_if (ht pn xe) (pss_cons ?_ pss_nil) pss_nil) (pss_cons ?_ pss_nil)
    · exact ps_raise h2.calm tw (pmk_own0 (X := X.tr pn xe) PySem.F.excBase_Exception k0.ex k0.gC k0.kC (raises_own k0.sb k0.ty) hg0 hd0)
    · exact ps_raise h2.calm tw (pmk_er (X := X.tr pn xe) T1 iC tI F1 (h2.room.mono (Nat.le_add_left 2 k)) bd passF hg1 (pa_cons (he pn xe) pa_nil hs1) hd1 hs1 hpl)
  · refine .as h.nd hi hln ⟨hgb, hdb, .inl gB⟩ (fun a oe cls d pn hz hf => ?_) .nil
    exact pss_one (ps_ret (pe_callB (call_isS TQ hz hf) hgi h.bt.isinstance (by decide +kernel) (pa_cons (pe_var hi hv hd hcd) (pa_cons (isX_pe (X := X.suite a ((a, oe) :: pn)) hm hgc hdc) pa_nil hs3) hs2) (by decide) (by decide) hs2 hpl2))
end
end Pv

set_option Elab.async false
set_option linter.all false
set_option maxRecDepth 100000
set_option maxHeartbeats 4000000
namespace Pv
open PySem L2

def fin (n : Nat) : Out → Option (D × Store)
  | .rt d S => some (d, S.take n)
  | .nx _ S => some (.non, S.take n)
  | _ => none
theorem callF_eq {P : Nat → Option Fn} {k f : Nat} {ws : List W} {S : Store} {q : Fn} (h : P f = some q) (h1 : ws.length = q.ar) (h2 : q.ar ≤ q.sl) :
    callF P (k + 1) f ws S = (evSs (callF P k) q.body (startE q.sl ws) S).bind (fin S.length) := by
  simp only [callF, h, Option.bind_some, if_pos (And.intro h1 h2)]
  cases evSs (callF P k) q.body (startE q.sl ws) S with
  | none => rfl
  | some o => cases o <;> rfl

theorem kB1 : kitB "int" "int" = some true := by decide +kernel
theorem kB2 : kitB "int" "bool" = some false := by decide +kernel
theorem kB5 : kitB "int" "tuple" = some false := by decide +kernel
theorem kB7 : kitB "bool" "bool" = some true := by decide +kernel
theorem kB10 : kitB "bool" "tuple" = some false := by decide +kernel
theorem kB11 : kitB "str" "int" = some false := by decide +kernel
theorem kB12 : kitB "str" "bool" = some false := by decide +kernel
theorem kB13 : kitB "str" "str" = some true := by decide +kernel
theorem kB15 : kitB "str" "tuple" = some false := by decide +kernel
theorem kB25 : kitB "tuple" "tuple" = some true := by decide +kernel
def finX (n : Nat) : Out → Option (D × Store)
  | .xc d S => some (d, S.take n)
  | _ => none
theorem callX_eq {P : Nat → Option Fn} {k f : Nat} {ws : List W} {S : Store} {q : Fn} (h : P f = some q) (h1 : ws.length = q.ar) (h2 : q.ar ≤ q.sl) :
    (callF P (k + 1)).x f ws S = (evSs (callF P k) q.body (startE q.sl ws) S).bind (finX S.length) := by
  simp only [callF, h, Option.bind_some, if_pos (And.intro h1 h2)]
  cases evSs (callF P k) q.body (startE q.sl ws) S with
  | none => rfl
  | some o => cases o <;> rfl
theorem rd_d {x : D} {S : Store} : rdW (.d x) S = some x := rfl
theorem rd_l {n : Nat} {S : Store} {ds : List D} (h : S[n]? = some (.lst ds)) : rdW (.mu n) S = some (.lst ds) := by simp [rdW, h]
theorem fz_d {x : D} {S : Store} : fzW (.d x) S = some (x, S) := rfl
theorem fz_l {n : Nat} {S : Store} {ds : List D} (h : S[n]? = some (.lst ds)) : fzW (.mu n) S = some (.lst ds, S.set n .dead) := by simp [fzW, h]
theorem lstAt_l {n : Nat} {S : Store} {ds : List D} (h : S[n]? = some (.lst ds)) : lstAt S n = some ds := by simp [lstAt, h]
theorem b_add {i j : Int} : bRun .add (.int i) (.int j) = some (.int (i + j)) := rfl
theorem b_sub {i j : Int} : bRun .sub (.int i) (.int j) = some (.int (i - j)) := rfl
theorem b_mul {i j : Int} (h1 : -18446744073709551616 < j) (h2 : j < 18446744073709551616) : bRun .mul (.int i) (.int j) = some (.int (i * j)) := if_pos (.inr ⟨h1, h2⟩)
theorem log2_wide {n : Nat} (h : n < 18446744073709551616) : n.log2 < 9000 := by
  rcases Nat.eq_zero_or_pos n with rfl | hp
  · decide
  · have h2 : n < 2 ^ 64 := by simpa using h
    have := (Nat.log2_lt (by omega : n ≠ 0)).mpr h2
    omega
theorem b_div {i j : Int} (h1 : 0 < j) (h2 : j < 18446744073709551616) : bRun .div (.int i) (.int j) = some (.int (i / j)) := if_pos ⟨h1, log2_wide (by omega)⟩
theorem b_mod {i j : Int} (h1 : 0 < j) : bRun .mod (.int i) (.int j) = some (.int (i % j)) := if_pos h1
theorem b_pow {i j : Int} (h : CPow i j) : bRun .pow (.int i) (.int j) = some (.int (i ^ j.toNat)) := if_pos h
theorem b_p18 : bRun .pow (.int 10) (.int 18) = some (.int 1000000000000000000) := (b_pow ⟨by decide, by decide, by decide⟩).trans (congrArg (fun x => some (D.int x)) (by decide : (10 : Int) ^ (18 : Int).toNat = 1000000000000000000))
theorem b_p8 : bRun .pow (.int 10) (.int 8) = some (.int 100000000) := (b_pow ⟨by decide, by decide, by decide⟩).trans (congrArg (fun x => some (D.int x)) (by decide : (10 : Int) ^ (8 : Int).toNat = 100000000))
theorem b_p7 : bRun .pow (.int 10) (.int 7) = some (.int 10000000) := (b_pow ⟨by decide, by decide, by decide⟩).trans (congrArg (fun x => some (D.int x)) (by decide : (10 : Int) ^ (7 : Int).toNat = 10000000))
theorem b_p6 : bRun .pow (.int 10) (.int 6) = some (.int 1000000) := (b_pow ⟨by decide, by decide, by decide⟩).trans (congrArg (fun x => some (D.int x)) (by decide : (10 : Int) ^ (6 : Int).toNat = 1000000))
theorem c_lt {i j : Int} : cRun .lt (.int i) (.int j) = some (decide (i < j)) := rfl
theorem c_le {i j : Int} : cRun .le (.int i) (.int j) = some (decide (i ≤ j)) := rfl
theorem c_gt {i j : Int} : cRun .gt (.int i) (.int j) = some (decide (j < i)) := rfl
theorem c_ge {i j : Int} : cRun .ge (.int i) (.int j) = some (decide (j ≤ i)) := rfl
theorem c_eq {i j : Int} : cRun .eq (.int i) (.int j) = some (decide (i = j)) := rfl
theorem c_ne {i j : Int} : cRun .ne (.int i) (.int j) = some (!decide (i = j)) := rfl
theorem c_eqs {i j : Str} : cRun .eq (.str i) (.str j) = some (decide (i = j)) := rfl
theorem c_nes {i j : Str} : cRun .ne (.str i) (.str j) = some (!decide (i = j)) := rfl
theorem c_nes0 {j : Str} : cRun .ne .non (.str j) = some true := rfl
theorem c_nes1 {j : Str} : cRun .ne (.str j) .non = some true := rfl
theorem c_eqs0 {j : Str} : cRun .eq .non (.str j) = some false := rfl
theorem c_eqs1 {j : Str} : cRun .eq (.str j) .non = some false := rfl
theorem l_t {ds : List D} : biRun .len [.tup ds] = some (.int ds.length) := rfl
theorem l_l {ds : List D} : biRun .len [.lst ds] = some (.int ds.length) := rfl
theorem bi_i {i : Int} : biRun .int [.int i] = some (.int i) := rfl
theorem bi_max {i j : Int} : biRun .max2 [.int i, .int j] = some (.int (if j > i then j else i)) := rfl
theorem bi_min {i j : Int} : biRun .min2 [.int i, .int j] = some (.int (if j < i then j else i)) := rfl
theorem bi_tl {ds : List D} : biRun .tuple [.lst ds] = some (.tup ds) := rfl
theorem bi_tt {ds : List D} : biRun .tuple [.tup ds] = some (.tup ds) := rfl
theorem ix_l {ds : List D} {i : Int} : ixRun (.lst ds) (.int i) = L2.atI ds i := rfl
theorem ix_t {ds : List D} {i : Int} : ixRun (.tup ds) (.int i) = L2.atI ds i := rfl
theorem m_nil {S : Store} : (([] : List W).mapM fun w => rdW w S) = some [] := rfl
theorem m_cons {S : Store} {w : W} {ws : List W} : ((w :: ws).mapM fun w => rdW w S) = (rdW w S).bind fun d => (ws.mapM fun w => rdW w S).map fun ds => d :: ds := by
  rw [List.mapM_cons]
  cases rdW w S with
  | none => rfl
  | some d => cases ws.mapM fun w => rdW w S <;> rfl
theorem at0 {x : D} {xs : List D} : L2.atI (x :: xs) 0 = some x := L2.atI_nat (j := 0) rfl
theorem at1 {x y : D} {xs : List D} : L2.atI (x :: y :: xs) 1 = some y := L2.atI_nat (j := 1) rfl
theorem at2 {x y z : D} {xs : List D} : L2.atI (x :: y :: z :: xs) 2 = some z := L2.atI_nat (j := 2) rfl
theorem ss_nx {c : Call} {s : Pv.S} {ss : Ss} {ρ ρ' : En} {S S' : Store} (e : evS c s ρ S = some (.nx ρ' S')) : evSs c (.cons s ss) ρ S = evSs c ss ρ' S' := by
  simp only [evSs, e, Option.bind_some]
theorem ss_0 {c : Call} {ρ : En} {S : Store} : evSs c .nil ρ S = some (.nx ρ S) := by simp only [evSs]
def Next (I : En → Store → Prop) (Z : Out → Prop) : Out → Prop
  | .nx ρ S => I ρ S
  | .ct ρ S => I ρ S
  | .bk ρ S => Z (.nx ρ S)
  | .rt d S => Z (.rt d S)
  | .xc d S => Z (.xc d S)
  | .rm n S => Z (.rm n S)
theorem forL_gen {f : D → En → Store → Option Out} {Z : Out → Prop} : ∀ {ds : List D} (I : Nat → En → Store → Prop) {ρ : En} {S : Store}, I 0 ρ S →
    (∀ (i : Nat) d ρ S, ds[i]? = some d → I i ρ S → ∃ o, f d ρ S = some o ∧ Next (I (i + 1)) Z o) → (∀ ρ S, I ds.length ρ S → Z (.nx ρ S)) → ∃ o, forL f ds ρ S = some o ∧ Z o
  | [], I, ρ, S, h0, _, he => ⟨_, rfl, he ρ S h0⟩
  | d :: ds, I, ρ, S, h0, hs, he => by
    obtain ⟨o, e, z⟩ := hs 0 d ρ S rfl h0
    have rec' : ∀ ρ' S', I 1 ρ' S' → ∃ o, forL f ds ρ' S' = some o ∧ Z o := fun ρ' S' h1 =>
      forL_gen (fun i => I (i + 1)) h1 (fun i d ρ S hd h => hs (i + 1) d ρ S (by simpa using hd) h) (fun ρ S h => he ρ S h)
    cases o with
    | nx ρ' S' => simpa only [forL, e, Option.bind_some] using rec' ρ' S' z
    | ct ρ' S' => simpa only [forL, e, Option.bind_some] using rec' ρ' S' z
    | bk ρ' S' => exact ⟨_, by simp only [forL, e, Option.bind_some], z⟩
    | rt r S' => exact ⟨_, by simp only [forL, e, Option.bind_some], z⟩
    | xc r S' => exact ⟨_, by simp only [forL, e, Option.bind_some], z⟩
    | rm r S' => exact ⟨_, by simp only [forL, e, Option.bind_some], z⟩
theorem x_for {c : Call} {tg : Tg} {it : It} {body : Ss} {ρ : En} {S S1 : Store} {ds : List D} {Z : Out → Prop} (hi : evI c it ρ S = some (ds, S1)) (I : Nat → En → Store → Prop) (h0 : I 0 ρ S1)
    (hs : ∀ (i : Nat) d ρ S, ds[i]? = some d → I i ρ S → ∃ ρ' o, asgn tg d ρ = some ρ' ∧ evSs c body ρ' S = some o ∧ Next (I (i + 1)) Z o) (he : ∀ ρ S, I ds.length ρ S → Z (.nx ρ S)) : ∃ o, evS c (.forS tg it body) ρ S = some o ∧ Z o := by
  simp only [evS, hi, Option.bind_some]
  refine forL_gen I h0 (fun i d ρ S hd h => ?_) he
  obtain ⟨ρ', o, e1, e2, z⟩ := hs i d ρ S hd h
  exact ⟨o, by rw [e1]; exact e2, z⟩
inductive All2 {α β : Type} (R : α → β → Prop) : List α → List β → Prop
  | nil : All2 R [] []
  | cons {a : α} {b : β} {as : List α} {bs : List β} : R a b → All2 R as bs → All2 R (a :: as) (b :: bs)
theorem All2.length {α β : Type} {R : α → β → Prop} : ∀ {as : List α} {bs : List β}, All2 R as bs → as.length = bs.length
  | _, _, .nil => rfl
  | _, _, .cons _ t => by simp [All2.length t]
theorem All2.get {α β : Type} {R : α → β → Prop} : ∀ {as : List α} {bs : List β} {i : Nat} {b : β}, All2 R as bs → bs[i]? = some b → ∃ a, as[i]? = some a ∧ R a b
  | _, _, _, _, .nil, e => by simp at e
  | _, _, 0, _, .cons h _, e => by simp at e; subst e; exact ⟨_, rfl, h⟩
  | _, _, i + 1, _, .cons _ t, e => by
    obtain ⟨a, h1, h2⟩ := All2.get (i := i) t (by simpa using e)
    exact ⟨a, by simpa using h1, h2⟩
theorem All2.imp {α β : Type} {R R' : α → β → Prop} (h : ∀ a b, R a b → R' a b) : ∀ {as : List α} {bs : List β}, All2 R as bs → All2 R' as bs
  | _, _, .nil => .nil
  | _, _, .cons x t => .cons (h _ _ x) (All2.imp h t)
theorem All2.of_map {α β : Type} {R : α → β → Prop} {g : β → α} : ∀ {bs : List β}, (∀ b ∈ bs, R (g b) b) → All2 R (bs.map g) bs
  | [], _ => .nil
  | b :: bs, h => .cons (h b List.mem_cons_self) (All2.of_map fun b hb => h b (List.mem_cons_of_mem _ hb))
theorem callF_b {P : Nat → Option Fn} {k f a s : Nat} {b : Ss} {ws : List W} {S : Store} (h : P f = some ⟨a, s, b⟩) (h1 : ws.length = a) (h2 : a ≤ s) : callF P (k + 1) f ws S = (evSs (callF P k) b (startE s ws) S).bind (fin S.length) :=
  callF_eq h h1 h2
theorem x_ift {c : Call} {t : T} {a b : Ss} {ρ : En} {S S1 : Store} {r : Option Out} (e : evT c t ρ S = some (true, S1)) (h : evSs c a ρ S1 = r) : evS c (.ifs t a b) ρ S = r := by
  simp only [evS, e, Option.bind_some, if_true, h]
theorem x_iff {c : Call} {t : T} {a b : Ss} {ρ : En} {S S1 : Store} {r : Option Out} (e : evT c t ρ S = some (false, S1)) (h : evSs c b ρ S1 = r) : evS c (.ifs t a b) ρ S = r := by
  simp only [evS, e, Option.bind_some, Bool.false_eq_true, if_false, h]
theorem p62 : (2 : Int) ^ 62 = 4611686018427387904 := by decide
theorem x_r1 {c : Call} {a : E} {ρ : En} {S S1 : Store} {j : Int} (h : evE c a ρ S = some (.d (.int j), S1)) (h1 : -4611686018427387904 ≤ j) (h2 : j < 4611686018427387904) : evI c (.r1 a) ρ S = some (rangeD 0 j.toNat, S1) := by
  simp only [evI, h, Option.bind_some]
  exact if_pos ⟨by rw [p62]; exact h1, by rw [p62]; exact h2⟩
theorem x_rn {c : Call} {a : E} {ρ : En} {S S1 : Store} {j : Int} (n : Nat) (h : evE c a ρ S = some (.d (.int j), S1)) (hj : j = (n : Int)) (h2 : n < 4611686018427387904) : evI c (.r1 a) ρ S = some (rangeD 0 n, S1) := by
  subst hj
  have := x_r1 h (by omega) (by omega)
  rw [this]
  rfl
end Pv

set_option Elab.async false
set_option linter.all false
set_option maxRecDepth 100000
set_option maxHeartbeats 4000000
namespace Pv
open PySem L2
def B_law_so (i_law_so : Nat) : Ss := .cons (.ifs (.val (.isN (.var 1))) (.cons (.ret (.isN (.var 0))) (.nil)) (.nil)) (.cons (.ifs (.val (.isi1 (.var 1) "tuple")) (.cons (.ifs (.or (.not (.val (.isi1 (.var 0) "tuple"))) (.val (.cmp .ne (.bi .len (.cons (.var 0) (.nil))) (.bi .len (.cons (.var 1) (.nil)))))) (.cons (.ret (.cst (.bl false))) (.nil)) (.nil)) (.cons (.forS (.name 2) (.r1 (.bi .len (.cons (.var 1) (.nil)))) (.cons (.ifs (.not (.val (.call i_law_so (.cons (.ix (.var 0) (.var 2)) (.cons (.ix (.var 1) (.var 2)) (.nil)))))) (.cons (.ret (.cst (.bl false))) (.nil)) (.nil)) (.nil))) (.cons (.ret (.cst (.bl true))) (.nil)))) (.nil)) (.cons (.ifs (.or (.val (.isi1 (.var 1) "bool")) (.val (.isi1 (.var 0) "bool"))) (.cons (.ret (.and (.isi1 (.var 1) "bool") (.and (.isi1 (.var 0) "bool") (.cmp .eq (.var 0) (.var 1))))) (.nil)) (.nil)) (.cons (.ifs (.val (.isi1 (.var 1) "int")) (.cons (.ret (.and (.isi1 (.var 0) "int") (.cmp .eq (.var 0) (.var 1)))) (.nil)) (.nil)) (.cons (.ret (.and (.isi1 (.var 1) "str") (.and (.isi1 (.var 0) "str") (.cmp .eq (.var 0) (.var 1))))) (.nil)))))
def B_law_numbers : Ss := .cons (.newL 1 (.nil)) (.cons (.forS (.name 2) (.seq (.sl (.var 0) (.none) (.some (.cst (.int 63))))) (.cons (.ifs (.val (.cmp .ge (.var 2) (.bin .pow (.cst (.int 10)) (.cst (.int 18))))) (.cons (.asg (.name 3) (.var 2)) (.cons (.forS (.name 4) (.r1 (.cst (.int 60))) (.cons (.ifs (.val (.cmp .eq (.var 3) (.cst (.int 0)))) (.cons (.brk) (.nil)) (.nil)) (.cons (.app 1 (.bin .mod (.bi .int (.cons (.var 3) (.nil))) (.cst (.int 997)))) (.cons (.asg (.name 3) (.bin .div (.var 3) (.cst (.int 997)))) (.nil))))) (.nil))) (.cons (.forS (.name 4) (.r1 (.cst (.int 4))) (.cons (.asg (.name 5) (.bin .mod (.bi .int (.cons (.bin .add (.bin .add (.bin .mul (.var 2) (.cst (.int 48271))) (.bin .mul (.var 4) (.cst (.int 69621)))) (.cst (.int 11))) (.nil))) (.cst (.int 2147483647)))) (.cons (.app 1 (.bin .mod (.bi .int (.cons (.bin .add (.bin .mul (.var 5) (.cst (.int 16807))) (.var 4)) (.nil))) (.cst (.int 2147483629)))) (.nil)))) (.nil))) (.nil))) (.cons (.ifs (.val (.cmp .eq (.bi .len (.cons (.var 1) (.nil))) (.cst (.int 0)))) (.cons (.app 1 (.cst (.int 0))) (.nil)) (.nil)) (.cons (.ret (.var 1)) (.nil))))
def B_law_draw : Ss := .cons (.ifs (.val (.cmp .lt (.var 1) (.bi .len (.cons (.var 0) (.nil))))) (.cons (.ret (.bin .mod (.bi .int (.cons (.ix (.var 0) (.var 1)) (.nil))) (.var 2))) (.nil)) (.nil)) (.cons (.asg (.name 3) (.bin .mod (.bi .int (.cons (.bin .add (.bin .add (.bin .mul (.ix (.var 0) (.bin .mod (.bi .int (.cons (.var 1) (.nil))) (.bi .len (.cons (.var 0) (.nil))))) (.cst (.int 40692))) (.bin .mul (.var 1) (.cst (.int 7919)))) (.cst (.int 3))) (.nil))) (.cst (.int 2147483399)))) (.cons (.ret (.bin .mod (.bi .int (.cons (.bin .mod (.bi .int (.cons (.bin .add (.bin .mul (.var 3) (.cst (.int 48271))) (.var 1)) (.nil))) (.cst (.int 2147483647))) (.nil))) (.var 2))) (.nil)))
def B_law_take (i_law_draw : Nat) : Ss := .cons (.setL 1 (.cst (.int 0)) (.bin .add (.ix (.var 1) (.cst (.int 0))) (.cst (.int 1)))) (.cons (.ret (.call i_law_draw (.cons (.var 0) (.cons (.bin .sub (.ix (.var 1) (.cst (.int 0))) (.cst (.int 1))) (.cons (.var 2) (.nil)))))) (.nil))
def B_law_pick (i_law_take : Nat) : Ss := .cons (.ret (.ix (.var 2) (.call i_law_take (.cons (.var 0) (.cons (.var 1) (.cons (.bi .len (.cons (.var 2) (.nil))) (.nil))))))) (.nil)
section
variable {P : Nat → Option Fn} {k f : Nat} {S : Store}
theorem sizeLine_val : sizeLine = 16777216 := rfl
theorem atI_map {ns : List Int} {i : Int} (h0 : 0 ≤ i) (h1 : i < ns.length) : L2.atI (ns.map D.int) i = some (.int (ns.getD i.toNat 0)) := by
  have hj : i.toNat < ns.length := by omega
  have q : (ns.map D.int)[i.toNat]? = some (.int (ns.getD i.toNat 0)) := by simp [List.getElem?_map, hj]
  have e : i = (i.toNat : Int) := by omega
  rw [e]
  exact L2.atI_nat q
def drawI (ns : List Int) (i lim : Int) : Int :=
  if i < ns.length then ns.getD i.toNat 0 % lim else ((ns.getD (i % (ns.length : Int)).toNat 0 * 40692 + i * 7919 + 3) % 2147483399 * 48271 + i) % 2147483647 % lim
theorem drawI_nn {ns : List Int} {i lim : Int} (h : 0 < lim) : 0 ≤ drawI ns i lim := by
  unfold drawI
  split
  · exact Int.emod_nonneg _ (by omega)
  · exact Int.emod_nonneg _ (by omega)
theorem drawI_lt {ns : List Int} {i lim : Int} (h : 0 < lim) : drawI ns i lim < lim := by
  unfold drawI
  split
  · exact Int.emod_lt_of_pos _ h
  · exact Int.emod_lt_of_pos _ h
theorem draw_eq {ns : List Int} {i lim : Int} (hP : P f = some ⟨3, 4, B_law_draw⟩) (hne : ns ≠ []) (hi : 0 ≤ i) (hl : 0 < lim) :
    callF P (k + 1) f [.d (.lst (ns.map .int)), .d (.int i), .d (.int lim)] S = some (.int (drawI ns i lim), S) := by
  have hpos : 0 < ns.length := List.length_pos_iff.mpr hne
  rw [callF_b hP rfl (by decide)]
  show (evSs (callF P k) B_law_draw [some (.d (.lst (ns.map .int))), some (.d (.int i)), some (.d (.int lim)), none] S).bind _ = _
  by_cases h : i < ns.length
  · simp [B_law_draw, evSs, evS, evE, evEs, evZ, evO, evI, evT, evTo, rd_d, fz_d, b_add, b_sub, b_mul, b_div, b_mod, b_p18, b_p8, b_p7, b_p6, c_lt, c_le, c_gt, c_ge, c_eq, c_ne, c_eqs, c_nes, c_nes0, c_nes1, c_eqs0, c_eqs1, l_t, l_l, bi_i, bi_max, bi_min, bi_tl, bi_tt, ix_l, ix_t, m_nil, m_cons, at0, at1, at2, flatD, seqOf, isNonW, fin, evX, atI_map hi h, h, hl, drawI]
  · have h0 : 0 ≤ i % (ns.length : Int) := Int.emod_nonneg _ (by omega)
    have h1 : i % (ns.length : Int) < ns.length := Int.emod_lt_of_pos _ (by omega)
    simp [B_law_draw, evSs, evS, evE, evEs, evZ, evO, evI, evT, evTo, rd_d, fz_d, b_add, b_sub, b_mul, b_div, b_mod, b_p18, b_p8, b_p7, b_p6, c_lt, c_le, c_gt, c_ge, c_eq, c_ne, c_eqs, c_nes, c_nes0, c_nes1, c_eqs0, c_eqs1, l_t, l_l, bi_i, bi_max, bi_min, bi_tl, bi_tt, ix_l, ix_t, m_nil, m_cons, at0, at1, at2, flatD, seqOf, isNonW, fin, evX, atI_map h0 h1, h, hl, hpos, drawI]
theorem take_eq {d n : Nat} {ns : List Int} {i lim : Int} (hP : P f = some ⟨3, 3, B_law_take d⟩) (hD : P d = some ⟨3, 4, B_law_draw⟩) (hne : ns ≠ []) (hi : 0 ≤ i) (hl : 0 < lim) (hS : S[n]? = some (.lst [.int i])) :
    callF P (k + 2) f [.d (.lst (ns.map .int)), .mu n, .d (.int lim)] S = some (.int (drawI ns i lim), S.set n (.lst [.int (i + 1)])) := by
  have hn : n < S.length := (List.getElem?_eq_some_iff.mp hS).1
  rw [callF_eq hP rfl (Nat.le_refl 3)]
  show (evSs (callF P (k + 1)) (B_law_take d) [some (.d (.lst (ns.map .int))), some (.mu n), some (.d (.int lim))] S).bind _ = _
  have e1 : L2.ixN 1 0 = some 0 := by decide
  have hS2 : (S.set n (.lst [.int (i + 1)]))[n]? = some (.lst [.int (i + 1)]) := List.getElem?_set_self hn
  have e4 : i + 1 - 1 = i := by omega
  simp [B_law_take, evSs, evS, evE, evEs, evZ, evO, evI, evT, evTo, rd_d, fz_d, b_add, b_sub, b_mul, b_div, b_mod, b_p18, b_p8, b_p7, b_p6, c_lt, c_le, c_gt, c_ge, c_eq, c_ne, c_eqs, c_nes, c_nes0, c_nes1, c_eqs0, c_eqs1, l_t, l_l, bi_i, bi_max, bi_min, bi_tl, bi_tt, ix_l, ix_t, m_nil, m_cons, at0, at1, at2, flatD, seqOf, isNonW, fin, evX, rd_l hS, lstAt_l hS, hn, e1, e4, draw_eq hD hne hi hl, rd_l hS2, List.take_of_length_le]

def Sp (S0 : Store) (n : Nat) (S : Store) : Prop := ∃ i : Int, 0 ≤ i ∧ S = S0.set n (.lst [.int i])
theorem Sp.at {S0 S : Store} {n : Nat} (h : Sp S0 n S) (hn : n < S0.length) : ∃ i : Int, 0 ≤ i ∧ S[n]? = some (.lst [.int i]) ∧ ∀ x, S.set n x = S0.set n x := by
  obtain ⟨i, hi, rfl⟩ := h
  exact ⟨i, hi, List.getElem?_set_self hn, fun x => List.set_set ..⟩
structure Row (r : D) : Prop where
  ex : ∃ ns : List Int, ns ≠ [] ∧ r = .lst (ns.map .int)
theorem take_ex {d n : Nat} {r : D} {lim : Int} {S0 : Store} (hP : P f = some ⟨3, 3, B_law_take d⟩) (hD : P d = some ⟨3, 4, B_law_draw⟩) (hr : Row r) (hn : n < S0.length) (hS : Sp S0 n S) (hl : 0 < lim) :
    ∃ t S', callF P (k + 2) f [.d r, .mu n, .d (.int lim)] S = some (.int t, S') ∧ 0 ≤ t ∧ t < lim ∧ Sp S0 n S' := by
  obtain ⟨ns, hne, rfl⟩ := hr.ex
  obtain ⟨i, hi, e, st⟩ := hS.at hn
  exact ⟨_, _, take_eq hP hD hne hi hl e, drawI_nn hl, drawI_lt hl, i + 1, by omega, st _⟩
theorem atI_ok {ds : List D} {t : Int} (h0 : 0 ≤ t) (h1 : t < ds.length) : ∃ x ∈ ds, L2.atI ds t = some x := by
  have hj : t.toNat < ds.length := by omega
  have q : L2.atI ds (t.toNat : Int) = some ds[t.toNat] := L2.atI_nat (List.getElem?_eq_getElem hj)
  refine ⟨ds[t.toNat], List.getElem_mem hj, ?_⟩
  rw [← q]
  congr 1
  omega
theorem pick_ex {g d n : Nat} {r x : D} {ds : List D} {S0 : Store} (hK : P f = some ⟨3, 3, B_law_pick g⟩) (hP : P g = some ⟨3, 3, B_law_take d⟩) (hD : P d = some ⟨3, 4, B_law_draw⟩) (hr : Row r) (hn : n < S0.length) (hS : Sp S0 n S)
    (hx : x = .lst ds ∨ x = .tup ds) (hne : ds ≠ []) : ∃ y S', callF P (k + 3) f [.d r, .mu n, .d x] S = some (y, S') ∧ y ∈ ds ∧ Sp S0 n S' := by
  have hpos : 0 < ds.length := List.length_pos_iff.mpr hne
  obtain ⟨t, S1, e1, h0, h1, p1⟩ := take_ex (k := k) (lim := ds.length) hP hD hr hn hS (by omega)
  have hlen : S1.length = S.length := by
    obtain ⟨_, _, rfl⟩ := p1
    obtain ⟨_, _, rfl⟩ := hS
    simp
  obtain ⟨y, hy, ey⟩ := atI_ok h0 h1
  refine ⟨y, S1, ?_, hy, p1⟩
  rw [callF_eq hK rfl (Nat.le_refl 3)]
  show (evSs (callF P (k + 2)) (B_law_pick g) [some (.d r), some (.mu n), some (.d x)] S).bind _ = _
  rcases hx with rfl | rfl
  · simp [B_law_pick, evSs, evS, evE, evEs, evZ, evO, evI, evT, evTo, rd_d, fz_d, b_add, b_sub, b_mul, b_div, b_mod, b_p18, b_p8, b_p7, b_p6, c_lt, c_le, c_gt, c_ge, c_eq, c_ne, c_eqs, c_nes, c_nes0, c_nes1, c_eqs0, c_eqs1, l_t, l_l, bi_i, bi_max, bi_min, bi_tl, bi_tt, ix_l, ix_t, m_nil, m_cons, at0, at1, at2, flatD, seqOf, isNonW, fin, evX, e1, ey, List.take_of_length_le, hlen]
  · simp [B_law_pick, evSs, evS, evE, evEs, evZ, evO, evI, evT, evTo, rd_d, fz_d, b_add, b_sub, b_mul, b_div, b_mod, b_p18, b_p8, b_p7, b_p6, c_lt, c_le, c_gt, c_ge, c_eq, c_ne, c_eqs, c_nes, c_nes0, c_nes1, c_eqs0, c_eqs1, l_t, l_l, bi_i, bi_max, bi_min, bi_tl, bi_tt, ix_l, ix_t, m_nil, m_cons, at0, at1, at2, flatD, seqOf, isNonW, fin, evX, e1, ey, List.take_of_length_le, hlen]

def Tv : Nat → D → Bool
  | n + 1, .tup ds => decide (ds.length ≤ sizeLine) && ds.all (Tv n)
  | _, d => flatD d
def Lk : Nat → D → D → Prop
  | n + 1, d', .tup ds => ∃ ds', (d' = .lst ds' ∨ d' = .tup ds') ∧ All2 (Lk n) ds' ds
  | _, d', d => d' = d
theorem Lk.refl : ∀ (n : Nat) (d : D), Lk n d d
  | 0, d => by simp only [Lk]
  | n + 1, d => by
    cases d <;> simp only [Lk]
    case tup ds =>
      have e : ds.map id = ds := List.map_id ds
      refine ⟨ds, .inr rfl, ?_⟩
      have := All2.of_map (R := Lk n) (g := id) (bs := ds) fun b _ => Lk.refl n b
      rw [e] at this
      exact this
theorem isi_tup {ds : List D} : isi1 (.tup ds) "tuple" = some true := by simp [isi1, tyD, kB25]
end
end Pv

set_option Elab.async false
set_option linter.all false
set_option maxRecDepth 100000
set_option maxHeartbeats 1000000
namespace Pv
open PySem L2
def IB1 : Ss := .cons (.ifs (.val (.cmp .eq (.var 3) (.cst (.int 0)))) (.cons (.brk) (.nil)) (.nil)) (.cons (.app 1 (.bin .mod (.bi .int (.cons (.var 3) (.nil))) (.cst (.int 997)))) (.cons (.asg (.name 3) (.bin .div (.var 3) (.cst (.int 997)))) (.nil)))
def IB2 : Ss := .cons (.asg (.name 5) (.bin .mod (.bi .int (.cons (.bin .add (.bin .add (.bin .mul (.var 2) (.cst (.int 48271))) (.bin .mul (.var 4) (.cst (.int 69621)))) (.cst (.int 11))) (.nil))) (.cst (.int 2147483647)))) (.cons (.app 1 (.bin .mod (.bi .int (.cons (.bin .add (.bin .mul (.var 5) (.cst (.int 16807))) (.var 4)) (.nil))) (.cst (.int 2147483629)))) (.nil))
def OB : Ss := .cons (.ifs (.val (.cmp .ge (.var 2) (.bin .pow (.cst (.int 10)) (.cst (.int 18))))) (.cons (.asg (.name 3) (.var 2)) (.cons (.forS (.name 4) (.r1 (.cst (.int 60))) IB1) (.nil))) (.cons (.forS (.name 4) (.r1 (.cst (.int 4))) IB2) (.nil))) (.nil)
section
variable {P : Nat → Option Fn} {k f : Nat} {S0 : Store} {c : Call} {ns : List Int}
def NumI (ns : List Int) (S0 : Store) (N : Nat) (ρ : En) (S : Store) : Prop :=
  ∃ (a b c d : Option W) (ms : List Int), ρ = [some (.d (.scr ns)), some (.mu S0.length), a, b, c, d] ∧ S = S0 ++ [.lst (ms.map .int)] ∧ ms.length ≤ N
theorem get_last {S0 : Store} {x : MO} : (S0 ++ [x])[S0.length]? = some x := by simp
theorem set_last {S0 : Store} {x y : MO} : (S0 ++ [x]).set S0.length y = S0 ++ [y] := by simp
theorem x_appN {e : E} {ρ : En} {ms : List Int} {z : Int} (h1 : ρ[1]? = some (some (.mu S0.length))) (hl : ms.length < 16777216) (he : evE c e ρ (S0 ++ [.lst (ms.map .int)]) = some (.d (.int z), S0 ++ [.lst (ms.map .int)])) :
    evS c (.app 1 e) ρ (S0 ++ [.lst (ms.map .int)]) = some (.nx ρ (S0 ++ [.lst ((ms ++ [z]).map .int)])) := by
  have hl' : (ms.map D.int).length < sizeLine := by rw [sizeLine_val]; simpa using hl
  simp only [evS, h1, lstAt_l get_last, he, Option.bind_some, fz_d, if_pos hl', set_last, List.map_append, List.map_cons, List.map_nil]
theorem n_1 {z : Int} {i : Nat} {a b d : Option W} {ms : List Int} (hl : ms.length ≤ 60 * i) (hi : i < 63) : ∃ ρ' S', evS c (.forS (.name 4) (.r1 (.cst (.int 60))) IB1) [some (.d (.scr ns)), some (.mu S0.length), some (.d (.int z)), some (.d (.int z)), b, d] (S0 ++ [.lst (ms.map .int)]) = some (.nx ρ' S') ∧ NumI ns S0 (60 * (i + 1)) ρ' S' := by
  have loop := x_for (c := c) (tg := .name 4) (it := .r1 (.cst (.int 60))) (ρ := [some (.d (.scr ns)), some (.mu S0.length), some (.d (.int z)), some (.d (.int z)), b, d]) (S := S0 ++ [.lst (ms.map .int)]) (S1 := S0 ++ [.lst (ms.map .int)]) (ds := rangeD 0 60)
    (body := IB1) (Z := fun o => ∃ ρ' S', o = .nx ρ' S' ∧ NumI ns S0 (60 * (i + 1)) ρ' S') (x_rn (j := 60) _ (by simp only [evE, flatD, if_true]) rfl (by decide))
    (fun j ρ' S' => ∃ (y : Int) (b d : Option W) (ms' : List Int), ρ' = [some (.d (.scr ns)), some (.mu S0.length), some (.d (.int z)), some (.d (.int y)), b, d] ∧ S' = S0 ++ [.lst (ms'.map .int)] ∧ ms'.length ≤ 60 * i + j) ⟨z, b, d, ms, rfl, rfl, hl⟩ ?_ ?_
  · obtain ⟨o, e2, ρ', S', rfl, q⟩ := loop
    exact ⟨ρ', S', e2, q⟩
  · rintro j x ρ S' hj ⟨y, b, d, ms', rfl, rfl, hl'⟩
    have hj60 : j < 60 := (rangeD_get hj).1
    by_cases hy : y = 0
    · subst hy
      refine ⟨_, .bk [some (.d (.scr ns)), some (.mu S0.length), some (.d (.int z)), some (.d (.int 0)), some (.d x), d] (S0 ++ [.lst (ms'.map .int)]), rfl, ?_, ?_⟩
      · simp [IB1, evSs, evS, evE, evEs, evZ, evO, evI, evT, evTo, rd_d, fz_d, b_add, b_sub, b_mul, b_div, b_mod, b_p18, b_p8, b_p7, b_p6, c_lt, c_le, c_gt, c_ge, c_eq, c_ne, c_eqs, c_nes, c_nes0, c_nes1, c_eqs0, c_eqs1, l_t, l_l, bi_i, bi_max, bi_min, bi_tl, bi_tt, ix_l, ix_t, m_nil, m_cons, at0, at1, at2, flatD, seqOf, isNonW, fin, evX]
      · exact ⟨_, _, rfl, _, _, _, _, ms', rfl, rfl, by omega⟩
    · refine ⟨_, .nx [some (.d (.scr ns)), some (.mu S0.length), some (.d (.int z)), some (.d (.int (y / 997))), some (.d x), d] (S0 ++ [.lst ((ms' ++ [y % 997]).map .int)]), rfl, ?_, ?_⟩
      · unfold IB1
        rw [ss_nx (ρ' := [some (.d (.scr ns)), some (.mu S0.length), some (.d (.int z)), some (.d (.int y)), some (.d x), d]) (S' := S0 ++ [.lst (ms'.map .int)]) (x_iff (S1 := S0 ++ [.lst (ms'.map .int)]) (by simp [evSs, evS, evE, evEs, evZ, evO, evI, evT, evTo, rd_d, fz_d, b_add, b_sub, b_mul, b_div, b_mod, b_p18, b_p8, b_p7, b_p6, c_lt, c_le, c_gt, c_ge, c_eq, c_ne, c_eqs, c_nes, c_nes0, c_nes1, c_eqs0, c_eqs1, l_t, l_l, bi_i, bi_max, bi_min, bi_tl, bi_tt, ix_l, ix_t, m_nil, m_cons, at0, at1, at2, flatD, seqOf, isNonW, fin, evX, hy]) ss_0)]
        rw [ss_nx (x_appN (ms := ms') (z := y % 997) rfl (by omega) (by simp [evSs, evS, evE, evEs, evZ, evO, evI, evT, evTo, rd_d, fz_d, b_add, b_sub, b_mul, b_div, b_mod, b_p18, b_p8, b_p7, b_p6, c_lt, c_le, c_gt, c_ge, c_eq, c_ne, c_eqs, c_nes, c_nes0, c_nes1, c_eqs0, c_eqs1, l_t, l_l, bi_i, bi_max, bi_min, bi_tl, bi_tt, ix_l, ix_t, m_nil, m_cons, at0, at1, at2, flatD, seqOf, isNonW, fin, evX]))]
        simp [evSs, evS, evE, evEs, evZ, evO, evI, evT, evTo, rd_d, fz_d, b_add, b_sub, b_mul, b_div, b_mod, b_p18, b_p8, b_p7, b_p6, c_lt, c_le, c_gt, c_ge, c_eq, c_ne, c_eqs, c_nes, c_nes0, c_nes1, c_eqs0, c_eqs1, l_t, l_l, bi_i, bi_max, bi_min, bi_tl, bi_tt, ix_l, ix_t, m_nil, m_cons, at0, at1, at2, flatD, seqOf, isNonW, fin, evX]
      · exact ⟨_, _, _, _, rfl, rfl, by simp; omega⟩
  · rintro ρ S' ⟨y, b, d, ms', rfl, rfl, hl'⟩
    rw [rangeD_length] at hl'
    exact ⟨_, _, rfl, _, _, _, _, ms', rfl, rfl, by omega⟩
theorem n_2s {z q : Int} {a d : Option W} {ms' : List Int} (hl : ms'.length < 16777216) : evSs c IB2 [some (.d (.scr ns)), some (.mu S0.length), some (.d (.int z)), a, some (.d (.int q)), d] (S0 ++ [.lst (ms'.map .int)]) =
    some (.nx [some (.d (.scr ns)), some (.mu S0.length), some (.d (.int z)), a, some (.d (.int q)), some (.d (.int ((z * 48271 + q * 69621 + 11) % 2147483647)))] (S0 ++ [.lst ((ms' ++ [((z * 48271 + q * 69621 + 11) % 2147483647 * 16807 + q) % 2147483629]).map .int)])) := by
  have e1 : evS c (.asg (.name 5) (.bin .mod (.bi .int (.cons (.bin .add (.bin .add (.bin .mul (.var 2) (.cst (.int 48271))) (.bin .mul (.var 4) (.cst (.int 69621)))) (.cst (.int 11))) (.nil))) (.cst (.int 2147483647)))) [some (.d (.scr ns)), some (.mu S0.length), some (.d (.int z)), a, some (.d (.int q)), d] (S0 ++ [.lst (ms'.map .int)]) = some (.nx [some (.d (.scr ns)), some (.mu S0.length), some (.d (.int z)), a, some (.d (.int q)), some (.d (.int ((z * 48271 + q * 69621 + 11) % 2147483647)))] (S0 ++ [.lst (ms'.map .int)])) := by
    simp [evSs, evS, evE, evEs, evZ, evO, evI, evT, evTo, rd_d, fz_d, b_add, b_sub, b_mul, b_div, b_mod, b_p18, b_p8, b_p7, b_p6, c_lt, c_le, c_gt, c_ge, c_eq, c_ne, c_eqs, c_nes, c_nes0, c_nes1, c_eqs0, c_eqs1, l_t, l_l, bi_i, bi_max, bi_min, bi_tl, bi_tt, ix_l, ix_t, m_nil, m_cons, at0, at1, at2, flatD, seqOf, isNonW, fin, evX]
  generalize (z * 48271 + q * 69621 + 11) % 2147483647 = u at e1 ⊢
  have e2 : evE c (.bin .mod (.bi .int (.cons (.bin .add (.bin .mul (.var 5) (.cst (.int 16807))) (.var 4)) (.nil))) (.cst (.int 2147483629))) [some (.d (.scr ns)), some (.mu S0.length), some (.d (.int z)), a, some (.d (.int q)), some (.d (.int u))] (S0 ++ [.lst (ms'.map .int)]) = some (.d (.int ((u * 16807 + q) % 2147483629)), (S0 ++ [.lst (ms'.map .int)])) := by
    simp [evSs, evS, evE, evEs, evZ, evO, evI, evT, evTo, rd_d, fz_d, b_add, b_sub, b_mul, b_div, b_mod, b_p18, b_p8, b_p7, b_p6, c_lt, c_le, c_gt, c_ge, c_eq, c_ne, c_eqs, c_nes, c_nes0, c_nes1, c_eqs0, c_eqs1, l_t, l_l, bi_i, bi_max, bi_min, bi_tl, bi_tt, ix_l, ix_t, m_nil, m_cons, at0, at1, at2, flatD, seqOf, isNonW, fin, evX]
  unfold IB2
  rw [ss_nx e1, ss_nx (x_appN (ms := ms') rfl hl e2), ss_0]
theorem n_2 {z : Int} {i : Nat} {a b d : Option W} {ms : List Int} (hl : ms.length ≤ 60 * i) (hi : i < 63) : ∃ ρ' S', evS c (.forS (.name 4) (.r1 (.cst (.int 4))) IB2) [some (.d (.scr ns)), some (.mu S0.length), some (.d (.int z)), a, b, d] (S0 ++ [.lst (ms.map .int)]) = some (.nx ρ' S') ∧ NumI ns S0 (60 * (i + 1)) ρ' S' := by
  have loop := x_for (c := c) (tg := .name 4) (it := .r1 (.cst (.int 4))) (ρ := [some (.d (.scr ns)), some (.mu S0.length), some (.d (.int z)), a, b, d]) (S := S0 ++ [.lst (ms.map .int)]) (S1 := S0 ++ [.lst (ms.map .int)]) (ds := rangeD 0 4)
    (body := IB2) (Z := fun o => ∃ ρ' S', o = .nx ρ' S' ∧ NumI ns S0 (60 * (i + 1)) ρ' S') (x_rn (j := 4) _ (by simp only [evE, flatD, if_true]) rfl (by decide))
    (fun j ρ' S' => ∃ (a b d : Option W) (ms' : List Int), ρ' = [some (.d (.scr ns)), some (.mu S0.length), some (.d (.int z)), a, b, d] ∧ S' = S0 ++ [.lst (ms'.map .int)] ∧ ms'.length ≤ 60 * i + j) ⟨a, b, d, ms, rfl, rfl, hl⟩ ?_ ?_
  · obtain ⟨o, e2, ρ', S', rfl, q⟩ := loop
    exact ⟨ρ', S', e2, q⟩
  · rintro j x ρ S' hj ⟨a, b, d, ms', rfl, rfl, hl'⟩
    obtain ⟨hj4, rfl⟩ := rangeD_get hj
    refine ⟨_, _, rfl, n_2s (by omega), ?_⟩
    exact ⟨_, _, _, _, rfl, rfl, by simp; omega⟩
  · rintro ρ S' ⟨a, b, d, ms', rfl, rfl, hl'⟩
    rw [rangeD_length] at hl'
    exact ⟨_, _, rfl, _, _, _, _, ms', rfl, rfl, by omega⟩
theorem n_o {z : Int} {i : Nat} {b c' d : Option W} {ms : List Int} (hl : ms.length ≤ 60 * i) (hi : i < 63) : ∃ ρ' S', evSs c OB [some (.d (.scr ns)), some (.mu S0.length), some (.d (.int z)), b, c', d] (S0 ++ [.lst (ms.map .int)]) = some (.nx ρ' S') ∧ NumI ns S0 (60 * (i + 1)) ρ' S' := by
  by_cases hz : 1000000000000000000 ≤ z
  · obtain ⟨ρ', S', e, q⟩ := n_1 (c := c) (ns := ns) (S0 := S0) (z := z) (a := none) (b := c') (d := d) hl hi
    refine ⟨ρ', S', ?_, q⟩
    have e1 : evT c (.val (.cmp .ge (.var 2) (.bin .pow (.cst (.int 10)) (.cst (.int 18))))) [some (.d (.scr ns)), some (.mu S0.length), some (.d (.int z)), b, c', d] (S0 ++ [.lst (ms.map .int)]) = some (true, S0 ++ [.lst (ms.map .int)]) := by
      simp [evSs, evS, evE, evEs, evZ, evO, evI, evT, evTo, rd_d, fz_d, b_add, b_sub, b_mul, b_div, b_mod, b_p18, b_p8, b_p7, b_p6, c_lt, c_le, c_gt, c_ge, c_eq, c_ne, c_eqs, c_nes, c_nes0, c_nes1, c_eqs0, c_eqs1, l_t, l_l, bi_i, bi_max, bi_min, bi_tl, bi_tt, ix_l, ix_t, m_nil, m_cons, at0, at1, at2, flatD, seqOf, isNonW, fin, evX, hz]
    have e2 : evS c (.asg (.name 3) (.var 2)) [some (.d (.scr ns)), some (.mu S0.length), some (.d (.int z)), b, c', d] (S0 ++ [.lst (ms.map .int)]) = some (.nx [some (.d (.scr ns)), some (.mu S0.length), some (.d (.int z)), some (.d (.int z)), c', d] (S0 ++ [.lst (ms.map .int)])) := by
      simp [evSs, evS, evE, evEs, evZ, evO, evI, evT, evTo, rd_d, fz_d, b_add, b_sub, b_mul, b_div, b_mod, b_p18, b_p8, b_p7, b_p6, c_lt, c_le, c_gt, c_ge, c_eq, c_ne, c_eqs, c_nes, c_nes0, c_nes1, c_eqs0, c_eqs1, l_t, l_l, bi_i, bi_max, bi_min, bi_tl, bi_tt, ix_l, ix_t, m_nil, m_cons, at0, at1, at2, flatD, seqOf, isNonW, fin, evX]
    unfold OB
    rw [ss_nx (x_ift e1 ((ss_nx e2).trans ((ss_nx e).trans ss_0))), ss_0]
  · obtain ⟨ρ', S', e, q⟩ := n_2 (c := c) (ns := ns) (S0 := S0) (z := z) (a := b) (b := c') (d := d) hl hi
    refine ⟨ρ', S', ?_, q⟩
    have e1 : evT c (.val (.cmp .ge (.var 2) (.bin .pow (.cst (.int 10)) (.cst (.int 18))))) [some (.d (.scr ns)), some (.mu S0.length), some (.d (.int z)), b, c', d] (S0 ++ [.lst (ms.map .int)]) = some (false, S0 ++ [.lst (ms.map .int)]) := by
      simp [evSs, evS, evE, evEs, evZ, evO, evI, evT, evTo, rd_d, fz_d, b_add, b_sub, b_mul, b_div, b_mod, b_p18, b_p8, b_p7, b_p6, c_lt, c_le, c_gt, c_ge, c_eq, c_ne, c_eqs, c_nes, c_nes0, c_nes1, c_eqs0, c_eqs1, l_t, l_l, bi_i, bi_max, bi_min, bi_tl, bi_tt, ix_l, ix_t, m_nil, m_cons, at0, at1, at2, flatD, seqOf, isNonW, fin, evX, hz]
    unfold OB
    rw [ss_nx (x_iff e1 ((ss_nx e).trans ss_0)), ss_0]
theorem numbers_ex {S : Store} (hN : P f = some ⟨1, 6, B_law_numbers⟩) : ∃ r, Row r ∧ callF P (k + 1) f [.d (.scr ns)] S = some (r, S) := by
  have b63 : (cutD (ns.map .int) none (some 63)).length ≤ 63 := by
    unfold cutD
    rw [List.length_take]
    have : HT.sIx (ns.map D.int).length (ns.map D.int).length (some 63) ≤ 63 := by
      unfold HT.sIx
      simp
      omega
    omega
  have allI : ∀ x ∈ cutD (ns.map .int) none (some 63), ∃ z, x = .int z := by
    intro x hx
    unfold cutD at hx
    have := List.mem_of_mem_drop (List.mem_of_mem_take hx)
    obtain ⟨z, _, rfl⟩ := List.mem_map.mp this
    exact ⟨z, rfl⟩
  generalize hds : cutD (ns.map .int) none (some 63) = ds at b63 allI
  rw [callF_b hN rfl (by decide)]
  show ∃ r, Row r ∧ (evSs (callF P k) B_law_numbers [some (.d (.scr ns)), none, none, none, none, none] S).bind _ = _
  have e1 : evS (callF P k) (.newL 1 .nil) [some (.d (.scr ns)), none, none, none, none, none] S = some (.nx [some (.d (.scr ns)), some (.mu S.length), none, none, none, none] (S ++ [.lst []])) := by
    simp [evSs, evS, evE, evEs, evZ, evO, evI, evT, evTo, rd_d, fz_d, b_add, b_sub, b_mul, b_div, b_mod, b_p18, b_p8, b_p7, b_p6, c_lt, c_le, c_gt, c_ge, c_eq, c_ne, c_eqs, c_nes, c_nes0, c_nes1, c_eqs0, c_eqs1, l_t, l_l, bi_i, bi_max, bi_min, bi_tl, bi_tt, ix_l, ix_t, m_nil, m_cons, at0, at1, at2, flatD, seqOf, isNonW, fin, evX]
  have loop := x_for (c := callF P k) (tg := .name 2) (it := .seq (.sl (.var 0) .none (.some (.cst (.int 63))))) (ρ := [some (.d (.scr ns)), some (.mu S.length), none, none, none, none]) (S := S ++ [.lst []]) (S1 := S ++ [.lst []]) (ds := ds)
    (body := OB) (Z := fun o => ∃ ρ' S', o = .nx ρ' S' ∧ NumI ns S 4000 ρ' S')
    (by simp [evSs, evS, evE, evEs, evZ, evO, evI, evT, evTo, rd_d, fz_d, b_add, b_sub, b_mul, b_div, b_mod, b_p18, b_p8, b_p7, b_p6, c_lt, c_le, c_gt, c_ge, c_eq, c_ne, c_eqs, c_nes, c_nes0, c_nes1, c_eqs0, c_eqs1, l_t, l_l, bi_i, bi_max, bi_min, bi_tl, bi_tt, ix_l, ix_t, m_nil, m_cons, at0, at1, at2, flatD, seqOf, isNonW, fin, evX, slRun, hds]) (fun i ρ' S' => NumI ns S (60 * i) ρ' S') ⟨none, none, none, none, [], rfl, rfl, by simp⟩ (fun i x ρ S' hi h => by
      obtain ⟨a, b, c, d, ms, rfl, rfl, hl⟩ := h
      obtain ⟨z, rfl⟩ := allI x (List.mem_of_getElem? hi)
      have hi63 : i < 63 := by
        have := (List.getElem?_eq_some_iff.mp hi).1
        omega
      obtain ⟨ρ', S', e2, q⟩ := n_o (c := callF P k) (ns := ns) (S0 := S) (z := z) (b := b) (c' := c) (d := d) hl hi63
      exact ⟨_, .nx ρ' S', rfl, e2, q⟩) (fun ρ S' h => by
      obtain ⟨a, b, c, d, ms, rfl, rfl, hl⟩ := h
      exact ⟨_, _, rfl, a, b, c, d, ms, rfl, rfl, by omega⟩)
  obtain ⟨o, e2, ρ', S', rfl, a, b, c, d, ms, rfl, rfl, hl⟩ := loop
  unfold B_law_numbers
  rw [ss_nx e1]
  erw [ss_nx e2]
  by_cases h0 : ms = []
  · subst h0
    refine ⟨.lst [.int 0], ⟨[0], by simp, rfl⟩, ?_⟩
    have e4 : evT (callF P k) (.val (.cmp .eq (.bi .len (.cons (.var 1) (.nil))) (.cst (.int 0)))) [some (.d (.scr ns)), some (.mu S.length), a, b, c, d] (S ++ [.lst (([] : List Int).map .int)]) = some (true, S ++ [.lst (([] : List Int).map .int)]) := by
      simp [evSs, evS, evE, evEs, evZ, evO, evI, evT, evTo, rd_d, fz_d, b_add, b_sub, b_mul, b_div, b_mod, b_p18, b_p8, b_p7, b_p6, c_lt, c_le, c_gt, c_ge, c_eq, c_ne, c_eqs, c_nes, c_nes0, c_nes1, c_eqs0, c_eqs1, l_t, l_l, bi_i, bi_max, bi_min, bi_tl, bi_tt, ix_l, ix_t, m_nil, m_cons, at0, at1, at2, flatD, seqOf, isNonW, fin, evX, rd_l get_last]
    have e5 := x_appN (S0 := S) (c := callF P k) (e := .cst (.int 0)) (ρ := [some (.d (.scr ns)), some (.mu S.length), a, b, c, d]) (ms := []) (z := 0) rfl (by simp) (by simp [evSs, evS, evE, evEs, evZ, evO, evI, evT, evTo, rd_d, fz_d, b_add, b_sub, b_mul, b_div, b_mod, b_p18, b_p8, b_p7, b_p6, c_lt, c_le, c_gt, c_ge, c_eq, c_ne, c_eqs, c_nes, c_nes0, c_nes1, c_eqs0, c_eqs1, l_t, l_l, bi_i, bi_max, bi_min, bi_tl, bi_tt, ix_l, ix_t, m_nil, m_cons, at0, at1, at2, flatD, seqOf, isNonW, fin, evX])
    rw [ss_nx (x_ift e4 ((ss_nx e5).trans ss_0))]
    simp [evSs, evS, evE, evEs, evZ, evO, evI, evT, evTo, rd_d, fz_d, b_add, b_sub, b_mul, b_div, b_mod, b_p18, b_p8, b_p7, b_p6, c_lt, c_le, c_gt, c_ge, c_eq, c_ne, c_eqs, c_nes, c_nes0, c_nes1, c_eqs0, c_eqs1, l_t, l_l, bi_i, bi_max, bi_min, bi_tl, bi_tt, ix_l, ix_t, m_nil, m_cons, at0, at1, at2, flatD, seqOf, isNonW, fin, evX, fz_l get_last, set_last]
  · refine ⟨.lst (ms.map .int), ⟨ms, h0, rfl⟩, ?_⟩
    have e4 : evT (callF P k) (.val (.cmp .eq (.bi .len (.cons (.var 1) (.nil))) (.cst (.int 0)))) [some (.d (.scr ns)), some (.mu S.length), a, b, c, d] (S ++ [.lst (ms.map .int)]) = some (false, S ++ [.lst (ms.map .int)]) := by
      simp [evSs, evS, evE, evEs, evZ, evO, evI, evT, evTo, rd_d, fz_d, b_add, b_sub, b_mul, b_div, b_mod, b_p18, b_p8, b_p7, b_p6, c_lt, c_le, c_gt, c_ge, c_eq, c_ne, c_eqs, c_nes, c_nes0, c_nes1, c_eqs0, c_eqs1, l_t, l_l, bi_i, bi_max, bi_min, bi_tl, bi_tt, ix_l, ix_t, m_nil, m_cons, at0, at1, at2, flatD, seqOf, isNonW, fin, evX, rd_l get_last, h0]
    rw [ss_nx (x_iff e4 ss_0)]
    simp [evSs, evS, evE, evEs, evZ, evO, evI, evT, evTo, rd_d, fz_d, b_add, b_sub, b_mul, b_div, b_mod, b_p18, b_p8, b_p7, b_p6, c_lt, c_le, c_gt, c_ge, c_eq, c_ne, c_eqs, c_nes, c_nes0, c_nes1, c_eqs0, c_eqs1, l_t, l_l, bi_i, bi_max, bi_min, bi_tl, bi_tt, ix_l, ix_t, m_nil, m_cons, at0, at1, at2, flatD, seqOf, isNonW, fin, evX, fz_l get_last, set_last]
end
end Pv

set_option Elab.async false
set_option linter.all false
set_option maxRecDepth 100000
set_option maxHeartbeats 1000000
namespace Pv
open PySem L2
section
variable {P : Nat → Option Fn} {k f g : Nat} {S : Store}
inductive Rz (P : Nat → Option Fn) (k f : Nat) (ws : List W) (S : Store) : Out → Prop where
  | rt {d : D} {S' : Store} (h : callF P k f ws S = some (d, S')) : Rz P k f ws S (.rt d S')
  | xc {d : D} {S' : Store} (h : callF P k f ws S = none) (h' : (callF P k).x f ws S = some (d, S')) : Rz P k f ws S (.xc d S')
theorem Rz.ev {ws : List W} {S1 : Store} {o : Out} {as : Es} {ρ : En} (h : Rz P k f ws S1 o) (e : evEs (callF P k) as ρ S = some (ws, S1)) : evX (callF P k) (.call f as) ρ S = some o := by
  cases h with
  | rt h => simp only [evX, e, Option.bind_some, h]
  | xc h h' => simp only [evX, e, Option.bind_some, h, h', Option.map_some]
theorem Rz.of {q : Fn} {ws : List W} {ρ : En} {o : Out} (h : P f = some q) (h1 : ws.length = q.ar) (h2 : q.ar ≤ q.sl) (hρ : startE q.sl ws = ρ) (e : evSs (callF P k) q.body ρ S = some o) :
    match o with
    | .rt d S' => Rz P (k + 1) f ws S (.rt d (S'.take S.length))
    | .xc d S' => Rz P (k + 1) f ws S (.xc d (S'.take S.length))
    | _ => True := by
  subst hρ
  cases o with
  | rt d S' => exact .rt (by rw [callF_eq h h1 h2, e]; rfl)
  | xc d S' => exact .xc (by rw [callF_eq h h1 h2, e]; rfl) (by rw [callX_eq h h1 h2, e]; rfl)
  | _ => trivial
def Asc (ns : List Int) : Prop := ∀ (i : Nat) a b, ns[i]? = some a → ns[i + 1]? = some b → a < b
end
end Pv

set_option Elab.async false
set_option linter.all false
set_option maxRecDepth 100000
set_option maxHeartbeats 1000000
namespace Pv
open PySem L2
section
variable {P : Nat → Option Fn} {k f g : Nat} {S : Store}
theorem All2.mem {α β : Type} {R : α → β → Prop} : ∀ {as : List α} {bs : List β} {a : α}, All2 R as bs → a ∈ as → ∃ b ∈ bs, R a b
  | _, _, _, .nil, h => by simp at h
  | _, _, _, .cons x t, h => by
    rcases List.mem_cons.mp h with rfl | h
    · exact ⟨_, List.mem_cons_self, x⟩
    · obtain ⟨b, hb, r⟩ := All2.mem t h
      exact ⟨b, List.mem_cons_of_mem _ hb, r⟩
abbrev St := Int × Str
end
end Pv

set_option Elab.async false
set_option linter.all false
set_option maxRecDepth 100000
set_option maxHeartbeats 1000000
namespace Pv
open PySem L2
section
variable {P : Nat → Option Fn} {k f g : Nat} {S : Store}
end
end Pv

set_option Elab.async false
set_option linter.all false
set_option maxRecDepth 100000
set_option maxHeartbeats 1000000
namespace Pv
open PySem L2
structure Ix where
  need : Nat
  int : Nat
  within : Nat
  word : Nat
  sec : Nat
  rows : Nat
  rowsOf : Nat
  asc : Nat
  start : Nat
  day : Nat
  feast : Nat
  week : Nat
  dayOf : Nat
  bandAt : Nat
section
variable {P : Nat → Option Fn} {k f g : Nat} {S : Store} {x : Ix}
theorem Asc.tail {a : Int} {t : List Int} (h : Asc (a :: t)) : Asc t := fun i x y h1 h2 => h (i + 1) x y (by simpa using h1) (by simpa using h2)
theorem Asc.all {a : Int} {t : List Int} (h : Asc (a :: t)) : ∀ b ∈ t, a < b := by
  induction t generalizing a with
  | nil => intro b hb; simp at hb
  | cons c t ih =>
    intro b hb
    have hac : a < c := h 0 a c rfl rfl
    rcases List.mem_cons.mp hb with rfl | hb
    · exact hac
    · have := ih h.tail b hb
      omega
end
end Pv

set_option Elab.async false
set_option linter.all false
set_option maxRecDepth 100000
set_option maxHeartbeats 1000000
namespace Pv
open PySem L2
abbrev Pc := Int × Int × Str
inductive Chain : Int → Int → List Pc → Prop
  | nil {a : Int} : Chain a a []
  | cons {a e b : Int} {w : Str} {t : List Pc} : a ≤ e → Chain e b t → Chain a b ((a, e, w) :: t)
theorem Chain.le {a b : Int} {l : List Pc} (h : Chain a b l) : a ≤ b := by
  induction h with
  | nil => omega
  | cons h _ ih => omega
theorem Chain.append {a b c : Int} {l l' : List Pc} (h : Chain a b l) (h' : Chain b c l') : Chain a c (l ++ l') := by
  induction h with
  | nil => exact h'
  | cons q _ ih => exact .cons q (ih h')
def loF (f : Int) (p : Pc) : Int := if p.1 > f then p.1 else f
def hiF (l : Int) (p : Pc) : Int := if p.2.1 < l then p.2.1 else l
def ov (f l : Int) (p : Pc) : Int := if loF f p < hiF l p then hiF l p - loF f p else 0
end Pv

set_option Elab.async false
set_option linter.all false
set_option maxRecDepth 100000
set_option maxHeartbeats 1000000
namespace Pv
open PySem L2
section
variable {P : Nat → Option Fn} {k f g : Nat} {S : Store} {x : Ix}
end
end Pv

set_option Elab.async false
set_option linter.all false
set_option maxRecDepth 100000
set_option maxHeartbeats 1000000
namespace Pv
open PySem L2
section
variable {P : Nat → Option Fn} {k f g : Nat} {S : Store} {x : Ix}
theorem Sp.len {S0 S : Store} {n : Nat} (h : Sp S0 n S) : S.length = S0.length := by
  obtain ⟨_, _, rfl⟩ := h
  simp
end
end Pv

set_option Elab.async false
set_option linter.all false
set_option maxRecDepth 100000
set_option maxHeartbeats 1000000
namespace Pv
open PySem L2
def OkR {α : Type} (x : Option α) (Q : α → Prop) : Prop := ∃ a, x = some a ∧ Q a
theorem okR_bind {α β : Type} {x : Option α} {f : α → Option β} {Q : β → Prop} : OkR (x.bind f) Q ↔ OkR x fun a => OkR (f a) Q := by
  cases x with
  | none => simp [OkR]
  | some a => simp [OkR]
theorem okR_map {α β : Type} {x : Option α} {f : α → β} {Q : β → Prop} : OkR (x.map f) Q ↔ OkR x fun a => Q (f a) := by
  cases x with
  | none => simp [OkR]
  | some a => simp [OkR]
theorem okR_some {α : Type} {a : α} {Q : α → Prop} : OkR (some a) Q ↔ Q a := by simp [OkR]
theorem OkR.imp {α : Type} {x : Option α} {Q Q' : α → Prop} (h : OkR x Q) (i : ∀ a, Q a → Q' a) : OkR x Q' := let ⟨a, e, q⟩ := h; ⟨a, e, i a q⟩
theorem OkR.of {α : Type} {x : Option α} {a : α} {Q : α → Prop} (e : x = some a) (q : Q a) : OkR x Q := ⟨a, e, q⟩
def NxQ (c : Call) (ss : Ss) (Q : Out → Prop) : Out → Prop
  | .nx ρ S => OkR (evSs c ss ρ S) Q
  | o => Q o
theorem nx_nx {c : Call} {ss : Ss} {Q : Out → Prop} {ρ : En} {S : Store} : NxQ c ss Q (.nx ρ S) ↔ OkR (evSs c ss ρ S) Q := Iff.rfl
theorem nx_rt {c : Call} {ss : Ss} {Q : Out → Prop} {d : D} {S : Store} : NxQ c ss Q (.rt d S) ↔ Q (.rt d S) := Iff.rfl
theorem nx_bk {c : Call} {ss : Ss} {Q : Out → Prop} {ρ : En} {S : Store} : NxQ c ss Q (.bk ρ S) ↔ Q (.bk ρ S) := Iff.rfl
theorem nx_ct {c : Call} {ss : Ss} {Q : Out → Prop} {ρ : En} {S : Store} : NxQ c ss Q (.ct ρ S) ↔ Q (.ct ρ S) := Iff.rfl
theorem nx_xc {c : Call} {ss : Ss} {Q : Out → Prop} {d : D} {S : Store} : NxQ c ss Q (.xc d S) ↔ Q (.xc d S) := Iff.rfl
theorem ss_step {c : Call} {s : Pv.S} {ss : Ss} {ρ : En} {S : Store} {Q : Out → Prop} (h : OkR (evS c s ρ S) (NxQ c ss Q)) : OkR (evSs c (.cons s ss) ρ S) Q := by
  obtain ⟨o, e, q⟩ := h
  simp only [evSs, e, Option.bind_some]
  cases o with
  | nx ρ' S' => exact q
  | _ => exact ⟨_, rfl, q⟩
theorem ss_done {c : Call} {ρ : En} {S : Store} {Q : Out → Prop} (h : Q (.nx ρ S)) : OkR (evSs c .nil ρ S) Q := ⟨_, by simp only [evSs], h⟩
theorem def_ok {P : Nat → Option Fn} {k f : Nat} {ws : List W} {S : Store} {q : Fn} {ρ : En} {Q : D × Store → Prop} (h : P f = some q) (h1 : ws.length = q.ar) (h2 : q.ar ≤ q.sl) (hρ : startE q.sl ws = ρ)
    (e : OkR (evSs (callF P k) q.body ρ S) fun o => OkR (fin S.length o) Q) : OkR (callF P (k + 1) f ws S) Q := by
  obtain ⟨o, e1, e2⟩ := e
  rw [callF_eq h h1 h2, hρ, e1]
  exact e2
theorem fin_rt {n : Nat} {d : D} {S : Store} {Q : D × Store → Prop} (h : Q (d, S.take n)) : OkR (fin n (.rt d S)) Q := ⟨_, rfl, h⟩
theorem fin_rl {n : Nat} {d : D} {S : Store} {Q : D × Store → Prop} (hl : S.length = n) (h : Q (d, S)) : OkR (fin n (.rt d S)) Q := by
  refine fin_rt ?_
  rw [List.take_of_length_le (by omega)]
  exact h
theorem ifs_ok {c : Call} {t : T} {a b : Ss} {ρ : En} {S : Store} {Q : Out → Prop} (h : OkR (evT c t ρ S) fun p => if p.1 = true then OkR (evSs c a ρ p.2) Q else OkR (evSs c b ρ p.2) Q) : OkR (evS c (.ifs t a b) ρ S) Q := by
  obtain ⟨⟨x, S1⟩, e, q⟩ := h
  simp only [evS, e, Option.bind_some]
  cases x with
  | true => simpa using q
  | false => simpa using q
theorem for_ok {c : Call} {tg : Tg} {it : It} {body : Ss} {ρ : En} {S : Store} {Q : Out → Prop} (h : OkR (evI c it ρ S) fun p => OkR (forL (fun d ρ S => (asgn tg d ρ).bind fun ρ' => evSs c body ρ' S) p.1 ρ p.2) Q) : OkR (evS c (.forS tg it body) ρ S) Q := by
  obtain ⟨⟨x, S1⟩, e, q⟩ := h
  simp only [evS, e, Option.bind_some]
  exact q
theorem loop_ok {f : D → En → Store → Option Out} {ds : List D} {Q : Out → Prop} (I : Nat → En → Store → Prop) {ρ : En} {S : Store} (h0 : I 0 ρ S)
    (hs : ∀ (i : Nat) d ρ S, ds[i]? = some d → I i ρ S → OkR (f d ρ S) (Next (I (i + 1)) Q)) (he : ∀ ρ S, I ds.length ρ S → Q (.nx ρ S)) : OkR (forL f ds ρ S) Q :=
  forL_gen I h0 (fun i d ρ S hd h => hs i d ρ S hd h) he
theorem next_nx {I : En → Store → Prop} {Z : Out → Prop} {ρ : En} {S : Store} : Next I Z (.nx ρ S) ↔ I ρ S := Iff.rfl
theorem next_ct {I : En → Store → Prop} {Z : Out → Prop} {ρ : En} {S : Store} : Next I Z (.ct ρ S) ↔ I ρ S := Iff.rfl
theorem next_bk {I : En → Store → Prop} {Z : Out → Prop} {ρ : En} {S : Store} : Next I Z (.bk ρ S) ↔ Z (.nx ρ S) := Iff.rfl
theorem next_rt {I : En → Store → Prop} {Z : Out → Prop} {d : D} {S : Store} : Next I Z (.rt d S) ↔ Z (.rt d S) := Iff.rfl
theorem ee_var {cc : Call} {ρ : En} {S : Store} {i : Nat} : evE cc (.var i) ρ S = (match ρ[i]? with
    | some (some w) => some (w, S)
    | _ => none) := by first | (simp only [evE]; done) | (simp only [evE]; rfl)
theorem ee_cst {cc : Call} {ρ : En} {S : Store} {d : D} : evE cc (.cst d) ρ S = (if flatD d then some (.d d, S) else none) := by first | (simp only [evE]; done) | (simp only [evE]; rfl)
theorem ee_fnv {cc : Call} {ρ : En} {S : Store} {f : Nat} : evE cc (.fnv f) ρ S = (some (.d (.fn f), S)) := by first | (simp only [evE]; done) | (simp only [evE]; rfl)
theorem ee_bin {cc : Call} {ρ : En} {S : Store} {o : BOp} {a : E} {b : E} : evE cc (.bin o a b) ρ S = ((evE cc a ρ S).bind fun (x, S) => (evE cc b ρ S).bind fun (y, S) => (rdW x S).bind fun x => (rdW y S).bind fun y => (bRun o x y).map fun z => (.d z, S)) := by first | (simp only [evE]; done) | (simp only [evE]; rfl)
theorem ee_fz {cc : Call} {ρ : En} {S : Store} {a : E} : evE cc (.fz a) ρ S = ((evE cc a ρ S).bind fun (x, S) => (fzW x S).map fun (d, S) => (.d d, S)) := by first | rfl | (simp only [evE]; done)
theorem ee_neg {cc : Call} {ρ : En} {S : Store} {a : E} : evE cc (.neg a) ρ S = ((evE cc a ρ S).bind fun (x, S) => match x with
    | .d (.int i) => some (.d (.int (-i)), S)
    | _ => none) := by first | (simp only [evE]; done) | (simp only [evE]; rfl)
theorem ee_cmp {cc : Call} {ρ : En} {S : Store} {o : COp} {a : E} {b : E} : evE cc (.cmp o a b) ρ S = ((evE cc a ρ S).bind fun (x, S) => (evE cc b ρ S).bind fun (y, S) => (rdW x S).bind fun x => (rdW y S).bind fun y => (cRun o x y).map fun z => (.d (.bl z), S)) := by first | (simp only [evE]; done) | (simp only [evE]; rfl)
theorem ee_chain {cc : Call} {ρ : En} {S : Store} {o : COp} {o2 : COp} {a : E} {b : E} {k : E} : evE cc (.chain o o2 a b k) ρ S = ((evE cc a ρ S).bind fun (x, S) => (evE cc b ρ S).bind fun (y, S) => (rdW x S).bind fun x => (rdW y S).bind fun y' => (cRun o x y').bind fun z =>
      if z then (evE cc k ρ S).bind fun (w, S) => (rdW y S).bind fun y => (rdW w S).bind fun w => (cRun o2 y w).map fun z => (.d (.bl z), S) else some (.d (.bl false), S)) := by first | (simp only [evE]; done) | (simp only [evE]; rfl)
theorem ee_isN {cc : Call} {ρ : En} {S : Store} {a : E} : evE cc (.isN a) ρ S = ((evE cc a ρ S).map fun (x, S) => (.d (.bl (isNonW x)), S)) := by first | (simp only [evE]; done) | (simp only [evE]; rfl)
theorem ee_notN {cc : Call} {ρ : En} {S : Store} {a : E} : evE cc (.notN a) ρ S = ((evE cc a ρ S).map fun (x, S) => (.d (.bl (!isNonW x)), S)) := by first | (simp only [evE]; done) | (simp only [evE]; rfl)
theorem ee_and {cc : Call} {ρ : En} {S : Store} {a : E} {b : E} : evE cc (.and a b) ρ S = ((evE cc a ρ S).bind fun (x, S) => match x with
    | .d (.bl true) => evE cc b ρ S
    | .d (.bl false) => some (.d (.bl false), S)
    | _ => none) := by first | (simp only [evE]; done) | (simp only [evE]; rfl)
theorem ee_or {cc : Call} {ρ : En} {S : Store} {a : E} {b : E} : evE cc (.or a b) ρ S = ((evE cc a ρ S).bind fun (x, S) => match x with
    | .d (.bl false) => evE cc b ρ S
    | .d (.bl true) => some (.d (.bl true), S)
    | _ => none) := by first | (simp only [evE]; done) | (simp only [evE]; rfl)
theorem ee_not {cc : Call} {ρ : En} {S : Store} {a : E} : evE cc (.not a) ρ S = ((evE cc a ρ S).bind fun (x, S) => match x with
    | .d (.bl b) => some (.d (.bl (!b)), S)
    | _ => none) := by first | (simp only [evE]; done) | (simp only [evE]; rfl)
theorem ee_ite {cc : Call} {ρ : En} {S : Store} {k : T} {a : E} {b : E} : evE cc (.ite k a b) ρ S = ((evT cc k ρ S).bind fun (x, S) => if x = true then evE cc a ρ S else evE cc b ρ S) := by first | (simp only [evE]; done) | (simp only [evE]; rfl)
theorem ee_call {cc : Call} {ρ : En} {S : Store} {f : Nat} {as : Es} : evE cc (.call f as) ρ S = ((evEs cc as ρ S).bind fun (ws, S) => (cc f ws S).map fun (d, S) => (.d d, S)) := by first | (simp only [evE]; done) | (simp only [evE]; rfl)
theorem ee_callv {cc : Call} {ρ : En} {S : Store} {i : Nat} {as : Es} : evE cc (.callv i as) ρ S = (match ρ[i]? with
    | some (some (.d (.fn f))) => (evEs cc as ρ S).bind fun (ws, S) => (cc f ws S).map fun (d, S) => (.d d, S)
    | _ => none) := by first | (simp only [evE]; done) | (simp only [evE]; rfl)
theorem ee_bi {cc : Call} {ρ : En} {S : Store} {b : Bi} {as : Es} : evE cc (.bi b as) ρ S = ((evEs cc as ρ S).bind fun (ws, S) => (ws.mapM fun w => rdW w S).bind fun ds => (biRun b ds).map fun d => (.d d, S)) := by first | (simp only [evE]; done) | (simp only [evE]; rfl)
theorem ee_isi1 {cc : Call} {ρ : En} {S : Store} {a : E} {t : String} : evE cc (.isi1 a t) ρ S = ((evE cc a ρ S).bind fun (x, S) => (rdW x S).bind fun x => (isi1 x t).map fun b => (.d (.bl b), S)) := by first | (simp only [evE]; done) | (simp only [evE]; rfl)
theorem ee_isi2 {cc : Call} {ρ : En} {S : Store} {a : E} {t : String} {u : String} : evE cc (.isi2 a t u) ρ S = ((evE cc a ρ S).bind fun (x, S) => (rdW x S).bind fun x => (isi2 x t u).map fun b => (.d (.bl b), S)) := by first | (simp only [evE]; done) | (simp only [evE]; rfl)
theorem ee_mt0 {cc : Call} {ρ : En} {S : Store} {m : Me} {a : E} : evE cc (.mt0 m a) ρ S = ((evE cc a ρ S).bind fun (x, S) => (rdW x S).bind fun x => (meRun0 m x).map fun d => (.d d, S)) := by first | (simp only [evE]; done) | (simp only [evE]; rfl)
theorem ee_mt1 {cc : Call} {ρ : En} {S : Store} {m : Me} {a : E} {b : E} : evE cc (.mt1 m a b) ρ S = ((evE cc a ρ S).bind fun (x, S) => (evE cc b ρ S).bind fun (y, S) => (rdW x S).bind fun x => (rdW y S).bind fun y => (meRun1 m x y).map fun d => (.d d, S)) := by first | (simp only [evE]; done) | (simp only [evE]; rfl)
theorem ee_ix {cc : Call} {ρ : En} {S : Store} {a : E} {i : E} : evE cc (.ix a i) ρ S = ((evE cc a ρ S).bind fun (x, S) => (evE cc i ρ S).bind fun (y, S) => (rdW x S).bind fun x => (rdW y S).bind fun y => (ixRun x y).map fun d => (.d d, S)) := by first | (simp only [evE]; done) | (simp only [evE]; rfl)
theorem ee_sl {cc : Call} {ρ : En} {S : Store} {a : E} {lo : Eo} {hi : Eo} : evE cc (.sl a lo hi) ρ S = ((evE cc a ρ S).bind fun (x, S) => (evO cc lo ρ S).bind fun (l, S) => (evO cc hi ρ S).bind fun (h, S) => (rdW x S).bind fun x => (slRun x l h).map fun d => (.d d, S)) := by first | (simp only [evE]; done) | (simp only [evE]; rfl)
theorem ee_dget {cc : Call} {ρ : En} {S : Store} {a k : E} : evE cc (.dget a k) ρ S = ((evE cc a ρ S).bind fun (x, S) => (evE cc k ρ S).bind fun (y, S) => (rdW x S).bind fun x => (rdW y S).bind fun y => (dLook x y).bind fun o => o.map fun d => (.d d, S)) := by first | (simp only [evE]; done) | (simp only [evE]; rfl)
theorem ee_din {cc : Call} {ρ : En} {S : Store} {k a : E} : evE cc (.din k a) ρ S = ((evE cc k ρ S).bind fun (y, S) => (evE cc a ρ S).bind fun (x, S) => (rdW x S).bind fun x => (rdW y S).bind fun y => (dLook x y).map fun o => (.d (.bl o.isSome), S)) := by first | (simp only [evE]; done) | (simp only [evE]; rfl)
theorem ee_get1 {cc : Call} {ρ : En} {S : Store} {a k : E} : evE cc (.get1 a k) ρ S = ((evE cc a ρ S).bind fun (x, S) => (rdW x S).bind fun x1 => if isDct x1 = true then (evE cc k ρ S).bind fun (y, S) => (rdW x S).bind fun x => (rdW y S).bind fun y => (dLook x y).map fun o => (.d (o.getD .non), S) else none) := by first | (simp only [evE]; done) | (simp only [evE]; rfl)
theorem ee_get2 {cc : Call} {ρ : En} {S : Store} {a k z : E} : evE cc (.get2 a k z) ρ S = ((evE cc a ρ S).bind fun (x, S) => (rdW x S).bind fun x1 => if isDct x1 = true then (evE cc k ρ S).bind fun (y, S) => (evE cc z ρ S).bind fun (w, S) => (rdW x S).bind fun x => (rdW y S).bind fun y => (dLook x y).map fun o => ((o.map W.d).getD w, S) else none) := by first | (simp only [evE]; done) | (simp only [evE]; rfl)
theorem ee_tup {cc : Call} {ρ : En} {S : Store} {as : Es} : evE cc (.tup as) ρ S = ((evZ cc as ρ S).bind fun (ds, S) => if ds.length ≤ sizeLine then some (.d (.tup ds), S) else none) := by first | (simp only [evE]; done) | (simp only [evE]; rfl)
theorem ee_lst {cc : Call} {ρ : En} {S : Store} {as : Es} : evE cc (.lst as) ρ S = ((evZ cc as ρ S).bind fun (ds, S) => if ds.length ≤ sizeLine then some (.d (.lst ds), S) else none) := by first | (simp only [evE]; done) | (simp only [evE]; rfl)
theorem b_m7 {i : Int} : bRun .mul (.int i) (.int 7) = some (.int (i * 7)) := b_mul (by decide) (by decide)
theorem b_m86400 {i : Int} : bRun .mul (.int i) (.int 86400) = some (.int (i * 86400)) := b_mul (by decide) (by decide)
theorem b_m1000000000 {i : Int} : bRun .mul (.int i) (.int 1000000000) = some (.int (i * 1000000000)) := b_mul (by decide) (by decide)
theorem b_m60 {i : Int} : bRun .mul (.int i) (.int 60) = some (.int (i * 60)) := b_mul (by decide) (by decide)
theorem b_m600 {i : Int} : bRun .mul (.int i) (.int 600) = some (.int (i * 600)) := b_mul (by decide) (by decide)
theorem b_d7 {i : Int} : bRun .div (.int i) (.int 7) = some (.int (i / 7)) := b_div (by decide) (by decide)
theorem b_d86400 {i : Int} : bRun .div (.int i) (.int 86400) = some (.int (i / 86400)) := b_div (by decide) (by decide)
theorem b_d1000 {i : Int} : bRun .div (.int i) (.int 1000) = some (.int (i / 1000)) := b_div (by decide) (by decide)
theorem b_p10_5 : bRun .pow (.int 10) (.int 5) = some (.int 100000) := (b_pow ⟨by decide, by decide, by decide⟩).trans (congrArg (fun x => some (D.int x)) (by decide : (10 : Int) ^ (5 : Int).toNat = 100000))
theorem b_p10_9 : bRun .pow (.int 10) (.int 9) = some (.int 1000000000) := (b_pow ⟨by decide, by decide, by decide⟩).trans (congrArg (fun x => some (D.int x)) (by decide : (10 : Int) ^ (9 : Int).toNat = 1000000000))
theorem b_p10_12 : bRun .pow (.int 10) (.int 12) = some (.int 1000000000000) := (b_pow ⟨by decide, by decide, by decide⟩).trans (congrArg (fun x => some (D.int x)) (by decide : (10 : Int) ^ (12 : Int).toNat = 1000000000000))
theorem b_p10_15 : bRun .pow (.int 10) (.int 15) = some (.int 1000000000000000) := (b_pow ⟨by decide, by decide, by decide⟩).trans (congrArg (fun x => some (D.int x)) (by decide : (10 : Int) ^ (15 : Int).toNat = 1000000000000000))
section
variable {P : Nat → Option Fn} {k f : Nat} {S : Store}
theorem take_ok {d n : Nat} {r : D} {lim : Int} {S0 : Store} {Q : D × Store → Prop} (hP : P f = some ⟨3, 3, B_law_take d⟩) (hD : P d = some ⟨3, 4, B_law_draw⟩) (hr : Row r) (hn : n < S0.length) (hS : Sp S0 n S) (hl : 0 < lim)
    (q : ∀ t S', 0 ≤ t → t < lim → Sp S0 n S' → Q (.int t, S')) : OkR (callF P (k + 2) f [.d r, .mu n, .d (.int lim)] S) Q := by
  obtain ⟨t, S', e, h0, h1, h2⟩ := take_ex (k := k) hP hD hr hn hS hl
  exact ⟨_, e, q t S' h0 h1 h2⟩
theorem pick_ok {g d n : Nat} {r x : D} {ds : List D} {S0 : Store} {Q : D × Store → Prop} (hK : P f = some ⟨3, 3, B_law_pick g⟩) (hP : P g = some ⟨3, 3, B_law_take d⟩) (hD : P d = some ⟨3, 4, B_law_draw⟩) (hr : Row r) (hn : n < S0.length) (hS : Sp S0 n S)
    (hx : x = .lst ds ∨ x = .tup ds) (hne : ds ≠ []) (q : ∀ y S', y ∈ ds → Sp S0 n S' → Q (y, S')) : OkR (callF P (k + 3) f [.d r, .mu n, .d x] S) Q := by
  obtain ⟨t, S', e, h0, h1⟩ := pick_ex (k := k) hK hP hD hr hn hS hx hne
  exact ⟨_, e, q t S' h0 h1⟩
end
end Pv

set_option Elab.async false
set_option linter.all false
set_option maxRecDepth 100000
set_option maxHeartbeats 1000000
namespace Pv
open PySem L2
section
variable {P : Nat → Option Fn} {k f g : Nat} {S : Store} {x : Ix}
end
end Pv

set_option Elab.async false
set_option linter.all false
set_option maxRecDepth 100000
set_option maxHeartbeats 1000000
namespace Pv
open PySem L2
structure Lx where
  so : Nat
  num : Nat
  draw : Nat
  take : Nat
  wide : Nat
  listed : Nat
  either : Nat
  handed : Nat
  pick : Nat
section
variable {P : Nat → Option Fn} {k f : Nat} {r : D} {ms : List MO} {i : Int} {y : Lx}
theorem spA (hi : 0 ≤ i) : Sp (.lst [.int 0] :: ms) 0 (.lst [.int i] :: ms) := ⟨i, hi, rfl⟩
theorem spB {S : Store} (h : Sp (.lst [.int 0] :: ms) 0 S) : ∃ j : Int, 0 ≤ j ∧ S = .lst [.int j] :: ms := by
  obtain ⟨j, hj, e⟩ := h
  exact ⟨j, hj, e⟩
structure KsOk (lo hi : Int) (n : Nat) (fs : List Int) : Prop where
  nd : fs.Nodup
  each : ∀ z ∈ fs, lo ≤ z ∧ z ≤ hi
  len : fs.length ≤ n
theorem KsOk.nil {lo hi : Int} {n : Nat} : KsOk lo hi n [] := ⟨List.nodup_nil, by simp, by simp⟩
theorem KsOk.mono {lo hi : Int} {n m : Nat} {fs : List Int} (h : KsOk lo hi n fs) (hl : n ≤ m) : KsOk lo hi m fs := ⟨h.nd, h.each, Nat.le_trans h.len hl⟩
theorem i_r1 {c : Call} {e : E} {ρ : En} {S : Store} {Q : List D × Store → Prop} (h : OkR (evE c e ρ S) fun p => ∃ j : Int, p.1 = .d (.int j) ∧ -4611686018427387904 ≤ j ∧ j < 4611686018427387904 ∧ Q (rangeD 0 j.toNat, p.2)) : OkR (evI c (.r1 e) ρ S) Q := by
  obtain ⟨⟨w, S1⟩, e1, j, e2, h1, h2, q⟩ := h
  simp only at e2
  subst e2
  exact ⟨_, x_r1 e1 h1 h2, q⟩
end
end Pv

set_option Elab.async false
set_option linter.all false
set_option maxRecDepth 100000
set_option maxHeartbeats 1000000
namespace Pv
open PySem L2
section
variable {P : Nat → Option Fn} {k f : Nat} {r : D} {ms : List MO} {i : Int} {y : Lx}
end
end Pv

set_option Elab.async false
set_option linter.all false
set_option maxRecDepth 100000
set_option maxHeartbeats 1000000
namespace Pv
open PySem L2
section
variable {P : Nat → Option Fn} {k f g : Nat} {S : Store} {y : Lx}
theorem so_refl (h : P f = some ⟨2, 3, B_law_so f⟩) : ∀ (m : Nat) {k : Nat} {S : Store} {d : D}, Tv m d = true → callF P (k + m + 1) f [.d d, .d d] S = some (.bl true, S) := by
  intro m
  have flat : ∀ {k : Nat} {S : Store} {d : D}, flatD d = true → callF P (k + 1) f [.d d, .d d] S = some (.bl true, S) := by
    intro k S d hd
    rw [callF_b h rfl (by decide)]
    show (evSs (callF P k) (B_law_so f) [some (.d d), some (.d d), none] S).bind _ = _
    cases d with
    | non => simp [B_law_so, evSs, evS, evE, evEs, evZ, evO, evI, evT, evTo, rd_d, fz_d, b_add, b_sub, b_mul, b_div, b_mod, b_p18, b_p8, b_p7, b_p6, c_lt, c_le, c_gt, c_ge, c_eq, c_ne, c_eqs, c_nes, c_nes0, c_nes1, c_eqs0, c_eqs1, l_t, l_l, bi_i, bi_max, bi_min, bi_tl, bi_tt, ix_l, ix_t, m_nil, m_cons, at0, at1, at2, flatD, seqOf, isNonW, fin, evX]
    | bl b => cases b <;> simp [B_law_so, evSs, evS, evE, evEs, evZ, evO, evI, evT, evTo, rd_d, fz_d, b_add, b_sub, b_mul, b_div, b_mod, b_p18, b_p8, b_p7, b_p6, c_lt, c_le, c_gt, c_ge, c_eq, c_ne, c_eqs, c_nes, c_nes0, c_nes1, c_eqs0, c_eqs1, l_t, l_l, bi_i, bi_max, bi_min, bi_tl, bi_tt, ix_l, ix_t, m_nil, m_cons, at0, at1, at2, flatD, seqOf, isNonW, fin, evX, isi1, tyD, kB5, kB7, kB10, cRun, cEq, scalD, eqS]
    | int i => simp [B_law_so, evSs, evS, evE, evEs, evZ, evO, evI, evT, evTo, rd_d, fz_d, b_add, b_sub, b_mul, b_div, b_mod, b_p18, b_p8, b_p7, b_p6, c_lt, c_le, c_gt, c_ge, c_eq, c_ne, c_eqs, c_nes, c_nes0, c_nes1, c_eqs0, c_eqs1, l_t, l_l, bi_i, bi_max, bi_min, bi_tl, bi_tt, ix_l, ix_t, m_nil, m_cons, at0, at1, at2, flatD, seqOf, isNonW, fin, evX, isi1, tyD, kB1, kB2, kB5]
    | str w => simp [B_law_so, evSs, evS, evE, evEs, evZ, evO, evI, evT, evTo, rd_d, fz_d, b_add, b_sub, b_mul, b_div, b_mod, b_p18, b_p8, b_p7, b_p6, c_lt, c_le, c_gt, c_ge, c_eq, c_ne, c_eqs, c_nes, c_nes0, c_nes1, c_eqs0, c_eqs1, l_t, l_l, bi_i, bi_max, bi_min, bi_tl, bi_tt, ix_l, ix_t, m_nil, m_cons, at0, at1, at2, flatD, seqOf, isNonW, fin, evX, isi1, tyD, kB11, kB12, kB13, kB15]
    | _ => simp [flatD] at hd
  induction m with
  | zero =>
    intro k S d hd
    exact flat (by simpa [Tv] using hd)
  | succ m ih =>
    intro k S d hd
    cases d with
    | tup ds =>
      simp only [Tv, Bool.and_eq_true, decide_eq_true_eq, List.all_eq_true] at hd
      obtain ⟨hl, hall⟩ := hd
      have key : OkR (callF P (k + (m + 1) + 1) f [.d (.tup ds), .d (.tup ds)] S) fun p => p = (.bl true, S) := by
        refine def_ok h rfl (by show 2 ≤ 3; decide) rfl ?_
        show OkR (evSs (callF P (k + (m + 1))) (B_law_so f) [some (.d (.tup ds)), some (.d (.tup ds)), none] S) _
        unfold B_law_so
        refine ss_step ?_; simp only [okR_bind, okR_map, okR_some, evS, ee_var, ee_cst, ee_fnv, ee_bin, ee_neg, ee_fz, ee_cmp, ee_chain, ee_isN, ee_notN, ee_and, ee_or, ee_not, ee_ite, ee_call, ee_callv, ee_bi, ee_isi1, ee_isi2, ee_mt0, ee_mt1, ee_ix, ee_dget, ee_din, ee_get1, ee_get2, ee_sl, ee_tup, ee_lst, evEs, evZ, evO, evI, evT, evTo, evX, rd_d, fz_d, b_add, b_sub, b_mul, b_div, b_mod, b_p18, b_p8, b_p7, b_p6, c_lt, c_le, c_gt, c_ge, c_eq, c_ne, c_eqs, c_nes, c_nes0, c_nes1, c_eqs0, c_eqs1, l_t, l_l, bi_i, bi_max, bi_min, bi_tl, bi_tt, ix_l, ix_t, m_nil, m_cons, at0, at1, at2, flatD, seqOf, isNonW, nx_nx, nx_rt, nx_bk, nx_ct, nx_xc, next_nx, next_ct, next_bk, next_rt, Option.bind_some, Option.map_some, List.getElem?_cons_zero, List.getElem?_cons_succ, List.set_cons_zero, List.set_cons_succ, List.length_cons, List.length_nil, if_true, asgn, asgns, Nat.zero_add, Nat.reduceAdd, Nat.reduceLT, Nat.reduceLeDiff, reduceIte, reduceCtorEq, Bool.false_eq_true, Int.reduceNeg, sizeLine_val, and_self, true_and, and_true, b_m7, b_m86400, b_m1000000000, b_m60, b_m600, b_d7, b_d86400, b_d1000, b_p10_5, b_p10_9, b_p10_12, b_p10_15]
        refine ss_done ?_
        simp only [nx_nx]
        refine ss_step (ifs_ok ?_)
        simp only [okR_bind, okR_map, okR_some, evS, ee_var, ee_cst, ee_fnv, ee_bin, ee_neg, ee_fz, ee_cmp, ee_chain, ee_isN, ee_notN, ee_and, ee_or, ee_not, ee_ite, ee_call, ee_callv, ee_bi, ee_isi1, ee_isi2, ee_mt0, ee_mt1, ee_ix, ee_dget, ee_din, ee_get1, ee_get2, ee_sl, ee_tup, ee_lst, evEs, evZ, evO, evI, evT, evTo, evX, rd_d, fz_d, b_add, b_sub, b_mul, b_div, b_mod, b_p18, b_p8, b_p7, b_p6, c_lt, c_le, c_gt, c_ge, c_eq, c_ne, c_eqs, c_nes, c_nes0, c_nes1, c_eqs0, c_eqs1, l_t, l_l, bi_i, bi_max, bi_min, bi_tl, bi_tt, ix_l, ix_t, m_nil, m_cons, at0, at1, at2, flatD, seqOf, isNonW, nx_nx, nx_rt, nx_bk, nx_ct, nx_xc, next_nx, next_ct, next_bk, next_rt, Option.bind_some, Option.map_some, List.getElem?_cons_zero, List.getElem?_cons_succ, List.set_cons_zero, List.set_cons_succ, List.length_cons, List.length_nil, if_true, asgn, asgns, Nat.zero_add, Nat.reduceAdd, Nat.reduceLT, Nat.reduceLeDiff, reduceIte, reduceCtorEq, Bool.false_eq_true, Int.reduceNeg, sizeLine_val, and_self, true_and, and_true, b_m7, b_m86400, b_m1000000000, b_m60, b_m600, b_d7, b_d86400, b_d1000, b_p10_5, b_p10_9, b_p10_12, b_p10_15, isi_tup]
        refine ss_step (ifs_ok ?_)
        simp only [okR_bind, okR_map, okR_some, evS, ee_var, ee_cst, ee_fnv, ee_bin, ee_neg, ee_fz, ee_cmp, ee_chain, ee_isN, ee_notN, ee_and, ee_or, ee_not, ee_ite, ee_call, ee_callv, ee_bi, ee_isi1, ee_isi2, ee_mt0, ee_mt1, ee_ix, ee_dget, ee_din, ee_get1, ee_get2, ee_sl, ee_tup, ee_lst, evEs, evZ, evO, evI, evT, evTo, evX, rd_d, fz_d, b_add, b_sub, b_mul, b_div, b_mod, b_p18, b_p8, b_p7, b_p6, c_lt, c_le, c_gt, c_ge, c_eq, c_ne, c_eqs, c_nes, c_nes0, c_nes1, c_eqs0, c_eqs1, l_t, l_l, bi_i, bi_max, bi_min, bi_tl, bi_tt, ix_l, ix_t, m_nil, m_cons, at0, at1, at2, flatD, seqOf, isNonW, nx_nx, nx_rt, nx_bk, nx_ct, nx_xc, next_nx, next_ct, next_bk, next_rt, Option.bind_some, Option.map_some, List.getElem?_cons_zero, List.getElem?_cons_succ, List.set_cons_zero, List.set_cons_succ, List.length_cons, List.length_nil, if_true, asgn, asgns, Nat.zero_add, Nat.reduceAdd, Nat.reduceLT, Nat.reduceLeDiff, reduceIte, reduceCtorEq, Bool.false_eq_true, Int.reduceNeg, sizeLine_val, and_self, true_and, and_true, b_m7, b_m86400, b_m1000000000, b_m60, b_m600, b_d7, b_d86400, b_d1000, b_p10_5, b_p10_9, b_p10_12, b_p10_15, isi_tup, Bool.not_true, decide_true]
        refine ss_done ?_
        simp only [nx_nx]
        refine ss_step (for_ok (i_r1 ?_))
        simp only [okR_bind, okR_map, okR_some, evS, ee_var, ee_cst, ee_fnv, ee_bin, ee_neg, ee_fz, ee_cmp, ee_chain, ee_isN, ee_notN, ee_and, ee_or, ee_not, ee_ite, ee_call, ee_callv, ee_bi, ee_isi1, ee_isi2, ee_mt0, ee_mt1, ee_ix, ee_dget, ee_din, ee_get1, ee_get2, ee_sl, ee_tup, ee_lst, evEs, evZ, evO, evI, evT, evTo, evX, rd_d, fz_d, b_add, b_sub, b_mul, b_div, b_mod, b_p18, b_p8, b_p7, b_p6, c_lt, c_le, c_gt, c_ge, c_eq, c_ne, c_eqs, c_nes, c_nes0, c_nes1, c_eqs0, c_eqs1, l_t, l_l, bi_i, bi_max, bi_min, bi_tl, bi_tt, ix_l, ix_t, m_nil, m_cons, at0, at1, at2, flatD, seqOf, isNonW, nx_nx, nx_rt, nx_bk, nx_ct, nx_xc, next_nx, next_ct, next_bk, next_rt, Option.bind_some, Option.map_some, List.getElem?_cons_zero, List.getElem?_cons_succ, List.set_cons_zero, List.set_cons_succ, List.length_cons, List.length_nil, if_true, asgn, asgns, Nat.zero_add, Nat.reduceAdd, Nat.reduceLT, Nat.reduceLeDiff, reduceIte, reduceCtorEq, Bool.false_eq_true, Int.reduceNeg, sizeLine_val, and_self, true_and, and_true, b_m7, b_m86400, b_m1000000000, b_m60, b_m600, b_d7, b_d86400, b_d1000, b_p10_5, b_p10_9, b_p10_12, b_p10_15]
        refine ⟨ds.length, rfl, by omega, by have : sizeLine = 16777216 := sizeLine_val; omega, ?_⟩
        refine loop_ok (fun n ρ S' => ∃ v2, ρ = [some (.d (.tup ds)), some (.d (.tup ds)), v2] ∧ S' = S) ⟨none, rfl, rfl⟩ ?_ ?_
        · rintro n d ρ S' hn ⟨v2, rfl, rfl⟩
          obtain ⟨hn1, rfl⟩ := rangeD_get hn
          have hn2 : n < ds.length := by omega
          have ei : L2.atI ds (0 + (n : Int)) = some ds[n] := by rw [Int.zero_add]; exact L2.atI_nat (List.getElem?_eq_getElem hn2)
          simp only [okR_bind, okR_map, okR_some, evS, ee_var, ee_cst, ee_fnv, ee_bin, ee_neg, ee_fz, ee_cmp, ee_chain, ee_isN, ee_notN, ee_and, ee_or, ee_not, ee_ite, ee_call, ee_callv, ee_bi, ee_isi1, ee_isi2, ee_mt0, ee_mt1, ee_ix, ee_dget, ee_din, ee_get1, ee_get2, ee_sl, ee_tup, ee_lst, evEs, evZ, evO, evI, evT, evTo, evX, rd_d, fz_d, b_add, b_sub, b_mul, b_div, b_mod, b_p18, b_p8, b_p7, b_p6, c_lt, c_le, c_gt, c_ge, c_eq, c_ne, c_eqs, c_nes, c_nes0, c_nes1, c_eqs0, c_eqs1, l_t, l_l, bi_i, bi_max, bi_min, bi_tl, bi_tt, ix_l, ix_t, m_nil, m_cons, at0, at1, at2, flatD, seqOf, isNonW, nx_nx, nx_rt, nx_bk, nx_ct, nx_xc, next_nx, next_ct, next_bk, next_rt, Option.bind_some, Option.map_some, List.getElem?_cons_zero, List.getElem?_cons_succ, List.set_cons_zero, List.set_cons_succ, List.length_cons, List.length_nil, if_true, asgn, asgns, Nat.zero_add, Nat.reduceAdd, Nat.reduceLT, Nat.reduceLeDiff, reduceIte, reduceCtorEq, Bool.false_eq_true, Int.reduceNeg, sizeLine_val, and_self, true_and, and_true, b_m7, b_m86400, b_m1000000000, b_m60, b_m600, b_d7, b_d86400, b_d1000, b_p10_5, b_p10_9, b_p10_12, b_p10_15]
          refine ss_step (ifs_ok ?_)
          simp only [okR_bind, okR_map, okR_some, evS, ee_var, ee_cst, ee_fnv, ee_bin, ee_neg, ee_fz, ee_cmp, ee_chain, ee_isN, ee_notN, ee_and, ee_or, ee_not, ee_ite, ee_call, ee_callv, ee_bi, ee_isi1, ee_isi2, ee_mt0, ee_mt1, ee_ix, ee_dget, ee_din, ee_get1, ee_get2, ee_sl, ee_tup, ee_lst, evEs, evZ, evO, evI, evT, evTo, evX, rd_d, fz_d, b_add, b_sub, b_mul, b_div, b_mod, b_p18, b_p8, b_p7, b_p6, c_lt, c_le, c_gt, c_ge, c_eq, c_ne, c_eqs, c_nes, c_nes0, c_nes1, c_eqs0, c_eqs1, l_t, l_l, bi_i, bi_max, bi_min, bi_tl, bi_tt, ix_l, ix_t, m_nil, m_cons, at0, at1, at2, flatD, seqOf, isNonW, nx_nx, nx_rt, nx_bk, nx_ct, nx_xc, next_nx, next_ct, next_bk, next_rt, Option.bind_some, Option.map_some, List.getElem?_cons_zero, List.getElem?_cons_succ, List.set_cons_zero, List.set_cons_succ, List.length_cons, List.length_nil, if_true, asgn, asgns, Nat.zero_add, Nat.reduceAdd, Nat.reduceLT, Nat.reduceLeDiff, reduceIte, reduceCtorEq, Bool.false_eq_true, Int.reduceNeg, sizeLine_val, and_self, true_and, and_true, b_m7, b_m86400, b_m1000000000, b_m60, b_m600, b_d7, b_d86400, b_d1000, b_p10_5, b_p10_9, b_p10_12, b_p10_15, ei]
          refine OkR.of (ih (k := k) (hall _ (List.getElem_mem hn2))) ?_
          simp only [okR_bind, okR_map, okR_some, evS, ee_var, ee_cst, ee_fnv, ee_bin, ee_neg, ee_fz, ee_cmp, ee_chain, ee_isN, ee_notN, ee_and, ee_or, ee_not, ee_ite, ee_call, ee_callv, ee_bi, ee_isi1, ee_isi2, ee_mt0, ee_mt1, ee_ix, ee_dget, ee_din, ee_get1, ee_get2, ee_sl, ee_tup, ee_lst, evEs, evZ, evO, evI, evT, evTo, evX, rd_d, fz_d, b_add, b_sub, b_mul, b_div, b_mod, b_p18, b_p8, b_p7, b_p6, c_lt, c_le, c_gt, c_ge, c_eq, c_ne, c_eqs, c_nes, c_nes0, c_nes1, c_eqs0, c_eqs1, l_t, l_l, bi_i, bi_max, bi_min, bi_tl, bi_tt, ix_l, ix_t, m_nil, m_cons, at0, at1, at2, flatD, seqOf, isNonW, nx_nx, nx_rt, nx_bk, nx_ct, nx_xc, next_nx, next_ct, next_bk, next_rt, Option.bind_some, Option.map_some, List.getElem?_cons_zero, List.getElem?_cons_succ, List.set_cons_zero, List.set_cons_succ, List.length_cons, List.length_nil, if_true, asgn, asgns, Nat.zero_add, Nat.reduceAdd, Nat.reduceLT, Nat.reduceLeDiff, reduceIte, reduceCtorEq, Bool.false_eq_true, Int.reduceNeg, sizeLine_val, and_self, true_and, and_true, b_m7, b_m86400, b_m1000000000, b_m60, b_m600, b_d7, b_d86400, b_d1000, b_p10_5, b_p10_9, b_p10_12, b_p10_15, Bool.not_true]
          exact ss_done (ss_done ⟨_, rfl, rfl⟩)
        · rintro ρ S' ⟨v2, rfl, rfl⟩
          simp only [nx_nx]
          refine ss_step ?_; simp only [okR_bind, okR_map, okR_some, evS, ee_var, ee_cst, ee_fnv, ee_bin, ee_neg, ee_fz, ee_cmp, ee_chain, ee_isN, ee_notN, ee_and, ee_or, ee_not, ee_ite, ee_call, ee_callv, ee_bi, ee_isi1, ee_isi2, ee_mt0, ee_mt1, ee_ix, ee_dget, ee_din, ee_get1, ee_get2, ee_sl, ee_tup, ee_lst, evEs, evZ, evO, evI, evT, evTo, evX, rd_d, fz_d, b_add, b_sub, b_mul, b_div, b_mod, b_p18, b_p8, b_p7, b_p6, c_lt, c_le, c_gt, c_ge, c_eq, c_ne, c_eqs, c_nes, c_nes0, c_nes1, c_eqs0, c_eqs1, l_t, l_l, bi_i, bi_max, bi_min, bi_tl, bi_tt, ix_l, ix_t, m_nil, m_cons, at0, at1, at2, flatD, seqOf, isNonW, nx_nx, nx_rt, nx_bk, nx_ct, nx_xc, next_nx, next_ct, next_bk, next_rt, Option.bind_some, Option.map_some, List.getElem?_cons_zero, List.getElem?_cons_succ, List.set_cons_zero, List.set_cons_succ, List.length_cons, List.length_nil, if_true, asgn, asgns, Nat.zero_add, Nat.reduceAdd, Nat.reduceLT, Nat.reduceLeDiff, reduceIte, reduceCtorEq, Bool.false_eq_true, Int.reduceNeg, sizeLine_val, and_self, true_and, and_true, b_m7, b_m86400, b_m1000000000, b_m60, b_m600, b_d7, b_d86400, b_d1000, b_p10_5, b_p10_9, b_p10_12, b_p10_15]
          exact fin_rl rfl rfl
      obtain ⟨p, e, rfl⟩ := key
      exact e
    | _ => exact flat (k := k + (m + 1)) (by simpa [Tv] using hd)
end
end Pv

set_option Elab.async false
set_option linter.all false
set_option maxRecDepth 100000
set_option maxHeartbeats 1000000
namespace Pv
open PySem L2
def B_law_of : Ss := .cons (.asg (.name 1) (.lst (.cons (.isE [0] [1, 2, 3, 4, 5, 6, 7] (.inl 0) (.var 0)) (.cons (.isE [1] [0, 2, 3, 4, 5, 6, 7] (.inl 1) (.var 0)) (.cons (.isE [2] [0, 1, 3, 4, 5, 6, 7] (.inl 2) (.var 0)) (.cons (.isE [3] [0, 1, 2, 4, 5, 6, 7] (.inl 3) (.var 0)) (.nil))))))) (.cons (.ret (.bin .add (.var 1) (.lst (.cons (.isE [4] [0, 1, 2, 3, 5, 6, 7] (.inl 4) (.var 0)) (.cons (.isE [5] [0, 1, 2, 3, 4, 6, 7] (.inl 5) (.var 0)) (.cons (.isE [6] [0, 1, 2, 3, 4, 5, 7] (.inl 6) (.var 0)) (.cons (.isE [7] [0, 1, 2, 3, 4, 5, 6] (.inl 7) (.var 0)) (.nil)))))))) (.nil))
def B_law_foreign : Ss := .cons (.ifs (.or (.val (.isE [] [0, 1, 2, 3, 4, 5, 6, 7] (.inr "ValueError") (.var 0))) (.val (.isE [] [0, 1, 2, 3, 4, 5, 6, 7] (.inr "LookupError") (.var 0)))) (.cons (.ret (.cst (.bl true))) (.nil)) (.nil)) (.cons (.ret (.or (.isE [] [0, 1, 2, 3, 4, 5, 6, 7] (.inr "ArithmeticError") (.var 0)) (.not (.isE [0, 1, 2, 3, 4, 5, 6, 7] [] (.inr "Exception") (.var 0))))) (.nil))
def B_law_caught : Ss := .cons (.tryN (.val (.cmp .eq (.var 0) (.cst (.int 0)))) 7 4 (.var 0) 1 8 (.inl 4) [4] [0, 1, 2, 3, 5, 6, 7]) (.nil)
def B_law0 (i_so i_nu i_ta i_pi i_of i_fo i_ca : Nat) : Ss := .cons (.asg (.name 1) (.call i_nu (.cons (.var 0) (.nil)))) (.cons (.newL 2 (.cons (.cst (.int 0)) (.nil))) (.cons (.asg (.name 3) (.bin .sub (.call i_ta (.cons (.var 1) (.cons (.var 2) (.cons (.cst (.int 997)) (.nil))))) (.cst (.int 9)))) (.cons (.asg (.name 4) (.call i_pi (.cons (.var 1) (.cons (.var 2) (.cons (.lst (.cons (.cst .non) (.cons (.neg (.var 3)) (.cons (.cst (.str "x")) (.cons (.tup (.cons (.var 3) (.cons (.cst (.int 2)) (.nil)))) (.cons (.cst (.bl true)) (.nil))))))) (.nil)))))) (.cons (.forS (.name 5) (.seq (.lst (.cons (.mkE 0 true (.var 3)) (.cons (.mkE 1 true (.var 3)) (.cons (.mkE 2 true (.var 3)) (.cons (.mkE 0 true (.var 3)) (.cons (.mkE 1 true (.var 3)) (.cons (.mkE 2 true (.var 3)) (.nil))))))))) (.cons (.ifs (.not (.val (.call i_so (.cons (.efld [0, 1, 2] (.var 5)) (.cons (.var 3) (.nil)))))) (.cons (.ret (.cst (.bl false))) (.nil)) (.nil)) (.nil))) (.cons (.asg (.name 6) (.lst (.cons (.tup (.cons (.efld [3] (.mkE 3 false (.var 4))) (.cons (.efld [3] (.mkE 3 false (.var 4))) (.nil)))) (.cons (.tup (.cons (.efld [4, 5] (.mkE 4 false (.var 4))) (.cons (.efld [4, 5] (.mkE 4 false (.var 4))) (.nil)))) (.nil))))) (.cons (.forS (.name 7) (.seq (.bin .add (.var 6) (.lst (.cons (.tup (.cons (.efld [4, 5] (.mkE 5 false (.var 4))) (.cons (.efld [4, 5] (.mkE 5 false (.var 4))) (.nil)))) (.nil))))) (.cons (.ifs (.not (.val (.call i_so (.cons (.var 7) (.cons (.tup (.cons (.var 4) (.cons (.var 4) (.nil)))) (.nil)))))) (.cons (.ret (.cst (.bl false))) (.nil)) (.nil)) (.nil))) (.cons (.asg (.name 8) (.lst (.cons (.mkE 0 true (.var 3)) (.cons (.mkE 1 true (.var 3)) (.cons (.mkE 2 true (.var 3)) (.cons (.mkE 3 false (.var 4)) (.cons (.mkE 4 false (.var 4)) (.cons (.mkE 5 false (.var 4)) (.cons (.mkE0 6) (.cons (.mkE0 7) (.nil))))))))))) (.cons (.forS (.name 9) (.r1 (.cst (.int 8))) (.cons (.ifs (.or (.val (.cmp .ne (.call i_of (.cons (.ix (.var 8) (.var 9)) (.nil))) (.comp [10] (.name 10) (.r1 (.cst (.int 8))) (.none) (.cmp .eq (.var 10) (.var 9))))) (.or (.val (.call i_fo (.cons (.ix (.var 8) (.var 9)) (.nil)))) (.not (.val (.isE [0, 1, 2, 3, 4, 5, 6, 7] [] (.inl 8) (.ix (.var 8) (.var 9))))))) (.cons (.ret (.cst (.bl false))) (.nil)) (.nil)) (.nil))) (.cons (.ret (.and (.not (.call i_ca (.cons (.cst (.int 0)) (.nil)))) (.call i_ca (.cons (.bin .add (.cst (.int 1)) (.call i_ta (.cons (.var 1) (.cons (.var 2) (.cons (.cst (.int 9)) (.nil)))))) (.nil))))) (.nil))))))))))
structure T00 (P : Nat → Option Fn) : Prop where
  so : P 0 = some ⟨2, 3, B_law_so 0⟩
  num : P 1 = some ⟨1, 6, B_law_numbers⟩
  draw : P 2 = some ⟨3, 4, B_law_draw⟩
  take : P 3 = some ⟨3, 3, B_law_take 2⟩
  pick : P 4 = some ⟨3, 3, B_law_pick 3⟩
  of : P 5 = some ⟨1, 2, B_law_of⟩
  fo : P 6 = some ⟨1, 1, B_law_foreign⟩
  ca : P 7 = some ⟨1, 2, B_law_caught⟩
  law : P 8 = some ⟨1, 11, B_law0 0 1 3 4 5 6 7⟩
section
variable {P : Nat → Option Fn} {k f : Nat} {S : Store}
def ofL (j : Nat) : List D := [.bl (decide (j = 0)), .bl (decide (j = 1)), .bl (decide (j = 2)), .bl (decide (j = 3)), .bl (decide (j = 4)), .bl (decide (j = 5)), .bl (decide (j = 6)), .bl (decide (j = 7))]
theorem lt8 {j : Nat} (h : j < 8) : j = 0 ∨ j = 1 ∨ j = 2 ∨ j = 3 ∨ j = 4 ∨ j = 5 ∨ j = 6 ∨ j = 7 := by omega
theorem of_ok (h : P f = some ⟨1, 2, B_law_of⟩) {j : Nat} (hj : j < 8) {ds : List D} : callF P (k + 1) f [.d (.exc j ds)] S = some (.lst (ofL j), S) := by
  rw [callF_b h rfl (by decide)]
  show (evSs (callF P k) B_law_of [some (.d (.exc j ds)), none] S).bind _ = _
  rcases lt8 hj with rfl | rfl | rfl | rfl | rfl | rfl | rfl | rfl <;> simp [B_law_of, evSs, evS, evE, evZ, isOf, fzW, rdW, bRun, sizeLine_val, ofL, fin]
theorem fo_ok (h : P f = some ⟨1, 1, B_law_foreign⟩) {j : Nat} (hj : j < 8) {ds : List D} : callF P (k + 1) f [.d (.exc j ds)] S = some (.bl false, S) := by
  rw [callF_b h rfl (by decide)]
  show (evSs (callF P k) B_law_foreign [some (.d (.exc j ds))] S).bind _ = _
  rcases lt8 hj with rfl | rfl | rfl | rfl | rfl | rfl | rfl | rfl <;> simp [B_law_foreign, evSs, evS, evE, evT, isOf, fzW, flatD, fin]
theorem ca_ok (h : P f = some ⟨1, 2, B_law_caught⟩) {z : Int} : callF P (k + 1) f [.d (.int z)] S = some (.bl (!decide (z = 0)), S) := by
  rw [callF_b h rfl (by decide)]
  show (evSs (callF P k) B_law_caught [some (.d (.int z)), none] S).bind _ = _
  by_cases hz : z = 0
  · subst hz
    simp [B_law_caught, evSs, evS, evE, evT, isOf, flatD, rdW, cRun, cEq, scalD, eqS, fin]
  · simp [B_law_caught, evSs, evS, evE, evT, isOf, flatD, rdW, cRun, cEq, scalD, eqS, hz, fin]
theorem take00 (T : T00 P) {r : D} {ms : List MO} {i lim : Int} {Q : D × Store → Prop} (hr : Row r) (hi : 0 ≤ i) (hl : 0 < lim) (q : ∀ t j : Int, 0 ≤ t → t < lim → 0 ≤ j → Q (.int t, .lst [.int j] :: ms)) : OkR (callF P (k + 2) 3 [.d r, .mu 0, .d (.int lim)] (.lst [.int i] :: ms)) Q :=
  take_ok T.take T.draw hr (by simp) (spA (ms := ms) hi) hl fun t S' a b p => by
    obtain ⟨j, hj, rfl⟩ := spB p
    exact q t j a b hj
theorem pick00 (T : T00 P) {r : D} {ms : List MO} {i : Int} {Q : D × Store → Prop} {ds : List D} (hr : Row r) (hi : 0 ≤ i) (hne : ds ≠ []) (q : ∀ y' (j : Int), y' ∈ ds → 0 ≤ j → Q (y', .lst [.int j] :: ms)) : OkR (callF P (k + 3) 4 [.d r, .mu 0, .d (.lst ds)] (.lst [.int i] :: ms)) Q :=
  pick_ok T.pick T.take T.draw hr (by simp) (spA (ms := ms) hi) (.inl rfl) hne fun t S' a p => by
    obtain ⟨j, hj, rfl⟩ := spB p
    exact q t j a hj
end
def every0 (z : Int) (o : D) : List D := [.exc 0 [.int z], .exc 1 [.int z], .exc 2 [.int z], .exc 3 [o], .exc 4 [o], .exc 5 [o], .exc 6 [], .exc 7 []]
theorem every_at (z : Int) (o : D) {n : Nat} (h : n < 8) : ∃ ds, ixRun (.lst (every0 z o)) (.int (0 + (n : Int))) = some (.exc n ds) := by
  rcases lt8 h with rfl | rfl | rfl | rfl | rfl | rfl | rfl | rfl <;> exact ⟨_, rfl⟩
theorem comp8 {c : Call} {a0 a1 a2 a3 a4 a5 a6 a7 a8 a10 : Option W} {S : Store} {n : Nat} (h : n < 8) :
    evE c (.comp [10] (.name 10) (.r1 (.cst (.int 8))) (.none) (.cmp .eq (.var 10) (.var 9))) [a0, a1, a2, a3, a4, a5, a6, a7, a8, some (.d (.int (0 + (n : Int)))), a10] S = some (.d (.lst (ofL n)), S) := by
  rcases lt8 h with rfl | rfl | rfl | rfl | rfl | rfl | rfl | rfl <;> simp [evE, evI, flatD, tgIn, rangeD, compL, asgn, wipeE, evTo, rdW, cRun, cEq, scalD, eqS, fzW, ofL, sizeLine_val]
theorem law00 {P : Nat → Option Fn} (T : T00 P) {ns : List Int} : ∃ S, callF P 41 8 [.d (.scr ns)] [] = some (.bl true, S) := by
  have key : OkR (callF P 41 8 [.d (.scr ns)] []) fun p => p.1 = .bl true := by
    refine def_ok T.law rfl (by show 1 ≤ 11; decide) rfl ?_
    show OkR (evSs (callF P 40) (B_law0 0 1 3 4 5 6 7) [some (.d (.scr ns)), none, none, none, none, none, none, none, none, none, none] []) _
    unfold B_law0
    obtain ⟨r, hr, er⟩ := numbers_ex (P := P) (k := 39) (ns := ns) (S := []) T.num
    refine ss_step ?_; simp only [okR_bind, okR_map, okR_some, evS, ee_var, ee_cst, ee_fnv, ee_bin, ee_neg, ee_fz, ee_cmp, ee_chain, ee_isN, ee_notN, ee_and, ee_or, ee_not, ee_ite, ee_call, ee_callv, ee_bi, ee_isi1, ee_isi2, ee_mt0, ee_mt1, ee_ix, ee_dget, ee_din, ee_get1, ee_get2, ee_sl, ee_tup, ee_lst, evEs, evZ, evO, evI, evT, evTo, evX, rd_d, fz_d, b_add, b_sub, b_mul, b_div, b_mod, b_p18, b_p8, b_p7, b_p6, c_lt, c_le, c_gt, c_ge, c_eq, c_ne, c_eqs, c_nes, c_nes0, c_nes1, c_eqs0, c_eqs1, l_t, l_l, bi_i, bi_max, bi_min, bi_tl, bi_tt, ix_l, ix_t, m_nil, m_cons, at0, at1, at2, flatD, seqOf, isNonW, nx_nx, nx_rt, nx_bk, nx_ct, nx_xc, next_nx, next_ct, next_bk, next_rt, Option.bind_some, Option.map_some, List.getElem?_cons_zero, List.getElem?_cons_succ, List.set_cons_zero, List.set_cons_succ, List.length_cons, List.length_nil, if_true, asgn, asgns, Nat.zero_add, Nat.reduceAdd, Nat.reduceLT, Nat.reduceLeDiff, reduceIte, reduceCtorEq, Bool.false_eq_true, Int.reduceNeg, sizeLine_val, and_self, true_and, and_true, b_m7, b_m86400, b_m1000000000, b_m60, b_m600, b_d7, b_d86400, b_d1000, b_p10_5, b_p10_9, b_p10_12, b_p10_15]
    refine OkR.of er ?_
    simp only [okR_bind, okR_map, okR_some, evS, ee_var, ee_cst, ee_fnv, ee_bin, ee_neg, ee_fz, ee_cmp, ee_chain, ee_isN, ee_notN, ee_and, ee_or, ee_not, ee_ite, ee_call, ee_callv, ee_bi, ee_isi1, ee_isi2, ee_mt0, ee_mt1, ee_ix, ee_dget, ee_din, ee_get1, ee_get2, ee_sl, ee_tup, ee_lst, evEs, evZ, evO, evI, evT, evTo, evX, rd_d, fz_d, b_add, b_sub, b_mul, b_div, b_mod, b_p18, b_p8, b_p7, b_p6, c_lt, c_le, c_gt, c_ge, c_eq, c_ne, c_eqs, c_nes, c_nes0, c_nes1, c_eqs0, c_eqs1, l_t, l_l, bi_i, bi_max, bi_min, bi_tl, bi_tt, ix_l, ix_t, m_nil, m_cons, at0, at1, at2, flatD, seqOf, isNonW, nx_nx, nx_rt, nx_bk, nx_ct, nx_xc, next_nx, next_ct, next_bk, next_rt, Option.bind_some, Option.map_some, List.getElem?_cons_zero, List.getElem?_cons_succ, List.set_cons_zero, List.set_cons_succ, List.length_cons, List.length_nil, if_true, asgn, asgns, Nat.zero_add, Nat.reduceAdd, Nat.reduceLT, Nat.reduceLeDiff, reduceIte, reduceCtorEq, Bool.false_eq_true, Int.reduceNeg, sizeLine_val, and_self, true_and, and_true, b_m7, b_m86400, b_m1000000000, b_m60, b_m600, b_d7, b_d86400, b_d1000, b_p10_5, b_p10_9, b_p10_12, b_p10_15]
    refine ss_step ?_; simp only [okR_bind, okR_map, okR_some, evS, ee_var, ee_cst, ee_fnv, ee_bin, ee_neg, ee_fz, ee_cmp, ee_chain, ee_isN, ee_notN, ee_and, ee_or, ee_not, ee_ite, ee_call, ee_callv, ee_bi, ee_isi1, ee_isi2, ee_mt0, ee_mt1, ee_ix, ee_dget, ee_din, ee_get1, ee_get2, ee_sl, ee_tup, ee_lst, evEs, evZ, evO, evI, evT, evTo, evX, rd_d, fz_d, b_add, b_sub, b_mul, b_div, b_mod, b_p18, b_p8, b_p7, b_p6, c_lt, c_le, c_gt, c_ge, c_eq, c_ne, c_eqs, c_nes, c_nes0, c_nes1, c_eqs0, c_eqs1, l_t, l_l, bi_i, bi_max, bi_min, bi_tl, bi_tt, ix_l, ix_t, m_nil, m_cons, at0, at1, at2, flatD, seqOf, isNonW, nx_nx, nx_rt, nx_bk, nx_ct, nx_xc, next_nx, next_ct, next_bk, next_rt, Option.bind_some, Option.map_some, List.getElem?_cons_zero, List.getElem?_cons_succ, List.set_cons_zero, List.set_cons_succ, List.length_cons, List.length_nil, if_true, asgn, asgns, Nat.zero_add, Nat.reduceAdd, Nat.reduceLT, Nat.reduceLeDiff, reduceIte, reduceCtorEq, Bool.false_eq_true, Int.reduceNeg, sizeLine_val, and_self, true_and, and_true, b_m7, b_m86400, b_m1000000000, b_m60, b_m600, b_d7, b_d86400, b_d1000, b_p10_5, b_p10_9, b_p10_12, b_p10_15]
    simp only [List.nil_append]
    refine ss_step ?_; simp only [okR_bind, okR_map, okR_some, evS, ee_var, ee_cst, ee_fnv, ee_bin, ee_neg, ee_fz, ee_cmp, ee_chain, ee_isN, ee_notN, ee_and, ee_or, ee_not, ee_ite, ee_call, ee_callv, ee_bi, ee_isi1, ee_isi2, ee_mt0, ee_mt1, ee_ix, ee_dget, ee_din, ee_get1, ee_get2, ee_sl, ee_tup, ee_lst, evEs, evZ, evO, evI, evT, evTo, evX, rd_d, fz_d, b_add, b_sub, b_mul, b_div, b_mod, b_p18, b_p8, b_p7, b_p6, c_lt, c_le, c_gt, c_ge, c_eq, c_ne, c_eqs, c_nes, c_nes0, c_nes1, c_eqs0, c_eqs1, l_t, l_l, bi_i, bi_max, bi_min, bi_tl, bi_tt, ix_l, ix_t, m_nil, m_cons, at0, at1, at2, flatD, seqOf, isNonW, nx_nx, nx_rt, nx_bk, nx_ct, nx_xc, next_nx, next_ct, next_bk, next_rt, Option.bind_some, Option.map_some, List.getElem?_cons_zero, List.getElem?_cons_succ, List.set_cons_zero, List.set_cons_succ, List.length_cons, List.length_nil, if_true, asgn, asgns, Nat.zero_add, Nat.reduceAdd, Nat.reduceLT, Nat.reduceLeDiff, reduceIte, reduceCtorEq, Bool.false_eq_true, Int.reduceNeg, sizeLine_val, and_self, true_and, and_true, b_m7, b_m86400, b_m1000000000, b_m60, b_m600, b_d7, b_d86400, b_d1000, b_p10_5, b_p10_9, b_p10_12, b_p10_15]
    refine take00 T (k := 38) hr (Int.le_refl 0) (by decide) fun t j t0 t1 hj => ?_
    simp only [okR_bind, okR_map, okR_some, evS, ee_var, ee_cst, ee_fnv, ee_bin, ee_neg, ee_fz, ee_cmp, ee_chain, ee_isN, ee_notN, ee_and, ee_or, ee_not, ee_ite, ee_call, ee_callv, ee_bi, ee_isi1, ee_isi2, ee_mt0, ee_mt1, ee_ix, ee_dget, ee_din, ee_get1, ee_get2, ee_sl, ee_tup, ee_lst, evEs, evZ, evO, evI, evT, evTo, evX, rd_d, fz_d, b_add, b_sub, b_mul, b_div, b_mod, b_p18, b_p8, b_p7, b_p6, c_lt, c_le, c_gt, c_ge, c_eq, c_ne, c_eqs, c_nes, c_nes0, c_nes1, c_eqs0, c_eqs1, l_t, l_l, bi_i, bi_max, bi_min, bi_tl, bi_tt, ix_l, ix_t, m_nil, m_cons, at0, at1, at2, flatD, seqOf, isNonW, nx_nx, nx_rt, nx_bk, nx_ct, nx_xc, next_nx, next_ct, next_bk, next_rt, Option.bind_some, Option.map_some, List.getElem?_cons_zero, List.getElem?_cons_succ, List.set_cons_zero, List.set_cons_succ, List.length_cons, List.length_nil, if_true, asgn, asgns, Nat.zero_add, Nat.reduceAdd, Nat.reduceLT, Nat.reduceLeDiff, reduceIte, reduceCtorEq, Bool.false_eq_true, Int.reduceNeg, sizeLine_val, and_self, true_and, and_true, b_m7, b_m86400, b_m1000000000, b_m60, b_m600, b_d7, b_d86400, b_d1000, b_p10_5, b_p10_9, b_p10_12, b_p10_15]
    obtain ⟨at_, ea, a0, a1⟩ : ∃ at_ : Int, t - 9 = at_ ∧ -1000 < at_ ∧ at_ < 1000 := ⟨_, rfl, by omega, by omega⟩
    rw [ea]
    refine ss_step ?_; simp only [okR_bind, okR_map, okR_some, evS, ee_var, ee_cst, ee_fnv, ee_bin, ee_neg, ee_fz, ee_cmp, ee_chain, ee_isN, ee_notN, ee_and, ee_or, ee_not, ee_ite, ee_call, ee_callv, ee_bi, ee_isi1, ee_isi2, ee_mt0, ee_mt1, ee_ix, ee_dget, ee_din, ee_get1, ee_get2, ee_sl, ee_tup, ee_lst, evEs, evZ, evO, evI, evT, evTo, evX, rd_d, fz_d, b_add, b_sub, b_mul, b_div, b_mod, b_p18, b_p8, b_p7, b_p6, c_lt, c_le, c_gt, c_ge, c_eq, c_ne, c_eqs, c_nes, c_nes0, c_nes1, c_eqs0, c_eqs1, l_t, l_l, bi_i, bi_max, bi_min, bi_tl, bi_tt, ix_l, ix_t, m_nil, m_cons, at0, at1, at2, flatD, seqOf, isNonW, nx_nx, nx_rt, nx_bk, nx_ct, nx_xc, next_nx, next_ct, next_bk, next_rt, Option.bind_some, Option.map_some, List.getElem?_cons_zero, List.getElem?_cons_succ, List.set_cons_zero, List.set_cons_succ, List.length_cons, List.length_nil, if_true, asgn, asgns, Nat.zero_add, Nat.reduceAdd, Nat.reduceLT, Nat.reduceLeDiff, reduceIte, reduceCtorEq, Bool.false_eq_true, Int.reduceNeg, sizeLine_val, and_self, true_and, and_true, b_m7, b_m86400, b_m1000000000, b_m60, b_m600, b_d7, b_d86400, b_d1000, b_p10_5, b_p10_9, b_p10_12, b_p10_15]
    refine pick00 T (k := 37) hr hj (fun z => nomatch z) fun other j2 ho hj2 => ?_
    simp only [okR_bind, okR_map, okR_some, evS, ee_var, ee_cst, ee_fnv, ee_bin, ee_neg, ee_fz, ee_cmp, ee_chain, ee_isN, ee_notN, ee_and, ee_or, ee_not, ee_ite, ee_call, ee_callv, ee_bi, ee_isi1, ee_isi2, ee_mt0, ee_mt1, ee_ix, ee_dget, ee_din, ee_get1, ee_get2, ee_sl, ee_tup, ee_lst, evEs, evZ, evO, evI, evT, evTo, evX, rd_d, fz_d, b_add, b_sub, b_mul, b_div, b_mod, b_p18, b_p8, b_p7, b_p6, c_lt, c_le, c_gt, c_ge, c_eq, c_ne, c_eqs, c_nes, c_nes0, c_nes1, c_eqs0, c_eqs1, l_t, l_l, bi_i, bi_max, bi_min, bi_tl, bi_tt, ix_l, ix_t, m_nil, m_cons, at0, at1, at2, flatD, seqOf, isNonW, nx_nx, nx_rt, nx_bk, nx_ct, nx_xc, next_nx, next_ct, next_bk, next_rt, Option.bind_some, Option.map_some, List.getElem?_cons_zero, List.getElem?_cons_succ, List.set_cons_zero, List.set_cons_succ, List.length_cons, List.length_nil, if_true, asgn, asgns, Nat.zero_add, Nat.reduceAdd, Nat.reduceLT, Nat.reduceLeDiff, reduceIte, reduceCtorEq, Bool.false_eq_true, Int.reduceNeg, sizeLine_val, and_self, true_and, and_true, b_m7, b_m86400, b_m1000000000, b_m60, b_m600, b_d7, b_d86400, b_d1000, b_p10_5, b_p10_9, b_p10_12, b_p10_15]
    have hto : Tv 1 other = true := by
      simp only [List.mem_cons, List.not_mem_nil, or_false] at ho
      rcases ho with rfl | rfl | rfl | rfl | rfl <;> rfl
    have hta : atOk at_ = true := by simp [atOk]; omega
    have so1 : ∀ {S : Store} {z : Int}, callF P 40 0 [.d (.int z), .d (.int z)] S = some (.bl true, S) := fun {S z} => so_refl T.so 0 (k := 39) (d := .int z) rfl
    have so2 : ∀ {S : Store} , callF P 40 0 [.d (.tup [other, other]), .d (.tup [other, other])] S = some (.bl true, S) := fun {S} => so_refl T.so 2 (k := 37) (d := .tup [other, other]) (by simp only [Tv, List.all_cons, List.all_nil, hto]; rfl)
    refine ss_step (for_ok ?_)
    simp only [evI, evE, evZ, fzW, errOk, hta, List.getElem?_cons_zero, List.getElem?_cons_succ, if_true, Option.bind_some, Option.map_some, okR_some, List.length_cons, List.length_nil, sizeLine_val, Nat.reduceAdd, Nat.reduceLeDiff]
    refine loop_ok (fun n ρ S => ∃ v5 : Option W, ρ = [some (.d (.scr ns)), some (.d r), some (.mu 0), some (.d (.int at_)), some (.d other), v5, none, none, none, none, none] ∧ S = [.lst [.int j2]]) ⟨none, rfl, rfl⟩ ?_ ?_
    · rintro n d ρ S hn ⟨v5, rfl, rfl⟩
      have hd : ∃ q, d = .exc q [.int at_] ∧ [0, 1, 2].contains q = true := by
        have hm := List.mem_of_getElem? hn
        simp only [List.mem_cons, List.not_mem_nil, or_false] at hm
        rcases hm with rfl | rfl | rfl | rfl | rfl | rfl <;> exact ⟨_, rfl, rfl⟩
      obtain ⟨q, rfl, hq⟩ := hd
      simp only [okR_bind, okR_map, okR_some, evS, ee_var, ee_cst, ee_fnv, ee_bin, ee_neg, ee_fz, ee_cmp, ee_chain, ee_isN, ee_notN, ee_and, ee_or, ee_not, ee_ite, ee_call, ee_callv, ee_bi, ee_isi1, ee_isi2, ee_mt0, ee_mt1, ee_ix, ee_dget, ee_din, ee_get1, ee_get2, ee_sl, ee_tup, ee_lst, evEs, evZ, evO, evI, evT, evTo, evX, rd_d, fz_d, b_add, b_sub, b_mul, b_div, b_mod, b_p18, b_p8, b_p7, b_p6, c_lt, c_le, c_gt, c_ge, c_eq, c_ne, c_eqs, c_nes, c_nes0, c_nes1, c_eqs0, c_eqs1, l_t, l_l, bi_i, bi_max, bi_min, bi_tl, bi_tt, ix_l, ix_t, m_nil, m_cons, at0, at1, at2, flatD, seqOf, isNonW, nx_nx, nx_rt, nx_bk, nx_ct, nx_xc, next_nx, next_ct, next_bk, next_rt, Option.bind_some, Option.map_some, List.getElem?_cons_zero, List.getElem?_cons_succ, List.set_cons_zero, List.set_cons_succ, List.length_cons, List.length_nil, if_true, asgn, asgns, Nat.zero_add, Nat.reduceAdd, Nat.reduceLT, Nat.reduceLeDiff, reduceIte, reduceCtorEq, Bool.false_eq_true, Int.reduceNeg, sizeLine_val, and_self, true_and, and_true, b_m7, b_m86400, b_m1000000000, b_m60, b_m600, b_d7, b_d86400, b_d1000, b_p10_5, b_p10_9, b_p10_12, b_p10_15]
      refine ss_step (ifs_ok ?_)
      simp only [evT, evE, evEs, List.getElem?_cons_zero, List.getElem?_cons_succ, hq, if_true, Option.bind_some, Option.map_some, so1, okR_some, Bool.not_true, Bool.false_eq_true, if_false]
      refine ss_done ?_
      simp only [nx_nx]
      refine ss_done ?_
      exact ⟨_, rfl, rfl⟩
    rintro ρ S ⟨v5, rfl, rfl⟩
    simp only [nx_nx]
    refine ss_step (OkR.of (a := .nx [some (.d (.scr ns)), some (.d r), some (.mu 0), some (.d (.int at_)), some (.d other), v5, some (.d (.lst [.tup [other, other], .tup [other, other]])), none, none, none, none] [.lst [.int j2]]) ?_ ?_)
    · simp [evS, evE, evZ, fzW, errOk, sizeLine_val]
    simp only [nx_nx]
    refine ss_step (for_ok (OkR.of (a := ([.tup [other, other], .tup [other, other], .tup [other, other]], [.lst [.int j2]])) ?_ ?_))
    · simp [evI, evE, evZ, fzW, errOk, sizeLine_val, rdW, bRun]
    refine loop_ok (fun n ρ S => ∃ v7 : Option W, ρ = [some (.d (.scr ns)), some (.d r), some (.mu 0), some (.d (.int at_)), some (.d other), v5, some (.d (.lst [.tup [other, other], .tup [other, other]])), v7, none, none, none] ∧ S = [.lst [.int j2]]) ⟨none, rfl, rfl⟩ ?_ ?_
    · rintro n d ρ S hn ⟨v7, rfl, rfl⟩
      have hd : d = .tup [other, other] := by
        have hm := List.mem_of_getElem? hn
        simpa using hm
      subst hd
      simp only [okR_bind, okR_map, okR_some, evS, ee_var, ee_cst, ee_fnv, ee_bin, ee_neg, ee_fz, ee_cmp, ee_chain, ee_isN, ee_notN, ee_and, ee_or, ee_not, ee_ite, ee_call, ee_callv, ee_bi, ee_isi1, ee_isi2, ee_mt0, ee_mt1, ee_ix, ee_dget, ee_din, ee_get1, ee_get2, ee_sl, ee_tup, ee_lst, evEs, evZ, evO, evI, evT, evTo, evX, rd_d, fz_d, b_add, b_sub, b_mul, b_div, b_mod, b_p18, b_p8, b_p7, b_p6, c_lt, c_le, c_gt, c_ge, c_eq, c_ne, c_eqs, c_nes, c_nes0, c_nes1, c_eqs0, c_eqs1, l_t, l_l, bi_i, bi_max, bi_min, bi_tl, bi_tt, ix_l, ix_t, m_nil, m_cons, at0, at1, at2, flatD, seqOf, isNonW, nx_nx, nx_rt, nx_bk, nx_ct, nx_xc, next_nx, next_ct, next_bk, next_rt, Option.bind_some, Option.map_some, List.getElem?_cons_zero, List.getElem?_cons_succ, List.set_cons_zero, List.set_cons_succ, List.length_cons, List.length_nil, if_true, asgn, asgns, Nat.zero_add, Nat.reduceAdd, Nat.reduceLT, Nat.reduceLeDiff, reduceIte, reduceCtorEq, Bool.false_eq_true, Int.reduceNeg, sizeLine_val, and_self, true_and, and_true, b_m7, b_m86400, b_m1000000000, b_m60, b_m600, b_d7, b_d86400, b_d1000, b_p10_5, b_p10_9, b_p10_12, b_p10_15]
      refine ss_step (ifs_ok ?_)
      simp only [evT, evE, evEs, evZ, fzW, List.getElem?_cons_zero, List.getElem?_cons_succ, if_true, Option.bind_some, Option.map_some, so2, okR_some, Bool.not_true, Bool.false_eq_true, if_false, List.length_cons, List.length_nil, sizeLine_val, Nat.reduceAdd, Nat.reduceLeDiff]
      refine ss_done ?_
      simp only [nx_nx]
      refine ss_done ?_
      exact ⟨_, rfl, rfl⟩
    rintro ρ S ⟨v7, rfl, rfl⟩
    simp only [nx_nx]
    refine ss_step (OkR.of (a := .nx [some (.d (.scr ns)), some (.d r), some (.mu 0), some (.d (.int at_)), some (.d other), v5, some (.d (.lst [.tup [other, other], .tup [other, other]])), v7, some (.d (.lst (every0 at_ other))), none, none] [.lst [.int j2]]) ?_ ?_)
    · simp [evS, evE, evZ, fzW, errOk, hta, sizeLine_val, every0]
    simp only [nx_nx]
    refine ss_step (for_ok (OkR.of (a := (rangeD 0 8, [.lst [.int j2]])) ?_ ?_))
    · simp [evI, evE, flatD]
    refine loop_ok (fun n ρ S => ∃ v9 v10 : Option W, ρ = [some (.d (.scr ns)), some (.d r), some (.mu 0), some (.d (.int at_)), some (.d other), v5, some (.d (.lst [.tup [other, other], .tup [other, other]])), v7, some (.d (.lst (every0 at_ other))), v9, v10] ∧ S = [.lst [.int j2]]) ⟨none, none, rfl, rfl⟩ ?_ ?_
    · rintro n d ρ S hn ⟨v9, v10, rfl, rfl⟩
      obtain ⟨hn8, rfl⟩ := rangeD_get hn
      simp only [okR_bind, okR_map, okR_some, evS, ee_var, ee_cst, ee_fnv, ee_bin, ee_neg, ee_fz, ee_cmp, ee_chain, ee_isN, ee_notN, ee_and, ee_or, ee_not, ee_ite, ee_call, ee_callv, ee_bi, ee_isi1, ee_isi2, ee_mt0, ee_mt1, ee_ix, ee_dget, ee_din, ee_get1, ee_get2, ee_sl, ee_tup, ee_lst, evEs, evZ, evO, evI, evT, evTo, evX, rd_d, fz_d, b_add, b_sub, b_mul, b_div, b_mod, b_p18, b_p8, b_p7, b_p6, c_lt, c_le, c_gt, c_ge, c_eq, c_ne, c_eqs, c_nes, c_nes0, c_nes1, c_eqs0, c_eqs1, l_t, l_l, bi_i, bi_max, bi_min, bi_tl, bi_tt, ix_l, ix_t, m_nil, m_cons, at0, at1, at2, flatD, seqOf, isNonW, nx_nx, nx_rt, nx_bk, nx_ct, nx_xc, next_nx, next_ct, next_bk, next_rt, Option.bind_some, Option.map_some, List.getElem?_cons_zero, List.getElem?_cons_succ, List.set_cons_zero, List.set_cons_succ, List.length_cons, List.length_nil, if_true, asgn, asgns, Nat.zero_add, Nat.reduceAdd, Nat.reduceLT, Nat.reduceLeDiff, reduceIte, reduceCtorEq, Bool.false_eq_true, Int.reduceNeg, sizeLine_val, and_self, true_and, and_true, b_m7, b_m86400, b_m1000000000, b_m60, b_m600, b_d7, b_d86400, b_d1000, b_p10_5, b_p10_9, b_p10_12, b_p10_15]
      obtain ⟨ds, hds⟩ := every_at at_ other hn8
      refine ss_step (ifs_ok ?_)
      have c1 : ∀ S, evE (callF P 40) (.comp [10] (.name 10) (.r1 (.cst (.int 8))) (.none) (.cmp .eq (.var 10) (.var 9))) [some (.d (.scr ns)), some (.d r), some (.mu 0), some (.d (.int at_)), some (.d other), v5, some (.d (.lst [.tup [other, other], .tup [other, other]])), v7, some (.d (.lst (every0 at_ other))), some (.d (.int (0 + (n : Int)))), v10] S = some (.d (.lst (ofL n)), S) := fun S => comp8 hn8
      have c2 : cRun .ne (.lst (ofL n)) (.lst (ofL n)) = some false := by
        rcases lt8 hn8 with rfl | rfl | rfl | rfl | rfl | rfl | rfl | rfl <;> decide +kernel
      have c3 : ixRun (.lst (every0 at_ other)) (.int (0 + (n : Int))) = some (.exc n ds) := hds
      have c4 : isOf [0, 1, 2, 3, 4, 5, 6, 7] [] n = some true := by
        rcases lt8 hn8 with rfl | rfl | rfl | rfl | rfl | rfl | rfl | rfl <;> rfl
      simp only [evT]
      rw [show ∀ (a b : E) (ρ : En) (S : Store), evE (callF P 40) (.cmp .ne a b) ρ S = (evE (callF P 40) a ρ S).bind fun (x, S) => (evE (callF P 40) b ρ S).bind fun (y, S) => (rdW x S).bind fun x => (rdW y S).bind fun y => (cRun .ne x y).map fun z => (.d (.bl z), S) from fun _ _ _ _ => by simp only [evE]]
      simp only [c1, Option.bind_some]
      simp only [evE, evEs, List.getElem?_cons_zero, List.getElem?_cons_succ, rdW, Option.bind_some, c3, Option.map_some, of_ok T.of hn8, fo_ok T.fo hn8, c2, c4, if_true, if_false, Bool.false_eq_true, Bool.not_true, okR_some]
      refine ss_done ?_
      simp only [nx_nx]
      refine ss_done ?_
      exact ⟨_, _, rfl, rfl⟩
    rintro ρ S ⟨v9, v10, rfl, rfl⟩
    simp only [nx_nx]
    refine ss_step ?_
    simp only [okR_bind, okR_map, okR_some, evS, ee_var, ee_cst, ee_fnv, ee_bin, ee_neg, ee_fz, ee_cmp, ee_chain, ee_isN, ee_notN, ee_and, ee_or, ee_not, ee_ite, ee_call, ee_callv, ee_bi, ee_isi1, ee_isi2, ee_mt0, ee_mt1, ee_ix, ee_dget, ee_din, ee_get1, ee_get2, ee_sl, ee_tup, ee_lst, evEs, evZ, evO, evI, evT, evTo, evX, rd_d, fz_d, b_add, b_sub, b_mul, b_div, b_mod, b_p18, b_p8, b_p7, b_p6, c_lt, c_le, c_gt, c_ge, c_eq, c_ne, c_eqs, c_nes, c_nes0, c_nes1, c_eqs0, c_eqs1, l_t, l_l, bi_i, bi_max, bi_min, bi_tl, bi_tt, ix_l, ix_t, m_nil, m_cons, at0, at1, at2, flatD, seqOf, isNonW, nx_nx, nx_rt, nx_bk, nx_ct, nx_xc, next_nx, next_ct, next_bk, next_rt, Option.bind_some, Option.map_some, List.getElem?_cons_zero, List.getElem?_cons_succ, List.set_cons_zero, List.set_cons_succ, List.length_cons, List.length_nil, if_true, asgn, asgns, Nat.zero_add, Nat.reduceAdd, Nat.reduceLT, Nat.reduceLeDiff, reduceIte, reduceCtorEq, Bool.false_eq_true, Int.reduceNeg, sizeLine_val, and_self, true_and, and_true, b_m7, b_m86400, b_m1000000000, b_m60, b_m600, b_d7, b_d86400, b_d1000, b_p10_5, b_p10_9, b_p10_12, b_p10_15, ca_ok T.ca (k := 39), decide_true, Bool.not_true, Bool.not_false]
    refine take00 T (k := 38) hr hj2 (by decide) fun t2 j3 u0 u1 hj3 => ?_
    simp only [okR_bind, okR_map, okR_some, evS, ee_var, ee_cst, ee_fnv, ee_bin, ee_neg, ee_fz, ee_cmp, ee_chain, ee_isN, ee_notN, ee_and, ee_or, ee_not, ee_ite, ee_call, ee_callv, ee_bi, ee_isi1, ee_isi2, ee_mt0, ee_mt1, ee_ix, ee_dget, ee_din, ee_get1, ee_get2, ee_sl, ee_tup, ee_lst, evEs, evZ, evO, evI, evT, evTo, evX, rd_d, fz_d, b_add, b_sub, b_mul, b_div, b_mod, b_p18, b_p8, b_p7, b_p6, c_lt, c_le, c_gt, c_ge, c_eq, c_ne, c_eqs, c_nes, c_nes0, c_nes1, c_eqs0, c_eqs1, l_t, l_l, bi_i, bi_max, bi_min, bi_tl, bi_tt, ix_l, ix_t, m_nil, m_cons, at0, at1, at2, flatD, seqOf, isNonW, nx_nx, nx_rt, nx_bk, nx_ct, nx_xc, next_nx, next_ct, next_bk, next_rt, Option.bind_some, Option.map_some, List.getElem?_cons_zero, List.getElem?_cons_succ, List.set_cons_zero, List.set_cons_succ, List.length_cons, List.length_nil, if_true, asgn, asgns, Nat.zero_add, Nat.reduceAdd, Nat.reduceLT, Nat.reduceLeDiff, reduceIte, reduceCtorEq, Bool.false_eq_true, Int.reduceNeg, sizeLine_val, and_self, true_and, and_true, b_m7, b_m86400, b_m1000000000, b_m60, b_m600, b_d7, b_d86400, b_d1000, b_p10_5, b_p10_9, b_p10_12, b_p10_15, ca_ok T.ca (k := 39)]
    have : (1 + t2 = 0) = False := eq_false (by omega)
    simp only [this, decide_false, Bool.not_false]
    refine fin_rt ?_
    rfl
  obtain ⟨⟨d, S⟩, e, q⟩ := key
  simp only at q
  subst q
  exact ⟨S, e⟩
end Pv

set_option Elab.async false
set_option linter.all false
set_option maxRecDepth 100000
set_option maxHeartbeats 4000000
namespace Pg
open PySem L2 Pv
def top (i : Nat) : Stmt := PySem.Challenge.pw_eachsecond_k00_errors.main.body.getD i (.Pass ⟨0, 0, 0, 0⟩)
abbrev stE : Stmt := inClass (top 2) 0
abbrev st0 : Stmt := top 11
def b0 : Ss := .cons (.ifs (.val (.isN (.var 1))) (.cons (.ret (.isN (.var 0))) (.nil)) (.nil)) (.cons (.ifs (.val (.isi1 (.var 1) "tuple")) (.cons (.ifs (.or (.not (.val (.isi1 (.var 0) "tuple"))) (.val (.cmp .ne (.bi .len (.cons (.var 0) (.nil))) (.bi .len (.cons (.var 1) (.nil)))))) (.cons (.ret (.cst (.bl false))) (.nil)) (.nil)) (.cons (.forS (.name 2) (.r1 (.bi .len (.cons (.var 1) (.nil)))) (.cons (.ifs (.not (.val (.call 0 (.cons (.ix (.var 0) (.var 2)) (.cons (.ix (.var 1) (.var 2)) (.nil)))))) (.cons (.ret (.cst (.bl false))) (.nil)) (.nil)) (.nil))) (.cons (.ret (.cst (.bl true))) (.nil)))) (.nil)) (.cons (.ifs (.or (.val (.isi1 (.var 1) "bool")) (.val (.isi1 (.var 0) "bool"))) (.cons (.ret (.and (.isi1 (.var 1) "bool") (.and (.isi1 (.var 0) "bool") (.cmp .eq (.var 0) (.var 1))))) (.nil)) (.nil)) (.cons (.ifs (.val (.isi1 (.var 1) "int")) (.cons (.ret (.and (.isi1 (.var 0) "int") (.cmp .eq (.var 0) (.var 1)))) (.nil)) (.nil)) (.cons (.ret (.and (.isi1 (.var 1) "str") (.and (.isi1 (.var 0) "str") (.cmp .eq (.var 0) (.var 1))))) (.nil)))))
abbrev N0 : List Str := ["found", "meant", "k"]
abbrev ps0 : List Str := ["found", "meant"]
abbrev st1 : Stmt := top 12
def b1 : Ss := .cons (.newL 1 (.nil)) (.cons (.forS (.name 2) (.seq (.sl (.var 0) (.none) (.some (.cst (.int 63))))) (.cons (.ifs (.val (.cmp .ge (.var 2) (.bin .pow (.cst (.int 10)) (.cst (.int 18))))) (.cons (.asg (.name 3) (.var 2)) (.cons (.forS (.name 4) (.r1 (.cst (.int 60))) (.cons (.ifs (.val (.cmp .eq (.var 3) (.cst (.int 0)))) (.cons (.brk) (.nil)) (.nil)) (.cons (.app 1 (.bin .mod (.bi .int (.cons (.var 3) (.nil))) (.cst (.int 997)))) (.cons (.asg (.name 3) (.bin .div (.var 3) (.cst (.int 997)))) (.nil))))) (.nil))) (.cons (.forS (.name 4) (.r1 (.cst (.int 4))) (.cons (.asg (.name 5) (.bin .mod (.bi .int (.cons (.bin .add (.bin .add (.bin .mul (.var 2) (.cst (.int 48271))) (.bin .mul (.var 4) (.cst (.int 69621)))) (.cst (.int 11))) (.nil))) (.cst (.int 2147483647)))) (.cons (.app 1 (.bin .mod (.bi .int (.cons (.bin .add (.bin .mul (.var 5) (.cst (.int 16807))) (.var 4)) (.nil))) (.cst (.int 2147483629)))) (.nil)))) (.nil))) (.nil))) (.cons (.ifs (.val (.cmp .eq (.bi .len (.cons (.var 1) (.nil))) (.cst (.int 0)))) (.cons (.app 1 (.cst (.int 0))) (.nil)) (.nil)) (.cons (.ret (.var 1)) (.nil))))
abbrev N1 : List Str := ["script", "row", "cell", "left", "k", "mixed"]
abbrev ps1 : List Str := ["script"]
abbrev st2 : Stmt := top 13
def b2 : Ss := .cons (.ifs (.val (.cmp .lt (.var 1) (.bi .len (.cons (.var 0) (.nil))))) (.cons (.ret (.bin .mod (.bi .int (.cons (.ix (.var 0) (.var 1)) (.nil))) (.var 2))) (.nil)) (.nil)) (.cons (.asg (.name 3) (.bin .mod (.bi .int (.cons (.bin .add (.bin .add (.bin .mul (.ix (.var 0) (.bin .mod (.bi .int (.cons (.var 1) (.nil))) (.bi .len (.cons (.var 0) (.nil))))) (.cst (.int 40692))) (.bin .mul (.var 1) (.cst (.int 7919)))) (.cst (.int 3))) (.nil))) (.cst (.int 2147483399)))) (.cons (.ret (.bin .mod (.bi .int (.cons (.bin .mod (.bi .int (.cons (.bin .add (.bin .mul (.var 3) (.cst (.int 48271))) (.var 1)) (.nil))) (.cst (.int 2147483647))) (.nil))) (.var 2))) (.nil)))
abbrev N2 : List Str := ["row", "at", "limit", "mixed"]
abbrev ps2 : List Str := ["row", "at", "limit"]
abbrev st3 : Stmt := top 14
def b3 : Ss := .cons (.setL 1 (.cst (.int 0)) (.bin .add (.ix (.var 1) (.cst (.int 0))) (.cst (.int 1)))) (.cons (.ret (.call 2 (.cons (.var 0) (.cons (.bin .sub (.ix (.var 1) (.cst (.int 0))) (.cst (.int 1))) (.cons (.var 2) (.nil)))))) (.nil))
abbrev N3 : List Str := ["row", "spot", "limit"]
abbrev ps3 : List Str := ["row", "spot", "limit"]
abbrev st4 : Stmt := top 15
def b4 : Ss := .cons (.ret (.ix (.var 2) (.call 3 (.cons (.var 0) (.cons (.var 1) (.cons (.bi .len (.cons (.var 2) (.nil))) (.nil))))))) (.nil)
abbrev N4 : List Str := ["row", "spot", "things"]
abbrev ps4 : List Str := ["row", "spot", "things"]
abbrev st5 : Stmt := top 16
def b5 : Ss := .cons (.asg (.name 1) (.lst (.cons (.isE [0] [1, 2, 3, 4, 5, 6, 7] (.inl 0) (.var 0)) (.cons (.isE [1] [0, 2, 3, 4, 5, 6, 7] (.inl 1) (.var 0)) (.cons (.isE [2] [0, 1, 3, 4, 5, 6, 7] (.inl 2) (.var 0)) (.cons (.isE [3] [0, 1, 2, 4, 5, 6, 7] (.inl 3) (.var 0)) (.nil))))))) (.cons (.ret (.bin .add (.var 1) (.lst (.cons (.isE [4] [0, 1, 2, 3, 5, 6, 7] (.inl 4) (.var 0)) (.cons (.isE [5] [0, 1, 2, 3, 4, 6, 7] (.inl 5) (.var 0)) (.cons (.isE [6] [0, 1, 2, 3, 4, 5, 7] (.inl 6) (.var 0)) (.cons (.isE [7] [0, 1, 2, 3, 4, 5, 6] (.inl 7) (.var 0)) (.nil)))))))) (.nil))
abbrev N5 : List Str := ["value", "made"]
abbrev ps5 : List Str := ["value"]
abbrev st6 : Stmt := top 17
def b6 : Ss := .cons (.ifs (.or (.val (.isE [] [0, 1, 2, 3, 4, 5, 6, 7] (.inr "ValueError") (.var 0))) (.val (.isE [] [0, 1, 2, 3, 4, 5, 6, 7] (.inr "LookupError") (.var 0)))) (.cons (.ret (.cst (.bl true))) (.nil)) (.nil)) (.cons (.ret (.or (.isE [] [0, 1, 2, 3, 4, 5, 6, 7] (.inr "ArithmeticError") (.var 0)) (.not (.isE [0, 1, 2, 3, 4, 5, 6, 7] [] (.inr "Exception") (.var 0))))) (.nil))
abbrev N6 : List Str := ["value"]
abbrev ps6 : List Str := ["value"]
abbrev st7 : Stmt := top 18
def b7 : Ss := .cons (.tryN (.val (.cmp .eq (.var 0) (.cst (.int 0)))) 7 4 (.var 0) 1 8 (.inl 4) [4] [0, 1, 2, 3, 5, 6, 7]) (.nil)
abbrev N7 : List Str := ["at", "wrong"]
abbrev ps7 : List Str := ["at"]
abbrev st8 : Stmt := top 19
def b8 : Ss := .cons (.asg (.name 1) (.call 1 (.cons (.var 0) (.nil)))) (.cons (.newL 2 (.cons (.cst (.int 0)) (.nil))) (.cons (.asg (.name 3) (.bin .sub (.call 3 (.cons (.var 1) (.cons (.var 2) (.cons (.cst (.int 997)) (.nil))))) (.cst (.int 9)))) (.cons (.asg (.name 4) (.call 4 (.cons (.var 1) (.cons (.var 2) (.cons (.lst (.cons (.cst .non) (.cons (.neg (.var 3)) (.cons (.cst (.str "x")) (.cons (.tup (.cons (.var 3) (.cons (.cst (.int 2)) (.nil)))) (.cons (.cst (.bl true)) (.nil))))))) (.nil)))))) (.cons (.forS (.name 5) (.seq (.lst (.cons (.mkE 0 true (.var 3)) (.cons (.mkE 1 true (.var 3)) (.cons (.mkE 2 true (.var 3)) (.cons (.mkE 0 true (.var 3)) (.cons (.mkE 1 true (.var 3)) (.cons (.mkE 2 true (.var 3)) (.nil))))))))) (.cons (.ifs (.not (.val (.call 0 (.cons (.efld [0, 1, 2] (.var 5)) (.cons (.var 3) (.nil)))))) (.cons (.ret (.cst (.bl false))) (.nil)) (.nil)) (.nil))) (.cons (.asg (.name 6) (.lst (.cons (.tup (.cons (.efld [3] (.mkE 3 false (.var 4))) (.cons (.efld [3] (.mkE 3 false (.var 4))) (.nil)))) (.cons (.tup (.cons (.efld [4, 5] (.mkE 4 false (.var 4))) (.cons (.efld [4, 5] (.mkE 4 false (.var 4))) (.nil)))) (.nil))))) (.cons (.forS (.name 7) (.seq (.bin .add (.var 6) (.lst (.cons (.tup (.cons (.efld [4, 5] (.mkE 5 false (.var 4))) (.cons (.efld [4, 5] (.mkE 5 false (.var 4))) (.nil)))) (.nil))))) (.cons (.ifs (.not (.val (.call 0 (.cons (.var 7) (.cons (.tup (.cons (.var 4) (.cons (.var 4) (.nil)))) (.nil)))))) (.cons (.ret (.cst (.bl false))) (.nil)) (.nil)) (.nil))) (.cons (.asg (.name 8) (.lst (.cons (.mkE 0 true (.var 3)) (.cons (.mkE 1 true (.var 3)) (.cons (.mkE 2 true (.var 3)) (.cons (.mkE 3 false (.var 4)) (.cons (.mkE 4 false (.var 4)) (.cons (.mkE 5 false (.var 4)) (.cons (.mkE0 6) (.cons (.mkE0 7) (.nil))))))))))) (.cons (.forS (.name 9) (.r1 (.cst (.int 8))) (.cons (.ifs (.or (.val (.cmp .ne (.call 5 (.cons (.ix (.var 8) (.var 9)) (.nil))) (.comp [10] (.name 10) (.r1 (.cst (.int 8))) (.none) (.cmp .eq (.var 10) (.var 9))))) (.or (.val (.call 6 (.cons (.ix (.var 8) (.var 9)) (.nil)))) (.not (.val (.isE [0, 1, 2, 3, 4, 5, 6, 7] [] (.inl 8) (.ix (.var 8) (.var 9))))))) (.cons (.ret (.cst (.bl false))) (.nil)) (.nil)) (.nil))) (.cons (.ret (.and (.not (.call 7 (.cons (.cst (.int 0)) (.nil)))) (.call 7 (.cons (.bin .add (.cst (.int 1)) (.call 3 (.cons (.var 1) (.cons (.var 2) (.cons (.cst (.int 9)) (.nil)))))) (.nil))))) (.nil))))))))))
abbrev N8 : List Str := ["script", "row", "spot", "at", "other", "made", "pairs", "pair", "every", "k", "one"]
abbrev ps8 : List Str := ["script"]
def fns : List Fn := [⟨2, 3, b0⟩, ⟨1, 6, b1⟩, ⟨3, 4, b2⟩, ⟨3, 3, b3⟩, ⟨3, 3, b4⟩, ⟨1, 2, b5⟩, ⟨1, 1, b6⟩, ⟨1, 2, b7⟩, ⟨1, 11, b8⟩]
abbrev prog : Nat → Option Fn := fun f => fns[f]?
abbrev x0 : XI := ⟨"BadValue", some "at", true⟩
abbrev x1 : XI := ⟨"BadText", some "at", true⟩
abbrev x2 : XI := ⟨"BadRow", some "at", true⟩
abbrev x3 : XI := ⟨"Clash", some "fact", false⟩
abbrev x4 : XI := ⟨"NoCall", some "call", false⟩
abbrev x5 : XI := ⟨"TakenCall", some "call", false⟩
abbrev x6 : XI := ⟨"NoMoney", none, false⟩
abbrev x7 : XI := ⟨"NotNow", none, false⟩
def xs : List XI := [x0, x1, x2, x3, x4, x5, x6, x7]
abbrev q0 : QI := ⟨(.inl 7), "NotNow", [7], [0, 1, 2, 3, 4, 5, 6]⟩
abbrev q1 : QI := ⟨(.inl 6), "NoMoney", [6], [0, 1, 2, 3, 4, 5, 7]⟩
abbrev q2 : QI := ⟨(.inl 5), "TakenCall", [5], [0, 1, 2, 3, 4, 6, 7]⟩
abbrev q3 : QI := ⟨(.inl 4), "NoCall", [4], [0, 1, 2, 3, 5, 6, 7]⟩
abbrev q4 : QI := ⟨(.inl 3), "Clash", [3], [0, 1, 2, 4, 5, 6, 7]⟩
abbrev q5 : QI := ⟨(.inl 2), "BadRow", [2], [0, 1, 3, 4, 5, 6, 7]⟩
abbrev q6 : QI := ⟨(.inl 1), "BadText", [1], [0, 2, 3, 4, 5, 6, 7]⟩
abbrev q7 : QI := ⟨(.inl 0), "BadValue", [0], [1, 2, 3, 4, 5, 6, 7]⟩
abbrev q8 : QI := ⟨(.inr "Exception"), "Exception", [0, 1, 2, 3, 4, 5, 6, 7], []⟩
abbrev q9 : QI := ⟨(.inr "ArithmeticError"), "ArithmeticError", [], [0, 1, 2, 3, 4, 5, 6, 7]⟩
abbrev q10 : QI := ⟨(.inr "LookupError"), "LookupError", [], [0, 1, 2, 3, 4, 5, 6, 7]⟩
abbrev q11 : QI := ⟨(.inr "ValueError"), "ValueError", [], [0, 1, 2, 3, 4, 5, 6, 7]⟩
abbrev q12 : QI := ⟨(.inl 8), "SecondError", [0, 1, 2, 3, 4, 5, 6, 7], []⟩
def qs : List QI := [q0, q1, q2, q3, q4, q5, q6, q7, q8, q9, q10, q11, q12]
abbrev tb : Nat → Prop := fun f => f < 9
def nms : List Str := [("_law_so" : Str), ("_law_numbers" : Str), ("_law_draw" : Str), ("_law_take" : Str), ("_law_pick" : Str), ("_law_of" : Str), ("_law_foreign" : Str), ("_law_caught" : Str), ("law" : Str)]
abbrev nm : Nat → Str := fun f => nms.getD f ""
def pns : List (List Str) := [([("found" : Str), ("meant" : Str)] : List Str), ([("script" : Str)] : List Str), ([("row" : Str), ("at" : Str), ("limit" : Str)] : List Str), ([("row" : Str), ("spot" : Str), ("limit" : Str)] : List Str), ([("row" : Str), ("spot" : Str), ("things" : Str)] : List Str), ([("value" : Str)] : List Str), ([("value" : Str)] : List Str), ([("at" : Str)] : List Str), ([("script" : Str)] : List Str)]
abbrev pn : Nat → List Str := fun f => pns.getD f []
structure Cst (mg : Str → Option Value) : Prop where
  mk_ ::
theorem prog_tb {k f : Nat} {ws : List W} {S : Store} {r : D × Store} (h : callF prog k f ws S = some r) : tb f := by
  cases k with
  | zero => cases h
  | succ k =>
    simp only [callF] at h
    obtain ⟨q, e, _⟩ := Option.bind_eq_some_iff.mp h
    exact (List.getElem?_eq_some_iff.mp e).1
section
variable {P : Program} {w : World} {K : PySem.W.Frag} {mg : Str → Option Value} {base : Heap} {k : Nat} {fa : FA} {C : Addr}
theorem scE : FnScope ["self", "at"] ["self", "at"] (defScope stE) := ⟨rfl, rfl, rfl, by decide +kernel, rfl, by decide +kernel, by decide +kernel⟩
theorem okE {fI B : Addr} {fd : FuncData} (F : Fun K "__init__" "BadValue.__init__" stE fI fd) (T : ErrC K mg "BadValue" "SecondError" "at" C B) : FnOk P w K mg base (L2.CX P w) 1 fI fd ["self", "at"] (spI C) :=
  F.okX scE (fun vs H Q E h => by obtain ⟨a, i, rfl, _⟩ := h; rfl) fun cdv A outer s H vs Q E hr h => ⟨tErB C "the argument " " is not as described", pss_cons (ps_expr (pe_erI T rfl (pa_cons (pv 0) (pa_cons (pe_joined (.cons pe_str (.cons (pe_fmt (pv 1)) (.cons pe_str .nil)))) pa_nil)))) (pss_one (ps_erF T (pv 0) (pv 1))), pure_init (by decide) (by decide) h⟩
abbrev stE0 : Stmt := inClass (top 3) 0
theorem scE0 : FnScope ["self", "at"] ["self", "at"] (defScope stE0) := ⟨rfl, rfl, rfl, by decide +kernel, rfl, by decide +kernel, by decide +kernel⟩
theorem okE0 {fI B : Addr} {fd : FuncData} (F : Fun K "__init__" "BadText.__init__" stE0 fI fd) (T : ErrC K mg "BadText" "SecondError" "at" C B) : FnOk P w K mg base (L2.CX P w) 1 fI fd ["self", "at"] (spI C) :=
  F.okX scE0 (fun vs H Q E h => by obtain ⟨a, i, rfl, _⟩ := h; rfl) fun cdv A outer s H vs Q E hr h => ⟨tErB C "the word " " may not stand there", pss_cons (ps_expr (pe_erI T rfl (pa_cons (pv 0) (pa_cons (pe_joined (.cons pe_str (.cons (pe_fmt (pv 1)) (.cons pe_str .nil)))) pa_nil)))) (pss_one (ps_erF T (pv 0) (pv 1))), pure_init (by decide) (by decide) h⟩
abbrev stE1 : Stmt := inClass (top 4) 0
theorem scE1 : FnScope ["self", "at"] ["self", "at"] (defScope stE1) := ⟨rfl, rfl, rfl, by decide +kernel, rfl, by decide +kernel, by decide +kernel⟩
theorem okE1 {fI B : Addr} {fd : FuncData} (F : Fun K "__init__" "BadRow.__init__" stE1 fI fd) (T : ErrC K mg "BadRow" "SecondError" "at" C B) : FnOk P w K mg base (L2.CX P w) 1 fI fd ["self", "at"] (spI C) :=
  F.okX scE1 (fun vs H Q E h => by obtain ⟨a, i, rfl, _⟩ := h; rfl) fun cdv A outer s H vs Q E hr h => ⟨tErB C "the row " " cannot follow", pss_cons (ps_expr (pe_erI T rfl (pa_cons (pv 0) (pa_cons (pe_joined (.cons pe_str (.cons (pe_fmt (pv 1)) (.cons pe_str .nil)))) pa_nil)))) (pss_one (ps_erF T (pv 0) (pv 1))), pure_init (by decide) (by decide) h⟩
abbrev stE2 : Stmt := inClass (top 5) 0
theorem scE2 : FnScope ["self", "fact"] ["self", "fact"] (defScope stE2) := ⟨rfl, rfl, rfl, by decide +kernel, rfl, by decide +kernel, by decide +kernel⟩
theorem okE2 {fI B : Addr} {fd : FuncData} (F : Fun K "__init__" "Clash.__init__" stE2 fI fd) (T : ErrC K mg "Clash" "SecondError" "fact" C B) : FnOk P w K mg base (L2.CX P w) 1 fI fd ["self", "fact"] (spIK C "fact") :=
  F.okX scE2 (fun vs H Q E h => by obtain ⟨a, v, rfl, _⟩ := h; rfl) fun cdv A outer s H vs Q E hr h => ⟨tErBK C "fact" "the fact was told with another value", pss_cons (ps_expr (pe_erI T rfl (pa_cons (pv 0) (pa_cons pe_str pa_nil)))) (pss_one (ps_erF T (pv 0) (pv 1))), pure_initK h⟩
abbrev stE3 : Stmt := inClass (top 6) 0
theorem scE3 : FnScope ["self", "call"] ["self", "call"] (defScope stE3) := ⟨rfl, rfl, rfl, by decide +kernel, rfl, by decide +kernel, by decide +kernel⟩
theorem okE3 {fI B : Addr} {fd : FuncData} (F : Fun K "__init__" "NoCall.__init__" stE3 fI fd) (T : ErrC K mg "NoCall" "SecondError" "call" C B) : FnOk P w K mg base (L2.CX P w) 1 fI fd ["self", "call"] (spIK C "call") :=
  F.okX scE3 (fun vs H Q E h => by obtain ⟨a, v, rfl, _⟩ := h; rfl) fun cdv A outer s H vs Q E hr h => ⟨tErBK C "call" "the call does not run", pss_cons (ps_expr (pe_erI T rfl (pa_cons (pv 0) (pa_cons pe_str pa_nil)))) (pss_one (ps_erF T (pv 0) (pv 1))), pure_initK h⟩
abbrev stE4 : Stmt := inClass (top 7) 0
theorem scE4 : FnScope ["self", "call"] ["self", "call"] (defScope stE4) := ⟨rfl, rfl, rfl, by decide +kernel, rfl, by decide +kernel, by decide +kernel⟩
theorem okE4 {fI B : Addr} {fd : FuncData} (F : Fun K "__init__" "TakenCall.__init__" stE4 fI fd) (T : ErrC K mg "TakenCall" "SecondError" "call" C B) : FnOk P w K mg base (L2.CX P w) 1 fI fd ["self", "call"] (spIK C "call") :=
  F.okX scE4 (fun vs H Q E h => by obtain ⟨a, v, rfl, _⟩ := h; rfl) fun cdv A outer s H vs Q E hr h => ⟨tErBK C "call" "the call runs or has ended", pss_cons (ps_expr (pe_erI T rfl (pa_cons (pv 0) (pa_cons pe_str pa_nil)))) (pss_one (ps_erF T (pv 0) (pv 1))), pure_initK h⟩
theorem sc0 : FnScope N0 ps0 (defScope st0) := ⟨rfl, rfl, rfl, by decide +kernel, rfl, by decide +kernel, by decide +kernel⟩
theorem der0 {sp : Nat → Sp} {f : Addr} {cdv : Value} {A : Around} {outer : List Env} {s : Shared} {H : Hp} {E : XK} (h : Okx (cxOf (L2.CX P w) P w K mg base N0 "_law_so" (defScope st0) f cdv A outer s H E) (k + 2) fa sp tb nm pn) (re : ErrOk P w K mg base C) (tk : Takes (cxOf (L2.CX P w) P w K mg base N0 "_law_so" (defScope st0) f cdv A outer s H E) (fun cls d _ H => E cls d H)) (hp : PassesOwn (model (cxOf (L2.CX P w) P w K mg base N0 "_law_so" (defScope st0) f cdv A outer s H E).prog (cxOf (L2.CX P w) P w K mg base N0 "_law_so" (defScope st0) f cdv A outer s H E).w) (cxOf (L2.CX P w) P w K mg base N0 "_law_so" (defScope st0) f cdv A outer s H E).A (cxOf (L2.CX P w) P w K mg base N0 "_law_so" (defScope st0) f cdv A outer s H E).env (cxOf (L2.CX P w) P w K mg base N0 "_law_so" (defScope st0) f cdv A outer s H E).xe) (xt : ExT P w K mg base fa xs qs) (hc : Cst mg) :
    PSs (cxOf (L2.CX P w) P w K mg base N0 "_law_so" (defScope st0) f cdv A outer s H E) (defBody st0) (tSs K fa sp tb C (fun cls d _ H => E cls d H) b0) :=
  s_cons (s_if (d_tisN (pv 1)) (s_cons (s_ret (d_isN (pv 0))) (s_nil)) (s_nil)) (s_cons (s_if (d_val (d_isi1 h (pv 1) h.bt.tuple (by decide +kernel))) (s_cons (s_if (d_w (d_wor (d_tnot (d_val (d_isi1 h (pv 0) h.bt.tuple (by decide +kernel)))) (d_wor1 (d_tcmp h .ne (d_len h (d_cons (pv 0) (d_nil))) (d_len h (d_cons (pv 1) (d_nil))))))) (s_cons (s_ret (d_bl)) (s_nil)) (s_nil)) (s_cons (s_for h hp (d_r1 h (d_len h (d_cons (pv 1) (d_nil)))) (d_gn h) (s_cons (s_if (d_tnot (d_val (d_call h 0 (by decide) (d_cons (d_ix (pv 0) (pv 2)) (d_cons (d_ix (pv 1) (pv 2)) (d_nil)))))) (s_cons (s_ret (d_bl)) (s_nil)) (s_nil)) (s_nil))) (s_cons (s_ret (d_bl)) (s_nil)))) (s_nil)) (s_cons (s_if (d_w (d_wor (d_val (d_isi1 h (pv 1) h.bt.bool (by decide +kernel))) (d_wor1 (d_val (d_isi1 h (pv 0) h.bt.bool (by decide +kernel)))))) (s_cons (s_ret (d_and (d_isi1 h (pv 1) h.bt.bool (by decide +kernel)) (d_and (d_isi1 h (pv 0) h.bt.bool (by decide +kernel)) (d_one (d_cmp h .eq (pv 0) (pv 1)))))) (s_nil)) (s_nil)) (s_cons (s_if (d_val (d_isi1 h (pv 1) h.bt.int (by decide +kernel))) (s_cons (s_ret (d_and (d_isi1 h (pv 0) h.bt.int (by decide +kernel)) (d_one (d_cmp h .eq (pv 0) (pv 1))))) (s_nil)) (s_nil)) (s_cons (s_ret (d_and (d_isi1 h (pv 1) h.bt.str (by decide +kernel)) (d_and (d_isi1 h (pv 0) h.bt.str (by decide +kernel)) (d_one (d_cmp h .eq (pv 0) (pv 1)))))) (s_nil)))))
theorem ok0 {fd : FuncData} (F : Fun K "_law_so" "_law_so" st0 (fa 0) fd) (T : Tbl P w K mg base (k + 2) fa (spC K fa C (callF prog k)) tb nm pn) (re : ErrOk P w K mg base C) (xt : ExT P w K mg base fa xs qs) (bt : Bt mg) (hc : Cst mg) : FnOk P w K mg base (L2.CX P w) (k + 3) (fa 0) fd ps0 (spC K fa C (callF prog (k + 1)) 0) :=
  F.okX sc0 (fun vs H Q E z => len_ok (m := 2) (q := ⟨2, 3, b0⟩) rfl (.inl ⟨rfl, by decide, by show 3 < 1000; decide⟩) z) fun cdv A outer s H vs Q E hr z => ⟨_, der0 ⟨rfl, hr, sc0.nd, T, bt⟩ re (takes_of rfl rfl rfl rfl) (passes_of rfl) xt hc, body_ok (q := ⟨2, 3, b0⟩) rfl rfl (te_one re.te (by decide +kernel)) (fun _ _ _ _ => prog_tb) z⟩
theorem sc1 : FnScope N1 ps1 (defScope st1) := ⟨rfl, rfl, rfl, by decide +kernel, rfl, by decide +kernel, by decide +kernel⟩
theorem der1 {sp : Nat → Sp} {f : Addr} {cdv : Value} {A : Around} {outer : List Env} {s : Shared} {H : Hp} {E : XK} (h : Okx (cxOf (L2.CX P w) P w K mg base N1 "_law_numbers" (defScope st1) f cdv A outer s H E) (k + 2) fa sp tb nm pn) (re : ErrOk P w K mg base C) (tk : Takes (cxOf (L2.CX P w) P w K mg base N1 "_law_numbers" (defScope st1) f cdv A outer s H E) (fun cls d _ H => E cls d H)) (hp : PassesOwn (model (cxOf (L2.CX P w) P w K mg base N1 "_law_numbers" (defScope st1) f cdv A outer s H E).prog (cxOf (L2.CX P w) P w K mg base N1 "_law_numbers" (defScope st1) f cdv A outer s H E).w) (cxOf (L2.CX P w) P w K mg base N1 "_law_numbers" (defScope st1) f cdv A outer s H E).A (cxOf (L2.CX P w) P w K mg base N1 "_law_numbers" (defScope st1) f cdv A outer s H E).env (cxOf (L2.CX P w) P w K mg base N1 "_law_numbers" (defScope st1) f cdv A outer s H E).xe) (xt : ExT P w K mg base fa xs qs) (hc : Cst mg) :
    PSs (cxOf (L2.CX P w) P w K mg base N1 "_law_numbers" (defScope st1) f cdv A outer s H E) (defBody st1) (tSs K fa sp tb C (fun cls d _ H => E cls d H) b1) :=
  s_cons (s_newL h (d_nil)) (s_cons (s_for h hp (d_seq (d_sl (pv 0) (d_on) (d_os (d_int)))) (d_gn h) (s_cons (s_if (d_tcmp h .ge (pv 2) (d_pow (d_int) (d_int))) (s_cons (s_set h (pv 2)) (s_cons (s_for h hp (d_r1 h (d_int)) (d_gn h) (s_cons (s_if (d_tcmp h .eq (pv 3) (d_int)) (s_cons (s_brk) (s_nil)) (s_nil)) (s_cons (s_app (d_mod (d_intf h (d_cons (pv 3) (d_nil))) (d_int))) (s_cons (s_set h (d_div (pv 3) (d_int))) (s_nil))))) (s_nil))) (s_cons (s_for h hp (d_r1 h (d_int)) (d_gn h) (s_cons (s_set h (d_mod (d_intf h (d_cons (d_add (d_add (d_mul (pv 2) (d_int)) (d_mul (pv 4) (d_int))) (d_int)) (d_nil))) (d_int))) (s_cons (s_app (d_mod (d_intf h (d_cons (d_add (d_mul (pv 5) (d_int)) (pv 4)) (d_nil))) (d_int))) (s_nil)))) (s_nil))) (s_nil))) (s_cons (s_if (d_tcmp h .eq (d_len h (d_cons (pv 1) (d_nil))) (d_int)) (s_cons (s_app (d_int)) (s_nil)) (s_nil)) (s_cons (s_ret (pv 1)) (s_nil))))
theorem ok1 {fd : FuncData} (F : Fun K "_law_numbers" "_law_numbers" st1 (fa 1) fd) (T : Tbl P w K mg base (k + 2) fa (spC K fa C (callF prog k)) tb nm pn) (re : ErrOk P w K mg base C) (xt : ExT P w K mg base fa xs qs) (bt : Bt mg) (hc : Cst mg) : FnOk P w K mg base (L2.CX P w) (k + 3) (fa 1) fd ps1 (spC K fa C (callF prog (k + 1)) 1) :=
  F.okX sc1 (fun vs H Q E z => len_ok (m := 1) (q := ⟨1, 6, b1⟩) rfl (.inl ⟨rfl, by decide, by show 6 < 1000; decide⟩) z) fun cdv A outer s H vs Q E hr z => ⟨_, der1 ⟨rfl, hr, sc1.nd, T, bt⟩ re (takes_of rfl rfl rfl rfl) (passes_of rfl) xt hc, body_ok (q := ⟨1, 6, b1⟩) rfl rfl (te_one re.te (by decide +kernel)) (fun _ _ _ _ => prog_tb) z⟩
theorem sc2 : FnScope N2 ps2 (defScope st2) := ⟨rfl, rfl, rfl, by decide +kernel, rfl, by decide +kernel, by decide +kernel⟩
theorem der2 {sp : Nat → Sp} {f : Addr} {cdv : Value} {A : Around} {outer : List Env} {s : Shared} {H : Hp} {E : XK} (h : Okx (cxOf (L2.CX P w) P w K mg base N2 "_law_draw" (defScope st2) f cdv A outer s H E) (k + 2) fa sp tb nm pn) (re : ErrOk P w K mg base C) (tk : Takes (cxOf (L2.CX P w) P w K mg base N2 "_law_draw" (defScope st2) f cdv A outer s H E) (fun cls d _ H => E cls d H)) (hp : PassesOwn (model (cxOf (L2.CX P w) P w K mg base N2 "_law_draw" (defScope st2) f cdv A outer s H E).prog (cxOf (L2.CX P w) P w K mg base N2 "_law_draw" (defScope st2) f cdv A outer s H E).w) (cxOf (L2.CX P w) P w K mg base N2 "_law_draw" (defScope st2) f cdv A outer s H E).A (cxOf (L2.CX P w) P w K mg base N2 "_law_draw" (defScope st2) f cdv A outer s H E).env (cxOf (L2.CX P w) P w K mg base N2 "_law_draw" (defScope st2) f cdv A outer s H E).xe) (xt : ExT P w K mg base fa xs qs) (hc : Cst mg) :
    PSs (cxOf (L2.CX P w) P w K mg base N2 "_law_draw" (defScope st2) f cdv A outer s H E) (defBody st2) (tSs K fa sp tb C (fun cls d _ H => E cls d H) b2) :=
  s_cons (s_if (d_tcmp h .lt (pv 1) (d_len h (d_cons (pv 0) (d_nil)))) (s_cons (s_ret (d_mod (d_intf h (d_cons (d_ix (pv 0) (pv 1)) (d_nil))) (pv 2))) (s_nil)) (s_nil)) (s_cons (s_set h (d_mod (d_intf h (d_cons (d_add (d_add (d_mul (d_ix (pv 0) (d_mod (d_intf h (d_cons (pv 1) (d_nil))) (d_len h (d_cons (pv 0) (d_nil))))) (d_int)) (d_mul (pv 1) (d_int))) (d_int)) (d_nil))) (d_int))) (s_cons (s_ret (d_mod (d_intf h (d_cons (d_mod (d_intf h (d_cons (d_add (d_mul (pv 3) (d_int)) (pv 1)) (d_nil))) (d_int)) (d_nil))) (pv 2))) (s_nil)))
theorem ok2 {fd : FuncData} (F : Fun K "_law_draw" "_law_draw" st2 (fa 2) fd) (T : Tbl P w K mg base (k + 2) fa (spC K fa C (callF prog k)) tb nm pn) (re : ErrOk P w K mg base C) (xt : ExT P w K mg base fa xs qs) (bt : Bt mg) (hc : Cst mg) : FnOk P w K mg base (L2.CX P w) (k + 3) (fa 2) fd ps2 (spC K fa C (callF prog (k + 1)) 2) :=
  F.okX sc2 (fun vs H Q E z => len_ok (m := 3) (q := ⟨3, 4, b2⟩) rfl (.inl ⟨rfl, by decide, by show 4 < 1000; decide⟩) z) fun cdv A outer s H vs Q E hr z => ⟨_, der2 ⟨rfl, hr, sc2.nd, T, bt⟩ re (takes_of rfl rfl rfl rfl) (passes_of rfl) xt hc, body_ok (q := ⟨3, 4, b2⟩) rfl rfl (te_one re.te (by decide +kernel)) (fun _ _ _ _ => prog_tb) z⟩
theorem sc3 : FnScope N3 ps3 (defScope st3) := ⟨rfl, rfl, rfl, by decide +kernel, rfl, by decide +kernel, by decide +kernel⟩
theorem der3 {sp : Nat → Sp} {f : Addr} {cdv : Value} {A : Around} {outer : List Env} {s : Shared} {H : Hp} {E : XK} (h : Okx (cxOf (L2.CX P w) P w K mg base N3 "_law_take" (defScope st3) f cdv A outer s H E) (k + 2) fa sp tb nm pn) (re : ErrOk P w K mg base C) (tk : Takes (cxOf (L2.CX P w) P w K mg base N3 "_law_take" (defScope st3) f cdv A outer s H E) (fun cls d _ H => E cls d H)) (hp : PassesOwn (model (cxOf (L2.CX P w) P w K mg base N3 "_law_take" (defScope st3) f cdv A outer s H E).prog (cxOf (L2.CX P w) P w K mg base N3 "_law_take" (defScope st3) f cdv A outer s H E).w) (cxOf (L2.CX P w) P w K mg base N3 "_law_take" (defScope st3) f cdv A outer s H E).A (cxOf (L2.CX P w) P w K mg base N3 "_law_take" (defScope st3) f cdv A outer s H E).env (cxOf (L2.CX P w) P w K mg base N3 "_law_take" (defScope st3) f cdv A outer s H E).xe) (xt : ExT P w K mg base fa xs qs) (hc : Cst mg) :
    PSs (cxOf (L2.CX P w) P w K mg base N3 "_law_take" (defScope st3) f cdv A outer s H E) (defBody st3) (tSs K fa sp tb C (fun cls d _ H => E cls d H) b3) :=
  s_cons (s_setL (d_int) (d_add (d_ix (pv 1) (d_int)) (d_int))) (s_cons (s_ret (d_call h 2 (by decide) (d_cons (pv 0) (d_cons (d_sub (d_ix (pv 1) (d_int)) (d_int)) (d_cons (pv 2) (d_nil)))))) (s_nil))
theorem ok3 {fd : FuncData} (F : Fun K "_law_take" "_law_take" st3 (fa 3) fd) (T : Tbl P w K mg base (k + 2) fa (spC K fa C (callF prog k)) tb nm pn) (re : ErrOk P w K mg base C) (xt : ExT P w K mg base fa xs qs) (bt : Bt mg) (hc : Cst mg) : FnOk P w K mg base (L2.CX P w) (k + 3) (fa 3) fd ps3 (spC K fa C (callF prog (k + 1)) 3) :=
  F.okX sc3 (fun vs H Q E z => len_ok (m := 3) (q := ⟨3, 3, b3⟩) rfl (.inl ⟨rfl, by decide, by show 3 < 1000; decide⟩) z) fun cdv A outer s H vs Q E hr z => ⟨_, der3 ⟨rfl, hr, sc3.nd, T, bt⟩ re (takes_of rfl rfl rfl rfl) (passes_of rfl) xt hc, body_ok (q := ⟨3, 3, b3⟩) rfl rfl (te_one re.te (by decide +kernel)) (fun _ _ _ _ => prog_tb) z⟩
theorem sc4 : FnScope N4 ps4 (defScope st4) := ⟨rfl, rfl, rfl, by decide +kernel, rfl, by decide +kernel, by decide +kernel⟩
theorem der4 {sp : Nat → Sp} {f : Addr} {cdv : Value} {A : Around} {outer : List Env} {s : Shared} {H : Hp} {E : XK} (h : Okx (cxOf (L2.CX P w) P w K mg base N4 "_law_pick" (defScope st4) f cdv A outer s H E) (k + 2) fa sp tb nm pn) (re : ErrOk P w K mg base C) (tk : Takes (cxOf (L2.CX P w) P w K mg base N4 "_law_pick" (defScope st4) f cdv A outer s H E) (fun cls d _ H => E cls d H)) (hp : PassesOwn (model (cxOf (L2.CX P w) P w K mg base N4 "_law_pick" (defScope st4) f cdv A outer s H E).prog (cxOf (L2.CX P w) P w K mg base N4 "_law_pick" (defScope st4) f cdv A outer s H E).w) (cxOf (L2.CX P w) P w K mg base N4 "_law_pick" (defScope st4) f cdv A outer s H E).A (cxOf (L2.CX P w) P w K mg base N4 "_law_pick" (defScope st4) f cdv A outer s H E).env (cxOf (L2.CX P w) P w K mg base N4 "_law_pick" (defScope st4) f cdv A outer s H E).xe) (xt : ExT P w K mg base fa xs qs) (hc : Cst mg) :
    PSs (cxOf (L2.CX P w) P w K mg base N4 "_law_pick" (defScope st4) f cdv A outer s H E) (defBody st4) (tSs K fa sp tb C (fun cls d _ H => E cls d H) b4) :=
  s_cons (s_ret (d_ix (pv 2) (d_call h 3 (by decide) (d_cons (pv 0) (d_cons (pv 1) (d_cons (d_len h (d_cons (pv 2) (d_nil))) (d_nil))))))) (s_nil)
theorem ok4 {fd : FuncData} (F : Fun K "_law_pick" "_law_pick" st4 (fa 4) fd) (T : Tbl P w K mg base (k + 2) fa (spC K fa C (callF prog k)) tb nm pn) (re : ErrOk P w K mg base C) (xt : ExT P w K mg base fa xs qs) (bt : Bt mg) (hc : Cst mg) : FnOk P w K mg base (L2.CX P w) (k + 3) (fa 4) fd ps4 (spC K fa C (callF prog (k + 1)) 4) :=
  F.okX sc4 (fun vs H Q E z => len_ok (m := 3) (q := ⟨3, 3, b4⟩) rfl (.inl ⟨rfl, by decide, by show 3 < 1000; decide⟩) z) fun cdv A outer s H vs Q E hr z => ⟨_, der4 ⟨rfl, hr, sc4.nd, T, bt⟩ re (takes_of rfl rfl rfl rfl) (passes_of rfl) xt hc, body_ok (q := ⟨3, 3, b4⟩) rfl rfl (te_one re.te (by decide +kernel)) (fun _ _ _ _ => prog_tb) z⟩
theorem sc5 : FnScope N5 ps5 (defScope st5) := ⟨rfl, rfl, rfl, by decide +kernel, rfl, by decide +kernel, by decide +kernel⟩
theorem der5 {sp : Nat → Sp} {f : Addr} {cdv : Value} {A : Around} {outer : List Env} {s : Shared} {H : Hp} {E : XK} (h : Okx (cxOf (L2.CX P w) P w K mg base N5 "_law_of" (defScope st5) f cdv A outer s H E) (k + 2) fa sp tb nm pn) (re : ErrOk P w K mg base C) (tk : Takes (cxOf (L2.CX P w) P w K mg base N5 "_law_of" (defScope st5) f cdv A outer s H E) (fun cls d _ H => E cls d H)) (hp : PassesOwn (model (cxOf (L2.CX P w) P w K mg base N5 "_law_of" (defScope st5) f cdv A outer s H E).prog (cxOf (L2.CX P w) P w K mg base N5 "_law_of" (defScope st5) f cdv A outer s H E).w) (cxOf (L2.CX P w) P w K mg base N5 "_law_of" (defScope st5) f cdv A outer s H E).A (cxOf (L2.CX P w) P w K mg base N5 "_law_of" (defScope st5) f cdv A outer s H E).env (cxOf (L2.CX P w) P w K mg base N5 "_law_of" (defScope st5) f cdv A outer s H E).xe) (xt : ExT P w K mg base fa xs qs) (hc : Cst mg) :
    PSs (cxOf (L2.CX P w) P w K mg base N5 "_law_of" (defScope st5) f cdv A outer s H E) (defBody st5) (tSs K fa sp tb C (fun cls d _ H => E cls d H) b5) :=
  s_cons (s_set h (d_lst (d_cons (d_isE h xt (j := 7) q7 rfl rfl (pv 0)) (d_cons (d_isE h xt (j := 6) q6 rfl rfl (pv 0)) (d_cons (d_isE h xt (j := 5) q5 rfl rfl (pv 0)) (d_cons (d_isE h xt (j := 4) q4 rfl rfl (pv 0)) (d_nil))))))) (s_cons (s_ret (d_add (pv 1) (d_lst (d_cons (d_isE h xt (j := 3) q3 rfl rfl (pv 0)) (d_cons (d_isE h xt (j := 2) q2 rfl rfl (pv 0)) (d_cons (d_isE h xt (j := 1) q1 rfl rfl (pv 0)) (d_cons (d_isE h xt (j := 0) q0 rfl rfl (pv 0)) (d_nil)))))))) (s_nil))
theorem ok5 {fd : FuncData} (F : Fun K "_law_of" "_law_of" st5 (fa 5) fd) (T : Tbl P w K mg base (k + 2) fa (spC K fa C (callF prog k)) tb nm pn) (re : ErrOk P w K mg base C) (xt : ExT P w K mg base fa xs qs) (bt : Bt mg) (hc : Cst mg) : FnOk P w K mg base (L2.CX P w) (k + 3) (fa 5) fd ps5 (spC K fa C (callF prog (k + 1)) 5) :=
  F.okX sc5 (fun vs H Q E z => len_ok (m := 1) (q := ⟨1, 2, b5⟩) rfl (.inl ⟨rfl, by decide, by show 2 < 1000; decide⟩) z) fun cdv A outer s H vs Q E hr z => ⟨_, der5 ⟨rfl, hr, sc5.nd, T, bt⟩ re (takes_of rfl rfl rfl rfl) (passes_of rfl) xt hc, body_ok (q := ⟨1, 2, b5⟩) rfl rfl (te_one re.te (by decide +kernel)) (fun _ _ _ _ => prog_tb) z⟩
theorem sc6 : FnScope N6 ps6 (defScope st6) := ⟨rfl, rfl, rfl, by decide +kernel, rfl, by decide +kernel, by decide +kernel⟩
theorem der6 {sp : Nat → Sp} {f : Addr} {cdv : Value} {A : Around} {outer : List Env} {s : Shared} {H : Hp} {E : XK} (h : Okx (cxOf (L2.CX P w) P w K mg base N6 "_law_foreign" (defScope st6) f cdv A outer s H E) (k + 2) fa sp tb nm pn) (re : ErrOk P w K mg base C) (tk : Takes (cxOf (L2.CX P w) P w K mg base N6 "_law_foreign" (defScope st6) f cdv A outer s H E) (fun cls d _ H => E cls d H)) (hp : PassesOwn (model (cxOf (L2.CX P w) P w K mg base N6 "_law_foreign" (defScope st6) f cdv A outer s H E).prog (cxOf (L2.CX P w) P w K mg base N6 "_law_foreign" (defScope st6) f cdv A outer s H E).w) (cxOf (L2.CX P w) P w K mg base N6 "_law_foreign" (defScope st6) f cdv A outer s H E).A (cxOf (L2.CX P w) P w K mg base N6 "_law_foreign" (defScope st6) f cdv A outer s H E).env (cxOf (L2.CX P w) P w K mg base N6 "_law_foreign" (defScope st6) f cdv A outer s H E).xe) (xt : ExT P w K mg base fa xs qs) (hc : Cst mg) :
    PSs (cxOf (L2.CX P w) P w K mg base N6 "_law_foreign" (defScope st6) f cdv A outer s H E) (defBody st6) (tSs K fa sp tb C (fun cls d _ H => E cls d H) b6) :=
  s_cons (s_if (d_w (d_wor (d_val (d_isE h xt (j := 11) q11 rfl rfl (pv 0))) (d_wor1 (d_val (d_isE h xt (j := 10) q10 rfl rfl (pv 0)))))) (s_cons (s_ret (d_bl)) (s_nil)) (s_nil)) (s_cons (s_ret (d_or (d_isE h xt (j := 9) q9 rfl rfl (pv 0)) (d_one (d_not (d_isE h xt (j := 8) q8 rfl rfl (pv 0)))))) (s_nil))
theorem ok6 {fd : FuncData} (F : Fun K "_law_foreign" "_law_foreign" st6 (fa 6) fd) (T : Tbl P w K mg base (k + 2) fa (spC K fa C (callF prog k)) tb nm pn) (re : ErrOk P w K mg base C) (xt : ExT P w K mg base fa xs qs) (bt : Bt mg) (hc : Cst mg) : FnOk P w K mg base (L2.CX P w) (k + 3) (fa 6) fd ps6 (spC K fa C (callF prog (k + 1)) 6) :=
  F.okX sc6 (fun vs H Q E z => len_ok (m := 1) (q := ⟨1, 1, b6⟩) rfl (.inl ⟨rfl, by decide, by show 1 < 1000; decide⟩) z) fun cdv A outer s H vs Q E hr z => ⟨_, der6 ⟨rfl, hr, sc6.nd, T, bt⟩ re (takes_of rfl rfl rfl rfl) (passes_of rfl) xt hc, body_ok (q := ⟨1, 1, b6⟩) rfl rfl (te_one re.te (by decide +kernel)) (fun _ _ _ _ => prog_tb) z⟩
theorem sc7 : FnScope N7 ps7 (defScope st7) := ⟨rfl, rfl, rfl, by decide +kernel, rfl, by decide +kernel, by decide +kernel⟩
theorem der7 {sp : Nat → Sp} {f : Addr} {cdv : Value} {A : Around} {outer : List Env} {s : Shared} {H : Hp} {E : XK} (h : Okx (cxOf (L2.CX P w) P w K mg base N7 "_law_caught" (defScope st7) f cdv A outer s H E) (k + 2) fa sp tb nm pn) (re : ErrOk P w K mg base C) (tk : Takes (cxOf (L2.CX P w) P w K mg base N7 "_law_caught" (defScope st7) f cdv A outer s H E) (fun cls d _ H => E cls d H)) (hp : PassesOwn (model (cxOf (L2.CX P w) P w K mg base N7 "_law_caught" (defScope st7) f cdv A outer s H E).prog (cxOf (L2.CX P w) P w K mg base N7 "_law_caught" (defScope st7) f cdv A outer s H E).w) (cxOf (L2.CX P w) P w K mg base N7 "_law_caught" (defScope st7) f cdv A outer s H E).A (cxOf (L2.CX P w) P w K mg base N7 "_law_caught" (defScope st7) f cdv A outer s H E).env (cxOf (L2.CX P w) P w K mg base N7 "_law_caught" (defScope st7) f cdv A outer s H E).xe) (xt : ExT P w K mg base fa xs qs) (hc : Cst mg) :
    PSs (cxOf (L2.CX P w) P w K mg base N7 "_law_caught" (defScope st7) f cdv A outer s H E) (defBody st7) (tSs K fa sp tb C (fun cls d _ H => E cls d H) b7) :=
  s_cons (s_tryN h xt tk (j := 3) x7 x4 q3 rfl rfl rfl rfl rfl rfl rfl rfl rfl xt.gB (xt.ex 7 (by decide)) (xt.ex 4 (by decide)) (fun _ _ => d_tcmp (Okx.tr h) .eq (pv 0) (d_int)) (fun _ _ => pv 0)) (s_nil)
theorem ok7 {fd : FuncData} (F : Fun K "_law_caught" "_law_caught" st7 (fa 7) fd) (T : Tbl P w K mg base (k + 2) fa (spC K fa C (callF prog k)) tb nm pn) (re : ErrOk P w K mg base C) (xt : ExT P w K mg base fa xs qs) (bt : Bt mg) (hc : Cst mg) : FnOk P w K mg base (L2.CX P w) (k + 3) (fa 7) fd ps7 (spC K fa C (callF prog (k + 1)) 7) :=
  F.okX sc7 (fun vs H Q E z => len_ok (m := 1) (q := ⟨1, 2, b7⟩) rfl (.inl ⟨rfl, by decide, by show 2 < 1000; decide⟩) z) fun cdv A outer s H vs Q E hr z => ⟨_, der7 ⟨rfl, hr, sc7.nd, T, bt⟩ re (takes_of rfl rfl rfl rfl) (passes_of rfl) xt hc, body_ok (q := ⟨1, 2, b7⟩) rfl rfl (te_one re.te (by decide +kernel)) (fun _ _ _ _ => prog_tb) z⟩
theorem sc8 : FnScope N8 ps8 (defScope st8) := ⟨rfl, rfl, rfl, by decide +kernel, rfl, by decide +kernel, by decide +kernel⟩
theorem der8 {sp : Nat → Sp} {f : Addr} {cdv : Value} {A : Around} {outer : List Env} {s : Shared} {H : Hp} {E : XK} (h : Okx (cxOf (L2.CX P w) P w K mg base N8 "law" (defScope st8) f cdv A outer s H E) (k + 2) fa sp tb nm pn) (re : ErrOk P w K mg base C) (tk : Takes (cxOf (L2.CX P w) P w K mg base N8 "law" (defScope st8) f cdv A outer s H E) (fun cls d _ H => E cls d H)) (hp : PassesOwn (model (cxOf (L2.CX P w) P w K mg base N8 "law" (defScope st8) f cdv A outer s H E).prog (cxOf (L2.CX P w) P w K mg base N8 "law" (defScope st8) f cdv A outer s H E).w) (cxOf (L2.CX P w) P w K mg base N8 "law" (defScope st8) f cdv A outer s H E).A (cxOf (L2.CX P w) P w K mg base N8 "law" (defScope st8) f cdv A outer s H E).env (cxOf (L2.CX P w) P w K mg base N8 "law" (defScope st8) f cdv A outer s H E).xe) (xt : ExT P w K mg base fa xs qs) (hc : Cst mg) :
    PSs (cxOf (L2.CX P w) P w K mg base N8 "law" (defScope st8) f cdv A outer s H E) (defBody st8) (tSs K fa sp tb C (fun cls d _ H => E cls d H) b8) :=
  s_cons (s_set h (d_call h 1 (by decide) (d_cons (pv 0) (d_nil)))) (s_cons (s_newL h (d_cons (d_int) (d_nil))) (s_cons (s_set h (d_sub (d_call h 3 (by decide) (d_cons (pv 1) (d_cons (pv 2) (d_cons (d_int) (d_nil))))) (d_int))) (s_cons (s_set h (d_call h 4 (by decide) (d_cons (pv 1) (d_cons (pv 2) (d_cons (d_lst (d_cons (d_non) (d_cons (d_neg (pv 3)) (d_cons (d_str) (d_cons (d_tup (d_cons (pv 3) (d_cons (d_int) (d_nil)))) (d_cons (d_bl) (d_nil))))))) (d_nil)))))) (s_cons (s_for h hp (d_seq (d_lst (d_cons (d_mkE h xt 0 x0 "at" rfl rfl rfl (pv 3)) (d_cons (d_mkE h xt 1 x1 "at" rfl rfl rfl (pv 3)) (d_cons (d_mkE h xt 2 x2 "at" rfl rfl rfl (pv 3)) (d_cons (d_mkEK h xt 0 x0 "at" rfl rfl rfl (k_cons (pv 3) (k_nil))) (d_cons (d_mkEK h xt 1 x1 "at" rfl rfl rfl (k_cons (pv 3) (k_nil))) (d_cons (d_mkEK h xt 2 x2 "at" rfl rfl rfl (k_cons (pv 3) (k_nil))) (d_nil))))))))) (d_gn h) (s_cons (s_if (d_tnot (d_val (d_call h 0 (by decide) (d_cons (d_efld xt [0, 1, 2] (pv 5)) (d_cons (pv 3) (d_nil)))))) (s_cons (s_ret (d_bl)) (s_nil)) (s_nil)) (s_nil))) (s_cons (s_set h (d_lst (d_cons (d_tup (d_cons (d_efld xt [3] (d_mkE h xt 3 x3 "fact" rfl rfl rfl (pv 4))) (d_cons (d_efld xt [3] (d_mkEK h xt 3 x3 "fact" rfl rfl rfl (k_cons (pv 4) (k_nil)))) (d_nil)))) (d_cons (d_tup (d_cons (d_efld xt [4, 5] (d_mkE h xt 4 x4 "call" rfl rfl rfl (pv 4))) (d_cons (d_efld xt [4, 5] (d_mkEK h xt 4 x4 "call" rfl rfl rfl (k_cons (pv 4) (k_nil)))) (d_nil)))) (d_nil))))) (s_cons (s_for h hp (d_seq (d_add (pv 6) (d_lst (d_cons (d_tup (d_cons (d_efld xt [4, 5] (d_mkE h xt 5 x5 "call" rfl rfl rfl (pv 4))) (d_cons (d_efld xt [4, 5] (d_mkEK h xt 5 x5 "call" rfl rfl rfl (k_cons (pv 4) (k_nil)))) (d_nil)))) (d_nil))))) (d_gn h) (s_cons (s_if (d_tnot (d_val (d_call h 0 (by decide) (d_cons (pv 7) (d_cons (d_tup (d_cons (pv 4) (d_cons (pv 4) (d_nil)))) (d_nil)))))) (s_cons (s_ret (d_bl)) (s_nil)) (s_nil)) (s_nil))) (s_cons (s_set h (d_lst (d_cons (d_mkE h xt 0 x0 "at" rfl rfl rfl (pv 3)) (d_cons (d_mkE h xt 1 x1 "at" rfl rfl rfl (pv 3)) (d_cons (d_mkE h xt 2 x2 "at" rfl rfl rfl (pv 3)) (d_cons (d_mkE h xt 3 x3 "fact" rfl rfl rfl (pv 4)) (d_cons (d_mkE h xt 4 x4 "call" rfl rfl rfl (pv 4)) (d_cons (d_mkE h xt 5 x5 "call" rfl rfl rfl (pv 4)) (d_cons (d_mkE0 h xt 6 x6 rfl rfl rfl) (d_cons (d_mkE0 h xt 7 x7 rfl rfl rfl) (d_nil))))))))))) (s_cons (s_for h hp (d_r1 h (d_int)) (d_gn h) (s_cons (s_if (d_w (d_wor (d_tcmp h .ne (d_call h 5 (by decide) (d_cons (d_ix (pv 8) (pv 9)) (d_nil))) (d_comp h [("one", 10)] (d_r1 h (d_int)) (blkOk_by (N := N8) (sc := defScope st8) (by decide +kernel)) (fun _ _ _ _ _ => d_gn h.blk) (fun _ _ _ _ _ => d_tn) (fun _ _ _ _ _ => d_cmp h.blk .eq (pv 10) (pv 9)))) (d_wor (d_val (d_call h 6 (by decide) (d_cons (d_ix (pv 8) (pv 9)) (d_nil)))) (d_wor1 (d_tnot (d_val (d_isE h xt (j := 12) q12 rfl rfl (d_ix (pv 8) (pv 9))))))))) (s_cons (s_ret (d_bl)) (s_nil)) (s_nil)) (s_nil))) (s_cons (s_ret (d_and (d_not (d_call h 7 (by decide) (d_cons (d_int) (d_nil)))) (d_one (d_call h 7 (by decide) (d_cons (d_add (d_int) (d_call h 3 (by decide) (d_cons (pv 1) (d_cons (pv 2) (d_cons (d_int) (d_nil)))))) (d_nil)))))) (s_nil))))))))))
theorem ok8 {fd : FuncData} (F : Fun K "law" "law" st8 (fa 8) fd) (T : Tbl P w K mg base (k + 2) fa (spC K fa C (callF prog k)) tb nm pn) (re : ErrOk P w K mg base C) (xt : ExT P w K mg base fa xs qs) (bt : Bt mg) (hc : Cst mg) : FnOk P w K mg base (L2.CX P w) (k + 3) (fa 8) fd ps8 (spC K fa C (callF prog (k + 1)) 8) :=
  F.okX sc8 (fun vs H Q E z => len_ok (m := 1) (q := ⟨1, 11, b8⟩) rfl (.inl ⟨rfl, by decide, by show 11 < 1000; decide⟩) z) fun cdv A outer s H vs Q E hr z => ⟨_, der8 ⟨rfl, hr, sc8.nd, T, bt⟩ re (takes_of rfl rfl rfl rfl) (passes_of rfl) xt hc, body_ok (q := ⟨1, 11, b8⟩) rfl rfl (te_one re.te (by decide +kernel)) (fun _ _ _ _ => prog_tb) z⟩
end
section
variable {P : Program} {w : World} {K : PySem.W.Frag} {mg : Str → Option Value} {base : Heap} {fa : FA} {C : Addr}
theorem lev (re : ErrOk P w K mg base C) (xt : ExT P w K mg base fa xs qs) (bt : Bt mg) (hc : Cst mg) (eP : fa.P = P) (ew : fa.w = w) {fd0 : FuncData} (F0 : Fun K "_law_so" "_law_so" st0 (fa 0) fd0) (m0 : mg "_law_so" = some (.ref (fa 0))) {fd1 : FuncData} (F1 : Fun K "_law_numbers" "_law_numbers" st1 (fa 1) fd1) (m1 : mg "_law_numbers" = some (.ref (fa 1))) {fd2 : FuncData} (F2 : Fun K "_law_draw" "_law_draw" st2 (fa 2) fd2) (m2 : mg "_law_draw" = some (.ref (fa 2))) {fd3 : FuncData} (F3 : Fun K "_law_take" "_law_take" st3 (fa 3) fd3) (m3 : mg "_law_take" = some (.ref (fa 3))) {fd4 : FuncData} (F4 : Fun K "_law_pick" "_law_pick" st4 (fa 4) fd4) (m4 : mg "_law_pick" = some (.ref (fa 4))) {fd5 : FuncData} (F5 : Fun K "_law_of" "_law_of" st5 (fa 5) fd5) (m5 : mg "_law_of" = some (.ref (fa 5))) {fd6 : FuncData} (F6 : Fun K "_law_foreign" "_law_foreign" st6 (fa 6) fd6) (m6 : mg "_law_foreign" = some (.ref (fa 6))) {fd7 : FuncData} (F7 : Fun K "_law_caught" "_law_caught" st7 (fa 7) fd7) (m7 : mg "_law_caught" = some (.ref (fa 7))) {fd8 : FuncData} (F8 : Fun K "law" "law" st8 (fa 8) fd8) (m8 : mg "law" = some (.ref (fa 8))) (B0 : Binds K fd0 ps0 [] ∧ KBd K fd0 ps0) (B1 : Binds K fd1 ps1 [] ∧ KBd K fd1 ps1) (B2 : Binds K fd2 ps2 [] ∧ KBd K fd2 ps2) (B3 : Binds K fd3 ps3 [] ∧ KBd K fd3 ps3) (B4 : Binds K fd4 ps4 [] ∧ KBd K fd4 ps4) (B5 : Binds K fd5 ps5 [] ∧ KBd K fd5 ps5) (B6 : Binds K fd6 ps6 [] ∧ KBd K fd6 ps6) (B7 : Binds K fd7 ps7 [] ∧ KBd K fd7 ps7) (B8 : Binds K fd8 ps8 [] ∧ KBd K fd8 ps8) : ∀ k, Tbl P w K mg base (k + 2) fa (spC K fa C (callF prog k)) tb nm pn := by
  intro k
  induction k with
  | zero =>
    refine ⟨eP, ew, fun f hf => ?_⟩
    match f, hf with
    | 0, _ => exact ⟨fd0, fn_zero, F0.kp, B0.1, .inl m0, B0.2⟩
    | 1, _ => exact ⟨fd1, fn_zero, F1.kp, B1.1, .inl m1, B1.2⟩
    | 2, _ => exact ⟨fd2, fn_zero, F2.kp, B2.1, .inl m2, B2.2⟩
    | 3, _ => exact ⟨fd3, fn_zero, F3.kp, B3.1, .inl m3, B3.2⟩
    | 4, _ => exact ⟨fd4, fn_zero, F4.kp, B4.1, .inl m4, B4.2⟩
    | 5, _ => exact ⟨fd5, fn_zero, F5.kp, B5.1, .inl m5, B5.2⟩
    | 6, _ => exact ⟨fd6, fn_zero, F6.kp, B6.1, .inl m6, B6.2⟩
    | 7, _ => exact ⟨fd7, fn_zero, F7.kp, B7.1, .inl m7, B7.2⟩
    | 8, _ => exact ⟨fd8, fn_zero, F8.kp, B8.1, .inl m8, B8.2⟩
    | n + 9, hf => exact absurd hf (Nat.not_lt.mpr (Nat.le_add_left _ _))
  | succ k T =>
    refine ⟨eP, ew, fun f hf => ?_⟩
    match f, hf with
    | 0, _ => exact ⟨fd0, ok0 F0 T re xt bt hc, F0.kp, B0.1, .inl m0, B0.2⟩
    | 1, _ => exact ⟨fd1, ok1 F1 T re xt bt hc, F1.kp, B1.1, .inl m1, B1.2⟩
    | 2, _ => exact ⟨fd2, ok2 F2 T re xt bt hc, F2.kp, B2.1, .inl m2, B2.2⟩
    | 3, _ => exact ⟨fd3, ok3 F3 T re xt bt hc, F3.kp, B3.1, .inl m3, B3.2⟩
    | 4, _ => exact ⟨fd4, ok4 F4 T re xt bt hc, F4.kp, B4.1, .inl m4, B4.2⟩
    | 5, _ => exact ⟨fd5, ok5 F5 T re xt bt hc, F5.kp, B5.1, .inl m5, B5.2⟩
    | 6, _ => exact ⟨fd6, ok6 F6 T re xt bt hc, F6.kp, B6.1, .inl m6, B6.2⟩
    | 7, _ => exact ⟨fd7, ok7 F7 T re xt bt hc, F7.kp, B7.1, .inl m7, B7.2⟩
    | 8, _ => exact ⟨fd8, ok8 F8 T re xt bt hc, F8.kp, B8.1, .inl m8, B8.2⟩
    | n + 9, hf => exact absurd hf (Nat.not_lt.mpr (Nat.le_add_left _ _))
end
abbrev fas (P : Program) (w : World) (f0 f1 f2 f3 f4 f5 f6 f7 f8 C y1 y2 y3 y4 y5 y6 y7 B : Addr) : FA := ⟨fun f => [f0, f1, f2, f3, f4, f5, f6, f7, f8].getD f 0, P, w, [], fun _ => 0, fun k => [C, y1, y2, y3, y4, y5, y6, y7, B].getD k 0, fun k => [("at" : Str), ("at" : Str), ("at" : Str), ("fact" : Str), ("call" : Str), ("call" : Str), ("" : Str), ("" : Str)].getD k ""⟩
abbrev Meant (lv : Nat) : Prop := ∀ ns : List Int, ns.length ≤ 63 → ∃ S, callF prog lv 8 [.d (.scr ns)] [] = some (.bl true, S)
theorem sp_law {lv : Nat} (M : Meant lv) {K : PySem.W.Frag} {fa : FA} {C : Addr} {H : Hp} {a : Addr} {ns : List Int} (h0 : LamX.Tabs fa.tabs H) (hl : ns.length ≤ 63) (hS : SqL K H a (ns.map V.int)) {Q : VK} {E : XK} (h : ∀ H, Q (.bl true) H) : spC K fa C (callF prog lv) 8 [.ref a] H Q E :=
  spLaw_of h0 (M ns hl) hS h
theorem all_mk {l : PySem.W.OpenLaw} {w : World} {K : PySem.W.Frag} {h : Heap} {mg : Str → Option Value} {fa0 C B fI f0 f1 f2 f3 f4 f5 f6 f7 f8 y1 y2 y3 y4 y5 y6 y7 : Addr} (X : K.In h) (G : h.Ns mainGlobals mg) (hfa : mg "law" = some (.ref fa0)) {lv : Nat} (M : Meant (lv + 1))
    {od0 an0 od1 an1 od2 an2 od3 an3 od4 an4 od5 an5 od6 an6 od7 an7 od8 an8 odI anI : Option Addr} {sl0 sl1 sl2 sl3 sl4 sl5 sl6 sl7 sl8 slI : Array (Option Value)} {oc0 kV0 dc0 pm0 cd0 ct0 oc1 kV1 dc1 pm1 cd1 ct1 oc2 kV2 dc2 pm2 cd2 ct2 oc3 kV3 dc3 pm3 cd3 ct3 oc4 kV4 dc4 pm4 cd4 ct4 oc5 kV5 dc5 pm5 cd5 ct5 oc6 kV6 dc6 pm6 cd6 ct6 oc7 kV7 dc7 pm7 cd7 ct7 oc8 kV8 dc8 pm8 cd8 ct8 ocI kVI dcI pmI cdI ctI : Value} 
    {nmE qE : Str} {NE : Addr} {bsE : List Value} {snE : List Str} {subE : List Value} {abE : Bool} {colE : Option Bool} {ddE : Option Addr} {mE0 mE1 mE2 mE3 mE5 : Option Value}
    {nm1 q1 : Str} {N1 z1 : Addr} {bs1 : List Value} {sn1 : List Str} {su1 : List Value} {ab1 : Bool} {co1 : Option Bool} {dd1 : Option Addr} {ma1 mb1 mc1 md1 me1 : Option Value} {oc_1 kV_1 dc_1 pm_1 cd_1 ct_1 : Value} {od_1 an_1 : Option Addr} {sl_1 : Array (Option Value)}
    {nm2 q2 : Str} {N2 z2 : Addr} {bs2 : List Value} {sn2 : List Str} {su2 : List Value} {ab2 : Bool} {co2 : Option Bool} {dd2 : Option Addr} {ma2 mb2 mc2 md2 me2 : Option Value} {oc_2 kV_2 dc_2 pm_2 cd_2 ct_2 : Value} {od_2 an_2 : Option Addr} {sl_2 : Array (Option Value)}
    {nm3 q3 : Str} {N3 z3 : Addr} {bs3 : List Value} {sn3 : List Str} {su3 : List Value} {ab3 : Bool} {co3 : Option Bool} {dd3 : Option Addr} {ma3 mb3 mc3 md3 me3 : Option Value} {oc_3 kV_3 dc_3 pm_3 cd_3 ct_3 : Value} {od_3 an_3 : Option Addr} {sl_3 : Array (Option Value)}
    {nm4 q4 : Str} {N4 z4 : Addr} {bs4 : List Value} {sn4 : List Str} {su4 : List Value} {ab4 : Bool} {co4 : Option Bool} {dd4 : Option Addr} {ma4 mb4 mc4 md4 me4 : Option Value} {oc_4 kV_4 dc_4 pm_4 cd_4 ct_4 : Value} {od_4 an_4 : Option Addr} {sl_4 : Array (Option Value)}
    {nm5 q5 : Str} {N5 z5 : Addr} {bs5 : List Value} {sn5 : List Str} {su5 : List Value} {ab5 : Bool} {co5 : Option Bool} {dd5 : Option Addr} {ma5 mb5 mc5 md5 me5 : Option Value} {oc_5 kV_5 dc_5 pm_5 cd_5 ct_5 : Value} {od_5 an_5 : Option Addr} {sl_5 : Array (Option Value)}
    (yC1 : PySem.W.nsIn K mainGlobals "BadText" = some (some (.ref y1)))
    (yL1 : K.lookup y1 = some (excClassObj nm1 q1 y1 N1 bs1 [.ref B, .type "Exception", .type "BaseException", .type "object"] true sn1 su1 ab1 co1 dd1 ma1 mb1 mc1 md1 me1 "Exception.__new__"))
    (ya1 : PySem.W.findIn K (.ref y1) "__setattr__" = some (some (.builtin "object.__setattr__")))
    (ye1 : PySem.W.findIn K (.ref y1) "at" = some none)
    (yi1 : PySem.W.findIn K (.ref y1) "__init__" = some (some (.ref z1)))
    (yt1 : PySem.W.typeIn K (.ref z1) = some (.type "function"))
    (yl1 : K.lookup z1 = some ⟨oc_1, od_1, .func (PySem.W.fnOf "__init__" "BadText.__init__" (defArgs stE0) (defBody stE0) (defScope stE0) .none kV_1 dc_1 pm_1 an_1 cd_1 ct_1), sl_1⟩)
    (yc1 : PySem.W.codeIn K cd_1 "BadText.__init__" = true)
    (yk1 : PySem.W.keepIn K (.ref z1) = true)
    (yb1 : PySem.W.findIn K (.ref y1) "__getattribute__" = some (some (.builtin "BaseException.__getattribute__")))
    (yd1 : PySem.W.findIn K (.ref y1) "__getattr__" = some none)
    (yh1 : PySem.W.hasDictIn K y1 = true)
    (yK1 : PySem.W.keepIn K (.ref y1) = true)
    (yS1 : PySem.W.subIn K (.ref y1) (.type "BaseException") = some true)
    (yT1 : PySem.W.typeIn K (.ref y1) = some (.type "type"))
    (yI1 : PySem.W.isClsIn K y1 = true)
    (yC2 : PySem.W.nsIn K mainGlobals "BadRow" = some (some (.ref y2)))
    (yL2 : K.lookup y2 = some (excClassObj nm2 q2 y2 N2 bs2 [.ref B, .type "Exception", .type "BaseException", .type "object"] true sn2 su2 ab2 co2 dd2 ma2 mb2 mc2 md2 me2 "Exception.__new__"))
    (ya2 : PySem.W.findIn K (.ref y2) "__setattr__" = some (some (.builtin "object.__setattr__")))
    (ye2 : PySem.W.findIn K (.ref y2) "at" = some none)
    (yi2 : PySem.W.findIn K (.ref y2) "__init__" = some (some (.ref z2)))
    (yt2 : PySem.W.typeIn K (.ref z2) = some (.type "function"))
    (yl2 : K.lookup z2 = some ⟨oc_2, od_2, .func (PySem.W.fnOf "__init__" "BadRow.__init__" (defArgs stE1) (defBody stE1) (defScope stE1) .none kV_2 dc_2 pm_2 an_2 cd_2 ct_2), sl_2⟩)
    (yc2 : PySem.W.codeIn K cd_2 "BadRow.__init__" = true)
    (yk2 : PySem.W.keepIn K (.ref z2) = true)
    (yb2 : PySem.W.findIn K (.ref y2) "__getattribute__" = some (some (.builtin "BaseException.__getattribute__")))
    (yd2 : PySem.W.findIn K (.ref y2) "__getattr__" = some none)
    (yh2 : PySem.W.hasDictIn K y2 = true)
    (yK2 : PySem.W.keepIn K (.ref y2) = true)
    (yS2 : PySem.W.subIn K (.ref y2) (.type "BaseException") = some true)
    (yT2 : PySem.W.typeIn K (.ref y2) = some (.type "type"))
    (yI2 : PySem.W.isClsIn K y2 = true)
    (yC3 : PySem.W.nsIn K mainGlobals "Clash" = some (some (.ref y3)))
    (yL3 : K.lookup y3 = some (excClassObj nm3 q3 y3 N3 bs3 [.ref B, .type "Exception", .type "BaseException", .type "object"] true sn3 su3 ab3 co3 dd3 ma3 mb3 mc3 md3 me3 "Exception.__new__"))
    (ya3 : PySem.W.findIn K (.ref y3) "__setattr__" = some (some (.builtin "object.__setattr__")))
    (ye3 : PySem.W.findIn K (.ref y3) "fact" = some none)
    (yi3 : PySem.W.findIn K (.ref y3) "__init__" = some (some (.ref z3)))
    (yt3 : PySem.W.typeIn K (.ref z3) = some (.type "function"))
    (yl3 : K.lookup z3 = some ⟨oc_3, od_3, .func (PySem.W.fnOf "__init__" "Clash.__init__" (defArgs stE2) (defBody stE2) (defScope stE2) .none kV_3 dc_3 pm_3 an_3 cd_3 ct_3), sl_3⟩)
    (yc3 : PySem.W.codeIn K cd_3 "Clash.__init__" = true)
    (yk3 : PySem.W.keepIn K (.ref z3) = true)
    (yb3 : PySem.W.findIn K (.ref y3) "__getattribute__" = some (some (.builtin "BaseException.__getattribute__")))
    (yd3 : PySem.W.findIn K (.ref y3) "__getattr__" = some none)
    (yh3 : PySem.W.hasDictIn K y3 = true)
    (yK3 : PySem.W.keepIn K (.ref y3) = true)
    (yS3 : PySem.W.subIn K (.ref y3) (.type "BaseException") = some true)
    (yT3 : PySem.W.typeIn K (.ref y3) = some (.type "type"))
    (yI3 : PySem.W.isClsIn K y3 = true)
    (yC4 : PySem.W.nsIn K mainGlobals "NoCall" = some (some (.ref y4)))
    (yL4 : K.lookup y4 = some (excClassObj nm4 q4 y4 N4 bs4 [.ref B, .type "Exception", .type "BaseException", .type "object"] true sn4 su4 ab4 co4 dd4 ma4 mb4 mc4 md4 me4 "Exception.__new__"))
    (ya4 : PySem.W.findIn K (.ref y4) "__setattr__" = some (some (.builtin "object.__setattr__")))
    (ye4 : PySem.W.findIn K (.ref y4) "call" = some none)
    (yi4 : PySem.W.findIn K (.ref y4) "__init__" = some (some (.ref z4)))
    (yt4 : PySem.W.typeIn K (.ref z4) = some (.type "function"))
    (yl4 : K.lookup z4 = some ⟨oc_4, od_4, .func (PySem.W.fnOf "__init__" "NoCall.__init__" (defArgs stE3) (defBody stE3) (defScope stE3) .none kV_4 dc_4 pm_4 an_4 cd_4 ct_4), sl_4⟩)
    (yc4 : PySem.W.codeIn K cd_4 "NoCall.__init__" = true)
    (yk4 : PySem.W.keepIn K (.ref z4) = true)
    (yb4 : PySem.W.findIn K (.ref y4) "__getattribute__" = some (some (.builtin "BaseException.__getattribute__")))
    (yd4 : PySem.W.findIn K (.ref y4) "__getattr__" = some none)
    (yh4 : PySem.W.hasDictIn K y4 = true)
    (yK4 : PySem.W.keepIn K (.ref y4) = true)
    (yS4 : PySem.W.subIn K (.ref y4) (.type "BaseException") = some true)
    (yT4 : PySem.W.typeIn K (.ref y4) = some (.type "type"))
    (yI4 : PySem.W.isClsIn K y4 = true)
    (yC5 : PySem.W.nsIn K mainGlobals "TakenCall" = some (some (.ref y5)))
    (yL5 : K.lookup y5 = some (excClassObj nm5 q5 y5 N5 bs5 [.ref B, .type "Exception", .type "BaseException", .type "object"] true sn5 su5 ab5 co5 dd5 ma5 mb5 mc5 md5 me5 "Exception.__new__"))
    (ya5 : PySem.W.findIn K (.ref y5) "__setattr__" = some (some (.builtin "object.__setattr__")))
    (ye5 : PySem.W.findIn K (.ref y5) "call" = some none)
    (yi5 : PySem.W.findIn K (.ref y5) "__init__" = some (some (.ref z5)))
    (yt5 : PySem.W.typeIn K (.ref z5) = some (.type "function"))
    (yl5 : K.lookup z5 = some ⟨oc_5, od_5, .func (PySem.W.fnOf "__init__" "TakenCall.__init__" (defArgs stE4) (defBody stE4) (defScope stE4) .none kV_5 dc_5 pm_5 an_5 cd_5 ct_5), sl_5⟩)
    (yc5 : PySem.W.codeIn K cd_5 "TakenCall.__init__" = true)
    (yk5 : PySem.W.keepIn K (.ref z5) = true)
    (yb5 : PySem.W.findIn K (.ref y5) "__getattribute__" = some (some (.builtin "BaseException.__getattribute__")))
    (yd5 : PySem.W.findIn K (.ref y5) "__getattr__" = some none)
    (yh5 : PySem.W.hasDictIn K y5 = true)
    (yK5 : PySem.W.keepIn K (.ref y5) = true)
    (yS5 : PySem.W.subIn K (.ref y5) (.type "BaseException") = some true)
    (yT5 : PySem.W.typeIn K (.ref y5) = some (.type "type"))
    (yI5 : PySem.W.isClsIn K y5 = true)
    (yC6 : PySem.W.nsIn K mainGlobals "NoMoney" = some (some (.ref y6)))
    (yx6 : PySem.W.excIn K y6 [.type "Exception", .type "BaseException", .type "object"] "Exception.__new__" = true)
    (yb6 : PySem.W.findIn K (.ref y6) "__getattribute__" = some (some (.builtin "BaseException.__getattribute__")))
    (yd6 : PySem.W.findIn K (.ref y6) "__getattr__" = some none)
    (yh6 : PySem.W.hasDictIn K y6 = true)
    (yK6 : PySem.W.keepIn K (.ref y6) = true)
    (yS6 : PySem.W.subIn K (.ref y6) (.type "BaseException") = some true)
    (yT6 : PySem.W.typeIn K (.ref y6) = some (.type "type"))
    (yI6 : PySem.W.isClsIn K y6 = true)
    (yC7 : PySem.W.nsIn K mainGlobals "NotNow" = some (some (.ref y7)))
    (yx7 : PySem.W.excIn K y7 [.type "Exception", .type "BaseException", .type "object"] "Exception.__new__" = true)
    (yb7 : PySem.W.findIn K (.ref y7) "__getattribute__" = some (some (.builtin "BaseException.__getattribute__")))
    (yd7 : PySem.W.findIn K (.ref y7) "__getattr__" = some none)
    (yh7 : PySem.W.hasDictIn K y7 = true)
    (yK7 : PySem.W.keepIn K (.ref y7) = true)
    (yS7 : PySem.W.subIn K (.ref y7) (.type "BaseException") = some true)
    (yT7 : PySem.W.typeIn K (.ref y7) = some (.type "type"))
    (yI7 : PySem.W.isClsIn K y7 = true)
    (yv0 : PySem.W.findIn K (.ref C) "__class__" = some (some (.builtin "object.__class__")))
    (yw0 : PySem.W.mroIn K C (.type "object") = some true)
    (yv1 : PySem.W.findIn K (.ref y1) "__class__" = some (some (.builtin "object.__class__")))
    (yw1 : PySem.W.mroIn K y1 (.type "object") = some true)
    (yv2 : PySem.W.findIn K (.ref y2) "__class__" = some (some (.builtin "object.__class__")))
    (yw2 : PySem.W.mroIn K y2 (.type "object") = some true)
    (yv3 : PySem.W.findIn K (.ref y3) "__class__" = some (some (.builtin "object.__class__")))
    (yw3 : PySem.W.mroIn K y3 (.type "object") = some true)
    (yv4 : PySem.W.findIn K (.ref y4) "__class__" = some (some (.builtin "object.__class__")))
    (yw4 : PySem.W.mroIn K y4 (.type "object") = some true)
    (yv5 : PySem.W.findIn K (.ref y5) "__class__" = some (some (.builtin "object.__class__")))
    (yw5 : PySem.W.mroIn K y5 (.type "object") = some true)
    (yv6 : PySem.W.findIn K (.ref y6) "__class__" = some (some (.builtin "object.__class__")))
    (yw6 : PySem.W.mroIn K y6 (.type "object") = some true)
    (yv7 : PySem.W.findIn K (.ref y7) "__class__" = some (some (.builtin "object.__class__")))
    (yw7 : PySem.W.mroIn K y7 (.type "object") = some true)
    (y_n : PySem.W.specialIn K (.builtin "object.__class__") "__get__" = some (some (.builtin "getset_descriptor.__get__")))
    (y_t : PySem.W.takesIn K (.builtin "object.__class__") = some true)
    (y_s : PySem.W.subIn K (.ref B) (.type "BaseException") = some true)
    (y_i : PySem.W.isClsIn K B = true)
    (zx_Exception : PySem.W.nsIn K mainGlobals "Exception" = some none)
    (zx_ArithmeticError : PySem.W.nsIn K mainGlobals "ArithmeticError" = some none)
    (zx_LookupError : PySem.W.nsIn K mainGlobals "LookupError" = some none)
    (zx_ValueError : PySem.W.nsIn K mainGlobals "ValueError" = some none)
    (yp0_0 : PySem.W.subIn K (.ref C) (.ref C) = some true)
    (yp0_1 : PySem.W.subIn K (.ref C) (.ref y1) = some false)
    (yp0_2 : PySem.W.subIn K (.ref C) (.ref y2) = some false)
    (yp0_3 : PySem.W.subIn K (.ref C) (.ref y3) = some false)
    (yp0_4 : PySem.W.subIn K (.ref C) (.ref y4) = some false)
    (yp0_5 : PySem.W.subIn K (.ref C) (.ref y5) = some false)
    (yp0_6 : PySem.W.subIn K (.ref C) (.ref y6) = some false)
    (yp0_7 : PySem.W.subIn K (.ref C) (.ref y7) = some false)
    (yp0_8 : PySem.W.subIn K (.ref C) (.ref B) = some true)
    (yp0_Exception : PySem.W.subIn K (.ref C) (.type "Exception") = some true)
    (yp0_ArithmeticError : PySem.W.subIn K (.ref C) (.type "ArithmeticError") = some false)
    (yp0_LookupError : PySem.W.subIn K (.ref C) (.type "LookupError") = some false)
    (yp0_ValueError : PySem.W.subIn K (.ref C) (.type "ValueError") = some false)
    (yp1_0 : PySem.W.subIn K (.ref y1) (.ref C) = some false)
    (yp1_1 : PySem.W.subIn K (.ref y1) (.ref y1) = some true)
    (yp1_2 : PySem.W.subIn K (.ref y1) (.ref y2) = some false)
    (yp1_3 : PySem.W.subIn K (.ref y1) (.ref y3) = some false)
    (yp1_4 : PySem.W.subIn K (.ref y1) (.ref y4) = some false)
    (yp1_5 : PySem.W.subIn K (.ref y1) (.ref y5) = some false)
    (yp1_6 : PySem.W.subIn K (.ref y1) (.ref y6) = some false)
    (yp1_7 : PySem.W.subIn K (.ref y1) (.ref y7) = some false)
    (yp1_8 : PySem.W.subIn K (.ref y1) (.ref B) = some true)
    (yp1_Exception : PySem.W.subIn K (.ref y1) (.type "Exception") = some true)
    (yp1_ArithmeticError : PySem.W.subIn K (.ref y1) (.type "ArithmeticError") = some false)
    (yp1_LookupError : PySem.W.subIn K (.ref y1) (.type "LookupError") = some false)
    (yp1_ValueError : PySem.W.subIn K (.ref y1) (.type "ValueError") = some false)
    (yp2_0 : PySem.W.subIn K (.ref y2) (.ref C) = some false)
    (yp2_1 : PySem.W.subIn K (.ref y2) (.ref y1) = some false)
    (yp2_2 : PySem.W.subIn K (.ref y2) (.ref y2) = some true)
    (yp2_3 : PySem.W.subIn K (.ref y2) (.ref y3) = some false)
    (yp2_4 : PySem.W.subIn K (.ref y2) (.ref y4) = some false)
    (yp2_5 : PySem.W.subIn K (.ref y2) (.ref y5) = some false)
    (yp2_6 : PySem.W.subIn K (.ref y2) (.ref y6) = some false)
    (yp2_7 : PySem.W.subIn K (.ref y2) (.ref y7) = some false)
    (yp2_8 : PySem.W.subIn K (.ref y2) (.ref B) = some true)
    (yp2_Exception : PySem.W.subIn K (.ref y2) (.type "Exception") = some true)
    (yp2_ArithmeticError : PySem.W.subIn K (.ref y2) (.type "ArithmeticError") = some false)
    (yp2_LookupError : PySem.W.subIn K (.ref y2) (.type "LookupError") = some false)
    (yp2_ValueError : PySem.W.subIn K (.ref y2) (.type "ValueError") = some false)
    (yp3_0 : PySem.W.subIn K (.ref y3) (.ref C) = some false)
    (yp3_1 : PySem.W.subIn K (.ref y3) (.ref y1) = some false)
    (yp3_2 : PySem.W.subIn K (.ref y3) (.ref y2) = some false)
    (yp3_3 : PySem.W.subIn K (.ref y3) (.ref y3) = some true)
    (yp3_4 : PySem.W.subIn K (.ref y3) (.ref y4) = some false)
    (yp3_5 : PySem.W.subIn K (.ref y3) (.ref y5) = some false)
    (yp3_6 : PySem.W.subIn K (.ref y3) (.ref y6) = some false)
    (yp3_7 : PySem.W.subIn K (.ref y3) (.ref y7) = some false)
    (yp3_8 : PySem.W.subIn K (.ref y3) (.ref B) = some true)
    (yp3_Exception : PySem.W.subIn K (.ref y3) (.type "Exception") = some true)
    (yp3_ArithmeticError : PySem.W.subIn K (.ref y3) (.type "ArithmeticError") = some false)
    (yp3_LookupError : PySem.W.subIn K (.ref y3) (.type "LookupError") = some false)
    (yp3_ValueError : PySem.W.subIn K (.ref y3) (.type "ValueError") = some false)
    (yp4_0 : PySem.W.subIn K (.ref y4) (.ref C) = some false)
    (yp4_1 : PySem.W.subIn K (.ref y4) (.ref y1) = some false)
    (yp4_2 : PySem.W.subIn K (.ref y4) (.ref y2) = some false)
    (yp4_3 : PySem.W.subIn K (.ref y4) (.ref y3) = some false)
    (yp4_4 : PySem.W.subIn K (.ref y4) (.ref y4) = some true)
    (yp4_5 : PySem.W.subIn K (.ref y4) (.ref y5) = some false)
    (yp4_6 : PySem.W.subIn K (.ref y4) (.ref y6) = some false)
    (yp4_7 : PySem.W.subIn K (.ref y4) (.ref y7) = some false)
    (yp4_8 : PySem.W.subIn K (.ref y4) (.ref B) = some true)
    (yp4_Exception : PySem.W.subIn K (.ref y4) (.type "Exception") = some true)
    (yp4_ArithmeticError : PySem.W.subIn K (.ref y4) (.type "ArithmeticError") = some false)
    (yp4_LookupError : PySem.W.subIn K (.ref y4) (.type "LookupError") = some false)
    (yp4_ValueError : PySem.W.subIn K (.ref y4) (.type "ValueError") = some false)
    (yp5_0 : PySem.W.subIn K (.ref y5) (.ref C) = some false)
    (yp5_1 : PySem.W.subIn K (.ref y5) (.ref y1) = some false)
    (yp5_2 : PySem.W.subIn K (.ref y5) (.ref y2) = some false)
    (yp5_3 : PySem.W.subIn K (.ref y5) (.ref y3) = some false)
    (yp5_4 : PySem.W.subIn K (.ref y5) (.ref y4) = some false)
    (yp5_5 : PySem.W.subIn K (.ref y5) (.ref y5) = some true)
    (yp5_6 : PySem.W.subIn K (.ref y5) (.ref y6) = some false)
    (yp5_7 : PySem.W.subIn K (.ref y5) (.ref y7) = some false)
    (yp5_8 : PySem.W.subIn K (.ref y5) (.ref B) = some true)
    (yp5_Exception : PySem.W.subIn K (.ref y5) (.type "Exception") = some true)
    (yp5_ArithmeticError : PySem.W.subIn K (.ref y5) (.type "ArithmeticError") = some false)
    (yp5_LookupError : PySem.W.subIn K (.ref y5) (.type "LookupError") = some false)
    (yp5_ValueError : PySem.W.subIn K (.ref y5) (.type "ValueError") = some false)
    (yp6_0 : PySem.W.subIn K (.ref y6) (.ref C) = some false)
    (yp6_1 : PySem.W.subIn K (.ref y6) (.ref y1) = some false)
    (yp6_2 : PySem.W.subIn K (.ref y6) (.ref y2) = some false)
    (yp6_3 : PySem.W.subIn K (.ref y6) (.ref y3) = some false)
    (yp6_4 : PySem.W.subIn K (.ref y6) (.ref y4) = some false)
    (yp6_5 : PySem.W.subIn K (.ref y6) (.ref y5) = some false)
    (yp6_6 : PySem.W.subIn K (.ref y6) (.ref y6) = some true)
    (yp6_7 : PySem.W.subIn K (.ref y6) (.ref y7) = some false)
    (yp6_8 : PySem.W.subIn K (.ref y6) (.ref B) = some true)
    (yp6_Exception : PySem.W.subIn K (.ref y6) (.type "Exception") = some true)
    (yp6_ArithmeticError : PySem.W.subIn K (.ref y6) (.type "ArithmeticError") = some false)
    (yp6_LookupError : PySem.W.subIn K (.ref y6) (.type "LookupError") = some false)
    (yp6_ValueError : PySem.W.subIn K (.ref y6) (.type "ValueError") = some false)
    (yp7_0 : PySem.W.subIn K (.ref y7) (.ref C) = some false)
    (yp7_1 : PySem.W.subIn K (.ref y7) (.ref y1) = some false)
    (yp7_2 : PySem.W.subIn K (.ref y7) (.ref y2) = some false)
    (yp7_3 : PySem.W.subIn K (.ref y7) (.ref y3) = some false)
    (yp7_4 : PySem.W.subIn K (.ref y7) (.ref y4) = some false)
    (yp7_5 : PySem.W.subIn K (.ref y7) (.ref y5) = some false)
    (yp7_6 : PySem.W.subIn K (.ref y7) (.ref y6) = some false)
    (yp7_7 : PySem.W.subIn K (.ref y7) (.ref y7) = some true)
    (yp7_8 : PySem.W.subIn K (.ref y7) (.ref B) = some true)
    (yp7_Exception : PySem.W.subIn K (.ref y7) (.type "Exception") = some true)
    (yp7_ArithmeticError : PySem.W.subIn K (.ref y7) (.type "ArithmeticError") = some false)
    (yp7_LookupError : PySem.W.subIn K (.ref y7) (.type "LookupError") = some false)
    (yp7_ValueError : PySem.W.subIn K (.ref y7) (.type "ValueError") = some false)
    (yp8_8 : PySem.W.subIn K (.ref B) (.ref B) = some true)
    (a0 : PySem.W.nsIn K mainGlobals "_law_so" = some (some (.ref f0))) (l0 : K.lookup f0 = some ⟨oc0, od0, .func (PySem.W.fnOf "_law_so" "_law_so" (defArgs st0) (defBody st0) (defScope st0) .none kV0 dc0 pm0 an0 cd0 ct0), sl0⟩) (c0 : PySem.W.codeIn K cd0 "_law_so" = true) (k0 : PySem.W.keepIn K (.ref f0) = true)
    (a1 : PySem.W.nsIn K mainGlobals "_law_numbers" = some (some (.ref f1))) (l1 : K.lookup f1 = some ⟨oc1, od1, .func (PySem.W.fnOf "_law_numbers" "_law_numbers" (defArgs st1) (defBody st1) (defScope st1) .none kV1 dc1 pm1 an1 cd1 ct1), sl1⟩) (c1 : PySem.W.codeIn K cd1 "_law_numbers" = true) (k1 : PySem.W.keepIn K (.ref f1) = true)
    (a2 : PySem.W.nsIn K mainGlobals "_law_draw" = some (some (.ref f2))) (l2 : K.lookup f2 = some ⟨oc2, od2, .func (PySem.W.fnOf "_law_draw" "_law_draw" (defArgs st2) (defBody st2) (defScope st2) .none kV2 dc2 pm2 an2 cd2 ct2), sl2⟩) (c2 : PySem.W.codeIn K cd2 "_law_draw" = true) (k2 : PySem.W.keepIn K (.ref f2) = true)
    (a3 : PySem.W.nsIn K mainGlobals "_law_take" = some (some (.ref f3))) (l3 : K.lookup f3 = some ⟨oc3, od3, .func (PySem.W.fnOf "_law_take" "_law_take" (defArgs st3) (defBody st3) (defScope st3) .none kV3 dc3 pm3 an3 cd3 ct3), sl3⟩) (c3 : PySem.W.codeIn K cd3 "_law_take" = true) (k3 : PySem.W.keepIn K (.ref f3) = true)
    (a4 : PySem.W.nsIn K mainGlobals "_law_pick" = some (some (.ref f4))) (l4 : K.lookup f4 = some ⟨oc4, od4, .func (PySem.W.fnOf "_law_pick" "_law_pick" (defArgs st4) (defBody st4) (defScope st4) .none kV4 dc4 pm4 an4 cd4 ct4), sl4⟩) (c4 : PySem.W.codeIn K cd4 "_law_pick" = true) (k4 : PySem.W.keepIn K (.ref f4) = true)
    (a5 : PySem.W.nsIn K mainGlobals "_law_of" = some (some (.ref f5))) (l5 : K.lookup f5 = some ⟨oc5, od5, .func (PySem.W.fnOf "_law_of" "_law_of" (defArgs st5) (defBody st5) (defScope st5) .none kV5 dc5 pm5 an5 cd5 ct5), sl5⟩) (c5 : PySem.W.codeIn K cd5 "_law_of" = true) (k5 : PySem.W.keepIn K (.ref f5) = true)
    (a6 : PySem.W.nsIn K mainGlobals "_law_foreign" = some (some (.ref f6))) (l6 : K.lookup f6 = some ⟨oc6, od6, .func (PySem.W.fnOf "_law_foreign" "_law_foreign" (defArgs st6) (defBody st6) (defScope st6) .none kV6 dc6 pm6 an6 cd6 ct6), sl6⟩) (c6 : PySem.W.codeIn K cd6 "_law_foreign" = true) (k6 : PySem.W.keepIn K (.ref f6) = true)
    (a7 : PySem.W.nsIn K mainGlobals "_law_caught" = some (some (.ref f7))) (l7 : K.lookup f7 = some ⟨oc7, od7, .func (PySem.W.fnOf "_law_caught" "_law_caught" (defArgs st7) (defBody st7) (defScope st7) .none kV7 dc7 pm7 an7 cd7 ct7), sl7⟩) (c7 : PySem.W.codeIn K cd7 "_law_caught" = true) (k7 : PySem.W.keepIn K (.ref f7) = true)
    (a8 : PySem.W.nsIn K mainGlobals "law" = some (some (.ref f8))) (l8 : K.lookup f8 = some ⟨oc8, od8, .func (PySem.W.fnOf "law" "law" (defArgs st8) (defBody st8) (defScope st8) .none kV8 dc8 pm8 an8 cd8 ct8), sl8⟩) (c8 : PySem.W.codeIn K cd8 "law" = true) (k8 : PySem.W.keepIn K (.ref f8) = true)
    (z_len : PySem.W.nsIn K mainGlobals "len" = some none)
    (z_int : PySem.W.nsIn K mainGlobals "int" = some none)
    (z_isinstance : PySem.W.nsIn K mainGlobals "isinstance" = some none)
    (z_range : PySem.W.nsIn K mainGlobals "range" = some none)
    (z_all : PySem.W.nsIn K mainGlobals "all" = some none)
    (z_any : PySem.W.nsIn K mainGlobals "any" = some none)
    (z_sum : PySem.W.nsIn K mainGlobals "sum" = some none)
    (z_max : PySem.W.nsIn K mainGlobals "max" = some none)
    (z_min : PySem.W.nsIn K mainGlobals "min" = some none)
    (z_str : PySem.W.nsIn K mainGlobals "str" = some none)
    (z_tuple : PySem.W.nsIn K mainGlobals "tuple" = some none)
    (z_list : PySem.W.nsIn K mainGlobals "list" = some none)
    (z_sorted : PySem.W.nsIn K mainGlobals "sorted" = some none)
    (z_zip : PySem.W.nsIn K mainGlobals "zip" = some none)
    (z_bool : PySem.W.nsIn K mainGlobals "bool" = some none)
    (z_dict : PySem.W.nsIn K mainGlobals "dict" = some none)
    (z_set : PySem.W.nsIn K mainGlobals "set" = some none)
    (eC : PySem.W.nsIn K mainGlobals "BadValue" = some (some (.ref C)))
    (eB : PySem.W.nsIn K mainGlobals "SecondError" = some (some (.ref B)))
    (xL : K.lookup C = some (excClassObj nmE qE C NE bsE [.ref B, .type "Exception", .type "BaseException", .type "object"] true snE subE abE colE ddE mE0 mE1 mE2 mE3 mE5 "Exception.__new__"))
    (e_sa : PySem.W.findIn K (.ref C) "__setattr__" = some (some (.builtin "object.__setattr__")))
    (e_ga : PySem.W.findIn K (.ref C) "__getattribute__" = some (some (.builtin "BaseException.__getattribute__")))
    (e_gg : PySem.W.findIn K (.ref C) "__getattr__" = some none)
    (e_nf : PySem.W.findIn K (.ref C) "at" = some none)
    (e_kC : PySem.W.keepIn K (.ref C) = true)
    (e_ex : PySem.W.subIn K (.ref C) (.type "BaseException") = some true)
    (e_ty : PySem.W.typeIn K (.ref C) = some (.type "type"))
    (e_hd : PySem.W.hasDictIn K C = true)
    (e_is : PySem.W.isClsIn K C = true)
    (e_se : PySem.W.subIn K (.ref C) (.ref C) = some true)
    (e_tb : PySem.W.typeIn K (.ref B) = some (.type "type"))
    (e_sp : PySem.W.specialIn K (.ref B) "__getattribute__" = some (some (.builtin "type.__getattribute__")))
    (e_rd : PySem.W.readsIn K B (.type "type") = true)
    (e_fi : PySem.W.findCls K (.ref B) (.type "type") "__init__" = some (.val (.builtin "Exception.__init__")))
    (e_in : PySem.W.findIn K (.ref C) "__init__" = some (some (.ref fI)))
    (e_ti : PySem.W.typeIn K (.ref fI) = some (.type "function"))
    (lI : K.lookup fI = some ⟨ocI, odI, .func (PySem.W.fnOf "__init__" "BadValue.__init__" (defArgs stE) (defBody stE) (defScope stE) .none kVI dcI pmI anI cdI ctI), slI⟩)
    (cI : PySem.W.codeIn K cdI "BadValue.__init__" = true)
    (kI : PySem.W.keepIn K (.ref fI) = true) :
    ∃ fd : FuncData, (∀ (s : Shared) (v : Value), BindsTo s fd ⟨[v], []⟩ [("script", v)]) ∧ ∀ base : Heap, K.In base → base.Ns mainGlobals mg → FnOk l.prog w K mg base CX0 (lv + 3) fa0 fd ["script"] (spLawP K) := by
  have e := hfa.symm.trans (PySem.W.mg_of X G a8)
  cases e
  have bt : Bt mg := ⟨PySem.W.mg_none_of X G z_len, PySem.W.mg_none_of X G z_int, PySem.W.mg_none_of X G z_isinstance, PySem.W.mg_none_of X G z_range, PySem.W.mg_none_of X G z_all, PySem.W.mg_none_of X G z_any, PySem.W.mg_none_of X G z_sum, PySem.W.mg_none_of X G z_max, PySem.W.mg_none_of X G z_min, PySem.W.mg_none_of X G z_str, PySem.W.mg_none_of X G z_tuple, PySem.W.mg_none_of X G z_list, PySem.W.mg_none_of X G z_sorted, PySem.W.mg_none_of X G z_zip, PySem.W.mg_none_of X G z_bool, PySem.W.mg_none_of X G z_dict, PySem.W.mg_none_of X G z_set⟩
  have hc : Cst mg := ⟨⟩
  have TE : ErrC K mg "BadValue" "SecondError" "at" C B := ⟨PySem.W.mg_of X G eC, ⟨_, _, _, _, _, _, _, _, _, _, _, _, _, _, xL⟩, e_sa, e_ga, e_gg, e_nf, e_kC, e_ex, e_ty, e_hd, e_is, e_se, PySem.W.mg_of X G eB, e_tb, e_sp, e_rd, e_fi⟩
  have FI := fun_mk (st := stE) lI cI kI
  have BI := FI.binds (ps := ["self", "at"]) fun _ _ _ _ _ _ us hl => match us, hl with | [_, _], _ => rfl
  have F0 := fun_mk (st := st0) l0 c0 k0
  have B0 := And.intro (F0.binds (ps := ps0) fun _ _ _ _ _ _ us hl => match us, hl with | [_, _], _ => rfl) (kbd_of F0 (ps := ps0) fun _ _ _ _ _ _ us hl => match us, hl with | [_, _], _ => ⟨rfl, fun u r e => by cases e <;> rfl⟩)
  have F1 := fun_mk (st := st1) l1 c1 k1
  have B1 := And.intro (F1.binds (ps := ps1) fun _ _ _ _ _ _ us hl => match us, hl with | [_], _ => rfl) (kbd_of F1 (ps := ps1) fun _ _ _ _ _ _ us hl => match us, hl with | [_], _ => ⟨rfl, fun u r e => by cases e <;> rfl⟩)
  have F2 := fun_mk (st := st2) l2 c2 k2
  have B2 := And.intro (F2.binds (ps := ps2) fun _ _ _ _ _ _ us hl => match us, hl with | [_, _, _], _ => rfl) (kbd_of F2 (ps := ps2) fun _ _ _ _ _ _ us hl => match us, hl with | [_, _, _], _ => ⟨rfl, fun u r e => by cases e <;> rfl⟩)
  have F3 := fun_mk (st := st3) l3 c3 k3
  have B3 := And.intro (F3.binds (ps := ps3) fun _ _ _ _ _ _ us hl => match us, hl with | [_, _, _], _ => rfl) (kbd_of F3 (ps := ps3) fun _ _ _ _ _ _ us hl => match us, hl with | [_, _, _], _ => ⟨rfl, fun u r e => by cases e <;> rfl⟩)
  have F4 := fun_mk (st := st4) l4 c4 k4
  have B4 := And.intro (F4.binds (ps := ps4) fun _ _ _ _ _ _ us hl => match us, hl with | [_, _, _], _ => rfl) (kbd_of F4 (ps := ps4) fun _ _ _ _ _ _ us hl => match us, hl with | [_, _, _], _ => ⟨rfl, fun u r e => by cases e <;> rfl⟩)
  have F5 := fun_mk (st := st5) l5 c5 k5
  have B5 := And.intro (F5.binds (ps := ps5) fun _ _ _ _ _ _ us hl => match us, hl with | [_], _ => rfl) (kbd_of F5 (ps := ps5) fun _ _ _ _ _ _ us hl => match us, hl with | [_], _ => ⟨rfl, fun u r e => by cases e <;> rfl⟩)
  have F6 := fun_mk (st := st6) l6 c6 k6
  have B6 := And.intro (F6.binds (ps := ps6) fun _ _ _ _ _ _ us hl => match us, hl with | [_], _ => rfl) (kbd_of F6 (ps := ps6) fun _ _ _ _ _ _ us hl => match us, hl with | [_], _ => ⟨rfl, fun u r e => by cases e <;> rfl⟩)
  have F7 := fun_mk (st := st7) l7 c7 k7
  have B7 := And.intro (F7.binds (ps := ps7) fun _ _ _ _ _ _ us hl => match us, hl with | [_], _ => rfl) (kbd_of F7 (ps := ps7) fun _ _ _ _ _ _ us hl => match us, hl with | [_], _ => ⟨rfl, fun u r e => by cases e <;> rfl⟩)
  have F8 := fun_mk (st := st8) l8 c8 k8
  have B8 := And.intro (F8.binds (ps := ps8) fun _ _ _ _ _ _ us hl => match us, hl with | [_], _ => rfl) (kbd_of F8 (ps := ps8) fun _ _ _ _ _ _ us hl => match us, hl with | [_], _ => ⟨rfl, fun u r e => by cases e <;> rfl⟩)
  refine ⟨PySem.W.fnOf "law" "law" (defArgs st8) (defBody st8) (defScope st8) .none kV8 dc8 pm8 an8 cd8 ct8, fun s v => .of_eq rfl, fun base _ _ => ?_⟩
  have re : ErrOk l.prog w K mg base C := ⟨⟨B, fI, _, TE, e_in, e_ti, okE FI TE, BI⟩⟩
  have xc0 : ExcC K C := ⟨e_ga, e_gg, e_ex, e_hd, yv0, y_n, y_t, yw0⟩
  have KI := kbd_of FI (ps := ["self", "at"]) fun _ _ _ _ _ _ us hl => match us, hl with | [_, _], _ => ⟨rfl, fun u r e => by cases e <;> rfl⟩
  have xc1 : ExcC K y1 := ⟨yb1, yd1, yS1, yh1, yv1, y_n, y_t, yw1⟩
  have TE1 : ErrC K mg "BadText" "SecondError" "at" y1 B := ⟨PySem.W.mg_of X G yC1, ⟨_, _, _, _, _, _, _, _, _, _, _, _, _, _, yL1⟩, ya1, yb1, yd1, ye1, yK1, yS1, yT1, yh1, yI1, yp1_1, PySem.W.mg_of X G eB, e_tb, e_sp, e_rd, e_fi⟩
  have FI1 := fun_mk (st := stE0) yl1 yc1 yk1
  have BI1 := FI1.binds (ps := [("self" : Str), ("at" : Str)]) fun _ _ _ _ _ _ us hl => match us, hl with | [_, _], _ => rfl
  have KI1 := kbd_of FI1 (ps := [("self" : Str), ("at" : Str)]) fun _ _ _ _ _ _ us hl => match us, hl with | [_, _], _ => ⟨rfl, fun u r e => by cases e <;> rfl⟩
  have xc2 : ExcC K y2 := ⟨yb2, yd2, yS2, yh2, yv2, y_n, y_t, yw2⟩
  have TE2 : ErrC K mg "BadRow" "SecondError" "at" y2 B := ⟨PySem.W.mg_of X G yC2, ⟨_, _, _, _, _, _, _, _, _, _, _, _, _, _, yL2⟩, ya2, yb2, yd2, ye2, yK2, yS2, yT2, yh2, yI2, yp2_2, PySem.W.mg_of X G eB, e_tb, e_sp, e_rd, e_fi⟩
  have FI2 := fun_mk (st := stE1) yl2 yc2 yk2
  have BI2 := FI2.binds (ps := [("self" : Str), ("at" : Str)]) fun _ _ _ _ _ _ us hl => match us, hl with | [_, _], _ => rfl
  have KI2 := kbd_of FI2 (ps := [("self" : Str), ("at" : Str)]) fun _ _ _ _ _ _ us hl => match us, hl with | [_, _], _ => ⟨rfl, fun u r e => by cases e <;> rfl⟩
  have xc3 : ExcC K y3 := ⟨yb3, yd3, yS3, yh3, yv3, y_n, y_t, yw3⟩
  have TE3 : ErrC K mg "Clash" "SecondError" "fact" y3 B := ⟨PySem.W.mg_of X G yC3, ⟨_, _, _, _, _, _, _, _, _, _, _, _, _, _, yL3⟩, ya3, yb3, yd3, ye3, yK3, yS3, yT3, yh3, yI3, yp3_3, PySem.W.mg_of X G eB, e_tb, e_sp, e_rd, e_fi⟩
  have FI3 := fun_mk (st := stE2) yl3 yc3 yk3
  have BI3 := FI3.binds (ps := [("self" : Str), ("fact" : Str)]) fun _ _ _ _ _ _ us hl => match us, hl with | [_, _], _ => rfl
  have KI3 := kbd_of FI3 (ps := [("self" : Str), ("fact" : Str)]) fun _ _ _ _ _ _ us hl => match us, hl with | [_, _], _ => ⟨rfl, fun u r e => by cases e <;> rfl⟩
  have xc4 : ExcC K y4 := ⟨yb4, yd4, yS4, yh4, yv4, y_n, y_t, yw4⟩
  have TE4 : ErrC K mg "NoCall" "SecondError" "call" y4 B := ⟨PySem.W.mg_of X G yC4, ⟨_, _, _, _, _, _, _, _, _, _, _, _, _, _, yL4⟩, ya4, yb4, yd4, ye4, yK4, yS4, yT4, yh4, yI4, yp4_4, PySem.W.mg_of X G eB, e_tb, e_sp, e_rd, e_fi⟩
  have FI4 := fun_mk (st := stE3) yl4 yc4 yk4
  have BI4 := FI4.binds (ps := [("self" : Str), ("call" : Str)]) fun _ _ _ _ _ _ us hl => match us, hl with | [_, _], _ => rfl
  have KI4 := kbd_of FI4 (ps := [("self" : Str), ("call" : Str)]) fun _ _ _ _ _ _ us hl => match us, hl with | [_, _], _ => ⟨rfl, fun u r e => by cases e <;> rfl⟩
  have xc5 : ExcC K y5 := ⟨yb5, yd5, yS5, yh5, yv5, y_n, y_t, yw5⟩
  have TE5 : ErrC K mg "TakenCall" "SecondError" "call" y5 B := ⟨PySem.W.mg_of X G yC5, ⟨_, _, _, _, _, _, _, _, _, _, _, _, _, _, yL5⟩, ya5, yb5, yd5, ye5, yK5, yS5, yT5, yh5, yI5, yp5_5, PySem.W.mg_of X G eB, e_tb, e_sp, e_rd, e_fi⟩
  have FI5 := fun_mk (st := stE4) yl5 yc5 yk5
  have BI5 := FI5.binds (ps := [("self" : Str), ("call" : Str)]) fun _ _ _ _ _ _ us hl => match us, hl with | [_, _], _ => rfl
  have KI5 := kbd_of FI5 (ps := [("self" : Str), ("call" : Str)]) fun _ _ _ _ _ _ us hl => match us, hl with | [_, _], _ => ⟨rfl, fun u r e => by cases e <;> rfl⟩
  have xc6 : ExcC K y6 := ⟨yb6, yd6, yS6, yh6, yv6, y_n, y_t, yw6⟩
  have xc7 : ExcC K y7 := ⟨yb7, yd7, yS7, yh7, yv7, y_n, y_t, yw7⟩
  have xt : ExT l.prog w K mg base (fas l.prog w f0 f1 f2 f3 f4 f5 f6 f7 fa0 C y1 y2 y3 y4 y5 y6 y7 B) xs qs := by
    refine ⟨fun k x f e ha => ?_, fun k x e ha => ?_, fun j q e => ?_, fun k hk => ?_, PySem.W.mg_of X G eB⟩
    · match k, e with
      | 0, e => exact (by
        obtain rfl := Option.some.inj e
        obtain rfl := Option.some.inj ha
        exact ⟨rfl, ⟨e_ga, e_gg, e_ex, e_hd, e_nf⟩, ⟨B, fI, _, _, TE, e_in, e_ti, okE FI TE, BI, fun s u v X => KI.one s u [v] X rfl⟩⟩)
      | 1, e => exact (by
        obtain rfl := Option.some.inj e
        obtain rfl := Option.some.inj ha
        exact ⟨rfl, ⟨yb1, yd1, yS1, yh1, ye1⟩, ⟨B, z1, _, _, TE1, yi1, yt1, okE0 FI1 TE1, BI1, fun s u v X => KI1.one s u [v] X rfl⟩⟩)
      | 2, e => exact (by
        obtain rfl := Option.some.inj e
        obtain rfl := Option.some.inj ha
        exact ⟨rfl, ⟨yb2, yd2, yS2, yh2, ye2⟩, ⟨B, z2, _, _, TE2, yi2, yt2, okE1 FI2 TE2, BI2, fun s u v X => KI2.one s u [v] X rfl⟩⟩)
      | 3, e => exact (by
        obtain rfl := Option.some.inj e
        obtain rfl := Option.some.inj ha
        exact ⟨rfl, ⟨yb3, yd3, yS3, yh3, ye3⟩, ⟨B, z3, _, _, TE3, yi3, yt3, okE2 FI3 TE3, BI3, fun s u v X => KI3.one s u [v] X rfl⟩⟩)
      | 4, e => exact (by
        obtain rfl := Option.some.inj e
        obtain rfl := Option.some.inj ha
        exact ⟨rfl, ⟨yb4, yd4, yS4, yh4, ye4⟩, ⟨B, z4, _, _, TE4, yi4, yt4, okE3 FI4 TE4, BI4, fun s u v X => KI4.one s u [v] X rfl⟩⟩)
      | 5, e => exact (by
        obtain rfl := Option.some.inj e
        obtain rfl := Option.some.inj ha
        exact ⟨rfl, ⟨yb5, yd5, yS5, yh5, ye5⟩, ⟨B, z5, _, _, TE5, yi5, yt5, okE4 FI5 TE5, BI5, fun s u v X => KI5.one s u [v] X rfl⟩⟩)
      | 6, e => exact (by
        obtain rfl := Option.some.inj e
        cases ha)
      | 7, e => exact (by
        obtain rfl := Option.some.inj e
        cases ha)
      | n + 8, e => cases (show (none : Option XI) = some x from e)
    · match k, e with
      | 0, e => exact (by
        obtain rfl := Option.some.inj e
        cases ha)
      | 1, e => exact (by
        obtain rfl := Option.some.inj e
        cases ha)
      | 2, e => exact (by
        obtain rfl := Option.some.inj e
        cases ha)
      | 3, e => exact (by
        obtain rfl := Option.some.inj e
        cases ha)
      | 4, e => exact (by
        obtain rfl := Option.some.inj e
        cases ha)
      | 5, e => exact (by
        obtain rfl := Option.some.inj e
        cases ha)
      | 6, e => exact (by
        obtain rfl := Option.some.inj e
        exact ⟨PySem.W.mg_of X G yC6, yx6, yK6, yS6, yT6⟩)
      | 7, e => exact (by
        obtain rfl := Option.some.inj e
        exact ⟨PySem.W.mg_of X G yC7, yx7, yK7, yS7, yT7⟩)
      | n + 8, e => cases (show (none : Option XI) = some x from e)
    · match j, e with
      | 0, e => exact (by
        obtain rfl := Option.some.inj e
        exact ⟨⟨⟨.ref y7, fun _ r => r, all_cons (⟨xc7, kit_own yI7 yT7 yp7_7 yp7_7⟩) (all_nil), all_cons (⟨xc0, kit_own yI7 yT7 yp0_7 yp7_7⟩) (all_cons (⟨xc1, kit_own yI7 yT7 yp1_7 yp7_7⟩) (all_cons (⟨xc2, kit_own yI7 yT7 yp2_7 yp7_7⟩) (all_cons (⟨xc3, kit_own yI7 yT7 yp3_7 yp7_7⟩) (all_cons (⟨xc4, kit_own yI7 yT7 yp4_7 yp7_7⟩) (all_cons (⟨xc5, kit_own yI7 yT7 yp5_7 yp7_7⟩) (all_cons (⟨xc6, kit_own yI7 yT7 yp6_7 yp7_7⟩) (all_nil)))))))⟩⟩, PySem.W.mg_of X G yC7⟩)
      | 1, e => exact (by
        obtain rfl := Option.some.inj e
        exact ⟨⟨⟨.ref y6, fun _ r => r, all_cons (⟨xc6, kit_own yI6 yT6 yp6_6 yp6_6⟩) (all_nil), all_cons (⟨xc0, kit_own yI6 yT6 yp0_6 yp6_6⟩) (all_cons (⟨xc1, kit_own yI6 yT6 yp1_6 yp6_6⟩) (all_cons (⟨xc2, kit_own yI6 yT6 yp2_6 yp6_6⟩) (all_cons (⟨xc3, kit_own yI6 yT6 yp3_6 yp6_6⟩) (all_cons (⟨xc4, kit_own yI6 yT6 yp4_6 yp6_6⟩) (all_cons (⟨xc5, kit_own yI6 yT6 yp5_6 yp6_6⟩) (all_cons (⟨xc7, kit_own yI6 yT6 yp7_6 yp6_6⟩) (all_nil)))))))⟩⟩, PySem.W.mg_of X G yC6⟩)
      | 2, e => exact (by
        obtain rfl := Option.some.inj e
        exact ⟨⟨⟨.ref y5, fun _ r => r, all_cons (⟨xc5, kit_own yI5 yT5 yp5_5 yp5_5⟩) (all_nil), all_cons (⟨xc0, kit_own yI5 yT5 yp0_5 yp5_5⟩) (all_cons (⟨xc1, kit_own yI5 yT5 yp1_5 yp5_5⟩) (all_cons (⟨xc2, kit_own yI5 yT5 yp2_5 yp5_5⟩) (all_cons (⟨xc3, kit_own yI5 yT5 yp3_5 yp5_5⟩) (all_cons (⟨xc4, kit_own yI5 yT5 yp4_5 yp5_5⟩) (all_cons (⟨xc6, kit_own yI5 yT5 yp6_5 yp5_5⟩) (all_cons (⟨xc7, kit_own yI5 yT5 yp7_5 yp5_5⟩) (all_nil)))))))⟩⟩, PySem.W.mg_of X G yC5⟩)
      | 3, e => exact (by
        obtain rfl := Option.some.inj e
        exact ⟨⟨⟨.ref y4, fun _ r => r, all_cons (⟨xc4, kit_own yI4 yT4 yp4_4 yp4_4⟩) (all_nil), all_cons (⟨xc0, kit_own yI4 yT4 yp0_4 yp4_4⟩) (all_cons (⟨xc1, kit_own yI4 yT4 yp1_4 yp4_4⟩) (all_cons (⟨xc2, kit_own yI4 yT4 yp2_4 yp4_4⟩) (all_cons (⟨xc3, kit_own yI4 yT4 yp3_4 yp4_4⟩) (all_cons (⟨xc5, kit_own yI4 yT4 yp5_4 yp4_4⟩) (all_cons (⟨xc6, kit_own yI4 yT4 yp6_4 yp4_4⟩) (all_cons (⟨xc7, kit_own yI4 yT4 yp7_4 yp4_4⟩) (all_nil)))))))⟩⟩, PySem.W.mg_of X G yC4⟩)
      | 4, e => exact (by
        obtain rfl := Option.some.inj e
        exact ⟨⟨⟨.ref y3, fun _ r => r, all_cons (⟨xc3, kit_own yI3 yT3 yp3_3 yp3_3⟩) (all_nil), all_cons (⟨xc0, kit_own yI3 yT3 yp0_3 yp3_3⟩) (all_cons (⟨xc1, kit_own yI3 yT3 yp1_3 yp3_3⟩) (all_cons (⟨xc2, kit_own yI3 yT3 yp2_3 yp3_3⟩) (all_cons (⟨xc4, kit_own yI3 yT3 yp4_3 yp3_3⟩) (all_cons (⟨xc5, kit_own yI3 yT3 yp5_3 yp3_3⟩) (all_cons (⟨xc6, kit_own yI3 yT3 yp6_3 yp3_3⟩) (all_cons (⟨xc7, kit_own yI3 yT3 yp7_3 yp3_3⟩) (all_nil)))))))⟩⟩, PySem.W.mg_of X G yC3⟩)
      | 5, e => exact (by
        obtain rfl := Option.some.inj e
        exact ⟨⟨⟨.ref y2, fun _ r => r, all_cons (⟨xc2, kit_own yI2 yT2 yp2_2 yp2_2⟩) (all_nil), all_cons (⟨xc0, kit_own yI2 yT2 yp0_2 yp2_2⟩) (all_cons (⟨xc1, kit_own yI2 yT2 yp1_2 yp2_2⟩) (all_cons (⟨xc3, kit_own yI2 yT2 yp3_2 yp2_2⟩) (all_cons (⟨xc4, kit_own yI2 yT2 yp4_2 yp2_2⟩) (all_cons (⟨xc5, kit_own yI2 yT2 yp5_2 yp2_2⟩) (all_cons (⟨xc6, kit_own yI2 yT2 yp6_2 yp2_2⟩) (all_cons (⟨xc7, kit_own yI2 yT2 yp7_2 yp2_2⟩) (all_nil)))))))⟩⟩, PySem.W.mg_of X G yC2⟩)
      | 6, e => exact (by
        obtain rfl := Option.some.inj e
        exact ⟨⟨⟨.ref y1, fun _ r => r, all_cons (⟨xc1, kit_own yI1 yT1 yp1_1 yp1_1⟩) (all_nil), all_cons (⟨xc0, kit_own yI1 yT1 yp0_1 yp1_1⟩) (all_cons (⟨xc2, kit_own yI1 yT1 yp2_1 yp1_1⟩) (all_cons (⟨xc3, kit_own yI1 yT1 yp3_1 yp1_1⟩) (all_cons (⟨xc4, kit_own yI1 yT1 yp4_1 yp1_1⟩) (all_cons (⟨xc5, kit_own yI1 yT1 yp5_1 yp1_1⟩) (all_cons (⟨xc6, kit_own yI1 yT1 yp6_1 yp1_1⟩) (all_cons (⟨xc7, kit_own yI1 yT1 yp7_1 yp1_1⟩) (all_nil)))))))⟩⟩, PySem.W.mg_of X G yC1⟩)
      | 7, e => exact (by
        obtain rfl := Option.some.inj e
        exact ⟨⟨⟨.ref C, fun _ r => r, all_cons (⟨xc0, kit_own e_is e_ty yp0_0 yp0_0⟩) (all_nil), all_cons (⟨xc1, kit_own e_is e_ty yp1_0 yp0_0⟩) (all_cons (⟨xc2, kit_own e_is e_ty yp2_0 yp0_0⟩) (all_cons (⟨xc3, kit_own e_is e_ty yp3_0 yp0_0⟩) (all_cons (⟨xc4, kit_own e_is e_ty yp4_0 yp0_0⟩) (all_cons (⟨xc5, kit_own e_is e_ty yp5_0 yp0_0⟩) (all_cons (⟨xc6, kit_own e_is e_ty yp6_0 yp0_0⟩) (all_cons (⟨xc7, kit_own e_is e_ty yp7_0 yp0_0⟩) (all_nil)))))))⟩⟩, PySem.W.mg_of X G eC⟩)
      | 8, e => exact (by
        obtain rfl := Option.some.inj e
        exact ⟨⟨⟨.type "Exception", fun _ r => r, all_cons (⟨xc0, kit_blt yp0_Exception⟩) (all_cons (⟨xc1, kit_blt yp1_Exception⟩) (all_cons (⟨xc2, kit_blt yp2_Exception⟩) (all_cons (⟨xc3, kit_blt yp3_Exception⟩) (all_cons (⟨xc4, kit_blt yp4_Exception⟩) (all_cons (⟨xc5, kit_blt yp5_Exception⟩) (all_cons (⟨xc6, kit_blt yp6_Exception⟩) (all_cons (⟨xc7, kit_blt yp7_Exception⟩) (all_nil)))))))), all_nil⟩⟩, ⟨PySem.W.mg_none_of X G zx_Exception, by decide +kernel, by decide⟩⟩)
      | 9, e => exact (by
        obtain rfl := Option.some.inj e
        exact ⟨⟨⟨.type "ArithmeticError", fun _ r => r, all_nil, all_cons (⟨xc0, kit_blt yp0_ArithmeticError⟩) (all_cons (⟨xc1, kit_blt yp1_ArithmeticError⟩) (all_cons (⟨xc2, kit_blt yp2_ArithmeticError⟩) (all_cons (⟨xc3, kit_blt yp3_ArithmeticError⟩) (all_cons (⟨xc4, kit_blt yp4_ArithmeticError⟩) (all_cons (⟨xc5, kit_blt yp5_ArithmeticError⟩) (all_cons (⟨xc6, kit_blt yp6_ArithmeticError⟩) (all_cons (⟨xc7, kit_blt yp7_ArithmeticError⟩) (all_nil))))))))⟩⟩, ⟨PySem.W.mg_none_of X G zx_ArithmeticError, by decide +kernel, by decide⟩⟩)
      | 10, e => exact (by
        obtain rfl := Option.some.inj e
        exact ⟨⟨⟨.type "LookupError", fun _ r => r, all_nil, all_cons (⟨xc0, kit_blt yp0_LookupError⟩) (all_cons (⟨xc1, kit_blt yp1_LookupError⟩) (all_cons (⟨xc2, kit_blt yp2_LookupError⟩) (all_cons (⟨xc3, kit_blt yp3_LookupError⟩) (all_cons (⟨xc4, kit_blt yp4_LookupError⟩) (all_cons (⟨xc5, kit_blt yp5_LookupError⟩) (all_cons (⟨xc6, kit_blt yp6_LookupError⟩) (all_cons (⟨xc7, kit_blt yp7_LookupError⟩) (all_nil))))))))⟩⟩, ⟨PySem.W.mg_none_of X G zx_LookupError, by decide +kernel, by decide⟩⟩)
      | 11, e => exact (by
        obtain rfl := Option.some.inj e
        exact ⟨⟨⟨.type "ValueError", fun _ r => r, all_nil, all_cons (⟨xc0, kit_blt yp0_ValueError⟩) (all_cons (⟨xc1, kit_blt yp1_ValueError⟩) (all_cons (⟨xc2, kit_blt yp2_ValueError⟩) (all_cons (⟨xc3, kit_blt yp3_ValueError⟩) (all_cons (⟨xc4, kit_blt yp4_ValueError⟩) (all_cons (⟨xc5, kit_blt yp5_ValueError⟩) (all_cons (⟨xc6, kit_blt yp6_ValueError⟩) (all_cons (⟨xc7, kit_blt yp7_ValueError⟩) (all_nil))))))))⟩⟩, ⟨PySem.W.mg_none_of X G zx_ValueError, by decide +kernel, by decide⟩⟩)
      | 12, e => exact (by
        obtain rfl := Option.some.inj e
        exact ⟨⟨⟨.ref B, fun _ r => r, all_cons (⟨xc0, kit_own y_i e_tb yp0_8 yp8_8⟩) (all_cons (⟨xc1, kit_own y_i e_tb yp1_8 yp8_8⟩) (all_cons (⟨xc2, kit_own y_i e_tb yp2_8 yp8_8⟩) (all_cons (⟨xc3, kit_own y_i e_tb yp3_8 yp8_8⟩) (all_cons (⟨xc4, kit_own y_i e_tb yp4_8 yp8_8⟩) (all_cons (⟨xc5, kit_own y_i e_tb yp5_8 yp8_8⟩) (all_cons (⟨xc6, kit_own y_i e_tb yp6_8 yp8_8⟩) (all_cons (⟨xc7, kit_own y_i e_tb yp7_8 yp8_8⟩) (all_nil)))))))), all_nil⟩⟩, PySem.W.mg_of X G eB⟩)
      | n + 13, e => cases (show (none : Option QI) = some q from e)
    · match k, hk with
      | 0, _ => exact exmTwo y_s y_i e_tb yp0_8
      | 1, _ => exact exmTwo y_s y_i e_tb yp1_8
      | 2, _ => exact exmTwo y_s y_i e_tb yp2_8
      | 3, _ => exact exmTwo y_s y_i e_tb yp3_8
      | 4, _ => exact exmTwo y_s y_i e_tb yp4_8
      | 5, _ => exact exmTwo y_s y_i e_tb yp5_8
      | 6, _ => exact exmTwo y_s y_i e_tb yp6_8
      | 7, _ => exact exmTwo y_s y_i e_tb yp7_8
      | n + 8, hk => exact absurd hk (Nat.not_lt.mpr (Nat.le_add_left _ _))
  have T : Tbl l.prog w K mg base (lv + 2) (fas l.prog w f0 f1 f2 f3 f4 f5 f6 f7 fa0 C y1 y2 y3 y4 y5 y6 y7 B) (spC K (fas l.prog w f0 f1 f2 f3 f4 f5 f6 f7 fa0 C y1 y2 y3 y4 y5 y6 y7 B) C (callF prog lv)) tb nm pn := lev re xt bt hc rfl rfl F0 (PySem.W.mg_of X G a0) F1 (PySem.W.mg_of X G a1) F2 (PySem.W.mg_of X G a2) F3 (PySem.W.mg_of X G a3) F4 (PySem.W.mg_of X G a4) F5 (PySem.W.mg_of X G a5) F6 (PySem.W.mg_of X G a6) F7 (PySem.W.mg_of X G a7) F8 (PySem.W.mg_of X G a8) B0 B1 B2 B3 B4 B5 B6 B7 B8 lv
  exact fn_noX ((ok8 F8 T re xt bt hc).imp fun vs H Q E ⟨a, ns, e, hS, hl, q⟩ => by
    subst e
    exact sp_law M (fun p hp => absurd hp (List.not_mem_nil (a := p))) hl hS q) fun _ _ _ _ z => z
theorem walk {l : PySem.W.OpenLaw} {q : Program} {loose : List Str} {XP : (Str → Option Value) → Heap → Prop} {YP : World → Heap → Prop} {d : DefRec} {K : Params → PySem.W.Frag} {lv : Nat} (hr : Room (lv + 3) callerA) (hn : l.most = some 63) (hdf : d.params.defaults = [])
    (hY : ∀ (w : World) (h : Heap), YP w h → (K w.params).In h)
    (F : ∀ (w : World) (mg : Str → Option Value) (fa0 : Addr) (h : Heap), (K w.params).In h → h.Ns mainGlobals mg → mg d.name = some (.ref fa0) →
      ∃ fd : FuncData, (∀ (s : Shared) (u : Value), BindsTo s fd ⟨[u], []⟩ [("script", u)]) ∧ ∀ base : Heap, (K w.params).In base → base.Ns mainGlobals mg → FnOk l.prog w (K w.params) mg base CX0 (lv + 3) fa0 fd ["script"] (spLawP (K w.params))) :
    PySem.W.WalkO q loose XP YP l.row.toRowW d [] (fun f vs => PySem.call f vs) :=
  L2.walk_of (n := 63) (k := lv + 3) (x := "script") (CX := fun _ => CX0) (sp := fun w => spLawP (K w.params)) hn (by decide) hdf hr hY F (fun w H a ns hl _ hS => ⟨a, ns, rfl, hS, hl, fun _ => rfl⟩) fun _ _ _ _ _ z => z
end Pg

set_option Elab.async false
set_option maxRecDepth 100000
namespace Pg
open Pv
theorem t : T00 prog where
  so := rfl
  num := rfl
  draw := rfl
  take := rfl
  pick := rfl
  of := rfl
  fo := rfl
  ca := rfl
  law := rfl
theorem meant : Meant 41 := fun _ _ => law00 t
end Pg

set_option Elab.async false
open PySem PySem.W PyProof.Rows
set_option maxRecDepth 100000 in
set_option maxHeartbeats 0 in
theorem PySem.Challenge.cw_eachsecond_k00_errors_holds : PySem.Challenge.rw_eachsecond_k00_errors.Holds := by
  w_on; o_law; k_head; (case hw => w_witness2)
  k_fill
  refine Pg.walk (l := PySem.Challenge.rw_eachsecond_k00_errors) (lv := 40) ⟨rfl, by decide, by decide⟩ rfl rfl (fun w h Y => PySem.W.kIn_of Y) ?F
  case F =>
    intro w mg fa h KX G hmg
    refine' Pg.all_mk KX G hmg Pg.meant ?yC1 ?yL1 ?ya1 ?ye1 ?yi1 ?yt1 ?yl1 ?yc1 ?yk1 ?yb1 ?yd1 ?yh1 ?yK1 ?yS1 ?yT1 ?yI1 ?yC2 ?yL2 ?ya2 ?ye2 ?yi2 ?yt2 ?yl2 ?yc2 ?yk2 ?yb2 ?yd2 ?yh2 ?yK2 ?yS2 ?yT2 ?yI2 ?yC3 ?yL3 ?ya3 ?ye3 ?yi3 ?yt3 ?yl3 ?yc3 ?yk3 ?yb3 ?yd3 ?yh3 ?yK3 ?yS3 ?yT3 ?yI3 ?yC4 ?yL4 ?ya4 ?ye4 ?yi4 ?yt4 ?yl4 ?yc4 ?yk4 ?yb4 ?yd4 ?yh4 ?yK4 ?yS4 ?yT4 ?yI4 ?yC5 ?yL5 ?ya5 ?ye5 ?yi5 ?yt5 ?yl5 ?yc5 ?yk5 ?yb5 ?yd5 ?yh5 ?yK5 ?yS5 ?yT5 ?yI5 ?yC6 ?yx6 ?yb6 ?yd6 ?yh6 ?yK6 ?yS6 ?yT6 ?yI6 ?yC7 ?yx7 ?yb7 ?yd7 ?yh7 ?yK7 ?yS7 ?yT7 ?yI7 ?yv0 ?yw0 ?yv1 ?yw1 ?yv2 ?yw2 ?yv3 ?yw3 ?yv4 ?yw4 ?yv5 ?yw5 ?yv6 ?yw6 ?yv7 ?yw7 ?y_n ?y_t ?y_s ?y_i ?zx_Exception ?zx_ArithmeticError ?zx_LookupError ?zx_ValueError ?yp0_0 ?yp0_1 ?yp0_2 ?yp0_3 ?yp0_4 ?yp0_5 ?yp0_6 ?yp0_7 ?yp0_8 ?yp0_Exception ?yp0_ArithmeticError ?yp0_LookupError ?yp0_ValueError ?yp1_0 ?yp1_1 ?yp1_2 ?yp1_3 ?yp1_4 ?yp1_5 ?yp1_6 ?yp1_7 ?yp1_8 ?yp1_Exception ?yp1_ArithmeticError ?yp1_LookupError ?yp1_ValueError ?yp2_0 ?yp2_1 ?yp2_2 ?yp2_3 ?yp2_4 ?yp2_5 ?yp2_6 ?yp2_7 ?yp2_8 ?yp2_Exception ?yp2_ArithmeticError ?yp2_LookupError ?yp2_ValueError ?yp3_0 ?yp3_1 ?yp3_2 ?yp3_3 ?yp3_4 ?yp3_5 ?yp3_6 ?yp3_7 ?yp3_8 ?yp3_Exception ?yp3_ArithmeticError ?yp3_LookupError ?yp3_ValueError ?yp4_0 ?yp4_1 ?yp4_2 ?yp4_3 ?yp4_4 ?yp4_5 ?yp4_6 ?yp4_7 ?yp4_8 ?yp4_Exception ?yp4_ArithmeticError ?yp4_LookupError ?yp4_ValueError ?yp5_0 ?yp5_1 ?yp5_2 ?yp5_3 ?yp5_4 ?yp5_5 ?yp5_6 ?yp5_7 ?yp5_8 ?yp5_Exception ?yp5_ArithmeticError ?yp5_LookupError ?yp5_ValueError ?yp6_0 ?yp6_1 ?yp6_2 ?yp6_3 ?yp6_4 ?yp6_5 ?yp6_6 ?yp6_7 ?yp6_8 ?yp6_Exception ?yp6_ArithmeticError ?yp6_LookupError ?yp6_ValueError ?yp7_0 ?yp7_1 ?yp7_2 ?yp7_3 ?yp7_4 ?yp7_5 ?yp7_6 ?yp7_7 ?yp7_8 ?yp7_Exception ?yp7_ArithmeticError ?yp7_LookupError ?yp7_ValueError ?yp8_8 ?a0 ?l0 ?c0 ?k0 ?a1 ?l1 ?c1 ?k1 ?a2 ?l2 ?c2 ?k2 ?a3 ?l3 ?c3 ?k3 ?a4 ?l4 ?c4 ?k4 ?a5 ?l5 ?c5 ?k5 ?a6 ?l6 ?c6 ?k6 ?a7 ?l7 ?c7 ?k7 ?a8 ?l8 ?c8 ?k8 ?z_len ?z_int ?z_isinstance ?z_range ?z_all ?z_any ?z_sum ?z_max ?z_min ?z_str ?z_tuple ?z_list ?z_sorted ?z_zip ?z_bool ?z_dict ?z_set  ?eC ?eB ?xL ?e_sa ?e_ga ?e_gg ?e_nf ?e_kC ?e_ex ?e_ty ?e_hd ?e_is ?e_se ?e_tb ?e_sp ?e_rd ?e_fi ?e_in ?e_ti ?lI ?cI ?kI
    (case yC1 => k_is)
    (case yL1 => k_is)
    (case ya1 => k_is)
    (case ye1 => k_is)
    (case yi1 => k_is)
    (case yt1 => k_is)
    (case yl1 => k_is)
    (case yc1 => k_is)
    (case yk1 => k_is)
    (case yb1 => k_is)
    (case yd1 => k_is)
    (case yh1 => k_is)
    (case yK1 => k_is)
    (case yS1 => k_is)
    (case yT1 => k_is)
    (case yI1 => k_is)
    (case yC2 => k_is)
    (case yL2 => k_is)
    (case ya2 => k_is)
    (case ye2 => k_is)
    (case yi2 => k_is)
    (case yt2 => k_is)
    (case yl2 => k_is)
    (case yc2 => k_is)
    (case yk2 => k_is)
    (case yb2 => k_is)
    (case yd2 => k_is)
    (case yh2 => k_is)
    (case yK2 => k_is)
    (case yS2 => k_is)
    (case yT2 => k_is)
    (case yI2 => k_is)
    (case yC3 => k_is)
    (case yL3 => k_is)
    (case ya3 => k_is)
    (case ye3 => k_is)
    (case yi3 => k_is)
    (case yt3 => k_is)
    (case yl3 => k_is)
    (case yc3 => k_is)
    (case yk3 => k_is)
    (case yb3 => k_is)
    (case yd3 => k_is)
    (case yh3 => k_is)
    (case yK3 => k_is)
    (case yS3 => k_is)
    (case yT3 => k_is)
    (case yI3 => k_is)
    (case yC4 => k_is)
    (case yL4 => k_is)
    (case ya4 => k_is)
    (case ye4 => k_is)
    (case yi4 => k_is)
    (case yt4 => k_is)
    (case yl4 => k_is)
    (case yc4 => k_is)
    (case yk4 => k_is)
    (case yb4 => k_is)
    (case yd4 => k_is)
    (case yh4 => k_is)
    (case yK4 => k_is)
    (case yS4 => k_is)
    (case yT4 => k_is)
    (case yI4 => k_is)
    (case yC5 => k_is)
    (case yL5 => k_is)
    (case ya5 => k_is)
    (case ye5 => k_is)
    (case yi5 => k_is)
    (case yt5 => k_is)
    (case yl5 => k_is)
    (case yc5 => k_is)
    (case yk5 => k_is)
    (case yb5 => k_is)
    (case yd5 => k_is)
    (case yh5 => k_is)
    (case yK5 => k_is)
    (case yS5 => k_is)
    (case yT5 => k_is)
    (case yI5 => k_is)
    (case yC6 => k_is)
    (case yx6 => k_exc)
    (case yb6 => k_is)
    (case yd6 => k_is)
    (case yh6 => k_is)
    (case yK6 => k_is)
    (case yS6 => k_is)
    (case yT6 => k_is)
    (case yI6 => k_is)
    (case yC7 => k_is)
    (case yx7 => k_exc)
    (case yb7 => k_is)
    (case yd7 => k_is)
    (case yh7 => k_is)
    (case yK7 => k_is)
    (case yS7 => k_is)
    (case yT7 => k_is)
    (case yI7 => k_is)
    (case zx_Exception => k_is)
    (case zx_ArithmeticError => k_is)
    (case zx_LookupError => k_is)
    (case zx_ValueError => k_is)
    (case a0 => k_is); (case l0 => k_is); (case c0 => k_is); (case k0 => k_is)
    (case a1 => k_is); (case l1 => k_is); (case c1 => k_is); (case k1 => k_is)
    (case a2 => k_is); (case l2 => k_is); (case c2 => k_is); (case k2 => k_is)
    (case a3 => k_is); (case l3 => k_is); (case c3 => k_is); (case k3 => k_is)
    (case a4 => k_is); (case l4 => k_is); (case c4 => k_is); (case k4 => k_is)
    (case a5 => k_is); (case l5 => k_is); (case c5 => k_is); (case k5 => k_is)
    (case a6 => k_is); (case l6 => k_is); (case c6 => k_is); (case k6 => k_is)
    (case a7 => k_is); (case l7 => k_is); (case c7 => k_is); (case k7 => k_is)
    (case a8 => k_is); (case l8 => k_is); (case c8 => k_is); (case k8 => k_is)
    (case z_len => k_is)
    (case z_int => k_is)
    (case z_isinstance => k_is)
    (case z_range => k_is)
    (case z_all => k_is)
    (case z_any => k_is)
    (case z_sum => k_is)
    (case z_max => k_is)
    (case z_min => k_is)
    (case z_str => k_is)
    (case z_tuple => k_is)
    (case z_list => k_is)
    (case z_sorted => k_is)
    (case z_zip => k_is)
    (case z_bool => k_is)
    (case z_dict => k_is)
    (case z_set => k_is)
    (case eC => k_is)
    (case eB => k_is)
    (case xL => k_is)
    (case e_sa => k_is)
    (case e_ga => k_is)
    (case e_gg => k_is)
    (case e_nf => k_is)
    (case e_kC => k_is)
    (case e_ex => k_is)
    (case e_ty => k_is)
    (case e_hd => k_is)
    (case e_is => k_is)
    (case e_se => first | rfl | k_is)
    (case e_tb => k_is)
    (case e_sp => k_is)
    (case e_rd => k_is)
    (case e_fi => k_is)
    (case e_in => k_is)
    (case e_ti => k_is)
    (case lI => k_is)
    (case cI => k_is)
    (case kI => k_is)
    (case yv0 => first | rfl | k_is)
    (case yw0 => first | rfl | k_is)
    (case yv1 => first | rfl | k_is)
    (case yw1 => first | rfl | k_is)
    (case yv2 => first | rfl | k_is)
    (case yw2 => first | rfl | k_is)
    (case yv3 => first | rfl | k_is)
    (case yw3 => first | rfl | k_is)
    (case yv4 => first | rfl | k_is)
    (case yw4 => first | rfl | k_is)
    (case yv5 => first | rfl | k_is)
    (case yw5 => first | rfl | k_is)
    (case yv6 => first | rfl | k_is)
    (case yw6 => first | rfl | k_is)
    (case yv7 => first | rfl | k_is)
    (case yw7 => first | rfl | k_is)
    (case y_n => first | rfl | k_is)
    (case y_t => first | rfl | k_is)
    (case y_s => first | rfl | k_is)
    (case y_i => first | rfl | k_is)
    (case yp0_0 => first | rfl | k_is)
    (case yp0_1 => first | rfl | k_is)
    (case yp0_2 => first | rfl | k_is)
    (case yp0_3 => first | rfl | k_is)
    (case yp0_4 => first | rfl | k_is)
    (case yp0_5 => first | rfl | k_is)
    (case yp0_6 => first | rfl | k_is)
    (case yp0_7 => first | rfl | k_is)
    (case yp0_8 => first | rfl | k_is)
    (case yp0_Exception => first | rfl | k_is)
    (case yp0_ArithmeticError => first | rfl | k_is)
    (case yp0_LookupError => first | rfl | k_is)
    (case yp0_ValueError => first | rfl | k_is)
    (case yp1_0 => first | rfl | k_is)
    (case yp1_1 => first | rfl | k_is)
    (case yp1_2 => first | rfl | k_is)
    (case yp1_3 => first | rfl | k_is)
    (case yp1_4 => first | rfl | k_is)
    (case yp1_5 => first | rfl | k_is)
    (case yp1_6 => first | rfl | k_is)
    (case yp1_7 => first | rfl | k_is)
    (case yp1_8 => first | rfl | k_is)
    (case yp1_Exception => first | rfl | k_is)
    (case yp1_ArithmeticError => first | rfl | k_is)
    (case yp1_LookupError => first | rfl | k_is)
    (case yp1_ValueError => first | rfl | k_is)
    (case yp2_0 => first | rfl | k_is)
    (case yp2_1 => first | rfl | k_is)
    (case yp2_2 => first | rfl | k_is)
    (case yp2_3 => first | rfl | k_is)
    (case yp2_4 => first | rfl | k_is)
    (case yp2_5 => first | rfl | k_is)
    (case yp2_6 => first | rfl | k_is)
    (case yp2_7 => first | rfl | k_is)
    (case yp2_8 => first | rfl | k_is)
    (case yp2_Exception => first | rfl | k_is)
    (case yp2_ArithmeticError => first | rfl | k_is)
    (case yp2_LookupError => first | rfl | k_is)
    (case yp2_ValueError => first | rfl | k_is)
    (case yp3_0 => first | rfl | k_is)
    (case yp3_1 => first | rfl | k_is)
    (case yp3_2 => first | rfl | k_is)
    (case yp3_3 => first | rfl | k_is)
    (case yp3_4 => first | rfl | k_is)
    (case yp3_5 => first | rfl | k_is)
    (case yp3_6 => first | rfl | k_is)
    (case yp3_7 => first | rfl | k_is)
    (case yp3_8 => first | rfl | k_is)
    (case yp3_Exception => first | rfl | k_is)
    (case yp3_ArithmeticError => first | rfl | k_is)
    (case yp3_LookupError => first | rfl | k_is)
    (case yp3_ValueError => first | rfl | k_is)
    (case yp4_0 => first | rfl | k_is)
    (case yp4_1 => first | rfl | k_is)
    (case yp4_2 => first | rfl | k_is)
    (case yp4_3 => first | rfl | k_is)
    (case yp4_4 => first | rfl | k_is)
    (case yp4_5 => first | rfl | k_is)
    (case yp4_6 => first | rfl | k_is)
    (case yp4_7 => first | rfl | k_is)
    (case yp4_8 => first | rfl | k_is)
    (case yp4_Exception => first | rfl | k_is)
    (case yp4_ArithmeticError => first | rfl | k_is)
    (case yp4_LookupError => first | rfl | k_is)
    (case yp4_ValueError => first | rfl | k_is)
    (case yp5_0 => first | rfl | k_is)
    (case yp5_1 => first | rfl | k_is)
    (case yp5_2 => first | rfl | k_is)
    (case yp5_3 => first | rfl | k_is)
    (case yp5_4 => first | rfl | k_is)
    (case yp5_5 => first | rfl | k_is)
    (case yp5_6 => first | rfl | k_is)
    (case yp5_7 => first | rfl | k_is)
    (case yp5_8 => first | rfl | k_is)
    (case yp5_Exception => first | rfl | k_is)
    (case yp5_ArithmeticError => first | rfl | k_is)
    (case yp5_LookupError => first | rfl | k_is)
    (case yp5_ValueError => first | rfl | k_is)
    (case yp6_0 => first | rfl | k_is)
    (case yp6_1 => first | rfl | k_is)
    (case yp6_2 => first | rfl | k_is)
    (case yp6_3 => first | rfl | k_is)
    (case yp6_4 => first | rfl | k_is)
    (case yp6_5 => first | rfl | k_is)
    (case yp6_6 => first | rfl | k_is)
    (case yp6_7 => first | rfl | k_is)
    (case yp6_8 => first | rfl | k_is)
    (case yp6_Exception => first | rfl | k_is)
    (case yp6_ArithmeticError => first | rfl | k_is)
    (case yp6_LookupError => first | rfl | k_is)
    (case yp6_ValueError => first | rfl | k_is)
    (case yp7_0 => first | rfl | k_is)
    (case yp7_1 => first | rfl | k_is)
    (case yp7_2 => first | rfl | k_is)
    (case yp7_3 => first | rfl | k_is)
    (case yp7_4 => first | rfl | k_is)
    (case yp7_5 => first | rfl | k_is)
    (case yp7_6 => first | rfl | k_is)
    (case yp7_7 => first | rfl | k_is)
    (case yp7_8 => first | rfl | k_is)
    (case yp7_Exception => first | rfl | k_is)
    (case yp7_ArithmeticError => first | rfl | k_is)
    (case yp7_LookupError => first | rfl | k_is)
    (case yp7_ValueError => first | rfl | k_is)
    (case yp8_8 => first | rfl | k_is)
#print axioms PySem.Challenge.cw_eachsecond_k00_errors_holds

