import PyProof.Rows.All
import Wide.All
import OpenK.AllK
import Wide.FinOn
import HandS.ForMost
import HandS.IsInst
import HandS.CallLocal
import HandS.TupAny
import HandS.NoneIn
import HandS.StrMore
import HandS.Codes
import HandS.SortInts
import HandS.SetKeys
import HandS.Lambda
import HandS.More
import HandS.Zip
import KE.GoesZip
import KE.GoesMore
import KE.LtData
import KE.SortData
import HandS.Conv
import HandS.TupLe
import HandS.Wide
import KE.KFromBytes
import HandS.ForExc
import HandS.ExcInit
import HandS.FStr
import HandS.Defaults
import KE.KLam
import KE.SortKeyHeap
import HandS.EndTab
import HandS.Sort
import KE.KTupSum
import PyProof.ListRange
import HandS.TupMul
import HandS.DictComp
import HandS.Iter
import PyProof.StrLawsIn
import KE.KNestM
import PySem.Challenge.RW_eachsecond_k15_shares_and_taxes
set_option Elab.async false
set_option linter.all false
set_option maxRecDepth 100000
set_option maxHeartbeats 4000000
namespace Pv
open PySem L2

inductive D where
  | non | bl (b : Bool) | int (i : Int) | str (x : Str)
  | tup (ds : List D) | lst (ds : List D)
  | dK (ks : List Key) (ds : List D) | dT (ks : List (List Key)) (ds : List D)
  | fn (n : Nat) | scr (ns : List Int)
inductive W where
  | d (x : D) | mu (n : Nat)
def hasK (k : Key) (ks : List Key) : Bool := ks.any fun q => decide (q = k)
inductive MO where
  | dead | lst (ds : List D) | dK (ks : List Key) (ds : List D) | dT (ks : List (List Key)) (ds : List D) | set (ks : List Key)
structure FA where
  fa : Nat → Addr
  P : Program
  w : World
  tabs : List (Addr × Str)
instance : CoeFun FA fun _ => Nat → Addr := ⟨FA.fa⟩
abbrev Store := List MO
abbrev En := List (Option W)

abbrev nilH : Hp := fun _ => none

section
variable (K : PySem.W.Frag) (fa : FA) (G : Hp)
mutual
def RepD : V → D → Prop
  | v, .non => v = .non
  | v, .bl b => v = .bl b
  | v, .int i => v = .int i
  | v, .str x => v = .str x
  | v, .tup ds => ∃ a vs, v = .ref a ∧ (G a = some (.tup vs) ∨ False) ∧ RepDs vs ds
  | v, .lst ds => ∃ a vs, v = .ref a ∧ G a = some (.lst vs) ∧ RepDs vs ds
  | v, .dK ks ds => ∃ a kvs, v = .ref a ∧ G a = some (.dK kvs) ∧ kvs.map (·.1) = ks ∧ RepDs (kvs.map (·.2)) ds
  | v, .dT ks ds => ∃ a kvs, v = .ref a ∧ G a = some (.dT kvs) ∧ kvs.map (·.1) = ks ∧ RepDs (kvs.map (·.2)) ds
  | v, .fn n => v = .ref (fa n)
  | v, .scr ns => ∃ a, v = .ref a ∧ SqL K G a (ns.map V.int)
def RepDs : List V → List D → Prop
  | vs, [] => vs = []
  | vs, d :: ds => ∃ v r, vs = v :: r ∧ RepD v d ∧ RepDs r ds
end
end

abbrev GLe (G G' : Hp) : Prop := ∀ a u, G a = some u → G' a = some u
section
variable {K : PySem.W.Frag} {fa : FA} {G G' : Hp}
mutual
theorem RepD.mono (l : GLe G G') : ∀ {d : D} {v : V}, RepD K fa G v d → RepD K fa G' v d
  | .non, _, h | .bl _, _, h | .int _, _, h | .str _, _, h | .fn _, _, h => by simpa only [RepD] using h
  | .tup ds, _, h => by
    simp only [RepD] at h ⊢
    obtain ⟨a, vs, e, q, r⟩ := h
    exact ⟨a, vs, e, q.imp (l _ _) id, RepDs.mono l r⟩
  | .lst ds, _, h => by
    simp only [RepD] at h ⊢
    obtain ⟨a, vs, e, q, r⟩ := h
    exact ⟨a, vs, e, l _ _ q, RepDs.mono l r⟩
  | .scr ns, _, h => by
    simp only [RepD] at h ⊢
    obtain ⟨a, e, q⟩ := h
    refine ⟨a, e, ?_⟩
    rcases q with (q | ⟨o, q⟩) | q
    · exact .inl (.inl (l _ _ q))
    · exact .inl (.inr ⟨o, l _ _ q⟩)
    · exact .inr q
  | .dK ks ds, _, h => by
    simp only [RepD] at h ⊢
    obtain ⟨a, kvs, e, q, e2, r⟩ := h
    exact ⟨a, kvs, e, l _ _ q, e2, RepDs.mono l r⟩
  | .dT ks ds, _, h => by
    simp only [RepD] at h ⊢
    obtain ⟨a, kvs, e, q, e2, r⟩ := h
    exact ⟨a, kvs, e, l _ _ q, e2, RepDs.mono l r⟩
theorem RepDs.mono (l : GLe G G') : ∀ {ds : List D} {vs : List V}, RepDs K fa G vs ds → RepDs K fa G' vs ds
  | [], _, h => by simpa only [RepDs] using h
  | d :: ds, _, h => by
    simp only [RepDs] at h ⊢
    obtain ⟨v, r, e, h1, h2⟩ := h
    exact ⟨v, r, e, RepD.mono l h1, RepDs.mono l h2⟩
end
theorem RepDs.length : ∀ {ds : List D} {vs : List V}, RepDs K fa G vs ds → vs.length = ds.length
  | [], _, h => by simp only [RepDs] at h; subst h; rfl
  | d :: ds, _, h => by
    simp only [RepDs] at h
    obtain ⟨v, r, rfl, h1, h2⟩ := h
    simp [RepDs.length h2]
theorem RepDs.nil : RepDs K fa G [] [] := by simp only [RepDs]
theorem RepDs.cons {v : V} {vs : List V} {d : D} {ds : List D} (h1 : RepD K fa G v d) (h2 : RepDs K fa G vs ds) : RepDs K fa G (v :: vs) (d :: ds) := by
  simp only [RepDs]
  exact ⟨v, vs, rfl, h1, h2⟩
theorem RepDs.get : ∀ {ds : List D} {vs : List V} {i : Nat} {d : D}, RepDs K fa G vs ds → ds[i]? = some d → ∃ v, vs[i]? = some v ∧ RepD K fa G v d
  | [], _, _, _, _, e => by simp at e
  | d' :: ds, _, 0, d, h, e => by
    simp only [RepDs] at h
    obtain ⟨v, r, rfl, h1, h2⟩ := h
    simp at e; subst e
    exact ⟨v, rfl, h1⟩
  | d' :: ds, _, i + 1, d, h, e => by
    simp only [RepDs] at h
    obtain ⟨v, r, rfl, h1, h2⟩ := h
    obtain ⟨v', q1, q2⟩ := RepDs.get (i := i) (d := d) h2 (by simpa using e)
    exact ⟨v', by simpa using q1, q2⟩
theorem RepDs.append : ∀ {ds es : List D} {vs us : List V}, RepDs K fa G vs ds → RepDs K fa G us es → RepDs K fa G (vs ++ us) (ds ++ es)
  | [], es, _, us, h, q => by simp only [RepDs] at h; subst h; exact q
  | d :: ds, es, _, us, h, q => by
    simp only [RepDs] at h
    obtain ⟨v, r, rfl, h1, h2⟩ := h
    exact RepDs.cons h1 (RepDs.append h2 q)
theorem RepDs.take : ∀ {ds : List D} {vs : List V} (n : Nat), RepDs K fa G vs ds → RepDs K fa G (vs.take n) (ds.take n)
  | [], _, n, h => by simp only [RepDs] at h; subst h; simpa using RepDs.nil
  | d :: ds, _, 0, h => by simpa using RepDs.nil
  | d :: ds, _, n + 1, h => by
    simp only [RepDs] at h
    obtain ⟨v, r, rfl, h1, h2⟩ := h
    simpa using RepDs.cons h1 (RepDs.take n h2)
theorem RepDs.drop : ∀ {ds : List D} {vs : List V} (n : Nat), RepDs K fa G vs ds → RepDs K fa G (vs.drop n) (ds.drop n)
  | [], _, n, h => by simp only [RepDs] at h; subst h; simpa using RepDs.nil
  | d :: ds, _, 0, h => by simpa using h
  | d :: ds, _, n + 1, h => by
    simp only [RepDs] at h
    obtain ⟨v, r, rfl, h1, h2⟩ := h
    simpa using RepDs.drop n h2
theorem RepDs.set : ∀ {ds : List D} {vs : List V} (i : Nat) {v : V} {d : D}, RepDs K fa G vs ds → RepD K fa G v d → RepDs K fa G (vs.set i v) (ds.set i d)
  | [], _, i, _, _, h, _ => by simp only [RepDs] at h; subst h; simpa using RepDs.nil
  | d' :: ds, _, 0, _, _, h, q => by
    simp only [RepDs] at h
    obtain ⟨v, r, rfl, h1, h2⟩ := h
    simpa using RepDs.cons q h2
  | d' :: ds, _, n + 1, _, _, h, q => by
    simp only [RepDs] at h
    obtain ⟨v, r, rfl, h1, h2⟩ := h
    simpa using RepDs.cons h1 (RepDs.set n h2 q)
theorem RepDs.ints : ∀ {ns : List Int} {vs : List V}, RepDs K fa G vs (ns.map D.int) → vs = ns.map V.int
  | [], _, h => by simpa [RepDs] using h
  | n :: ns, _, h => by
    simp only [List.map_cons, RepDs] at h
    obtain ⟨v, r, rfl, h1, h2⟩ := h
    simp only [RepD] at h1
    rw [h1, RepDs.ints h2]; rfl
theorem RepDs.of_ints : ∀ {ns : List Int}, RepDs K fa G (ns.map V.int) (ns.map D.int)
  | [] => RepDs.nil
  | n :: ns => RepDs.cons (by simp only [RepD]) RepDs.of_ints
theorem RepDs.bls : ∀ {ns : List Bool} {vs : List V}, RepDs K fa G vs (ns.map D.bl) → vs = ns.map V.bl
  | [], _, h => by simpa [RepDs] using h
  | n :: ns, _, h => by
    simp only [List.map_cons, RepDs] at h
    obtain ⟨v, r, rfl, h1, h2⟩ := h
    simp only [RepD] at h1
    rw [h1, RepDs.bls h2]; rfl
end

structure Gh where
  G : Hp
  φ : Nat → Addr
  n : Nat
  lk : Bool
  F : Hp
def isDic : HO → Bool
  | .dK _ => true
  | .dT _ => true
  | _ => false
def isTp : HO → Bool
  | .tup _ => true
  | .ext _ => true
  | .tbl _ => true
  | _ => false
structure Gh.le (g g' : Gh) : Prop where
  G : GLe g.G g'.G
  φ : ∀ i, i < g.n → g'.φ i = g.φ i
  n : g.n ≤ g'.n
  lk : g'.lk = g.lk
  F : g'.F = g.F
theorem Gh.le.refl (g : Gh) : g.le g := ⟨fun _ _ h => h, fun _ _ => rfl, Nat.le_refl _, rfl, rfl⟩
theorem Gh.le.trans {a b c : Gh} (h : a.le b) (q : b.le c) : a.le c :=
  ⟨fun x u e => q.G x u (h.G x u e), fun i hi => (q.φ i (Nat.lt_of_lt_of_le hi h.n)).trans (h.φ i hi), Nat.le_trans h.n q.n, q.lk.trans h.lk, q.F.trans h.F⟩

section
variable (K : PySem.W.Frag) (fa : FA)
def RepW (g : Gh) (v : V) : W → Prop
  | .d x => RepD K fa g.G v x
  | .mu i => v = .ref (g.φ i) ∧ i < g.n
def RepM (G : Hp) (a : Addr) (u : HO) : MO → Prop
  | .dead => False
  | .set ks => u = SetK fa.P fa.w a (fun k => hasK k ks) ks.length
  | .lst ds => ∃ vs, u = .lst vs ∧ RepDs K fa G vs ds
  | .dK ks ds => ∃ kvs, u = .dK kvs ∧ kvs.map (·.1) = ks ∧ RepDs K fa G (kvs.map (·.2)) ds
  | .dT ks ds => ∃ kvs, u = .dT kvs ∧ kvs.map (·.1) = ks ∧ RepDs K fa G (kvs.map (·.2)) ds
structure Rel (g : Gh) (H : Hp) (S : Store) : Prop where
  len : S.length = g.n
  ext : ∀ a u, g.G a = some u → H a = some u ∨ (isDic u = true ∧ g.lk = true ∧ ∃ o, H a = some (.frz o u))
  live : ∀ (i : Nat) mo, S[i]? = some mo → mo ≠ .dead → ∃ u, H (g.φ i) = some u ∧ RepM K fa g.G (g.φ i) u mo ∧ g.G (g.φ i) = none
  inj : ∀ (i j : Nat) mi mj, S[i]? = some mi → S[j]? = some mj → mi ≠ .dead → mj ≠ .dead → g.φ i = g.φ j → i = j
  frm : ∀ a u, g.F a = some u → H a = some u ∧ g.G a = none ∧ ∀ (i : Nat) mo, S[i]? = some mo → mo ≠ .dead → g.φ i ≠ a
  ft : ∀ a u, g.F a = some u → isTp u = false
  tb : ∀ p ∈ fa.tabs, LamX.TabS H p.1 p.2 ∧ g.G p.1 = none
  gt : ∀ a ps, g.G a ≠ some (.tbl ps)
def RepEn (g : Gh) (σ : L2.St) (ρ : En) : Prop := σ.length = ρ.length ∧ ∀ (i : Nat) w, ρ[i]? = some (some w) → ∃ v, σ[i]? = some (some v) ∧ RepW K fa g v w
end

section
variable {K : PySem.W.Frag} {fa : FA} {g g' : Gh} {H : Hp} {S : Store} {σ : L2.St} {ρ : En}
theorem RepW.mono (l : g.le g') {v : V} : ∀ {w : W}, RepW K fa g v w → RepW K fa g' v w
  | .d _, h => RepD.mono l.G h
  | .mu i, h => ⟨h.1.trans (congrArg V.ref (l.φ i h.2).symm), Nat.lt_of_lt_of_le h.2 l.n⟩
theorem RepEn.mono (l : g.le g') (h : RepEn K fa g σ ρ) : RepEn K fa g' σ ρ := ⟨h.1, fun i w e => let ⟨v, a, b⟩ := h.2 i w e; ⟨v, a, RepW.mono l b⟩⟩
theorem Rel.rd (r : Rel K fa g H S) {a : Addr} {u : HO} (e : g.G a = some u) : Rd H a u := by
  rcases r.ext a u e with h | ⟨_, _, h⟩
  · exact .inl h
  · exact .inr h
theorem Rel.sqT (r : Rel K fa g H S) {a : Addr} {vs : List V} (e : g.G a = some (.tup vs) ∨ False) : SqT K H a vs := by
  rcases e with e | e
  · exact .inl (r.rd e)
  · exact e.elim
theorem Rel.lst (r : Rel K fa g H S) {a : Addr} {vs : List V} (e : g.G a = some (.lst vs)) : H a = some (.lst vs) := by
  rcases r.ext a _ e with h | ⟨h, _⟩
  · exact h
  · cases h
theorem Rel.scr (r : Rel K fa g H S) {a : Addr} {vs : List V} (e : SqL K g.G a vs) : SqL K H a vs := by
  rcases e with (e | ⟨o, e⟩) | e
  · exact .inl (r.rd e)
  · rcases r.ext a _ e with h | ⟨h, _⟩
    · exact .inl (.inr ⟨o, h⟩)
    · cases h
  · exact .inr e
theorem Rel.fresh (r : Rel K fa g H S) {p : Addr} (hp : H p = none) : g.G p = none := by
  cases q : g.G p with
  | none => rfl
  | some u =>
    rcases r.ext p u q with h | ⟨_, _, o, h⟩ <;> rw [hp] at h <;> cases h
theorem Rel.ne_live (r : Rel K fa g H S) {p : Addr} (hp : H p = none) {i : Nat} {mo : MO} (e : S[i]? = some mo) (hm : mo ≠ .dead) : g.φ i ≠ p := by
  obtain ⟨u, h, _⟩ := r.live i mo e hm
  rintro rfl
  rw [hp] at h; cases h

theorem setK_ne {P : Program} {w : World} {a : Addr} {S : Key → Bool} {n : Nat} {q : Str} : SetK P w a S n ≠ LamX.CodeO a q := fun z => by
  have e := HO.ext.inj z
  have h2 : (fun h : Heap => ∃ (oc : Obj) (vs : Array Value) (t : Tok), h.get? a = some oc ∧ oc.data = .fields vs ∧ vs[1]? = some (.str q t)) { objs := Array.replicate (a + 1) { cls := .none, data := .fields #[.none, .str q 0] } } := by
    refine ⟨{ cls := .none, data := .fields #[.none, .str q 0] }, _, 0, ?_, rfl, rfl⟩
    simp [Heap.get?]
  rw [← e] at h2
  obtain ⟨o, es, ep, t, ho, _, hd, _⟩ := h2
  simp [Heap.get?] at ho
  subst ho
  cases hd
theorem repM_not {G : Hp} {a : Addr} {u : HO} : ∀ {mo : MO}, RepM K fa G a u mo → (∀ ps, u ≠ .tbl ps) ∧ ∀ q, u ≠ LamX.CodeO a q
  | .dead, h => h.elim
  | .lst _, ⟨_, e, _⟩ => by subst e; exact ⟨(fun _ z => nomatch z), (fun _ z => by unfold LamX.CodeO at z; cases z)⟩
  | .dK _ _, ⟨_, e, _⟩ => by subst e; exact ⟨(fun _ z => nomatch z), (fun _ z => by unfold LamX.CodeO at z; cases z)⟩
  | .dT _ _, ⟨_, e, _⟩ => by subst e; exact ⟨(fun _ z => nomatch z), (fun _ z => by unfold LamX.CodeO at z; cases z)⟩
  | .set _, e => by
    have e' := e
    simp only [RepM] at e'
    subst e'
    exact ⟨(fun _ z => by unfold SetK at z; cases z), fun _ => setK_ne⟩
theorem tabS_upd {H : Hp} {P : Addr} {q : Str} (t : LamX.TabS H P q) {x : Addr} {o : HO} (h1 : ∀ ps, H x ≠ some (.tbl ps)) (h2 : ∀ q, H x ≠ some (LamX.CodeO x q)) : LamX.TabS (upd H x o) P q ∧ x ≠ P := by
  obtain ⟨ps, a1, a2, a3⟩ := t
  have ne : x ≠ P := fun z => h1 ps (z ▸ a1)
  refine ⟨⟨ps, by rw [upd_ne (Ne.symm ne)]; exact a1, a2, fun pos cv hc => ?_⟩, ne⟩
  obtain ⟨c, e1, e2⟩ := a3 pos cv hc
  refine ⟨c, e1, ?_⟩
  have : c ≠ x := fun z => h2 q (by rw [← z]; exact e2)
  rw [upd_ne this]; exact e2
theorem Rel.live_not (r : Rel K fa g H S) {n : Nat} {mo : MO} (e : S[n]? = some mo) (hm : mo ≠ .dead) : (∀ ps, H (g.φ n) ≠ some (.tbl ps)) ∧ ∀ q, H (g.φ n) ≠ some (LamX.CodeO (g.φ n) q) := by
  obtain ⟨u, h1, h2, _⟩ := r.live n mo e hm
  obtain ⟨a1, a2⟩ := repM_not h2
  exact ⟨fun ps z => a1 ps (by rw [h1] at z; exact Option.some.inj z), fun q z => a2 q (by rw [h1] at z; exact Option.some.inj z)⟩
theorem Rel.frm_not (r : Rel K fa g H S) {p : Addr} {o : HO} (e : g.F p = some o) : (∀ ps, H p ≠ some (.tbl ps)) ∧ ∀ q, H p ≠ some (LamX.CodeO p q) := by
  have h1 := (r.frm p o e).1
  have h2 := r.ft p o e
  refine ⟨fun ps z => ?_, fun q z => ?_⟩
  · rw [h1] at z; cases z; cases h2
  · rw [h1] at z; cases z; cases h2
theorem none_not {p : Addr} (hp : H p = none) : (∀ ps, H p ≠ some (.tbl ps)) ∧ ∀ q, H p ≠ some (LamX.CodeO p q) := ⟨(fun _ z => by rw [hp] at z; cases z), (fun _ z => by rw [hp] at z; cases z)⟩
theorem Rel.tabU (r : Rel K fa g H S) {x : Addr} {o : HO} (h : (∀ ps, H x ≠ some (.tbl ps)) ∧ ∀ q, H x ≠ some (LamX.CodeO x q)) : ∀ p ∈ fa.tabs, LamX.TabS (upd H x o) p.1 p.2 ∧ g.G p.1 = none := fun p hp => ⟨(tabS_upd (r.tb p hp).1 h.1 h.2).1, (r.tb p hp).2⟩
theorem Rel.tabG (r : Rel K fa g H S) {x : Addr} {o : HO} (h : (∀ ps, H x ≠ some (.tbl ps)) ∧ ∀ q, H x ≠ some (LamX.CodeO x q)) : ∀ p ∈ fa.tabs, upd g.G x o p.1 = none := fun p hp => by
  have ne := (tabS_upd (o := o) (r.tb p hp).1 h.1 h.2).2
  rw [upd_ne (Ne.symm ne)]
  exact (r.tb p hp).2
def Gh.add (g : Gh) (p : Addr) (o : HO) : Gh := { g with G := upd g.G p o }
theorem Gh.le_add {p : Addr} {o : HO} (hp : g.G p = none) : g.le (g.add p o) :=
  ⟨fun a u e => by show upd g.G p o a = some u; rw [upd_ne (ne_of_none e hp)]; exact e, fun _ _ => rfl, Nat.le_refl _, rfl, rfl⟩
theorem RepM.mono {G G' : Hp} (l : GLe G G') {a : Addr} {u : HO} : ∀ {mo : MO}, RepM K fa G a u mo → RepM K fa G' a u mo
  | .dead, h => h
  | .set _, h => h
  | .lst _, ⟨vs, e, h⟩ => ⟨vs, e, RepDs.mono l h⟩
  | .dK _ _, ⟨vs, e, e2, h⟩ => ⟨vs, e, e2, RepDs.mono l h⟩
  | .dT _ _, ⟨vs, e, e2, h⟩ => ⟨vs, e, e2, RepDs.mono l h⟩
theorem updG_gt {G : Hp} (h : ∀ a ps, G a ≠ some (.tbl ps)) {x : Addr} {o : HO} (ho : ∀ ps, o ≠ .tbl ps) : ∀ a ps, upd G x o a ≠ some (.tbl ps) := fun a ps z => by
  by_cases ha : a = x
  · rw [ha, upd_same] at z; exact ho ps (Option.some.inj z)
  · rw [upd_ne ha] at z; exact h a ps z
def isTb : HO → Bool
  | .tbl _ => true
  | _ => false
theorem isTb_ne {o : HO} (h : isTb o = false) : ∀ ps, o ≠ .tbl ps := fun ps z => by subst z; cases h
theorem Rel.add (r : Rel K fa g H S) {p : Addr} {o : HO} (hp : H p = none) (ho : isTb o = false := by rfl) : Rel K fa (g.add p o) (upd H p o) S := by
  have hg := r.fresh hp
  refine ⟨r.len, fun a u e => ?_, fun i mo e hm => ?_, r.inj, fun a u e => ?_, r.ft, fun q hq => ⟨(r.tabU (none_not hp) q hq).1, r.tabG (none_not hp) q hq⟩, updG_gt r.gt (isTb_ne ho)⟩
  · by_cases ha : a = p
    · subst ha
      have e' : upd g.G a o a = some u := e
      rw [upd_same] at e'; cases e'
      exact .inl upd_same
    · have e' : upd g.G p o a = some u := e
      rw [upd_ne ha] at e'
      rw [upd_ne ha]
      exact r.ext a u e'
  · obtain ⟨u, h1, h2, h3⟩ := r.live i mo e hm
    have ne : g.φ i ≠ p := r.ne_live hp e hm
    refine ⟨u, by show upd H p o (g.φ i) = some u; rw [upd_ne ne]; exact h1, RepM.mono (Gh.le_add hg).G h2, ?_⟩
    show upd g.G p o (g.φ i) = none
    rw [upd_ne ne]; exact h3
  · obtain ⟨h1, h2, h3⟩ := r.frm a u e
    have ne : a ≠ p := ne_of_none h1 hp
    refine ⟨by rw [upd_ne ne]; exact h1, ?_, h3⟩
    show upd g.G p o a = none
    rw [upd_ne ne]; exact h2
def Gh.push (g : Gh) (p : Addr) : Gh := { g with φ := fun i => if i = g.n then p else g.φ i, n := g.n + 1 }
theorem Gh.le_push {p : Addr} : g.le (g.push p) :=
  ⟨fun _ _ e => e, fun i hi => by show (if i = g.n then p else g.φ i) = g.φ i; rw [if_neg (by omega)], Nat.le_succ _, rfl, rfl⟩
theorem getElem?_push {S : Store} {mo m : MO} {i : Nat} (h : (S ++ [mo])[i]? = some m) : S[i]? = some m ∧ i < S.length ∨ i = S.length ∧ m = mo := by
  rcases Nat.lt_or_ge i S.length with hi | hi
  · rw [List.getElem?_append_left hi] at h
    exact .inl ⟨h, hi⟩
  · rw [List.getElem?_append_right hi] at h
    rcases Nat.eq_or_lt_of_le hi with e | e
    · subst e
      simp at h
      exact .inr ⟨rfl, h.symm⟩
    · rw [List.getElem?_eq_none (by simp; omega)] at h; cases h
theorem Rel.push (r : Rel K fa g H S) {p : Addr} {o : HO} {mo : MO} (hp : H p = none) (hm : RepM K fa g.G p o mo) : Rel K fa (g.push p) (upd H p o) (S ++ [mo]) := by
  have hg := r.fresh hp
  have old : ∀ {i : Nat}, i < S.length → (g.push p).φ i = g.φ i := fun {i} hi => by
    show (if i = g.n then p else g.φ i) = g.φ i
    rw [if_neg (by rw [r.len] at hi; omega)]
  have new : (g.push p).φ S.length = p := by
    show (if S.length = g.n then p else g.φ S.length) = p
    rw [if_pos r.len]
  refine ⟨by simp [Gh.push, r.len], fun a u e => ?_, fun i m e hm' => ?_, fun i j mi mj ei ej hi hj q => ?_, fun a u e => ?_, r.ft, r.tabU (none_not hp), r.gt⟩
  · have e' : g.G a = some u := e
    have ha : a ≠ p := ne_of_none e' hg
    rw [upd_ne ha]
    exact r.ext a u e'
  · rcases getElem?_push e with ⟨e1, hl⟩ | ⟨rfl, rfl⟩
    · rw [old hl]
      obtain ⟨u, h1, h2, h3⟩ := r.live i m e1 hm'
      exact ⟨u, by rw [upd_ne (r.ne_live hp e1 hm')]; exact h1, h2, h3⟩
    · rw [new]
      exact ⟨o, upd_same, hm, hg⟩
  · rcases getElem?_push ei with ⟨e1, l1⟩ | ⟨rfl, rfl⟩
    · rcases getElem?_push ej with ⟨e2, l2⟩ | ⟨rfl, rfl⟩
      · rw [old l1, old l2] at q
        exact r.inj i j mi mj e1 e2 hi hj q
      · rw [old l1, new] at q
        exact absurd q (r.ne_live hp e1 hi)
    · rcases getElem?_push ej with ⟨e2, l2⟩ | ⟨rfl, rfl⟩
      · rw [new, old l2] at q
        exact absurd q.symm (r.ne_live hp e2 hj)
      · rfl
  · obtain ⟨h1, h2, h3⟩ := r.frm a u e
    have ne : a ≠ p := ne_of_none h1 hp
    refine ⟨by rw [upd_ne ne]; exact h1, h2, fun i m ei hi => ?_⟩
    rcases getElem?_push ei with ⟨e1, l1⟩ | ⟨rfl, rfl⟩
    · rw [old l1]; exact h3 i m e1 hi
    · rw [new]; exact ne.symm
theorem getElem?_setS {S : Store} {mo m : MO} {i n : Nat} (h : (S.set n mo)[i]? = some m) : i = n ∧ m = mo ∧ n < S.length ∨ i ≠ n ∧ S[i]? = some m := by
  by_cases hi : i = n
  · subst hi
    by_cases hl : i < S.length
    · rw [List.getElem?_set_self hl] at h
      cases h
      exact .inl ⟨rfl, rfl, hl⟩
    · rw [List.getElem?_eq_none (by simpa using hl)] at h; cases h
  · rw [List.getElem?_set_ne (Ne.symm hi)] at h
    exact .inr ⟨hi, h⟩
theorem Rel.write (r : Rel K fa g H S) {n : Nat} {m0 mo : MO} {o : HO} (e0 : S[n]? = some m0) (h0 : m0 ≠ .dead) (hm : RepM K fa g.G (g.φ n) o mo) : Rel K fa g (upd H (g.φ n) o) (S.set n mo) := by
  obtain ⟨u0, l1, l2, l3⟩ := r.live n m0 e0 h0
  have key : ∀ (i : Nat) mi, (S.set n mo)[i]? = some mi → mi ≠ .dead → ∃ m', S[i]? = some m' ∧ m' ≠ .dead := fun i mi ei hi => by
    rcases getElem?_setS ei with ⟨rfl, _, _⟩ | ⟨_, e1⟩
    · exact ⟨m0, e0, h0⟩
    · exact ⟨mi, e1, hi⟩
  refine ⟨by simpa using r.len, fun a u e => ?_, fun i m e hm' => ?_, fun i j mi mj ei ej hi hj q => ?_, fun a u e => ?_, r.ft, r.tabU (r.live_not e0 h0), r.gt⟩
  · have ha : a ≠ g.φ n := ne_of_none e l3
    rw [upd_ne ha]
    exact r.ext a u e
  · rcases getElem?_setS e with ⟨rfl, rfl, _⟩ | ⟨hi, e1⟩
    · exact ⟨o, upd_same, hm, l3⟩
    · obtain ⟨u, h1, h2, h3⟩ := r.live i m e1 hm'
      refine ⟨u, ?_, h2, h3⟩
      rw [upd_ne fun q => hi (r.inj i n m m0 e1 e0 hm' h0 q)]
      exact h1
  · obtain ⟨m1, a1, a2⟩ := key i mi ei hi
    obtain ⟨m2, b1, b2⟩ := key j mj ej hj
    exact r.inj i j m1 m2 a1 b1 a2 b2 q
  · obtain ⟨h1, h2, h3⟩ := r.frm a u e
    refine ⟨by rw [upd_ne (h3 n m0 e0 h0).symm]; exact h1, h2, fun i m ei hi => ?_⟩
    obtain ⟨m1, a1, a2⟩ := key i m ei hi
    exact h3 i m1 a1 a2
theorem Rel.freeze (r : Rel K fa g H S) {n : Nat} {m0 : MO} (e0 : S[n]? = some m0) (h0 : m0 ≠ .dead) :
    ∃ u, g.G (g.φ n) = none ∧ RepM K fa g.G (g.φ n) u m0 ∧ Rel K fa (g.add (g.φ n) u) H (S.set n .dead) := by
  obtain ⟨u, l1, l2, l3⟩ := r.live n m0 e0 h0
  refine ⟨u, l3, l2, by simpa [Gh.add] using r.len, fun a w e => ?_, fun i m e hm' => ?_, fun i j mi mj ei ej hi hj q => ?_, fun a w e => ?_, r.ft, fun q hq => ⟨(r.tb q hq).1, r.tabG (r.live_not e0 h0) q hq⟩, updG_gt r.gt (repM_not l2).1⟩
  · have e' : upd g.G (g.φ n) u a = some w := e
    by_cases ha : a = g.φ n
    · rw [ha, upd_same] at e'; cases e'
      rw [ha]
      exact .inl l1
    · rw [upd_ne ha] at e'
      exact r.ext a w e'
  · rcases getElem?_setS e with ⟨rfl, rfl, _⟩ | ⟨hi, e1⟩
    · exact absurd rfl hm'
    · obtain ⟨w, h1, h2, h3⟩ := r.live i m e1 hm'
      refine ⟨w, h1, RepM.mono (Gh.le_add l3).G h2, ?_⟩
      show upd g.G (g.φ n) u (g.φ i) = none
      rw [upd_ne fun q => hi (r.inj i n m m0 e1 e0 hm' h0 q)]
      exact h3
  · rcases getElem?_setS ei with ⟨rfl, rfl, _⟩ | ⟨_, e1⟩
    · exact absurd rfl hi
    · rcases getElem?_setS ej with ⟨rfl, rfl, _⟩ | ⟨_, e2⟩
      · exact absurd rfl hj
      · exact r.inj i j mi mj e1 e2 hi hj q
  · obtain ⟨h1, h2, h3⟩ := r.frm a w e
    refine ⟨h1, ?_, fun i m ei hi => ?_⟩
    · show upd g.G (g.φ n) u a = none
      rw [upd_ne (h3 n m0 e0 h0).symm]; exact h2
    · rcases getElem?_setS ei with ⟨rfl, rfl, _⟩ | ⟨_, e1⟩
      · exact absurd rfl hi
      · exact h3 i m e1 hi

def Gh.hold (g : Gh) (p : Addr) (o : HO) : Gh := { g with F := upd g.F p o }
theorem Rel.hold (r : Rel K fa g H S) {p : Addr} {o : HO} (hp : H p = none) (ho : isTp o = false := by rfl) : Rel K fa (g.hold p o) (upd H p o) S := by
  have hg := r.fresh hp
  refine ⟨r.len, fun a u e => ?_, fun i mo e hm => ?_, r.inj, fun a u e => ?_, fun a u e => ?_, r.tabU (none_not hp), r.gt⟩
  · rw [upd_ne (ne_of_none (show g.G a = some u from e) hg)]
    exact r.ext a u e
  · obtain ⟨u, h1, h2, h3⟩ := r.live i mo e hm
    exact ⟨u, by show upd H p o (g.φ i) = some u; rw [upd_ne (r.ne_live hp e hm)]; exact h1, h2, h3⟩
  · have e' : upd g.F p o a = some u := e
    by_cases ha : a = p
    · subst ha
      rw [upd_same] at e'; cases e'
      exact ⟨upd_same, hg, fun i mo e hm => r.ne_live hp e hm⟩
    · rw [upd_ne ha] at e'
      obtain ⟨h1, h2, h3⟩ := r.frm a u e'
      exact ⟨by rw [upd_ne ha]; exact h1, h2, h3⟩
  · have e' : upd g.F p o a = some u := e
    by_cases ha : a = p
    · subst ha
      rw [upd_same] at e'; cases e'
      exact ho
    · rw [upd_ne ha] at e'
      exact r.ft a u e'
theorem Rel.rehold (r : Rel K fa g H S) {p : Addr} {o o' : HO} (hp : g.F p = some o) (ho : isTp o' = false := by rfl) : Rel K fa { g with F := upd g.F p o' } (upd H p o') S := by
  obtain ⟨q1, q2, q3⟩ := r.frm p o hp
  refine ⟨r.len, fun a u e => ?_, fun i mo e hm => ?_, r.inj, fun a u e => ?_, fun a u e => ?_, r.tabU (r.frm_not hp), r.gt⟩
  · rw [upd_ne (ne_of_none (show g.G a = some u from e) q2)]
    exact r.ext a u e
  · obtain ⟨u, h1, h2, h3⟩ := r.live i mo e hm
    exact ⟨u, by show upd H p o' (g.φ i) = some u; rw [upd_ne (q3 i mo e hm)]; exact h1, h2, h3⟩
  · have e' : upd g.F p o' a = some u := e
    by_cases ha : a = p
    · subst ha
      rw [upd_same] at e'; cases e'
      exact ⟨upd_same, q2, q3⟩
    · rw [upd_ne ha] at e'
      obtain ⟨h1, h2, h3⟩ := r.frm a u e'
      exact ⟨by rw [upd_ne ha]; exact h1, h2, h3⟩
  · have e' : upd g.F p o' a = some u := e
    by_cases ha : a = p
    · subst ha
      rw [upd_same] at e'; cases e'
      exact ho
    · rw [upd_ne ha] at e'
      exact r.ft a u e'
theorem Rel.unhold (r : Rel K fa g H S) {p : Addr} {o : HO} {F0 : Hp} (hp : g.F p = some o) (hF : ∀ a u, F0 a = some u → a ≠ p ∧ g.F a = some u) : Rel K fa { g.add p o with F := F0 } H S ∧ g.G p = none := by
  obtain ⟨q1, q2, q3⟩ := r.frm p o hp
  refine ⟨⟨r.len, fun a u e => ?_, fun i mo e hm => ?_, r.inj, fun a u e => ?_, fun a u e => r.ft a u (hF a u e).2, fun q hq => ⟨(r.tb q hq).1, r.tabG (r.frm_not hp) q hq⟩, updG_gt r.gt fun ps z => by have := r.ft p o hp; rw [z] at this; cases this⟩, q2⟩
  · have e' : upd g.G p o a = some u := e
    by_cases ha : a = p
    · subst ha
      rw [upd_same] at e'; cases e'
      exact .inl q1
    · rw [upd_ne ha] at e'
      exact r.ext a u e'
  · obtain ⟨u, h1, h2, h3⟩ := r.live i mo e hm
    refine ⟨u, h1, RepM.mono (Gh.le_add q2).G h2, ?_⟩
    show upd g.G p o (g.φ i) = none
    rw [upd_ne (q3 i mo e hm)]; exact h3
  · obtain ⟨n1, n2⟩ := hF a u e
    obtain ⟨h1, h2, h3⟩ := r.frm a u n2
    refine ⟨h1, ?_, h3⟩
    show upd g.G p o a = none
    rw [upd_ne n1]; exact h2
theorem Rel.lockF (r : Rel K fa g H S) {n : Nat} {m0 : MO} {o : HO} (e0 : S[n]? = some m0) (h0 : m0 ≠ .dead) (ho : isTp o = false := by rfl) : Rel K fa { g with F := upd g.F (g.φ n) o } (upd H (g.φ n) o) (S.set n .dead) := by
  obtain ⟨u, l1, l2, l3⟩ := r.live n m0 e0 h0
  refine ⟨by simpa using r.len, fun a w e => ?_, fun i m e hm' => ?_, fun i j mi mj ei ej hi hj q => ?_, fun a w e => ?_, fun a w e => ?_, r.tabU (r.live_not e0 h0), r.gt⟩
  · rw [upd_ne (ne_of_none (show g.G a = some w from e) l3)]
    exact r.ext a w e
  · rcases getElem?_setS e with ⟨rfl, rfl, _⟩ | ⟨hi, e1⟩
    · exact absurd rfl hm'
    · obtain ⟨w, h1, h2, h3⟩ := r.live i m e1 hm'
      refine ⟨w, ?_, h2, h3⟩
      show upd H (g.φ n) o (g.φ i) = some w
      rw [upd_ne fun q => hi (r.inj i n m m0 e1 e0 hm' h0 q)]
      exact h1
  · rcases getElem?_setS ei with ⟨rfl, rfl, _⟩ | ⟨_, e1⟩
    · exact absurd rfl hi
    · rcases getElem?_setS ej with ⟨rfl, rfl, _⟩ | ⟨_, e2⟩
      · exact absurd rfl hj
      · exact r.inj i j mi mj e1 e2 hi hj q
  · have e' : upd g.F (g.φ n) o a = some w := e
    by_cases ha : a = g.φ n
    · subst ha
      rw [upd_same] at e'; cases e'
      refine ⟨upd_same, l3, fun i m ei hi => ?_⟩
      rcases getElem?_setS ei with ⟨rfl, rfl, _⟩ | ⟨hn, e1⟩
      · exact absurd rfl hi
      · exact fun q => hn (r.inj i n m m0 e1 e0 hi h0 q)
    · rw [upd_ne ha] at e'
      obtain ⟨h1, h2, h3⟩ := r.frm a w e'
      refine ⟨by rw [upd_ne ha]; exact h1, h2, fun i m ei hi => ?_⟩
      rcases getElem?_setS ei with ⟨rfl, rfl, _⟩ | ⟨_, e1⟩
      · exact absurd rfl hi
      · exact h3 i m e1 hi
  · have e' : upd g.F (g.φ n) o a = some w := e
    by_cases ha : a = g.φ n
    · subst ha
      rw [upd_same] at e'; cases e'
      exact ho
    · rw [upd_ne ha] at e'
      exact r.ft a w e'
theorem Rel.letgo (r : Rel K fa g H S) {p : Addr} {o o' : HO} {F0 : Hp} (hp : g.F p = some o) (hF : ∀ a u, F0 a = some u → a ≠ p ∧ g.F a = some u) : Rel K fa { g with F := F0 } (upd H p o') S := by
  obtain ⟨q1, q2, q3⟩ := r.frm p o hp
  refine ⟨r.len, fun a u e => ?_, fun i mo e hm => ?_, r.inj, fun a u e => ?_, fun a u e => r.ft a u (hF a u e).2, r.tabU (r.frm_not hp), r.gt⟩
  · rw [upd_ne (ne_of_none (show g.G a = some u from e) q2)]
    exact r.ext a u e
  · obtain ⟨u, h1, h2, h3⟩ := r.live i mo e hm
    refine ⟨u, ?_, h2, h3⟩
    show upd H p o' (g.φ i) = some u
    rw [upd_ne (q3 i mo e hm)]; exact h1
  · obtain ⟨n1, n2⟩ := hF a u e
    obtain ⟨h1, h2, h3⟩ := r.frm a u n2
    exact ⟨by rw [upd_ne n1]; exact h1, h2, h3⟩
theorem Rel.tables (r : Rel K fa g H S) {H1 : Hp} (e : LamX.ExtN H H1) (t : LamX.Tabs fa.tabs H1) : Rel K fa g H1 S := by
  refine ⟨r.len, fun a u q => ?_, fun i mo q hm => ?_, r.inj, fun a u q => ?_, r.ft, fun p hp => ⟨t p hp, (r.tb p hp).2⟩, r.gt⟩
  · rcases r.ext a u q with h | ⟨h1, h2, o, h3⟩
    · exact .inl (e a u h fun ps z => r.gt a ps (by rw [q, z]))
    · exact .inr ⟨h1, h2, o, e a _ h3 fun _ z => nomatch z⟩
  · obtain ⟨u, h1, h2, h3⟩ := r.live i mo q hm
    exact ⟨u, e _ _ h1 (repM_not h2).1, h2, h3⟩
  · obtain ⟨h1, h2, h3⟩ := r.frm a u q
    exact ⟨e a u h1 (fun ps z => by have := r.ft a u q; rw [z] at this; cases this), h2, h3⟩
theorem Rel.cut (r : Rel K fa g H S) {n : Nat} (hn : n ≤ g.n) : Rel K fa { g with n := n } H (S.take n) := by
  have key : ∀ (i : Nat) mo, (S.take n)[i]? = some mo → S[i]? = some mo := fun i mo e => by
    rw [List.getElem?_take] at e
    split at e
    · exact e
    · cases e
  refine ⟨by have := r.len; rw [List.length_take]; show min n S.length = n; omega, r.ext, fun i mo e hm => r.live i mo (key i mo e) hm, fun i j mi mj ei ej => r.inj i j mi mj (key i mi ei) (key j mj ej), fun a u e => ?_, r.ft, r.tb, r.gt⟩
  obtain ⟨h1, h2, h3⟩ := r.frm a u e
  exact ⟨h1, h2, fun i mo ei hi => h3 i mo (key i mo ei) hi⟩
theorem Rel.adopt (r : Rel K fa g H S) {b : Addr} {vs : List V} (hb : H b = some (.tup vs)) : ∃ g', g.le g' ∧ Rel K fa g' H S ∧ g'.G b = some (.tup vs) := by
  cases hg : g.G b with
  | some u =>
    refine ⟨g, .refl g, r, ?_⟩
    rcases r.ext b u hg with h | ⟨_, _, o, h⟩
    · rw [hb] at h; rw [hg]; exact h.symm
    · rw [hb] at h; cases h
  | none =>
    refine ⟨g.add b (.tup vs), Gh.le_add hg, ⟨r.len, fun a u e => ?_, fun i mo e hm => ?_, r.inj, fun a u e => ?_, r.ft, fun q hq => ⟨(r.tb q hq).1, r.tabG ⟨fun ps z => (by rw [hb] at z; cases z), fun q z => (by rw [hb] at z; unfold LamX.CodeO at z; cases z)⟩ q hq⟩, updG_gt r.gt fun _ z => nomatch z⟩, upd_same⟩
    · have e' : upd g.G b (.tup vs) a = some u := e
      by_cases ha : a = b
      · subst ha
        rw [upd_same] at e'; cases e'
        exact .inl hb
      · rw [upd_ne ha] at e'
        exact r.ext a u e'
    · obtain ⟨u, h1, h2, h3⟩ := r.live i mo e hm
      have ne : g.φ i ≠ b := by
        rintro rfl
        rw [hb] at h1
        cases h1
        cases mo with
        | dead => exact hm rfl
        | lst ds => obtain ⟨_, z, _⟩ := h2; cases z
        | dK ks ds => obtain ⟨_, z, _⟩ := h2; cases z
        | dT ks ds => obtain ⟨_, z, _⟩ := h2; cases z
        | set ks => exact absurd h2 (fun z => nomatch z)
      refine ⟨u, h1, RepM.mono (Gh.le_add hg).G h2, ?_⟩
      show upd g.G b (.tup vs) (g.φ i) = none
      rw [upd_ne ne]; exact h3
    · obtain ⟨h1, h2, h3⟩ := r.frm a u e
      have ne : a ≠ b := by
        rintro rfl
        rw [hb] at h1
        cases h1
        have := r.ft _ _ e
        simp [isTp] at this
      refine ⟨h1, ?_, h3⟩
      show upd g.G b (.tup vs) a = none
      rw [upd_ne ne]; exact h2
end
end Pv

set_option Elab.async false
set_option linter.all false
set_option maxRecDepth 100000
set_option maxHeartbeats 4000000
namespace PvR
open PySem PySem.Spec PyProof.Rows L2
theorem ints_at : ∀ {us : List Value} {ks : List Int}, us.length = ks.length → (∀ (j : Nat) (v : Value), us[j]? = some v → ∃ (x : Int) (t : Tok), ks[j]? = some x ∧ v = Value.int x t) → IntsAre us ks
  | [], [], _, _ => .nil
  | u :: us, k :: ks, hl, h => by
    obtain ⟨x, t, e1, e2⟩ := h 0 u rfl
    have e1' : k = x := Option.some.inj e1
    subst e1'
    subst e2
    refine .cons _ _ (ints_at (by simpa using hl) fun j v e => ?_)
    obtain ⟨x, t, a, b⟩ := h (j + 1) v (by simpa using e)
    exact ⟨x, t, by simpa using a, b⟩
  | [], _ :: _, hl, _ => by simp at hl
  | _ :: _, [], hl, _ => by simp at hl
def rLtD (K : PySem.W.Frag) : R2 := fun x y H Q => ∃ d e, Dp K H x d ∧ Dp K H y e ∧ PySem.W.alike d e = true ∧ d ≠ .none ∧ min d.depth e.depth ≤ 64 ∧ Q (.bl (PySem.W.dataLt d e)) H
theorem op_ltD {X : Cx} (hu : X.A.units + 64 < cLine) : OpR X (compareOp .Lt) (rLtD X.K) := by
  intro pins s σ H x y v u Q I rx ry h
  obtain ⟨d, e, hd, he, al, hn, hm, q⟩ := h
  obtain ⟨as, r1⟩ := Dp.reads I d x v hd rx
  obtain ⟨bs, r2⟩ := Dp.reads I e y u he ry
  exact PySem.W.rcLt_alike d e X.A s v u as bs r1 r2 al hn (by omega) X.prog X.w X.xe _ ⟨.bl _, H, I, rfl, q⟩
def rSortedDI : List V → Hp → VK → Prop := fun xs H Q => ∃ (a : Addr) (kvs : List (Key × V)) (ks : List Int), xs = [.ref a] ∧ Rd H a (.dK kvs) ∧ kvs.map (·.1) = ks.map Sum.inl ∧
    ∀ (ns' : List Int) (p : Addr), ns'.Perm ks → ns'.Pairwise (· ≤ ·) → H p = none → Q (.ref p) (upd H p (.lst (ns'.map V.int)))
theorem call_sortedDI {X : Cx} (hcalm : X.calm = true) : CallR X (.builtin "sorted") rSortedDI := by
  intro pins s σ H xs us Q I r q
  obtain ⟨a, kvs, ks, ex, hd, hks, q⟩ := q
  subst ex
  obtain ⟨u, eu, rx⟩ := vals1 r
  subst eu
  cases rx
  obtain ⟨z, lo, vs, rel, dd⟩ := dk_rd I.hok hd
  obtain ⟨ep, hat⟩ := dd.dictAt
  have hkeys : vs.map (·.1) = ks.map Sum.inl := rel.keys.symm.trans hks
  have hl : vs.length = ks.length := by
    have e := congrArg List.length hkeys
    rw [List.length_map, List.length_map] at e
    exact e
  have h16 : vs.length ≤ sizeLine := by rw [← rel.length]; exact z
  refine Calls.call_function_entry PyProof.Rows.kind_sorted PyProof.Rows.plain_sorted PyProof.Rows.entry_sorted (PyProof.Rows.args_sorted1 _) ?_
  unfold Builtin.«sorted»
  refine wpAny_bind (m := checkCount "sorted" 1 1 _) (wpAny_pure ?_)
  refine wpAny_bind (PySem.W.kdu_collect (A := X.A.in1) (PySem.W.kdl_dict (knd := mixKind X.prog X.w) (kvs := vs) (ep := ep) lo) (I.ok.hd hcalm) hat h16 fun h' tk acc hk hacc => ?_)
  have hal : acc.toList.length = ks.length := by rw [Array.length_toList, hacc.1, hl]
  have hS : IntsAre acc.toList ks := ints_at hal fun j v e => by
    obtain ⟨k, x, e1, e2⟩ := hacc.2 j v (by rw [← Array.getElem?_toList]; exact e)
    have e3 : (vs.map (·.1))[j]? = some k := by rw [List.getElem?_map, e1]; all_goals rfl
    rw [hkeys, List.getElem?_map] at e3
    cases e4 : ks[j]? with
    | none => rw [e4] at e3; cases e3
    | some y =>
      rw [e4] at e3
      have e5 : Sum.inl y = k := Option.some.inj e3
      subst e5
      obtain ⟨t, ev⟩ := Value.isInt_shape (k := y) (v := v) e2
      exact ⟨y, t, rfl, ev⟩
  have hsz : acc.toList.length ≤ sizeLine := by rw [hal, ← hl]; exact h16
  have I1 : Inv X pins σ H { s with heap := h', toks := tk } := I.kept hk
  refine wpAny_bind (wpAny_newList ?_ hsz)
  have hoL : (h'.push (seqObj "list" acc.toList.toArray 0)).get? h'.objs.size = some (seqObj "list" acc.toList.toArray 0) := Heap.get?_push_size _ rfl
  show wpAny _ _ _ _ _ { s with heap := h'.push (seqObj "list" acc.toList.toArray 0), toks := tk }
  refine wpAny_bind (wpAny_holding (wpAny_call_entry PyProof.Rows.slot_list_sort ⟨_, hoL, rfl⟩ PyProof.Rows.entry_list_sort
    (SrtO.list_sort_ord SrtO.swo_int (s := { s with heap := h'.push (seqObj "list" acc.toList.toArray 0), toks := tk }) hoL hsz (fun h2 => SrtO.ints_sortable hS h2) fun out h1 h2 => ⟨_, rfl, ?_⟩)
    (PyProof.Rows.args_list_sort _)))
  obtain ⟨k1, k2, k3⟩ := SrtO.ints_out hS h1 h2
  obtain ⟨e', he'⟩ := PyProof.Rows.sortedHeap_at (vs := acc.toList) (out := out.toArray) hoL
  have hlen : ((out.map SrtO.iv).map V.int).length ≤ sizeLine := by
    rw [List.length_map, k2.length_eq, ← hal]
    exact hsz
  refine wpAny_pure ⟨_, rfl, .ref h'.objs.size, upd H h'.objs.size (.lst ((out.map SrtO.iv).map V.int)), I1.laid (t' := tk) (fun b u e => ?_) (Nat.le_refl _)
    (show ObjOk X.prog X.w _ _ _ (.lst ((out.map SrtO.iv).map V.int)) from ⟨hlen, out, e', vals_of_ints k1, he'⟩), rfl, q _ _ k2 k3 (I1.hok.fresh (Nat.le_refl _))⟩
  have hb : b < h'.objs.size := Heap.lt_size e
  rw [PyProof.Rows.sortedHeap_old (Nat.ne_of_lt hb) (by rw [size_push']; exact Nat.lt_succ_of_lt hb)]
  exact Heap.get?_push_of_some _ e
def rSortedDS : List V → Hp → VK → Prop := fun xs H Q => ∃ (a : Addr) (kvs : List (Key × V)) (ks : List Str), xs = [.ref a] ∧ Rd H a (.dK kvs) ∧ kvs.map (·.1) = ks.map Sum.inr ∧
    ∀ (p : Addr), H p = none → Q (.ref p) (upd H p (.lst ((ks.mergeSort (PySem.W.dataLe false PyData.str)).map V.str)))
def isS (v : Value) (x : Str) : Prop := ∃ t, v = Value.str x t
theorem strs_each : ∀ {us : List Value} {ks : List Str}, us.length = ks.length → (∀ (j : Nat) (v : Value), us[j]? = some v → ∃ (x : Str) (t : Tok), ks[j]? = some x ∧ v = Value.str x t) → PySem.W.EachIs isS us ks
  | [], [], _, _ => .nil
  | u :: us, k :: ks, hl, h => by
    obtain ⟨x, t, e1, e2⟩ := h 0 u rfl
    have e1' : k = x := Option.some.inj e1
    subst e1'
    subst e2
    refine .cons ⟨t, rfl⟩ (strs_each (by simpa using hl) fun j v e => ?_)
    obtain ⟨x, t, a, b⟩ := h (j + 1) v (by simpa using e)
    exact ⟨x, t, by simpa using a, b⟩
  | [], _ :: _, hl, _ => by simp at hl
  | _ :: _, [], hl, _ => by simp at hl
theorem vals_of_isS : ∀ {us : List Value} {ks : List Str}, PySem.W.EachIs isS us ks → Vals (ks.map V.str) us
  | _, _, .nil => .nil
  | _, _, .cons ⟨t, e⟩ r => by subst e; exact .cons ⟨t, rfl⟩ (vals_of_isS r)
theorem call_sortedDS {X : Cx} (hcalm : X.calm = true) (hu : X.A.units + 64 < cLine) : CallR X (.builtin "sorted") rSortedDS := by
  intro pins s σ H xs us Q I r q
  obtain ⟨a, kvs, ks, ex, hd, hks, q⟩ := q
  subst ex
  obtain ⟨u, eu, rx⟩ := vals1 r
  subst eu
  cases rx
  obtain ⟨z, lo, vs, rel, dd⟩ := dk_rd I.hok hd
  obtain ⟨ep, hat⟩ := dd.dictAt
  have hkeys : vs.map (·.1) = ks.map Sum.inr := rel.keys.symm.trans hks
  have hl : vs.length = ks.length := by
    have e := congrArg List.length hkeys
    rw [List.length_map, List.length_map] at e
    exact e
  have h16 : vs.length ≤ sizeLine := by rw [← rel.length]; exact z
  refine Calls.call_function_entry PyProof.Rows.kind_sorted PyProof.Rows.plain_sorted PyProof.Rows.entry_sorted (PyProof.Rows.args_sorted1 _) ?_
  unfold Builtin.«sorted»
  refine wpAny_bind (m := checkCount "sorted" 1 1 _) (wpAny_pure ?_)
  refine wpAny_bind (PySem.W.kdu_collect (A := X.A.in1) (PySem.W.kdl_dict (knd := mixKind X.prog X.w) (kvs := vs) (ep := ep) lo) (I.ok.hd hcalm) hat h16 fun h' tk acc hk hacc => ?_)
  have hal : acc.toList.length = ks.length := by rw [Array.length_toList, hacc.1, hl]
  have hS : PySem.W.EachIs isS acc.toList ks := strs_each hal fun j v e => by
    obtain ⟨k, x, e1, e2⟩ := hacc.2 j v (by rw [← Array.getElem?_toList]; exact e)
    have e3 : (vs.map (·.1))[j]? = some k := by rw [List.getElem?_map, e1]; all_goals rfl
    rw [hkeys, List.getElem?_map] at e3
    cases e4 : ks[j]? with
    | none => rw [e4] at e3; cases e3
    | some y =>
      rw [e4] at e3
      have e5 : Sum.inr y = k := Option.some.inj e3
      subst e5
      obtain ⟨t, ev⟩ := Value.isStrOf_shape (x := y) (v := v) e2
      exact ⟨y, t, rfl, ev⟩
  have hsz : acc.toList.length ≤ sizeLine := by rw [hal, ← hl]; exact h16
  have I1 : Inv X pins σ H { s with heap := h', toks := tk } := I.kept hk
  refine wpAny_bind (wpAny_newList ?_ hsz)
  have hoL : (h'.push (seqObj "list" acc.toList.toArray 0)).get? h'.objs.size = some (seqObj "list" acc.toList.toArray 0) := Heap.get?_push_size _ rfl
  show wpAny _ _ _ _ _ { s with heap := h'.push (seqObj "list" acc.toList.toArray 0), toks := tk }
  refine wpAny_bind (wpAny_holding (PySem.W.list_sort_data (s := { s with heap := h'.push (seqObj "list" acc.toList.toArray 0), toks := tk }) (R := isS) (enc := PyData.str) (bs := ks) hoL hS
    (hS.mono fun v b ⟨t, e⟩ => by subst e; exact ⟨[], .str _ _, by simp⟩) (PySem.W.AllAlike.of fun _ _ => rfl) (PySem.W.Sortable.others fun b => ⟨(fun z => nomatch z), fun _ z => nomatch z⟩) (by rw [← hl]; exact h16) (fun b _ => ?_) fun out hlo ho => ?_))
  · show _ + 1 + 0 < cLine
    have : X.A.in1.units = X.A.units + 1 := rfl
    omega
  obtain ⟨e', he'⟩ := PyProof.Rows.sortedHeap_at (vs := acc.toList) (out := out.toArray) hoL
  have hlen : ((ks.mergeSort (PySem.W.dataLe false PyData.str)).map V.str).length ≤ sizeLine := by
    rw [List.length_map, List.length_mergeSort, ← hl]
    exact h16
  refine wpAny_pure ⟨_, rfl, .ref h'.objs.size, upd H h'.objs.size (.lst ((ks.mergeSort (PySem.W.dataLe false PyData.str)).map V.str)), I1.laid (t' := tk) (fun b u e => ?_) (Nat.le_refl _)
    (show ObjOk X.prog X.w _ _ _ (.lst ((ks.mergeSort (PySem.W.dataLe false PyData.str)).map V.str)) from ⟨hlen, out, e', vals_of_isS ho, he'⟩), rfl, q _ (I1.hok.fresh (Nat.le_refl _))⟩
  have hb : b < h'.objs.size := Heap.lt_size e
  rw [PyProof.Rows.sortedHeap_old (Nat.ne_of_lt hb) (by rw [size_push']; exact Nat.lt_succ_of_lt hb)]
  exact Heap.get?_push_of_some _ e
def keyPy : Key → PyData
  | .inl i => .int i
  | .inr x => .str x
def keysPy (k : List Key) : PyData := .tuple (k.map keyPy)
theorem depthAll_keys : ∀ k : List Key, PyData.depthAll (k.map keyPy) = 0
  | [] => by simp [PyData.depthAll]
  | .inl i :: k => by simp [PyData.depthAll, keyPy, PyData.depth, depthAll_keys k]
  | .inr x :: k => by simp [PyData.depthAll, keyPy, PyData.depth, depthAll_keys k]
theorem depth_keys (k : List Key) : (keysPy k).depth ≤ 1 := by simp [keysPy, PyData.depth, depthAll_keys]
theorem readsAll_keys {h : Heap} : ∀ {k : List Key} {its : List Value}, Vals (k.map kV) its → ReadsAll h its (k.map keyPy) []
  | [], its, r => by
    cases r
    exact .nil
  | .inl i :: k, its, r => by
    cases r with
    | cons h t =>
      obtain ⟨tk, rfl⟩ := h
      exact .cons (as := []) (bs := []) (.int i tk) (readsAll_keys t)
  | .inr x :: k, its, r => by
    cases r with
    | cons h t =>
      obtain ⟨tk, rfl⟩ := h
      exact .cons (as := []) (bs := []) (.str x tk) (readsAll_keys t)
def rSortedDT : List V → Hp → VK → Prop := fun xs H Q => ∃ (a : Addr) (kvs : List (List Key × V)), xs = [.ref a] ∧ Rd H a (.dT kvs) ∧ PySem.W.AllAlike ((kvs.map (·.1)).map keysPy) ∧ (∀ k ∈ kvs.map (·.1), k ≠ []) ∧
    ∀ (p : Addr) (bs : List (List Key × Addr)), bs.map (·.1) = (kvs.map (·.1)).mergeSort (PySem.W.dataLe false keysPy) → (∀ b ∈ bs, H b.2 = some (.tup (b.1.map kV))) → H p = none → Q (.ref p) (upd H p (.lst (bs.map fun b => V.ref b.2)))
theorem each_refs : ∀ bs : List (List Key × Addr), PySem.W.EachIs (fun (v : Value) (b : List Key × Addr) => v = Value.ref b.2) (bs.map fun b => Value.ref b.2) bs
  | [] => .nil
  | b :: bs => .cons rfl (each_refs bs)
theorem vals_each : ∀ {us : List Value} {bs : List (List Key × Addr)}, PySem.W.EachIs (fun (v : Value) (b : List Key × Addr) => v = Value.ref b.2) us bs → Vals (bs.map fun b => V.ref b.2) us
  | _, _, .nil => .nil
  | _, _, .cons e r => by subst e; exact .cons rfl (vals_each r)
theorem each_reads {h : Heap} {p : Addr} : ∀ {bs : List (List Key × Addr)}, (∀ b ∈ bs, ∃ its : List Value, Vals (b.1.map kV) its ∧ IsTup h b.2 its.toArray) → PySem.W.EachIs (fun (v : Value) (b : List Key × Addr) => ∃ as, Reads h v (keysPy b.1) as ∧ p ∉ as) (bs.map fun b => Value.ref b.2) bs
  | [], _ => .nil
  | b :: bs, q => by
    refine .cons ?_ (each_reads fun x hx => q x (List.mem_cons_of_mem _ hx))
    obtain ⟨its, r, ⟨o, ho, hc, n, hd⟩⟩ := q b List.mem_cons_self
    exact ⟨[], .tuple ho hc hd (by simpa using readsAll_keys r), by simp⟩
theorem call_sortedDT {X : Cx} (hcalm : X.calm = true) (hu : X.A.units + 64 < cLine) : CallR X (.builtin "sorted") rSortedDT := by
  intro pins s σ H xs us Q I r q
  obtain ⟨a, kvs, ex, hd, hal, hne, q⟩ := q
  subst ex
  obtain ⟨u, eu, rx⟩ := vals1 r
  subst eu
  cases rx
  obtain ⟨z, hs, ks, pr, o, es, ep, ho, hx, hdt, he, hn⟩ := (show ObjOk X.prog X.w H s.heap a (.dT kvs) from hd.ok I.hok)
  have l1 : es.size = ks.length := size_of_entries he
  have l2 : kvs.length = ks.length := Paired.length pr
  refine Calls.call_function_entry PyProof.Rows.kind_sorted PyProof.Rows.plain_sorted PyProof.Rows.entry_sorted (PyProof.Rows.args_sorted1 _) ?_
  unfold Builtin.«sorted»
  refine wpAny_bind (m := checkCount "sorted" 1 1 _) (wpAny_pure ?_)
  refine wpAny_bind (PySem.W.kdu_collect (A := X.A.in1) (kdl_raw hs hx hdt) (I.ok.hd hcalm) ho (by omega) fun h' tk acc hk it => ?_)
  have ea : acc.toList = ks.map fun x => Value.ref x.2.1 := by
    have hl : acc.toList.length = ks.length := by rw [Array.length_toList, it.1]; exact l1
    apply List.ext_getElem?
    intro j
    rw [List.getElem?_map]
    cases hj : acc.toList[j]? with
    | none =>
      have h1 := List.getElem?_eq_none_iff.mp hj
      rw [List.getElem?_eq_none (by omega)]
      all_goals rfl
    | some v =>
      obtain ⟨en, hen, hv⟩ := it.2 j v (by rw [← Array.getElem?_toList]; exact hj)
      have qe := entry_at he j
      rw [hen] at qe
      cases hb : ks[j]? with
      | none =>
        rw [hb] at qe
        exact nomatch (show some en = none from qe)
      | some b =>
        rw [hb] at qe
        have e2 : en = entryOfKey (tupleKind (mixKind X.prog X.w)) b := Option.some.inj qe
        rw [hv, e2]
        all_goals rfl
  have eb : acc.toList = (ks.map fun x => (x.1, x.2.1)).map fun b => Value.ref b.2 := by rw [ea, List.map_map]; all_goals rfl
  have ek : (ks.map fun x => (x.1, x.2.1)).map (·.1) = kvs.map (·.1) := by
    rw [List.map_map]
    have : ∀ {kvs : List (List Key × V)} {ks : List (List Key × Addr × Value)}, Paired (fun (p : List Key × V) (q : List Key × Addr × Value) => p.1 = q.1 ∧ H q.2.1 = some (.tup (p.1.map kV)) ∧ RelV p.2 q.2.2) kvs ks → ks.map ((fun x => x.1) ∘ fun x => (x.1, x.2.1)) = kvs.map (·.1) := by
      intro kvs ks pr
      induction pr with
      | nil => rfl
      | cons h t ih => rw [List.map_cons, List.map_cons, ih]; simp [h.1]
    exact this pr
  have hbs : ∀ b ∈ ks.map fun x => (x.1, x.2.1), H b.2 = some (.tup (b.1.map kV)) := by
    intro b hb
    obtain ⟨x, hx, rfl⟩ := List.mem_map.mp hb
    have : ∀ {kvs : List (List Key × V)} {ks : List (List Key × Addr × Value)}, Paired (fun (p : List Key × V) (q : List Key × Addr × Value) => p.1 = q.1 ∧ H q.2.1 = some (.tup (p.1.map kV)) ∧ RelV p.2 q.2.2) kvs ks → ∀ x ∈ ks, H x.2.1 = some (.tup (x.1.map kV)) := by
      intro kvs ks pr
      induction pr with
      | nil => intro x hx; simp at hx
      | cons h t ih =>
        intro x hx
        rcases List.mem_cons.mp hx with rfl | hx
        · rw [← h.1]; exact h.2.1
        · exact ih x hx
    exact this pr x hx
  generalize hB : (ks.map fun x => (x.1, x.2.1)) = B at eb ek hbs
  have hBl : B.length = ks.length := by rw [← hB, List.length_map]
  have hsz : acc.toList.length ≤ sizeLine := by rw [eb, List.length_map]; omega
  have I1 : Inv X pins σ H { s with heap := h', toks := tk } := I.kept hk
  refine wpAny_bind (wpAny_newList ?_ hsz)
  have hoL : (h'.push (seqObj "list" acc.toList.toArray 0)).get? h'.objs.size = some (seqObj "list" acc.toList.toArray 0) := Heap.get?_push_size _ rfl
  show wpAny _ _ _ _ _ { s with heap := h'.push (seqObj "list" acc.toList.toArray 0), toks := tk }
  have hrd : ∀ b ∈ B, ∃ its : List Value, Vals (b.1.map kV) its ∧ IsTup (h'.push (seqObj "list" acc.toList.toArray 0)) b.2 its.toArray := by
    intro b hb
    obtain ⟨_, its, rv, ⟨o, ho, hc, n, hd⟩⟩ := (show ObjOk X.prog X.w H h' b.2 (.tup (b.1.map kV)) from I1.hok b.2 _ (hbs b hb))
    exact ⟨its, rv, ⟨o, Heap.get?_push_of_some _ ho, hc, n, hd⟩⟩
  have hal' : PySem.W.AllAlike (B.map fun b => keysPy b.1) := by
    have e : (B.map fun b => keysPy b.1) = (kvs.map (·.1)).map keysPy := by rw [← ek, List.map_map]; rfl
    rw [e]; exact hal
  refine wpAny_bind (wpAny_holding (PySem.W.list_sort_data (s := { s with heap := h'.push (seqObj "list" acc.toList.toArray 0), toks := tk }) (R := fun (v : Value) (b : List Key × Addr) => v = Value.ref b.2) (enc := fun b => keysPy b.1) (bs := B) hoL (by rw [eb]; exact each_refs B)
    (by rw [eb] at hrd ⊢; exact each_reads hrd) hal' (.inl fun d hd => ?_) (by omega) (fun b _ => ?_) fun out hlo ho => ?_))
  · obtain ⟨b, hb, rfl⟩ := List.mem_map.mp hd
    have h1 : b.1 ≠ [] := hne b.1 (by rw [← ek]; exact List.mem_map.mpr ⟨b, hb, rfl⟩)
    cases hb1 : b.1 with
    | nil => exact absurd hb1 h1
    | cons x r => exact ⟨keyPy x, r.map keyPy, by simp [keysPy, hb1]⟩
  · have hdp : (keysPy b.1).depth ≤ 1 := depth_keys b.1
    have : X.A.in1.units = X.A.units + 1 := rfl
    omega
  obtain ⟨e', he'⟩ := PyProof.Rows.sortedHeap_at (vs := acc.toList) (out := out.toArray) hoL
  have em : (B.mergeSort (PySem.W.dataLe false fun b => keysPy b.1)).map (·.1) = (kvs.map (·.1)).mergeSort (PySem.W.dataLe false keysPy) := by
    rw [← ek]
    exact PySem.W.sort_maps (f := fun x : List Key × Addr => x.1) (r := PySem.W.dataLe false fun b => keysPy b.1) (s := PySem.W.dataLe false keysPy) fun a _ b _ => rfl
  have hlen : ((B.mergeSort (PySem.W.dataLe false fun b => keysPy b.1)).map fun b => V.ref b.2).length ≤ sizeLine := by
    rw [List.length_map, List.length_mergeSort]; omega
  refine wpAny_pure ⟨_, rfl, .ref h'.objs.size, upd H h'.objs.size (.lst ((B.mergeSort (PySem.W.dataLe false fun b => keysPy b.1)).map fun b => V.ref b.2)), I1.laid (t' := tk) (fun b u e => ?_) (Nat.le_refl _)
    (show ObjOk X.prog X.w _ _ _ (.lst ((B.mergeSort (PySem.W.dataLe false fun b => keysPy b.1)).map fun b => V.ref b.2)) from ⟨hlen, out, e', vals_each ho, he'⟩), rfl, q _ _ em (fun b hb => hbs b (List.mem_mergeSort.mp hb)) (I1.hok.fresh (Nat.le_refl _))⟩
  have hb : b < h'.objs.size := Heap.lt_size e
  rw [PyProof.Rows.sortedHeap_old (Nat.ne_of_lt hb) (by rw [size_push']; exact Nat.lt_succ_of_lt hb)]
  exact Heap.get?_push_of_some _ e
def SqX (k : Bool) (K : PySem.W.Frag) (H : Hp) (a : Addr) (xs : List V) : Prop := cond k (SqT K H a xs) (SqL K H a xs)
def IsX (k : Bool) (h : Heap) (a : Addr) (xs : Array Value) : Prop := cond k (h.IsTuple a xs) (h.IsList a xs)
theorem inv_x {X : Cx} {pins : List (Addr × Obj)} {σ : L2.St} {H : Hp} {s : Shared} {k : Bool} {a : Addr} {xs : List V} (I : Inv X pins σ H s) (h : SqX k X.K H a xs) : ∃ its : List Value, Vals xs its ∧ IsX k s.heap a its.toArray ∧ a < s.heap.objs.size := by
  cases k with
  | true =>
    obtain ⟨its, rv, p, _⟩ := I.tuple h
    exact ⟨its, rv, (show s.heap.IsTuple a its.toArray from p), IsTup.lt p⟩
  | false =>
    obtain ⟨its, rv, p, _⟩ := I.list h
    exact ⟨its, rv, p.isList, p.lt⟩
def ItzX (K : PySem.W.Frag) (k1 k2 : Bool) (a b : Addr) : L2.It :=
  ⟨fun i H => ∃ (xs ys : List V) (x y : V), SqX k1 K H a xs ∧ SqX k2 K H b ys ∧ xs[i]? = some x ∧ ys[i]? = some y,
    fun i H v H' => ∃ T x y, v = .ref T ∧ H T = none ∧ H' = upd H T (.tup [x, y]) ∧ (∀ xs, SqX k1 K H a xs → xs[i]? = some x) ∧ ∀ ys, SqX k2 K H b ys → ys[i]? = some y,
    fun i H => ∃ xs ys : List V, SqX k1 K H a xs ∧ SqX k2 K H b ys ∧ i ≤ xs.length ∧ i ≤ ys.length ∧ (i = xs.length ∨ i = ys.length)⟩
def iZipX (K : PySem.W.Frag) (ta : TA) : TI := fun σ H R => ta σ H fun vs H1 => ∃ k1 k2 a b xs ys, vs = [.ref a, .ref b] ∧ SqX k1 K H1 a xs ∧ SqX k2 K H1 b ys ∧ R (ItzX K k1 k2 a b) H1
def geP (p q r t : Str) : Bool := if p = r then !decide (q.cps.toList < t.cps.toList) else !decide (p.cps.toList < r.cps.toList)
def rGeP (K : PySem.W.Frag) : R2 := fun x y H Q => ∃ (a b : Addr) (p q r t : Str), x = .ref a ∧ y = .ref b ∧ SqT K H a [.str p, .str q] ∧ SqT K H b [.str r, .str t] ∧ Q (.bl (geP p q r t)) H
theorem rc_ge_str {A : Around} {s : Shared} (x y : Str) (t u : Tok) : Ob.RcOp .GtE A s (.str x t) (.str y u) (!decide (x.cps.toList < y.cps.toList)) := fun _ _ _ _ h => PySem.P.ge_str h
theorem vals_two {p q : Str} {its : List Value} (h : Vals [.str p, .str q] its) : ∃ t u, its = [.str p t, .str q u] := by
  cases h with
  | cons h1 h => cases h with
    | cons h2 h => cases h with
      | nil =>
        obtain ⟨t, rfl⟩ := h1
        obtain ⟨u, rfl⟩ := h2
        exact ⟨t, u, rfl⟩
theorem op_geP {X : Cx} (hu : X.A.units + 64 < cLine) : OpR X (compareOp .GtE) (rGeP X.K) := by
  intro pins s σ H x y v u Q I rx ry h
  obtain ⟨a, b, p, q, r, t, rfl, rfl, ha, hb, hq⟩ := h
  cases rx
  cases ry
  obtain ⟨its, h1, i1, _⟩ := inv_x (k := true) I ha
  obtain ⟨its2, h2, i2, _⟩ := inv_x (k := true) I hb
  obtain ⟨t1, t2, rfl⟩ := vals_two h1
  obtain ⟨u1, u2, rfl⟩ := vals_two h2
  have key := Ob.RcOp.tuples_ge (A := X.A) (s := s) (e := fun j => if j = 0 then p == r else q == t) (r := fun j => if j = 0 then !decide (p.cps.toList < r.cps.toList) else !decide (q.cps.toList < t.cps.toList)) i1 i2 (by omega)
    (fun j h1 h2 => match j, h1, h2 with
      | 0, _, _ => PySem.SeqAt.EqAt.str_str p t1 r u1
      | 1, _, _ => PySem.SeqAt.EqAt.str_str q t2 t u2)
    (fun j h1 h2 _ => match j, h1, h2 with
      | 0, _, _ => rc_ge_str p r t1 u1
      | 1, _, _ => rc_ge_str q t t2 u2)
  have e : Ob.lexAt (fun j => if j = 0 then p == r else q == t) (fun j => if j = 0 then !decide (p.cps.toList < r.cps.toList) else !decide (q.cps.toList < t.cps.toList)) true 0 2 = geP p q r t := by
    rw [Ob.lexAt_succ, Ob.lexAt_succ, Ob.lexAt_zero]
    unfold geP
    by_cases c : p = r
    · subst c
      by_cases d : q = t
      · subst d
        have : ¬ q.cps.toList < q.cps.toList := List.lt_irrefl _
        simp [this]
      · simp [d]
    · simp [c]
  have key : Ob.RcOp .GtE X.A s (.ref a) (.ref b) (geP p q r t) := by
    rw [← e]
    exact key
  exact key X.prog X.w X.xe _ ⟨.bl _, H, I, rfl, hq⟩
def rSortedL (K : PySem.W.Frag) : List V → Hp → VK → Prop := fun xs H Q => ∃ (a : Addr) (ps : List (V × PyData)), xs = [.ref a] ∧ SqL K H a (ps.map (·.1)) ∧ (∀ p ∈ ps, Dp K H p.1 p.2) ∧ PySem.W.AllAlike (ps.map (·.2)) ∧ (∀ p ∈ ps, ∃ x r, p.2 = .tuple (x :: r)) ∧ (∀ p ∈ ps, p.2.depth ≤ 60) ∧ ps.length ≤ sizeLine ∧
    ∀ (p : Addr), H p = none → Q (.ref p) (upd H p (.lst ((ps.mergeSort (PySem.W.dataLe false (·.2))).map (·.1))))
theorem each_vals : ∀ {ps : List (V × PyData)} {its : List Value}, Vals (ps.map (·.1)) its → PySem.W.EachIs (fun (v : Value) (b : V × PyData) => RelV b.1 v) its ps
  | [], _, .nil => .nil
  | _ :: _, _, .cons h t => .cons h (each_vals t)
theorem each_dp {X : Cx} {pins : List (Addr × Obj)} {σ : L2.St} {H : Hp} {s : Shared} (I : Inv X pins σ H s) : ∀ {ps : List (V × PyData)} {its : List Value}, (∀ p ∈ ps, Dp X.K H p.1 p.2) → Vals (ps.map (·.1)) its → PySem.W.EachIs (fun (v : Value) (b : V × PyData) => ∃ as, Reads s.heap v b.2 as) its ps
  | [], _, _, .nil => .nil
  | p :: _, v :: _, hd, .cons h t => .cons (Dp.reads I p.2 p.1 v (hd p List.mem_cons_self) h) (each_dp I (fun q hq => hd q (List.mem_cons_of_mem _ hq)) t)
theorem vals_back : ∀ {out : List Value} {bs : List (V × PyData)}, PySem.W.EachIs (fun (v : Value) (b : V × PyData) => RelV b.1 v) out bs → Vals (bs.map (·.1)) out
  | _, _, .nil => .nil
  | _, _, .cons h t => .cons h (vals_back t)
theorem call_sortedL {X : Cx} (hu : X.A.units + 64 < cLine) : CallR X (.builtin "sorted") (rSortedL X.K) := by
  intro pins s σ H xs us Q I r q
  obtain ⟨a, ps, ex, hs, hd, hal, htp, hdp, hlen, q⟩ := q
  subst ex
  obtain ⟨u, eu, rx⟩ := vals1 r
  subst eu
  cases rx
  obtain ⟨its, hv, hi, _⟩ := inv_x (k := false) I hs
  refine PySem.W.sorted_data (bs := ps) (enc := (·.2)) (R := fun (v : Value) (b : V × PyData) => RelV b.1 v) hi (each_vals hv) (each_dp I hd hv) hal (.inl fun d hd => ?_) hlen (fun b hb => ?_) fun out hlo ho => ?_
  · obtain ⟨b, hb, rfl⟩ := List.mem_map.mp hd
    exact htp b hb
  · have := hdp b hb
    omega
  obtain ⟨e', he'⟩ := PyProof.Rows.sortedAll_at s.heap its out.toArray
  have hl2 : ((ps.mergeSort (PySem.W.dataLe false (·.2))).map (·.1)).length ≤ sizeLine := by
    rw [List.length_map, List.length_mergeSort]; exact hlen
  exact ⟨.ref (s.heap.objs.size + 1), upd H (s.heap.objs.size + 1) (.lst ((ps.mergeSort (PySem.W.dataLe false (·.2))).map (·.1))), I.laid (t' := s.toks) (fun b u e => PyProof.Rows.sortedAll_old e) (Nat.le_succ _)
    (show ObjOk X.prog X.w _ _ _ (.lst ((ps.mergeSort (PySem.W.dataLe false (·.2))).map (·.1))) from ⟨hl2, out, e', vals_back ho, he'⟩), rfl, q _ (I.hok.fresh (Nat.le_succ _))⟩
def repS (a : Str) (k : Int) : Str := ⟨List.foldl (fun x1 x2 => x1 ++ x2) #[] (List.replicate k.toNat a.cps)⟩
theorem foldl_size (c : Array Nat) : ∀ (n : Nat) (i : Array Nat), (List.foldl (fun x1 x2 => x1 ++ x2) i (List.replicate n c)).size = i.size + n * c.size
  | 0, i => by simp
  | n + 1, i => by
    rw [List.replicate_succ, List.foldl_cons, foldl_size c n, Array.size_append, Nat.succ_mul]
    omega
theorem repS_len (a : Str) (k : Int) : (repS a k).length = k.toNat * a.length := by
  have := foldl_size a.cps k.toNat #[]
  show (List.foldl (fun x1 x2 => x1 ++ x2) #[] (List.replicate k.toNat a.cps)).size = _
  rw [this]
  simp [Str.length]
def rMulS : R2 := fun x y H Q => ∃ (a : Str) (k : Int), x = .str a ∧ y = .int k ∧ 1 ≤ k ∧ k ≤ 1000 ∧ a.length ≤ 1000 ∧ 1 ≤ a.length ∧ Q (.str (repS a k)) H
theorem op_mulS {X : Cx} : OpR X (binaryOp .Mult) rMulS := by
  intro pins s σ H x y v u Q I rx ry h
  obtain ⟨a, k, rfl, rfl, k1, k2, a2, a1, q⟩ := h
  obtain ⟨t, rfl⟩ := rx
  obtain ⟨t2, rfl⟩ := ry
  have hd : (1000 : Int) ≤ (2 ^ 63 - 1) / k := by
    rw [Int.le_ediv_iff_mul_le (by omega)]
    have e : (2 : Int) ^ 63 - 1 = 9223372036854775807 := by decide
    rw [e]
    omega
  refine PySem.P.mul_str ?_ (fun _ _ => ?_) (fun _ _ => ?_) ?_
  · have e : (2 : Int) ^ 63 = 9223372036854775808 := by decide
    rw [Bool.or_eq_false_iff]
    exact ⟨decide_eq_false (by omega), decide_eq_false (by omega)⟩
  · omega
  · unfold Builtin.Str.tooLong
    refine decide_eq_false ?_
    have h1 : k.toNat ≤ 1000 := by omega
    have h2 : a.length * k.toNat ≤ 1000 * 1000 := Nat.mul_le_mul a2 h1
    have h3 : sizeLine = 16777216 := rfl
    omega
  · rw [if_neg (by omega)]
    by_cases e : k = 1
    · subst e
      have e0 : ((1 : Int) == 1 || a.length == 0) = true := by simp
      rw [if_pos e0]
      have er : repS a 1 = a := by
        unfold repS
        simp
      rw [er] at q
      exact ⟨.str a, H, I, ⟨t, rfl⟩, q⟩
    · have e0 : (k == 1 || a.length == 0) = false := by
        rw [Bool.or_eq_false_iff]
        exact ⟨by simpa using e, by simp; omega⟩
      rw [e0, if_neg (by decide)]
      have h1 : k.toNat ≤ 1000 := by omega
      have h2 : k.toNat * a.length ≤ 1000 * 1000 := Nat.mul_le_mul h1 a2
      have h3 : sizeLine = 16777216 := rfl
      exact ⟨by have := repS_len a k; unfold repS at this; omega, .str (repS a k), H, I.tok _, ⟨_, rfl⟩, q⟩
end PvR

set_option Elab.async false
set_option linter.all false
set_option maxRecDepth 100000
set_option maxHeartbeats 4000000
namespace Pv
open PySem PySem.W PySem.Calls PyProof.Rows PySem.HandSPX

abbrev xTl : List Value := [.type "Exception", .type "BaseException", .type "object"]
theorem has_tl {C B : Addr} (X : String) : (Value.ref C :: Value.ref B :: xTl).contains (.type X) = xTl.contains (.type X) := by
  rw [List.contains_cons, List.contains_cons]; rfl
theorem has_tl1 {B : Addr} (X : String) : (Value.ref B :: xTl).contains (.type X) = xTl.contains (.type X) := by
  rw [List.contains_cons]; rfl

section
open Builtin Builtin.ObjectAttr
variable {prog : Program} {w : World} {A : Around} {R : Result → Shared → Prop} {hp : Heap} {g : Array GenState} {d : Drawn} {t : Nat} {os : OsState}
theorem osaE {K : Frag} {fl : Str} {tk : Tok} {v : Value} {x C B : Addr} {fv : Array Value} {cd : ClassData}
    (X : K.In hp) (gx : hp.get? x = some { cls := .ref C, data := .fields fv }) (gcd : clsIn K C = some cd) (gm : cd.mro = .ref C :: .ref B :: xTl) (gd : cd.hasDict = true) (ga : findIn K (.ref C) fl = some none)
    (end_ : ∀ h' tk' dx, (∀ b o, b ≠ x → hp.get? b = some o → h'.get? b = some o) → hp.objs.size ≤ dx → dx ≠ x → h'.get? x = some { cls := .ref C, dict := some dx, data := .fields fv } → h'.Ns1 dx (fun y => if y = fl then some v else none) → R (.ok (.ret .none)) ⟨h', g, d, tk', os⟩) :
    codeAny (model prog w) A (.call (.builtin "object.__setattr__") ⟨[.ref x, .str fl tk, v], []⟩) R ⟨hp, g, d, t, os⟩ := by
  have I0 : InstAt hp x { cls := .ref C, data := .fields fv } C none := ⟨gx, rfl, rfl, trivial⟩
  have sto := F.store_object
  have ob : cd.mro.contains (.type "object") = true := by rw [gm, has_tl]; decide +kernel
  have nem : cd.mro.isEmpty = false := by rw [gm]; rfl
  have xne : x ≠ hp.objs.size := Nat.ne_of_lt (Heap.lt_size gx)
  have isub : Looks (model prog w) hp (isInstance (.ref x) (.type "object")) true := I0.type.andThen (looks_mroIn X (by unfold mroIn; rw [gcd, Option.bind_some, if_neg (by rw [nem]; decide), ob]))
  refine codeAny_call_builtin sto.slot.plain sto.entry (@check_slot (model prog w) _ _ ⟨hp, g, d, t, os⟩ "object.__setattr__" "object" "__setattr__" (.ref x) [.str fl tk, v] [] _ sto.kind sto.split isub (sto.args (.ref x) (.str fl tk) v) ?_)
  have lmro : Looks (model prog w) hp (mroOf (.ref C)) cd.mro := (looks_clsIn X gcd).andThen .now
  have ltk : Looks (model prog w) hp (storeTaker? none) none := .now
  have lcd : Looks (model prog w) hp (classData C) cd := looks_clsIn X gcd
  have pass : refuseLoop (.ref x) "__setattr__" cd.mro = pure () := by rw [gm, refuseLoop_ref, refuseLoop_ref]; exact F.store_Exception.passes _
  rw [osa_eq, refuse_eq]
  refine wpAny_bind (wpAny_bind (I0.type.at (wpAny_bind (lmro.at ?_)))); rw [pass]
  refine wpAny_pure (wpAny_bind (I0.type.at (wpAny_bind ((looks_findIn X ga).at (wpAny_bind (ltk.at ?_))))))
  show wpAny _ _ (storeInOwnDict (.ref x) (.ref C) (.str fl tk) fl v false) _ _ _
  obtain ⟨n0, b0, m0, s0, q0, hd0, sn0, sb0, ab0, co0, de0⟩ := cd
  dsimp only at gd; subst gd
  unfold storeInOwnDict ownDictForStores
  repeat (first | with_reducible refine store_in_new ?_ ?_ | with_reducible refine wpAny_loadPart_at gx ?_ | with_reducible refine lcd.at ?_ | wp_step)
  · exact ⟨_, #[], _, (Heap.get?_update_ne _ _ _ _ xne.symm).trans (Heap.get?_push_at rfl rfl), rfl, fun e he => absurd he (by simp), fun _ => rfl⟩
  · intro h' tk' hn' sb'
    have gx₁ : (hp.push { cls := .type "dict", data := .dict #[] }).get? x = some { cls := .ref C, data := .fields fv } := Heap.get?_push_of_some _ gx
    refine end_ h' tk' hp.objs.size (fun b o hb ho => (sb'.2 b (Nat.ne_of_lt (Heap.lt_size ho))).trans ((Heap.get?_update_ne _ _ _ _ hb).trans (Heap.get?_push_of_some _ ho))) (Nat.le_refl _) xne.symm ?_ hn'
    exact (sb'.2 x xne).trans (Heap.get?_update_self _ gx₁ rfl)
end
end Pv

namespace Pv
open PySem L2 PySem.Spec PyProof.Rows
structure ErrC (K : PySem.W.Frag) (mg : Str → Option Value) (x bx f : Str) (C B : Addr) : Prop where
  gC : mg x = some (.ref C)
  cls : ∃ nm q N bs sn sub ab col dd k0 k1 k2 k3 k5, K.lookup C = some (excClassObj nm q C N bs (.ref B :: xTl) true sn sub ab col dd k0 k1 k2 k3 k5 "Exception.__new__")
  sa : PySem.W.findIn K (.ref C) "__setattr__" = some (some (.builtin "object.__setattr__"))
  ga : PySem.W.findIn K (.ref C) "__getattribute__" = some (some (.builtin "BaseException.__getattribute__"))
  gg : PySem.W.findIn K (.ref C) "__getattr__" = some none
  noF : PySem.W.findIn K (.ref C) f = some none
  kC : PySem.W.keepIn K (.ref C) = true
  exC : PySem.W.subIn K (.ref C) (.type "BaseException") = some true
  tyC : PySem.W.typeIn K (.ref C) = some (.type "type")
  hdC : PySem.W.hasDictIn K C = true
  isC : PySem.W.isClsIn K C = true
  seC : PySem.W.subIn K (.ref C) (.ref C) = some true
  gB : mg bx = some (.ref B)
  tyB : PySem.W.typeIn K (.ref B) = some (.type "type")
  spB : PySem.W.specialIn K (.ref B) "__getattribute__" = some (some (.builtin "type.__getattribute__"))
  rdB : PySem.W.readsIn K B (.type "type") = true
  fiB : PySem.W.findCls K (.ref B) (.type "type") "__init__" = some (.val (.builtin "Exception.__init__"))
theorem exmSelf {K : PySem.W.Frag} {S : Addr} (h1 : PySem.W.subIn K (.ref S) (.type "BaseException") = some true) (h2 : PySem.W.isClsIn K S = true) (h3 : PySem.W.typeIn K (.ref S) = some (.type "type")) (h4 : PySem.W.subIn K (.ref S) (.ref S) = some true) :
    PySem.W.exmOne K (.ref S) (.ref S) = some true := by
  have e1 : (PySem.W.subIn K (.ref S) (.type "BaseException") == some true) = true := by rw [h1] <;> rfl
  have e2 : ((PySem.W.clsIn K S).isSome && PySem.W.typeIn K (.ref S) == some (.type "type")) = true := by
    have h2' : (PySem.W.clsIn K S).isSome = true := h2
    rw [h2', h3] <;> rfl
  show (if (PySem.W.subIn K (.ref S) (.type "BaseException") == some true) = true then (if ((PySem.W.clsIn K S).isSome && PySem.W.typeIn K (.ref S) == some (.type "type")) = true then PySem.W.subIn K (.ref S) (.ref S) else none) else none) = some true
  rw [if_pos e1, if_pos e2]
  exact h4
section
variable {X : Cx} {pins : List (Addr × Obj)} {σ : L2.St} {H : Hp} {s : Shared} {a C B dx : Addr} {x bx f : Str} {y : V} {u : Value} {E : Value → Shared → Prop} {A : Around}
theorem ErrC.clsD {K : PySem.W.Frag} {mg : Str → Option Value} (T : ErrC K mg x bx f C B) : ∃ cd, PySem.W.clsIn K C = some cd ∧ cd.mro = .ref C :: .ref B :: xTl ∧ cd.hasDict = true := by
  obtain ⟨nm, q, N, bs, sn, sub, ab, col, dd, k0, k1, k2, k3, k5, hC⟩ := T.cls
  exact ⟨{ name := nm, bases := bs, mro := .ref C :: .ref B :: xTl, ns := N, qualname := q, hasDict := true, slotNames := sn, subclasses := sub, abstract := ab, collection := col, hasDel := false }, by unfold PySem.W.clsIn; rw [hC] <;> rfl, rfl, rfl⟩
theorem ostE {Q : Unit → Shared → Prop} (T : ErrC X.K X.mg x bx f C B) (I : Inv X pins σ H s) (e : H a = some (exo a C none)) (ry : RelV y u)
    (k : ∀ dx s', H dx = none → dx ≠ a → Inv X pins σ (upd (upd H dx (exd dx [(f, y)])) a (exo a C (some dx))) s' → Q () s') : wpAny (model X.prog X.w) A (setAttr (.ref a) f u) Q E s := by
  obtain ⟨cd, c1, c2, c3⟩ := T.clsD
  obtain ⟨t1, ho⟩ := exo_at I.hok e
  obtain ⟨hp, g, d, t, os⟩ := s
  refine PySem.W.set_plain I.kIn (ox := { cls := .ref C, dict := none, data := .fields #[.ref t1, .none, .none, .none, .bool false, .none] }) (od := none) ⟨ho, rfl, rfl, trivial⟩ T.sa ?_
  refine osaE I.kIn ho c1 c2 c3 T.noF (fun h' tk' dx kp dn dne hx hn => ?_)
  have dfr : H dx = none := I.hok.fresh dn
  have ned : ∀ {b : Addr} {o : Obj}, hp.get? b = some o → b ≠ dx := fun {b o} q => Nat.ne_of_lt (Nat.lt_of_lt_of_le (Heap.lt_size q) dn)
  have nea : ∀ {b : Addr}, H b = none → b ≠ a := fun {b} n z => by rw [z, e] at n; cases n
  have un : Un X.fs [] H (upd (upd H dx (exd dx [(f, y)])) a (exo a C (some dx))) hp h' :=
    ⟨fun b o q n _ _ => kp b o (nea n) q, fun b o q n _ _ => ⟨o.slots, kp b o (nea n) q⟩, fun b o q n _ => by rw [upd_ne (nea n), upd_ne (ned q)]; exact n,
      fun b o q _ => by
        by_cases hb : b = a
        · exact ⟨_, by rw [hb]; exact hx⟩
        · exact ⟨o, kp b o hb q⟩,
      fun b xs q => by rw [upd_ne (at_ne e q exo_tup), upd_ne (ne_of_none q dfr)]; exact q, fun b o v q => by rw [upd_ne (at_ne e q exo_frz), upd_ne (ne_of_none q dfr)]; exact q,
      fun b ps q => ⟨#[], by rw [upd_ne (at_ne e q exo_tbl), upd_ne (ne_of_none q dfr), q]; simp⟩⟩
  refine k dx _ dfr dne (I.un (t' := tk') un fun b o q => ?_)
  by_cases hb : b = a
  · subst hb; rw [upd_same] at q; cases q
    exact exo_ok hx
  · rw [upd_ne hb] at q
    by_cases hd : b = dx
    · subst hd; rw [upd_same] at q; cases q
      exact exd_ok hn (relO_put (fs := []) ry fun g => True.intro)
    · rw [upd_ne hd] at q
      refine (I.hok b o q).stay (fun c v hc z => kp c v (hc.elim (fun hc => by rw [hc]; exact hb) fun hc => at_ne e hc exo_own) z) (fun c hc => ?_) fun c xs hc => ?_
      · rw [upd_ne (at_ne e hc exo_own), upd_ne (ne_of_none hc dfr)]; exact hc
      · rw [upd_ne (at_ne e hc exo_tup), upd_ne (ne_of_none hc dfr)]; exact hc
theorem initE {us : List Value} {Q : Value → Shared → Prop} (T : ErrC X.K X.mg x bx f C B) (I : Inv X pins σ H s) (e : H a = some (exo a C none)) (hl : us.length ≤ sizeLine) (k : ∀ s', Inv X pins σ H s' → Q .none s') :
    wpAny (model X.prog X.w) A (call (.builtin "Exception.__init__") (.ref a :: us)) Q E s := by
  obtain ⟨nm, q, N, bs, sn, sub, ab, col, dd, k0, k1, k2, k3, k5, hC⟩ := T.cls
  obtain ⟨t1, ho⟩ := exo_at I.hok e
  obtain ⟨hp, g, d, t, os⟩ := s
  refine wpAny_call (PySem.HandSPX.init_base F.excBase_Exception (fun Y => has_tl1 Y) (I.kIn _ _ hC) ho hl fun h' t2 kp hx => ?_)
  have J := I.write (t' := t) (x := a) (e := a) (o := exo a C none) (by rw [e]; exact True.intro) (.inl rfl) kp ⟨_, hx⟩ (exo_ok hx)
  have eu : upd H a (exo a C none) = H := funext fun b => by
    by_cases hb : b = a
    · rw [hb, upd_same, e]
    · rw [upd_ne hb]
  rw [eu] at J
  exact k _ J
end

def tErI (C : Addr) (ta : TA) : TE := fun σ H Q => ta σ H fun vs H1 => ∃ (a : Addr) (ws : List V), vs = .ref a :: ws ∧ ws.length ≤ 1000 ∧ H1 a = some (exo a C none) ∧ Q .non H1
def tErF (C : Addr) (f : Str) (to te : TE) : TS := fun D σ H => te σ H fun y H1 => to σ H1 fun x H2 => ∃ a : Addr, x = .ref a ∧ H2 a = some (exo a C none) ∧ ∀ dx, H2 dx = none → dx ≠ a → D.nx σ (upd (upd H2 dx (exd dx [(f, y)])) a (exo a C (some dx)))
def tErM (C : Addr) (sp : Sp) (ta : TA) : L2.St → Hp → XK → Prop := fun σ H Q => ta σ H fun vs H1 => vs.length ≤ 1000 ∧ ∀ a, H1 a = none → sp (.ref a :: vs) (upd H1 a (exo a C none))
  (fun v H2 => v = .non ∧ ∃ (d : Addr) (fs : List (Str × V)), H2 a = some (exo a C (some d)) ∧ H2 d = some (exd d fs) ∧ H1 d = none ∧ Q (.ref C) (some d) (upd (L2.del H2 a) d (.xd fs))) (fun _ _ _ => False)
section
variable {X : Cx} {C B : Addr} {x bx f : Str} {o e : Expr} {es : List Expr} {to te : TE} {ta : TA} {p p' p1 p2 pos : Pos}
theorem pe_erI {pl : Sem Bool} (T : ErrC X.K X.mg x bx f C B) (hg : Gl X bx) (ha : PA X (e :: es) ta) (hdb : (bx == ("__debug__" : Str)) = false := by decide)
    (hc : eval (.Call (.Attribute (.Name bx p1) "__init__" p2) (e :: es) [] pos) X.env = (do
      let ov ← eval (.Name bx p1) X.env
      standAt p2.atName
      let (f, first) ← holding [ov] (getMethod ov "__init__" pl)
      callWith pos f first (backTo pos (starEach (e :: es) X.env)) (backToKw pos (keywordEach [] X.env))) := by rfl)
    (he : starEach (e :: es) X.env = (false, eval e X.env) :: starEach es X.env := by rfl) (hpl : (backTo pos (starEach es X.env)).any (·.1) = false := by rfl) :
    PE X (.Call (.Attribute (.Name bx p1) "__init__" p2) (e :: es) [] pos) (tErI C ta) := by
  refine ⟨fun pins s σ H Q I h => ?_⟩
  refine PySem.W.methodCall_KW (ld_glob I hg T.gB ?_ hdb) hc
  obtain ⟨m, fr⟩ := I.fr
  refine PySem.W.method_of_cls fr I.ok.mod.kin T.spB (PySem.W.cls_val fr I.ok.mod.kin (mc := .type "type") T.tyB T.rdB T.fiB (by decide +kernel) ?_)
  show wpAny _ _ (callWith pos (Value.builtin "Exception.__init__") [] (backTo pos (starEach (e :: es) X.env)) []) _ _ _
  refine PyProof.Rows.callWith_method1 (thn (ha.run pos pins _ σ H _ (I.tok _) h) fun us s1 ⟨vs, H1, I1, r1, a, ws, ev, hl, ea, q⟩ => ?_) he hpl
  subst ev
  cases r1 with
  | @cons _ u0 _ ur ra rw' =>
    obtain rfl : u0 = Value.ref a := ra
    have hlen : ur.length ≤ sizeLine := by rw [← Paired.length rw', sizeLine_eq]; omega
    exact initE T I1 ea hlen fun s' J => ⟨.non, H1, J, rfl, q⟩
theorem ps_erF (T : ErrC X.K X.mg x bx f C B) (ho : PE X o to) (he : PE X e te) (hs : swapsWith e (some (.Attribute o f p')) pos.line X.env = pure false := by rfl) : PS X (.Assign [.Attribute o f p'] e pos) (tErF C f to te) := by
  refine ⟨fun pins s σ H D I h => ?_⟩
  refine plainObj_wpAny_Assign_Attribute (thn (he.run pins s σ H _ I h) fun v s1 ⟨y, H1, I1, r1, q1⟩ => thn (ho.run pins s1 σ H1 _ I1 q1) fun u s2 ⟨z, H2, I2, r2, a, ex, ea, q⟩ => ?_) hs
  subst ex
  obtain rfl : u = Value.ref a := r2
  exact ostE T I2 ea r1 fun dx s' n ne J => ⟨σ, _, J, q dx n ne⟩
theorem pmk_er {CX : CXT} {fI : Addr} {k : Nat} {fd : FuncData} {ps : List Str} {sp : Sp} (T : ErrC X.K X.mg x bx f C B) (iC : PySem.W.findIn X.K (.ref C) "__init__" = some (some (.ref fI))) (tI : PySem.W.typeIn X.K (.ref fI) = some (.type "function"))
    (F1 : FnOk X.prog X.w X.K X.mg X.base CX k fI fd ps sp) (hr : Room (k + 1) X.A) (hb : Binds X.K fd ps []) (hx : Passes CX X (fun _ _ _ => False)) (hg : Gl X x) (ha : PA X (e :: es) ta)
    (hdb : (x == ("__debug__" : Str)) = false := by decide) (he : starEach (e :: es) X.env = (false, eval e X.env) :: starEach es X.env := by rfl) (hpl : (backTo pos (starEach es X.env)).any (·.1) = false := by rfl) :
    PMk X (.Call (.Name x p) (e :: es) [] pos) (tErM C sp ta) := by
  intro pins s σ H Q I h
  obtain ⟨nm, q, N, bs, sn, sub, ab, col, dd, k0, k1, k2, k3, k5, hC⟩ := T.cls
  refine wpAny_Call_Name_kw (ld_glob I hg T.gC ?_ hdb)
  refine PySem.W.callWith_K (h₀ := X.base) I.ok.mod.kin T.kC (thn (ha.run pos pins s σ H _ I h) fun us s1 ⟨vs, H1, I1, r1, hz, q1⟩ => ⟨I1.kIn, ?_⟩) he hpl
  show wpAny _ _ (call (.ref C) us) _ _ _
  obtain ⟨hp, g, dr, tk, os⟩ := s1
  have hsz : hp.objs.size ≤ hp.objs.size + 1 := Nat.le_succ _
  have hn : H1 (hp.objs.size + 1) = none := I1.hok.fresh hsz
  have hq := q1 (hp.objs.size + 1) hn
  have kk : ∀ b o, hp.get? b = some o → ((hp.push (PySem.W.kdv_tup us)).push (PySem.HandSPX.excO C hp.objs.size)).get? b = some o := fun b o e => Heap.get?_push_of_some _ (Heap.get?_push_of_some _ e)
  have hget : ((hp.push (PySem.W.kdv_tup us)).push (PySem.HandSPX.excO C hp.objs.size)).get? (hp.objs.size + 1) = some (PySem.HandSPX.excO C hp.objs.size) := by heap_get
  have I2 : Inv X pins σ (upd H1 (hp.objs.size + 1) (exo (hp.objs.size + 1) C none)) ⟨(hp.push (PySem.W.kdv_tup us)).push (PySem.HandSPX.excO C hp.objs.size), g, dr, tk, os⟩ :=
    I1.laid (t' := tk) (a := hp.objs.size + 1) (o := exo (hp.objs.size + 1) C none) (h' := (hp.push (PySem.W.kdv_tup us)).push (PySem.HandSPX.excO C hp.objs.size)) kk hsz (exo_ok hget)
  have r2 : Vals (V.ref (hp.objs.size + 1) :: vs) (Value.ref (hp.objs.size + 1) :: us) := .cons rfl r1
  have hl : (Value.ref (hp.objs.size + 1) :: us ++ []).length = ps.length := by
    have e := r2.length
    rw [F1.len _ _ _ _ hq] at e
    rw [List.append_nil]
    exact e.symm
  have hus : us.length ≤ sizeLine := by rw [← Paired.length r1, sizeLine_eq]; omega
  refine wpAny_call (PySem.HandSPX.call_own F.excBase_Exception (fun Y => has_tl1 Y) (I1.kIn _ _ hC) (PySem.W.looks_findIn I1.kIn iC) (fun self => PySem.W.bind_fn I1.kIn self tI) hus
    (codeAny_mono (F1.run _ X.stack _ _ ⟨Value.ref (hp.objs.size + 1) :: us, []⟩ (Value.ref (hp.objs.size + 1) :: us) _ _ (fun _ _ _ => False) (hr.make C us []) (I2.env0.make C us []) (by simpa using hb _ (Value.ref (hp.objs.size + 1) :: us) I2.kIn hl) r2 hq) fun r s' hq' => ?_))
  cases r with
  | error er => exact hx pins σ _ _ er s' I2 hq'
  | ok fl =>
    cases fl with
    | ret u =>
      obtain ⟨v, H2, os2, bare2, un2, hok2, rv, ev, d, fs, ea, ed, hd1, q2⟩ := hq'
      subst ev
      obtain ⟨h2, g2, d2, t2, os'⟩ := s'
      exact ⟨rv, mk_end (raises_own T.exC T.tyC) I1 hsz kk un2 hok2 os2 bare2 ea ed hd1 q2⟩
    | next => exact False.elim hq'
    | brk => exact False.elim hq'
    | cont => exact False.elim hq'
end
def atOk (i : Int) : Bool := decide (0 ≤ i ∧ i < 1000)
theorem at_len : ∀ i : Fin 1000, ((toString (i.val : Int) : Str)).length ≤ 20 := by decide +kernel
theorem atOk_len {i : Int} (h : atOk i = true) : ((toString i : Str)).length ≤ 20 := by
  simp only [atOk, decide_eq_true_eq] at h
  have := at_len ⟨i.toNat, by omega⟩
  rw [show i = ((i.toNat : Nat) : Int) by omega]
  exact this
theorem atOk_log {i : Int} (h : atOk i = true) : i.natAbs.log2 < 1920 := by
  simp only [atOk, decide_eq_true_eq] at h
  refine Nat.lt_of_le_of_lt (Nat.log2_le_self _) (by omega)
def spI (C : Addr) : Sp := fun vs H Q _ => ∃ (a : Addr) (i : Int), vs = [.ref a, .int i] ∧ atOk i = true ∧ H a = some (exo a C none) ∧ ∀ dx, H dx = none → dx ≠ a → Q .non (upd (upd H dx (exd dx [(("at" : Str), .int i)])) a (exo a C (some dx)))
def tErB (C : Addr) (x y : Str) : TS := tSeq (tDrop (tErI C (tCons (tVar 0) (tCons (fun σ H Q => tJs [tC (.str x), tFmt (tVar 1), tC (.str y)] Str.empty σ H fun out H1 => Q (.str out) H1) tNil)))) (tErF C "at" (tVar 0) (tVar 1))
theorem pure_init {C : Addr} {x y : Str} (hx : x.length ≤ 1000) (hy : y.length ≤ 1000) {vs : List V} {H : Hp} {Q : VK} {E : XK} (h : spI C vs H Q E) : tErB C x y { nx := fun _ H' => Q .non H', rt := Q } (L2.start ["self", "at"] vs) H := by
  obtain ⟨a, i, rfl, hi, ha, k⟩ := h
  have hl := atOk_len hi
  have app : ∀ u v : Str, (u ++ v).length = u.length + v.length := fun u v => by first | exact Str.length_append u v | simp [Str.length]
  refine ⟨_, rfl, x, rfl, ?_, _, rfl, .inr ⟨i, rfl, atOk_log hi, toString i, rfl, ?_, y, rfl, ?_, a, [_], rfl, by show 1 ≤ 1000; decide, ha, ?_⟩⟩
  · rw [app, sizeLine_eq]; show 0 + _ ≤ _; omega
  · rw [app, app, sizeLine_eq]; show 0 + _ + _ ≤ _; omega
  · rw [app, app, app, sizeLine_eq]; show 0 + _ + _ + _ ≤ _; omega
  · exact ⟨_, rfl, _, rfl, a, rfl, ha, k⟩
end Pv

set_option Elab.async false
set_option linter.all false
set_option maxRecDepth 100000
set_option maxHeartbeats 2000000
namespace PvLm
open PySem PySem.Spec PyProof.Rows L2
abbrev kArgs (q : Pos) : Arguments := { posonlyargs := [], args := [{ arg := "at", annotation := none, pos := q }], vararg := none, kwonlyargs := [], kw_defaults := [], kwarg := none, defaults := [] }
abbrev kBody (p1 p2 p3 p4 : Pos) : Expr := .UnaryOp .USub (.Subscript (.Name "rests" p1) (.Name "at" p2) p3) p4
abbrev kScope : Scope := { kind := .function, names := [("at", .local), ("rests", .free)], isGenerator := false, isCoroutine := false, more := [] }
theorem key_call {prog : Program} {w : World} {A : Around} {E : Value → Shared → Prop} {s : Shared} {f c' cR a : Addr} {qual : Str} {cl : List (Str × Addr)} {pm ctv : Value} {t0 t : Tok} {n : Int} {its : List Value} {j : Nat} {q p1 p2 p3 p4 : Pos}
    (hroom : A.depth < recursionLimit) (of : s.heap.get? f = some (PySem.W.kla_obj "<lambda>" qual (kArgs q) (kBody p1 p2 p3 p4) kScope cl pm c' ctv)) (hcd : s.heap.CodeRec (.ref c') qual) (hlim : s.heap.NoLimit)
    (hcl : cl.lookup ("rests" : Str) = some cR) (hc : s.heap.IsCell cR (some (.ref a))) (ha : s.heap.IsList a its.toArray) (hi : its[j]? = some (.int n t)) (hj : (j : Int) < 2 ^ 63) :
    wpAny (model prog w) A (call (.ref f) [.int j t0]) (PySem.W.KeyPure (.int (-n)) s) E s := by
  refine wpAny_call (PySem.W.kla_callFunE hroom of rfl rfl rfl rfl hcd ?_)
  have hbind : bindArgs (PySem.W.kla_fn "<lambda>" qual (kArgs q) (kBody p1 p2 p3 p4) kScope cl pm (.ref c') ctv) ⟨[.int j t0], []⟩ = pure [(("at" : Str), Value.int j t0)] := rfl
  rw [hbind]
  refine wpAny_pure (wpAny_newFunctionEnv (fun y hy => ?_) (fun y hy => ?_) (fun h₁ hns hsb => ⟨hlim.fresh _ hsb, ?_⟩) rfl)
  · simp only [List.mem_cons, List.not_mem_nil, or_false] at hy
    rcases hy with rfl | rfl <;> exact fun z => nomatch z
  · simp only [List.mem_cons, List.not_mem_nil, or_false] at hy
    subst hy
    rfl
  have kp : ∀ b o, s.heap.get? b = some o → h₁.get? b = some o := fun b o e => hsb.extBut b o (Nat.ne_of_lt (Heap.lt_size e)) (Heap.get?_push_of_some _ e)
  refine PySem.W.kla_codeExpr ?_
  refine UnaryOp_ (Subscript_ ?_)
  have hl : ({ s with heap := h₁, toks := s.toks + 1 } : Shared).heap.IsList a its.toArray := let ⟨o, h1, h2⟩ := ha; ⟨o, kp _ _ h1, h2⟩
  refine wpAny_Name (wpAny_loadName_free rfl rfl hcl (let ⟨o, h1, h2⟩ := hc; ⟨o, kp _ _ h1, h2⟩) ?_) (by decide)
  refine wpAny_Name (wpAny_loadName_local (m := fun x => ([(("at" : Str), Value.int j t0)] : List (Str × Value)).reverse.lookup x) rfl rfl hns rfl ?_) (by decide)
  refine item_listR hl (by omega) hj (by simpa using hi) ?_
  exact neg_int ⟨h₁, _, rfl, kp, .int _ _⟩
abbrev IsIx (v : Value) (j : Nat) : Prop := ∃ t, v = .int j t
theorem each_range {acc : Array Value} {N : Nat} (h : ItemsOf (fun i v => ∃ t, v = .int (0 + (i : Int) * 1) t) acc N) : PySem.W.EachIs IsIx acc.toList (List.range N) := by
  refine PySem.W.EachIs.of_zip (by rw [List.length_range, Array.length_toList]; exact h.1) fun p hp => ?_
  obtain ⟨i, hi⟩ := List.mem_iff_getElem?.mp hp
  rw [List.getElem?_zip_eq_some] at hi
  obtain ⟨h1, h2⟩ := hi
  have h3 := h.2 i p.1 (by rw [← Array.getElem?_toList]; exact h1)
  obtain ⟨t, e⟩ := h3
  have h4 : p.2 = i := by
    obtain ⟨hl, e2⟩ := List.getElem?_eq_some_iff.mp h2
    rw [List.getElem_range] at e2
    exact e2.symm
  refine ⟨t, ?_⟩
  rw [e, h4]
  congr 1
  omega
abbrev byNeg (ns : List Int) : List Nat := (List.range ns.length).mergeSort (PySem.W.dataLe false fun j => PyData.int (-(ns.getD j 0)))
theorem sorted_range {prog : Program} {w : World} {A : Around} {E : Value → Shared → Prop} {s : Shared} {r f : Addr} {t u v : Tok} {ns : List Int} {Q : Value → Shared → Prop} (hh : A.handled = none) (hr : IsRange s.heap r 0 ns.length 1 t u v) (hlen : ns.length ≤ 1000) (hu : A.units + 64 < cLine)
    (turn : ∀ (j : Nat) (t0 : Tok) (x : Int), ns[j]? = some x → ∀ (h : Heap) (tk : Nat), (∀ b o, s.heap.get? b = some o → h.get? b = some o) →
      wpAny (model prog w) A.in1.in1 (call (.ref f) [.int j t0]) (PySem.W.KeyPure (.int (-x)) { s with heap := h, toks := tk }) (fun _ _ => False) { s with heap := h, toks := tk })
    (h : ∀ (out : List Value) (h1 : Heap) (D : Addr) (c : Nat) (h' : Heap) (tk : Nat), (∀ b o, s.heap.get? b = some o → h1.get? b = some o) → (∀ b o, h1.get? b = some o → h'.get? b = some o) → h1.objs.size ≤ D → h'.get? D = some { cls := .type "list", data := .seq out.toArray c } → PySem.W.EachIs IsIx out (byNeg ns) → Q (.ref D) { s with heap := h', toks := tk }) :
    wpAny (model prog w) A (call (.builtin "sorted") [.ref r] [(Str.ofString "key", .ref f)]) Q E s := by
  refine call_function_entry_kw kind_sorted plain_sorted entry_sorted (ksk_s1 _ _) ?_
  unfold Builtin.«sorted»
  refine wpAny_bind (m := checkCount "sorted" 1 1 _) (wpAny_pure ?_)
  have hsz := sizeLine_eq
  refine wpAny_bind (L2.collect_range (n := ns.length) hh hr (small_one (by omega) (by omega) (by omega) (by omega)) (by rw [rangeSize_nat]; simp) (by omega) fun h1 tk1 acc k1 it => ?_)
  have el : acc.toList.length = ns.length := by rw [Array.length_toList]; exact it.1
  refine wpAny_bind (wpAny_newList ?_ (by omega))
  have kp : ∀ b o, s.heap.get? b = some o → (h1.push { cls := .type "list", data := .seq acc.toList.toArray }).get? b = some o := fun b o e => Heap.get?_push_of_some _ (k1 b o e)
  refine wpAny_bind (wpAny_holding ?_)
  show wpAny (model prog w) A.in1 (call (.builtin "list.sort") [.ref h1.objs.size] [(Str.ofString "key", .ref f)]) _ _ { s with heap := h1.push { cls := .type "list", data := .seq acc.toList.toArray }, toks := tk1 }
  refine PySem.W.list_sort_key_data (b := false) (fun j : Nat => PyData.int (-(ns.getD j 0))) (Heap.get?_push_size _ rfl) (each_range it) (PySem.W.AllAlike.of fun _ _ => rfl) (PySem.W.Sortable.others fun _ => ⟨(fun z => nomatch z), (fun _ z => nomatch z)⟩) (by rw [List.length_range]; omega)
    (fun x hx => ?_) (ksk_l1 _ _) (ksk_t1 _ _) (fun v j ⟨t0, e⟩ hj h tk k2 => ?_) fun out c h' tk k2 hD _ eo => ?_
  · show A.in1.units + 1 + 0 < cLine
    have : A.in1.units ≤ A.units + 1 := by simp [Around.in1, Around.units]
    omega
  · subst e
    have hj' : j < ns.length := List.mem_range.mp hj
    have ex : ns[j]? = some (ns.getD j 0) := by rw [List.getD_eq_getElem?_getD, List.getElem?_eq_getElem hj']; rfl
    exact turn j t0 _ ex h tk fun b o q => k2 b o (Nat.ne_of_lt (Heap.lt_size (k1 b o q))) (kp b o q)
  · exact wpAny_pure ⟨_, rfl, h out h1 h1.objs.size c h' tk k1 (fun b o q => k2 b o (Nat.ne_of_lt (Heap.lt_size q)) (Heap.get?_push_of_some _ q)) (Nat.le_refl _) hD eo⟩
open LamX
section
variable {X : Cx}
def rRange1 : List V → Hp → VK → Prop := fun vs H Q => ∃ i, vs = [V.int i] ∧ ∀ p, H p = none → Q (.ref p) (upd H p (.rng 0 i))
theorem cr_range1 : CallR X (.type "range") rRange1 := by
  intro pins s σ H vs us Q I r h
  obtain ⟨i, rfl, q⟩ := h
  obtain ⟨u1, rfl, ri⟩ := vals1 r
  obtain ⟨t, rfl⟩ := ri
  refine call_range_1 ⟨.ref s.heap.objs.size, upd H s.heap.objs.size (.rng 0 i), I.laid (t' := s.toks + 1 + 1) (fun b o e => Heap.get?_push_of_some _ e) (Nat.le_refl _) ?_, rfl, q _ (I.hok.fresh (Nat.le_refl _))⟩
  exact ⟨s.toks, t, s.toks + 1, Heap.get?_push_size _ rfl⟩
def tSortR (K : PySem.W.Frag) (T : List (Addr × Str)) (i : Nat) : TE := fun σ H Q => ∃ (a : Addr) (ns : List Int), σ[i]? = some (some (.ref a)) ∧ SqL K H a (ns.map V.int) ∧ ns.length ≤ 1000 ∧ Tabs T H ∧
  ∀ H1, ExtN H H1 → Tabs T H1 → ∀ D, H1 D = none → Q (.ref D) (upd H1 D (.lst ((byNeg ns).map fun j : Nat => V.int (j : Int))))
theorem SqL.extN {K : PySem.W.Frag} {H H' : Hp} {a : Addr} {vs : List V} (e : ExtN H H') (h : SqL K H a vs) : SqL K H' a vs := by
  rcases h with (h | ⟨o, h⟩) | h
  · exact .inl (.inl (e _ _ h fun _ z => nomatch z))
  · exact .inl (.inr ⟨o, e _ _ h fun _ z => nomatch z⟩)
  · exact .inr h
theorem vals_ix : ∀ {out : List Value} {js : List Nat}, PySem.W.EachIs IsIx out js → Vals (js.map fun j : Nat => V.int (j : Int)) out
  | [], [], _ => .nil
  | v :: out, j :: js, h => by
    cases h with
    | cons h1 h2 => exact .cons h1 (vals_ix h2)
theorem pe_sortR {T : List (Addr × Str)} {c P : Addr} {k i : Nat} {e : Expr} {te : TE} {q p0 p1 p2 p3 p4 lp kp pos : Pos} (hcalm : X.calm = true) (hr : Room k X.A) (hu : X.A.units + 64 < cLine) (TB : TabB X.base X.mg c P) (hcode : X.env.code = .ref c)
    (hm : (P, X.env.qual ++ "<lambda>") ∈ T) (hT1 : ∀ p ∈ T, p.1 = P → p.2 = X.env.qual ++ "<lambda>") (hN : X.N[i]? = some ("rests" : Str)) (hc : X.env.scope.names.lookup ("rests" : Str) = some .cell) (hgS : Gl X "sorted") (hmS : X.mg "sorted" = none)
    (he : PE X e te) (hte : ∀ (σ : L2.St) (H : Hp) (a : Addr) (ns : List Int) (Q : VK), σ[i]? = some (some (V.ref a)) → SqL X.K H a (ns.map V.int) → (∀ r, H r = none → Q (V.ref r) (upd H r (.rng 0 (ns.length : Int)))) → te σ H Q) 
    (hs : starEach [e] X.env = (false, eval e X.env) :: starEach [] X.env := by rfl) (hb1 : backTo pos (starEach [e] X.env) = (false, eval e X.env) :: backTo pos (starEach [] X.env) := by rfl) (hb2 : (backTo pos (starEach [e] X.env)).any (·.1) = false := by rfl) : 
    PE X (.Call (.Name "sorted" p0) [e] [⟨some "key", .Lambda (kArgs q) (kBody p1 p2 p3 p4) kScope lp, kp⟩] pos) (tSortR X.K T i) := by
  refine ⟨fun pins s σ H Q I h => ?_⟩
  obtain ⟨a, ns, hσ, hl, hlen, hT, qq⟩ := h
  refine wpAny_Call_Name_kw (ld_blt I hgS hmS (u := .builtin "sorted") (by decide +kernel) ?_)
  have ha : PA X [e] (tCons te tNil) := pa_cons he pa_nil hs
  refine PyProof.Rows.callWith_kw (thn (ha.run pos pins s σ H (fun vs H1 => ∃ r, vs = [.ref r] ∧ H r = none ∧ H1 = upd H r (.rng 0 (ns.length : Int))) I ?_) fun us s1 ⟨vs, H1, I1, r1, r, ev, hr0, eH⟩ => ?_) ?_ ?_
  · exact hte σ H a ns _ hσ hl fun r hr0 => ⟨r, rfl, hr0, rfl⟩
  · subst ev; subst eH
    obtain rfl := Vals.ref1 r1
    show wpAny _ _ (evalAll ((do let v ← eval (.Lambda (kArgs q) (kBody p1 p2 p3 p4) kScope lp) X.env; standAt pos; pure v) :: [])) _ _ s1
    have e1 : ∀ b o, H b = some o → upd H r (.rng 0 (ns.length : Int)) b = some o := fun b o e => by rw [upd_ne (ne_of_none e hr0)]; exact e
    obtain ⟨cR, hcR⟩ : ∃ c, X.env.cells.lookup ("rests" : Str) = some c := I1.ok.has _ (.inl hc)
    refine wpAny_evalAll_cons (wpAny_bind (lam_make2 (T := T) I1 TB hcode hm hT1 (hT.ext e1) rfl (fun y hy e => ?_) fun f c' pm ctv H2 s2 I2 ext tabs hf hfn hfr hco => wpAny_bind (wpAny_standAt (wpAny_pure ?_))))
    · simp only [List.mem_cons, List.not_mem_nil, or_false] at hy
      rcases hy with rfl | rfl
      · cases e
      · exact ⟨cR, hcR⟩
    refine wpAny_evalAll_nil ?_
    show wpAny _ _ (call (.builtin "sorted") [.ref r] [(Str.ofString "key", .ref f)]) _ _ s2
    have hr2 : H2 r = some (.rng 0 (ns.length : Int)) := ext r _ upd_same fun _ z => nomatch z
    obtain ⟨t1, t2, t3, ho⟩ := I2.hok r _ hr2
    have hl2 : SqL X.K H2 a (ns.map V.int) := SqL.extN ((ExtN.of e1).trans ext) hl
    obtain ⟨its, rv, pl, hz⟩ := I2.list hl2
    obtain ⟨m, hns, loc⟩ := I2.loc
    obtain ⟨u, ru, lk⟩ := loc i "rests" (V.ref a) hN hσ (.inr (.inl hc))
    obtain rfl : u = Value.ref a := ru
    have hcell : s2.heap.IsCell cR (some (.ref a)) := by
      rcases lk with ⟨k1, _⟩ | ⟨_, c3, e3, z⟩
      · have k1 : X.env.scope.names.lookup ("rests" : Str) = some .local := k1
        rw [hc] at k1; cases k1
      · rw [hcR] at e3
        cases e3
        exact z
    obtain ⟨⟨oc, vs, tc, hoc, hdc, hvc⟩, _, _⟩ := I2.hok c' _ hco
    refine sorted_range (I2.ok.hd hcalm) ho hlen hu (fun j t0 x hx h tk kp => ?_) fun out h1 D cc h' tk k1 k2 hge hD eo => ?_
    · have hx' : (ns.map V.int)[j]? = some (.int x) := by rw [List.getElem?_map, hx]; rfl
      obtain ⟨w', ew, rw'⟩ := rv.get hx'
      obtain ⟨tx, rfl⟩ := rw'
      have hj : j < ns.length := (List.getElem?_eq_some_iff.mp hx).1
      exact key_call (cl := cloFrom X.env.cells kScope.names []) (pm := pm) (ctv := ctv) (c' := c') (cR := cR) (a := a) (its := its) (n := x) (t := tx) (show X.A.in1.in1.depth < recursionLimit from hr.depth) (kp _ _ hf) ⟨c', oc, vs, tc, rfl, kp _ _ hoc, hdc, hvc⟩ (I2.nolimit.keeps kp)
        (by simp [cloFrom, hcR]) (let ⟨o, a1, a2⟩ := hcell; ⟨o, kp _ _ a1, a2⟩) (let ⟨o, a1, a2⟩ := pl.isList; ⟨o, kp _ _ a1, a2⟩) ew (by omega)
    · have I3 : Inv X pins σ H2 { s2 with heap := h1 } := I2.kept k1
      have hDn : H2 D = none := I3.hok.fresh hge
      have vr := vals_ix eo
      have hlo : ((byNeg ns).map fun j : Nat => V.int (j : Int)).length ≤ sizeLine := by
        rw [List.length_map, List.length_mergeSort, List.length_range]
        have := sizeLine_eq
        omega
      exact ⟨.ref D, _, I3.laid (o := .lst ((byNeg ns).map fun j : Nat => V.int (j : Int))) (t' := tk) k2 hge ⟨hlo, out, cc, vr, hD⟩, rfl, qq H2 ((ExtN.of e1).trans ext) tabs D hDn⟩
  · exact hb1
  · exact hb2
theorem get_list : PGet X (rIxL X.K) := by
  intro pins s σ H x y ov iv Q I rx ry h
  obtain ⟨p, xs, i, z, rfl, rfl, hq, he, q⟩ := h
  cases rx
  obtain ⟨t, rfl⟩ := ry
  obtain ⟨its, r, pl, hz⟩ := I.list hq
  obtain ⟨j, h1, h2, h3, h4, h5⟩ := atI_get he
  obtain ⟨w, ew, rw'⟩ := r.get h2
  have hl := r.length
  have hn := line63
  have fin : EP X pins σ Q w s := ⟨z, H, I, rw', q⟩
  by_cases h0 : 0 ≤ i
  · have hj : i.toNat = j := by
      rw [seqIndex_of h0 h5] at h1
      exact Option.some.inj h1
    exact wpAny_getItem_list pl.isList h0 (by omega) (by rw [hj]; simpa using ew) fin
  · have hj : (i + (its.toArray.size : Int)).toNat = j := by
      rw [seqIndex_neg (by omega) h4] at h1
      rw [List.size_toArray, ← hl]
      exact Option.some.inj h1
    exact wpAny_getItem_list_neg pl.isList (by omega) (by rw [List.size_toArray] <;> omega) (by omega) (by rw [hj]; simpa using ew) fin
def rSumT (K : PySem.W.Frag) : List V → Hp → VK → Prop := fun vs H Q => ∃ (a : Addr) (ns : List Int), vs = [V.ref a] ∧ SqT K H a (ns.map V.int) ∧ Q (.int ns.sum) H
theorem cr_sumT (hc : X.calm = true) : CallR X (.builtin "sum") (rSumT X.K) := by
  intro pins s σ H vs us Q I r h
  obtain ⟨a, ns, rfl, hs, q⟩ := h
  obtain ⟨its, rv, ht, _⟩ := I.tuple hs
  rw [Vals.ref1 r]
  have hi := rv.ints
  obtain ⟨xs, e⟩ := hi.allInts.items
  have hn : numsOf (intItems xs).toList = ns := by rw [← e]; exact hi.numsOf
  rw [nums_intItems] at hn
  rw [e] at ht
  refine PySem.W.ktm_sumG (I.ok.hd hc) ht fun h' tk t' hk => ?_
  rw [preSum_eq, List.take_of_length_le (by simp), hn]
  exact ⟨.int _, H, I.kept hk, ⟨_, rfl⟩, q⟩
end
end PvLm

set_option Elab.async false
set_option linter.all false
set_option maxRecDepth 100000
set_option maxHeartbeats 4000000
namespace Pv
open PySem L2

mutual
def toPy : D → PyData
  | .non => .none
  | .bl b => .bool b
  | .int i => .int i
  | .str x => .str x
  | .tup ds => .tuple (toPyL ds)
  | .lst ds => .list (toPyL ds)
  | .dK _ _ => .dict []
  | .dT _ _ => .dict []
  | .fn _ => .dict []
  | .scr _ => .dict []
def toPyL : List D → List PyData
  | [] => []
  | d :: ds => toPy d :: toPyL ds
end
def flatD : D → Bool
  | .non => true | .bl _ => true | .int _ => true | .str _ => true
  | _ => false
def scalD : D → D → Bool
  | .non, .non => true | .non, .int _ => true | .int _, .non => true | .non, .bl _ => true | .bl _, .non => true | .non, .str _ => true | .str _, .non => true
  | .int _, .int _ => true | .bl _, .bl _ => true | .str _, .str _ => true
  | .int _, .str _ => true | .str _, .int _ => true | .bl _, .str _ => true | .str _, .bl _ => true
  | _, _ => false
def eqS : D → D → Bool
  | .non, .non => true
  | .int i, .int j => decide (i = j)
  | .bl i, .bl j => decide (i = j)
  | .str i, .str j => decide (i = j)
  | _, _ => false
def cEq (a b : D) : Option Bool :=
  if scalD a b then some (eqS a b) else if SeqAt.shaped (toPy a) && SeqAt.shaped (toPy b) then some (PyData.eqv (toPy a) (toPy b)) else none
def cLt : D → D → Option Bool
  | .int i, .int j => some (decide (i < j))
  | .str x, .str y => some (decide (x.cps.toList < y.cps.toList))
  | _, _ => none
def cLe : D → D → Option Bool
  | .int i, .int j => some (decide (i ≤ j))
  | .str x, .str y => some (!decide (y.cps.toList < x.cps.toList))
  | _, _ => none
def ltT : D → D → Option Bool
  | .tup ds, .tup es => if ((toPy (.tup ds)).canLay0 = true ∧ (toPy (.tup es)).canLay0 = true) ∧ PySem.W.alike (toPy (.tup ds)) (toPy (.tup es)) = true ∧ min (toPy (.tup ds)).depth (toPy (.tup es)).depth ≤ 64 then some (PySem.W.dataLt (toPy (.tup ds)) (toPy (.tup es))) else none
  | _, _ => none
def inD1 (x : D) : D → Bool := fun y => match y, x with
  | .non, .non => true
  | .bl a, .bl b => a == b
  | .bl a, .int b => (if a then 1 else 0) == b
  | .int a, .bl b => a == (if b then 1 else 0)
  | .int a, .int b => a == b
  | .str a, .str b => a == b
  | _, _ => false
def inDs (x : D) (ys : List D) : Bool := ys.any (inD1 x)
def geT : D → D → Option Bool
  | .tup [.str p, .str q], .tup [.str r, .str t] => some (PvR.geP p q r t)
  | _, _ => none
def cIn (x : D) : D → Option Bool
  | .lst ys => if flatD x && ys.all flatD then some (inDs x ys) else none
  | .tup ys => if flatD x && ys.all flatD then some (inDs x ys) else none
  | .str y => match x with
    | .str z => some (!(Builtin.Str.occurrences y z 0 y.length 1).isEmpty)
    | _ => none
  | _ => none

inductive BOp | add | sub | mul | div | mod | pow
inductive COp | eq | ne | lt | le | gt | ge | inn | nin
inductive Bi | len | int | all | any | sum | max2 | min2 | str | tuple | list | sorted | minL | maxL
inductive Me | isascii | isalpha | islower | isdigit | startswith

instance (i j : Int) : Decidable (CMul i j) := inferInstanceAs (Decidable (_ ∨ _))
instance (i j : Int) : Decidable (CPow i j) := inferInstanceAs (Decidable (_ ∧ _))
instance (i j : Int) : Decidable (CDivW i j) := inferInstanceAs (Decidable (_ ∧ _))

def tupC : D → Bool
  | .tup (d :: ds) => (toPy (.tup (d :: ds))).canLay0 && decide ((toPy (.tup (d :: ds))).depth ≤ 60)
  | _ => false
def tupsB (ds : List D) : Bool := decide (ds.length ≤ sizeLine) && (ds.all tupC && ds.all fun d => ds.all fun e => PySem.W.alike (toPy d) (toPy e))
def bRun : BOp → D → D → Option D
  | .add, .int i, .int j => some (.int (i + j))
  | .add, .str x, .str y => if x.length + y.length ≤ sizeLine then some (.str (x ++ y)) else none
  | .add, .tup x, .tup y => if x.length + y.length ≤ sizeLine then some (.tup (x ++ y)) else none
  | .add, .lst x, .lst y => if x.length + y.length ≤ sizeLine then some (.lst (x ++ y)) else none
  | .sub, .int i, .int j => some (.int (i - j))
  | .mul, .int i, .int j => if CMul i j then some (.int (i * j)) else none
  | .mul, .tup xs, .int k => if xs.isEmpty = false ∧ 2 ≤ k ∧ k ≤ 1000 ∧ xs.length ≤ 1000 then some (.tup (List.replicate k.toNat xs).flatten) else none
  | .mul, .str x, .int k => if 1 ≤ k ∧ k ≤ 1000 ∧ x.length ≤ 1000 ∧ 1 ≤ x.length then some (.str (PvR.repS x k)) else none
  | .div, .int i, .int j => if CDivW i j then some (.int (i / j)) else none
  | .mod, .int i, .int j => if 0 < j then some (.int (i % j)) else none
  | .pow, .int i, .int j => if CPow i j then some (.int (i ^ j.toNat)) else none
  | _, _, _ => none
def cRun : COp → D → D → Option Bool
  | .eq, a, b => cEq a b
  | .ne, a, b => (cEq a b).map (!·)
  | .lt, a, b => (cLt a b).or (ltT a b)
  | .le, a, b => cLe a b
  | .gt, a, b => cLt b a
  | .ge, a, b => (cLe b a).or (geT a b)
  | .inn, a, b => cIn a b
  | .nin, a, b => (cIn a b).map (!·)
def blsOf : List D → Option (List Bool)
  | [] => some []
  | .bl b :: ds => (blsOf ds).map (b :: ·)
  | _ => none
def intsOf : List D → Option (List Int)
  | [] => some []
  | .int b :: ds => (intsOf ds).map (b :: ·)
  | _ => none
def intsK : List Key → Option (List Int)
  | [] => some []
  | .inl b :: ds => (intsK ds).map (b :: ·)
  | _ => none
def strsK : List Key → Option (List Str)
  | [] => some []
  | .inr b :: ds => (strsK ds).map (b :: ·)
  | _ => none
def keyD : Key → D
  | .inl i => .int i
  | .inr x => .str x
def keysB (ks : List (List Key)) : Bool := (ks.all fun k => ks.all fun q => PySem.W.alike (PvR.keysPy k) (PvR.keysPy q)) && ks.all fun k => !k.isEmpty
def insI (x : Int) : List Int → List Int
  | [] => [x]
  | y :: ys => if x ≤ y then x :: y :: ys else y :: insI x ys
def sortI : List Int → List Int
  | [] => []
  | x :: xs => insI x (sortI xs)
def minI : List Int → Option Int
  | [] => none
  | x :: xs => match minI xs with
    | none => some x
    | some m => some (if m < x then m else x)
def maxI : List Int → Option Int
  | [] => none
  | x :: xs => match maxI xs with
    | none => some x
    | some m => some (if m > x then m else x)
def biRun : Bi → List D → Option D
  | .len, [.tup ds] => some (.int ds.length)
  | .len, [.lst ds] => some (.int ds.length)
  | .len, [.str x] => if x.length ≤ sizeLine then some (.int x.length) else none
  | .int, [.int i] => some (.int i)
  | .all, [.lst ds] => (blsOf ds).map fun bs => .bl (bs.all id)
  | .any, [.lst ds] => (blsOf ds).map fun bs => .bl (bs.any id)
  | .sum, [.lst ds] => (intsOf ds).map fun ns => .int ns.sum
  | .sum, [.tup ds] => (intsOf ds).map fun ns => .int ns.sum
  | .max2, [.int i, .int j] => some (.int (if j > i then j else i))
  | .min2, [.int i, .int j] => some (.int (if j < i then j else i))
  | .str, [.int i] => if i.natAbs.log2 < 1920 then some (.str (toString i)) else none
  | .tuple, [.lst ds] => some (.tup ds)
  | .tuple, [.tup ds] => some (.tup ds)
  | .list, [.lst ds] => some (.lst ds)
  | .list, [.tup ds] => some (.lst ds)
  | .minL, [.lst ds] => (intsOf ds).bind fun ns => (minI ns).map .int
  | .maxL, [.lst ds] => (intsOf ds).bind fun ns => (maxI ns).map .int
  | .sorted, [.lst ds] => ((intsOf ds).map fun ns => D.lst ((sortI ns).map .int)).or (if tupsB ds = true then some (.lst (ds.mergeSort (PySem.W.dataLe false toPy))) else none)
  | .sorted, [.dK ks _] => ((intsK ks).map fun ns => .lst ((sortI ns).map .int)).or ((strsK ks).map fun xs => .lst ((xs.mergeSort (PySem.W.dataLe false PyData.str)).map .str))
  | .sorted, [.dT ks _] => if keysB ks = true then some (.lst ((ks.mergeSort (PySem.W.dataLe false PvR.keysPy)).map fun k => .tup (k.map keyD))) else none
  | _, _ => none
def meRun0 : Me → D → Option D
  | .isascii, .str x => some (.bl (Txt.isascii x))
  | .isalpha, .str x => some (.bl (Txt.isalpha x))
  | .islower, .str x => some (.bl (Txt.islower x))
  | .isdigit, .str x => some (.bl (Txt.isdigit x))
  | _, _ => none
def meRun1 : Me → D → D → Option D
  | .startswith, .str x, .str y => some (.bl (Txt.startswith x y))
  | _, _, _ => none
def tyD : D → Option String
  | .non => some "NoneType" | .bl _ => some "bool" | .int _ => some "int" | .str _ => some "str" | .tup _ => some "tuple" | .lst _ => some "list" | .dK _ _ => some "dict"
  | _ => none
def isi1 (d : D) (t : String) : Option Bool := (tyD d).bind fun k => kitB k t
def isi2 (d : D) (t u : String) : Option Bool := match isi1 d t with
  | some true => some true
  | some false => isi1 d u
  | none => none
def ixRun : D → D → Option D
  | .lst ds, .int i => atI ds i
  | .tup ds, .int i => atI ds i
  | .str x, .int i => if x.length ≤ sizeLine then (atI x.cps.toList i).map fun c => .str ⟨#[c]⟩ else none
  | _, _ => none
def cutD (xs : List D) (lo hi : Option Int) : List D := (xs.drop (HT.sIx xs.length 0 lo)).take (HT.sIx xs.length xs.length hi - HT.sIx xs.length 0 lo)
def slRun : D → Option Int → Option Int → Option D
  | .lst ds, lo, hi => some (.lst (cutD ds lo hi))
  | .tup ds, lo, hi => some (.tup (cutD ds lo hi))
  | .str x, lo, hi => if x.length ≤ sizeLine then some (.str (cutS x lo hi)) else none
  | .scr ns, lo, hi => some (.lst (cutD (ns.map .int) lo hi))
  | _, _, _ => none

inductive Tg where
  | name (i : Nat) | tnil | tcons (a r : Tg) | tup (ts : Tg)
mutual
inductive E where
  | var (i : Nat) | cst (d : D) | fnv (f : Nat)
  | bin (o : BOp) (a b : E) | neg (a : E)
  | cmp (o : COp) (a b : E) | chain (o o' : COp) (a b c : E) | isN (a : E) | notN (a : E)
  | and (a b : E) | or (a b : E) | not (a : E) | ite (c : T) (a b : E)
  | call (f : Nat) (as : Es) | callv (i : Nat) (as : Es)
  | bi (b : Bi) (as : Es)
  | isi1 (a : E) (t : String) | isi2 (a : E) (t u : String)
  | mt0 (m : Me) (a : E) | mt1 (m : Me) (a b : E)
  | ix (a i : E) | sl (a : E) (lo hi : Eo)
  | tup (as : Es) | lst (as : Es)
  | comp (vs : List Nat) (tg : Tg) (it : It) (cond : To) (elt : E)
  | dget (a k : E) | get1 (a k : E) | get2 (a k z : E) | din (k a : E) | dcomp (vs : List Nat) (tg : Tg) (it : It) (cond : To) (kx vx : E)
  | fz (a : E) | sortR (i : Nat) | sin (neg : Bool) (k a : E) | compK (vs : List Nat) (tg : Tg) (i : Nat) (cond : To) (elt : E)
inductive T where
  | val (e : E) | and (a b : T) | or (a b : T) | not (a : T)
inductive To where
  | none | some (t : T)
inductive Es where
  | nil | cons (e : E) (es : Es)
inductive Eo where
  | none | some (e : E)
inductive It where
  | seq (e : E) | fzq (e : E) | r1 (e : E) | r2 (a b : E) | zip (a b : E)
end
inductive XE where
  | call (f : Nat) (as : Es) | ite (c : T) (a b : XE) | pure (e : E)
mutual
inductive S where
  | asg (tg : Tg) (e : E) | par (i j : Nat) (a b : E)
  | newD (i : Nat) | newL (i : Nat) (as : Es) | newC (i : Nat) (vs : List Nat) (tg : Tg) (it : It) (cond : To) (elt : E)
  | app (i : Nat) (e : E) | setL (i : Nat) (k e : E) | setD (i : Nat) (k e : E)
  | drop (e : E) | ret (e : E) | retN
  | newDK (i : Nat) (ps : Es) | rais (e : E) | dropX (x : XE) | retX (x : XE) | asgX (i : Nat) (x : XE) | tryR (x : XE) (i : Nat) (word : Str)
  | popL (i : Nat) (e : E) | par2T (i j : Nat)
  | augL (i : Nat) (k e : E) | newS (i : Nat) | addS (i : Nat) (e : E) | whl (k : T) (body : Ss)
  | newT (i : Nat) | aug (i : Nat) (sb : Bool) (e : E)
  | ifs (c : T) (a b : Ss) | forS (tg : Tg) (it : It) (body : Ss) | brk | cnt | pass | never
inductive Ss where
  | nil | cons (s : S) (ss : Ss)
end

def rdW : W → Store → Option D
  | .d x, _ => some x
  | .mu n, S => match S[n]? with
    | some (.lst ds) => some (.lst ds)
    | some (.dK ks ds) => some (.dK ks ds)
    | some (.dT ks ds) => some (.dT ks ds)
    | _ => none
def fzW : W → Store → Option (D × Store)
  | .d x, S => some (x, S)
  | .mu n, S => match S[n]? with
    | some (.lst ds) => some (.lst ds, S.set n .dead)
    | some (.dK ks ds) => some (.dK ks ds, S.set n .dead)
    | some (.dT ks ds) => some (.dT ks ds, S.set n .dead)
    | _ => none
mutual
def asgn : Tg → D → En → Option En
  | .name i, d, ρ => if i < ρ.length then some (ρ.set i (some (.d d))) else none
  | .tup ts, .tup ds, ρ => asgns ts ds ρ
  | .tup ts, .lst ds, ρ => asgns ts ds ρ
  | _, _, _ => none
def asgns : Tg → List D → En → Option En
  | .tnil, [], ρ => some ρ
  | .tcons a r, d :: ds, ρ => (asgn a d ρ).bind fun ρ' => asgns r ds ρ'
  | _, _, _ => none
end
mutual
/-- the slots that a target stores are among these -/
def tgIn : Tg → List Nat → Bool
  | .name i, vs => vs.contains i
  | .tup ts, vs => tgsIn ts vs
  | _, _ => false
def tgsIn : Tg → List Nat → Bool
  | .tnil, _ => true
  | .tcons a r, vs => tgIn a vs && tgsIn r vs
  | _, _ => false
end
def wipeE (ρ : En) : List Nat → En
  | [] => ρ
  | v :: vs => (wipeE ρ vs).set v none
def keyOf : D → Option Key
  | .int i => some (.inl i)
  | .str x => some (.inr x)
  | _ => none
def repl {κ : Type} [DecidableEq κ] (k : κ) (d : D) : List κ → List D → List D
  | q :: ks, x :: ds => (if q = k then d else x) :: repl k d ks ds
  | _, ds => ds
def putD {κ : Type} [DecidableEq κ] (k : κ) (d : D) (ks : List κ) (ds : List D) : List κ × List D :=
  if (ks.any fun q => decide (q = k)) = true then (ks, repl k d ks ds) else (ks ++ [k], ds ++ [d])
def keysOf : List D → Option (List Key)
  | [] => some []
  | d :: ds => (keyOf d).bind fun k => (keysOf ds).map (k :: ·)
def lookD {κ : Type} [DecidableEq κ] (k : κ) : List κ → List D → Option D
  | q :: ks, x :: ds => if q = k then some x else lookD k ks ds
  | _, _ => none
def dLook : D → D → Option (Option D)
  | .dK ks ds, y => (keyOf y).map fun k => lookD k ks ds
  | .dT ks ds, .tup ys => (keysOf ys).map fun k => lookD k ks ds
  | _, _ => none
def isDct : D → Bool
  | .dK _ _ => true
  | .dT _ _ => true
  | _ => false
def compD (f : D → Store → Option (Option (Key × D) × Store)) : List D → Store → List Key → List D → Option ((List Key × List D) × Store)
  | [], S, ks, es => some ((ks, es), S)
  | d :: ds, S, ks, es => (f d S).bind fun (r, S') => match r with
    | none => compD f ds S' ks es
    | some x => if ks.length < sizeLine then compD f ds S' (putD x.1 x.2 ks es).1 (putD x.1 x.2 ks es).2 else none
def compL (f : D → Store → Option (Option D × Store)) : List D → Store → List D → Option (List D × Store)
  | [], S, acc => some (acc, S)
  | d :: ds, S, acc => (f d S).bind fun (r, S') => match r with
    | none => compL f ds S' acc
    | some x => if acc.length < sizeLine then compL f ds S' (acc ++ [x]) else none
def zipD : List D → List D → List D
  | a :: as, b :: bs => .tup [a, b] :: zipD as bs
  | _, _ => []
def seqOf : W → Option (List D)
  | .d (.lst ds) => some ds
  | .d (.tup ds) => some ds
  | _ => none
def rangeD (lo : Int) : Nat → List D
  | 0 => []
  | n + 1 => .int lo :: rangeD (lo + 1) n
def setAt (S : Store) (n : Nat) : Option (List Key) := match S[n]? with
  | some (.set ks) => some ks
  | _ => none
def isNonW : W → Bool
  | .d .non => true
  | _ => false
structure Call where
  c : Nat → List W → Store → Option (D × Store)
  x : Nat → List W → Store → Option (D × Store)
instance : CoeFun Call fun _ => Nat → List W → Store → Option (D × Store) := ⟨Call.c⟩
section
variable (c : Call)
mutual
def evE : E → En → Store → Option (W × Store)
  | .var i, ρ, S => match ρ[i]? with
    | some (some w) => some (w, S)
    | _ => none
  | .cst d, _, S => if flatD d then some (.d d, S) else none
  | .fnv f, _, S => some (.d (.fn f), S)
  | .bin o a b, ρ, S => (evE a ρ S).bind fun (x, S) => (evE b ρ S).bind fun (y, S) => (rdW x S).bind fun x => (rdW y S).bind fun y => (bRun o x y).map fun z => (.d z, S)
  | .neg a, ρ, S => (evE a ρ S).bind fun (x, S) => match x with
    | .d (.int i) => some (.d (.int (-i)), S)
    | _ => none
  | .cmp o a b, ρ, S => (evE a ρ S).bind fun (x, S) => (evE b ρ S).bind fun (y, S) => (rdW x S).bind fun x => (rdW y S).bind fun y => (cRun o x y).map fun z => (.d (.bl z), S)
  | .chain o o' a b k, ρ, S => (evE a ρ S).bind fun (x, S) => (evE b ρ S).bind fun (y, S) => (rdW x S).bind fun x => (rdW y S).bind fun y' => (cRun o x y').bind fun z =>
      if z then (evE k ρ S).bind fun (w, S) => (rdW y S).bind fun y => (rdW w S).bind fun w => (cRun o' y w).map fun z => (.d (.bl z), S) else some (.d (.bl false), S)
  | .isN a, ρ, S => (evE a ρ S).map fun (x, S) => (.d (.bl (isNonW x)), S)
  | .notN a, ρ, S => (evE a ρ S).map fun (x, S) => (.d (.bl (!isNonW x)), S)
  | .and a b, ρ, S => (evE a ρ S).bind fun (x, S) => match x with
    | .d (.bl true) => evE b ρ S
    | .d (.bl false) => some (.d (.bl false), S)
    | _ => none
  | .or a b, ρ, S => (evE a ρ S).bind fun (x, S) => match x with
    | .d (.bl false) => evE b ρ S
    | .d (.bl true) => some (.d (.bl true), S)
    | _ => none
  | .not a, ρ, S => (evE a ρ S).bind fun (x, S) => match x with
    | .d (.bl b) => some (.d (.bl (!b)), S)
    | _ => none
  | .ite k a b, ρ, S => (evT k ρ S).bind fun (x, S) => if x = true then evE a ρ S else evE b ρ S
  | .call f as, ρ, S => (evEs as ρ S).bind fun (ws, S) => (c f ws S).map fun (d, S) => (.d d, S)
  | .callv i as, ρ, S => match ρ[i]? with
    | some (some (.d (.fn f))) => (evEs as ρ S).bind fun (ws, S) => (c f ws S).map fun (d, S) => (.d d, S)
    | _ => none
  | .bi b as, ρ, S => (evEs as ρ S).bind fun (ws, S) => (ws.mapM fun w => rdW w S).bind fun ds => (biRun b ds).map fun d => (.d d, S)
  | .isi1 a t, ρ, S => (evE a ρ S).bind fun (x, S) => (rdW x S).bind fun x => (isi1 x t).map fun b => (.d (.bl b), S)
  | .isi2 a t u, ρ, S => (evE a ρ S).bind fun (x, S) => (rdW x S).bind fun x => (isi2 x t u).map fun b => (.d (.bl b), S)
  | .mt0 m a, ρ, S => (evE a ρ S).bind fun (x, S) => (rdW x S).bind fun x => (meRun0 m x).map fun d => (.d d, S)
  | .mt1 m a b, ρ, S => (evE a ρ S).bind fun (x, S) => (evE b ρ S).bind fun (y, S) => (rdW x S).bind fun x => (rdW y S).bind fun y => (meRun1 m x y).map fun d => (.d d, S)
  | .ix a i, ρ, S => (evE a ρ S).bind fun (x, S) => (evE i ρ S).bind fun (y, S) => (rdW x S).bind fun x => (rdW y S).bind fun y => (ixRun x y).map fun d => (.d d, S)
  | .sl a lo hi, ρ, S => (evE a ρ S).bind fun (x, S) => (evO lo ρ S).bind fun (l, S) => (evO hi ρ S).bind fun (h, S) => (rdW x S).bind fun x => (slRun x l h).map fun d => (.d d, S)
  | .tup as, ρ, S => (evZ as ρ S).bind fun (ds, S) => if ds.length ≤ sizeLine then some (.d (.tup ds), S) else none
  | .lst as, ρ, S => (evZ as ρ S).bind fun (ds, S) => if ds.length ≤ sizeLine then some (.d (.lst ds), S) else none
  | .comp vs tg it cond elt, ρ, S => if tgIn tg vs = true then (evI it ρ S).bind fun p => (compL (fun d S => (asgn tg d (wipeE ρ vs)).bind fun ρ' => (evTo cond ρ' S).bind fun q =>
      if q.1 = true then (evE elt ρ' q.2).bind fun w => (fzW w.1 w.2).map fun z => (some z.1, z.2) else some (none, q.2)) p.1 p.2 []).map fun r => (.d (.lst r.1), r.2) else none
  | .dget a k, ρ, S => (evE a ρ S).bind fun (x, S) => (evE k ρ S).bind fun (y, S) => (rdW x S).bind fun x => (rdW y S).bind fun y => (dLook x y).bind fun o => o.map fun d => (.d d, S)
  | .din k a, ρ, S => (evE k ρ S).bind fun (y, S) => (evE a ρ S).bind fun (x, S) => (rdW x S).bind fun x => (rdW y S).bind fun y => (dLook x y).map fun o => (.d (.bl o.isSome), S)
  | .get1 a k, ρ, S => (evE a ρ S).bind fun (x, S) => (rdW x S).bind fun x1 => if isDct x1 = true then (evE k ρ S).bind fun (y, S) => (rdW x S).bind fun x => (rdW y S).bind fun y => (dLook x y).map fun o => (.d (o.getD .non), S) else none
  | .get2 a k z, ρ, S => (evE a ρ S).bind fun (x, S) => (rdW x S).bind fun x1 => if isDct x1 = true then (evE k ρ S).bind fun (y, S) => (evE z ρ S).bind fun (w, S) => (rdW x S).bind fun x => (rdW y S).bind fun y => (dLook x y).map fun o => ((o.map W.d).getD w, S) else none
  | .dcomp vs tg it cond kx vx, ρ, S => if tgIn tg vs = true then (evI it ρ S).bind fun p => (compD (fun d S => (asgn tg d (wipeE ρ vs)).bind fun ρ' => (evTo cond ρ' S).bind fun q =>
      if q.1 = true then (evE kx ρ' q.2).bind fun y => (evE vx ρ' y.2).bind fun w => match y.1 with
        | .d kd => (keyOf kd).bind fun k => (fzW w.1 w.2).map fun z => (some (k, z.1), z.2)
        | _ => none else some (none, q.2)) p.1 p.2 [] []).map fun r => (.d (.dK r.1.1 r.1.2), r.2) else none
  | .fz a, ρ, S => (evE a ρ S).bind fun (x, S) => (fzW x S).map fun (d, S) => (.d d, S)
  | .sortR i, ρ, S => match ρ[i]? with
    | some (some (.d (.lst ds))) => (intsOf ds).bind fun ns => if ns.length ≤ 1000 then some (.d (.lst ((PvLm.byNeg ns).map fun j : Nat => .int (j : Int))), S) else none
    | _ => none
  | .sin neg k a, ρ, S => (evE k ρ S).bind fun (y, S) => (evE a ρ S).bind fun (x, S) => match y, x with
    | .d kd, .mu n => (keyOf kd).bind fun kk => (setAt S n).map fun ks => (.d (.bl (if neg = true then !hasK kk ks else hasK kk ks)), S)
    | _, _ => none
  | .compK vs tg i cond elt, ρ, S => match ρ[i]? with
    | some (some (.mu n)) => match S[n]? with
      | some (.dK ks _) => if tgIn tg vs = true then (compL (fun d S => (asgn tg d (wipeE ρ vs)).bind fun ρ' => (evTo cond ρ' S).bind fun q =>
          if q.1 = true then (evE elt ρ' q.2).bind fun w => (fzW w.1 w.2).map fun z => (some z.1, z.2) else some (none, q.2)) (ks.map keyD) (S.set n .dead) []).map fun r => (.d (.lst r.1), r.2) else none
      | _ => none
    | _ => none
def evTo : To → En → Store → Option (Bool × Store)
  | .none, _, S => some (true, S)
  | .some t, ρ, S => evT t ρ S
def evT : T → En → Store → Option (Bool × Store)
  | .val e, ρ, S => (evE e ρ S).bind fun (x, S) => match x with
    | .d (.bl b) => some (b, S)
    | _ => none
  | .and a b, ρ, S => (evT a ρ S).bind fun (x, S) => if x = true then evT b ρ S else some (false, S)
  | .or a b, ρ, S => (evT a ρ S).bind fun (x, S) => if x = true then some (true, S) else evT b ρ S
  | .not a, ρ, S => (evT a ρ S).map fun (x, S) => (!x, S)
/-- arguments of a call, as they are -/
def evEs : Es → En → Store → Option (List W × Store)
  | .nil, _, S => some ([], S)
  | .cons e es, ρ, S => (evE e ρ S).bind fun (w, S) => (evEs es ρ S).map fun (ws, S) => (w :: ws, S)
/-- items of a display: what they hold is known for good -/
def evZ : Es → En → Store → Option (List D × Store)
  | .nil, _, S => some ([], S)
  | .cons e es, ρ, S => (evE e ρ S).bind fun (w, S) => (fzW w S).bind fun (d, S) => (evZ es ρ S).map fun (ds, S) => (d :: ds, S)
def evO : Eo → En → Store → Option (Option Int × Store)
  | .none, _, S => some (none, S)
  | .some e, ρ, S => (evE e ρ S).bind fun (x, S) => match x with
    | .d (.int i) => some (some i, S)
    | _ => none
def evI : It → En → Store → Option (List D × Store)
  | .seq e, ρ, S => (evE e ρ S).bind fun (w, S) => match w with
    | .d (.lst ds) => some (ds, S)
    | .d (.tup ds) => some (ds, S)
    | .d (.str x) => some (x.cps.toList.map fun c => .str ⟨#[c]⟩, S)
    | _ => none
  | .fzq e, ρ, S => (evE e ρ S).bind fun (w, S) => (fzW w S).bind fun (d, S) => match d with
    | .lst ds => some (ds, S)
    | .tup ds => some (ds, S)
    | _ => none
  | .r1 a, ρ, S => (evE a ρ S).bind fun (w, S) => match w with
    | .d (.int j) => if -(2 ^ 62) ≤ j ∧ j < 2 ^ 62 then some (rangeD 0 j.toNat, S) else none
    | _ => none
  | .r2 a b, ρ, S => (evE a ρ S).bind fun (w, S) => (evE b ρ S).bind fun (u, S) => match w, u with
    | .d (.int i), .d (.int j) => if -(2 ^ 62) ≤ i ∧ i < 2 ^ 62 ∧ -(2 ^ 62) ≤ j ∧ j < 2 ^ 62 then some (rangeD i (j - i).toNat, S) else none
    | _, _ => none
  | .zip a b, ρ, S => (evE a ρ S).bind fun (w, S) => (evE b ρ S).bind fun (u, S) => (seqOf w).bind fun xs => (seqOf u).map fun ys => (zipD xs ys, S)
end
inductive Out where
  | nx (ρ : En) (S : Store) | bk (ρ : En) (S : Store) | ct (ρ : En) (S : Store) | rt (d : D) (S : Store) | xc (d : D) (S : Store)
def evX : XE → En → Store → Option Out
  | .call f as, ρ, S => (evEs c as ρ S).bind fun (ws, S) => match c f ws S with
    | some (d, S) => some (.rt d S)
    | none => (c.x f ws S).map fun (d, S) => .xc d S
  | .ite k a b, ρ, S => (evT c k ρ S).bind fun (x, S) => if x = true then evX a ρ S else evX b ρ S
  | .pure e, ρ, S => (evE c e ρ S).bind fun (w, S) => (fzW w S).map fun (d, S) => .rt d S
def forL (f : D → En → Store → Option Out) : List D → En → Store → Option Out
  | [], ρ, S => some (.nx ρ S)
  | d :: ds, ρ, S => (f d ρ S).bind fun o => match o with
    | .nx ρ S => forL f ds ρ S
    | .ct ρ S => forL f ds ρ S
    | .bk ρ S => some (.nx ρ S)
    | .rt r S => some (.rt r S)
    | .xc r S => some (.xc r S)
def whL (t : En → Store → Option (Bool × Store)) (f : En → Store → Option Out) : Nat → En → Store → Option Out
  | 0, _, _ => none
  | n + 1, ρ, S => (t ρ S).bind fun q => if q.1 = true then (f ρ q.2).bind fun o => match o with
      | .nx ρ S => whL t f n ρ S
      | .ct ρ S => whL t f n ρ S
      | .bk ρ S => some (.nx ρ S)
      | .rt r S => some (.rt r S)
      | .xc r S => some (.xc r S)
    else some (.nx ρ q.2)
def lstAt (S : Store) (n : Nat) : Option (List D) := match S[n]? with
  | some (.lst ds) => some ds
  | _ => none
def evP : Es → En → Store → Option (List (Key × D) × Store)
  | .nil, _, S => some ([], S)
  | .cons k (.cons e r), ρ, S => (evE c k ρ S).bind fun (x, S) => match x with
    | .d kd => (keyOf kd).bind fun kk => (evE c e ρ S).bind fun (w, S) => (fzW w S).bind fun (d, S) => (evP r ρ S).map fun (ps, S) => ((kk, d) :: ps, S)
    | _ => none
  | _, _, _ => none
def putAll (ps : List (Key × D)) : List Key × List D := ps.foldl (fun a p => putD p.1 p.2 a.1 a.2) ([], [])
mutual
def evS : S → En → Store → Option Out
  | .asg tg e, ρ, S => (evE c e ρ S).bind fun (w, S) => match tg with
    | .name i => if i < ρ.length then some (.nx (ρ.set i (some w)) S) else none
    | tg => match w with
      | .d d => (asgn tg d ρ).map fun ρ' => .nx ρ' S
      | _ => none
  | .par i j a b, ρ, S => (evE c a ρ S).bind fun (x, S) => (evE c b ρ S).bind fun (y, S) => if i < ρ.length ∧ j < ρ.length then some (.nx ((ρ.set i (some x)).set j (some y)) S) else none
  | .newD i, ρ, S => if i < ρ.length then some (.nx (ρ.set i (some (.mu S.length))) (S ++ [.dK [] []])) else none
  | .newT i, ρ, S => if i < ρ.length then some (.nx (ρ.set i (some (.mu S.length))) (S ++ [.dT [] []])) else none
  | .popL i e, ρ, S => match ρ[i]? with
    | some (some (.mu n)) => (lstAt S n).bind fun _ => (evE c e ρ S).bind fun q => match q.1 with
      | .d (.int z) => (lstAt q.2 n).bind fun ds => if 0 ≤ z ∧ z < 1000 ∧ z.toNat < ds.length then some (.nx ρ (q.2.set n (.lst (ds.eraseIdx z.toNat)))) else none
      | _ => none
    | _ => none
  | .par2T i j, ρ, S => if i < ρ.length ∧ j < ρ.length then some (.nx ((ρ.set i (some (.mu S.length))).set j (some (.mu (S ++ [MO.dT [] []]).length))) ((S ++ [MO.dT [] []]) ++ [MO.dT [] []])) else none
  | .augL i k e, ρ, S => match ρ[i]? with
    | some (some (.mu n)) => (evE c k ρ S).bind fun q => match q.1 with
      | .d (.int z) => (lstAt q.2 n).bind fun ds => (L2.atI ds z).bind fun x => match x with
        | .int a => (evE c e ρ q.2).bind fun w => match w.1 with
          | .d (.int b) => (lstAt w.2 n).bind fun ds' => (ixN ds'.length z).map fun j => .nx ρ (w.2.set n (.lst (ds'.set j (.int (a + b)))))
          | _ => none
        | _ => none
      | _ => none
    | _ => none
  | .newS i, ρ, S => if i < ρ.length then some (.nx (ρ.set i (some (.mu S.length))) (S ++ [.set []])) else none
  | .addS i e, ρ, S => match ρ[i]? with
    | some (some (.mu n)) => (setAt S n).bind fun _ => (evE c e ρ S).bind fun q => match q.1 with
      | .d kd => (keyOf kd).bind fun k => (setAt q.2 n).bind fun ks => if ks.length + 1 < scanBound then some (.nx ρ (q.2.set n (.set (if hasK k ks = true then ks else ks ++ [k])))) else none
      | _ => none
    | _ => none
  | .whl k body, ρ, S => whL (fun ρ S => evT c k ρ S) (fun ρ S => evSs body ρ S) 5000 ρ S
  | .aug i sb e, ρ, S => match ρ[i]? with
    | some (some (.d (.int a))) => (evE c e ρ S).bind fun q => match q.1 with
      | .d (.int b) => some (.nx (ρ.set i (some (.d (.int (if sb = true then a - b else a + b))))) q.2)
      | _ => none
    | _ => none
  | .newL i as, ρ, S => (evZ c as ρ S).bind fun (ds, S) => if i < ρ.length ∧ ds.length ≤ sizeLine then some (.nx (ρ.set i (some (.mu S.length))) (S ++ [.lst ds])) else none
  | .newC i vs tg it cond elt, ρ, S => (evE c (.comp vs tg it cond elt) ρ S).bind fun (w, S) => match w with
    | .d (.lst ds) => if i < ρ.length then some (.nx (ρ.set i (some (.mu S.length))) (S ++ [.lst ds])) else none
    | _ => none
  | .app i e, ρ, S => match ρ[i]? with
    | some (some (.mu n)) => (lstAt S n).bind fun _ => (evE c e ρ S).bind fun w => (fzW w.1 w.2).bind fun z => (lstAt z.2 n).bind fun ds =>
        if ds.length < sizeLine then some (.nx ρ (z.2.set n (.lst (ds ++ [z.1])))) else none
    | _ => none
  | .setL i k e, ρ, S => match ρ[i]? with
    | some (some (.mu n)) => (evE c e ρ S).bind fun w => (fzW w.1 w.2).bind fun z => (evE c k ρ z.2).bind fun q => match q.1 with
      | .d (.int i) => (lstAt q.2 n).bind fun ds => (ixN ds.length i).map fun j => .nx ρ (q.2.set n (.lst (ds.set j z.1)))
      | _ => none
    | _ => none
  | .setD i k e, ρ, S => match ρ[i]? with
    | some (some (.mu n)) => (evE c e ρ S).bind fun w => (fzW w.1 w.2).bind fun z => (evE c k ρ z.2).bind fun q => match q.1, q.2[n]? with
      | .d kd, some (.dK ks ds) => (keyOf kd).bind fun k => if ks.length < sizeLine then some (.nx ρ (q.2.set n (.dK (putD k z.1 ks ds).1 (putD k z.1 ks ds).2))) else none
      | .d (.tup ys), some (.dT ks ds) => (keysOf ys).bind fun k => if ks.length < sizeLine then some (.nx ρ (q.2.set n (.dT (putD k z.1 ks ds).1 (putD k z.1 ks ds).2))) else none
      | _, _ => none
    | _ => none
  | .newDK i ps, ρ, S => (evP c ps ρ S).bind fun (kvs, S) => if i < ρ.length ∧ kvs.length ≤ 15 then some (.nx (ρ.set i (some (.mu S.length))) (S ++ [.dK (putAll kvs).1 (putAll kvs).2])) else none
  | .rais e, ρ, S => (evE c e ρ S).bind fun (w, S) => match w with
    | .d (.int i) => if atOk i = true then some (.xc (.int i) S) else none
    | _ => none
  | .dropX x, ρ, S => (evX c x ρ S).bind fun o => match o with
    | .rt _ S => some (.nx ρ S)
    | .xc d S => some (.xc d S)
    | _ => none
  | .retX x, ρ, S => evX c x ρ S
  | .asgX i x, ρ, S => (evX c x ρ S).bind fun o => match o with
    | .rt d S => if i < ρ.length then some (.nx (ρ.set i (some (.d d))) S) else none
    | .xc d S => some (.xc d S)
    | _ => none
  | .tryR x i word, ρ, S => if i < ρ.length then (evX c x ρ S).bind fun o => match o with
    | .rt d S => some (.rt d S)
    | .xc d S => some (.rt (.tup [.str word, d]) S)
    | _ => none else none
  | .drop e, ρ, S => (evE c e ρ S).map fun (_, S) => .nx ρ S
  | .ret e, ρ, S => (evE c e ρ S).bind fun (w, S) => (fzW w S).map fun (d, S) => .rt d S
  | .retN, _, S => some (.rt .non S)
  | .ifs k a b, ρ, S => (evT c k ρ S).bind fun (x, S) => if x = true then evSs a ρ S else evSs b ρ S
  | .forS tg it body, ρ, S => (evI c it ρ S).bind fun (ds, S) => forL (fun d ρ S => (asgn tg d ρ).bind fun ρ' => evSs body ρ' S) ds ρ S
  | .brk, ρ, S => some (.bk ρ S)
  | .cnt, ρ, S => some (.ct ρ S)
  | .pass, ρ, S => some (.nx ρ S)
  | .never, _, _ => none
def evSs : Ss → En → Store → Option Out
  | .nil, ρ, S => some (.nx ρ S)
  | .cons s ss, ρ, S => (evS s ρ S).bind fun o => match o with
    | .nx ρ S => evSs ss ρ S
    | o => some o
end
end
structure Fn where
  ar : Nat
  sl : Nat
  body : Ss
def startE (n : Nat) (ws : List W) : En := ws.map some ++ List.replicate (n - ws.length) none
def callF (P : Nat → Option Fn) : Nat → Call
  | 0 => ⟨fun _ _ _ => none, fun _ _ _ => none⟩
  | k + 1 => ⟨fun f ws S => (P f).bind fun q => if ws.length = q.ar ∧ q.ar ≤ q.sl then (evSs (callF P k) q.body (startE q.sl ws) S).bind fun o => match o with
      | .rt d S' => some (d, S'.take S.length)
      | .nx _ S' => some (.non, S'.take S.length)
      | _ => none
    else none,
    fun f ws S => (P f).bind fun q => if ws.length = q.ar ∧ q.ar ≤ q.sl then (evSs (callF P k) q.body (startE q.sl ws) S).bind fun o => match o with
      | .xc d S' => some (d, S'.take S.length)
      | _ => none
    else none⟩
end Pv

set_option Elab.async false
set_option linter.all false
set_option maxRecDepth 100000
set_option maxHeartbeats 4000000
namespace Pv
open PySem L2

def vOf : D → V
  | .bl b => .bl b
  | .int i => .int i
  | .str x => .str x
  | _ => .non
section
variable (K : PySem.W.Frag)
def rB : BOp → R2
  | .add => fun x y H Q => (rI0 fun i j => .int (i + j)) x y H Q ∨ (∃ i j, x = .str i ∧ y = .str j ∧ i.length + j.length ≤ sizeLine ∧ Q (.str (i ++ j)) H) ∨ rCatA K x y H Q ∨ rCat x y H Q
  | .sub => rI0 fun i j => .int (i - j)
  | .mul => fun x y H Q => (rI CMul fun i j => .int (i * j)) x y H Q ∨ rRepT K x y H Q ∨ PvR.rMulS x y H Q
  | .div => rI CDivW fun i j => .int (i / j)
  | .mod => rI (fun _ j => 0 < j) fun i j => .int (i % j)
  | .pow => rI CPow fun i j => .int (i ^ j.toNat)
def rStr (p : Str → Str → Bool) : R2 := fun x y H Q => ∃ i j, x = .str i ∧ y = .str j ∧ Q (.bl (p i j)) H
def rC : COp → R2
  | .eq => fun x y H Q => rEq x y H Q ∨ rEqD K x y H Q
  | .ne => fun x y H Q => rNe x y H Q ∨ rNeD K x y H Q
  | .lt => fun x y H Q => ((rI0 fun i j => .bl (decide (i < j))) x y H Q ∨ rStr (fun i j => decide (i.cps.toList < j.cps.toList)) x y H Q) ∨ PvR.rLtD K x y H Q
  | .le => fun x y H Q => (rI0 fun i j => .bl (decide (i ≤ j))) x y H Q ∨ rStr (fun i j => !decide (j.cps.toList < i.cps.toList)) x y H Q
  | .gt => fun x y H Q => (rI0 fun i j => .bl (decide (j < i))) x y H Q ∨ rStr (fun i j => decide (j.cps.toList < i.cps.toList)) x y H Q
  | .ge => fun x y H Q => ((rI0 fun i j => .bl (decide (j ≤ i))) x y H Q ∨ rStr (fun i j => !decide (i.cps.toList < j.cps.toList)) x y H Q) ∨ PvR.rGeP K x y H Q
  | .inn => fun x y H Q => rIn K false x y H Q ∨ rStr (fun i j => !(Builtin.Str.occurrences j i 0 j.length 1).isEmpty) x y H Q
  | .nin => fun x y H Q => rIn K true x y H Q ∨ rStr (fun i j => !(!(Builtin.Str.occurrences j i 0 j.length 1).isEmpty)) x y H Q
def rBi : Bi → List V → Hp → VK → Prop
  | .len => fun xs H Q => (∃ p ys, xs = [.ref p] ∧ (SqL K H p ys ∨ SqT K H p ys) ∧ Q (.int ys.length) H) ∨ ∃ z, xs = [.str z] ∧ z.length ≤ sizeLine ∧ Q (.int z.length) H
  | .int => fun xs H Q => (∃ i, xs = [.int i] ∧ Q (.int i) H) ∨ ∃ k, xs = [.bl k] ∧ Q (.int (if k then 1 else 0)) H
  | .all => rAll K
  | .any => rAny K
  | .sum => fun xs H Q => rSum K xs H Q ∨ PvLm.rSumT K xs H Q
  | .max2 => fun xs H Q => ∃ i j, xs = [.int i, .int j] ∧ Q (.int (if j > i then j else i)) H
  | .min2 => fun xs H Q => ∃ i j, xs = [.int i, .int j] ∧ Q (.int (if j < i then j else i)) H
  | .str => fun xs H Q => ∃ i, xs = [.int i] ∧ i.natAbs.log2 < 1920 ∧ Q (.str (toString i)) H
  | .tuple => fun xs H Q => ∃ p ys, xs = [.ref p] ∧ ((SqL K H p ys ∧ ∀ l, H l = none → Q (.ref l) (upd H l (.tup ys))) ∨ (SqT K H p ys ∧ Q (.ref p) H))
  | .list => fun xs H Q => ∃ p ys, xs = [.ref p] ∧ (SqL K H p ys ∨ SqT K H p ys) ∧ ∀ l, H l = none → Q (.ref l) (upd H l (.lst ys))
  | .minL => rMin K
  | .maxL => rMax K
  | .sorted => fun xs H Q => (rSortedI K xs H Q ∨ PvR.rSortedDI xs H Q) ∨ PvR.rSortedDS xs H Q ∨ PvR.rSortedDT xs H Q ∨ PvR.rSortedL K xs H Q
def rMe : Me → V → List V → Hp → VK → Prop
  | .isascii => fun x xs H Q => ∃ a, x = .str a ∧ xs = [] ∧ True ∧ Q (.bl (Txt.isascii a)) H
  | .isalpha => fun x xs H Q => ∃ a, x = .str a ∧ xs = [] ∧ True ∧ Q (.bl (Txt.isalpha a)) H
  | .islower => fun x xs H Q => ∃ a, x = .str a ∧ xs = [] ∧ True ∧ Q (.bl (Txt.islower a)) H
  | .isdigit => fun x xs H Q => ∃ a, x = .str a ∧ xs = [] ∧ True ∧ Q (.bl (Txt.isdigit a)) H
  | .startswith => fun x xs H Q => ∃ a b, x = .str a ∧ xs = [.str b] ∧ Q (.bl (Txt.startswith a b)) H
def rSl : V → Option Int → Option Int → Hp → VK → Prop := fun x lo hi H Q => rSlL K x lo hi H Q ∨ rSlA K x lo hi H Q ∨ rSlS x lo hi H Q
variable (fa : FA) (sp : Nat → Sp) (tb : Nat → Prop)
def tgLen : Tg → Nat
  | .tcons _ r => tgLen r + 1
  | _ => 0
def tTg : Tg → TG
  | .name i => gName i
  | .tup ts => fun v σ H Q => ∃ a xs, v = .ref a ∧ (SqT K H a xs ∨ SqL K H a xs) ∧ xs.length = tgLen ts ∧ go ts xs σ H Q
  | .tnil => fun _ _ _ _ => False
  | .tcons _ _ => fun _ _ _ _ => False
where go : Tg → TGs
  | .tnil => gNil
  | .tcons a r => gCons (tTg a) (go r)
  | _ => fun _ _ _ _ => False
mutual
def tE : E → TE
  | .var i => tVar i
  | .cst d => tC (vOf d)
  | .fnv f => tC (.ref (fa f))
  | .bin o a b => tOp (rB K o) (tE a) (tE b)
  | .neg a => tUn (rU fun i => .int (-i)) (tE a)
  | .cmp o a b => tOp (rC K o) (tE a) (tE b)
  | .chain o o' a b c => tChain (rC K o) (rC K o') (tE a) (tE b) (tE c)
  | .isN a => tIsN (tE a)
  | .notN a => tNotN (tE a)
  | .and a b => tAndV (tE a) (tE b)
  | .or a b => tOrV (tE a) (tE b)
  | .not a => tNotV (tE a)
  | .ite c a b => tIf (tT c) (tE a) (tE b)
  | .call f as => tCall (sp f) [] E0 (tEs as)
  | .callv i as => fun σ H Q => ∃ f, tb f ∧ tCallL i (fa f) (sp f) [] E0 (tEs as) σ H Q
  | .bi b as => tCB (rBi K b) (tEs as)
  | .isi1 a t => tCB (rIsi K) (tCons (tE a) (tCons (tC (.ty t)) tNil))
  | .isi2 a t u => tCB (rIsiT K) (tCons (tE a) (tCons (tTup (tCons (tC (.ty t)) (tCons (tC (.ty u)) tNil))) tNil))
  | .mt0 m a => tM0 (rMe m) (tE a)
  | .mt1 m a b => tM1 (rMe m) (tE a) (tE b)
  | .ix a i => tOp (rIx K) (tE a) (tE i)
  | .sl a lo hi => tSl (rSl K) (tE a) (tO lo) (tO hi)
  | .tup as => tTup (tEs as)
  | .lst as => tLst (tEs as)
  | .comp vs tg it cond elt => tLc (tI it) (tTg K tg) (tTo cond) (tE elt) vs
  | .dget a k => tDGet (tE a) (tE k)
  | .get1 a k => tDGet1 (tE a) (tE k)
  | .get2 a k z => tDGet2 (tE a) (tE k) (tE z)
  | .din k a => tDIn (tE k) (tE a)
  | .dcomp vs tg it cond kx vx => tDc (tI it) (tTg K tg) (tTo cond) (tE kx) (tE vx) vs
  | .compK vs tg i cond elt => tLockE (tLc (iKeys (tVar i)) (tTg K tg) (tTo cond) (tE elt) vs)
  | .fz a => tE a
  | .sortR i => PvLm.tSortR K fa.tabs i
  | .sin neg k a => tOp (rSInK fa.P fa.w neg) (tE k) (tE a)
def tT : T → TT
  | .val e => tB (tE e)
  | .and a b => tAnd (tT a) (tT b)
  | .or a b => tOr (tT a) (tT b)
  | .not a => tNot (tT a)
def tTo : To → TT
  | .none => tYes
  | .some t => tT t
def tEs : Es → TA
  | .nil => tNil
  | .cons e es => tCons (tE e) (tEs es)
def tO : Eo → TO
  | .none => tNoPart
  | .some e => tPart (tE e)
def tI : It → TI
  | .seq e => fun σ H R => iList K (tE e) σ H R ∨ iTup K (tE e) σ H R ∨ iStr (tE e) σ H R
  | .fzq e => fun σ H R => iList K (tE e) σ H R ∨ iTup K (tE e) σ H R ∨ iStr (tE e) σ H R
  | .r1 a => iRng1 (tCons (tE a) tNil)
  | .r2 a b => iRng2 (tCons (tE a) (tCons (tE b) tNil))
  | .zip a b => PvR.iZipX K (tCons (tE a) (tCons (tE b) tNil))
end
def tX (W : WX) : XE → TE
  | .call f as => tCallS (sp f) (WE W) (tEs K fa sp tb as)
  | .ite c a b => tIf (tT K fa sp tb c) (tX W a) (tX W b)
  | .pure e => tE K fa sp tb e
def tPs : Es → List (TE × TE)
  | .cons k (.cons e r) => (tE K fa sp tb k, tE K fa sp tb e) :: tPs r
  | _ => []
def rAug : Bool → TIp
  | false => ipI fun i j => i + j
  | true => ipI fun i j => i - j
def tRais (C : Addr) (W : WX) (te : TE) : TS := fun _ σ H => tErM C (spI C) (tCons te tNil) σ H fun cls d H' => W cls d σ H'
def tAt (C : Addr) (i : Nat) (a : Addr) (cls : Value) (d : Option Addr) : TE := fun σ H Q => tVar i σ H fun x H1 => x = .ref a ∧ cls = .ref C ∧ ∃ (dd : Addr) (v : V), d = some dd ∧ H1 dd = some (.xd [(("at" : Str), v)]) ∧ Q v H1
def tSuite (C : Addr) (i : Nat) (word : Str) : Addr → Value → Option Addr → TS := fun a cls d => tRet (tTup (tCons (tC (.str word)) (tCons (tAt C i a cls d) tNil)))
def wTry (C : Addr) (i : Nat) (word : Str) (D : Ends) : WX := wAs K (.ref C) i (tSuite C i word) (fun _ _ _ _ => False) D
variable (C : Addr) (W : WX)
mutual
def tS : S → TS
  | .asg tg e => tAsg (tE K fa sp tb e) (tTg K tg)
  | .par i j a b => tPar i j (tCons (tE K fa sp tb a) (tCons (tE K fa sp tb b) tNil))
  | .newD i => tAsg tDNewK (gName i)
  | .newT i => tAsg tDNewT (gName i)
  | .popL i e => tDrop (tBM K "list" rPopAt (tVar i) (tCons (tE K fa sp tb e) tNil))
  | .par2T i j => tPar i j (tCons tDNewT (tCons tDNewT tNil))
  | .augL i k e => tAugS (tVar i) (tE K fa sp tb k) (tE K fa sp tb e) (rIxL K) (ipI fun i j => i + j) rSetL
  | .newS i => tAsg (tCB (rSet0K fa.P fa.w) tNil) (gName i)
  | .addS i e => tDrop (tSAddK fa.P fa.w (tVar i) (tCons (tE K fa sp tb e) tNil))
  | .whl k body => tWhile (tT K fa sp tb k) (tSs body)
  | .aug i sb e => tAug i (tE K fa sp tb e) (rAug sb)
  | .newL i as => tAsg (tLst (tEs K fa sp tb as)) (gName i)
  | .newC i vs tg it cond elt => tAsg (tE K fa sp tb (.comp vs tg it cond elt)) (gName i)
  | .app i e => tDrop (tBM K "list" rAppend (tVar i) (tCons (tE K fa sp tb e) tNil))
  | .setL i k e => tAsg (tE K fa sp tb e) (gSub (tVar i) (tE K fa sp tb k) rSetL)
  | .setD i k e => sDPut (tVar i) (tE K fa sp tb k) (tE K fa sp tb e)
  | .newDK i ps => tAsg (tDisp (tPs K fa sp tb ps)) (gName i)
  | .rais e => tRais C W (tE K fa sp tb e)
  | .dropX x => tDrop (tX K fa sp tb W x)
  | .retX x => tRet (tX K fa sp tb W x)
  | .asgX i x => tAsg (tX K fa sp tb W x) (gName i)
  | .tryR x i word => fun D σ H => tRet (tX K fa sp tb (wTry K C i word D) x) D σ H
  | .drop e => tDrop (tE K fa sp tb e)
  | .ret e => tRet (tE K fa sp tb e)
  | .retN => tRetN
  | .ifs c a b => tIfS (tT K fa sp tb c) (tSs a) (tSs b)
  | .forS tg it body => tFor (tI K fa sp tb it) (tTg K tg) (tSs body)
  | .brk => tBreak
  | .cnt => tCont
  | .pass => tNext
  | .never => tNever
def tSs : Ss → TS
  | .nil => tNext
  | .cons s ss => tSeq (tS s) (tSs ss)
end
end

section
variable (K : PySem.W.Frag) (fa : FA)
def Sh (G H : Hp) (v : V) : D → Prop
  | .tup ds => ∃ a vs, v = .ref a ∧ SqT K H a vs ∧ RepDs K fa G vs ds ∧ RepD K fa G v (.tup ds)
  | .lst ds => ∃ a vs, v = .ref a ∧ H a = some (.lst vs) ∧ RepDs K fa G vs ds
  | .dK ks ds => ∃ a kvs, v = .ref a ∧ Rd H a (.dK kvs) ∧ kvs.map (·.1) = ks ∧ RepDs K fa G (kvs.map (·.2)) ds
  | .dT ks ds => ∃ a kvs, v = .ref a ∧ Rd H a (.dT kvs) ∧ kvs.map (·.1) = ks ∧ RepDs K fa G (kvs.map (·.2)) ds
  | .scr ns => ∃ a, v = .ref a ∧ SqL K H a (ns.map V.int)
  | .non => v = .non
  | .bl b => v = .bl b
  | .int i => v = .int i
  | .str x => v = .str x
  | .fn n => v = .ref (fa n)
end
section
variable {K : PySem.W.Frag} {fa : FA} {g g' : Gh} {H H' : Hp} {S : Store} {σ : L2.St} {ρ : En}
theorem Rel.sh (r : Rel K fa g H S) {v : V} : ∀ {d : D}, RepD K fa g.G v d → Sh K fa g.G H v d
  | .non, h | .bl _, h | .int _, h | .str _, h | .fn _, h => by simpa only [RepD, Sh] using h
  | .tup ds, h => by
    have h0 := h
    simp only [RepD] at h
    obtain ⟨a, vs, e, q, h2⟩ := h
    exact ⟨a, vs, e, r.sqT q, h2, h0⟩
  | .lst ds, h => by
    simp only [RepD] at h
    obtain ⟨a, vs, e, q, h2⟩ := h
    exact ⟨a, vs, e, r.lst q, h2⟩
  | .dK ks ds, h => by
    simp only [RepD] at h
    obtain ⟨a, vs, e, q, e2, h2⟩ := h
    exact ⟨a, vs, e, r.rd q, e2, h2⟩
  | .dT ks ds, h => by
    simp only [RepD] at h
    obtain ⟨a, vs, e, q, e2, h2⟩ := h
    exact ⟨a, vs, e, r.rd q, e2, h2⟩
  | .scr ns, h => by
    simp only [RepD] at h
    obtain ⟨a, e, q⟩ := h
    exact ⟨a, e, r.scr q⟩
theorem Rel.shW (r : Rel K fa g H S) {v : V} {w : W} {d : D} (h : RepW K fa g v w) (e : rdW w S = some d) : Sh K fa g.G H v d := by
  cases w with
  | d x =>
    have e' : x = d := Option.some.inj e
    subst e'
    exact r.sh h
  | mu n =>
    obtain ⟨rfl, hn⟩ := h
    simp only [rdW] at e
    split at e
    · rename_i ds hs
      cases e
      obtain ⟨u, h1, ⟨vs, rfl, h2⟩, h3⟩ := r.live n _ hs (fun z => nomatch z)
      exact ⟨_, vs, rfl, h1, h2⟩
    · rename_i ks ds hs
      cases e
      obtain ⟨u, h1, ⟨vs, rfl, e2, h2⟩, h3⟩ := r.live n _ hs (fun z => nomatch z)
      exact ⟨_, vs, rfl, .inl h1, e2, h2⟩
    · rename_i ks ds hs
      cases e
      obtain ⟨u, h1, ⟨vs, rfl, e2, h2⟩, h3⟩ := r.live n _ hs (fun z => nomatch z)
      exact ⟨_, vs, rfl, .inl h1, e2, h2⟩
    · cases e
theorem Rel.fz (r : Rel K fa g H S) {v : V} {w : W} {d : D} {S' : Store} (h : RepW K fa g v w) (e : fzW w S = some (d, S')) : ∃ g', g.le g' ∧ Rel K fa g' H S' ∧ RepD K fa g'.G v d := by
  cases w with
  | d x =>
    have e' := Option.some.inj e
    cases e'
    exact ⟨g, .refl g, r, h⟩
  | mu n =>
    obtain ⟨rfl, hn⟩ := h
    simp only [fzW] at e
    split at e
    · rename_i ds hs
      cases e
      obtain ⟨u, h1, ⟨vs, rfl, h2⟩, h3⟩ := r.freeze hs (fun z => nomatch z)
      have l := Gh.le_add (g := g) (p := g.φ n) (o := HO.lst vs) h1
      refine ⟨_, l, h3, ?_⟩
      simp only [RepD]
      exact ⟨_, vs, rfl, upd_same, RepDs.mono l.G h2⟩
    · rename_i ks ds hs
      cases e
      obtain ⟨u, h1, ⟨vs, rfl, e2, h2⟩, h3⟩ := r.freeze hs (fun z => nomatch z)
      have l := Gh.le_add (g := g) (p := g.φ n) (o := HO.dK vs) h1
      refine ⟨_, l, h3, ?_⟩
      simp only [RepD]
      exact ⟨_, vs, rfl, upd_same, e2, RepDs.mono l.G h2⟩
    · rename_i ks ds hs
      cases e
      obtain ⟨u, h1, ⟨vs, rfl, e2, h2⟩, h3⟩ := r.freeze hs (fun z => nomatch z)
      have l := Gh.le_add (g := g) (p := g.φ n) (o := HO.dT vs) h1
      refine ⟨_, l, h3, ?_⟩
      simp only [RepD]
      exact ⟨_, vs, rfl, upd_same, e2, RepDs.mono l.G h2⟩
    · cases e

abbrev PD (K : PySem.W.Frag) (fa : FA) (g : Gh) (S : Store) (Q : VK) (d : D) : Prop := ∀ g' H' v, g.le g' → Rel K fa g' H' S → RepD K fa g'.G v d → Q v H'
theorem PD.at (r : Rel K fa g H S) {Q : VK} {d : D} {v : V} (h : PD K fa g S Q d) (q : RepD K fa g.G v d) : Q v H := h g H v (.refl g) r q
theorem PD.int (r : Rel K fa g H S) {Q : VK} {i : Int} (h : PD K fa g S Q (.int i)) : Q (.int i) H := h.at r (by simp only [RepD])
theorem PD.bl (r : Rel K fa g H S) {Q : VK} {i : Bool} (h : PD K fa g S Q (.bl i)) : Q (.bl i) H := h.at r (by simp only [RepD])
theorem PD.str (r : Rel K fa g H S) {Q : VK} {i : Str} (h : PD K fa g S Q (.str i)) : Q (.str i) H := h.at r (by simp only [RepD])
theorem PD.tup (r : Rel K fa g H S) {Q : VK} {ds : List D} {vs : List V} (h : PD K fa g S Q (.tup ds)) (q : RepDs K fa g.G vs ds) (p : Addr) (hp : H p = none) : Q (.ref p) (upd H p (.tup vs)) := by
  have l := Gh.le_add (g := g) (p := p) (o := HO.tup vs) (r.fresh hp)
  refine h _ _ _ l (r.add hp) ?_
  simp only [RepD]
  exact ⟨p, vs, rfl, .inl upd_same, RepDs.mono l.G q⟩
theorem PD.lst (r : Rel K fa g H S) {Q : VK} {ds : List D} {vs : List V} (h : PD K fa g S Q (.lst ds)) (q : RepDs K fa g.G vs ds) (p : Addr) (hp : H p = none) : Q (.ref p) (upd H p (.lst vs)) := by
  have l := Gh.le_add (g := g) (p := p) (o := HO.lst vs) (r.fresh hp)
  refine h _ _ _ l (r.add hp) ?_
  simp only [RepD]
  exact ⟨p, vs, rfl, upd_same, RepDs.mono l.G q⟩

theorem rep_ok {G : Hp} {vs : List V} {ds : List D} (h : RepDs K fa G vs ds) : ∀ n : Nat, RepDs K fa G (List.replicate n vs).flatten (List.replicate n ds).flatten
  | 0 => by simpa using RepDs.nil
  | n + 1 => by
    rw [List.replicate_succ, List.replicate_succ, List.flatten_cons, List.flatten_cons]
    exact h.append (rep_ok h n)
theorem bRun_ok (r : Rel K fa g H S) {o : BOp} {x y : V} {a b z : D} {Q : VK} (hx : Sh K fa g.G H x a) (hy : Sh K fa g.G H y b) (e : bRun o a b = some z) (h : PD K fa g S Q z) : rB K o x y H Q := by
  unfold bRun at e
  split at e
  · cases e
    exact .inl ⟨_, _, hx, hy, h.int r⟩
  · split at e
    · cases e
      exact .inr (.inl ⟨_, _, hx, hy, ‹_›, h.str r⟩)
    · cases e
  · split at e
    · rename_i xs ys hl
      cases e
      obtain ⟨p, vs, rfl, h1, h2, h3⟩ := hx
      obtain ⟨q, us, rfl, k1, k2, k3⟩ := hy
      refine .inr (.inr (.inl ⟨p, q, vs, us, rfl, rfl, h1, k1, by rw [h2.length, k2.length]; exact hl, fun e => ?_, fun _ e => ?_, fun _ _ => h.tup r (h2.append k2)⟩))
      · subst e
        have : xs = [] := List.eq_nil_of_length_eq_zero (by rw [← h2.length]; rfl)
        subst this
        exact h.at r k3
      · subst e
        have : ys = [] := List.eq_nil_of_length_eq_zero (by rw [← k2.length]; rfl)
        subst this
        rw [List.append_nil] at h
        exact h.at r h3
    · cases e
  · split at e
    · cases e
      obtain ⟨p, vs, rfl, h1, h2⟩ := hx
      obtain ⟨q, us, rfl, k1, k2⟩ := hy
      exact .inr (.inr (.inr ⟨p, q, vs, us, rfl, rfl, h1, k1, by rw [h2.length, k2.length]; assumption, h.lst r (h2.append k2)⟩))
    · cases e
  · cases e
    exact ⟨_, _, hx, hy, h.int r⟩
  · split at e
    · cases e
      exact .inl ⟨_, _, hx, hy, ‹_›, h.int r⟩
    · cases e
  · split at e
    · rename_i xs k hz
      cases e
      obtain ⟨p, vs, rfl, h1, h2, h3⟩ := hx
      have hl := h2.length
      refine .inr (.inl ⟨p, k, vs, rfl, hy, h1, ?_, hz.2.1, hz.2.2.1, by rw [hl]; exact hz.2.2.2, fun q hq => h.tup r (rep_ok h2 k.toNat) q hq⟩)
      rintro rfl
      cases xs with
      | nil => simp at hz
      | cons _ _ => simp at hl
    · cases e
  · split at e
    · rename_i hz
      cases e
      exact .inr (.inr ⟨_, _, hx, hy, hz.1, hz.2.1, hz.2.2.1, hz.2.2.2, h.str r⟩)
    · cases e
  · split at e
    · cases e
      exact ⟨_, _, hx, hy, ‹_›, h.int r⟩
    · cases e
  · split at e
    · cases e
      exact ⟨_, _, hx, hy, ‹_›, h.int r⟩
    · cases e
  · split at e
    · cases e
      exact ⟨_, _, hx, hy, ‹_›, h.int r⟩
    · cases e
  · cases e
end
end Pv

set_option Elab.async false
set_option linter.all false
set_option maxRecDepth 100000
set_option maxHeartbeats 4000000
namespace Pv
open PySem L2

section
variable {K : PySem.W.Frag} {fa : FA} {g g' : Gh} {H H' : Hp} {S : Store} {σ : L2.St} {ρ : En}
mutual
theorem dpD (r : Rel K fa g H S) : ∀ {d : D} {v : V}, (toPy d).canLay0 = true → RepD K fa g.G v d → Dp K H v (toPy d)
  | .non, _, _, h => by simp only [RepD] at h; subst h; exact .non
  | .bl b, _, _, h => by simp only [RepD] at h; subst h; exact .bl b
  | .int b, _, _, h => by simp only [RepD] at h; subst h; exact .int b
  | .str b, _, _, h => by simp only [RepD] at h; subst h; exact .str b
  | .tup ds, _, c, h => by
    simp only [RepD] at h
    obtain ⟨a, vs, rfl, q, h2⟩ := h
    simp only [toPy, PyData.canLay0] at c ⊢
    exact .tup (r.sqT q) (dpDs r c h2)
  | .lst ds, _, c, h => by
    simp only [RepD] at h
    obtain ⟨a, vs, rfl, q, h2⟩ := h
    simp only [toPy, PyData.canLay0] at c ⊢
    exact .lst (.of (r.lst q)) (dpDs r c h2)
  | .dK _ _, _, c, _ | .dT _ _, _, c, _ | .fn _, _, c, _ | .scr _, _, c, _ => by simp [toPy, PyData.canLay0] at c
theorem dpDs (r : Rel K fa g H S) : ∀ {ds : List D} {vs : List V}, PyData.canLayAll0 (toPyL ds) = true → RepDs K fa g.G vs ds → DpAll K H vs (toPyL ds)
  | [], _, _, h => by simp only [RepDs] at h; subst h; exact .nil
  | d :: ds, _, c, h => by
    simp only [RepDs] at h
    obtain ⟨v, t, rfl, h1, h2⟩ := h
    simp only [toPyL, PyData.canLayAll0, Bool.and_eq_true] at c ⊢
    exact .cons (dpD r c.1 h1) (dpDs r c.2 h2)
end
theorem shDp (r : Rel K fa g H S) {v : V} : ∀ {d : D}, (toPy d).canLay0 = true → Sh K fa g.G H v d → Dp K H v (toPy d)
  | .non, _, h => by obtain rfl : v = _ := h; exact .non
  | .bl b, _, h => by obtain rfl : v = _ := h; exact .bl b
  | .int b, _, h => by obtain rfl : v = _ := h; exact .int b
  | .str b, _, h => by obtain rfl : v = _ := h; exact .str b
  | .tup ds, c, h => by
    obtain ⟨a, vs, rfl, q, h2, _⟩ := h
    simp only [toPy, PyData.canLay0] at c ⊢
    exact .tup q (dpDs r c h2)
  | .lst ds, c, h => by
    obtain ⟨a, vs, rfl, q, h2⟩ := h
    simp only [toPy, PyData.canLay0] at c ⊢
    exact .lst (.of q) (dpDs r c h2)
  | .dK _ _, c, _ | .dT _ _, c, _ | .fn _, c, _ | .scr _, c, _ => by simp [toPy, PyData.canLay0] at c
theorem canLay_of {p : PyData} (h : SeqAt.shaped p = true) : p.canLay0 = true := SeqAt.canLay_of_shaped h

theorem scal_ok {x y : V} : ∀ {a b : D}, Sh K fa g.G H x a → Sh K fa g.G H y b → scalD a b = true → scal x y = true ∧ decide (x = y) = eqS a b := by
  intro a b hx hy h
  unfold scalD at h
  split at h <;> first
    | (cases h; done)
    | (simp only [Sh] at hx hy; subst hx; subst hy; exact ⟨rfl, by simp [eqS]⟩)
theorem cEq_ok (r : Rel K fa g H S) {x y : V} {a b : D} {z : Bool} {Q : VK} (hx : Sh K fa g.G H x a) (hy : Sh K fa g.G H y b) (e : cEq a b = some z) (h : Q (.bl z) H) : rC K .eq x y H Q := by
  unfold cEq at e
  split at e
  · rename_i hs
    cases e
    obtain ⟨h1, h2⟩ := scal_ok hx hy hs
    exact .inl ⟨h1, by rw [h2]; exact h⟩
  · split at e
    · rename_i hs
      cases e
      rw [Bool.and_eq_true] at hs
      exact .inr ⟨_, _, shDp r (canLay_of hs.1) hx, shDp r (canLay_of hs.2) hy, hs.1, hs.2, h⟩
    · cases e
theorem cNe_ok (r : Rel K fa g H S) {x y : V} {a b : D} {z : Bool} {Q : VK} (hx : Sh K fa g.G H x a) (hy : Sh K fa g.G H y b) (e : cEq a b = some z) (h : Q (.bl (!z)) H) : rC K .ne x y H Q := by
  unfold cEq at e
  split at e
  · rename_i hs
    cases e
    obtain ⟨h1, h2⟩ := scal_ok hx hy hs
    exact .inl ⟨h1, by rw [h2]; exact h⟩
  · split at e
    · rename_i hs
      cases e
      rw [Bool.and_eq_true] at hs
      exact .inr ⟨_, _, shDp r (canLay_of hs.1) hx, shDp r (canLay_of hs.2) hy, hs.1, hs.2, h⟩
    · cases e
theorem flat_v {G : Hp} {v : V} : ∀ {d : D}, flatD d = true → RepD K fa G v d → v = vOf d ∧ flatV v = true
  | .non, _, h | .bl _, _, h | .int _, _, h | .str _, _, h => by simp only [RepD] at h; subst h; exact ⟨rfl, rfl⟩
  | .tup _, c, _ | .lst _, c, _ | .dK _ _, c, _ | .dT _ _, c, _ | .fn _, c, _ | .scr _, c, _ => by simp [flatD] at c
theorem flat_sh {G : Hp} {v : V} : ∀ {d : D}, flatD d = true → Sh K fa G H v d → v = vOf d ∧ flatV v = true
  | .non, _, h | .bl _, _, h | .int _, _, h | .str _, _, h => by obtain rfl : v = _ := h; exact ⟨rfl, rfl⟩
  | .tup _, c, _ | .lst _, c, _ | .dK _ _, c, _ | .dT _ _, c, _ | .fn _, c, _ | .scr _, c, _ => by simp [flatD] at c
theorem flat_vs {G : Hp} : ∀ {ds : List D} {vs : List V}, ds.all flatD = true → RepDs K fa G vs ds → vs = ds.map vOf ∧ vs.all flatV = true
  | [], _, _, h => by simp only [RepDs] at h; subst h; exact ⟨rfl, rfl⟩
  | d :: ds, _, c, h => by
    simp only [RepDs] at h
    obtain ⟨v, t, rfl, h1, h2⟩ := h
    rw [List.all_cons, Bool.and_eq_true] at c
    obtain ⟨e1, f1⟩ := flat_v c.1 h1
    obtain ⟨e2, f2⟩ := flat_vs c.2 h2
    exact ⟨by rw [List.map_cons, ← e1, ← e2], by rw [List.all_cons, f1, f2]; rfl⟩
theorem inD1_ok : ∀ {x y : D}, flatD x = true → flatD y = true → eqV (vOf y) (vOf x) = inD1 x y := by
  intro x y hx hy
  cases x <;> cases y <;> first
    | (simp [flatD] at hx; done)
    | (simp [flatD] at hy; done)
    | rfl
theorem inDs_ok {x : D} (hx : flatD x = true) : ∀ {ys : List D}, ys.all flatD = true → inV (vOf x) (ys.map vOf) = inDs x ys
  | [], _ => rfl
  | y :: ys, c => by
    rw [List.all_cons, Bool.and_eq_true] at c
    have ih := inDs_ok hx c.2
    unfold inV inDs at ih ⊢
    rw [List.map_cons, List.any_cons, List.any_cons, ih, inD1_ok hx c.1]
theorem cIn_ok (r : Rel K fa g H S) {x y : V} {a b : D} {z : Bool} (hx : Sh K fa g.G H x a) (hy : Sh K fa g.G H y b) (e : cIn a b = some z) :
    (∃ p xs, y = .ref p ∧ (SqL K H p xs ∨ SqT K H p xs) ∧ flatV x = true ∧ xs.all flatV = true ∧ inV x xs = z) ∨ ∃ i j, x = .str i ∧ y = .str j ∧ (!(Builtin.Str.occurrences j i 0 j.length 1).isEmpty) = z := by
  unfold cIn at e
  split at e
  · split at e
    · rename_i hs
      cases e
      rw [Bool.and_eq_true] at hs
      obtain ⟨p, vs, rfl, h1, h2⟩ := hy
      obtain ⟨rfl, f1⟩ := flat_sh hs.1 hx
      obtain ⟨rfl, f2⟩ := flat_vs hs.2 h2
      exact .inl ⟨p, _, rfl, .inl (.of h1), f1, f2, inDs_ok hs.1 hs.2⟩
    · cases e
  · split at e
    · rename_i hs
      cases e
      rw [Bool.and_eq_true] at hs
      obtain ⟨p, vs, rfl, h1, h2, _⟩ := hy
      obtain ⟨rfl, f1⟩ := flat_sh hs.1 hx
      obtain ⟨rfl, f2⟩ := flat_vs hs.2 h2
      exact .inl ⟨p, _, rfl, .inr h1, f1, f2, inDs_ok hs.1 hs.2⟩
    · cases e
  · split at e
    · cases e
      exact .inr ⟨_, _, hx, hy, rfl⟩
    · cases e
  · cases e
theorem cLt_ok {x y : V} {a b : D} {z : Bool} (hx : Sh K fa g.G H x a) (hy : Sh K fa g.G H y b) (e : cLt a b = some z) :
    (∃ i j, x = .int i ∧ y = .int j ∧ decide (i < j) = z) ∨ ∃ i j, x = .str i ∧ y = .str j ∧ decide (i.cps.toList < j.cps.toList) = z := by
  unfold cLt at e
  split at e
  · cases e; exact .inl ⟨_, _, hx, hy, rfl⟩
  · cases e; exact .inr ⟨_, _, hx, hy, rfl⟩
  · cases e
theorem cLe_ok {x y : V} {a b : D} {z : Bool} (hx : Sh K fa g.G H x a) (hy : Sh K fa g.G H y b) (e : cLe a b = some z) :
    (∃ i j, x = .int i ∧ y = .int j ∧ decide (i ≤ j) = z) ∨ ∃ i j, x = .str i ∧ y = .str j ∧ (!decide (j.cps.toList < i.cps.toList)) = z := by
  unfold cLe at e
  split at e
  · cases e; exact .inl ⟨_, _, hx, hy, rfl⟩
  · cases e; exact .inr ⟨_, _, hx, hy, rfl⟩
  · cases e
theorem cRun_ok (r : Rel K fa g H S) {o : COp} {x y : V} {a b : D} {z : Bool} {Q : VK} (hx : Sh K fa g.G H x a) (hy : Sh K fa g.G H y b) (e : cRun o a b = some z) (h : Q (.bl z) H) : rC K o x y H Q := by
  cases o with
  | eq => exact cEq_ok r hx hy e h
  | ne =>
    obtain ⟨z', e', rfl⟩ := Option.map_eq_some_iff.mp e
    exact cNe_ok r hx hy e' h
  | lt =>
    simp only [cRun] at e
    cases e0 : cLt a b with
    | some z' =>
      rw [e0] at e
      simp only [Option.some_or, Option.some.injEq] at e
      subst e
      rcases cLt_ok hx hy e0 with ⟨i, j, rfl, rfl, rfl⟩ | ⟨i, j, rfl, rfl, rfl⟩
      · exact .inl (.inl ⟨i, j, rfl, rfl, h⟩)
      · exact .inl (.inr ⟨i, j, rfl, rfl, h⟩)
    | none =>
      rw [e0] at e
      simp only [Option.none_or] at e
      unfold ltT at e
      split at e
      · split at e
        · rename_i hc
          cases e
          exact .inr ⟨_, _, shDp r hc.1.1 hx, shDp r hc.1.2 hy, hc.2.1, by simp [toPy], hc.2.2, h⟩
        · cases e
      · cases e
  | le =>
    rcases cLe_ok hx hy e with ⟨i, j, rfl, rfl, rfl⟩ | ⟨i, j, rfl, rfl, rfl⟩
    · exact .inl ⟨i, j, rfl, rfl, h⟩
    · exact .inr ⟨i, j, rfl, rfl, h⟩
  | gt =>
    rcases cLt_ok hy hx e with ⟨i, j, rfl, rfl, rfl⟩ | ⟨i, j, rfl, rfl, rfl⟩
    · exact .inl ⟨_, _, rfl, rfl, h⟩
    · exact .inr ⟨_, _, rfl, rfl, h⟩
  | ge =>
    simp only [cRun] at e
    cases e0 : cLe b a with
    | some z' =>
      rw [e0] at e
      simp only [Option.some_or, Option.some.injEq] at e
      subst e
      rcases cLe_ok hy hx e0 with ⟨i, j, rfl, rfl, rfl⟩ | ⟨i, j, rfl, rfl, rfl⟩
      · exact .inl (.inl ⟨_, _, rfl, rfl, h⟩)
      · exact .inl (.inr ⟨_, _, rfl, rfl, h⟩)
    | none =>
      rw [e0] at e
      simp only [Option.none_or] at e
      unfold geT at e
      split at e
      · cases e
        obtain ⟨p1, vs1, rfl, h1, q1, _⟩ := hx
        obtain ⟨p2, vs2, rfl, h2, q2, _⟩ := hy
        obtain ⟨_, _, rfl, e1, _, _, rfl, e2, rfl⟩ := q1
        obtain ⟨_, _, rfl, e3, _, _, rfl, e4, rfl⟩ := q2
        cases e1; cases e2; cases e3; cases e4
        exact .inr ⟨_, _, _, _, _, _, rfl, rfl, h1, h2, h⟩
      · cases e
  | inn =>
    rcases cIn_ok r hx hy e with ⟨p, xs, h1, h2, h3, h4, rfl⟩ | ⟨i, j, rfl, rfl, rfl⟩
    · exact .inl ⟨p, xs, h1, h2, h3, h4, h⟩
    · exact .inr ⟨i, j, rfl, rfl, h⟩
  | nin =>
    obtain ⟨z', e', rfl⟩ := Option.map_eq_some_iff.mp e
    rcases cIn_ok r hx hy e' with ⟨p, xs, h1, h2, h3, h4, rfl⟩ | ⟨i, j, rfl, rfl, rfl⟩
    · exact .inl ⟨p, xs, h1, h2, h3, h4, h⟩
    · exact .inr ⟨i, j, rfl, rfl, h⟩

theorem blsOf_ok : ∀ {ds : List D} {bs : List Bool}, blsOf ds = some bs → ds = bs.map D.bl
  | [], bs, h => by cases h; rfl
  | d :: ds, bs, h => by
    unfold blsOf at h
    split at h
    · cases h
      rename_i e; cases e
    · obtain ⟨bs', e', rfl⟩ := Option.map_eq_some_iff.mp h
      rename_i e; cases e
      rw [blsOf_ok e']; rfl
    · cases h
theorem intsOf_ok : ∀ {ds : List D} {bs : List Int}, intsOf ds = some bs → ds = bs.map D.int
  | [], bs, h => by cases h; rfl
  | d :: ds, bs, h => by
    unfold intsOf at h
    split at h
    · cases h
      rename_i e; cases e
    · obtain ⟨bs', e', rfl⟩ := Option.map_eq_some_iff.mp h
      rename_i e; cases e
      rw [intsOf_ok e']; rfl
    · cases h
theorem intsK_ok : ∀ {ks : List Key} {bs : List Int}, intsK ks = some bs → ks = bs.map Sum.inl
  | [], bs, h => by cases h; rfl
  | d :: ds, bs, h => by
    unfold intsK at h
    split at h
    · cases h
      rename_i e; cases e
    · obtain ⟨bs', e', rfl⟩ := Option.map_eq_some_iff.mp h
      rename_i e; cases e
      rw [intsK_ok e']; rfl
    · cases h
theorem insI_perm (x : Int) : ∀ ys : List Int, (insI x ys).Perm (x :: ys)
  | [] => .refl _
  | y :: ys => by
    unfold insI
    split
    · exact .refl _
    · exact ((insI_perm x ys).cons y).trans (.swap x y ys)
theorem sortI_perm : ∀ xs : List Int, (sortI xs).Perm xs
  | [] => .refl _
  | x :: xs => (insI_perm x (sortI xs)).trans ((sortI_perm xs).cons x)
theorem insI_up (x : Int) : ∀ {ys : List Int}, ys.Pairwise (· ≤ ·) → (insI x ys).Pairwise (· ≤ ·)
  | [], _ => by simp [insI]
  | y :: ys, h => by
    unfold insI
    rw [List.pairwise_cons] at h
    split
    · rename_i hxy
      rw [List.pairwise_cons, List.pairwise_cons]
      refine ⟨fun a ha => ?_, h⟩
      rcases List.mem_cons.mp ha with rfl | ha
      · exact hxy
      · exact Int.le_trans hxy (h.1 a ha)
    · rename_i hxy
      rw [List.pairwise_cons]
      refine ⟨fun a ha => ?_, insI_up x h.2⟩
      have := (insI_perm x ys).mem_iff.mp ha
      rcases List.mem_cons.mp this with rfl | ha
      · omega
      · exact h.1 a ha
theorem sortI_up : ∀ xs : List Int, (sortI xs).Pairwise (· ≤ ·)
  | [] => .nil
  | x :: xs => insI_up x (sortI_up xs)
theorem sortI_only {xs ys : List Int} (p : ys.Perm xs) (h : ys.Pairwise (· ≤ ·)) : ys = sortI xs :=
  List.Perm.eq_of_pairwise (fun a b _ _ h1 h2 => Int.le_antisymm h1 h2) h (sortI_up xs) (p.trans (sortI_perm xs).symm)

inductive Shs (K : PySem.W.Frag) (fa : FA) (G H : Hp) : List V → List D → Prop
  | nil : Shs K fa G H [] []
  | cons {v : V} {vs : List V} {d : D} {ds : List D} : Sh K fa G H v d → Shs K fa G H vs ds → Shs K fa G H (v :: vs) (d :: ds)
theorem minI_ok : ∀ {ns : List Int} {m : Int}, minI ns = some m → m ∈ ns ∧ ∀ y, y ∈ ns → m ≤ y
  | [], _, h => by simp [minI] at h
  | x :: xs, m, h => by
    unfold minI at h
    split at h
    · rename_i hn
      cases h
      have : xs = [] := by
        cases xs with
        | nil => rfl
        | cons a t =>
          unfold minI at hn
          split at hn <;> cases hn
      subst this
      exact ⟨List.mem_cons_self, fun y hy => by simp at hy; omega⟩
    · rename_i m' hm
      obtain ⟨h1, h2⟩ := minI_ok hm
      cases h
      split
      · exact ⟨List.mem_cons_of_mem _ h1, fun y hy => by
          rcases List.mem_cons.mp hy with rfl | hy
          · omega
          · exact h2 y hy⟩
      · exact ⟨List.mem_cons_self, fun y hy => by
          rcases List.mem_cons.mp hy with rfl | hy
          · omega
          · have := h2 y hy; omega⟩
theorem maxI_ok : ∀ {ns : List Int} {m : Int}, maxI ns = some m → m ∈ ns ∧ ∀ y, y ∈ ns → y ≤ m
  | [], _, h => by simp [maxI] at h
  | x :: xs, m, h => by
    unfold maxI at h
    split at h
    · rename_i hn
      cases h
      have : xs = [] := by
        cases xs with
        | nil => rfl
        | cons a t =>
          unfold maxI at hn
          split at hn <;> cases hn
      subst this
      exact ⟨List.mem_cons_self, fun y hy => by simp at hy; omega⟩
    · rename_i m' hm
      obtain ⟨h1, h2⟩ := maxI_ok hm
      cases h
      split
      · exact ⟨List.mem_cons_of_mem _ h1, fun y hy => by
          rcases List.mem_cons.mp hy with rfl | hy
          · omega
          · exact h2 y hy⟩
      · exact ⟨List.mem_cons_self, fun y hy => by
          rcases List.mem_cons.mp hy with rfl | hy
          · omega
          · have := h2 y hy; omega⟩
theorem strsK_ok : ∀ {ks : List Key} {bs : List Str}, strsK ks = some bs → ks = bs.map Sum.inr
  | [], bs, h => by cases h; rfl
  | d :: ds, bs, h => by
    unfold strsK at h
    split at h
    · cases h
      rename_i e; cases e
    · obtain ⟨bs', e', rfl⟩ := Option.map_eq_some_iff.mp h
      rename_i e; cases e
      rw [strsK_ok e']; rfl
    · cases h
theorem rep_strs {G : Hp} : ∀ {xs : List Str}, RepDs K fa G (xs.map V.str) (xs.map D.str)
  | [] => RepDs.nil
  | x :: xs => RepDs.cons (by simp only [RepD]) rep_strs
theorem rep_keys {G : Hp} : ∀ {k : List Key}, RepDs K fa G (k.map kV) (k.map keyD)
  | [] => RepDs.nil
  | .inl i :: k => RepDs.cons (by simp only [RepD, keyD, kV]) rep_keys
  | .inr i :: k => RepDs.cons (by simp only [RepD, keyD, kV]) rep_keys
theorem rep_tups {G : Hp} : ∀ {bs : List (List Key × Addr)}, (∀ b ∈ bs, G b.2 = some (.tup (b.1.map kV))) → RepDs K fa G (bs.map fun b => V.ref b.2) ((bs.map (·.1)).map fun k => D.tup (k.map keyD))
  | [], _ => RepDs.nil
  | b :: bs, h => by
    refine RepDs.cons ?_ (rep_tups fun x hx => h x (List.mem_cons_of_mem _ hx))
    simp only [RepD]
    exact ⟨b.2, _, rfl, .inl (h b List.mem_cons_self), rep_keys⟩
theorem Rel.adopt_all (r : Rel K fa g H S) : ∀ {bs : List (List Key × Addr)}, (∀ b ∈ bs, H b.2 = some (.tup (b.1.map kV))) → ∃ g', g.le g' ∧ Rel K fa g' H S ∧ ∀ b ∈ bs, g'.G b.2 = some (.tup (b.1.map kV))
  | [], _ => ⟨g, .refl g, r, by simp⟩
  | b :: bs, h => by
    obtain ⟨g1, l1, r1, h1⟩ := r.adopt_all fun x hx => h x (List.mem_cons_of_mem _ hx)
    obtain ⟨g2, l2, r2, h2⟩ := r1.adopt (h b List.mem_cons_self)
    refine ⟨g2, l1.trans l2, r2, fun x hx => ?_⟩
    rcases List.mem_cons.mp hx with rfl | hx
    · exact h2
    · exact l2.G _ _ (h1 x hx)
theorem tupC_ok {d : D} (h : tupC d = true) : (toPy d).canLay0 = true ∧ (toPy d).depth ≤ 60 ∧ ∃ x r, toPy d = .tuple (x :: r) := by
  unfold tupC at h
  split at h
  · simp only [Bool.and_eq_true, decide_eq_true_eq] at h
    rename_i d ds
    exact ⟨h.1, h.2, toPy d, toPyL ds, by simp only [toPy, toPyL]⟩
  · cases h
theorem repds_zip {G : Hp} : ∀ {ds : List D} {vs : List V}, RepDs K fa G vs ds → ∀ x ∈ vs.zip ds, RepD K fa G x.1 x.2
  | [], vs, h, x, hx => by simp at hx
  | d :: ds, vs, h, x, hx => by
    simp only [RepDs] at h
    obtain ⟨v, t, rfl, h1, h2⟩ := h
    rw [List.zip_cons_cons] at hx
    rcases List.mem_cons.mp hx with rfl | hx
    · exact h1
    · exact repds_zip h2 x hx
theorem repds_pairs {G : Hp} : ∀ {l : List (V × D)}, (∀ x ∈ l, RepD K fa G x.1 x.2) → RepDs K fa G (l.map (·.1)) (l.map (·.2))
  | [], _ => RepDs.nil
  | x :: l, h => RepDs.cons (h x List.mem_cons_self) (repds_pairs fun y hy => h y (List.mem_cons_of_mem _ hy))
theorem biRun_ok (r : Rel K fa g H S) {b : Bi} {vs : List V} {ds : List D} {z : D} {Q : VK} (hv : Shs K fa g.G H vs ds) (e : biRun b ds = some z) (h : PD K fa g S Q z) : rBi K b vs H Q := by
  unfold biRun at e
  split at e
  · cases e
    cases hv with | cons h1 t => cases t with | nil =>
    obtain ⟨p, us, rfl, q, h2, _⟩ := h1
    exact .inl ⟨p, us, rfl, .inr q, by rw [h2.length]; exact h.int r⟩
  · cases e
    cases hv with | cons h1 t => cases t with | nil =>
    obtain ⟨p, us, rfl, q, h2⟩ := h1
    exact .inl ⟨p, us, rfl, .inl (.of q), by rw [h2.length]; exact h.int r⟩
  · split at e
    · cases e
      cases hv with | cons h1 t => cases t with | nil =>
      obtain rfl : _ = _ := h1
      exact .inr ⟨_, rfl, ‹_›, h.int r⟩
    · cases e
  · cases e
    cases hv with | cons h1 t => cases t with | nil =>
    obtain rfl : _ = _ := h1
    exact .inl ⟨_, rfl, h.int r⟩
  · obtain ⟨bs, e', rfl⟩ := Option.map_eq_some_iff.mp e
    cases hv with | cons h1 t => cases t with | nil =>
    obtain ⟨p, us, rfl, q, h2⟩ := h1
    rw [blsOf_ok e'] at h2
    rw [h2.bls] at q
    exact ⟨p, bs, rfl, .of q, h.bl r⟩
  · obtain ⟨bs, e', rfl⟩ := Option.map_eq_some_iff.mp e
    cases hv with | cons h1 t => cases t with | nil =>
    obtain ⟨p, us, rfl, q, h2⟩ := h1
    rw [blsOf_ok e'] at h2
    rw [h2.bls] at q
    exact ⟨p, bs, rfl, .of q, h.bl r⟩
  · obtain ⟨bs, e', rfl⟩ := Option.map_eq_some_iff.mp e
    cases hv with | cons h1 t => cases t with | nil =>
    obtain ⟨p, us, rfl, q, h2⟩ := h1
    rw [intsOf_ok e'] at h2
    rw [h2.ints] at q
    exact .inl ⟨p, bs, rfl, .of q, h.int r⟩
  · obtain ⟨bs, e', rfl⟩ := Option.map_eq_some_iff.mp e
    cases hv with | cons h1 t => cases t with | nil =>
    obtain ⟨p, us, rfl, q, h2, _⟩ := h1
    rw [intsOf_ok e'] at h2
    rw [h2.ints] at q
    exact .inr ⟨p, bs, rfl, q, h.int r⟩
  · cases e
    cases hv with | cons h1 t => cases t with | cons h2 t => cases t with | nil =>
    obtain rfl : _ = _ := h1
    obtain rfl : _ = _ := h2
    exact ⟨_, _, rfl, h.int r⟩
  · cases e
    cases hv with | cons h1 t => cases t with | cons h2 t => cases t with | nil =>
    obtain rfl : _ = _ := h1
    obtain rfl : _ = _ := h2
    exact ⟨_, _, rfl, h.int r⟩
  · split at e
    · cases e
      cases hv with | cons h1 t => cases t with | nil =>
      obtain rfl : _ = _ := h1
      exact ⟨_, rfl, ‹_›, h.str r⟩
    · cases e
  · cases e
    cases hv with | cons h1 t => cases t with | nil =>
    obtain ⟨p, us, rfl, q, h2⟩ := h1
    exact ⟨p, us, rfl, .inl ⟨.of q, h.tup r h2⟩⟩
  · cases e
    cases hv with | cons h1 t => cases t with | nil =>
    obtain ⟨p, us, rfl, q, h2, h3⟩ := h1
    exact ⟨p, us, rfl, .inr ⟨q, h.at r h3⟩⟩
  · cases e
    cases hv with | cons h1 t => cases t with | nil =>
    obtain ⟨p, us, rfl, q, h2⟩ := h1
    exact ⟨p, us, rfl, .inl (.of q), h.lst r h2⟩
  · cases e
    cases hv with | cons h1 t => cases t with | nil =>
    obtain ⟨p, us, rfl, q, h2, h3⟩ := h1
    exact ⟨p, us, rfl, .inr q, h.lst r h2⟩
  · obtain ⟨bs, e', e⟩ := Option.bind_eq_some_iff.mp e
    obtain ⟨m, e2, rfl⟩ := Option.map_eq_some_iff.mp e
    cases hv with | cons h1 t => cases t with | nil =>
    obtain ⟨p, us, rfl, q, h2⟩ := h1
    rw [intsOf_ok e'] at h2
    rw [h2.ints] at q
    obtain ⟨m1, m2⟩ := minI_ok e2
    refine ⟨p, bs, rfl, .of q, List.length_pos_of_mem m1, fun m' h3 h4 => ?_⟩
    have := h4 m m1
    have := m2 m' h3
    obtain rfl : m' = m := by omega
    exact h.int r
  · obtain ⟨bs, e', e⟩ := Option.bind_eq_some_iff.mp e
    obtain ⟨m, e2, rfl⟩ := Option.map_eq_some_iff.mp e
    cases hv with | cons h1 t => cases t with | nil =>
    obtain ⟨p, us, rfl, q, h2⟩ := h1
    rw [intsOf_ok e'] at h2
    rw [h2.ints] at q
    obtain ⟨m1, m2⟩ := maxI_ok e2
    refine ⟨p, bs, rfl, .of q, List.length_pos_of_mem m1, fun m' h3 h4 => ?_⟩
    have := h4 m m1
    have := m2 m' h3
    obtain rfl : m' = m := by omega
    exact h.int r
  · rename_i ds0
    cases hv with | cons h1 t => cases t with | nil =>
    obtain ⟨p, us, rfl, q, h2⟩ := h1
    cases e0 : intsOf ds0 with
    | some bs =>
      rw [e0] at e
      simp only [Option.map_some, Option.some_or, Option.some.injEq] at e
      subst e
      rw [intsOf_ok e0] at h2
      rw [h2.ints] at q
      refine .inl (.inl ⟨p, bs, rfl, .of q, fun ns' p' pm up hp => ?_⟩)
      rw [sortI_only pm up]
      exact h.lst r RepDs.of_ints p' hp
    | none =>
      rw [e0] at e
      simp only [Option.map_none, Option.none_or] at e
      split at e
      case isFalse => cases e
      rename_i ht
      cases e
      simp only [tupsB, Bool.and_eq_true, List.all_eq_true, decide_eq_true_eq] at ht
      obtain ⟨hlen, hc, hal⟩ := ht
      have hul := h2.length
      have hz := repds_zip h2
      have eu : ((us.zip ds0).map fun x => (x.1, toPy x.2)).map (·.1) = us := by
        rw [List.map_map]
        exact List.map_fst_zip (by omega)
      have ed : (us.zip ds0).map (·.2) = ds0 := List.map_snd_zip (by omega)
      have hmem : ∀ x ∈ us.zip ds0, x.2 ∈ ds0 := fun x hx => by rw [← ed]; exact List.mem_map_of_mem hx
      refine .inr (.inr (.inr ⟨p, (us.zip ds0).map fun x => (x.1, toPy x.2), rfl, by rw [eu]; exact .of q, fun b hb => ?_, fun d hd d' hd' => ?_, fun b hb => ?_, fun b hb => ?_, by rw [List.length_map, List.length_zip]; omega, fun p' hp => ?_⟩))
      · obtain ⟨x, hx, rfl⟩ := List.mem_map.mp hb
        exact dpD r (tupC_ok (hc _ (hmem x hx))).1 (hz x hx)
      · rw [List.map_map] at hd hd'
        obtain ⟨x, hx, rfl⟩ := List.mem_map.mp hd
        obtain ⟨x', hx', rfl⟩ := List.mem_map.mp hd'
        exact hal _ (hmem x hx) _ (hmem x' hx')
      · obtain ⟨x, hx, rfl⟩ := List.mem_map.mp hb
        exact (tupC_ok (hc _ (hmem x hx))).2.2
      · obtain ⟨x, hx, rfl⟩ := List.mem_map.mp hb
        exact (tupC_ok (hc _ (hmem x hx))).2.1
      · have e1 : ((us.zip ds0).map fun x => (x.1, toPy x.2)).mergeSort (PySem.W.dataLe false (·.2)) = ((us.zip ds0).mergeSort (PySem.W.dataLe false fun x => toPy x.2)).map fun x => (x.1, toPy x.2) :=
          (PySem.W.sort_maps (f := fun x : V × D => (x.1, toPy x.2)) (r := PySem.W.dataLe false fun x => toPy x.2) (s := PySem.W.dataLe false (·.2)) fun a _ b _ => rfl).symm
        have e2 : ds0.mergeSort (PySem.W.dataLe false toPy) = ((us.zip ds0).mergeSort (PySem.W.dataLe false fun x => toPy x.2)).map (·.2) := by
          conv => lhs; rw [← ed]
          exact (PySem.W.sort_maps (f := fun x : V × D => x.2) (r := PySem.W.dataLe false fun x => toPy x.2) (s := PySem.W.dataLe false toPy) fun a _ b _ => rfl).symm
        rw [e2] at h
        rw [e1, List.map_map]
        exact h.lst r (repds_pairs fun x hx => hz x (List.mem_mergeSort.mp hx)) p' hp
  · rename_i ks ds0
    cases hv with | cons h1 t => cases t with | nil =>
    obtain ⟨p, kvs, rfl, q, hk, h2⟩ := h1
    cases e0 : intsK ks with
    | some bs =>
      rw [e0] at e
      simp only [Option.map_some, Option.some_or, Option.some.injEq] at e
      subst e
      rw [intsK_ok e0] at hk
      refine .inl (.inr ⟨p, kvs, bs, rfl, q, hk, fun ns' p' pm up hp => ?_⟩)
      rw [sortI_only pm up]
      exact h.lst r RepDs.of_ints p' hp
    | none =>
      rw [e0] at e
      simp only [Option.map_none, Option.none_or] at e
      obtain ⟨bs, e', rfl⟩ := Option.map_eq_some_iff.mp e
      rw [strsK_ok e'] at hk
      exact .inr (.inl ⟨p, kvs, bs, rfl, q, hk, fun p' hp => h.lst r rep_strs p' hp⟩)
  · rename_i ks ds0
    split at e
    case isFalse => cases e
    rename_i hk0
    cases e
    cases hv with | cons h1 t => cases t with | nil =>
    obtain ⟨p, kvs, rfl, q, rfl, h2⟩ := h1
    simp only [keysB, Bool.and_eq_true, List.all_eq_true] at hk0
    refine .inr (.inr (.inl ⟨p, kvs, rfl, q, ?_, ?_, fun p' bs hb1 hb2 hp => ?_⟩))
    · intro d hd d' hd'
      obtain ⟨k, hk, rfl⟩ := List.mem_map.mp hd
      obtain ⟨k', hk', rfl⟩ := List.mem_map.mp hd'
      exact hk0.1 k hk k' hk'
    · intro k hk e
      subst e
      have := hk0.2 _ hk
      simp at this
    · obtain ⟨g', l, r', hG⟩ := r.adopt_all hb2
      rw [← hb1] at h
      exact PD.lst r' (fun g'' H'' v l'' => h g'' H'' v (l.trans l'')) (rep_tups hG) p' hp
  · cases e
theorem meRun0_ok (r : Rel K fa g H S) {m : Me} {x : V} {a z : D} {Q : VK} (hx : Sh K fa g.G H x a) (e : meRun0 m a = some z) (h : PD K fa g S Q z) : (∃ a, x = .str a) ∧ rMe m x [] H Q := by
  unfold meRun0 at e
  split at e
  all_goals first
    | (cases e
       obtain rfl : _ = _ := hx
       exact ⟨⟨_, rfl⟩, _, rfl, rfl, trivial, h.bl r⟩)
    | cases e
theorem meRun1_ok (r : Rel K fa g H S) {m : Me} {x y : V} {a b z : D} {Q : VK} (hx : Sh K fa g.G H x a) (hy : Sh K fa g.G H y b) (e : meRun1 m a b = some z) (h : PD K fa g S Q z) : rMe m x [y] H Q := by
  unfold meRun1 at e
  split at e
  · cases e
    obtain rfl : _ = _ := hx
    obtain rfl : _ = _ := hy
    exact ⟨_, _, rfl, rfl, h.bl r⟩
  · cases e
theorem meRun1_str {m : Me} {x : V} {a b z : D} (hx : Sh K fa g.G H x a) (e : meRun1 m a b = some z) : ∃ s, x = .str s := by
  unfold meRun1 at e
  split at e
  · exact ⟨_, hx⟩
  · cases e
theorem ty_ok {x : V} : ∀ {a : D} {t : String}, Sh K fa g.G H x a → tyD a = some t → TyX K H x (.type t)
  | .non, _, h, e => by cases e; obtain rfl : x = _ := h; exact .base .non
  | .bl _, _, h, e => by cases e; obtain rfl : x = _ := h; exact .base (.bl _)
  | .int _, _, h, e => by cases e; obtain rfl : x = _ := h; exact .base (.int _)
  | .str _, _, h, e => by cases e; obtain rfl : x = _ := h; exact .base (.str _)
  | .tup _, _, h, e => by
    cases e
    obtain ⟨p, us, rfl, q, h2⟩ := h
    rcases q with (q | ⟨o, q⟩) | ⟨o, _, _, q, c, _⟩
    · exact .base (.tup q)
    · exact .fTuple q
    · exact .kTuple q c
  | .lst _, _, h, e => by
    cases e
    obtain ⟨p, us, rfl, q, h2⟩ := h
    exact .base (.lst q)
  | .dK _ _, _, h, e => by
    cases e
    obtain ⟨p, us, rfl, q, h2⟩ := h
    rcases q with q | ⟨o, q⟩
    · exact .base (.dK q)
    · exact .fDict q
  | .dT _ _, _, _, e | .fn _, _, _, e | .scr _, _, _, e => by cases e
theorem isi1_ok {x : V} {a : D} {t : String} {z : Bool} {Q : VK} (hx : Sh K fa g.G H x a) (e : isi1 a t = some z) (h : Q (.bl z) H) : rIsi K [x, .ty t] H Q := by
  unfold isi1 at e
  obtain ⟨k, e1, e2⟩ := Option.bind_eq_some_iff.mp e
  exact ⟨x, .ty t, _, _, z, rfl, .ty t, ty_ok hx e1, kit_ty e2, h⟩
theorem isi2_ok {x : V} {a : D} {t u : String} {z : Bool} {Q : VK} {tp : Addr} (hx : Sh K fa g.G H x a) (hp : H tp = some (.tup [.ty t, .ty u])) (e : isi2 a t u = some z) (h : Q (.bl z) H) : rIsiT K [x, .ref tp] H Q := by
  unfold isi2 at e
  split at e
  · rename_i e0
    cases e
    unfold isi1 at e0
    obtain ⟨k, e1, e2⟩ := Option.bind_eq_some_iff.mp e0
    exact ⟨x, tp, _, _, [.type t, .type u], true, rfl, hp, .cons (.ty t) (.cons (.ty u) .nil), ty_ok hx e1, kitAny_cons (kit_ty e2) (fun z => nomatch z) fun _ => rfl, h⟩
  · rename_i e0
    unfold isi1 at e0 e
    obtain ⟨k, e1, e2⟩ := Option.bind_eq_some_iff.mp e0
    obtain ⟨k', e3, e4⟩ := Option.bind_eq_some_iff.mp e
    rw [e1] at e3; cases e3
    refine ⟨x, tp, _, _, [.type t, .type u], z, rfl, hp, .cons (.ty t) (.cons (.ty u) .nil), ty_ok hx e1, kitAny_cons (kit_ty e2) (fun _ => kitAny_cons (kit_ty e4) (fun hz => ?_) fun hz => hz) (fun z => nomatch z), h⟩
    rw [hz]; exact kitAny_nil
  · cases e
theorem RepDs.atI {G : Hp} {ds : List D} {vs : List V} {i : Int} {d : D} (h : RepDs K fa G vs ds) (e : L2.atI ds i = some d) : ∃ v, L2.atI vs i = some v ∧ RepD K fa G v d := by
  unfold L2.atI at e ⊢
  rw [h.length]
  obtain ⟨j, e1, e2⟩ := Option.bind_eq_some_iff.mp e
  obtain ⟨v, q1, q2⟩ := h.get e2
  exact ⟨v, by rw [e1]; exact q1, q2⟩
theorem ixRun_ok (r : Rel K fa g H S) {x y : V} {a b z : D} {Q : VK} (hx : Sh K fa g.G H x a) (hy : Sh K fa g.G H y b) (e : ixRun a b = some z) (h : PD K fa g S Q z) : rIx K x y H Q := by
  unfold ixRun at e
  split at e
  · obtain ⟨p, us, rfl, q, h2⟩ := hx
    obtain rfl : _ = _ := hy
    obtain ⟨v, e1, e2⟩ := h2.atI e
    exact .inl ⟨p, us, _, v, rfl, rfl, .of q, e1, h.at r e2⟩
  · obtain ⟨p, us, rfl, q, h2, _⟩ := hx
    obtain rfl : _ = _ := hy
    obtain ⟨v, e1, e2⟩ := h2.atI e
    exact .inr (.inl ⟨p, us, _, v, rfl, rfl, q, e1, h.at r e2⟩)
  · split at e
    · obtain rfl : _ = _ := hx
      obtain rfl : _ = _ := hy
      obtain ⟨c, e1, rfl⟩ := Option.map_eq_some_iff.mp e
      exact .inr (.inr ⟨_, _, c, rfl, rfl, ‹_›, e1, h.str r⟩)
    · cases e
  · cases e
theorem RepDs.cut {G : Hp} {ds : List D} {vs : List V} (h : RepDs K fa G vs ds) (lo hi : Option Int) : RepDs K fa G (cutV vs lo hi) (cutD ds lo hi) := by
  unfold cutV cutD
  rw [h.length]
  exact (h.drop _).take _
theorem slRun_ok (r : Rel K fa g H S) {x : V} {a z : D} {lo hi : Option Int} {Q : VK} (hx : Sh K fa g.G H x a) (e : slRun a lo hi = some z) (h : PD K fa g S Q z) : rSl K x lo hi H Q := by
  unfold slRun at e
  split at e
  · cases e
    obtain ⟨p, us, rfl, q, h2⟩ := hx
    exact .inl ⟨p, us, rfl, .of q, h.lst r (h2.cut lo hi)⟩
  · cases e
    obtain ⟨p, us, rfl, q, h2, h3⟩ := hx
    rename_i ds
    refine .inr (.inl ⟨p, us, rfl, q, fun w => ?_, fun _ => h.tup r (h2.cut lo hi)⟩)
    have e : cutD ds lo hi = ds := by
      unfold cutD
      rw [h2.length] at w
      rw [w.1, w.2]
      simp
    rw [e] at h
    exact h.at r h3
  · split at e
    · cases e
      obtain rfl : _ = _ := hx
      exact .inr (.inr ⟨_, rfl, ‹_›, h.str r⟩)
    · cases e
  · cases e
    obtain ⟨p, rfl, q⟩ := hx
    exact .inl ⟨p, _, rfl, q, h.lst r (RepDs.of_ints.cut lo hi)⟩
  · cases e
end
end Pv

set_option Elab.async false
set_option linter.all false
set_option maxRecDepth 100000
set_option maxHeartbeats 4000000
namespace Pv
open PySem L2

section
variable {K : PySem.W.Frag} {fa : FA} {g g' : Gh} {H H' : Hp} {S : Store} {σ : L2.St} {ρ : En}
theorem RepEn.set (h : RepEn K fa g σ ρ) {i : Nat} {v : V} {w : W} (hw : RepW K fa g v w) : RepEn K fa g (σ.set i (some v)) (ρ.set i (some w)) := by
  refine ⟨by simpa using h.1, fun j w' e => ?_⟩
  by_cases hj : j = i
  · subst hj
    by_cases hl : j < ρ.length
    · rw [List.getElem?_set_self hl] at e
      cases e
      exact ⟨v, by rw [List.getElem?_set_self (by rw [h.1]; exact hl)], hw⟩
    · rw [List.getElem?_eq_none (by simpa using hl)] at e; cases e
  · rw [List.getElem?_set_ne (Ne.symm hj)] at e
    obtain ⟨v', a, b⟩ := h.2 j w' e
    exact ⟨v', by rw [List.getElem?_set_ne (Ne.symm hj)]; exact a, b⟩
theorem RepEn.wipe (h : RepEn K fa g σ ρ) : ∀ vs : List Nat, RepEn K fa g (L2.wipe σ vs) (wipeE ρ vs)
  | [] => h
  | v :: vs => by
    have ih := h.wipe vs
    unfold L2.wipe wipeE
    refine ⟨by simpa using ih.1, fun j w' e => ?_⟩
    by_cases hj : j = v
    · subst hj
      by_cases hl : j < (wipeE ρ vs).length
      · rw [List.getElem?_set_self hl] at e; cases e
      · rw [List.getElem?_eq_none (by simpa using hl)] at e; cases e
    · rw [List.getElem?_set_ne (Ne.symm hj)] at e
      rw [List.getElem?_set_ne (Ne.symm hj)]
      exact ih.2 j w' e
theorem wipe_get (σ : L2.St) (vs : List Nat) (j : Nat) : (L2.wipe σ vs)[j]? = if j ∈ vs then (if j < σ.length then some none else none) else σ[j]? := by
  induction vs with
  | nil => simp [L2.wipe]
  | cons v vs ih =>
    unfold L2.wipe
    by_cases hj : j = v
    · subst hj
      rw [if_pos List.mem_cons_self]
      by_cases hl : j < σ.length
      · rw [if_pos hl, List.getElem?_set_self (by rw [L2.wipe_length]; exact hl)]
      · rw [if_neg hl, List.getElem?_eq_none (by rw [List.length_set, L2.wipe_length]; omega)]
    · rw [List.getElem?_set_ne (Ne.symm hj), ih]
      by_cases hm : j ∈ vs
      · rw [if_pos hm, if_pos (List.mem_cons_of_mem _ hm)]
      · rw [if_neg hm, if_neg]
        intro z
        rcases List.mem_cons.mp z with z | z
        · exact hj z
        · exact hm z
theorem wipe_set {σ : L2.St} {vs : List Nat} {i : Nat} {x : Option V} (h : i ∈ vs) : L2.wipe (σ.set i x) vs = L2.wipe σ vs := by
  apply List.ext_getElem?
  intro j
  rw [wipe_get, wipe_get, List.length_set]
  by_cases hj : j ∈ vs
  · rw [if_pos hj, if_pos hj]
  · rw [if_neg hj, if_neg hj, List.getElem?_set_ne]
    rintro rfl
    exact hj h
theorem wipe_wipe {σ : L2.St} {vs : List Nat} : L2.wipe (L2.wipe σ vs) vs = L2.wipe σ vs := by
  apply List.ext_getElem?
  intro j
  rw [wipe_get, wipe_get, L2.wipe_length]
  by_cases hj : j ∈ vs
  · rw [if_pos hj, if_pos hj]
  · rw [if_neg hj, if_neg hj]
theorem asgns_len : ∀ {tg : Tg} {ds : List D} {ρ ρ' : En}, asgns tg ds ρ = some ρ' → ds.length = tgLen tg
  | .tnil, ds, _, _, e => by cases ds <;> simp [asgns, tgLen] at e ⊢
  | .tcons a r, ds, _, _, e => by
    cases ds with
    | nil => simp [asgns] at e
    | cons d ds =>
      simp only [asgns] at e
      obtain ⟨ρ1, e1, e2⟩ := Option.bind_eq_some_iff.mp e
      simp only [tgLen, List.length_cons, asgns_len e2]
  | .name _, ds, _, _, e => by cases ds <;> simp [asgns] at e
  | .tup _, ds, _, _, e => by cases ds <;> simp [asgns] at e
mutual
theorem tg_ok (r : Rel K fa g H S) : ∀ {tg : Tg} {d : D} {v : V} {σ : L2.St} {ρ ρ' : En} {Q : L2.St → Hp → Prop}, asgn tg d ρ = some ρ' → RepD K fa g.G v d → RepEn K fa g σ ρ →
    (∀ σ', RepEn K fa g σ' ρ' → (∀ vs, tgIn tg vs = true → L2.wipe σ' vs = L2.wipe σ vs) → Q σ' H) → tTg K tg v σ H Q
  | .name i, d, v, σ, ρ, ρ', Q, e, hv, hσ, k => by
    simp only [asgn] at e
    split at e
    · cases e
      exact k _ (hσ.set hv) fun vs h => wipe_set (by simpa [tgIn] using h)
    · cases e
  | .tup ts, d, v, σ, ρ, ρ', Q, e, hv, hσ, k => by
    cases d with
    | tup ds =>
      simp only [asgn] at e
      simp only [RepD] at hv
      obtain ⟨a, us, rfl, q, h2⟩ := hv
      exact ⟨a, us, rfl, .inl (r.sqT q), h2.length.trans (asgns_len e), tgs_ok r e h2 hσ fun σ' h1 h2 => k σ' h1 fun vs h => h2 vs (by simpa [tgIn] using h)⟩
    | lst ds =>
      simp only [asgn] at e
      simp only [RepD] at hv
      obtain ⟨a, us, rfl, q, h2⟩ := hv
      exact ⟨a, us, rfl, .inr (.of (r.lst q)), h2.length.trans (asgns_len e), tgs_ok r e h2 hσ fun σ' h1 h2 => k σ' h1 fun vs h => h2 vs (by simpa [tgIn] using h)⟩
    | _ => simp [asgn] at e
  | .tnil, d, _, _, _, _, _, e, _, _, _ => by cases d <;> simp [asgn] at e
  | .tcons _ _, d, _, _, _, _, _, e, _, _, _ => by cases d <;> simp [asgn] at e
theorem tgs_ok (r : Rel K fa g H S) : ∀ {tg : Tg} {ds : List D} {us : List V} {σ : L2.St} {ρ ρ' : En} {Q : L2.St → Hp → Prop}, asgns tg ds ρ = some ρ' → RepDs K fa g.G us ds → RepEn K fa g σ ρ →
    (∀ σ', RepEn K fa g σ' ρ' → (∀ vs, tgsIn tg vs = true → L2.wipe σ' vs = L2.wipe σ vs) → Q σ' H) → tTg.go K tg us σ H Q
  | .tnil, ds, us, σ, ρ, ρ', Q, e, hv, hσ, k => by
    cases ds with
    | nil =>
      simp only [asgns] at e
      cases e
      simp only [RepDs] at hv
      exact ⟨hv, k σ hσ fun _ _ => rfl⟩
    | cons _ _ => simp [asgns] at e
  | .tcons a t, ds, us, σ, ρ, ρ', Q, e, hv, hσ, k => by
    cases ds with
    | nil => simp [asgns] at e
    | cons d ds =>
      simp only [asgns] at e
      obtain ⟨ρ1, e1, e2⟩ := Option.bind_eq_some_iff.mp e
      simp only [RepDs] at hv
      obtain ⟨v, us', rfl, h1, h2⟩ := hv
      exact ⟨v, us', rfl, tg_ok r e1 h1 hσ fun σ1 q1 w1 => tgs_ok r e2 h2 q1 fun σ2 q2 w2 => k σ2 q2 fun vs h => by
        simp only [tgsIn, Bool.and_eq_true] at h
        exact (w2 vs h.2).trans (w1 vs h.1)⟩
  | .name _, ds, _, _, _, _, _, e, _, _, _ => by cases ds <;> simp [asgns] at e
  | .tup _, ds, _, _, _, _, _, e, _, _, _ => by cases ds <;> simp [asgns] at e
end

def Src (K : PySem.W.Frag) (fa : FA) (g : Gh) (J : L2.It) (ds : List D) : Prop :=
  ∀ (i : Nat) (g' : Gh) (H : Hp) (S : Store), GLe g.G g'.G → Rel K fa g' H S →
    (∀ d, ds[i]? = some d → J.go i H ∧ ∀ x H', J.yld i H x H' → ∃ g'', g'.le g'' ∧ Rel K fa g'' H' S ∧ RepD K fa g''.G x d) ∧ (i = ds.length → J.stop i H)
def SrcF (K : PySem.W.Frag) (fa : FA) (g : Gh) (J : L2.It) (ds : List D) : Prop :=
  ∀ (i : Nat) (g' : Gh) (H : Hp) (S : Store), GLe g.G g'.G → (∀ a u, g.F a = some u → g'.F a = some u) → Rel K fa g' H S →
    (∀ d, ds[i]? = some d → J.go i H ∧ ∀ x H', J.yld i H x H' → ∃ g'', g'.le g'' ∧ Rel K fa g'' H' S ∧ RepD K fa g''.G x d) ∧ (i = ds.length → J.stop i H)
theorem Src.F {J : L2.It} {ds : List D} (h : Src K fa g J ds) : SrcF K fa g J ds := fun i g' H S l _ r => h i g' H S l r
theorem rep_key {G : Hp} (k : Key) : RepD K fa G (kV k) (keyD k) := by cases k <;> simp [RepD, kV, keyD]
theorem src_keys {d : Addr} {o : Obj} {kvs : List (Key × V)} (hd : g.F d = some (.frz o (.dK kvs))) : SrcF K fa g (Itk d o kvs) ((kvs.map (·.1)).map keyD) := fun i g' H S l lF r => by
  have h := (r.frm d _ (lF d _ hd)).1
  refine ⟨fun x e => ?_, fun hi => ⟨h, by rw [hi]; simp⟩⟩
  rw [List.getElem?_map, List.getElem?_map] at e
  cases hk : kvs[i]? with
  | none => rw [hk] at e; cases e
  | some p =>
    rw [hk] at e
    cases e
    refine ⟨⟨h, (List.getElem?_eq_some_iff.mp hk).1⟩, fun x H' y => ?_⟩
    obtain ⟨rfl, k, v, hk2, rfl⟩ := y
    rw [hk] at hk2; cases hk2
    exact ⟨g', .refl g', r, rep_key k⟩
theorem src_list {a : Addr} {vs : List V} {ds : List D} (q : g.G a = some (.lst vs)) (h : RepDs K fa g.G vs ds) : Src K fa g (Itl K a) ds := fun i g' H S l r => by
  have hs : SqL K H a vs := .of (r.lst (l _ _ q))
  refine ⟨fun d e => ?_, fun hi => ⟨vs, hs, by rw [h.length]; omega⟩⟩
  obtain ⟨v, e1, e2⟩ := h.get e
  refine ⟨⟨vs, v, hs, e1⟩, fun x H' y => ?_⟩
  obtain ⟨rfl, y2⟩ := y
  have := y2 vs hs
  rw [e1] at this; cases this
  exact ⟨g', .refl g', r, RepD.mono l e2⟩
theorem src_tup {a : Addr} {vs : List V} {ds : List D} (q : g.G a = some (.tup vs) ∨ False) (h : RepDs K fa g.G vs ds) : Src K fa g (Itt K a) ds := fun i g' H S l r => by
  have hs : SqT K H a vs := r.sqT (q.imp (l _ _) id)
  refine ⟨fun d e => ?_, fun hi => ⟨vs, hs, by rw [h.length]; omega⟩⟩
  obtain ⟨v, e1, e2⟩ := h.get e
  refine ⟨⟨vs, v, hs, e1⟩, fun x H' y => ?_⟩
  obtain ⟨rfl, y2⟩ := y
  have := y2 vs hs
  rw [e1] at this; cases this
  exact ⟨g', .refl g', r, RepD.mono l e2⟩
theorem rangeD_get : ∀ {n : Nat} {lo : Int} {i : Nat} {d : D}, (rangeD lo n)[i]? = some d → i < n ∧ d = .int (lo + i)
  | 0, _, _, _, e => by simp [rangeD] at e
  | n + 1, lo, 0, d, e => by
    simp [rangeD] at e
    exact ⟨Nat.succ_pos _, by rw [← e]; simp⟩
  | n + 1, lo, i + 1, d, e => by
    obtain ⟨h1, h2⟩ := rangeD_get (n := n) (lo := lo + 1) (i := i) (d := d) (by simpa [rangeD] using e)
    exact ⟨by omega, by rw [h2]; congr 1; omega⟩
theorem rangeD_length : ∀ (n : Nat) (lo : Int), (rangeD lo n).length = n
  | 0, _ => rfl
  | n + 1, lo => by simp [rangeD, rangeD_length n]
theorem src_range (lo : Int) (n : Nat) : Src K fa g (Itr lo n) (rangeD lo n) := fun i g' H S l r => by
  refine ⟨fun d e => ?_, fun hi => by rw [rangeD_length] at hi; show _ ≤ _; omega⟩
  obtain ⟨h1, rfl⟩ := rangeD_get e
  refine ⟨h1, fun x H' y => ?_⟩
  obtain ⟨rfl, rfl⟩ := y
  exact ⟨g', .refl g', r, by simp only [RepD]⟩
theorem src_str (y : Str) : Src K fa g (Its y) (y.cps.toList.map fun c => D.str ⟨#[c]⟩) := fun i g' H S l r => by
  refine ⟨fun d e => ?_, fun hi => by show y.cps.size ≤ i; simp at hi; omega⟩
  rw [List.getElem?_map] at e
  obtain ⟨c, e1, rfl⟩ := Option.map_eq_some_iff.mp e
  have e2 : y.cps[i]? = some c := by simpa using e1
  refine ⟨(Array.getElem?_eq_some_iff.mp e2).1, fun x H' q => ?_⟩
  obtain ⟨rfl, c', e3, rfl⟩ := q
  rw [e2] at e3; cases e3
  exact ⟨g', .refl g', r, by simp only [RepD]⟩
theorem zipD_get : ∀ {as bs : List D} {i : Nat} {d : D}, (zipD as bs)[i]? = some d → ∃ a b, as[i]? = some a ∧ bs[i]? = some b ∧ d = .tup [a, b]
  | [], bs, i, d, e => by simp [zipD] at e
  | a :: as, [], i, d, e => by simp [zipD] at e
  | a :: as, b :: bs, 0, d, e => by
    simp [zipD] at e
    exact ⟨a, b, rfl, rfl, e.symm⟩
  | a :: as, b :: bs, i + 1, d, e => by
    obtain ⟨x, y, h1, h2, h3⟩ := zipD_get (as := as) (bs := bs) (i := i) (d := d) (by simpa [zipD] using e)
    exact ⟨x, y, by simpa using h1, by simpa using h2, h3⟩
theorem zipD_length : ∀ (as bs : List D), (zipD as bs).length = min as.length bs.length
  | [], bs => by simp [zipD]
  | a :: as, [] => by simp [zipD]
  | a :: as, b :: bs => by simp [zipD, zipD_length as bs]
def KnX (K : PySem.W.Frag) (k : Bool) (G : Hp) (a : Addr) (vs : List V) : Prop := cond k (G a = some (.tup vs) ∨ False) (G a = some (.lst vs))
theorem KnX.sq {k : Bool} {a : Addr} {vs : List V} (r : Rel K fa g H S) (h : KnX K k g.G a vs) : PvR.SqX k K H a vs := by
  cases k with
  | true => exact r.sqT h
  | false => exact .of (r.lst h)
theorem KnX.mono {k : Bool} {G G' : Hp} {a : Addr} {vs : List V} (l : GLe G G') (h : KnX K k G a vs) : KnX K k G' a vs := by
  cases k with
  | true => exact Or.imp (l _ _) id h
  | false => exact l _ _ h
theorem seqOf_ok {w : W} {ds : List D} {v : V} (e : seqOf w = some ds) (h : RepW K fa g v w) : ∃ k a vs, v = .ref a ∧ KnX K k g.G a vs ∧ RepDs K fa g.G vs ds := by
  unfold seqOf at e
  split at e
  · cases e
    simp only [RepW, RepD] at h
    obtain ⟨a, vs, e, q, h⟩ := h
    exact ⟨false, a, vs, e, q, h⟩
  · cases e
    simp only [RepW, RepD] at h
    obtain ⟨a, vs, e, q, h⟩ := h
    exact ⟨true, a, vs, e, q, h⟩
  · cases e
theorem src_zip {k1 k2 : Bool} {a b : Addr} {vs us : List V} {ds es : List D} (q : KnX K k1 g.G a vs) (h : RepDs K fa g.G vs ds) (q' : KnX K k2 g.G b us) (h' : RepDs K fa g.G us es) : Src K fa g (PvR.ItzX K k1 k2 a b) (zipD ds es) := fun i g' H S l r => by
  have hs : PvR.SqX k1 K H a vs := (q.mono l).sq r
  have hs' : PvR.SqX k2 K H b us := (q'.mono l).sq r
  have e1 := h.length
  have e2 := h'.length
  refine ⟨fun d e => ?_, fun hi => ⟨vs, us, hs, hs', by rw [zipD_length] at hi; omega, by rw [zipD_length] at hi; omega, by rw [zipD_length] at hi; omega⟩⟩
  obtain ⟨x, y, e1, e2, rfl⟩ := zipD_get e
  obtain ⟨v, f1, f2⟩ := h.get e1
  obtain ⟨u, k1, k2⟩ := h'.get e2
  refine ⟨⟨vs, us, v, u, hs, hs', f1, k1⟩, fun z H' y => ?_⟩
  obtain ⟨T, v', u', rfl, hT, rfl, y1, y2⟩ := y
  have e3 := y1 vs hs
  have e4 := y2 us hs'
  rw [f1] at e3; cases e3
  rw [k1] at e4; cases e4
  have lt := Gh.le_add (g := g') (p := T) (o := HO.tup [v, u]) (r.fresh hT)
  refine ⟨_, lt, r.add hT, ?_⟩
  simp only [RepD]
  exact ⟨T, _, rfl, .inl upd_same, RepDs.cons (RepD.mono lt.G (RepD.mono l f2)) (RepDs.cons (RepD.mono lt.G (RepD.mono l k2)) RepDs.nil)⟩

inductive RWs (K : PySem.W.Frag) (fa : FA) (g : Gh) : List V → List W → Prop
  | nil : RWs K fa g [] []
  | cons {v : V} {vs : List V} {w : W} {ws : List W} : RepW K fa g v w → RWs K fa g vs ws → RWs K fa g (v :: vs) (w :: ws)
theorem RWs.mono (l : g.le g') : ∀ {vs : List V} {ws : List W}, RWs K fa g vs ws → RWs K fa g' vs ws
  | _, _, .nil => .nil
  | _, _, .cons h t => .cons (RepW.mono l h) (RWs.mono l t)
theorem RWs.length : ∀ {vs : List V} {ws : List W}, RWs K fa g vs ws → vs.length = ws.length
  | _, _, .nil => rfl
  | _, _, .cons h t => by simp [RWs.length t]
theorem RWs.sh (r : Rel K fa g H S) : ∀ {vs : List V} {ws : List W} {ds : List D}, RWs K fa g vs ws → (ws.mapM fun w => rdW w S) = some ds → Shs K fa g.G H vs ds
  | _, _, _, .nil, e => by simp at e; subst e; exact .nil
  | _, _, _, .cons h t, e => by
    rw [List.mapM_cons] at e
    obtain ⟨d, e1, e2⟩ := Option.bind_eq_some_iff.mp e
    obtain ⟨ds, e3, e4⟩ := Option.bind_eq_some_iff.mp e2
    cases e4
    exact .cons (r.shW h e1) (RWs.sh r t e3)
theorem RWs.get : ∀ {vs : List V} {ws : List W} {i : Nat} {w : W}, RWs K fa g vs ws → ws[i]? = some w → ∃ v, vs[i]? = some v ∧ RepW K fa g v w
  | _, _, _, _, .nil, e => by simp at e
  | _, _, 0, _, .cons h t, e => by simp at e; subst e; exact ⟨_, rfl, h⟩
  | _, _, i + 1, _, .cons h t, e => by
    obtain ⟨v, a, b⟩ := RWs.get (i := i) t (by simpa using e)
    exact ⟨v, by simpa using a, b⟩
def PX (K : PySem.W.Frag) (fa : FA) (C : Addr) (g : Gh) (S : Store) (E : XK) (v : D) : Prop :=
  ∀ g' H' dd vv, g.le g' → Rel K fa g' H' S → H' dd = some (.xd [(("at" : Str), vv)]) → RepD K fa g'.G vv v → E (.ref C) (some dd) H'
def spC (K : PySem.W.Frag) (fa : FA) (C : Addr) (c : Call) (f : Nat) : Sp := fun vs H Q E => ∃ g S ws, Rel K fa g H S ∧ RWs K fa g vs ws ∧
  ((∃ d S', c f ws S = some (d, S') ∧ PD K fa g S' Q d) ∨ ∃ v S', c.x f ws S = some (v, S') ∧ PX K fa C g S' E v)
end

section
variable {K : PySem.W.Frag} {fa : FA} {C : Addr} {c : Call} {tb : Nat → Prop} (htb : ∀ f ws S r, c f ws S = some r → tb f)
abbrev PWs (K : PySem.W.Frag) (fa : FA) (g : Gh) (S : Store) (Q : VK) (w : W) : Prop := ∀ g' H' v, g.le g' → Rel K fa g' H' S → RepW K fa g' v w → Q v H'
def OkE (K : PySem.W.Frag) (fa : FA) (C : Addr) (c : Call) (tb : Nat → Prop) (e : E) : Prop := ∀ ρ S w S', evE c e ρ S = some (w, S') → ∀ g σ H, Rel K fa g H S → RepEn K fa g σ ρ → ∀ Q : VK, PWs K fa g S' Q w → tE K fa (spC K fa C c) tb e σ H Q
def OkT (K : PySem.W.Frag) (fa : FA) (C : Addr) (c : Call) (tb : Nat → Prop) (e : T) : Prop := ∀ ρ S w S', evT c e ρ S = some (w, S') → ∀ g σ H, Rel K fa g H S → RepEn K fa g σ ρ → ∀ Q : Bool → Hp → Prop, (∀ g' H', g.le g' → Rel K fa g' H' S' → Q w H') → tT K fa (spC K fa C c) tb e σ H Q
def OkEs (K : PySem.W.Frag) (fa : FA) (C : Addr) (c : Call) (tb : Nat → Prop) (e : Es) : Prop := ∀ ρ S w S', evEs c e ρ S = some (w, S') → ∀ g σ H, Rel K fa g H S → RepEn K fa g σ ρ → ∀ Q : List V → Hp → Prop, (∀ g' H' vs, g.le g' → Rel K fa g' H' S' → RWs K fa g' vs w → Q vs H') → tEs K fa (spC K fa C c) tb e σ H Q
def OkZ (K : PySem.W.Frag) (fa : FA) (C : Addr) (c : Call) (tb : Nat → Prop) (e : Es) : Prop := ∀ ρ S w S', evZ c e ρ S = some (w, S') → ∀ g σ H, Rel K fa g H S → RepEn K fa g σ ρ → ∀ Q : List V → Hp → Prop, (∀ g' H' vs, g.le g' → Rel K fa g' H' S' → RepDs K fa g'.G vs w → Q vs H') → tEs K fa (spC K fa C c) tb e σ H Q
def OkO (K : PySem.W.Frag) (fa : FA) (C : Addr) (c : Call) (tb : Nat → Prop) (e : Eo) : Prop := ∀ ρ S w S', evO c e ρ S = some (w, S') → ∀ g σ H, Rel K fa g H S → RepEn K fa g σ ρ → ∀ Q : Option Int → Hp → Prop, (∀ g' H', g.le g' → Rel K fa g' H' S' → Q w H') → tO K fa (spC K fa C c) tb e σ H Q
def OkI (K : PySem.W.Frag) (fa : FA) (C : Addr) (c : Call) (tb : Nat → Prop) (e : It) : Prop := ∀ ρ S ds S', evI c e ρ S = some (ds, S') → ∀ g σ H, Rel K fa g H S → RepEn K fa g σ ρ → ∀ R : L2.It → Hp → Prop, (∀ g' H' J, g.le g' → Rel K fa g' H' S' → Src K fa g' J ds → R J H') → tI K fa (spC K fa C c) tb e σ H R
def OkTo (K : PySem.W.Frag) (fa : FA) (C : Addr) (c : Call) (tb : Nat → Prop) : To → Prop
  | .none => True
  | .some t => OkT K fa C c tb t

theorem ok_bin {o : BOp} {a b : E} (ha : OkE K fa C c tb a) (hb : OkE K fa C c tb b) : OkE K fa C c tb (.bin o a b) := fun ρ S w S' e g σ H r hσ Q k => by
  simp only [evE] at e
  obtain ⟨⟨x, S1⟩, e1, e⟩ := Option.bind_eq_some_iff.mp e
  obtain ⟨⟨y, S2⟩, e2, e⟩ := Option.bind_eq_some_iff.mp e
  obtain ⟨x', e3, e⟩ := Option.bind_eq_some_iff.mp e
  obtain ⟨y', e4, e⟩ := Option.bind_eq_some_iff.mp e
  obtain ⟨z, e5, e⟩ := Option.map_eq_some_iff.mp e
  cases e
  refine ha _ _ _ _ e1 g σ H r hσ _ fun g1 H1 v l1 r1 h1 => hb _ _ _ _ e2 g1 σ H1 r1 (hσ.mono l1) _ fun g2 H2 u l2 r2 h2 => ?_
  exact bRun_ok r2 (r2.shW (RepW.mono l2 h1) e3) (r2.shW h2 e4) e5 fun g3 H3 v3 l3 r3 h3 => k g3 H3 v3 (l1.trans (l2.trans l3)) r3 h3
theorem ok_cmp {o : COp} {a b : E} (ha : OkE K fa C c tb a) (hb : OkE K fa C c tb b) : OkE K fa C c tb (.cmp o a b) := fun ρ S w S' e g σ H r hσ Q k => by
  simp only [evE] at e
  obtain ⟨⟨x, S1⟩, e1, e⟩ := Option.bind_eq_some_iff.mp e
  obtain ⟨⟨y, S2⟩, e2, e⟩ := Option.bind_eq_some_iff.mp e
  obtain ⟨x', e3, e⟩ := Option.bind_eq_some_iff.mp e
  obtain ⟨y', e4, e⟩ := Option.bind_eq_some_iff.mp e
  obtain ⟨z, e5, e⟩ := Option.map_eq_some_iff.mp e
  cases e
  refine ha _ _ _ _ e1 g σ H r hσ _ fun g1 H1 v l1 r1 h1 => hb _ _ _ _ e2 g1 σ H1 r1 (hσ.mono l1) _ fun g2 H2 u l2 r2 h2 => ?_
  exact cRun_ok r2 (r2.shW (RepW.mono l2 h1) e3) (r2.shW h2 e4) e5 (k g2 H2 _ (l1.trans l2) r2 (by simp only [RepW, RepD]))
theorem ok_chain {o o' : COp} {a b q : E} (ha : OkE K fa C c tb a) (hb : OkE K fa C c tb b) (hq : OkE K fa C c tb q) : OkE K fa C c tb (.chain o o' a b q) := fun ρ S w S' e g σ H r hσ Q k => by
  simp only [evE] at e
  obtain ⟨⟨x, S1⟩, e1, e⟩ := Option.bind_eq_some_iff.mp e
  obtain ⟨⟨y, S2⟩, e2, e⟩ := Option.bind_eq_some_iff.mp e
  obtain ⟨x', e3, e⟩ := Option.bind_eq_some_iff.mp e
  obtain ⟨y', e4, e⟩ := Option.bind_eq_some_iff.mp e
  obtain ⟨z, e5, e⟩ := Option.bind_eq_some_iff.mp e
  refine ha _ _ _ _ e1 g σ H r hσ _ fun g1 H1 v l1 r1 h1 => hb _ _ _ _ e2 g1 σ H1 r1 (hσ.mono l1) _ fun g2 H2 u l2 r2 h2 => ?_
  refine cRun_ok r2 (r2.shW (RepW.mono l2 h1) e3) (r2.shW h2 e4) e5 ⟨z, rfl, ?_⟩
  cases z with
  | false =>
    cases e
    exact k g2 H2 _ (l1.trans l2) r2 (by simp only [RepW, RepD])
  | true =>
    obtain ⟨⟨t, S3⟩, e6, e⟩ := Option.bind_eq_some_iff.mp e
    obtain ⟨y'', e7, e⟩ := Option.bind_eq_some_iff.mp e
    obtain ⟨t', e8, e⟩ := Option.bind_eq_some_iff.mp e
    obtain ⟨z, e9, e⟩ := Option.map_eq_some_iff.mp e
    cases e
    refine hq _ _ _ _ e6 g2 σ H2 r2 ((hσ.mono l1).mono l2) _ fun g3 H3 v3 l3 r3 h3 => ?_
    exact cRun_ok r3 (r3.shW (RepW.mono l3 h2) e7) (r3.shW h3 e8) e9 (k g3 H3 _ (l1.trans (l2.trans l3)) r3 (by simp only [RepW, RepD]))
end
end Pv

set_option Elab.async false
set_option linter.all false
set_option maxRecDepth 100000
set_option maxHeartbeats 4000000
namespace Pv
open PySem L2

section
variable {K : PySem.W.Frag} {fa : FA} {C : Addr} {c : Call} {tb : Nat → Prop}
theorem vOf_rep {G : Hp} {d : D} (h : flatD d = true) : RepD K fa G (vOf d) d := by
  cases d <;> first
    | (simp [flatD] at h; done)
    | simp only [RepD, vOf]
theorem ok_var {i : Nat} : OkE K fa C c tb (.var i) := fun ρ S w S' e g σ H r hσ Q k => by
  simp only [evE] at e
  split at e
  · rename_i w' h
    cases e
    obtain ⟨v, h1, h2⟩ := hσ.2 i _ h
    exact ⟨v, h1, k g H v (.refl g) r h2⟩
  · cases e
theorem ok_cst {d : D} : OkE K fa C c tb (.cst d) := fun ρ S w S' e g σ H r hσ Q k => by
  simp only [evE] at e
  split at e
  · cases e
    exact k g H _ (.refl g) r (vOf_rep ‹_›)
  · cases e
theorem ok_fnv {f : Nat} : OkE K fa C c tb (.fnv f) := fun ρ S w S' e g σ H r hσ Q k => by
  simp only [evE] at e
  cases e
  exact k g H _ (.refl g) r (by simp only [RepW, RepD])
theorem ok_fz {a : E} (ha : OkE K fa C c tb a) : OkE K fa C c tb (.fz a) := fun ρ S w S' e g σ H r hσ Q k => by
  simp only [evE] at e
  obtain ⟨⟨x, S1⟩, e1, e⟩ := Option.bind_eq_some_iff.mp e
  obtain ⟨⟨d, S2⟩, e2, e⟩ := Option.map_eq_some_iff.mp e
  cases e
  refine ha _ _ _ _ e1 g σ H r hσ _ fun g1 H1 v l1 r1 h1 => ?_
  obtain ⟨g2, l2, r2, h2⟩ := r1.fz h1 e2
  exact k g2 H1 _ (l1.trans l2) r2 h2
theorem ok_neg {a : E} (ha : OkE K fa C c tb a) : OkE K fa C c tb (.neg a) := fun ρ S w S' e g σ H r hσ Q k => by
  simp only [evE] at e
  obtain ⟨⟨x, S1⟩, e1, e⟩ := Option.bind_eq_some_iff.mp e
  split at e
  · rename_i h
    cases e
    obtain rfl : x = _ := h
    refine ha _ _ _ _ e1 g σ H r hσ _ fun g1 H1 v l1 r1 h1 => ?_
    simp only [RepW, RepD] at h1
    exact ⟨_, h1, k g1 H1 _ l1 r1 (by simp only [RepW, RepD])⟩
  · cases e
theorem isN_dec {g : Gh} {v : V} {x : W} (h : RepW K fa g v x) : decide (v = .non) = isNonW x := by
  cases x with
  | mu n => obtain ⟨rfl, _⟩ := h; exact decide_eq_false (fun z => nomatch z)
  | d y =>
    cases y <;> simp only [RepW, RepD] at h
    case non => subst h; rfl
    case bl => subst h; exact decide_eq_false (fun z => nomatch z)
    case int => subst h; exact decide_eq_false (fun z => nomatch z)
    case str => subst h; exact decide_eq_false (fun z => nomatch z)
    case fn => subst h; exact decide_eq_false (fun z => nomatch z)
    all_goals (obtain ⟨a, h⟩ := h)
    case scr => obtain ⟨rfl, _⟩ := h; exact decide_eq_false (fun z => nomatch z)
    all_goals (obtain ⟨b, rfl, _⟩ := h; exact decide_eq_false (fun z => nomatch z))
theorem ok_isN {a : E} (ha : OkE K fa C c tb a) : OkE K fa C c tb (.isN a) := fun ρ S w S' e g σ H r hσ Q k => by
  simp only [evE] at e
  obtain ⟨⟨x, S1⟩, e1, e⟩ := Option.map_eq_some_iff.mp e
  cases e
  refine ha _ _ _ _ e1 g σ H r hσ _ fun g1 H1 v l1 r1 h1 => ?_
  show Q (.bl (decide (v = .non))) H1
  rw [isN_dec h1]
  exact k g1 H1 _ l1 r1 (by simp only [RepW, RepD])
theorem ok_notN {a : E} (ha : OkE K fa C c tb a) : OkE K fa C c tb (.notN a) := fun ρ S w S' e g σ H r hσ Q k => by
  simp only [evE] at e
  obtain ⟨⟨x, S1⟩, e1, e⟩ := Option.map_eq_some_iff.mp e
  cases e
  refine ha _ _ _ _ e1 g σ H r hσ _ fun g1 H1 v l1 r1 h1 => ?_
  show Q (.bl (!decide (v = .non))) H1
  rw [isN_dec h1]
  exact k g1 H1 _ l1 r1 (by simp only [RepW, RepD])
theorem ok_and {a b : E} (ha : OkE K fa C c tb a) (hb : OkE K fa C c tb b) : OkE K fa C c tb (.and a b) := fun ρ S w S' e g σ H r hσ Q k => by
  simp only [evE] at e
  obtain ⟨⟨x, S1⟩, e1, e⟩ := Option.bind_eq_some_iff.mp e
  refine ha _ _ _ _ e1 g σ H r hσ _ fun g1 H1 v l1 r1 h1 => ?_
  split at e
  · rename_i h
    obtain rfl : x = _ := h
    simp only [RepW, RepD] at h1
    refine ⟨true, h1, ?_⟩
    rw [if_pos rfl]
    exact hb _ _ _ _ e g1 σ H1 r1 (hσ.mono l1) Q fun g2 H2 v2 l2 r2 h2 => k g2 H2 v2 (l1.trans l2) r2 h2
  · rename_i h
    cases e
    obtain rfl : x = _ := h
    simp only [RepW, RepD] at h1
    refine ⟨false, h1, ?_⟩
    rw [if_neg (fun z => nomatch z)]
    exact k g1 H1 _ l1 r1 (by simp only [RepW, RepD])
  · cases e
theorem ok_or {a b : E} (ha : OkE K fa C c tb a) (hb : OkE K fa C c tb b) : OkE K fa C c tb (.or a b) := fun ρ S w S' e g σ H r hσ Q k => by
  simp only [evE] at e
  obtain ⟨⟨x, S1⟩, e1, e⟩ := Option.bind_eq_some_iff.mp e
  refine ha _ _ _ _ e1 g σ H r hσ _ fun g1 H1 v l1 r1 h1 => ?_
  split at e
  · rename_i h
    obtain rfl : x = _ := h
    simp only [RepW, RepD] at h1
    refine ⟨false, h1, ?_⟩
    rw [if_neg (fun z => nomatch z)]
    exact hb _ _ _ _ e g1 σ H1 r1 (hσ.mono l1) Q fun g2 H2 v2 l2 r2 h2 => k g2 H2 v2 (l1.trans l2) r2 h2
  · rename_i h
    cases e
    obtain rfl : x = _ := h
    simp only [RepW, RepD] at h1
    refine ⟨true, h1, ?_⟩
    rw [if_pos rfl]
    exact k g1 H1 _ l1 r1 (by simp only [RepW, RepD])
  · cases e
theorem ok_not {a : E} (ha : OkE K fa C c tb a) : OkE K fa C c tb (.not a) := fun ρ S w S' e g σ H r hσ Q k => by
  simp only [evE] at e
  obtain ⟨⟨x, S1⟩, e1, e⟩ := Option.bind_eq_some_iff.mp e
  refine ha _ _ _ _ e1 g σ H r hσ _ fun g1 H1 v l1 r1 h1 => ?_
  split at e
  · rename_i b h
    cases e
    obtain rfl : x = _ := h
    simp only [RepW, RepD] at h1
    exact ⟨b, h1, k g1 H1 _ l1 r1 (by simp only [RepW, RepD])⟩
  · cases e
theorem ok_ite {t : T} {a b : E} (ht : OkT K fa C c tb t) (ha : OkE K fa C c tb a) (hb : OkE K fa C c tb b) : OkE K fa C c tb (.ite t a b) := fun ρ S w S' e g σ H r hσ Q k => by
  simp only [evE] at e
  obtain ⟨⟨x, S1⟩, e1, e⟩ := Option.bind_eq_some_iff.mp e
  refine ht _ _ _ _ e1 g σ H r hσ _ fun g1 H1 l1 r1 => ?_
  cases x with
  | true =>
    rw [if_pos rfl] at e
    rw [if_pos rfl]
    exact ha _ _ _ _ e g1 σ H1 r1 (hσ.mono l1) Q fun g2 H2 v2 l2 r2 h2 => k g2 H2 v2 (l1.trans l2) r2 h2
  | false =>
    rw [if_neg (fun z => nomatch z)] at e
    rw [if_neg (fun z => nomatch z)]
    exact hb _ _ _ _ e g1 σ H1 r1 (hσ.mono l1) Q fun g2 H2 v2 l2 r2 h2 => k g2 H2 v2 (l1.trans l2) r2 h2
theorem ok_call {f : Nat} {as : Es} (ha : OkEs K fa C c tb as) : OkE K fa C c tb (.call f as) := fun ρ S w S' e g σ H r hσ Q k => by
  simp only [evE] at e
  obtain ⟨⟨ws, S1⟩, e1, e⟩ := Option.bind_eq_some_iff.mp e
  obtain ⟨⟨d, S2⟩, e2, e⟩ := Option.map_eq_some_iff.mp e
  cases e
  refine ha _ _ _ _ e1 g σ H r hσ _ fun g1 H1 vs l1 r1 h1 => ?_
  show spC K fa C c f (vs ++ []) H1 Q E0
  rw [List.append_nil]
  exact ⟨g1, S1, ws, r1, h1, .inl ⟨d, S2, e2, fun g2 H2 v l2 r2 h2 => k g2 H2 v (l1.trans l2) r2 h2⟩⟩
theorem ok_callv (htb : ∀ f ws S r, c f ws S = some r → tb f) {i : Nat} {as : Es} (ha : OkEs K fa C c tb as) : OkE K fa C c tb (.callv i as) := fun ρ S w S' e g σ H r hσ Q k => by
  simp only [evE] at e
  split at e
  · rename_i f hf
    obtain ⟨⟨ws, S1⟩, e1, e⟩ := Option.bind_eq_some_iff.mp e
    obtain ⟨⟨d, S2⟩, e2, e⟩ := Option.map_eq_some_iff.mp e
    cases e
    obtain ⟨v, q1, q2⟩ := hσ.2 i _ hf
    simp only [RepW, RepD] at q2
    subst q2
    refine ⟨f, htb _ _ _ _ e2, q1, ha _ _ _ _ e1 g σ H r hσ _ fun g1 H1 vs l1 r1 h1 => ?_⟩
    show spC K fa C c f (vs ++ []) H1 Q E0
    rw [List.append_nil]
    exact ⟨g1, S1, ws, r1, h1, .inl ⟨d, S2, e2, fun g2 H2 v l2 r2 h2 => k g2 H2 v (l1.trans l2) r2 h2⟩⟩
  · cases e
theorem ok_bi {b : Bi} {as : Es} (ha : OkEs K fa C c tb as) : OkE K fa C c tb (.bi b as) := fun ρ S w S' e g σ H r hσ Q k => by
  simp only [evE] at e
  obtain ⟨⟨ws, S1⟩, e1, e⟩ := Option.bind_eq_some_iff.mp e
  obtain ⟨ds, e2, e⟩ := Option.bind_eq_some_iff.mp e
  obtain ⟨d, e3, e⟩ := Option.map_eq_some_iff.mp e
  cases e
  refine ha _ _ _ _ e1 g σ H r hσ _ fun g1 H1 vs l1 r1 h1 => ?_
  exact biRun_ok r1 (h1.sh r1 e2) e3 fun g2 H2 v l2 r2 h2 => k g2 H2 v (l1.trans l2) r2 h2
theorem ok_isi1 {a : E} {t : String} (ha : OkE K fa C c tb a) : OkE K fa C c tb (.isi1 a t) := fun ρ S w S' e g σ H r hσ Q k => by
  simp only [evE] at e
  obtain ⟨⟨x, S1⟩, e1, e⟩ := Option.bind_eq_some_iff.mp e
  obtain ⟨d, e2, e⟩ := Option.bind_eq_some_iff.mp e
  obtain ⟨b, e3, e⟩ := Option.map_eq_some_iff.mp e
  cases e
  refine ha _ _ _ _ e1 g σ H r hσ _ fun g1 H1 v l1 r1 h1 => ?_
  exact isi1_ok (r1.shW h1 e2) e3 (k g1 H1 _ l1 r1 (by simp only [RepW, RepD]))
theorem ok_isi2 {a : E} {t u : String} (ha : OkE K fa C c tb a) : OkE K fa C c tb (.isi2 a t u) := fun ρ S w S' e g σ H r hσ Q k => by
  simp only [evE] at e
  obtain ⟨⟨x, S1⟩, e1, e⟩ := Option.bind_eq_some_iff.mp e
  obtain ⟨d, e2, e⟩ := Option.bind_eq_some_iff.mp e
  obtain ⟨b, e3, e⟩ := Option.map_eq_some_iff.mp e
  cases e
  refine ha _ _ _ _ e1 g σ H r hσ _ fun g1 H1 v l1 r1 h1 => ⟨by show 2 ≤ sizeLine; decide, fun p hp => ?_⟩
  have r2 := r1.add (p := p) (o := .tup [.ty t, .ty u]) hp
  have l2 := Gh.le_add (g := g1) (p := p) (o := HO.tup [.ty t, .ty u]) (r1.fresh hp)
  exact isi2_ok (r2.shW (RepW.mono l2 h1) e2) upd_same e3 (k _ _ _ (l1.trans l2) r2 (by simp only [RepW, RepD]))
theorem ok_mt0 {m : Me} {a : E} (ha : OkE K fa C c tb a) : OkE K fa C c tb (.mt0 m a) := fun ρ S w S' e g σ H r hσ Q k => by
  simp only [evE] at e
  obtain ⟨⟨x, S1⟩, e1, e⟩ := Option.bind_eq_some_iff.mp e
  obtain ⟨d, e2, e⟩ := Option.bind_eq_some_iff.mp e
  obtain ⟨b, e3, e⟩ := Option.map_eq_some_iff.mp e
  cases e
  refine ha _ _ _ _ e1 g σ H r hσ _ fun g1 H1 v l1 r1 h1 => ?_
  exact meRun0_ok r1 (r1.shW h1 e2) e3 fun g2 H2 v l2 r2 h2 => k g2 H2 v (l1.trans l2) r2 h2
theorem ok_mt1 {m : Me} {a b : E} (ha : OkE K fa C c tb a) (hb : OkE K fa C c tb b) : OkE K fa C c tb (.mt1 m a b) := fun ρ S w S' e g σ H r hσ Q k => by
  simp only [evE] at e
  obtain ⟨⟨x, S1⟩, e1, e⟩ := Option.bind_eq_some_iff.mp e
  obtain ⟨⟨y, S2⟩, e2, e⟩ := Option.bind_eq_some_iff.mp e
  obtain ⟨x', e3, e⟩ := Option.bind_eq_some_iff.mp e
  obtain ⟨y', e4, e⟩ := Option.bind_eq_some_iff.mp e
  obtain ⟨z, e5, e⟩ := Option.map_eq_some_iff.mp e
  cases e
  refine ha _ _ _ _ e1 g σ H r hσ _ fun g1 H1 v l1 r1 h1 => ⟨?_, ?_⟩
  · cases x with
    | d x =>
      have : x = x' := Option.some.inj e3
      subst this
      exact meRun1_str (r1.sh h1) e5
    | mu n =>
      simp only [rdW] at e3
      split at e3 <;> cases e3 <;> cases m <;> simp [meRun1] at e5
  · refine hb _ _ _ _ e2 g1 σ H1 r1 (hσ.mono l1) _ fun g2 H2 u l2 r2 h2 => ?_
    exact meRun1_ok r2 (r2.shW (RepW.mono l2 h1) e3) (r2.shW h2 e4) e5 fun g3 H3 v3 l3 r3 h3 => k g3 H3 v3 (l1.trans (l2.trans l3)) r3 h3
theorem ok_ix {a b : E} (ha : OkE K fa C c tb a) (hb : OkE K fa C c tb b) : OkE K fa C c tb (.ix a b) := fun ρ S w S' e g σ H r hσ Q k => by
  simp only [evE] at e
  obtain ⟨⟨x, S1⟩, e1, e⟩ := Option.bind_eq_some_iff.mp e
  obtain ⟨⟨y, S2⟩, e2, e⟩ := Option.bind_eq_some_iff.mp e
  obtain ⟨x', e3, e⟩ := Option.bind_eq_some_iff.mp e
  obtain ⟨y', e4, e⟩ := Option.bind_eq_some_iff.mp e
  obtain ⟨z, e5, e⟩ := Option.map_eq_some_iff.mp e
  cases e
  refine ha _ _ _ _ e1 g σ H r hσ _ fun g1 H1 v l1 r1 h1 => hb _ _ _ _ e2 g1 σ H1 r1 (hσ.mono l1) _ fun g2 H2 u l2 r2 h2 => ?_
  exact ixRun_ok r2 (r2.shW (RepW.mono l2 h1) e3) (r2.shW h2 e4) e5 fun g3 H3 v3 l3 r3 h3 => k g3 H3 v3 (l1.trans (l2.trans l3)) r3 h3
theorem ok_sl {a : E} {lo hi : Eo} (ha : OkE K fa C c tb a) (hl : OkO K fa C c tb lo) (hh : OkO K fa C c tb hi) : OkE K fa C c tb (.sl a lo hi) := fun ρ S w S' e g σ H r hσ Q k => by
  simp only [evE] at e
  obtain ⟨⟨x, S1⟩, e1, e⟩ := Option.bind_eq_some_iff.mp e
  obtain ⟨⟨l, S2⟩, e2, e⟩ := Option.bind_eq_some_iff.mp e
  obtain ⟨⟨u, S3⟩, e3, e⟩ := Option.bind_eq_some_iff.mp e
  obtain ⟨x', e4, e⟩ := Option.bind_eq_some_iff.mp e
  obtain ⟨z, e5, e⟩ := Option.map_eq_some_iff.mp e
  cases e
  refine ha _ _ _ _ e1 g σ H r hσ _ fun g1 H1 v l1 r1 h1 => hl _ _ _ _ e2 g1 σ H1 r1 (hσ.mono l1) _ fun g2 H2 l2 r2 => hh _ _ _ _ e3 g2 σ H2 r2 ((hσ.mono l1).mono l2) _ fun g3 H3 l3 r3 => ?_
  exact slRun_ok r3 (r3.shW (RepW.mono (l2.trans l3) h1) e4) e5 fun g4 H4 v4 l4 r4 h4 => k g4 H4 v4 (l1.trans (l2.trans (l3.trans l4))) r4 h4
theorem ok_tup {as : Es} (ha : OkZ K fa C c tb as) : OkE K fa C c tb (.tup as) := fun ρ S w S' e g σ H r hσ Q k => by
  simp only [evE] at e
  obtain ⟨⟨ds, S1⟩, e1, e⟩ := Option.bind_eq_some_iff.mp e
  split at e
  · cases e
    refine ha _ _ _ _ e1 g σ H r hσ _ fun g1 H1 vs l1 r1 h1 => ⟨by rw [h1.length]; assumption, PD.tup r1 (fun g2 H2 v l2 r2 h2 => k g2 H2 v (l1.trans l2) r2 h2) h1⟩
  · cases e
theorem ok_lst {as : Es} (ha : OkZ K fa C c tb as) : OkE K fa C c tb (.lst as) := fun ρ S w S' e g σ H r hσ Q k => by
  simp only [evE] at e
  obtain ⟨⟨ds, S1⟩, e1, e⟩ := Option.bind_eq_some_iff.mp e
  split at e
  · cases e
    refine ha _ _ _ _ e1 g σ H r hσ _ fun g1 H1 vs l1 r1 h1 => ⟨by rw [h1.length]; assumption, PD.lst r1 (fun g2 H2 v l2 r2 h2 => k g2 H2 v (l1.trans l2) r2 h2) h1⟩
  · cases e

theorem repl_ok {κ : Type} [DecidableEq κ] {G : Hp} {k : κ} {d : D} {v : V} (hv : RepD K fa G v d) : ∀ {kvs : List (κ × V)} {ds : List D}, RepDs K fa G (kvs.map (·.2)) ds →
    RepDs K fa G ((kvs.map fun kv => if kv.1 = k then (kv.1, v) else kv).map (·.2)) (repl k d (kvs.map (·.1)) ds)
  | [], ds, h => by
    have := h.length
    cases ds with
    | nil => exact RepDs.nil
    | cons => simp at this
  | kv :: kvs, ds, h => by
    cases ds with
    | nil => have := h.length; simp at this
    | cons x ds =>
      simp only [List.map_cons, RepDs] at h
      obtain ⟨v', t, e, h1, h2⟩ := h
      injection e with e1 e2
      subst e1; subst e2
      simp only [List.map_cons, repl]
      refine RepDs.cons ?_ (repl_ok hv h2)
      split
      · exact hv
      · exact h1
theorem putD_ok {κ : Type} [DecidableEq κ] {G : Hp} {k : κ} {d : D} {v : V} (hv : RepD K fa G v d) {kvs : List (κ × V)} {ds : List D} (h : RepDs K fa G (kvs.map (·.2)) ds) :
    (putK kvs k v).map (·.1) = (putD k d (kvs.map (·.1)) ds).1 ∧ RepDs K fa G ((putK kvs k v).map (·.2)) (putD k d (kvs.map (·.1)) ds).2 := by
  have ea : ((kvs.map (·.1)).any fun q => decide (q = k)) = kvs.any fun kv => decide (kv.1 = k) := by
    rw [List.any_map]; rfl
  unfold putK putD
  rw [ea]
  split
  · refine ⟨?_, repl_ok hv h⟩
    show List.map _ (List.map _ kvs) = List.map _ kvs
    rw [List.map_map]
    apply List.map_congr_left
    intro kv _
    show (if kv.1 = k then (kv.1, v) else kv).1 = kv.1
    split <;> rfl
  · refine ⟨by simp, ?_⟩
    rw [List.map_append]
    exact RepDs.append h (RepDs.cons hv RepDs.nil)

def POut (K : PySem.W.Frag) (fa : FA) (C : Addr) (W : WX) (g : Gh) (Z : Ends) : Out → Prop
  | .nx ρ S => ∀ g' σ H, g.le g' → Rel K fa g' H S → RepEn K fa g' σ ρ → Z.nx σ H
  | .bk ρ S => ∀ g' σ H, g.le g' → Rel K fa g' H S → RepEn K fa g' σ ρ → Z.bk σ H
  | .ct ρ S => ∀ g' σ H, g.le g' → Rel K fa g' H S → RepEn K fa g' σ ρ → Z.ct σ H
  | .rt d S => PD K fa g S Z.rt d
  | .xc d S => ∀ σ, PX K fa C g S (WE W σ) d
theorem keyOf_ok {G : Hp} {d : D} {k : Key} {v : V} (h : keyOf d = some k) (q : RepD K fa G v d) : v = kV k := by
  unfold keyOf at h
  split at h
  · cases h; simp only [RepD] at q; exact q
  · cases h; simp only [RepD] at q; exact q
  · cases h

theorem keysOf_ok {G : Hp} : ∀ {ds : List D} {ks : List Key} {vs : List V}, keysOf ds = some ks → RepDs K fa G vs ds → vs = ks.map kV
  | [], ks, vs, e, h => by
    simp only [keysOf, Option.some.injEq] at e
    subst e
    simp only [RepDs] at h
    subst h
    rfl
  | d :: ds, ks, vs, e, h => by
    simp only [keysOf] at e
    obtain ⟨k, e1, e⟩ := Option.bind_eq_some_iff.mp e
    obtain ⟨ks', e2, e⟩ := Option.map_eq_some_iff.mp e
    subst e
    simp only [RepDs] at h
    obtain ⟨v, r, rfl, h1, h2⟩ := h
    rw [keyOf_ok e1 h1, keysOf_ok e2 h2]
    rfl
theorem lookD_ok {κ : Type} [DecidableEq κ] {G : Hp} {k : κ} : ∀ {kvs : List (κ × V)} {ds : List D}, RepDs K fa G (kvs.map (·.2)) ds → match lookD k (kvs.map (·.1)) ds with
    | some d => ∃ v, valV kvs k = some v ∧ RepD K fa G v d
    | none => valV kvs k = none
  | [], ds, h => by simp [lookD, valV]
  | (q, v) :: kvs, [], h => by
    have := h.length
    simp at this
  | (q, v) :: kvs, d :: ds, h => by
    simp only [List.map_cons, RepDs] at h
    obtain ⟨v', t, e, h1, h2⟩ := h
    injection e with e1 e2
    subst e1; subst e2
    have ih := lookD_ok (k := k) h2
    by_cases hq : q = k
    · subst hq
      simp only [List.map_cons, lookD, if_true]
      exact ⟨v, by simp [valV], h1⟩
    · simp only [List.map_cons, lookD, if_neg hq]
      have ev : valV ((q, v) :: kvs) k = valV kvs k := by simp [valV, hq]
      rw [ev]
      exact ih
def OptV (K : PySem.W.Frag) (fa : FA) (G : Hp) (ov : Option V) : Option D → Prop
  | some d => ∃ v, ov = some v ∧ RepD K fa G v d
  | none => ov = none
theorem lookD_opt {κ : Type} [DecidableEq κ] {G : Hp} {k : κ} {kvs : List (κ × V)} {ds : List D} (h : RepDs K fa G (kvs.map (·.2)) ds) : OptV K fa G (valV kvs k) (lookD k (kvs.map (·.1)) ds) := by
  have := lookD_ok (k := k) h
  cases e : lookD k (kvs.map (·.1)) ds with
  | none => rw [e] at this; exact this
  | some d => rw [e] at this; exact this
theorem isDct_ok {G H : Hp} {x : V} {d : D} (h : Sh K fa G H x d) (e : isDct d = true) : ∃ a, x = .ref a ∧ IsD H a := by
  cases d <;> simp [isDct] at e
  · obtain ⟨a, kvs, rfl, q, _⟩ := h
    exact ⟨a, rfl, .inl ⟨kvs, q⟩⟩
  · obtain ⟨a, kvs, rfl, q, _⟩ := h
    exact ⟨a, rfl, .inr ⟨kvs, q⟩⟩
theorem dLook_ok {g : Gh} {H : Hp} {S : Store} (r : Rel K fa g H S) {x y : V} {a k : D} {o : Option D} (hx : Sh K fa g.G H x a) (hy : Sh K fa g.G H y k) (e : dLook a k = some o) :
    ∃ p ov, x = .ref p ∧ DGet H p y ov ∧ OptV K fa g.G ov o := by
  cases a <;> simp only [dLook] at e <;> try (cases e; done)
  · rename_i ks ds
    obtain ⟨kk, e1, e⟩ := Option.map_eq_some_iff.mp e
    obtain ⟨p, kvs, rfl, q, rfl, h2⟩ := hx
    have hk : y = kV kk := by
      unfold keyOf at e1
      split at e1 <;> cases e1 <;> exact hy
    subst hk
    refine ⟨p, valV kvs kk, rfl, .inl ⟨kvs, kk, q, rfl, rfl⟩, ?_⟩
    rw [← e]
    exact lookD_opt h2
  · rename_i ks ds
    cases k <;> try (cases e; done)
    rename_i ys
    obtain ⟨kk, e1, e⟩ := Option.map_eq_some_iff.mp e
    obtain ⟨p, kvs, rfl, q, rfl, h2⟩ := hx
    obtain ⟨_, _, _, _, _, hr⟩ := hy
    simp only [RepD] at hr
    obtain ⟨b, vs, rfl, hb, hvs⟩ := hr
    rcases hb with hb | hb
    · have hb' : H b = some (.tup vs) := by
        rcases r.ext b _ hb with h | ⟨h, _⟩
        · exact h
        · cases h
      rw [keysOf_ok e1 hvs] at hb'
      refine ⟨p, valV kvs kk, rfl, .inr ⟨kvs, kk, b, q, rfl, hb', rfl⟩, ?_⟩
      rw [← e]
      exact lookD_opt h2
    · exact hb.elim
theorem ok_dget {a b : E} (ha : OkE K fa C c tb a) (hb : OkE K fa C c tb b) : OkE K fa C c tb (.dget a b) := fun ρ S w S' e g σ H r hσ Q k => by
  simp only [evE] at e
  obtain ⟨⟨x, S1⟩, e1, e⟩ := Option.bind_eq_some_iff.mp e
  obtain ⟨⟨y, S2⟩, e2, e⟩ := Option.bind_eq_some_iff.mp e
  obtain ⟨x', e3, e⟩ := Option.bind_eq_some_iff.mp e
  obtain ⟨y', e4, e⟩ := Option.bind_eq_some_iff.mp e
  obtain ⟨o, e5, e⟩ := Option.bind_eq_some_iff.mp e
  obtain ⟨z, e6, e⟩ := Option.map_eq_some_iff.mp e
  cases e
  subst e6
  refine ha _ _ _ _ e1 g σ H r hσ _ fun g1 H1 v l1 r1 h1 => hb _ _ _ _ e2 g1 σ H1 r1 (hσ.mono l1) _ fun g2 H2 u l2 r2 h2 => ?_
  obtain ⟨p, ov, rfl, q1, vz, rfl, q2⟩ := dLook_ok r2 (r2.shW (RepW.mono l2 h1) e3) (r2.shW h2 e4) e5
  exact ⟨p, vz, rfl, q1, k g2 H2 vz (l1.trans l2) r2 q2⟩
theorem ok_din {a b : E} (hb : OkE K fa C c tb b) (ha : OkE K fa C c tb a) : OkE K fa C c tb (.din b a) := fun ρ S w S' e g σ H r hσ Q k => by
  simp only [evE] at e
  obtain ⟨⟨y, S1⟩, e1, e⟩ := Option.bind_eq_some_iff.mp e
  obtain ⟨⟨x, S2⟩, e2, e⟩ := Option.bind_eq_some_iff.mp e
  obtain ⟨x', e3, e⟩ := Option.bind_eq_some_iff.mp e
  obtain ⟨y', e4, e⟩ := Option.bind_eq_some_iff.mp e
  obtain ⟨o, e5, e⟩ := Option.map_eq_some_iff.mp e
  cases e
  refine hb _ _ _ _ e1 g σ H r hσ _ fun g1 H1 u l1 r1 h1 => ha _ _ _ _ e2 g1 σ H1 r1 (hσ.mono l1) _ fun g2 H2 v l2 r2 h2 => ?_
  obtain ⟨p, ov, rfl, q1, q2⟩ := dLook_ok r2 (r2.shW h2 e3) (r2.shW (RepW.mono l2 h1) e4) e5
  refine ⟨p, ov, rfl, q1, k g2 H2 _ (l1.trans l2) r2 ?_⟩
  simp only [RepW, RepD]
  cases o with
  | none => subst q2; rfl
  | some d => obtain ⟨v', rfl, _⟩ := q2; rfl
theorem setAt_some {S : Store} {n : Nat} {ks : List Key} (h : setAt S n = some ks) : S[n]? = some (.set ks) := by
  unfold setAt at h
  split at h
  · cases h; assumption
  · cases h
theorem ok_sin {neg : Bool} {a b : E} (hb : OkE K fa C c tb b) (ha : OkE K fa C c tb a) : OkE K fa C c tb (.sin neg b a) := fun ρ S w S' e g σ H r hσ Q k => by
  simp only [evE] at e
  obtain ⟨⟨y, S1⟩, e1, e⟩ := Option.bind_eq_some_iff.mp e
  obtain ⟨⟨x, S2⟩, e2, e⟩ := Option.bind_eq_some_iff.mp e
  cases y with
  | mu _ => cases e
  | d kd =>
  cases x with
  | d _ => cases e
  | mu n =>
    obtain ⟨kk, e3, e⟩ := Option.bind_eq_some_iff.mp e
    obtain ⟨ks, e4, e⟩ := Option.map_eq_some_iff.mp e
    cases e
    refine hb _ _ _ _ e1 g σ H r hσ _ fun g1 H1 u l1 r1 h1 => ha _ _ _ _ e2 g1 σ H1 r1 (hσ.mono l1) _ fun g2 H2 v l2 r2 h2 => ?_
    obtain ⟨rfl, hn⟩ := h2
    obtain ⟨o, m1, m2, m3⟩ := r2.live n _ (setAt_some e4) (fun z => nomatch z)
    have m2' : o = SetK fa.P fa.w (g2.φ n) (fun k => hasK k ks) ks.length := m2
    subst m2'
    exact ⟨kk, _, _, _, keyOf_ok (K := K) (fa := fa) e3 (RepD.mono l2.G h1), rfl, m1, k g2 H2 _ (l1.trans l2) r2 (by simp only [RepW, RepD])⟩
theorem ok_sortR {i : Nat} : OkE K fa C c tb (.sortR i) := fun ρ S w S' e g σ H r hσ Q k => by
  simp only [evE] at e
  split at e
  case h_2 => cases e
  rename_i ds hn
  obtain ⟨ns, e1, e⟩ := Option.bind_eq_some_iff.mp e
  split at e
  case isFalse => cases e
  rename_i hl
  cases e
  obtain ⟨v, q1, q2⟩ := hσ.2 i _ hn
  simp only [RepW, RepD] at q2
  obtain ⟨a, vs, rfl, q, h2⟩ := q2
  rw [intsOf_ok e1] at h2
  rw [h2.ints] at q
  refine ⟨a, ns, q1, .of (r.lst q), hl, fun p hp => (r.tb p hp).1, fun H1 ex ts D hD => ?_⟩
  have r1 := r.tables ex ts
  have l := Gh.le_add (g := g) (p := D) (o := HO.lst ((PvLm.byNeg ns).map fun j : Nat => V.int (j : Int))) (r1.fresh hD)
  refine k _ _ _ l (r1.add hD) ?_
  simp only [RepW, RepD]
  refine ⟨D, _, rfl, upd_same, ?_⟩
  have e2 : ((PvLm.byNeg ns).map fun j : Nat => V.int (j : Int)) = ((PvLm.byNeg ns).map fun j : Nat => (j : Int)).map V.int := by rw [List.map_map]; rfl
  rw [e2]
  have e4 : ((PvLm.byNeg ns).map fun j : Nat => Pv.D.int (j : Int)) = ((PvLm.byNeg ns).map fun j : Nat => (j : Int)).map Pv.D.int := by rw [List.map_map]; rfl
  rw [e4]
  exact RepDs.of_ints
theorem ok_get1 {a b : E} (ha : OkE K fa C c tb a) (hb : OkE K fa C c tb b) : OkE K fa C c tb (.get1 a b) := fun ρ S w S' e g σ H r hσ Q k => by
  simp only [evE] at e
  obtain ⟨⟨x, S1⟩, e1, e⟩ := Option.bind_eq_some_iff.mp e
  obtain ⟨x1, e0, e⟩ := Option.bind_eq_some_iff.mp e
  split at e
  case isFalse => cases e
  rename_i hd
  obtain ⟨⟨y, S2⟩, e2, e⟩ := Option.bind_eq_some_iff.mp e
  obtain ⟨x', e3, e⟩ := Option.bind_eq_some_iff.mp e
  obtain ⟨y', e4, e⟩ := Option.bind_eq_some_iff.mp e
  obtain ⟨o, e5, e⟩ := Option.map_eq_some_iff.mp e
  cases e
  refine ha _ _ _ _ e1 g σ H r hσ _ fun g1 H1 v l1 r1 h1 => ?_
  obtain ⟨p, rfl, hp⟩ := isDct_ok (r1.shW h1 e0) hd
  refine ⟨p, rfl, hp, hb _ _ _ _ e2 g1 σ H1 r1 (hσ.mono l1) _ fun g2 H2 u l2 r2 h2 => ?_⟩
  obtain ⟨p', ov, ep, q1, q2⟩ := dLook_ok r2 (r2.shW (RepW.mono l2 h1) e3) (r2.shW h2 e4) e5
  cases ep
  refine ⟨ov, q1, k g2 H2 _ (l1.trans l2) r2 ?_⟩
  cases o with
  | none => subst q2; simp only [Option.getD_none, RepW, RepD]
  | some d => obtain ⟨v', rfl, q2⟩ := q2; exact q2
theorem ok_get2 {a b z : E} (ha : OkE K fa C c tb a) (hb : OkE K fa C c tb b) (hz : OkE K fa C c tb z) : OkE K fa C c tb (.get2 a b z) := fun ρ S w S' e g σ H r hσ Q k => by
  simp only [evE] at e
  obtain ⟨⟨x, S1⟩, e1, e⟩ := Option.bind_eq_some_iff.mp e
  obtain ⟨x1, e0, e⟩ := Option.bind_eq_some_iff.mp e
  split at e
  case isFalse => cases e
  rename_i hd
  obtain ⟨⟨y, S2⟩, e2, e⟩ := Option.bind_eq_some_iff.mp e
  obtain ⟨⟨wz, S3⟩, e6, e⟩ := Option.bind_eq_some_iff.mp e
  obtain ⟨x', e3, e⟩ := Option.bind_eq_some_iff.mp e
  obtain ⟨y', e4, e⟩ := Option.bind_eq_some_iff.mp e
  obtain ⟨o, e5, e⟩ := Option.map_eq_some_iff.mp e
  cases e
  refine ha _ _ _ _ e1 g σ H r hσ _ fun g1 H1 v l1 r1 h1 => ?_
  obtain ⟨p, rfl, hp⟩ := isDct_ok (r1.shW h1 e0) hd
  refine ⟨p, rfl, hp, hb _ _ _ _ e2 g1 σ H1 r1 (hσ.mono l1) _ fun g2 H2 u l2 r2 h2 => hz _ _ _ _ e6 g2 σ H2 r2 ((hσ.mono l1).mono l2) _ fun g3 H3 t l3 r3 h3 => ?_⟩
  obtain ⟨p', ov, ep, q1, q2⟩ := dLook_ok r3 (r3.shW (RepW.mono (l2.trans l3) h1) e3) (r3.shW (RepW.mono l3 h2) e4) e5
  cases ep
  refine ⟨ov, q1, k g3 H3 _ (l1.trans (l2.trans l3)) r3 ?_⟩
  cases o with
  | none => subst q2; exact h3
  | some d => obtain ⟨v', rfl, q2⟩ := q2; exact q2
theorem leF {g1 gb g4 : Gh} {p : Addr} {o : HO} (l1 : g1.le gb) (l2 : (gb.hold p o).le g4) : g1.le { g4 with F := g1.F } :=
  ⟨fun a u e => l2.G a u (l1.G a u e), fun i hi => (l2.φ i (Nat.lt_of_lt_of_le hi l1.n)).trans (l1.φ i hi), Nat.le_trans l1.n l2.n, l2.lk.trans l1.lk, rfl⟩
theorem comp_coreJ {vs : List Nat} {tg : Tg} {cond : To} {elt : E} (hc : OkTo K fa C c tb cond) (he : OkE K fa C c tb elt) (htg : tgIn tg vs = true) {ρ : En} {S1 S2 : Store} {ds res : List D}
    (e2 : compL (fun (d : D) (S : Store) => (asgn tg d (wipeE ρ vs)).bind fun ρ' => (evTo c cond ρ' S).bind fun q =>
      if q.1 = true then (evE c elt ρ' q.2).bind fun w => (fzW w.1 w.2).map fun z => (some z.1, z.2) else some (none, q.2)) ds S1 [] = some (res, S2)) {g1 : Gh} {σ : L2.St} {H1 : Hp} {J : L2.It} (r1 : Rel K fa g1 H1 S1) (hσ : RepEn K fa g1 σ ρ) (src : SrcF K fa g1 J ds) {Q : VK}
    (k : ∀ gb H' p accV, g1.le gb → (∀ a u, gb.F a = some u → a ≠ p) → Rel K fa (gb.hold p (.lst accV)) H' S2 → RepDs K fa gb.G accV res → Q (.ref p) H') : tLc (fun _ H R => R J H) (tTg K tg) (tTo K fa (spC K fa C c) tb cond) (tE K fa (spC K fa C c) tb elt) vs σ H1 Q := by
  intro p hp
  have hFp : ∀ a u, g1.F a = some u → a ≠ p ∧ g1.F a = some u := fun a u ea => ⟨ne_of_none (r1.frm a u ea).1 hp, ea⟩
  generalize hf : (fun (d : D) (S : Store) => (asgn tg d (wipeE ρ vs)).bind fun ρ' => (evTo c cond ρ' S).bind fun q =>
      if q.1 = true then (evE c elt ρ' q.2).bind fun w => (fzW w.1 w.2).map fun z => (some z.1, z.2) else some (none, q.2)) = f at e2
  refine ⟨fun i m H => m = ds.length - i ∧ i ≤ ds.length ∧ ∃ gb S' acc accV, g1.le gb ∧ Rel K fa (gb.hold p (.lst accV)) H S' ∧ RepDs K fa gb.G accV acc ∧ compL f (ds.drop i) S' acc = some (res, S2),
    ⟨_, rfl, Nat.zero_le _, g1, S1, [], [], .refl g1, r1.hold hp, RepDs.nil, by simpa using e2⟩, ?_⟩
  rintro i m H ⟨rfl, hil, gb, S', acc, accV, lb, rb, hacc, ec⟩
  have s0 := src i _ H S' (show GLe g1.G (gb.hold p (.lst accV)).G from lb.G) (fun a u ea => by show upd gb.F p _ a = some u; rw [upd_ne (hFp a u ea).1, lb.F]; exact ea) rb
  rcases Nat.eq_or_lt_of_le hil with hi | hi
  · left
    refine ⟨s0.2 (by omega), ?_⟩
    subst hi
    rw [List.drop_length] at ec
    simp only [compL] at ec
    cases ec
    exact k gb H p accV lb (fun a u ea => by rw [lb.F] at ea; exact (hFp a u ea).1) rb hacc
  · right
    have hd : ds[i]? = some ds[i] := List.getElem?_eq_getElem hi
    obtain ⟨hgo, hy⟩ := s0.1 _ hd
    have edrop : ds.drop i = ds[i] :: ds.drop (i + 1) := List.drop_eq_getElem_cons hi
    rw [edrop] at ec
    simp only [compL] at ec
    obtain ⟨⟨o, S3⟩, e3, ec⟩ := Option.bind_eq_some_iff.mp ec
    refine ⟨hgo, fun H => ∃ gb S' acc accV, g1.le gb ∧ Rel K fa (gb.hold p (.lst accV)) H S' ∧ RepDs K fa gb.G accV acc ∧ compL f (ds.drop (i + 1)) S' acc = some (res, S2),
      fun H' q => ⟨ds.length - (i + 1), by omega, rfl, hi, q⟩, fun x H' y => ?_⟩
    obtain ⟨g2, l2, r2, hx⟩ := hy x H' y
    rw [← hf] at e3
    obtain ⟨ρ', e4, e3⟩ := Option.bind_eq_some_iff.mp e3
    have hσ2 : RepEn K fa g2 (L2.wipe σ vs) (wipeE ρ vs) := by
      have h1 := hσ.wipe vs
      refine ⟨h1.1, fun j w ej => ?_⟩
      obtain ⟨v, a, b⟩ := h1.2 j w ej
      refine ⟨v, a, ?_⟩
      have b2 := RepW.mono (leF lb l2) b
      cases w with
      | d z => exact b2
      | mu n => exact b2
    refine tg_ok r2 e4 hx hσ2 fun σ2 hσ3 hw => ⟨(hw vs htg).trans wipe_wipe, ?_⟩
    -- the element, once the test has let it in
    have elem : ∀ g3 H3 S4, g2.le g3 → Rel K fa g3 H3 S4 → ((evE c elt ρ' S4).bind fun w => (fzW w.1 w.2).map fun z => (some z.1, z.2)) = some (o, S3) →
        tE K fa (spC K fa C c) tb elt σ2 H3 fun y H4 => ∃ acc, H4 p = some (.lst acc) ∧ acc.length < sizeLine ∧ (fun H => ∃ gb S' acc accV, g1.le gb ∧ Rel K fa (gb.hold p (.lst accV)) H S' ∧ RepDs K fa gb.G accV acc ∧ compL f (ds.drop (i + 1)) S' acc = some (res, S2)) (upd H4 p (.lst (acc ++ [y]))) := fun g3 H3 S4 l3 r3 e5 => by
      obtain ⟨⟨w5, S5⟩, e6, e5⟩ := Option.bind_eq_some_iff.mp e5
      obtain ⟨⟨d5, S6⟩, e7, e5⟩ := Option.map_eq_some_iff.mp e5
      cases e5
      refine he _ _ _ _ e6 g3 σ2 H3 r3 (hσ3.mono l3) _ fun g4 H4 y l4 r4 h4 => ?_
      obtain ⟨g5, l5, r5, h5⟩ := r4.fz h4 e7
      have l25 := l2.trans (l3.trans (l4.trans l5))
      have hF5 : g5.F p = some (.lst accV) := by rw [l25.F]; exact upd_same
      simp only at ec
      split at ec
      case isFalse => cases ec
      rename_i hz
      refine ⟨accV, (r5.frm p _ hF5).1, by rw [hacc.length]; exact hz, { g5 with F := g1.F }, _, acc ++ [d5], accV ++ [y], leF lb l25, ?_, RepDs.append (RepDs.mono l25.G hacc) (RepDs.cons h5 RepDs.nil), ec⟩
      have r6 := r5.rehold (o' := .lst (accV ++ [y])) hF5
      have ef : upd g5.F p (HO.lst (accV ++ [y])) = upd g1.F p (HO.lst (accV ++ [y])) := by
        rw [l25.F]
        show upd (upd gb.F p _) p _ = _
        rw [upd_upd, lb.F]
      rw [ef] at r6
      exact r6
    obtain ⟨⟨b, S4⟩, e5, e3⟩ := Option.bind_eq_some_iff.mp e3
    cases cond with
    | none =>
      simp only [evTo] at e5
      cases e5
      simp only [tTo]
      unfold tYes
      simp only [if_true] at e3 ⊢
      exact elem g2 H' S' (Gh.le.refl g2) r2 e3
    | some t =>
      simp only [evTo] at e5
      refine hc _ _ _ _ e5 g2 σ2 H' r2 hσ3 _ fun g3 H3 l3 r3 => ?_
      cases b with
      | true =>
        rw [if_pos rfl]
        simp only [if_true] at e3
        exact elem g3 H3 S4 l3 r3 e3
      | false =>
        rw [if_neg (fun z => nomatch z)]
        simp only [Bool.false_eq_true, if_false] at e3
        cases e3
        have l23 := l2.trans l3
        refine ⟨{ g3 with F := g1.F }, S3, acc, accV, leF lb l23, ?_, RepDs.mono l23.G hacc, ec⟩
        have hF3 : g3.F = upd g1.F p (.lst accV) := by rw [l23.F, ← lb.F]; rfl
        have r6 := r3
        show Rel K fa { g3 with F := upd g1.F p (.lst accV) } H3 S3
        rw [← hF3]
        exact r6

theorem comp_core {vs : List Nat} {tg : Tg} {it : It} {cond : To} {elt : E} (hi : OkI K fa C c tb it) (hc : OkTo K fa C c tb cond) (he : OkE K fa C c tb elt) {ρ : En} {S S2 : Store} {res : List D}
    (e : evE c (.comp vs tg it cond elt) ρ S = some (.d (.lst res), S2)) {g : Gh} {σ : L2.St} {H : Hp} (r : Rel K fa g H S) (hσ : RepEn K fa g σ ρ) {Q : VK}
    (k : ∀ gb H' p accV, g.le gb → (∀ a u, gb.F a = some u → a ≠ p) → Rel K fa (gb.hold p (.lst accV)) H' S2 → RepDs K fa gb.G accV res → Q (.ref p) H') : tE K fa (spC K fa C c) tb (.comp vs tg it cond elt) σ H Q := by
  simp only [evE] at e
  split at e
  case isFalse => cases e
  rename_i htg
  obtain ⟨⟨ds, S1⟩, e1, e⟩ := Option.bind_eq_some_iff.mp e
  obtain ⟨⟨res, S2⟩, e2, e⟩ := Option.map_eq_some_iff.mp e
  cases e
  exact hi _ _ _ _ e1 g σ H r hσ _ fun g1 H1 J l1 r1 src => comp_coreJ (J := J) hc he htg e2 r1 (hσ.mono l1) src.F fun gb H' p accV lb => k gb H' p accV (l1.trans lb)
theorem ok_compK {vs : List Nat} {tg : Tg} {i : Nat} {cond : To} {elt : E} (hc : OkTo K fa C c tb cond) (he : OkE K fa C c tb elt) : OkE K fa C c tb (.compK vs tg i cond elt) := fun ρ S w S' e g σ H r hσ Q k => by
  simp only [evE] at e
  split at e
  case h_2 => cases e
  rename_i n hn
  split at e
  case h_2 => cases e
  rename_i ks es hs
  split at e
  case isFalse => cases e
  rename_i htg
  obtain ⟨⟨res, S2⟩, e2, e⟩ := Option.map_eq_some_iff.mp e
  cases e
  obtain ⟨v, q1, rfl, q3⟩ := hσ.2 i _ hn
  obtain ⟨u, m1, ⟨kvs, rfl, m2, m4⟩, m3⟩ := r.live n _ hs (fun z => nomatch z)
  subst m2
  refine ⟨g.φ n, .dK kvs, m1, trivial, fun od => ?_⟩
  have r0 := r.lockF (o := .frz od (.dK kvs)) hs (fun z => nomatch z)
  have hσ0 : RepEn K fa { g with F := upd g.F (g.φ n) (.frz od (.dK kvs)) } σ ρ := ⟨hσ.1, fun j w ej => by
    obtain ⟨v, a, b⟩ := hσ.2 j w ej
    refine ⟨v, a, ?_⟩
    cases w with
    | d z => exact b
    | mu n => exact b⟩
  refine ⟨_, q1, _, od, rfl, .inl ⟨kvs, upd_same, ?_⟩⟩
  refine comp_coreJ (J := Itk (g.φ n) od kvs) (Q := fun v H' => H' (g.φ n) = some (HO.frz od (HO.dK kvs)) ∧ Q v (upd H' (g.φ n) (HO.dK kvs))) hc he htg e2 r0 hσ0 (src_keys (d := g.φ n) upd_same) fun gb H' p accV lb hF rb hacc => ?_
  have hd : gb.F (g.φ n) = some (.frz od (.dK kvs)) := by rw [lb.F]; exact upd_same
  have hdp := hF _ _ hd
  have hd' := (rb.frm (g.φ n) _ (by show upd gb.F p _ (g.φ n) = _; rw [upd_ne hdp]; exact hd)).1
  refine ⟨hd', ?_⟩
  obtain ⟨rf, hg⟩ := rb.unhold (p := p) (o := .lst accV) (F0 := gb.F) upd_same fun a u ea => ⟨hF a u ea, by show upd gb.F p _ a = some u; rw [upd_ne (hF a u ea)]; exact ea⟩
  have la := (Gh.le_add (g := gb.hold p (.lst accV)) (p := p) (o := HO.lst accV) hg)
  have rl := rf.letgo (p := g.φ n) (o' := .dK kvs) (F0 := g.F) hd fun a u ea => by
    have ne : a ≠ g.φ n := fun z => (r.frm a u ea).2.2 n _ hs (fun z => nomatch z) z.symm
    refine ⟨ne, ?_⟩
    show gb.F a = some u
    rw [lb.F]
    show upd g.F (g.φ n) _ a = some u
    rw [upd_ne ne]; exact ea
  refine k { (gb.hold p (.lst accV)).add p (.lst accV) with F := g.F } _ _ ⟨fun a u ea => la.G a u (lb.G a u ea), lb.φ, lb.n, lb.lk, rfl⟩ rl ?_
  simp only [RepW, RepD]
  exact ⟨p, accV, rfl, upd_same, RepDs.mono la.G hacc⟩
theorem ok_comp {vs : List Nat} {tg : Tg} {it : It} {cond : To} {elt : E} (hi : OkI K fa C c tb it) (hc : OkTo K fa C c tb cond) (he : OkE K fa C c tb elt) : OkE K fa C c tb (.comp vs tg it cond elt) := fun ρ S w S' e g σ H r hσ Q k => by
  have ew : ∃ res, w = .d (.lst res) := by
    simp only [evE] at e
    split at e
    case isFalse => cases e
    obtain ⟨⟨ds, S1⟩, e1, e⟩ := Option.bind_eq_some_iff.mp e
    obtain ⟨⟨res, S2⟩, e2, e⟩ := Option.map_eq_some_iff.mp e
    cases e
    exact ⟨_, rfl⟩
  obtain ⟨res, rfl⟩ := ew
  refine comp_core hi hc he e r hσ fun gb H' p accV lb hF rb hacc => ?_
  obtain ⟨rf, hg⟩ := rb.unhold (p := p) (o := .lst accV) (F0 := gb.F) upd_same fun a u ea => ⟨hF a u ea, by show upd gb.F p _ a = some u; rw [upd_ne (hF a u ea)]; exact ea⟩
  have la := (Gh.le_add (g := gb.hold p (.lst accV)) (p := p) (o := HO.lst accV) hg)
  refine k _ H' _ (lb.trans (leF (.refl gb) la)) rf ?_
  simp only [RepW, RepD]
  exact ⟨p, accV, rfl, upd_same, RepDs.mono la.G hacc⟩

theorem ok_dcomp {vs : List Nat} {tg : Tg} {it : It} {cond : To} {kx vx : E} (hi : OkI K fa C c tb it) (hc : OkTo K fa C c tb cond) (hk : OkE K fa C c tb kx) (he : OkE K fa C c tb vx) : OkE K fa C c tb (.dcomp vs tg it cond kx vx) := fun ρ S w S' e g σ H r hσ Q k => by
  simp only [evE] at e
  split at e
  case isFalse => cases e
  rename_i htg
  obtain ⟨⟨ds, S1⟩, e1, e⟩ := Option.bind_eq_some_iff.mp e
  obtain ⟨⟨⟨rk, rd⟩, S2⟩, e2, e⟩ := Option.map_eq_some_iff.mp e
  cases e
  refine hi _ _ _ _ e1 g σ H r hσ _ fun g1 H1 J l1 r1 src => fun p hp => ?_
  have hFp : ∀ a u, g1.F a = some u → a ≠ p ∧ g1.F a = some u := fun a u ea => ⟨ne_of_none (r1.frm a u ea).1 hp, ea⟩
  generalize hf : (fun (d : D) (S : Store) => (asgn tg d (wipeE ρ vs)).bind fun ρ' => (evTo c cond ρ' S).bind fun q =>
      if q.1 = true then (evE c kx ρ' q.2).bind fun y => (evE c vx ρ' y.2).bind fun w => match y.1 with
        | .d kd => (keyOf kd).bind fun k => (fzW w.1 w.2).map fun z => (some (k, z.1), z.2)
        | _ => none else some (none, q.2)) = f at e2
  refine ⟨fun i m H => m = ds.length - i ∧ i ≤ ds.length ∧ ∃ gb S' kvs es, g1.le gb ∧ Rel K fa (gb.hold p (.dK kvs)) H S' ∧ RepDs K fa gb.G (kvs.map (·.2)) es ∧ compD f (ds.drop i) S' (kvs.map (·.1)) es = some ((rk, rd), S2),
    ⟨_, rfl, Nat.zero_le _, g1, S1, [], [], .refl g1, r1.hold hp, RepDs.nil, by simpa using e2⟩, ?_⟩
  rintro i m H ⟨rfl, hil, gb, S', kvs, es, lb, rb, hacc, ec⟩
  have s0 := src i _ H S' (show GLe g1.G (gb.hold p (.dK kvs)).G from lb.G) rb
  rcases Nat.eq_or_lt_of_le hil with hi | hi
  · left
    refine ⟨s0.2 (by omega), ?_⟩
    subst hi
    rw [List.drop_length] at ec
    simp only [compD] at ec
    cases ec
    obtain ⟨rf, hg⟩ := rb.unhold (p := p) (o := .dK kvs) (F0 := gb.F) upd_same fun a u ea => ⟨by rw [lb.F] at ea; exact (hFp a u ea).1, by show upd gb.F p _ a = some u; rw [upd_ne (by rw [lb.F] at ea; exact (hFp a u ea).1)]; exact ea⟩
    have la := (Gh.le_add (g := gb.hold p (.dK kvs)) (p := p) (o := HO.dK kvs) hg)
    refine k _ H _ ((l1.trans lb).trans (leF (.refl gb) la)) rf ?_
    simp only [RepW, RepD]
    exact ⟨p, kvs, rfl, upd_same, rfl, RepDs.mono la.G hacc⟩
  · right
    have hd : ds[i]? = some ds[i] := List.getElem?_eq_getElem hi
    obtain ⟨hgo, hy⟩ := s0.1 _ hd
    have edrop : ds.drop i = ds[i] :: ds.drop (i + 1) := List.drop_eq_getElem_cons hi
    rw [edrop] at ec
    simp only [compD] at ec
    obtain ⟨⟨o, S3⟩, e3, ec⟩ := Option.bind_eq_some_iff.mp ec
    refine ⟨hgo, fun H => ∃ gb S' kvs es, g1.le gb ∧ Rel K fa (gb.hold p (.dK kvs)) H S' ∧ RepDs K fa gb.G (kvs.map (·.2)) es ∧ compD f (ds.drop (i + 1)) S' (kvs.map (·.1)) es = some ((rk, rd), S2),
      fun H' q => ⟨ds.length - (i + 1), by omega, rfl, hi, q⟩, fun x H' y => ?_⟩
    obtain ⟨g2, l2, r2, hx⟩ := hy x H' y
    rw [← hf] at e3
    obtain ⟨ρ', e4, e3⟩ := Option.bind_eq_some_iff.mp e3
    have hσ2 : RepEn K fa g2 (L2.wipe σ vs) (wipeE ρ vs) := by
      have h1 := (hσ.mono l1).wipe vs
      refine ⟨h1.1, fun j w ej => ?_⟩
      obtain ⟨v, a, b⟩ := h1.2 j w ej
      refine ⟨v, a, ?_⟩
      have b2 := RepW.mono (leF lb l2) b
      cases w with
      | d z => exact b2
      | mu n => exact b2
    refine tg_ok r2 e4 hx hσ2 fun σ2 hσ3 hw => ⟨(hw vs htg).trans wipe_wipe, ?_⟩
    have elem : ∀ g3 H3 S4, g2.le g3 → Rel K fa g3 H3 S4 → ((evE c kx ρ' S4).bind fun y => (evE c vx ρ' y.2).bind fun w => match y.1 with
        | .d kd => (keyOf kd).bind fun k => (fzW w.1 w.2).map fun z => (some (k, z.1), z.2)
        | _ => none) = some (o, S3) →
        tE K fa (spC K fa C c) tb kx σ2 H3 fun y H4 => tE K fa (spC K fa C c) tb vx σ2 H4 fun z H5 => ∃ kvs k, y = kV k ∧ H5 p = some (.dK kvs) ∧ kvs.length < sizeLine ∧ (fun H => ∃ gb S' kvs es, g1.le gb ∧ Rel K fa (gb.hold p (.dK kvs)) H S' ∧ RepDs K fa gb.G (kvs.map (·.2)) es ∧ compD f (ds.drop (i + 1)) S' (kvs.map (·.1)) es = some ((rk, rd), S2)) (upd H5 p (.dK (putK kvs k z))) := fun g3 H3 S4 l3 r3 e5 => by
      obtain ⟨⟨y5, S5⟩, e6, e5⟩ := Option.bind_eq_some_iff.mp e5
      obtain ⟨⟨w5, S6⟩, e7, e5⟩ := Option.bind_eq_some_iff.mp e5
      cases y5 with
      | mu n => cases e5
      | d kd =>
        simp only at e5 e7
        obtain ⟨kk, e8, e5⟩ := Option.bind_eq_some_iff.mp e5
        obtain ⟨⟨d5, S7⟩, e9, e5⟩ := Option.map_eq_some_iff.mp e5
        cases e5
        refine hk _ _ _ _ e6 g3 σ2 H3 r3 (hσ3.mono l3) _ fun g4 H4 y l4 r4 h4 => he _ _ _ _ e7 g4 σ2 H4 r4 ((hσ3.mono l3).mono l4) _ fun g5 H5 z l5 r5 h5 => ?_
        obtain rfl := keyOf_ok (K := K) (fa := fa) e8 h4
        obtain ⟨g6, l6, r6, h6⟩ := r5.fz h5 e9
        have l26 := l2.trans (l3.trans (l4.trans (l5.trans l6)))
        have hF6 : g6.F p = some (.dK kvs) := by rw [l26.F]; exact upd_same
        simp only at ec
        split at ec
        case isFalse => cases ec
        rename_i hz
        obtain ⟨p1, p2⟩ := putD_ok (k := kk) h6 (RepDs.mono l26.G hacc)
        refine ⟨kvs, kk, rfl, (r6.frm p _ hF6).1, by simpa using hz, { g6 with F := g1.F }, _, putK kvs kk z, _, leF lb l26, ?_, p2, by rw [p1]; exact ec⟩
        have r7 := r6.rehold (o' := .dK (putK kvs kk z)) hF6
        have ef : upd g6.F p (HO.dK (putK kvs kk z)) = upd g1.F p (HO.dK (putK kvs kk z)) := by
          rw [l26.F]
          show upd (upd gb.F p _) p _ = _
          rw [upd_upd, lb.F]
        rw [ef] at r7
        exact r7
    obtain ⟨⟨b, S4⟩, e5, e3⟩ := Option.bind_eq_some_iff.mp e3
    cases cond with
    | none =>
      simp only [evTo] at e5
      cases e5
      simp only [tTo]
      unfold tYes
      simp only [if_true] at e3 ⊢
      exact elem g2 H' S' (Gh.le.refl g2) r2 e3
    | some t =>
      simp only [evTo] at e5
      refine hc _ _ _ _ e5 g2 σ2 H' r2 hσ3 _ fun g3 H3 l3 r3 => ?_
      cases b with
      | true =>
        rw [if_pos rfl]
        simp only [if_true] at e3
        exact elem g3 H3 S4 l3 r3 e3
      | false =>
        rw [if_neg (fun z => nomatch z)]
        simp only [Bool.false_eq_true, if_false] at e3
        cases e3
        have l23 := l2.trans l3
        refine ⟨{ g3 with F := g1.F }, S3, kvs, es, leF lb l23, ?_, RepDs.mono l23.G hacc, ec⟩
        have hF3 : g3.F = upd g1.F p (.dK kvs) := by rw [l23.F, ← lb.F]; rfl
        have r6 := r3
        show Rel K fa { g3 with F := upd g1.F p (.dK kvs) } H3 S3
        rw [← hF3]
        exact r6
theorem okT_val {e : E} (h : OkE K fa C c tb e) : OkT K fa C c tb (.val e) := fun ρ S w S' ev g σ H r hσ Q k => by
  simp only [evT] at ev
  obtain ⟨⟨x, S1⟩, e1, ev⟩ := Option.bind_eq_some_iff.mp ev
  split at ev
  · rename_i b hb
    cases ev
    obtain rfl : x = _ := hb
    refine h _ _ _ _ e1 g σ H r hσ _ fun g1 H1 v l1 r1 h1 => ?_
    simp only [RepW, RepD] at h1
    exact ⟨w, h1, k g1 H1 l1 r1⟩
  · cases ev
theorem okT_and {a b : T} (ha : OkT K fa C c tb a) (hb : OkT K fa C c tb b) : OkT K fa C c tb (.and a b) := fun ρ S w S' e g σ H r hσ Q k => by
  simp only [evT] at e
  obtain ⟨⟨x, S1⟩, e1, e⟩ := Option.bind_eq_some_iff.mp e
  refine ha _ _ _ _ e1 g σ H r hσ _ fun g1 H1 l1 r1 => ?_
  cases x with
  | true =>
    rw [if_pos rfl] at e ⊢
    exact hb _ _ _ _ e g1 σ H1 r1 (hσ.mono l1) Q fun g2 H2 l2 r2 => k g2 H2 (l1.trans l2) r2
  | false =>
    rw [if_neg (fun z => nomatch z)] at e ⊢
    cases e
    exact k g1 H1 l1 r1
theorem okT_or {a b : T} (ha : OkT K fa C c tb a) (hb : OkT K fa C c tb b) : OkT K fa C c tb (.or a b) := fun ρ S w S' e g σ H r hσ Q k => by
  simp only [evT] at e
  obtain ⟨⟨x, S1⟩, e1, e⟩ := Option.bind_eq_some_iff.mp e
  refine ha _ _ _ _ e1 g σ H r hσ _ fun g1 H1 l1 r1 => ?_
  cases x with
  | true =>
    rw [if_pos rfl] at e ⊢
    cases e
    exact k g1 H1 l1 r1
  | false =>
    rw [if_neg (fun z => nomatch z)] at e ⊢
    exact hb _ _ _ _ e g1 σ H1 r1 (hσ.mono l1) Q fun g2 H2 l2 r2 => k g2 H2 (l1.trans l2) r2
theorem okT_not {a : T} (ha : OkT K fa C c tb a) : OkT K fa C c tb (.not a) := fun ρ S w S' e g σ H r hσ Q k => by
  simp only [evT] at e
  obtain ⟨⟨x, S1⟩, e1, e⟩ := Option.map_eq_some_iff.mp e
  cases e
  exact ha _ _ _ _ e1 g σ H r hσ _ fun g1 H1 l1 r1 => k g1 H1 l1 r1
theorem okEs_nil : OkEs K fa C c tb .nil := fun ρ S w S' e g σ H r hσ Q k => by
  simp only [evEs] at e
  cases e
  exact k g H [] (.refl g) r .nil
theorem okEs_cons {a : E} {as : Es} (ha : OkE K fa C c tb a) (h : OkEs K fa C c tb as) : OkEs K fa C c tb (.cons a as) := fun ρ S w S' e g σ H r hσ Q k => by
  simp only [evEs] at e
  obtain ⟨⟨x, S1⟩, e1, e⟩ := Option.bind_eq_some_iff.mp e
  obtain ⟨⟨ws, S2⟩, e2, e⟩ := Option.map_eq_some_iff.mp e
  cases e
  refine ha _ _ _ _ e1 g σ H r hσ _ fun g1 H1 v l1 r1 h1 => h _ _ _ _ e2 g1 σ H1 r1 (hσ.mono l1) _ fun g2 H2 vs l2 r2 h2 => ?_
  exact k g2 H2 _ (l1.trans l2) r2 (.cons (RepW.mono l2 h1) h2)
theorem okZ_nil : OkZ K fa C c tb .nil := fun ρ S w S' e g σ H r hσ Q k => by
  simp only [evZ] at e
  cases e
  exact k g H [] (.refl g) r RepDs.nil
theorem okZ_cons {a : E} {as : Es} (ha : OkE K fa C c tb a) (h : OkZ K fa C c tb as) : OkZ K fa C c tb (.cons a as) := fun ρ S w S' e g σ H r hσ Q k => by
  simp only [evZ] at e
  obtain ⟨⟨x, S1⟩, e1, e⟩ := Option.bind_eq_some_iff.mp e
  obtain ⟨⟨d, S2⟩, e2, e⟩ := Option.bind_eq_some_iff.mp e
  obtain ⟨⟨ws, S3⟩, e3, e⟩ := Option.map_eq_some_iff.mp e
  cases e
  refine ha _ _ _ _ e1 g σ H r hσ _ fun g1 H1 v l1 r1 h1 => ?_
  obtain ⟨g2, l2, r2, h2⟩ := r1.fz h1 e2
  refine h _ _ _ _ e3 g2 σ H1 r2 ((hσ.mono l1).mono l2) _ fun g3 H3 vs l3 r3 h3 => ?_
  exact k g3 H3 _ (l1.trans (l2.trans l3)) r3 (RepDs.cons (RepD.mono l3.G h2) h3)
theorem okO_none : OkO K fa C c tb .none := fun ρ S w S' e g σ H r hσ Q k => by
  simp only [evO] at e
  cases e
  exact k g H (.refl g) r
theorem okO_some {a : E} (ha : OkE K fa C c tb a) : OkO K fa C c tb (.some a) := fun ρ S w S' e g σ H r hσ Q k => by
  simp only [evO] at e
  obtain ⟨⟨x, S1⟩, e1, e⟩ := Option.bind_eq_some_iff.mp e
  split at e
  · rename_i i hb
    cases e
    obtain rfl : x = _ := hb
    refine ha _ _ _ _ e1 g σ H r hσ _ fun g1 H1 v l1 r1 h1 => ?_
    simp only [RepW, RepD] at h1
    exact ⟨i, h1, k g1 H1 l1 r1⟩
  · cases e
theorem okI_seq {a : E} (ha : OkE K fa C c tb a) : OkI K fa C c tb (.seq a) := fun ρ S ds S' e g σ H r hσ R k => by
  simp only [evI] at e
  obtain ⟨⟨x, S1⟩, e1, e⟩ := Option.bind_eq_some_iff.mp e
  split at e
  · rename_i ds' hb
    cases e
    obtain rfl : x = _ := hb
    left
    refine ha _ _ _ _ e1 g σ H r hσ _ fun g1 H1 v l1 r1 h1 => ?_
    simp only [RepW, RepD] at h1
    obtain ⟨a, vs, rfl, q, h2⟩ := h1
    exact ⟨a, rfl, ⟨vs, .of (r1.lst q)⟩, k g1 H1 _ l1 r1 (src_list q h2)⟩
  · rename_i ds' hb
    cases e
    obtain rfl : x = _ := hb
    refine .inr (.inl ?_)
    refine ha _ _ _ _ e1 g σ H r hσ _ fun g1 H1 v l1 r1 h1 => ?_
    simp only [RepW, RepD] at h1
    obtain ⟨a, vs, rfl, q, h2⟩ := h1
    exact ⟨a, rfl, ⟨vs, r1.sqT q⟩, k g1 H1 _ l1 r1 (src_tup q h2)⟩
  · rename_i y hb
    cases e
    obtain rfl : x = _ := hb
    refine .inr (.inr ?_)
    refine ha _ _ _ _ e1 g σ H r hσ _ fun g1 H1 v l1 r1 h1 => ?_
    simp only [RepW, RepD] at h1
    exact ⟨y, h1, k g1 H1 _ l1 r1 (src_str y)⟩
  · cases e
theorem okI_fzq {a : E} (ha : OkE K fa C c tb a) : OkI K fa C c tb (.fzq a) := fun ρ S ds S' e g σ H r hσ R k => by
  simp only [evI] at e
  obtain ⟨⟨x, S1⟩, e1, e⟩ := Option.bind_eq_some_iff.mp e
  obtain ⟨⟨d, S2⟩, e2, e⟩ := Option.bind_eq_some_iff.mp e
  split at e
  · rename_i ds' hb
    cases e
    obtain rfl : d = _ := hb
    left
    refine ha _ _ _ _ e1 g σ H r hσ _ fun g1 H1 v l1 r1 h1 => ?_
    obtain ⟨g2, l2, r2, h2⟩ := r1.fz h1 e2
    simp only [RepD] at h2
    obtain ⟨a, vs, rfl, q, h2⟩ := h2
    exact ⟨a, rfl, ⟨vs, .of (r2.lst q)⟩, k g2 H1 _ (l1.trans l2) r2 (src_list q h2)⟩
  · rename_i ds' hb
    cases e
    obtain rfl : d = _ := hb
    refine .inr (.inl ?_)
    refine ha _ _ _ _ e1 g σ H r hσ _ fun g1 H1 v l1 r1 h1 => ?_
    obtain ⟨g2, l2, r2, h2⟩ := r1.fz h1 e2
    simp only [RepD] at h2
    obtain ⟨a, vs, rfl, q, h2⟩ := h2
    exact ⟨a, rfl, ⟨vs, r2.sqT q⟩, k g2 H1 _ (l1.trans l2) r2 (src_tup q h2)⟩
  · cases e
theorem okI_r1 {a : E} (ha : OkE K fa C c tb a) : OkI K fa C c tb (.r1 a) := fun ρ S ds S' e g σ H r hσ R k => by
  simp only [evI] at e
  obtain ⟨⟨x, S1⟩, e1, e⟩ := Option.bind_eq_some_iff.mp e
  split at e
  · rename_i i hb
    obtain rfl : x = _ := hb
    split at e
    · rename_i hz
      cases e
      refine ha _ _ _ _ e1 g σ H r hσ _ fun g1 H1 v l1 r1 h1 => ?_
      simp only [RepW, RepD] at h1
      subst h1
      exact ⟨i, rfl, hz.1, hz.2, k g1 H1 _ l1 r1 (src_range 0 _)⟩
    · cases e
  · cases e
theorem okI_r2 {a b : E} (ha : OkE K fa C c tb a) (hb : OkE K fa C c tb b) : OkI K fa C c tb (.r2 a b) := fun ρ S ds S' e g σ H r hσ R k => by
  simp only [evI] at e
  obtain ⟨⟨x, S1⟩, e1, e⟩ := Option.bind_eq_some_iff.mp e
  obtain ⟨⟨y, S2⟩, e2, e⟩ := Option.bind_eq_some_iff.mp e
  split at e
  · rename_i i j h1 h2
    obtain rfl : x = _ := h1
    obtain rfl : y = _ := h2
    split at e
    · rename_i hz
      cases e
      refine ha _ _ _ _ e1 g σ H r hσ _ fun g1 H1 v l1 r1 h1 => hb _ _ _ _ e2 g1 σ H1 r1 (hσ.mono l1) _ fun g2 H2 u l2 r2 h2 => ?_
      simp only [RepW, RepD] at h1 h2
      subst h1; subst h2
      exact ⟨i, j, rfl, hz, k g2 H2 _ (l1.trans l2) r2 (src_range i _)⟩
    · cases e
  · cases e
theorem okI_zip {a b : E} (ha : OkE K fa C c tb a) (hb : OkE K fa C c tb b) : OkI K fa C c tb (.zip a b) := fun ρ S ds S' e g σ H r hσ R k => by
  simp only [evI] at e
  obtain ⟨⟨x, S1⟩, e1, e⟩ := Option.bind_eq_some_iff.mp e
  obtain ⟨⟨y, S2⟩, e2, e⟩ := Option.bind_eq_some_iff.mp e
  obtain ⟨xs, e3, e⟩ := Option.bind_eq_some_iff.mp e
  obtain ⟨ys, e4, e⟩ := Option.map_eq_some_iff.mp e
  cases e
  refine ha _ _ _ _ e1 g σ H r hσ _ fun g1 H1 v l1 r1 h1 => hb _ _ _ _ e2 g1 σ H1 r1 (hσ.mono l1) _ fun g2 H2 u l2 r2 h2 => ?_
  obtain ⟨k1, p, vs, rfl, q1, q2⟩ := seqOf_ok e3 (RepW.mono l2 h1)
  obtain ⟨k2, p', vs', rfl, q1', q2'⟩ := seqOf_ok e4 h2
  exact ⟨k1, k2, p, p', vs, vs', rfl, q1.sq r2, q1'.sq r2, k g2 H2 _ (l1.trans l2) r2 (src_zip q1 q2 q1' q2')⟩

mutual
theorem okE (htb : ∀ f ws S r, c f ws S = some r → tb f) : ∀ e : E, OkE K fa C c tb e
  | .var _ => ok_var
  | .cst _ => ok_cst
  | .fnv _ => ok_fnv
  | .bin _ a b => ok_bin (okE htb a) (okE htb b)
  | .fz a => ok_fz (okE htb a)
  | .neg a => ok_neg (okE htb a)
  | .cmp _ a b => ok_cmp (okE htb a) (okE htb b)
  | .chain _ _ a b q => ok_chain (okE htb a) (okE htb b) (okE htb q)
  | .isN a => ok_isN (okE htb a)
  | .notN a => ok_notN (okE htb a)
  | .and a b => ok_and (okE htb a) (okE htb b)
  | .or a b => ok_or (okE htb a) (okE htb b)
  | .not a => ok_not (okE htb a)
  | .ite t a b => ok_ite (okT htb t) (okE htb a) (okE htb b)
  | .call _ as => ok_call (okEs htb as)
  | .callv _ as => ok_callv htb (okEs htb as)
  | .bi _ as => ok_bi (okEs htb as)
  | .isi1 a _ => ok_isi1 (okE htb a)
  | .isi2 a _ _ => ok_isi2 (okE htb a)
  | .mt0 _ a => ok_mt0 (okE htb a)
  | .mt1 _ a b => ok_mt1 (okE htb a) (okE htb b)
  | .ix a b => ok_ix (okE htb a) (okE htb b)
  | .sl a lo hi => ok_sl (okE htb a) (okO htb lo) (okO htb hi)
  | .tup as => ok_tup (okZ htb as)
  | .lst as => ok_lst (okZ htb as)
  | .comp _ _ it cond elt => ok_comp (okI htb it) (okTo htb cond) (okE htb elt)
  | .dget a b => ok_dget (okE htb a) (okE htb b)
  | .get1 a b => ok_get1 (okE htb a) (okE htb b)
  | .get2 a b z => ok_get2 (okE htb a) (okE htb b) (okE htb z)
  | .din b a => ok_din (okE htb b) (okE htb a)
  | .sortR _ => ok_sortR
  | .sin _ b a => ok_sin (okE htb b) (okE htb a)
  | .compK _ _ _ cond elt => ok_compK (okTo htb cond) (okE htb elt)
  | .dcomp _ _ it cond kx vx => ok_dcomp (okI htb it) (okTo htb cond) (okE htb kx) (okE htb vx)
theorem okT (htb : ∀ f ws S r, c f ws S = some r → tb f) : ∀ e : T, OkT K fa C c tb e
  | .val e => okT_val (okE htb e)
  | .and a b => okT_and (okT htb a) (okT htb b)
  | .or a b => okT_or (okT htb a) (okT htb b)
  | .not a => okT_not (okT htb a)
theorem okTo (htb : ∀ f ws S r, c f ws S = some r → tb f) : ∀ e : To, OkTo K fa C c tb e
  | .none => trivial
  | .some t => okT htb t
theorem okEs (htb : ∀ f ws S r, c f ws S = some r → tb f) : ∀ e : Es, OkEs K fa C c tb e
  | .nil => okEs_nil
  | .cons a as => okEs_cons (okE htb a) (okEs htb as)
theorem okZ (htb : ∀ f ws S r, c f ws S = some r → tb f) : ∀ e : Es, OkZ K fa C c tb e
  | .nil => okZ_nil
  | .cons a as => okZ_cons (okE htb a) (okZ htb as)
theorem okO (htb : ∀ f ws S r, c f ws S = some r → tb f) : ∀ e : Eo, OkO K fa C c tb e
  | .none => okO_none
  | .some a => okO_some (okE htb a)
theorem okI (htb : ∀ f ws S r, c f ws S = some r → tb f) : ∀ e : It, OkI K fa C c tb e
  | .seq a => okI_seq (okE htb a)
  | .fzq a => okI_fzq (okE htb a)
  | .r1 a => okI_r1 (okE htb a)
  | .r2 a b => okI_r2 (okE htb a) (okE htb b)
  | .zip a b => okI_zip (okE htb a) (okE htb b)
end
end
end Pv

set_option Elab.async false
set_option linter.all false
set_option maxRecDepth 100000
set_option maxHeartbeats 4000000
namespace Pv
open PySem L2

section
variable {K : PySem.W.Frag} {fa : FA} {C : Addr} {W : WX} {c : Call} {tb : Nat → Prop} {g : Gh} {H : Hp} {S : Store}
theorem Rel.pushHeld {p : Addr} {o : HO} {mo : MO} (r : Rel K fa (g.hold p o) H S) (hF : ∀ a u, g.F a = some u → a ≠ p) (hm : RepM K fa g.G p o mo) : Rel K fa (g.push p) H (S ++ [mo]) := by
  obtain ⟨q1, q2, q3⟩ := r.frm p o upd_same
  have rl : S.length = g.n := r.len
  have old : ∀ {i : Nat}, i < S.length → (g.push p).φ i = g.φ i := fun {i} hi => by
    show (if i = g.n then p else g.φ i) = g.φ i
    rw [if_neg (by omega)]
  have new : (g.push p).φ S.length = p := by
    show (if S.length = g.n then p else g.φ S.length) = p
    rw [if_pos rl]
  refine ⟨by simp [Gh.push, rl], r.ext, fun i m e hm' => ?_, fun i j mi mj ei ej hi hj q => ?_, fun a u e => ?_, fun a u e => r.ft a u (by show upd g.F p o a = some u; rw [upd_ne (hF a u e)]; exact e), r.tb, r.gt⟩
  · rcases getElem?_push e with ⟨e1, hl⟩ | ⟨rfl, rfl⟩
    · rw [old hl]; exact r.live i m e1 hm'
    · rw [new]; exact ⟨o, q1, hm, q2⟩
  · rcases getElem?_push ei with ⟨e1, l1⟩ | ⟨rfl, rfl⟩
    · rcases getElem?_push ej with ⟨e2, l2⟩ | ⟨rfl, rfl⟩
      · rw [old l1, old l2] at q
        exact r.inj i j mi mj e1 e2 hi hj q
      · rw [old l1, new] at q
        exact absurd q (q3 i mi e1 hi)
    · rcases getElem?_push ej with ⟨e2, l2⟩ | ⟨rfl, rfl⟩
      · rw [new, old l2] at q
        exact absurd q.symm (q3 j mj e2 hj)
      · rfl
  · have ne : a ≠ p := hF a u e
    obtain ⟨h1, h2, h3⟩ := r.frm a u (by show upd g.F p o a = some u; rw [upd_ne ne]; exact e)
    refine ⟨h1, h2, fun i m ei hi => ?_⟩
    rcases getElem?_push ei with ⟨e1, l1⟩ | ⟨rfl, rfl⟩
    · rw [old l1]; exact h3 i m e1 hi
    · rw [new]; exact ne.symm
theorem lstAt_some {S : Store} {n : Nat} {ds : List D} (h : lstAt S n = some ds) : S[n]? = some (.lst ds) := by
  unfold lstAt at h
  split at h
  · cases h; assumption
  · cases h
theorem POut.mono {g g' : Gh} {Z : Ends} (l : g.le g') : ∀ {o : Out}, POut K fa C W g Z o → POut K fa C W g' Z o
  | .nx _ _, h => fun g2 σ H l2 => h g2 σ H (l.trans l2)
  | .bk _ _, h => fun g2 σ H l2 => h g2 σ H (l.trans l2)
  | .ct _ _, h => fun g2 σ H l2 => h g2 σ H (l.trans l2)
  | .rt _ _, h => fun g2 H v l2 => h g2 H v (l.trans l2)
  | .xc _ _, h => fun σ g2 H dd vv l2 => h σ g2 H dd vv (l.trans l2)
def OkS (K : PySem.W.Frag) (fa : FA) (C : Addr) (W : WX) (c : Call) (tb : Nat → Prop) (s : Pv.S) : Prop := ∀ ρ S o, evS c s ρ S = some o → ∀ g σ H, Rel K fa g H S → RepEn K fa g σ ρ → ∀ Z : Ends, POut K fa C W g Z o → tS K fa (spC K fa C c) tb C W s Z σ H
def OkSs (K : PySem.W.Frag) (fa : FA) (C : Addr) (W : WX) (c : Call) (tb : Nat → Prop) (s : Ss) : Prop := ∀ ρ S o, evSs c s ρ S = some o → ∀ g σ H, Rel K fa g H S → RepEn K fa g σ ρ → ∀ Z : Ends, POut K fa C W g Z o → tSs K fa (spC K fa C c) tb C W s Z σ H

variable (htb : ∀ f ws S r, c f ws S = some r → tb f)
theorem okS_asg {tg : Tg} {e : E} (he : OkE K fa C c tb e) : OkS K fa C W c tb (.asg tg e) := fun ρ S o ev g σ H r hσ Z k => by
  simp only [evS] at ev
  obtain ⟨⟨w, S1⟩, e1, ev⟩ := Option.bind_eq_some_iff.mp ev
  refine he _ _ _ _ e1 g σ H r hσ _ fun g1 H1 v l1 r1 h1 => ?_
  have gen : ∀ {tg : Tg} {d : D} {o : Out}, RepD K fa g1.G v d → ((asgn tg d ρ).map fun ρ' => Out.nx ρ' S1) = some o → POut K fa C W g Z o → tTg K tg v σ H1 Z.nx := fun h1 ev k => by
    obtain ⟨ρ', e2, ev⟩ := Option.map_eq_some_iff.mp ev
    cases ev
    exact tg_ok r1 e2 h1 (hσ.mono l1) fun σ' h2 _ => k g1 σ' H1 l1 r1 h2
  split at ev
  · split at ev
    · cases ev
      exact k g1 _ H1 l1 r1 ((hσ.mono l1).set h1)
    · cases ev
  · split at ev
    · rename_i d hw
      obtain rfl : w = _ := hw
      exact gen h1 ev k
    · cases ev
theorem okS_par {i j : Nat} {a b : E} (ha : OkE K fa C c tb a) (hb : OkE K fa C c tb b) : OkS K fa C W c tb (.par i j a b) := fun ρ S o ev g σ H r hσ Z k => by
  simp only [evS] at ev
  obtain ⟨⟨x, S1⟩, e1, ev⟩ := Option.bind_eq_some_iff.mp ev
  obtain ⟨⟨y, S2⟩, e2, ev⟩ := Option.bind_eq_some_iff.mp ev
  split at ev
  · cases ev
    refine ha _ _ _ _ e1 g σ H r hσ _ fun g1 H1 v l1 r1 h1 => hb _ _ _ _ e2 g1 σ H1 r1 (hσ.mono l1) _ fun g2 H2 u l2 r2 h2 => ?_
    exact ⟨v, u, rfl, k g2 _ H2 (l1.trans l2) r2 ((((hσ.mono l1).mono l2).set (RepW.mono l2 h1)).set h2)⟩
  · cases ev
theorem okS_newD {i : Nat} : OkS K fa C W c tb (.newD i) := fun ρ S o ev g σ H r hσ Z k => by
  simp only [evS] at ev
  split at ev
  · cases ev
    intro p hp
    have r1 := r.push (o := .dK []) (mo := .dK [] []) hp ⟨[], rfl, rfl, RepDs.nil⟩
    refine k (g.push p) _ _ Gh.le_push r1 ((hσ.mono Gh.le_push).set ?_)
    refine ⟨?_, by show S.length < g.n + 1; rw [r.len]; omega⟩
    show V.ref p = V.ref (if S.length = g.n then p else g.φ S.length)
    rw [if_pos r.len]
  · cases ev
theorem okS_newT {i : Nat} : OkS K fa C W c tb (.newT i) := fun ρ S o ev g σ H r hσ Z k => by
  simp only [evS] at ev
  split at ev
  · cases ev
    intro p hp
    have r1 := r.push (o := .dT []) (mo := .dT [] []) hp ⟨[], rfl, rfl, RepDs.nil⟩
    refine k (g.push p) _ _ Gh.le_push r1 ((hσ.mono Gh.le_push).set ?_)
    refine ⟨?_, by show S.length < g.n + 1; rw [r.len]; omega⟩
    show V.ref p = V.ref (if S.length = g.n then p else g.φ S.length)
    rw [if_pos r.len]
  · cases ev
theorem RepDs.eraseIdx {G : Hp} : ∀ {ds : List D} {vs : List V} (k : Nat), RepDs K fa G vs ds → RepDs K fa G (vs.eraseIdx k) (ds.eraseIdx k)
  | [], vs, k, h => by simp only [RepDs] at h; subst h; simpa using RepDs.nil
  | d :: ds, vs, 0, h => by
    simp only [RepDs] at h
    obtain ⟨v, t, rfl, h1, h2⟩ := h
    simpa using h2
  | d :: ds, vs, k + 1, h => by
    simp only [RepDs] at h
    obtain ⟨v, t, rfl, h1, h2⟩ := h
    simpa using RepDs.cons h1 (RepDs.eraseIdx k h2)
theorem mu_new0 {p : Addr} (hl : S.length = g.n) : RepW K fa (g.push p) (.ref p) (.mu S.length) := by
  refine ⟨?_, by show S.length < g.n + 1; omega⟩
  show V.ref p = V.ref (if S.length = g.n then p else g.φ S.length)
  rw [if_pos hl]
theorem okS_newS {i : Nat} : OkS K fa C W c tb (.newS i) := fun ρ S o ev g σ H r hσ Z k => by
  simp only [evS] at ev
  split at ev
  · cases ev
    refine ⟨rfl, fun p hp => ?_⟩
    have r1 := r.push (o := SetK fa.P fa.w p (fun _ => false) 0) (mo := .set []) hp (by
      show SetK fa.P fa.w p (fun _ => false) 0 = SetK fa.P fa.w p (fun k => hasK k ([] : List Key)) ([] : List Key).length
      congr 1)
    refine k (g.push p) _ _ Gh.le_push r1 ((hσ.mono Gh.le_push).set ?_)
    refine ⟨?_, by show S.length < g.n + 1; rw [r.len]; omega⟩
    show V.ref p = V.ref (if S.length = g.n then p else g.φ S.length)
    rw [if_pos r.len]
  · cases ev
theorem okS_addS {i : Nat} {e : E} (he : OkE K fa C c tb e) : OkS K fa C W c tb (.addS i e) := fun ρ S o ev g σ H r hσ Z k => by
  simp only [evS] at ev
  split at ev
  · rename_i n hn
    obtain ⟨ks0, e0, ev⟩ := Option.bind_eq_some_iff.mp ev
    obtain ⟨⟨w, S1⟩, e1, ev⟩ := Option.bind_eq_some_iff.mp ev
    cases w with
    | mu _ => cases ev
    | d kd =>
      obtain ⟨kk, e2, ev⟩ := Option.bind_eq_some_iff.mp ev
      obtain ⟨ks, e3, ev⟩ := Option.bind_eq_some_iff.mp ev
      split at ev
      · rename_i hz
        cases ev
        obtain ⟨v, q1, rfl, q3⟩ := hσ.2 i _ hn
        obtain ⟨u0, m1, m2, m3⟩ := r.live n _ (setAt_some e0) (fun z => nomatch z)
        have m2' : u0 = SetK fa.P fa.w (g.φ n) (fun k => hasK k ks0) ks0.length := m2
        subst m2'
        refine ⟨_, q1, ⟨_, _, _, rfl, m1⟩, he _ _ _ _ e1 g σ H r hσ _ fun g1 H1 v1 l1 r1 h1 => ?_⟩
        obtain ⟨u, n1, n2, n3⟩ := r1.live n _ (setAt_some e3) (fun z => nomatch z)
        have n2' : u = SetK fa.P fa.w (g1.φ n) (fun k => hasK k ks) ks.length := n2
        subst n2'
        have ef : g1.φ n = g.φ n := l1.φ n q3
        have r3 := r1.write (mo := .set (if hasK kk ks = true then ks else ks ++ [kk])) (o := SetK fa.P fa.w (g1.φ n) (fun j => hasK j ks || decide (j = kk)) (if hasK kk ks = true then ks.length else ks.length + 1)) (setAt_some e3) (fun z => nomatch z) (by
          show SetK fa.P fa.w (g1.φ n) _ _ = SetK fa.P fa.w (g1.φ n) _ _
          by_cases hk : hasK kk ks = true
          · rw [if_pos hk, if_pos hk]
            congr 1
            funext j
            by_cases hj : j = kk
            · subst hj; rw [hk]; simp
            · simp [hj]
          · rw [if_neg hk, if_neg hk]
            congr 1
            · funext j
              unfold hasK
              rw [List.any_append]
              by_cases hj : j = kk
              · subst hj; simp
              · simp [hj, fun z : kk = j => hj z.symm]
                intro z; exact absurd z.symm hj
            · simp)
        rw [ef] at n1 r3
        exact ⟨g.φ n, kk, _, _, rfl, by rw [keyOf_ok (K := K) (fa := fa) e2 h1], n1, hz, k g1 σ _ l1 r3 (hσ.mono l1)⟩
      · cases ev
  · cases ev
theorem okS_whl {t : T} {body : Ss} (ht : OkT K fa C c tb t) (hb : OkSs K fa C W c tb body) : OkS K fa C W c tb (.whl t body) := fun ρ S o ev g σ H r hσ Z k => by
  simp only [evS] at ev
  generalize hf : (fun (ρ : En) (S : Store) => evSs c body ρ S) = f at ev
  generalize hq : (fun (ρ : En) (S : Store) => evT c t ρ S) = q at ev
  refine ⟨fun m σ H => ∃ g' ρ' S', g.le g' ∧ Rel K fa g' H S' ∧ RepEn K fa g' σ ρ' ∧ whL q f m ρ' S' = some o, ⟨5000, g, ρ, S, .refl g, r, hσ, ev⟩, ?_⟩
  rintro m σ' H' ⟨g2, ρ2, S2, l2, r2, hσ2, ef⟩
  cases m with
  | zero => simp only [whL] at ef; cases ef
  | succ m =>
    simp only [whL] at ef
    obtain ⟨⟨b, S3⟩, e3, ef⟩ := Option.bind_eq_some_iff.mp ef
    rw [← hq] at e3
    refine ht _ _ _ _ e3 g2 σ' H' r2 hσ2 _ fun g3 H3 l3 r3 => ?_
    dsimp only at ef
    split at ef
    · rename_i hb1
      rw [if_pos hb1]
      obtain ⟨o1, e4, ef⟩ := Option.bind_eq_some_iff.mp ef
      rw [← hf] at e4
      have l23 := l2.trans l3
      refine ⟨fun σ H => ∃ g' ρ' S', g.le g' ∧ Rel K fa g' H S' ∧ RepEn K fa g' σ ρ' ∧ whL q f m ρ' S' = some o, fun σ4 H4 w4 => ⟨m, Nat.lt_succ_self m, w4⟩, hb _ _ _ e4 g3 σ' H3 r3 (hσ2.mono l3) _ ?_⟩
      cases o1 with
      | nx ρ5 S5 => exact fun g5 σ5 H5 l5 r5 h5 => ⟨g5, ρ5, S5, l23.trans l5, r5, h5, ef⟩
      | ct ρ5 S5 => exact fun g5 σ5 H5 l5 r5 h5 => ⟨g5, ρ5, S5, l23.trans l5, r5, h5, ef⟩
      | bk ρ5 S5 =>
        cases ef
        exact fun g5 σ5 H5 l5 r5 h5 => k g5 σ5 H5 (l23.trans l5) r5 h5
      | rt d5 S5 =>
        cases ef
        exact fun g5 H5 v5 l5 r5 h5 => k g5 H5 v5 (l23.trans l5) r5 h5
      | xc d5 S5 =>
        cases ef
        exact fun σ5 g5 H5 dd vv l5 => k σ5 g5 H5 dd vv (l23.trans l5)
    · rename_i hb1
      rw [if_neg hb1]
      cases ef
      exact k g3 σ' H3 (l2.trans l3) r3 (hσ2.mono l3)
theorem okS_par2T {i j : Nat} : OkS K fa C W c tb (.par2T i j) := fun ρ S o ev g σ H r hσ Z k => by
  simp only [evS] at ev
  split at ev
  · cases ev
    intro p hp p2 hp2
    have r1 := r.push (o := .dT []) (mo := .dT [] []) hp ⟨[], rfl, rfl, RepDs.nil⟩
    have r2 := r1.push (o := .dT []) (mo := .dT [] []) hp2 ⟨[], rfl, rfl, RepDs.nil⟩
    exact ⟨_, _, rfl, k _ _ _ (Gh.le_push.trans Gh.le_push) r2 ((((hσ.mono Gh.le_push).mono Gh.le_push).set (RepW.mono Gh.le_push (mu_new0 r.len))).set (mu_new0 r1.len))⟩
  · cases ev
theorem okS_popL {i : Nat} {e : E} (he : OkE K fa C c tb e) : OkS K fa C W c tb (.popL i e) := fun ρ S o ev g σ H r hσ Z k => by
  simp only [evS] at ev
  split at ev
  · rename_i n hn
    obtain ⟨ds0, e0, ev⟩ := Option.bind_eq_some_iff.mp ev
    obtain ⟨⟨w, S1⟩, e1, ev⟩ := Option.bind_eq_some_iff.mp ev
    split at ev
    · rename_i z hw
      obtain rfl : w = _ := hw
      obtain ⟨ds, e3, ev⟩ := Option.bind_eq_some_iff.mp ev
      split at ev
      · rename_i hz
        cases ev
        obtain ⟨v, q1, rfl, q3⟩ := hσ.2 i _ hn
        obtain ⟨u0, m1, ⟨vs0, rfl, m2⟩, m3⟩ := r.live n _ (lstAt_some e0) (fun z => nomatch z)
        refine ⟨_, q1, .inl ⟨rfl, vs0, .of m1⟩, he _ _ _ _ e1 g σ H r hσ _ fun g1 H1 v1 l1 r1 h1 => ?_⟩
        simp only [RepW, RepD] at h1
        subst h1
        obtain ⟨u, n1, ⟨vs, rfl, n2⟩, n3⟩ := r1.live n _ (lstAt_some e3) (fun z => nomatch z)
        have ef : g1.φ n = g.φ n := (l1.φ n q3)
        have r3 := r1.write (mo := .lst (ds.eraseIdx z.toNat)) (o := .lst (vs.eraseIdx z.toNat)) (lstAt_some e3) (fun z => nomatch z) ⟨_, rfl, RepDs.eraseIdx z.toNat n2⟩
        rw [ef] at n1 r3
        have hl := n2.length
        have hix : seqIndex? z vs.length = some z.toNat := by
          unfold seqIndex?
          have h0 : ¬ z < 0 := by omega
          have h1 : (decide (0 ≤ z) && decide (z < (vs.length : Int))) = true := by
            rw [Bool.and_eq_true]
            exact ⟨decide_eq_true hz.1, decide_eq_true (by omega)⟩
          simp only [if_neg h0, h1, if_true]
        refine ⟨g.φ n, vs, z, z.toNat, _, rfl, rfl, n1, ?_, ?_, hix, List.getElem?_eq_getElem (by omega), k g1 σ _ l1 r3 (hσ.mono l1)⟩
        · have : (2 : Int) ^ 63 = 9223372036854775808 := by decide
          omega
        · have : (2 : Int) ^ 63 = 9223372036854775808 := by decide
          omega
      · cases ev
    · cases ev
  · cases ev
theorem okS_aug {i : Nat} {sb : Bool} {e : E} (he : OkE K fa C c tb e) : OkS K fa C W c tb (.aug i sb e) := fun ρ S o ev g σ H r hσ Z k => by
  simp only [evS] at ev
  split at ev
  · rename_i a ha
    obtain ⟨⟨w, S1⟩, e1, ev⟩ := Option.bind_eq_some_iff.mp ev
    split at ev
    · rename_i b hb
      obtain rfl : w = _ := hb
      cases ev
      obtain ⟨v, h1, h2⟩ := hσ.2 i _ ha
      simp only [RepW, RepD] at h2
      subst h2
      refine ⟨_, h1, he _ _ _ _ e1 g σ H r hσ _ fun g1 H1 v1 l1 r1 h3 => ?_⟩
      simp only [RepW, RepD] at h3
      subst h3
      cases sb with
      | false => exact ⟨a, b, rfl, rfl, k g1 _ _ l1 r1 ((hσ.mono l1).set (by simp only [Bool.false_eq_true, if_false, RepW, RepD]))⟩
      | true => exact ⟨a, b, rfl, rfl, k g1 _ _ l1 r1 ((hσ.mono l1).set (by simp only [if_true, RepW, RepD]))⟩
    · cases ev
  · cases ev
theorem mu_new {p : Addr} (hl : S.length = g.n) : RepW K fa (g.push p) (.ref p) (.mu S.length) := by
  refine ⟨?_, by show S.length < g.n + 1; omega⟩
  show V.ref p = V.ref (if S.length = g.n then p else g.φ S.length)
  rw [if_pos hl]
theorem okS_newL {i : Nat} {as : Es} (ha : OkZ K fa C c tb as) : OkS K fa C W c tb (.newL i as) := fun ρ S o ev g σ H r hσ Z k => by
  simp only [evS] at ev
  obtain ⟨⟨ds, S1⟩, e1, ev⟩ := Option.bind_eq_some_iff.mp ev
  split at ev
  · rename_i hz
    cases ev
    refine ha _ _ _ _ e1 g σ H r hσ _ fun g1 H1 vs l1 r1 h1 => ⟨by rw [h1.length]; exact hz.2, fun p hp => ?_⟩
    have r2 := r1.push (o := .lst vs) (mo := .lst ds) hp ⟨vs, rfl, h1⟩
    exact k (g1.push p) _ _ (l1.trans Gh.le_push) r2 (((hσ.mono l1).mono Gh.le_push).set (mu_new r1.len))
  · cases ev
theorem okS_newC {i : Nat} {vs : List Nat} {tg : Tg} {it : It} {cond : To} {elt : E} (hi : OkI K fa C c tb it) (hc : OkTo K fa C c tb cond) (he : OkE K fa C c tb elt) : OkS K fa C W c tb (.newC i vs tg it cond elt) := fun ρ S o ev g σ H r hσ Z k => by
  simp only [evS] at ev
  obtain ⟨⟨w, S1⟩, e1, ev⟩ := Option.bind_eq_some_iff.mp ev
  split at ev
  · rename_i ds hw
    obtain rfl : w = _ := hw
    split at ev
    · cases ev
      refine comp_core (Q := fun v H1 => gName i v σ H1 Z.nx) hi hc he e1 r hσ fun gb H' p accV lb hF rb hacc => ?_
      have r2 := rb.pushHeld (mo := .lst ds) hF ⟨accV, rfl, hacc⟩
      exact k (gb.push p) _ _ (lb.trans Gh.le_push) r2 (((hσ.mono lb).mono Gh.le_push).set (mu_new rb.len))
    · cases ev
  · cases ev
theorem okS_app {i : Nat} {e : E} (he : OkE K fa C c tb e) : OkS K fa C W c tb (.app i e) := fun ρ S o ev g σ H r hσ Z k => by
  simp only [evS] at ev
  split at ev
  · rename_i n hn
    obtain ⟨ds0, e0, ev⟩ := Option.bind_eq_some_iff.mp ev
    obtain ⟨⟨w, S1⟩, e1, ev⟩ := Option.bind_eq_some_iff.mp ev
    obtain ⟨⟨d, S2⟩, e2, ev⟩ := Option.bind_eq_some_iff.mp ev
    obtain ⟨ds, e3, ev⟩ := Option.bind_eq_some_iff.mp ev
    split at ev
    · rename_i hz
      cases ev
      obtain ⟨v, q1, rfl, q3⟩ := hσ.2 i _ hn
      obtain ⟨u0, m1, ⟨vs0, rfl, m2⟩, m3⟩ := r.live n _ (lstAt_some e0) (fun z => nomatch z)
      refine ⟨_, q1, .inl ⟨rfl, vs0, .of m1⟩, he _ _ _ _ e1 g σ H r hσ _ fun g1 H1 v1 l1 r1 h1 => ?_⟩
      obtain ⟨g2, l2, r2, h2⟩ := r1.fz h1 e2
      obtain ⟨u, n1, ⟨vs, rfl, n2⟩, n3⟩ := r2.live n _ (lstAt_some e3) (fun z => nomatch z)
      have ef : g2.φ n = g.φ n := ((l1.trans l2).φ n q3)
      have r3 := r2.write (mo := .lst (ds ++ [d])) (o := .lst (vs ++ [v1])) (lstAt_some e3) (fun z => nomatch z) ⟨_, rfl, RepDs.append n2 (RepDs.cons h2 RepDs.nil)⟩
      rw [ef] at n1 r3
      exact ⟨g.φ n, vs, v1, rfl, rfl, n1, by rw [n2.length]; exact hz, k g2 σ _ (l1.trans l2) r3 ((hσ.mono l1).mono l2)⟩
    · cases ev
  · cases ev
theorem okS_setL {i : Nat} {q e : E} (hq : OkE K fa C c tb q) (he : OkE K fa C c tb e) : OkS K fa C W c tb (.setL i q e) := fun ρ S o ev g σ H r hσ Z k => by
  simp only [evS] at ev
  split at ev
  · rename_i n hn
    obtain ⟨⟨w, S1⟩, e1, ev⟩ := Option.bind_eq_some_iff.mp ev
    obtain ⟨⟨d, S2⟩, e2, ev⟩ := Option.bind_eq_some_iff.mp ev
    obtain ⟨⟨x, S3⟩, e3, ev⟩ := Option.bind_eq_some_iff.mp ev
    split at ev
    · rename_i z hx
      obtain rfl : x = _ := hx
      obtain ⟨ds, e4, ev⟩ := Option.bind_eq_some_iff.mp ev
      obtain ⟨j, e5, ev⟩ := Option.map_eq_some_iff.mp ev
      cases ev
      refine he _ _ _ _ e1 g σ H r hσ _ fun g1 H1 v1 l1 r1 h1 => ?_
      obtain ⟨g2, l2, r2, h2⟩ := r1.fz h1 e2
      obtain ⟨v, q1, rfl, q3⟩ := hσ.2 i _ hn
      refine ⟨_, q1, hq _ _ _ _ e3 g2 σ H1 r2 ((hσ.mono l1).mono l2) _ fun g3 H3 v3 l3 r3 h3 => ?_⟩
      simp only [RepW, RepD] at h3
      subst h3
      obtain ⟨u, n1, ⟨vs, rfl, n2⟩, n3⟩ := r3.live n _ (lstAt_some e4) (fun z => nomatch z)
      have lt := l1.trans (l2.trans l3)
      have ef : g3.φ n = g.φ n := lt.φ n q3
      have r4 := r3.write (mo := .lst (ds.set j d)) (o := .lst (vs.set j v1)) (lstAt_some e4) (fun z => nomatch z) ⟨_, rfl, RepDs.set j n2 (RepD.mono l3.G h2)⟩
      rw [ef] at n1 r4
      exact ⟨g.φ n, vs, z, j, rfl, rfl, n1, by rw [n2.length]; exact e5, k g3 σ _ lt r4 (hσ.mono lt)⟩
    · cases ev
  · cases ev
theorem okS_augL {i : Nat} {q e : E} (hq : OkE K fa C c tb q) (he : OkE K fa C c tb e) : OkS K fa C W c tb (.augL i q e) := fun ρ S o ev g σ H r hσ Z k => by
  simp only [evS] at ev
  split at ev
  case h_2 => cases ev
  rename_i n hn
  obtain ⟨⟨x, S1⟩, e1, ev⟩ := Option.bind_eq_some_iff.mp ev
  split at ev
  case h_2 => cases ev
  rename_i z hx
  obtain rfl : x = _ := hx
  obtain ⟨ds, e2, ev⟩ := Option.bind_eq_some_iff.mp ev
  obtain ⟨y, e3, ev⟩ := Option.bind_eq_some_iff.mp ev
  split at ev
  case h_2 => cases ev
  rename_i a
  obtain ⟨⟨w, S2⟩, e4, ev⟩ := Option.bind_eq_some_iff.mp ev
  split at ev
  case h_2 => cases ev
  rename_i b hw
  obtain rfl : w = _ := hw
  obtain ⟨ds', e5, ev⟩ := Option.bind_eq_some_iff.mp ev
  obtain ⟨j, e6, ev⟩ := Option.map_eq_some_iff.mp ev
  cases ev
  obtain ⟨v, q1, rfl, q3⟩ := hσ.2 i _ hn
  refine ⟨_, q1, hq _ _ _ _ e1 g σ H r hσ _ fun g1 H1 v1 l1 r1 h1 => ?_⟩
  simp only [RepW, RepD] at h1
  subst h1
  obtain ⟨u, n1, ⟨vs, rfl, n2⟩, n3⟩ := r1.live n _ (lstAt_some e2) (fun z => nomatch z)
  have ef1 : g1.φ n = g.φ n := l1.φ n q3
  rw [ef1] at n1
  obtain ⟨va, m1, m2⟩ := n2.atI e3
  simp only [RepD] at m2
  subst m2
  refine ⟨g.φ n, vs, z, _, rfl, rfl, .of n1, m1, he _ _ _ _ e4 g1 σ H1 r1 (hσ.mono l1) _ fun g2 H2 v2 l2 r2 h2 => ?_⟩
  simp only [RepW, RepD] at h2
  subst h2
  refine ⟨a, b, rfl, rfl, ?_⟩
  obtain ⟨u, p1, ⟨us, rfl, p2⟩, p3⟩ := r2.live n _ (lstAt_some e5) (fun z => nomatch z)
  have lt := l1.trans l2
  have ef : g2.φ n = g.φ n := lt.φ n q3
  have r4 := r2.write (mo := .lst (ds'.set j (.int (a + b)))) (o := .lst (us.set j (.int (a + b)))) (lstAt_some e5) (fun z => nomatch z) ⟨_, rfl, RepDs.set j p2 (by simp only [RepD])⟩
  rw [ef] at p1 r4
  exact ⟨g.φ n, us, z, j, rfl, rfl, p1, by rw [p2.length]; exact e6, k g2 σ _ lt r4 (hσ.mono lt)⟩
theorem okS_setD {i : Nat} {q e : E} (hq : OkE K fa C c tb q) (he : OkE K fa C c tb e) : OkS K fa C W c tb (.setD i q e) := fun ρ S o ev g σ H r hσ Z k => by
  simp only [evS] at ev
  split at ev
  · rename_i n hn
    obtain ⟨⟨w, S1⟩, e1, ev⟩ := Option.bind_eq_some_iff.mp ev
    obtain ⟨⟨d, S2⟩, e2, ev⟩ := Option.bind_eq_some_iff.mp ev
    obtain ⟨⟨x, S3⟩, e3, ev⟩ := Option.bind_eq_some_iff.mp ev
    split at ev
    · rename_i kd ks ds hx hs
      obtain rfl : x = _ := hx
      obtain ⟨kk, e5, ev⟩ := Option.bind_eq_some_iff.mp ev
      split at ev
      · rename_i hz
        cases ev
        refine he _ _ _ _ e1 g σ H r hσ _ fun g1 H1 v1 l1 r1 h1 => ?_
        obtain ⟨g2, l2, r2, h2⟩ := r1.fz h1 e2
        obtain ⟨v, q1, rfl, q3⟩ := hσ.2 i _ hn
        refine ⟨_, q1, hq _ _ _ _ e3 g2 σ H1 r2 ((hσ.mono l1).mono l2) _ fun g3 H3 v3 l3 r3 h3 => ?_⟩
        obtain rfl := keyOf_ok e5 h3
        obtain ⟨u, n1, ⟨kvs, rfl, rfl, n2⟩, n3⟩ := r3.live n _ hs (fun z => nomatch z)
        have lt := l1.trans (l2.trans l3)
        have ef : g3.φ n = g.φ n := lt.φ n q3
        obtain ⟨p1, p2⟩ := putD_ok (k := kk) (RepD.mono l3.G h2) n2
        have r4 := r3.write (mo := .dK _ _) (o := .dK (putK kvs kk v1)) hs (fun z => nomatch z) ⟨_, rfl, p1, p2⟩
        rw [ef] at n1 r4
        refine ⟨g.φ n, _, rfl, DPut.k n1 (by simpa using hz), k g3 σ _ lt r4 (hσ.mono lt)⟩
      · cases ev
    · rename_i ys ks ds hx hs
      obtain rfl : x = _ := hx
      obtain ⟨kk, e5, ev⟩ := Option.bind_eq_some_iff.mp ev
      split at ev
      · rename_i hz
        cases ev
        refine he _ _ _ _ e1 g σ H r hσ _ fun g1 H1 v1 l1 r1 h1 => ?_
        obtain ⟨g2, l2, r2, h2⟩ := r1.fz h1 e2
        obtain ⟨v, q1, rfl, q3⟩ := hσ.2 i _ hn
        refine ⟨_, q1, hq _ _ _ _ e3 g2 σ H1 r2 ((hσ.mono l1).mono l2) _ fun g3 H3 v3 l3 r3 h3 => ?_⟩
        simp only [RepW, RepD] at h3
        obtain ⟨b, vs, rfl, hb, hvs⟩ := h3
        rcases hb with hb | hb
        · have hb' : H3 b = some (.tup vs) := by
            rcases r3.ext b _ hb with h | ⟨h, _⟩
            · exact h
            · cases h
          rw [keysOf_ok e5 hvs] at hb'
          obtain ⟨u, n1, ⟨kvs, rfl, rfl, n2⟩, n3⟩ := r3.live n _ hs (fun z => nomatch z)
          have lt := l1.trans (l2.trans l3)
          have ef : g3.φ n = g.φ n := lt.φ n q3
          obtain ⟨p1, p2⟩ := putD_ok (k := kk) (RepD.mono l3.G h2) n2
          have r4 := r3.write (mo := .dT _ _) (o := .dT (putK kvs kk v1)) hs (fun z => nomatch z) ⟨_, rfl, p1, p2⟩
          rw [ef] at n1 r4
          refine ⟨g.φ n, _, rfl, DPut.t n1 hb' (by simpa using hz), k g3 σ _ lt r4 (hσ.mono lt)⟩
        · exact hb.elim
      · cases ev
    · cases ev
  · cases ev
theorem okS_drop {e : E} (he : OkE K fa C c tb e) : OkS K fa C W c tb (.drop e) := fun ρ S o ev g σ H r hσ Z k => by
  simp only [evS] at ev
  obtain ⟨⟨w, S1⟩, e1, ev⟩ := Option.map_eq_some_iff.mp ev
  cases ev
  exact he _ _ _ _ e1 g σ H r hσ _ fun g1 H1 v l1 r1 h1 => k g1 σ H1 l1 r1 (hσ.mono l1)
theorem okS_ret {e : E} (he : OkE K fa C c tb e) : OkS K fa C W c tb (.ret e) := fun ρ S o ev g σ H r hσ Z k => by
  simp only [evS] at ev
  obtain ⟨⟨w, S1⟩, e1, ev⟩ := Option.bind_eq_some_iff.mp ev
  obtain ⟨⟨d, S2⟩, e2, ev⟩ := Option.map_eq_some_iff.mp ev
  cases ev
  refine he _ _ _ _ e1 g σ H r hσ _ fun g1 H1 v l1 r1 h1 => ?_
  obtain ⟨g2, l2, r2, h2⟩ := r1.fz h1 e2
  exact k g2 H1 v (l1.trans l2) r2 h2
theorem okS_retN : OkS K fa C W c tb .retN := fun ρ S o ev g σ H r hσ Z k => by
  simp only [evS] at ev
  cases ev
  exact k g H .non (.refl g) r (by simp only [RepD])
theorem okS_ifs {t : T} {a b : Ss} (ht : OkT K fa C c tb t) (ha : OkSs K fa C W c tb a) (hb : OkSs K fa C W c tb b) : OkS K fa C W c tb (.ifs t a b) := fun ρ S o ev g σ H r hσ Z k => by
  simp only [evS] at ev
  obtain ⟨⟨x, S1⟩, e1, ev⟩ := Option.bind_eq_some_iff.mp ev
  refine ht _ _ _ _ e1 g σ H r hσ _ fun g1 H1 l1 r1 => ?_
  cases x with
  | true =>
    rw [if_pos rfl] at ev ⊢
    exact ha _ _ _ ev g1 σ H1 r1 (hσ.mono l1) Z (k.mono l1)
  | false =>
    rw [if_neg (fun z => nomatch z)] at ev ⊢
    exact hb _ _ _ ev g1 σ H1 r1 (hσ.mono l1) Z (k.mono l1)
theorem okS_for {tg : Tg} {it : It} {body : Ss} (hi : OkI K fa C c tb it) (hb : OkSs K fa C W c tb body) : OkS K fa C W c tb (.forS tg it body) := fun ρ S o ev g σ H r hσ Z k => by
  simp only [evS] at ev
  obtain ⟨⟨ds, S1⟩, e1, ev⟩ := Option.bind_eq_some_iff.mp ev
  refine hi _ _ _ _ e1 g σ H r hσ _ fun g1 H1 J l1 r1 src => ?_
  generalize hf : (fun (d : D) (ρ : En) (S : Store) => (asgn tg d ρ).bind fun ρ' => evSs c body ρ' S) = f at ev
  refine ⟨fun i m σ H => m = ds.length - i ∧ i ≤ ds.length ∧ ∃ g' ρ' S', g1.le g' ∧ Rel K fa g' H S' ∧ RepEn K fa g' σ ρ' ∧ forL f (ds.drop i) ρ' S' = some o,
    ⟨_, rfl, Nat.zero_le _, g1, ρ, S1, .refl g1, r1, hσ.mono l1, by simpa using ev⟩, ?_⟩
  rintro i m σ' H ⟨rfl, hil, g2, ρ2, S2, l2, r2, hσ2, ef⟩
  have s0 := src i g2 H S2 l2.G r2
  rcases Nat.eq_or_lt_of_le hil with hi | hi
  · left
    refine ⟨s0.2 (by omega), ?_⟩
    subst hi
    rw [List.drop_length] at ef
    simp only [forL] at ef
    cases ef
    exact k g2 σ' H (l1.trans l2) r2 hσ2
  · right
    have hd : ds[i]? = some ds[i] := List.getElem?_eq_getElem hi
    obtain ⟨hgo, hy⟩ := s0.1 _ hd
    have edrop : ds.drop i = ds[i] :: ds.drop (i + 1) := List.drop_eq_getElem_cons hi
    rw [edrop] at ef
    simp only [forL] at ef
    obtain ⟨o1, e3, ef⟩ := Option.bind_eq_some_iff.mp ef
    refine ⟨hgo, fun σ H => ∃ g' ρ' S', g1.le g' ∧ Rel K fa g' H S' ∧ RepEn K fa g' σ ρ' ∧ forL f (ds.drop (i + 1)) ρ' S' = some o, fun σ' H' q => ⟨ds.length - (i + 1), by omega, rfl, hi, q⟩, fun x H' y => ?_⟩
    obtain ⟨g3, l3, r3, hx⟩ := hy x H' y
    rw [← hf] at e3
    obtain ⟨ρ4, e4, e3⟩ := Option.bind_eq_some_iff.mp e3
    refine tg_ok r3 e4 hx (hσ2.mono l3) fun σ4 h4 _ => hb _ _ _ e3 g3 σ4 H' r3 h4 _ ?_
    have l23 := l2.trans l3
    cases o1 with
    | nx ρ5 S5 => exact fun g5 σ5 H5 l5 r5 h5 => ⟨g5, ρ5, S5, l23.trans l5, r5, h5, ef⟩
    | ct ρ5 S5 => exact fun g5 σ5 H5 l5 r5 h5 => ⟨g5, ρ5, S5, l23.trans l5, r5, h5, ef⟩
    | bk ρ5 S5 =>
      cases ef
      exact fun g5 σ5 H5 l5 r5 h5 => k g5 σ5 H5 (l1.trans (l23.trans l5)) r5 h5
    | rt d5 S5 =>
      cases ef
      exact fun g5 H5 v5 l5 r5 h5 => k g5 H5 v5 (l1.trans (l23.trans l5)) r5 h5
    | xc d5 S5 =>
      cases ef
      exact fun σ5 g5 H5 dd vv l5 => k σ5 g5 H5 dd vv (l1.trans (l23.trans l5))
theorem okSs_nil : OkSs K fa C W c tb .nil := fun ρ S o ev g σ H r hσ Z k => by
  simp only [evSs] at ev
  cases ev
  exact k g σ H (.refl g) r hσ
theorem okSs_cons {s : Pv.S} {ss : Ss} (h1 : OkS K fa C W c tb s) (h2 : OkSs K fa C W c tb ss) : OkSs K fa C W c tb (.cons s ss) := fun ρ S o ev g σ H r hσ Z k => by
  simp only [evSs] at ev
  obtain ⟨o1, e1, ev⟩ := Option.bind_eq_some_iff.mp ev
  refine h1 _ _ _ e1 g σ H r hσ _ ?_
  cases o1 with
  | nx ρ1 S1 => exact fun g1 σ1 H1 l1 r1 hσ1 => h2 _ _ _ ev g1 σ1 H1 r1 hσ1 Z (k.mono l1)
  | bk ρ1 S1 => cases ev; exact k
  | ct ρ1 S1 => cases ev; exact k
  | rt d S1 => cases ev; exact k
  | xc d S1 => cases ev; exact k
def XOut (K : PySem.W.Frag) (fa : FA) (C : Addr) (g : Gh) (Q : VK) (E : XK) : Out → Prop
  | .rt d S => PD K fa g S Q d
  | .xc d S => PX K fa C g S E d
  | _ => True
theorem XOut.mono {g g' : Gh} {Q : VK} {E : XK} (l : g.le g') : ∀ {o : Out}, XOut K fa C g Q E o → XOut K fa C g' Q E o
  | .nx _ _, h | .bk _ _, h | .ct _ _, h => h
  | .rt _ _, h => fun g2 H v l2 => h g2 H v (l.trans l2)
  | .xc _ _, h => fun g2 H dd vv l2 => h g2 H dd vv (l.trans l2)
theorem okX (htb : ∀ f ws S r, c f ws S = some r → tb f) : ∀ (x : XE) (ρ : En) (S : Store) (o : Out), evX c x ρ S = some o → ∀ (g : Gh) (σ : L2.St) (H : Hp), Rel K fa g H S → RepEn K fa g σ ρ → ∀ (W : WX) (Q : VK), XOut K fa C g Q (WE W σ) o → tX K fa (spC K fa C c) tb W x σ H Q
  | .call f as, ρ, S, o, e, g, σ, H, r, hσ, W, Q, k => by
    simp only [evX] at e
    obtain ⟨⟨ws, S1⟩, e1, e⟩ := Option.bind_eq_some_iff.mp e
    refine okEs htb as _ _ _ _ e1 g σ H r hσ _ fun g1 H1 vs l1 r1 h1 => ?_
    refine ⟨g1, S1, ws, r1, h1, ?_⟩
    split at e
    · rename_i d S2 hc
      cases e
      exact .inl ⟨d, S2, hc, fun g2 H2 v l2 r2 h2 => k g2 H2 v (l1.trans l2) r2 h2⟩
    · obtain ⟨⟨d, S2⟩, e2, e⟩ := Option.map_eq_some_iff.mp e
      cases e
      exact .inr ⟨d, S2, e2, fun g2 H2 dd vv l2 => k g2 H2 dd vv (l1.trans l2)⟩
  | .ite t a b, ρ, S, o, e, g, σ, H, r, hσ, W, Q, k => by
    simp only [evX] at e
    obtain ⟨⟨x, S1⟩, e1, e⟩ := Option.bind_eq_some_iff.mp e
    refine okT htb t _ _ _ _ e1 g σ H r hσ _ fun g1 H1 l1 r1 => ?_
    cases x with
    | true =>
      rw [if_pos rfl] at e ⊢
      exact okX htb a _ _ _ e g1 σ H1 r1 (hσ.mono l1) W Q (k.mono l1)
    | false =>
      rw [if_neg (fun z => nomatch z)] at e ⊢
      exact okX htb b _ _ _ e g1 σ H1 r1 (hσ.mono l1) W Q (k.mono l1)
  | .pure a, ρ, S, o, e, g, σ, H, r, hσ, W, Q, k => by
    simp only [evX] at e
    obtain ⟨⟨w, S1⟩, e1, e⟩ := Option.bind_eq_some_iff.mp e
    obtain ⟨⟨d, S2⟩, e2, e⟩ := Option.map_eq_some_iff.mp e
    cases e
    refine okE htb a _ _ _ _ e1 g σ H r hσ _ fun g1 H1 v l1 r1 h1 => ?_
    obtain ⟨g2, l2, r2, h2⟩ := r1.fz h1 e2
    exact k g2 H1 v (l1.trans l2) r2 h2
theorem okS_dropX (htb : ∀ f ws S r, c f ws S = some r → tb f) {x : XE} : OkS K fa C W c tb (.dropX x) := fun ρ S o ev g σ H r hσ Z k => by
  simp only [evS] at ev
  obtain ⟨o1, e1, ev⟩ := Option.bind_eq_some_iff.mp ev
  refine okX htb x _ _ _ e1 g σ H r hσ W _ ?_
  cases o1 with
  | rt d S1 => cases ev; exact fun g1 H1 v l1 r1 h1 => k g1 σ H1 l1 r1 (hσ.mono l1)
  | xc d S1 => cases ev; exact k σ
  | _ => trivial
theorem okS_retX (htb : ∀ f ws S r, c f ws S = some r → tb f) {x : XE} : OkS K fa C W c tb (.retX x) := fun ρ S o ev g σ H r hσ Z k => by
  simp only [evS] at ev
  refine okX htb x _ _ _ ev g σ H r hσ W _ ?_
  cases o with
  | rt d S1 => exact k
  | xc d S1 => exact k σ
  | _ => trivial
theorem okS_asgX (htb : ∀ f ws S r, c f ws S = some r → tb f) {i : Nat} {x : XE} : OkS K fa C W c tb (.asgX i x) := fun ρ S o ev g σ H r hσ Z k => by
  simp only [evS] at ev
  obtain ⟨o1, e1, ev⟩ := Option.bind_eq_some_iff.mp ev
  refine okX htb x _ _ _ e1 g σ H r hσ W _ ?_
  cases o1 with
  | rt d S1 =>
    simp only at ev
    split at ev
    · cases ev; exact fun g1 H1 v l1 r1 h1 => k g1 _ H1 l1 r1 ((hσ.mono l1).set (w := .d d) h1)
    · cases ev
  | xc d S1 => cases ev; exact k σ
  | _ => trivial
theorem okS_rais {e : E} (he : OkE K fa C c tb e) : OkS K fa C W c tb (.rais e) := fun ρ S o ev g σ H r hσ Z k => by
  simp only [evS] at ev
  obtain ⟨⟨w, S1⟩, e1, ev⟩ := Option.bind_eq_some_iff.mp ev
  split at ev
  · rename_i i hw
    obtain rfl : w = _ := hw
    split at ev
    · rename_i hi
      cases ev
      refine he _ _ _ _ e1 g σ H r hσ _ fun g1 H1 v l1 r1 h1 => ?_
      simp only [RepW, RepD] at h1
      subst h1
      refine ⟨by show 1 ≤ 1000; decide, fun a ha => ⟨a, i, rfl, hi, upd_same, fun d hd hne => ?_⟩⟩
      have hd1 : H1 d = none := by rw [upd_ne hne] at hd; exact hd
      refine ⟨rfl, d, _, upd_same, by rw [upd_ne hne, upd_same], hd1, ?_⟩
      have eH : upd (L2.del (upd (upd (upd H1 a (exo a C none)) d (exd d [(("at" : Str), V.int i)])) a (exo a C (some d))) a) d (.xd [(("at" : Str), V.int i)]) = upd H1 d (.xd [(("at" : Str), V.int i)]) := by
        funext b
        by_cases hb : b = d
        · subst hb; rw [upd_same, upd_same]
        · rw [upd_ne hb, upd_ne hb]
          by_cases hba : b = a
          · subst hba; rw [L2.del_same]; exact ha.symm
          · rw [L2.del_ne hba, upd_ne hba, upd_ne hb, upd_ne hba]
      rw [eH]
      exact k σ _ _ d (.int i) (l1.trans (Gh.le_add (r1.fresh hd1))) (r1.add hd1) upd_same (by simp only [RepD])
    · cases ev
  · cases ev
theorem okS_tryR (te : PySem.W.exmOne K (.ref C) (.ref C) = some true) (htb : ∀ f ws S r, c f ws S = some r → tb f) {x : XE} {i : Nat} {word : Str} : OkS K fa C W c tb (.tryR x i word) := fun ρ S o ev g σ H r hσ Z k => by
  simp only [evS] at ev
  split at ev
  case isFalse => cases ev
  rename_i hi
  obtain ⟨o1, e1, ev⟩ := Option.bind_eq_some_iff.mp ev
  show tX K fa (spC K fa C c) tb (wTry K C i word Z) x σ H Z.rt
  refine okX htb x _ _ _ e1 g σ H r hσ (wTry K C i word Z) _ ?_
  cases o1 with
  | rt d S1 => cases ev; exact k
  | xc d S1 =>
    cases ev
    intro g1 H1 dd vv l1 r1 hd hv
    refine ⟨true, te, fun _ a ha => ?_, fun z => Bool.noConfusion z⟩
    refine ⟨_, List.getElem?_set_self (by rw [hσ.1]; exact hi), rfl, rfl, dd, vv, rfl, hd, ?_⟩
    refine ⟨by show 2 ≤ sizeLine; rw [sizeLine_eq]; decide, fun p hp => ?_⟩
    refine PD.tup r1 (Q := Z.rt) (ds := [.str word, d]) (fun g2 H2 v l2 r2 h2 => k g2 H2 v (l1.trans l2) r2 h2) (RepDs.cons (by simp only [RepD]) (RepDs.cons hv RepDs.nil)) p hp
  | _ => cases ev
theorem RepEn.hold {σ : L2.St} {ρ : En} {p : Addr} {o : HO} (h : RepEn K fa g σ ρ) : RepEn K fa (g.hold p o) σ ρ := ⟨h.1, fun i w e => by
  obtain ⟨v, a, b⟩ := h.2 i w e
  refine ⟨v, a, ?_⟩
  cases w <;> exact b⟩
theorem okP (htb : ∀ f ws S r, c f ws S = some r → tb f) : ∀ (ps : Es) (ρ : En) (S : Store) (kvs : List (Key × D)) (S' : Store), evP c ps ρ S = some (kvs, S') → ∀ (g : Gh) (σ : L2.St) (H : Hp), Rel K fa g H S → RepEn K fa g σ ρ → ∀ Q : List (V × V) → Hp → Prop,
    (∀ g' H' (ks : List (Key × V)), g.le g' → Rel K fa g' H' S' → ks.map (·.1) = kvs.map (·.1) → RepDs K fa g'.G (ks.map (·.2)) (kvs.map (·.2)) → Q (ks.map fun kv => (kV kv.1, kv.2)) H') → tPairs (tPs K fa (spC K fa C c) tb ps) σ H Q
  | .nil, ρ, S, kvs, S', e, g, σ, H, r, hσ, Q, k => by
    simp only [evP] at e
    cases e
    exact k g H [] (.refl g) r rfl RepDs.nil
  | .cons a .nil, ρ, S, kvs, S', e, g, σ, H, r, hσ, Q, k => by simp [evP] at e
  | .cons a (.cons b t), ρ, S, kvs, S', e, g, σ, H, r, hσ, Q, k => by
    simp only [evP] at e
    obtain ⟨⟨x, S1⟩, e1, e⟩ := Option.bind_eq_some_iff.mp e
    split at e
    · rename_i kd hx
      obtain rfl : x = _ := hx
      obtain ⟨kk, e2, e⟩ := Option.bind_eq_some_iff.mp e
      obtain ⟨⟨w, S2⟩, e3, e⟩ := Option.bind_eq_some_iff.mp e
      obtain ⟨⟨d, S3⟩, e4, e⟩ := Option.bind_eq_some_iff.mp e
      obtain ⟨⟨kr, S4⟩, e5, e⟩ := Option.map_eq_some_iff.mp e
      cases e
      refine okE htb a _ _ _ _ e1 g σ H r hσ _ fun g1 H1 u l1 r1 h1 => okE htb b _ _ _ _ e3 g1 σ H1 r1 (hσ.mono l1) _ fun g2 H2 v l2 r2 h2 => ?_
      obtain rfl := keyOf_ok e2 h1
      obtain ⟨g3, l3, r3, h3⟩ := r2.fz h2 e4
      refine okP htb t _ _ _ _ e5 g3 σ H2 r3 (((hσ.mono l1).mono l2).mono l3) _ fun g4 H4 ks l4 r4 q1 q2 => ?_
      exact k g4 H4 ((kk, v) :: ks) (l1.trans (l2.trans (l3.trans l4))) r4 (by simp [q1]) (RepDs.cons (RepD.mono l4.G h3) q2)
    · cases e
theorem merge_ok {G : Hp} : ∀ (ks : List (Key × V)) (kvs : List (Key × D)) (acc : List (Key × V)) (ad : List Key × List D), ks.map (·.1) = kvs.map (·.1) → RepDs K fa G (ks.map (·.2)) (kvs.map (·.2)) → acc.map (·.1) = ad.1 → RepDs K fa G (acc.map (·.2)) ad.2 →
    (mergeK acc ks).map (·.1) = (kvs.foldl (fun a p => putD p.1 p.2 a.1 a.2) ad).1 ∧ RepDs K fa G ((mergeK acc ks).map (·.2)) (kvs.foldl (fun a p => putD p.1 p.2 a.1 a.2) ad).2
  | [], kvs, acc, ad, e, h, e2, h2 => by
    cases kvs with
    | nil => exact ⟨e2, h2⟩
    | cons _ _ => simp at e
  | x :: ks, kvs, acc, ad, e, h, e2, h2 => by
    cases kvs with
    | nil => simp at e
    | cons y kvs =>
      simp only [List.map_cons, List.cons.injEq] at e
      simp only [List.map_cons, RepDs] at h
      obtain ⟨v, t, q, h3, h4⟩ := h
      injection q with q1 q2
      subst q1; subst q2
      obtain ⟨y1, y2⟩ := y
      obtain ⟨x1, x2⟩ := x
      simp only at e h3
      obtain ⟨rfl, e⟩ := e
      obtain ⟨p1, p2⟩ := putD_ok (k := x1) h3 h2
      rw [e2] at p1 p2
      exact merge_ok ks kvs (putK acc x1 x2) (putD x1 y2 ad.1 ad.2) e h4 p1 p2
theorem okS_newDK (htb : ∀ f ws S r, c f ws S = some r → tb f) {i : Nat} {ps : Es} : OkS K fa C W c tb (.newDK i ps) := fun ρ S o ev g σ H r hσ Z k => by
  simp only [evS] at ev
  obtain ⟨⟨kvs, S1⟩, e1, ev⟩ := Option.bind_eq_some_iff.mp ev
  split at ev
  · rename_i hz
    cases ev
    intro p hp
    have hF : ∀ a u, g.F a = some u → a ≠ p := fun a u ea => ne_of_none (r.frm a u ea).1 hp
    refine okP htb ps _ _ _ _ e1 (g.hold p (.dK [])) σ _ (r.hold hp) hσ.hold _ fun g2 H2 ks l2 r2 q1 q2 => ?_
    have hF2 : g2.F p = some (.dK []) := by rw [l2.F]; exact upd_same
    refine ⟨(r2.frm p _ hF2).1, ks, rfl, ?_, ?_⟩
    · have : ks.length = kvs.length := by simpa using congrArg List.length q1
      rw [this]; exact hz.2
    · have r6 := r2.rehold (o' := .dK (mergeK [] ks)) hF2
      have ef : upd g2.F p (HO.dK (mergeK [] ks)) = upd g.F p (HO.dK (mergeK [] ks)) := by
        rw [l2.F]
        show upd (upd g.F p _) p _ = _
        rw [upd_upd]
      rw [ef] at r6
      have lb : g.le { g2 with F := g.F } := leF (.refl g) l2
      obtain ⟨m1, m2⟩ := merge_ok ks kvs [] ([], []) q1 q2 rfl RepDs.nil
      have r7 := Rel.pushHeld (g := { g2 with F := g.F }) (mo := .dK (putAll kvs).1 (putAll kvs).2) r6 hF ⟨_, rfl, m1, m2⟩
      exact k _ _ _ (lb.trans Gh.le_push) r7 (((hσ.mono lb).mono Gh.le_push).set (mu_new r6.len))
  · cases ev
mutual
/-- does it stand a try -/
def triesS : Pv.S → Bool
  | .tryR _ _ _ => true
  | .ifs _ a b => triesSs a || triesSs b
  | .forS _ _ b => triesSs b
  | .whl _ b => triesSs b
  | _ => false
def triesSs : Ss → Bool
  | .nil => false
  | .cons s ss => triesS s || triesSs ss
end
mutual
theorem okS (htb : ∀ f ws S r, c f ws S = some r → tb f) : ∀ s : Pv.S, (triesS s = true → PySem.W.exmOne K (.ref C) (.ref C) = some true) → OkS K fa C W c tb s
  | .asg _ e, _ => okS_asg (okE htb e)
  | .par _ _ a b, _ => okS_par (okE htb a) (okE htb b)
  | .newD _, _ => okS_newD
  | .newT _, _ => okS_newT
  | .popL _ e, _ => okS_popL (okE htb e)
  | .par2T _ _, _ => okS_par2T
  | .augL _ q e, _ => okS_augL (okE htb q) (okE htb e)
  | .newS _, _ => okS_newS
  | .addS _ e, _ => okS_addS (okE htb e)
  | .whl t body, te => okS_whl (okT htb t) (okSs htb body fun z => te (by simpa [triesS] using z))
  | .aug _ _ e, _ => okS_aug (okE htb e)
  | .newL _ as, _ => okS_newL (okZ htb as)
  | .newC _ _ _ it cond elt, _ => okS_newC (okI htb it) (okTo htb cond) (okE htb elt)
  | .app _ e, _ => okS_app (okE htb e)
  | .setL _ q e, _ => okS_setL (okE htb q) (okE htb e)
  | .setD _ q e, _ => okS_setD (okE htb q) (okE htb e)
  | .newDK _ _, _ => okS_newDK htb
  | .rais e, _ => okS_rais (okE htb e)
  | .dropX _, _ => okS_dropX htb
  | .retX _, _ => okS_retX htb
  | .asgX _ _, _ => okS_asgX htb
  | .tryR _ _ _, te => okS_tryR (te rfl) htb
  | .drop e, _ => okS_drop (okE htb e)
  | .ret e, _ => okS_ret (okE htb e)
  | .retN, _ => okS_retN
  | .ifs t a b, te => okS_ifs (okT htb t) (okSs htb a fun z => te (by simp [triesS, z])) (okSs htb b fun z => te (by simp [triesS, z]))
  | .forS _ it body, te => okS_for (okI htb it) (okSs htb body fun z => te (by simpa [triesS] using z))
  | .brk, _ => fun ρ S o ev g σ H r hσ Z k => by
    simp only [evS] at ev
    cases ev
    exact k g σ H (.refl g) r hσ
  | .cnt, _ => fun ρ S o ev g σ H r hσ Z k => by
    simp only [evS] at ev
    cases ev
    exact k g σ H (.refl g) r hσ
  | .pass, _ => fun ρ S o ev g σ H r hσ Z k => by
    simp only [evS] at ev
    cases ev
    exact k g σ H (.refl g) r hσ
  | .never, _ => fun ρ S o ev g σ H r hσ Z k => by
    simp only [evS] at ev
    cases ev
theorem okSs (htb : ∀ f ws S r, c f ws S = some r → tb f) : ∀ s : Ss, (triesSs s = true → PySem.W.exmOne K (.ref C) (.ref C) = some true) → OkSs K fa C W c tb s
  | .nil, _ => okSs_nil
  | .cons s ss, te => okSs_cons (okS htb s fun z => te (by simp [triesSs, z])) (okSs htb ss fun z => te (by simp [triesSs, z]))
end

theorem start_ok {g : Gh} {vs : List V} {ws : List Pv.W} {N : List Str} {n : Nat} (h : RWs K fa g vs ws) (hn : N.length = n) (hl : ws.length ≤ n) : RepEn K fa g (L2.start N vs) (startE n ws) := by
  have hlen := h.length
  unfold L2.start startE
  rw [hn, hlen]
  refine ⟨by simp [hlen], fun i w e => ?_⟩
  rcases Nat.lt_or_ge i ws.length with hi | hi
  · rw [List.getElem?_append_left (by simpa using hi), List.getElem?_map] at e
    cases ew : ws[i]? with
    | none => rw [ew] at e; cases e
    | some w' =>
      rw [ew] at e
      have : w' = w := by simpa using e
      subst this
      obtain ⟨v, q1, q2⟩ := h.get ew
      exact ⟨v, by rw [List.getElem?_append_left (by simpa [hlen] using hi), List.getElem?_map, q1]; rfl, q2⟩
  · rw [List.getElem?_append_right (by simpa using hi), List.getElem?_replicate] at e
    split at e <;> cases e
theorem body_ok {P : Nat → Option Fn} {k : Nat} {f : Nat} {q : Fn} {N : List Str} (hq : P f = some q) (hN : N.length = q.sl) (te : triesSs q.body = true → PySem.W.exmOne K (.ref C) (.ref C) = some true) (htb : ∀ f ws S r, callF P k f ws S = some r → tb f)
    {vs : List V} {H : Hp} {Q : VK} {E : XK} (h : spC K fa C (callF P (k + 1)) f vs H Q E) :
    tSs K fa (spC K fa C (callF P k)) tb C (fun cls d _ H => E cls d H) q.body { nx := fun _ H' => Q .non H', rt := Q } (L2.start N vs) H := by
  obtain ⟨g, S, ws, r, hv, h⟩ := h
  have fin : ∀ g' H' S1, g.le g' → Rel K fa g' H' S1 → g.le { g' with n := g.n } ∧ Rel K fa { g' with n := g.n } H' (S1.take S.length) := fun g' H' S1 l r1 =>
    ⟨⟨l.G, l.φ, Nat.le_refl _, l.lk, l.F⟩, by rw [r.len]; exact r1.cut l.n⟩
  rcases h with ⟨d, S', e, kk⟩ | ⟨d, S', e, kk⟩
  all_goals
    simp only [callF] at e
    rw [hq] at e
    simp only [Option.bind_some] at e
    split at e
    case isFalse => cases e
    rename_i hz
    obtain ⟨o, e1, e⟩ := Option.bind_eq_some_iff.mp e
    refine okSs htb q.body te _ _ _ e1 g _ H r (start_ok hv hN (by omega)) _ ?_
  · cases o with
    | nx ρ1 S1 =>
      cases e
      exact fun g1 σ1 H1 l1 r1 _ => kk _ H1 .non (fin g1 H1 S1 l1 r1).1 (fin g1 H1 S1 l1 r1).2 (by simp only [RepD])
    | rt d1 S1 =>
      cases e
      exact fun g1 H1 v1 l1 r1 h1 => kk _ H1 v1 (fin g1 H1 S1 l1 r1).1 (fin g1 H1 S1 l1 r1).2 h1
    | _ => cases e
  · cases o with
    | xc d1 S1 =>
      cases e
      exact fun _ g1 H1 dd vv l1 r1 hd h1 => kk _ H1 dd vv (fin g1 H1 S1 l1 r1).1 (fin g1 H1 S1 l1 r1).2 hd h1
    | _ => cases e
theorem len_ok {P : Nat → Option Fn} {k : Nat} {f : Nat} {q : Fn} (hq : P f = some q) {vs : List V} {H : Hp} {Q : VK} {E : XK} (h : spC K fa C (callF P (k + 1)) f vs H Q E) : vs.length = q.ar := by
  obtain ⟨g, S, ws, r, hv, h⟩ := h
  rcases h with ⟨d, S', e, kk⟩ | ⟨d, S', e, kk⟩
  all_goals
    simp only [callF] at e
    rw [hq] at e
    simp only [Option.bind_some] at e
    split at e
    · rename_i hz
      rw [hv.length]; exact hz.1
    · cases e
end
end Pv

set_option Elab.async false
set_option linter.all false
set_option maxRecDepth 100000
set_option maxHeartbeats 4000000
namespace Pv
open PySem L2

theorem pe_exs {X : Cx} {e : Expr} {t : Nat → TE} {p : Nat → Prop} (h : ∀ f, p f → PE X e (t f)) : PE X e (fun σ H Q => ∃ f, p f ∧ t f σ H Q) :=
  ⟨fun pins s σ H Q I ⟨f, hf, q⟩ => (h f hf).run pins s σ H Q I q⟩
theorem pg_or {X : Cx} {e : Expr} {t u : TG} (h : PG X e t) (h' : PG X e u) : PG X e (fun v σ H Q => t v σ H Q ∨ u v σ H Q) :=
  ⟨fun pins s σ H v u Q I r q => q.elim (h.run pins s σ H v u Q I r) (h'.run pins s σ H v u Q I r)⟩
theorem pi_or {X : Cx} {tg e : Expr} {t u : TI} (h : PI X tg e t) (h' : PI X tg e u) : PI X tg e (fun σ H R => t σ H R ∨ u σ H R) :=
  ⟨fun pins s σ H R I q => q.elim (h.run pins s σ H R I) (h'.run pins s σ H R I)⟩
theorem pg_imp {X : Cx} {e : Expr} {t u : TG} (h : PG X e t) (i : ∀ v σ H Q, u v σ H Q → t v σ H Q) : PG X e u :=
  ⟨fun pins s σ H v u Q I r q => h.run pins s σ H v u Q I r (i _ _ _ _ q)⟩

theorem fn_zero {P : Program} {w : World} {K : PySem.W.Frag} {mg : Str → Option Value} {base : Heap} {fa : FA} {C : Addr} {CX : CXT} {g : Nat → Option Fn} {f : Nat} {a : Addr} {fd : FuncData} {ps : List Str} {k : Nat} : FnOk P w K mg base CX k a fd ps (spC K fa C (callF g 0) f) where
  len := fun vs H Q E h => by
    obtain ⟨_, _, _, _, _, h⟩ := h
    rcases h with ⟨_, _, e, _⟩ | ⟨_, _, e, _⟩ <;> cases e
  run := fun A outer s H args us vs Q E _ _ _ _ h => by
    obtain ⟨_, _, _, _, _, h⟩ := h
    rcases h with ⟨_, _, e, _⟩ | ⟨_, _, e, _⟩ <;> cases e
def KBd (K : PySem.W.Frag) (fd : FuncData) (ps : List Str) : Prop := ∀ (s : Shared) (ws : List Value), K.In s.heap → ws.length = ps.length → BindsTo s fd ⟨[], ps.zip ws⟩ (ps.zip ws)
theorem kbd_of {K : PySem.W.Frag} {x qual : Str} {st : Stmt} {f : Addr} {fd : FuncData} {ps : List Str} (F : Fun K x qual st f fd)
    (h : ∀ (kV doc pm : Value) (an : Option Addr) (cdv ct : Value) (us : List Value), us.length = ps.length → bindArgs (PySem.W.fnOf x qual (defArgs st) (defBody st) (defScope st) .none kV doc pm an cdv ct) ⟨[], ps.zip us⟩ = pure (ps.zip us)) : KBd K fd ps := by
  obtain ⟨oc, od, kV, doc, pm, an, cdv, ct, osl, rfl, lk, hcd⟩ := F.ex
  exact fun s ws _ hl => .of_eq (h kV doc pm an cdv ct ws hl)
structure ErrOk (P : Program) (w : World) (K : PySem.W.Frag) (mg : Str → Option Value) (base : Heap) (C : Addr) : Prop where
  ex : ∃ (B fI : Addr) (fd : FuncData), ErrC K mg "BadValue" "SecondError" "at" C B ∧ PySem.W.findIn K (.ref C) "__init__" = some (some (.ref fI)) ∧ PySem.W.typeIn K (.ref fI) = some (.type "function") ∧
    FnOk P w K mg base (L2.CX P w) 1 fI fd ["self", "at"] (spI C) ∧ Binds K fd ["self", "at"] []
theorem ErrOk.te {P : Program} {w : World} {K : PySem.W.Frag} {mg : Str → Option Value} {base : Heap} {C : Addr} (r : ErrOk P w K mg base C) : PySem.W.exmOne K (.ref C) (.ref C) = some true := by
  obtain ⟨B, fI, fd, T, _⟩ := r.ex
  exact exmSelf T.exC T.isC T.tyC T.seC
theorem passF {P : Program} {w : World} {X : Cx} : Passes (L2.CX P w) X E0 := fun pins σ H s e s' I c => by
  obtain ⟨_, _, _, _, _, _, _, _, _, _, _, _, q⟩ := c
  exact False.elim q
theorem fn_noX {P : Program} {w : World} {K : PySem.W.Frag} {mg : Str → Option Value} {base : Heap} {k : Nat} {f : Addr} {fd : FuncData} {ps : List Str} {sp : Sp} (F : FnOk P w K mg base (L2.CX P w) k f fd ps sp) (h : ∀ vs H Q E, sp vs H Q E → sp vs H Q E0) : FnOk P w K mg base CX0 k f fd ps sp where
  len := F.len
  run := fun A outer s H args us vs Q E hr e b r q => codeAny_mono (F.run A outer s H args us vs Q E0 hr e b r (h vs H Q E q)) fun r s' hq => by
    cases r with
    | error er =>
      obtain ⟨_, _, _, _, _, _, _, _, _, _, _, _, q⟩ := hq
      exact False.elim q
    | ok fl => cases fl <;> exact hq
structure Tbl (P : Program) (w : World) (K : PySem.W.Frag) (mg : Str → Option Value) (base : Heap) (k : Nat) (fa : FA) (sp : Nat → Sp) (tb : Nat → Prop) (nm : Nat → Str) (pn : Nat → List Str) : Prop where
  eP : fa.P = P
  ew : fa.w = w
  fn : ∀ f, tb f → ∃ fd, FnOk P w K mg base (L2.CX P w) k (fa f) fd (pn f) (sp f) ∧ PySem.W.keepIn K (.ref (fa f)) = true ∧ Binds K fd (pn f) [] ∧ mg (nm f) = some (.ref (fa f)) ∧ KBd K fd (pn f)
theorem spLaw_of {K : PySem.W.Frag} {fa : FA} {C : Addr} {g : Nat → Option Fn} {lv f : Nat} {H : Hp} {a : Addr} {ns : List Int} (ht : LamX.Tabs fa.tabs H) (M : ∃ S, callF g lv f [.d (.scr ns)] [] = some (.bl true, S)) (hS : SqL K H a (ns.map V.int)) {Q : VK} {E : XK} (h : ∀ H, Q (.bl true) H) :
    spC K fa C (callF g lv) f [.ref a] H Q E := by
  obtain ⟨S, e⟩ := M
  -- what is known at the start is the script alone
  have key : ∃ G : Hp, (∀ b u, G b = some u → H b = some u ∧ ∀ ps, u ≠ .tbl ps) ∧ SqL K G a (ns.map V.int) := by
    have up : ∀ o, H a = some o → (∀ ps, o ≠ .tbl ps) → ∀ b u, upd nilH a o b = some u → H b = some u ∧ ∀ ps, u ≠ .tbl ps := fun o q no b u e => by
      by_cases hb : b = a
      · subst hb
        rw [upd_same] at e; cases e; exact ⟨q, no⟩
      · rw [upd_ne hb] at e; cases e
    rcases hS with (q | ⟨o, q⟩) | q
    · exact ⟨upd nilH a _, up _ q (fun _ z => nomatch z), Or.inl (Or.inl upd_same)⟩
    · exact ⟨upd nilH a _, up _ q (fun _ z => nomatch z), Or.inl (Or.inr ⟨o, upd_same⟩)⟩
    · exact ⟨nilH, fun _ _ e => (nomatch e), Or.inr q⟩
  obtain ⟨G, g1, g2⟩ := key
  refine ⟨⟨G, fun _ => 0, 0, false, fun _ => none⟩, [], [.d (.scr ns)], ⟨rfl, fun b u e => .inl (g1 b u e).1, fun i mo e => by simp at e, fun i j mi mj e => by simp at e, fun b u e => (by cases e), fun b u e => (by cases e), fun p hp => ⟨ht p hp, (by
    cases e : G p.1 with
    | none => exact e
    | some u =>
      obtain ⟨ps, q, _⟩ := ht p hp
      obtain ⟨q1, q2⟩ := g1 _ _ e
      rw [q] at q1; cases q1
      exact absurd rfl (q2 ps))⟩, fun a ps e => (g1 a _ e).2 ps rfl⟩, .cons ?_ .nil, .inl ⟨.bl true, S, e, fun g' H' v _ _ hv => ?_⟩⟩
  · simp only [RepW, RepD]
    exact ⟨a, rfl, g2⟩
  · simp only [RepD] at hv
    subst hv
    exact h H'
def spLawP (K : PySem.W.Frag) : Sp := fun vs H Q _ => ∃ (a : Addr) (ns : List Int), vs = [.ref a] ∧ SqL K H a (ns.map V.int) ∧ ns.length ≤ 63 ∧ ∀ H', Q (.bl true) H'
structure LamOk (mg : Str → Option Value) (base : Heap) (fa : FA) (cdv : Value) (qual : Str) : Prop where
  ex : ∃ c P, cdv = .ref c ∧ LamX.TabB base mg c P ∧ (P, qual ++ "<lambda>") ∈ fa.tabs ∧ ∀ p ∈ fa.tabs, p.1 = P → p.2 = qual ++ "<lambda>"
structure Bt (mg : Str → Option Value) : Prop where
  len : mg "len" = none
  int : mg "int" = none
  isinstance : mg "isinstance" = none
  range : mg "range" = none
  all : mg "all" = none
  any : mg "any" = none
  sum : mg "sum" = none
  max : mg "max" = none
  min : mg "min" = none
  str : mg "str" = none
  tuple : mg "tuple" = none
  list : mg "list" = none
  sorted : mg "sorted" = none
  zip : mg "zip" = none
  bool : mg "bool" = none
  dict : mg "dict" = none
  set : mg "set" = none
structure Okx (X : Cx) (k : Nat) (fa : FA) (sp : Nat → Sp) (tb : Nat → Prop) (nm : Nat → Str) (pn : Nat → List Str) : Prop where
  calm : X.calm = true
  room : Room k X.A
  nd : X.N.Nodup
  tbl : Tbl X.prog X.w X.K X.mg X.base k fa sp tb nm pn
  bt : Bt X.mg

section
variable {X : Cx} {k : Nat} {fa : FA} {sp : Nat → Sp} {tb : Nat → Prop} {nm : Nat → Str} {pn : Nat → List Str} {a b q e : Expr} {es : List Expr} {a' b' q' e' : E} {as' : Es} {pos p : Pos} {x : Str} {C : Addr} {Wx : WX}
theorem Okx.blk (h : Okx X k fa sp tb nm pn) {s : Shared} {H : Hp} {scope : Scope} {cenv : Env} {fp : List Addr} : Okx (X.blk s H scope cenv fp) k fa sp tb nm pn := ⟨h.calm, h.room, h.nd, h.tbl, h.bt⟩
theorem Okx.hu (h : Okx X k fa sp tb nm pn) : X.A.units + 64 < cLine := h.room.units
theorem d_int {i : Int} {j : Nat} : PE X (.Constant (.int i) j pos) ((tE X.K fa sp tb) (.cst (.int i))) := pe_int
theorem d_bl {i : Bool} {j : Nat} : PE X (.Constant (.bool i) j pos) ((tE X.K fa sp tb) (.cst (.bl i))) := pe_bl
theorem d_non {j : Nat} : PE X (.Constant .none j pos) ((tE X.K fa sp tb) (.cst .non)) := pe_non
theorem d_str {i : Str} {j : Nat} : PE X (.Constant (.str i) j pos) ((tE X.K fa sp tb) (.cst (.str i))) := pe_str
theorem d_glob {i : Int} (hm : ∃ t, X.mg x = some (.int i t)) (hg : Gl X x := by rfl) (hd : (x == ("__debug__" : Str)) = false := by decide) : PE X (.Name x pos) ((tE X.K fa sp tb) (.cst (.int i))) := by
  obtain ⟨t, hm⟩ := hm
  exact pe_glob hg hm ⟨t, rfl⟩ hd
theorem d_fn (h : Okx X k fa sp tb nm pn) (f : Nat) (hf : tb f) (hx : nm f = x := by rfl) (hg : Gl X x := by rfl) (hd : (x == ("__debug__" : Str)) = false := by decide) : PE X (.Name x pos) ((tE X.K fa sp tb) (.fnv f)) := by
  obtain ⟨fd, F, kp, bd, m, kb⟩ := h.tbl.fn f hf
  exact pe_glob hg (hx ▸ m) rfl hd
theorem d_add (ha : PE X a ((tE X.K fa sp tb) a')) (hb : PE X b ((tE X.K fa sp tb) b')) : PE X (.BinOp a .Add b pos) ((tE X.K fa sp tb) (.bin .add a' b')) := pe_op (op_add.or (op_add_str.or (op_catA.or op_cat))) ha hb
theorem d_sub (ha : PE X a ((tE X.K fa sp tb) a')) (hb : PE X b ((tE X.K fa sp tb) b')) : PE X (.BinOp a .Sub b pos) ((tE X.K fa sp tb) (.bin .sub a' b')) := pe_op op_sub ha hb
theorem d_mul (ha : PE X a ((tE X.K fa sp tb) a')) (hb : PE X b ((tE X.K fa sp tb) b')) : PE X (.BinOp a .Mult b pos) ((tE X.K fa sp tb) (.bin .mul a' b')) := pe_op (op_mul.or (op_repT.or PvR.op_mulS)) ha hb
theorem d_div (ha : PE X a ((tE X.K fa sp tb) a')) (hb : PE X b ((tE X.K fa sp tb) b')) : PE X (.BinOp a .FloorDiv b pos) ((tE X.K fa sp tb) (.bin .div a' b')) := pe_op op_fdivW ha hb
theorem d_mod (ha : PE X a ((tE X.K fa sp tb) a')) (hb : PE X b ((tE X.K fa sp tb) b')) : PE X (.BinOp a .Mod b pos) ((tE X.K fa sp tb) (.bin .mod a' b')) := pe_op op_mod ha hb
theorem d_pow (ha : PE X a ((tE X.K fa sp tb) a')) (hb : PE X b ((tE X.K fa sp tb) b')) : PE X (.BinOp a .Pow b pos) ((tE X.K fa sp tb) (.bin .pow a' b')) := pe_op op_pow ha hb
theorem d_neg (ha : PE X a ((tE X.K fa sp tb) a')) : PE X (.UnaryOp .USub a pos) ((tE X.K fa sp tb) (.neg a')) := pe_un un_neg ha
def cop : COp → CmpOp
  | .eq => .Eq | .ne => .NotEq | .lt => .Lt | .le => .LtE | .gt => .Gt | .ge => .GtE | .inn => .In | .nin => .NotIn
theorem cop_ok (h : Okx X k fa sp tb nm pn) : ∀ o : COp, OpR X (compareOp (cop o)) (rC X.K o)
  | .eq => op_eq.or (op_eqD h.hu)
  | .ne => op_ne.or (op_neD h.hu)
  | .lt => (op_lt.or op_lt_str).or (PvR.op_ltD h.hu)
  | .le => op_le.or op_le_str
  | .gt => op_gt.or op_gt_str
  | .ge => (op_ge.or op_ge_str).or (PvR.op_geP h.hu)
  | .inn => op_in_seq.or op_in_str
  | .nin => op_notIn_seq.or op_notIn_str
theorem d_cmp (h : Okx X k fa sp tb nm pn) (o : COp) (ha : PE X a ((tE X.K fa sp tb) a')) (hb : PE X b ((tE X.K fa sp tb) b')) (hm : behindInMarks (cop o) b = false := by rfl) : PE X (.Compare a [cop o] [b] pos) ((tE X.K fa sp tb) (.cmp o a' b')) := pe_cmpR (cop_ok h o) ha hb hm
theorem d_chain (h : Okx X k fa sp tb nm pn) (o o' : COp) (ha : PE X a ((tE X.K fa sp tb) a')) (hb : PE X b ((tE X.K fa sp tb) b')) (hq : PE X q ((tE X.K fa sp tb) q')) (hm : lastMarks [cop o, cop o'] [b, q] = false := by with_unfolding_all rfl) : PE X (.Compare a [cop o, cop o'] [b, q] pos) ((tE X.K fa sp tb) (.chain o o' a' b' q')) :=
  pe_chain (cop_ok h o) (cop_ok h o') ha hb hq hm
theorem d_isN {j : Nat} {pos' : Pos} (ha : PE X a ((tE X.K fa sp tb) a')) : PE X (.Compare a [.Is] [.Constant .none j pos'] pos) ((tE X.K fa sp tb) (.isN a')) := pe_cmp (pc_isN ha) rfl
theorem d_one {op : BoolOp} (ha : PE X a ((tE X.K fa sp tb) a')) : PE X (.BoolOp op [a] pos) ((tE X.K fa sp tb) a') := pe_one ha
theorem d_and {r : List Expr} (ha : PE X a ((tE X.K fa sp tb) a')) (hb : PE X (.BoolOp .And (b :: r) pos) ((tE X.K fa sp tb) b')) : PE X (.BoolOp .And (a :: b :: r) pos) ((tE X.K fa sp tb) (.and a' b')) := pe_and ha hb
theorem d_not (ha : PE X a ((tE X.K fa sp tb) a')) : PE X (.UnaryOp .Not a pos) ((tE X.K fa sp tb) (.not a')) := pe_not ha
theorem d_ite {t : T} (hc : PT X q ((tT X.K fa sp tb) t)) (ha : PE X a ((tE X.K fa sp tb) a')) (hb : PE X b ((tE X.K fa sp tb) b')) : PE X (.IfExp q a b pos) ((tE X.K fa sp tb) (.ite t a' b')) := pe_ifExp hc ha hb
theorem d_nil : PA X [] ((tEs X.K fa sp tb) .nil) := pa_nil
theorem d_cons (ha : PE X a ((tE X.K fa sp tb) a')) (hr : PA X es ((tEs X.K fa sp tb) as')) (hs : starEach (a :: es) X.env = (false, eval a X.env) :: starEach es X.env := by rfl) : PA X (a :: es) ((tEs X.K fa sp tb) (.cons a' as')) := pa_cons ha hr hs
theorem d_call (h : Okx X k fa sp tb nm pn) (f : Nat) (hf : tb f) (ha : PA X (e :: es) ((tEs X.K fa sp tb) as')) (hx : nm f = x := by rfl) (hg : Gl X x := by rfl) (hdb : (x == ("__debug__" : Str)) = false := by decide)
    (he : starEach (e :: es) X.env = (false, eval e X.env) :: starEach es X.env := by rfl) (hpl : (backTo pos (starEach es X.env)).any (·.1) = false := by rfl) : PE X (.Call (.Name x p) (e :: es) [] pos) ((tE X.K fa sp tb) (.call f as')) := by
  obtain ⟨fd, F, kp, bd, m, kb⟩ := h.tbl.fn f hf
  exact pe_call F h.room hg (hx ▸ m) kp bd .nil passF ha hdb he hpl
theorem pe_callN0 {CX : CXT} {k : Nat} {f : Addr} {fd : FuncData} {ps : List Str} {sp : Sp} {E : L2.St → XK} {kws : List Keyword} {tk : TA} (F : FnOk X.prog X.w X.K X.mg X.base CX k f fd ps sp) (hr : Room k X.A) (hg : Gl X x) (hm : X.mg x = some (.ref f)) (hk : PySem.W.keepIn X.K (.ref f) = true)
    (hb : KBd X.K fd ps) (hx : ∀ σ, PassesAt CX X σ (E σ)) (hkw : PK X kws tk) (hall : (backToKw pos (keywordEach kws X.env)).all (·.1.isSome) = true) (hks : (backToKw pos (keywordEach kws X.env)).filterMap (·.1) = ps) (hdb : (x == ("__debug__" : Str)) = false)
    (hpl : ((backTo pos (starEach [] X.env)).any (·.1) || (backToKw pos (keywordEach kws X.env)).any (·.1.isNone)) = false) : PE X (.Call (.Name x p) [] kws pos) (tCallS sp E tk) := by
  refine ⟨fun pins s σ H Q I h => ?_⟩
  refine wpAny_Call_Name_kw (ld_glob I hg hm ?_ hdb)
  refine PySem.W.callWith_KW0 (h₀ := X.base) I.ok.mod.kin hk hall (L2.thn (hkw.run pos pins s σ H _ I h) fun ws s2 ⟨zs, H2, I2, rz, q2⟩ => ⟨I2.kIn, ?_⟩) hpl
  rw [hks]
  have hl : ws.length = ps.length := rz.length.symm.trans (F.len _ _ _ _ q2)
  refine wpAny_call (codeAny_mono (F.run X.A X.stack s2 H2 ⟨[], ps.zip ws⟩ ws zs Q (E σ) hr I2.env0 (hb s2 ws I2.kIn hl) rz q2) fun r s' hq => ?_)
  cases r with
  | error e => exact hx σ pins H2 s2 e s' I2 hq
  | ok fl =>
    cases fl with
    | ret u => exact I2.after hq
    | next => exact False.elim hq
    | brk => exact False.elim hq
    | cont => exact False.elim hq
theorem k_nil : PK X [] ((tEs X.K fa sp tb) .nil) := pk_nil
theorem k_cons {n : Str} {kp : Pos} {kws : List Keyword} (ha : PE X a ((tE X.K fa sp tb) a')) (hr : PK X kws ((tEs X.K fa sp tb) as')) : PK X (⟨some n, a, kp⟩ :: kws) ((tEs X.K fa sp tb) (.cons a' as')) := pk_cons ha hr
theorem x_call (h : Okx X k fa sp tb nm pn) (tk : Takes X Wx) (f : Nat) (hf : tb f) (ha : PA X (e :: es) ((tEs X.K fa sp tb) as')) (hx : nm f = x := by rfl) (hg : Gl X x := by rfl) (hdb : (x == ("__debug__" : Str)) = false := by decide)
    (he : starEach (e :: es) X.env = (false, eval e X.env) :: starEach es X.env := by rfl) (hpl : (backTo pos (starEach es X.env)).any (·.1) = false := by rfl) : PE X (.Call (.Name x p) (e :: es) [] pos) (tX X.K fa sp tb Wx (.call f as')) := by
  obtain ⟨fd, F, kp, bd, m, kb⟩ := h.tbl.fn f hf
  exact pe_callS F h.room hg (hx ▸ m) kp bd (fun σ => passAt tk σ) ha hdb he hpl
theorem x_callK (h : Okx X k fa sp tb nm pn) (tk : Takes X Wx) (f : Nat) (hf : tb f) {kws : List Keyword} (hkw : PK X kws ((tEs X.K fa sp tb) as'))
    (hx : nm f = x := by rfl) (hg : Gl X x := by rfl) (hdb : (x == ("__debug__" : Str)) = false := by decide) (hall : (backToKw pos (keywordEach kws X.env)).all (·.1.isSome) = true := by rfl) (hks : (backToKw pos (keywordEach kws X.env)).filterMap (·.1) = pn f := by rfl)
    (hpl : ((backTo pos (starEach [] X.env)).any (·.1) || (backToKw pos (keywordEach kws X.env)).any (·.1.isNone)) = false := by rfl) : PE X (.Call (.Name x p) [] kws pos) (tX X.K fa sp tb Wx (.call f as')) := by
  obtain ⟨fd, F, kp, bd, m, kb⟩ := h.tbl.fn f hf
  exact pe_callN0 F h.room hg (hx ▸ m) kp kb (fun σ => passAt tk σ) hkw hall hks hdb hpl
theorem x_ite {t : T} {x1 x2 : XE} (hc : PT X q ((tT X.K fa sp tb) t)) (ha : PE X a (tX X.K fa sp tb Wx x1)) (hb : PE X b (tX X.K fa sp tb Wx x2)) : PE X (.IfExp q a b pos) (tX X.K fa sp tb Wx (.ite t x1 x2)) := pe_ifExp hc ha hb
theorem d_callv (h : Okx X k fa sp tb nm pn) {i : Nat} (ha : PA X (e :: es) ((tEs X.K fa sp tb) as')) (hN : X.N[i]? = some x := by rfl) (hv : Vis X.env.scope x := by first | exact Or.inl rfl | exact Or.inr (Or.inl rfl) | exact Or.inr (Or.inr rfl))
    (hdb : (x == ("__debug__" : Str)) = false := by decide) (hcd : (x == ("__classdict__" : Str)) = false := by decide)
    (he : starEach (e :: es) X.env = (false, eval e X.env) :: starEach es X.env := by rfl) (hpl : (backTo pos (starEach es X.env)).any (·.1) = false := by rfl) : PE X (.Call (.Name x p) (e :: es) [] pos) ((tE X.K fa sp tb) (.callv i as')) := by
  show PE X _ (fun σ H Q => ∃ f, tb f ∧ tCallL i (fa f) (sp f) [] E0 ((tEs X.K fa sp tb) as') σ H Q)
  refine pe_exs fun f hf => ?_
  obtain ⟨fd, F, kp, bd, m, kb⟩ := h.tbl.fn f hf
  exact pe_callL F h.room hN hv kp bd .nil passF ha hdb hcd he hpl
theorem d_len (h : Okx X k fa sp tb nm pn) (ha : PA X [e] ((tEs X.K fa sp tb) as')) (hg : Gl X "len" := by rfl) (he : starEach [e] X.env = (false, eval e X.env) :: starEach [] X.env := by rfl) (hpl : (backTo pos (starEach [] X.env)).any (·.1) = false := by rfl) :
    PE X (.Call (.Name "len" p) [e] [] pos) ((tE X.K fa sp tb) (.bi .len as')) := pe_callB (call_len_seq.or call_len_str) hg h.bt.len boot_len ha (by decide) (by decide) he hpl
theorem d_intf (h : Okx X k fa sp tb nm pn) (ha : PA X [e] ((tEs X.K fa sp tb) as')) (hg : Gl X "int" := by rfl) (he : starEach [e] X.env = (false, eval e X.env) :: starEach [] X.env := by rfl) (hpl : (backTo pos (starEach [] X.env)).any (·.1) = false := by rfl) :
    PE X (.Call (.Name "int" p) [e] [] pos) ((tE X.K fa sp tb) (.bi .int as')) := pe_callTy call_int1 hg h.bt.int (by decide +kernel) ha (by decide) (by decide) he hpl
theorem d_all (h : Okx X k fa sp tb nm pn) (ha : PA X [e] ((tEs X.K fa sp tb) as')) (hg : Gl X "all" := by rfl) (he : starEach [e] X.env = (false, eval e X.env) :: starEach [] X.env := by rfl) (hpl : (backTo pos (starEach [] X.env)).any (·.1) = false := by rfl) :
    PE X (.Call (.Name "all" p) [e] [] pos) ((tE X.K fa sp tb) (.bi .all as')) := pe_callB (cr_all h.calm) hg h.bt.all (by decide +kernel) ha (by decide) (by decide) he hpl
theorem d_sum (h : Okx X k fa sp tb nm pn) (ha : PA X [e] ((tEs X.K fa sp tb) as')) (hg : Gl X "sum" := by rfl) (he : starEach [e] X.env = (false, eval e X.env) :: starEach [] X.env := by rfl) (hpl : (backTo pos (starEach [] X.env)).any (·.1) = false := by rfl) :
    PE X (.Call (.Name "sum" p) [e] [] pos) ((tE X.K fa sp tb) (.bi .sum as')) := pe_callB ((cr_sum h.calm).or (PvLm.cr_sumT h.calm)) hg h.bt.sum (by decide +kernel) ha (by decide) (by decide) he hpl
theorem d_min2 (h : Okx X k fa sp tb nm pn) (ha : PA X [a, b] ((tEs X.K fa sp tb) as')) (hg : Gl X "min" := by rfl) (he : starEach [a, b] X.env = (false, eval a X.env) :: starEach [b] X.env := by rfl) (hpl : (backTo pos (starEach [b] X.env)).any (·.1) = false := by rfl) :
    PE X (.Call (.Name "min" p) [a, b] [] pos) ((tE X.K fa sp tb) (.bi .min2 as')) := pe_callB (call_min2 h.calm) hg h.bt.min (by decide +kernel) ha (by decide) (by decide) he hpl
theorem d_tuplef (h : Okx X k fa sp tb nm pn) (ha : PA X [e] ((tEs X.K fa sp tb) as')) (hg : Gl X "tuple" := by rfl) (he : starEach [e] X.env = (false, eval e X.env) :: starEach [] X.env := by rfl) (hpl : (backTo pos (starEach [] X.env)).any (·.1) = false := by rfl) :
    PE X (.Call (.Name "tuple" p) [e] [] pos) ((tE X.K fa sp tb) (.bi .tuple as')) := pe_callTy call_tuple_of hg h.bt.tuple (by decide +kernel) ha (by decide) (by decide) he hpl
theorem d_sorted (h : Okx X k fa sp tb nm pn) (ha : PA X [e] ((tEs X.K fa sp tb) as')) (hg : Gl X "sorted" := by rfl) (he : starEach [e] X.env = (false, eval e X.env) :: starEach [] X.env := by rfl) (hpl : (backTo pos (starEach [] X.env)).any (·.1) = false := by rfl) :
    PE X (.Call (.Name "sorted" p) [e] [] pos) ((tE X.K fa sp tb) (.bi .sorted as')) := pe_callB ((cr_sortedI.or (PvR.call_sortedDI h.calm)).or ((PvR.call_sortedDS h.calm h.hu).or ((PvR.call_sortedDT h.calm h.hu).or (PvR.call_sortedL h.hu)))) hg h.bt.sorted (by decide +kernel) ha (by decide) (by decide) he hpl
theorem d_isi1 (h : Okx X k fa sp tb nm pn) {y : Str} {p2 : Pos} {t : String} (ha : PE X e ((tE X.K fa sp tb) e')) (hm : X.mg y = none) (hv : bootBuiltins y = some (.type t)) (hg : Gl X "isinstance" := by rfl) (hy : Gl X y := by rfl)
    (hn : y ≠ "__name__" := by decide) (hd : (y == ("__debug__" : Str)) = false := by decide)
    (he : starEach [e, .Name y p2] X.env = (false, eval e X.env) :: starEach [.Name y p2] X.env := by rfl) (he2 : starEach [.Name y p2] X.env = (false, eval (.Name y p2) X.env) :: starEach [] X.env := by rfl) (hpl : (backTo pos (starEach [.Name y p2] X.env)).any (·.1) = false := by rfl) :
    PE X (.Call (.Name "isinstance" p) [e, .Name y p2] [] pos) ((tE X.K fa sp tb) (.isi1 e' t)) :=
  pe_callB call_isi hg h.bt.isinstance (by decide +kernel) (pa_cons ha (pa_cons (pe_bltn hy hm hv rfl hn hd) pa_nil he2) he) (by decide) (by decide) he hpl
theorem d_isi2 (h : Okx X k fa sp tb nm pn) {y z : Str} {p2 p3 p4 : Pos} {t u : String} {j : Nat} (ha : PE X e ((tE X.K fa sp tb) e')) (hm : X.mg y = none) (hv : bootBuiltins y = some (.type t)) (hm2 : X.mg z = none) (hv2 : bootBuiltins z = some (.type u))
    (hg : Gl X "isinstance" := by rfl) (hy : Gl X y := by rfl) (hz : Gl X z := by rfl)
    (hn : y ≠ "__name__" := by decide) (hd : (y == ("__debug__" : Str)) = false := by decide) (hn2 : z ≠ "__name__" := by decide) (hd2 : (z == ("__debug__" : Str)) = false := by decide)
    (h1 : starEach [.Name y p2, .Name z p3] X.env = (false, eval (.Name y p2) X.env) :: starEach [.Name z p3] X.env := by rfl) (h2 : starEach [.Name z p3] X.env = (false, eval (.Name z p3) X.env) :: starEach [] X.env := by rfl)
    (he : starEach [e, .Tuple [.Name y p2, .Name z p3] j p4] X.env = (false, eval e X.env) :: starEach [.Tuple [.Name y p2, .Name z p3] j p4] X.env := by rfl)
    (he2 : starEach [.Tuple [.Name y p2, .Name z p3] j p4] X.env = (false, eval (.Tuple [.Name y p2, .Name z p3] j p4) X.env) :: starEach [] X.env := by rfl)
    (hpl : (backTo pos (starEach [.Tuple [.Name y p2, .Name z p3] j p4] X.env)).any (·.1) = false := by rfl) :
    PE X (.Call (.Name "isinstance" p) [e, .Tuple [.Name y p2, .Name z p3] j p4] [] pos) ((tE X.K fa sp tb) (.isi2 e' t u)) :=
  pe_callB call_isiT hg h.bt.isinstance (by decide +kernel) (pa_cons ha (pa_cons (pe_tup (pa_cons (pe_bltn hy hm hv rfl hn hd) (pa_cons (pe_bltn hz hm2 hv2 rfl hn2 hd2) pa_nil h2) h1)) pa_nil he2) he) (by decide) (by decide) he hpl
theorem d_ix (ha : PE X a ((tE X.K fa sp tb) a')) (hb : PE X b ((tE X.K fa sp tb) b')) (hs : PlainIx b := by exact fun _ _ => rfl) : PE X (.Subscript a b pos) ((tE X.K fa sp tb) (.ix a' b')) := pe_ix ix_seq ha hb hs
theorem d_sortR (h : Okx X k fa sp tb nm pn) (L : LamOk X.mg X.base fa X.env.code X.env.qual) {i : Nat} {q0 q1 q2 q3 q4 q5 l0 l1 l2 l3 l4 l5 kp : Pos} (hN : X.N[i]? = some ("rests" : Str) := by rfl) (hc : X.env.scope.names.lookup ("rests" : Str) = some .cell := by rfl) (hgS : Gl X "sorted" := by rfl) (hgR : Gl X "range" := by rfl) (hgL : Gl X "len" := by rfl)
    (s1 : starEach [.Name "rests" q3] X.env = (false, eval (.Name "rests" q3) X.env) :: starEach [] X.env := by rfl) (s2 : (backTo q4 (starEach [] X.env)).any (·.1) = false := by rfl)
    (s3 : starEach [.Call (.Name "len" q2) [.Name "rests" q3] [] q4] X.env = (false, eval (.Call (.Name "len" q2) [.Name "rests" q3] [] q4) X.env) :: starEach [] X.env := by rfl) (s4 : (backTo q5 (starEach [] X.env)).any (·.1) = false := by rfl)
    (s5 : starEach [.Call (.Name "range" q1) [.Call (.Name "len" q2) [.Name "rests" q3] [] q4] [] q5] X.env = (false, eval (.Call (.Name "range" q1) [.Call (.Name "len" q2) [.Name "rests" q3] [] q4] [] q5) X.env) :: starEach [] X.env := by rfl)
    (b1 : backTo pos (starEach [.Call (.Name "range" q1) [.Call (.Name "len" q2) [.Name "rests" q3] [] q4] [] q5] X.env) = (false, eval (.Call (.Name "range" q1) [.Call (.Name "len" q2) [.Name "rests" q3] [] q4] [] q5) X.env) :: backTo pos (starEach [] X.env) := by rfl) (b2 : (backTo pos (starEach [.Call (.Name "range" q1) [.Call (.Name "len" q2) [.Name "rests" q3] [] q4] [] q5] X.env)).any (·.1) = false := by rfl) :
    PE X (.Call (.Name "sorted" q0) [.Call (.Name "range" q1) [.Call (.Name "len" q2) [.Name "rests" q3] [] q4] [] q5] [⟨some "key", .Lambda (PvLm.kArgs l0) (PvLm.kBody l1 l2 l3 l4) PvLm.kScope l5, kp⟩] pos) ((tE X.K fa sp tb) (.sortR i)) := by
  obtain ⟨c, P, hcode, TB, hm, hu⟩ := L.ex
  have hv : Vis X.env.scope "rests" := .inr (.inl hc)
  have e1 := pe_callB (X := X) (pos := q4) (p := q2) (id := "len") (x := "len") (call_len_seq.or call_len_str) hgL h.bt.len boot_len (pa_cons (pv (pos := q3) i hN hv) pa_nil s1) (by decide) (by decide) s1 s2
  have e2 := pe_callTy (X := X) (pos := q5) (p := q1) (T := "range") (x := "range") PvLm.cr_range1 hgR h.bt.range (by decide +kernel) (pa_cons e1 pa_nil s3) (by decide) (by decide) s3 s4
  exact PvLm.pe_sortR h.calm h.room h.hu TB hcode hm hu hN hc hgS h.bt.sorted e2 (fun σ H a ns Q h1 h2 h3 => ⟨_, h1, .inl ⟨a, ns.map V.int, rfl, .inl h2, ((ns.map V.int).length : Int), rfl, fun r hr => by rw [List.length_map]; exact h3 r hr⟩⟩) s5 b1 b2
theorem d_sl {lo hi : Option Expr} {lo' hi' : Eo} {p2 : Pos} (ha : PE X a ((tE X.K fa sp tb) a')) (h1 : PO X lo (tO X.K fa sp tb lo')) (h2 : PO X hi (tO X.K fa sp tb hi')) : PE X (.Subscript a (.Slice lo hi none p2) pos) ((tE X.K fa sp tb) (.sl a' lo' hi')) :=
  pe_slice (sl_list.or (sl_tupA.or sl_str)) ha h1 h2
theorem d_on : PO X none (tO X.K fa sp tb .none) := po_none
theorem d_os (ha : PE X a ((tE X.K fa sp tb) a')) : PO X (some a) (tO X.K fa sp tb (.some a')) := po_some ha
theorem d_tup {j : Nat} (h : PA X es ((tEs X.K fa sp tb) as')) : PE X (.Tuple es j pos) ((tE X.K fa sp tb) (.tup as')) := pe_tup h
theorem d_lst (h : PA X es ((tEs X.K fa sp tb) as')) : PE X (.List es pos) ((tE X.K fa sp tb) (.lst as')) := pe_lst h
theorem d_comp (h : Okx X k fa sp tb nm pn) {elt tg iter : Expr} {ifs : List Expr} {scope : Scope} (own : List (Str × Nat)) {tg' : Tg} {it' : It} {c' : To} {elt' : E} {vs : List Nat}
    (hi : PI X tg iter (tI X.K fa sp tb it')) (ok : BlkOk X.N X.env.scope scope own)
    (hg : ∀ (s : Shared) (H : Hp) (C : Addr) (cl : List (Str × Addr)) (fp : List Addr), PG (X.blk s H scope (compEnvC scope cl C X.env) fp) tg (tTg X.K tg'))
    (ht : ∀ (s : Shared) (H : Hp) (C : Addr) (cl : List (Str × Addr)) (fp : List Addr), PTs (X.blk s H scope (compEnvC scope cl C X.env) fp) ifs (tTo X.K fa sp tb c'))
    (he : ∀ (s : Shared) (H : Hp) (C : Addr) (cl : List (Str × Addr)) (fp : List Addr), PE (X.blk s H scope (compEnvC scope cl C X.env) fp) elt ((tE X.K fa sp tb) elt'))
    (hv : own.map (·.2) = vs := by rfl) (hs : ∀ x, foldedSetIterable iter X.env x = pure x := by intro _; rfl) : PE X (.ListComp elt [⟨tg, iter, ifs, 0⟩] scope pos) ((tE X.K fa sp tb) (.comp vs tg' it' c' elt')) := by
  subst hv
  exact pe_lc h.calm h.nd hi ok hg ht he hs
theorem d_tn : PTs X [] (tTo X.K fa sp tb .none) := pts_nil
theorem d_fz (ha : PE X a ((tE X.K fa sp tb) a')) : PE X a ((tE X.K fa sp tb) (.fz a')) := ha
theorem d_seq {tg : Expr} (ha : PE X a ((tE X.K fa sp tb) a')) : PI X tg a (tI X.K fa sp tb (.seq a')) := pi_or (pi_list ha) (pi_or (pi_tup ha) (pi_str ha))
theorem d_r1 (h : Okx X k fa sp tb nm pn) {tg : Expr} (ha : PE X a ((tE X.K fa sp tb) a')) (hg : Gl X "range" := by rfl) (hs : starEach [a] X.env = [(false, eval a X.env)] := by rfl) : PI X tg (.Call (.Name "range" p) [a] [] pos) (tI X.K fa sp tb (.r1 a')) :=
  pi_range1 hg h.bt.range (pa_cons ha pa_nil hs) hs
theorem d_val (h : PE X a ((tE X.K fa sp tb) a')) (hv : ∀ whole, PySem.isTrue a X.env whole = (do let v ← whole; standAt a.pos; holding [v] (truthy v)) := by intro _; rfl) : PT X a ((tT X.K fa sp tb) (.val a')) := pt_val h hv
theorem d_tcmp (h : Okx X k fa sp tb nm pn) (o : COp) (ha : PE X a ((tE X.K fa sp tb) a')) (hb : PE X b ((tE X.K fa sp tb) b')) (hm : behindInMarks (cop o) b = false := by rfl) : PT X (.Compare a [cop o] [b] pos) ((tT X.K fa sp tb) (.val (.cmp o a' b'))) := pt_cmpR (cop_ok h o) ha hb hm
theorem d_tisN {j : Nat} {pos' : Pos} (ha : PE X a ((tE X.K fa sp tb) a')) : PT X (.Compare a [.Is] [.Constant .none j pos'] pos) ((tT X.K fa sp tb) (.val (.isN a'))) := pt_cmp (pc_isN ha) rfl
variable {t u : T}
theorem d_tnot (h : PT X a ((tT X.K fa sp tb) t)) : PT X (.UnaryOp .Not a pos) ((tT X.K fa sp tb) (.not t)) := pt_not h
theorem d_wor1 (h : PT X a ((tT X.K fa sp tb) t)) : PW X (.BoolOp .Or [a] pos) ((tT X.K fa sp tb) t) := pw_or1 h
theorem d_wor {r : List Expr} (ha : PT X a ((tT X.K fa sp tb) t)) (hb : PW X (.BoolOp .Or (b :: r) pos) ((tT X.K fa sp tb) u)) : PW X (.BoolOp .Or (a :: b :: r) pos) ((tT X.K fa sp tb) (.or t u)) := pw_or ha hb
theorem d_w (h : PW X a ((tT X.K fa sp tb) t)) : PT X a ((tT X.K fa sp tb) t) := h.pt
theorem d_gn (h : Okx X k fa sp tb nm pn) {i : Nat} (hi : X.N[i]? = some x := by rfl) (hx : L2.Loc X.env.scope x := by first | exact Or.inl rfl | exact Or.inr rfl) (hf : X.fn x = true ∨ X.env.scope.names.lookup x = some .local := by first | exact .inl rfl | exact .inr rfl) : PG X (.Name x pos) (tTg X.K (.name i)) := pg_name h.nd hi hx hf
theorem d_gs0 : PGs X [] (tTg.go X.K .tnil) := pgs_nil
theorem d_gs {g r : Tg} (h1 : PG X e (tTg X.K g)) (h2 : PGs X es (tTg.go X.K r)) (hs : (assignEach (e :: es) X.env).map (·.2) = assign e X.env :: (assignEach es X.env).map (·.2) := by rfl) : PGs X (e :: es) (tTg.go X.K (.tcons g r)) := pgs_cons h1 h2 hs
theorem d_gt (h : Okx X k fa sp tb nm pn) {ts : Tg} {j : Nat} (h1 : PGs X es (tTg.go X.K ts)) (hn : (assignEach es X.env).length = tgLen ts := by rfl) (hst : (assignEach es X.env).findIdx? (·.1) = none := by rfl) : PG X (.Tuple es j pos) (tTg X.K (.tup ts)) :=
  pg_imp (pg_or (pg_tup h.calm h1 hn hst) (pg_unl h.calm h1 hn hst)) fun v σ H Q ⟨a, xs, e, s, l, q⟩ => s.elim (fun s => .inl ⟨a, xs, e, s, l, q⟩) fun s => .inr ⟨a, xs, e, s, l, q⟩
end

section
variable {X : Cx} {k : Nat} {fa : FA} {sp : Nat → Sp} {tb : Nat → Prop} {nm : Nat → Str} {pn : Nat → List Str} {a b q e : Expr} {es : List Expr} {a' b' q' e' : E} {as' : Es} {pos p : Pos} {x : Str} {C : Addr} {Wx : WX}
theorem s_nil : PSs X [] ((tSs X.K fa sp tb C Wx) .nil) := pss_nil
theorem s_cons {st : Stmt} {rest : List Stmt} {s : Pv.S} {ss : Ss} (h1 : PS X st ((tS X.K fa sp tb C Wx) s)) (h2 : PSs X rest ((tSs X.K fa sp tb C Wx) ss)) : PSs X (st :: rest) ((tSs X.K fa sp tb C Wx) (.cons s ss)) := pss_cons h1 h2
theorem s_set (h : Okx X k fa sp tb nm pn) {i : Nat} {p' : Pos} (he : PE X e ((tE X.K fa sp tb) e')) (hi : X.N[i]? = some x := by rfl) (hx : L2.Loc X.env.scope x := by first | exact Or.inl rfl | exact Or.inr rfl)
    (hs : swapsWith e (some (.Name x p')) pos.line X.env = pure false := by rfl) (hf : X.fn x = true ∨ X.env.scope.names.lookup x = some .local := by first | exact .inl rfl | exact .inr rfl) : PS X (.Assign [.Name x p'] e pos) ((tS X.K fa sp tb C Wx) (.asg (.name i) e')) := ps_set h.nd hi hx he hs hf
theorem s_newL (h : Okx X k fa sp tb nm pn) {i : Nat} {p' p2 : Pos} (ha : PA X es (tEs X.K fa sp tb as')) (hi : X.N[i]? = some x := by rfl) (hx : L2.Loc X.env.scope x := by first | exact Or.inl rfl | exact Or.inr rfl)
    (hs : swapsWith (.List es p2) (some (.Name x p')) pos.line X.env = pure false := by rfl) (hf : X.fn x = true ∨ X.env.scope.names.lookup x = some .local := by first | exact .inl rfl | exact .inr rfl) : PS X (.Assign [.Name x p'] (.List es p2) pos) ((tS X.K fa sp tb C Wx) (.newL i as')) := ps_set h.nd hi hx (pe_lst ha) hs hf
theorem s_setLc (h : Okx X k fa sp tb nm pn) {i : Nat} {elt tg iter : Expr} {ifs : List Expr} {scope : Scope} (own : List (Str × Nat)) {tg' : Tg} {it' : It} {c' : To} {elt' : E} {vs : List Nat} {py cpos : Pos}
    (hi : PI X tg iter (tI X.K fa sp tb it')) (ok : BlkOk X.N X.env.scope scope own)
    (hg : ∀ (s : Shared) (H : Hp) (C : Addr) (cl : List (Str × Addr)) (fp : List Addr), PG (X.blk s H scope (compEnvC scope cl C X.env) fp) tg (tTg X.K tg'))
    (ht : ∀ (s : Shared) (H : Hp) (C : Addr) (cl : List (Str × Addr)) (fp : List Addr), PTs (X.blk s H scope (compEnvC scope cl C X.env) fp) ifs (tTo X.K fa sp tb c'))
    (he : ∀ (s : Shared) (H : Hp) (C : Addr) (cl : List (Str × Addr)) (fp : List Addr), PE (X.blk s H scope (compEnvC scope cl C X.env) fp) elt ((tE X.K fa sp tb) elt'))
    (hsw : swapsWith (.ListComp elt [⟨tg, iter, ifs, 0⟩] scope cpos) (some (.Name x py)) pos.line X.env = pure true)
    (hy : X.N[i]? = some x := by rfl) (hyl : X.env.scope.names.lookup x = some .local := by rfl)
    (hv : own.map (·.2) = vs := by rfl) (hs : ∀ x, foldedSetIterable iter X.env x = pure x := by intro _; rfl) : PS X (.Assign [.Name x py] (.ListComp elt [⟨tg, iter, ifs, 0⟩] scope cpos) pos) (tAsg ((tE X.K fa sp tb) (.comp vs tg' it' c' elt')) (gName i)) := by
  subst hv
  exact ps_setLc h.calm h.nd hy hyl hsw hi ok hg ht he hs
theorem s_app {i : Nat} {ap p2 : Pos} (ha : PE X a ((tE X.K fa sp tb) a')) (hN : X.N[i]? = some x := by rfl) (hv : Vis X.env.scope x := by first | exact Or.inl rfl | exact Or.inr (Or.inl rfl) | exact Or.inr (Or.inr rfl))
    (hd : (x == ("__debug__" : Str)) = false := by decide) (hcd : (x == ("__classdict__" : Str)) = false := by decide)
    (h1 : attributeBase (.Name x p) "append" X.env (eval (.Name x p) X.env) = eval (.Name x p) X.env := by rfl)
    (h2 : ((((backTo p2 (starEach [a] X.env)).all fun x => !x.1) && (backToKw p2 (keywordEach [] X.env)).all fun x => x.1.isSome) && decide (([a].length + ([] : List Keyword).length + if ([] : List Keyword).isEmpty = true then 0 else 1) < 30)) = true := by rfl)
    (h3 : (ap.endLine == p2.line) = true := by rfl) (h4 : starEach [a] X.env = (false, eval a X.env) :: starEach [] X.env := by rfl) (h5 : (backTo p2 (starEach [] X.env)).any (·.1) = false := by rfl)
    (hs : swapsWith (.Call (.Attribute (.Name x p) "append" ap) [a] [] p2) none pos.line X.env = pure false := by rfl) :
    PS X (.Expr (.Call (.Attribute (.Name x p) "append" ap) [a] [] p2) pos) ((tS X.K fa sp tb C Wx) (.app i a')) :=
  ps_expr (pe_bm PySem.F.plainAttrs_list PySem.F.slot_list_append PySem.F.type_list_append mt_append (pv i hN hv hd hcd) (pa_cons ha pa_nil h4) h1 h2 h3 h4 h5) hs
theorem s_setL {i : Nat} {p' : Pos} (hk : PE X a ((tE X.K fa sp tb) a')) (he : PE X e ((tE X.K fa sp tb) e')) (hN : X.N[i]? = some x := by rfl) (hv : Vis X.env.scope x := by first | exact Or.inl rfl | exact Or.inr (Or.inl rfl) | exact Or.inr (Or.inr rfl))
    (hd : (x == ("__debug__" : Str)) = false := by decide) (hcd : (x == ("__classdict__" : Str)) = false := by decide)
    (h0 : ∀ v, assign (.Subscript (.Name x p) a p') X.env v = (do let ov ← holding [v] (eval (.Name x p) X.env); let iv ← holding [v, ov] (eval a X.env); standAt p'; holding [v, ov, iv] (setItem ov iv v); release [v, ov, iv] []) := by intro _; rfl)
    (h1 : swapsWithSole [.Subscript (.Name x p) a p'] e pos.line X.env = pure false := by rfl) (h2 : swappedStores [.Subscript (.Name x p) a p'] e X.env = pure none := by rfl)
    (h3 : (assignEach [.Subscript (.Name x p) a p'] X.env).map (·.2) = [assign (.Subscript (.Name x p) a p') X.env] := by rfl) :
    PS X (.Assign [.Subscript (.Name x p) a p'] e pos) ((tS X.K fa sp tb C Wx) (.setL i a' e')) := ps_asg he (pg_sub (pv i hN hv hd hcd) hk set_list h0) h1 h2 h3
theorem s_augL {i : Nat} {tpos : Pos} (hk : PE X a ((tE X.K fa sp tb) a')) (he : PE X e ((tE X.K fa sp tb) e')) (hN : X.N[i]? = some x := by rfl) (hv : Vis X.env.scope x := by first | exact Or.inl rfl | exact Or.inr (Or.inl rfl) | exact Or.inr (Or.inr rfl))
    (hd : (x == ("__debug__" : Str)) = false := by decide) (hcd : (x == ("__classdict__" : Str)) = false := by decide)
    (ha : ∀ ov iv new, augStore a ov iv new = (do holding [new, ov, iv] (setItem ov iv new); release [new, ov, iv] []; pure .next) := by intros; rfl) :
    PS X (.AugAssign (.Subscript (.Name x p) a tpos) .Add e pos) ((tS X.K fa sp tb C Wx) (.augL i a' e')) := ps_augS (pv i hN hv hd hcd) hk PvLm.get_list he ip_add set_list ha
theorem s_dropX {xe : XE} (he : PE X e (tX X.K fa sp tb Wx xe)) (hs : swapsWith e none pos.line X.env = pure false := by rfl) : PS X (.Expr e pos) ((tS X.K fa sp tb C Wx) (.dropX xe)) := ps_expr he hs
theorem s_rais (h : Okx X (k + 2) fa sp tb nm pn) (re : ErrOk X.prog X.w X.K X.mg X.base C) (tk : Takes X Wx) {p2 : Pos} (he : PE X e ((tE X.K fa sp tb) e')) (hg : Gl X "BadValue" := by rfl) (hs1 : starEach [e] X.env = (false, eval e X.env) :: starEach [] X.env := by rfl) (hpl : (backTo pos (starEach [] X.env)).any (·.1) = false := by rfl) :
    PS X (.Raise (some (.Call (.Name "BadValue" p) [e] [] pos)) none p2) ((tS X.K fa sp tb C Wx) (.rais e')) := by
  obtain ⟨B, fI, fd, T, iC, tI, F1, bd⟩ := re.ex
  exact ps_raise h.calm tk (pmk_er T iC tI F1 (h.room.mono (Nat.le_add_left 2 k)) bd passF hg (pa_cons he pa_nil hs1) (by decide) hs1 hpl)
theorem Okx.tr (h : Okx X k fa sp tb nm pn) {q : List (Addr × Obj)} {xe : Value → Shared → Prop} : Okx (X.tr q xe) k fa sp tb nm pn := ⟨h.calm, h.room, h.nd, h.tbl, h.bt⟩
theorem pe_at {B : Addr} {a : Addr} {oe : Obj} {cls : Value} {d : Option Addr} {pn : List (Addr × Obj)} {e : Expr} {i : Nat} {pos : Pos} (T : ErrC X.K X.mg "BadValue" "SecondError" "at" C B) (hz : Zc cls d oe) (hf : ∃ vs, oe.data = .fields vs) (he : PE (X.suite a ((a, oe) :: pn)) e (tVar i))
    (hb : attributeBase e "at" X.env (eval e X.env) = eval e X.env := by rfl) :
    PE (X.suite a ((a, oe) :: pn)) (.Attribute e "at" pos) (tAt C i a cls d) := by
  refine ⟨fun pins s σ H Q I h => ?_⟩
  refine attr_of hb (L2.thn (he.run pins s σ H _ I h) fun u s1 hh => ?_)
  obtain ⟨x, H1, I1, rx, ex, ec, dd, v, ed, ea, q⟩ := hh
  subst ex
  obtain rfl : u = Value.ref a := rx
  subst ec
  subst ed
  obtain ⟨ha, _⟩ := I1.pin (a, oe) (List.mem_append_left _ List.mem_cons_self)
  obtain ⟨vs, hd⟩ := hf
  have hx : ObjOk X.prog X.w H1 s1.heap dd (.xd [(("at" : Str), v)]) := I1.hok dd _ ea
  obtain ⟨mA, hns, hr⟩ := hx
  obtain ⟨od, ho, hl⟩ := lookIn_ns hns
  have l : List.lookup ("at" : Str) [(("at" : Str), v)] = some v := by simp [List.lookup]
  obtain ⟨u, hu, ru⟩ := RelO.some_of (v := v) (o := mA "at") (by rw [← l]; exact hr "at")
  have J : PySem.W.InstAt s1.heap a oe C (some od) := ⟨ha, hz.1, by unfold PySem.W.notCls; rw [hd] <;> rfl, by rw [hz.2]; exact ho⟩
  exact HandSPX.exc_get I1.kIn J T.ga T.gg T.exC (PySem.W.findObj_own T.hdC T.noF rfl (by rw [hl, hu])) (handed_of ru) ⟨v, H1, I1.tok _, ru, q⟩
theorem s_tryR (h : Okx X k fa sp tb nm pn) (re : ErrOk X.prog X.w X.K X.mg X.base C) {i j j2 : Nat} {n word : Str} {p1 p2 np pos' c1 c2 c3 c4 : Pos} {xe : XE}
    (hx : ∀ (W : WX) (pn : List (Addr × Obj)) (xw : Value → Shared → Prop), Takes (X.tr pn xw) W → PE (X.tr pn xw) e (tX X.K fa sp tb W xe)) (hst : X.stack = X.env :: X.outer := by rfl) (hfr : X.env.frame = some X.env.locals := by rfl)
    (hi : X.N[i]? = some n := by rfl) (hln : X.env.kindOf n = some .local := by rfl) (hg : Gl X "BadValue" := by rfl)
    (hv : Vis X.env.scope n := by first | exact Or.inl rfl | exact Or.inr (Or.inl rfl) | exact Or.inr (Or.inr rfl)) (hd : (n == ("__debug__" : Str)) = false := by decide) (hcd : (n == ("__classdict__" : Str)) = false := by decide)
    (hb : attributeBase (.Name n c2) "at" X.env (eval (.Name n c2) X.env) = eval (.Name n c2) X.env := by rfl)
    (hs1 : starEach [.Constant (.str word) j c1, .Attribute (.Name n c2) "at" c3] X.env = (false, eval (.Constant (.str word) j c1) X.env) :: starEach [.Attribute (.Name n c2) "at" c3] X.env := by rfl)
    (hs2 : starEach [.Attribute (.Name n c2) "at" c3] X.env = (false, eval (.Attribute (.Name n c2) "at" c3) X.env) :: starEach [] X.env := by rfl) :
    PS X (.Try [.Return (some e) p1] [.ExceptHandler (some (.Name "BadValue" np)) (some n) [.Return (some (.Tuple [.Constant (.str word) j c1, .Attribute (.Name n c2) "at" c3] j2 c4)) p2] pos'] [] [] pos) ((tS X.K fa sp tb C Wx) (.tryR xe i word)) := by
  obtain ⟨B, fI, fd, T, iC, tI, F1, bd⟩ := re.ex
  exact ps_try_as (i := i) (tb := fun W => tRet (tX X.K fa sp tb W xe)) (ts := tSuite C i word) (Wout := fun _ _ _ _ => False) hst hfr h.nd hi hln ⟨hg, by decide, .inl T.gC⟩ takes0 (fun W pn xw tk _ => pss_one (ps_ret (hx W pn xw tk)))
    (fun a oe cls d pn hz hf => pss_one (ps_ret (pe_tup (pa_cons pe_str (pa_cons (pe_at T hz hf (pe_var hi hv hd hcd) hb) pa_nil hs2) hs1))))
theorem s_ret (he : PE X e ((tE X.K fa sp tb) e')) : PS X (.Return (some e) pos) ((tS X.K fa sp tb C Wx) (.ret e')) := ps_ret he
theorem s_if {t : T} {A B : List Stmt} {A' B' : Ss} (hc : PT X q (tT X.K fa sp tb t)) (ha : PSs X A ((tSs X.K fa sp tb C Wx) A')) (hb : PSs X B ((tSs X.K fa sp tb C Wx) B')) : PS X (.If q A B pos) ((tS X.K fa sp tb C Wx) (.ifs t A' B')) := ps_if hc ha hb
theorem s_for (h : Okx X k fa sp tb nm pn) {iter tg : Expr} {body : List Stmt} {it' : It} {g : Tg} {B' : Ss} (hp : PassesOwn (model X.prog X.w) X.A X.env X.xe) (hi : PI X tg iter (tI X.K fa sp tb it')) (hg : PG X tg (tTg X.K g)) (hb : PSs X body ((tSs X.K fa sp tb C Wx) B'))
    (hs : ∀ x, foldedSetIterable iter X.env x = pure x := by intro _; rfl) : PS X (.For tg iter body [] pos) ((tS X.K fa sp tb C Wx) (.forS g it' B')) := ps_for hp h.calm hi hg hb hs
theorem s_brk : PS X (.Break pos) ((tS X.K fa sp tb C Wx) .brk) := ps_break
end
end Pv

set_option Elab.async false
set_option linter.all false
set_option maxRecDepth 100000
set_option maxHeartbeats 4000000
namespace Pv
open PySem L2

def fin (n : Nat) : Out → Option (D × Store)
  | .rt d S => some (d, S.take n)
  | .nx _ S => some (.non, S.take n)
  | _ => none
theorem callF_eq {P : Nat → Option Fn} {k f : Nat} {ws : List W} {S : Store} {q : Fn} (h : P f = some q) (h1 : ws.length = q.ar) (h2 : q.ar ≤ q.sl) :
    callF P (k + 1) f ws S = (evSs (callF P k) q.body (startE q.sl ws) S).bind (fin S.length) := by
  simp only [callF, h, Option.bind_some, if_pos (And.intro h1 h2)]
  cases evSs (callF P k) q.body (startE q.sl ws) S with
  | none => rfl
  | some o => cases o <;> rfl

theorem kB1 : kitB "int" "int" = some true := by decide +kernel
theorem kB2 : kitB "int" "bool" = some false := by decide +kernel
theorem kB4 : kitB "int" "list" = some false := by decide +kernel
theorem kB5 : kitB "int" "tuple" = some false := by decide +kernel
theorem kB6 : kitB "bool" "int" = some true := by decide +kernel
theorem kB7 : kitB "bool" "bool" = some true := by decide +kernel
theorem kB9 : kitB "bool" "list" = some false := by decide +kernel
theorem kB10 : kitB "bool" "tuple" = some false := by decide +kernel
theorem kB11 : kitB "str" "int" = some false := by decide +kernel
theorem kB12 : kitB "str" "bool" = some false := by decide +kernel
theorem kB13 : kitB "str" "str" = some true := by decide +kernel
theorem kB14 : kitB "str" "list" = some false := by decide +kernel
theorem kB15 : kitB "str" "tuple" = some false := by decide +kernel
theorem kB16 : kitB "list" "int" = some false := by decide +kernel
theorem kB17 : kitB "list" "bool" = some false := by decide +kernel
theorem kB19 : kitB "list" "list" = some true := by decide +kernel
theorem kB21 : kitB "tuple" "int" = some false := by decide +kernel
theorem kB22 : kitB "tuple" "bool" = some false := by decide +kernel
theorem kB24 : kitB "tuple" "list" = some false := by decide +kernel
theorem kB25 : kitB "tuple" "tuple" = some true := by decide +kernel
theorem kB26 : kitB "NoneType" "int" = some false := by decide +kernel
theorem kB27 : kitB "NoneType" "bool" = some false := by decide +kernel
theorem kB29 : kitB "NoneType" "list" = some false := by decide +kernel
theorem kB30 : kitB "NoneType" "tuple" = some false := by decide +kernel
def finX (n : Nat) : Out → Option (D × Store)
  | .xc d S => some (d, S.take n)
  | _ => none
theorem callX_eq {P : Nat → Option Fn} {k f : Nat} {ws : List W} {S : Store} {q : Fn} (h : P f = some q) (h1 : ws.length = q.ar) (h2 : q.ar ≤ q.sl) :
    (callF P (k + 1)).x f ws S = (evSs (callF P k) q.body (startE q.sl ws) S).bind (finX S.length) := by
  simp only [callF, h, Option.bind_some, if_pos (And.intro h1 h2)]
  cases evSs (callF P k) q.body (startE q.sl ws) S with
  | none => rfl
  | some o => cases o <;> rfl
theorem rd_d {x : D} {S : Store} : rdW (.d x) S = some x := rfl
theorem rd_l {n : Nat} {S : Store} {ds : List D} (h : S[n]? = some (.lst ds)) : rdW (.mu n) S = some (.lst ds) := by simp [rdW, h]
theorem fz_d {x : D} {S : Store} : fzW (.d x) S = some (x, S) := rfl
theorem fz_l {n : Nat} {S : Store} {ds : List D} (h : S[n]? = some (.lst ds)) : fzW (.mu n) S = some (.lst ds, S.set n .dead) := by simp [fzW, h]
theorem lstAt_l {n : Nat} {S : Store} {ds : List D} (h : S[n]? = some (.lst ds)) : lstAt S n = some ds := by simp [lstAt, h]
theorem b_add {i j : Int} : bRun .add (.int i) (.int j) = some (.int (i + j)) := rfl
theorem b_sub {i j : Int} : bRun .sub (.int i) (.int j) = some (.int (i - j)) := rfl
theorem b_mul {i j : Int} (h1 : -18446744073709551616 < j) (h2 : j < 18446744073709551616) : bRun .mul (.int i) (.int j) = some (.int (i * j)) := if_pos (.inr ⟨h1, h2⟩)
theorem log2_wide {n : Nat} (h : n < 18446744073709551616) : n.log2 < 9000 := by
  rcases Nat.eq_zero_or_pos n with rfl | hp
  · decide
  · have h2 : n < 2 ^ 64 := by simpa using h
    have := (Nat.log2_lt (by omega : n ≠ 0)).mpr h2
    omega
theorem b_div {i j : Int} (h1 : 0 < j) (h2 : j < 18446744073709551616) : bRun .div (.int i) (.int j) = some (.int (i / j)) := if_pos ⟨h1, log2_wide (by omega)⟩
theorem b_mod {i j : Int} (h1 : 0 < j) : bRun .mod (.int i) (.int j) = some (.int (i % j)) := if_pos h1
theorem b_pow {i j : Int} (h : CPow i j) : bRun .pow (.int i) (.int j) = some (.int (i ^ j.toNat)) := if_pos h
theorem b_p18 : bRun .pow (.int 10) (.int 18) = some (.int 1000000000000000000) := (b_pow ⟨by decide, by decide, by decide⟩).trans (congrArg (fun x => some (D.int x)) (by decide : (10 : Int) ^ (18 : Int).toNat = 1000000000000000000))
theorem b_p8 : bRun .pow (.int 10) (.int 8) = some (.int 100000000) := (b_pow ⟨by decide, by decide, by decide⟩).trans (congrArg (fun x => some (D.int x)) (by decide : (10 : Int) ^ (8 : Int).toNat = 100000000))
theorem b_p7 : bRun .pow (.int 10) (.int 7) = some (.int 10000000) := (b_pow ⟨by decide, by decide, by decide⟩).trans (congrArg (fun x => some (D.int x)) (by decide : (10 : Int) ^ (7 : Int).toNat = 10000000))
theorem b_p6 : bRun .pow (.int 10) (.int 6) = some (.int 1000000) := (b_pow ⟨by decide, by decide, by decide⟩).trans (congrArg (fun x => some (D.int x)) (by decide : (10 : Int) ^ (6 : Int).toNat = 1000000))
theorem c_lt {i j : Int} : cRun .lt (.int i) (.int j) = some (decide (i < j)) := rfl
theorem c_le {i j : Int} : cRun .le (.int i) (.int j) = some (decide (i ≤ j)) := rfl
theorem c_gt {i j : Int} : cRun .gt (.int i) (.int j) = some (decide (j < i)) := rfl
theorem c_ge {i j : Int} : cRun .ge (.int i) (.int j) = some (decide (j ≤ i)) := rfl
theorem c_eq {i j : Int} : cRun .eq (.int i) (.int j) = some (decide (i = j)) := rfl
theorem c_ne {i j : Int} : cRun .ne (.int i) (.int j) = some (!decide (i = j)) := rfl
theorem c_eqs {i j : Str} : cRun .eq (.str i) (.str j) = some (decide (i = j)) := rfl
theorem c_nes {i j : Str} : cRun .ne (.str i) (.str j) = some (!decide (i = j)) := rfl
theorem c_nes0 {j : Str} : cRun .ne .non (.str j) = some true := rfl
theorem c_nes1 {j : Str} : cRun .ne (.str j) .non = some true := rfl
theorem c_eqs0 {j : Str} : cRun .eq .non (.str j) = some false := rfl
theorem c_eqs1 {j : Str} : cRun .eq (.str j) .non = some false := rfl
theorem l_t {ds : List D} : biRun .len [.tup ds] = some (.int ds.length) := rfl
theorem l_l {ds : List D} : biRun .len [.lst ds] = some (.int ds.length) := rfl
theorem bi_i {i : Int} : biRun .int [.int i] = some (.int i) := rfl
theorem bi_max {i j : Int} : biRun .max2 [.int i, .int j] = some (.int (if j > i then j else i)) := rfl
theorem bi_min {i j : Int} : biRun .min2 [.int i, .int j] = some (.int (if j < i then j else i)) := rfl
theorem bi_tl {ds : List D} : biRun .tuple [.lst ds] = some (.tup ds) := rfl
theorem bi_tt {ds : List D} : biRun .tuple [.tup ds] = some (.tup ds) := rfl
theorem ix_l {ds : List D} {i : Int} : ixRun (.lst ds) (.int i) = L2.atI ds i := rfl
theorem ix_t {ds : List D} {i : Int} : ixRun (.tup ds) (.int i) = L2.atI ds i := rfl
theorem m_nil {S : Store} : (([] : List W).mapM fun w => rdW w S) = some [] := rfl
theorem m_cons {S : Store} {w : W} {ws : List W} : ((w :: ws).mapM fun w => rdW w S) = (rdW w S).bind fun d => (ws.mapM fun w => rdW w S).map fun ds => d :: ds := by
  rw [List.mapM_cons]
  cases rdW w S with
  | none => rfl
  | some d => cases ws.mapM fun w => rdW w S <;> rfl
theorem at0 {x : D} {xs : List D} : L2.atI (x :: xs) 0 = some x := L2.atI_nat (j := 0) rfl
theorem at1 {x y : D} {xs : List D} : L2.atI (x :: y :: xs) 1 = some y := L2.atI_nat (j := 1) rfl
theorem at2 {x y z : D} {xs : List D} : L2.atI (x :: y :: z :: xs) 2 = some z := L2.atI_nat (j := 2) rfl
theorem ss_nx {c : Call} {s : Pv.S} {ss : Ss} {ρ ρ' : En} {S S' : Store} (e : evS c s ρ S = some (.nx ρ' S')) : evSs c (.cons s ss) ρ S = evSs c ss ρ' S' := by
  simp only [evSs, e, Option.bind_some]
theorem ss_rt {c : Call} {s : Pv.S} {ss : Ss} {ρ : En} {S S' : Store} {d : D} (e : evS c s ρ S = some (.rt d S')) : evSs c (.cons s ss) ρ S = some (.rt d S') := by
  simp only [evSs, e, Option.bind_some]
theorem ss_xc {c : Call} {s : Pv.S} {ss : Ss} {ρ : En} {S S' : Store} {d : D} (e : evS c s ρ S = some (.xc d S')) : evSs c (.cons s ss) ρ S = some (.xc d S') := by
  simp only [evSs, e, Option.bind_some]
theorem ss_0 {c : Call} {ρ : En} {S : Store} : evSs c .nil ρ S = some (.nx ρ S) := by simp only [evSs]
def Next (I : En → Store → Prop) (Z : Out → Prop) : Out → Prop
  | .nx ρ S => I ρ S
  | .ct ρ S => I ρ S
  | .bk ρ S => Z (.nx ρ S)
  | .rt d S => Z (.rt d S)
  | .xc d S => Z (.xc d S)
theorem forL_gen {f : D → En → Store → Option Out} {Z : Out → Prop} : ∀ {ds : List D} (I : Nat → En → Store → Prop) {ρ : En} {S : Store}, I 0 ρ S →
    (∀ (i : Nat) d ρ S, ds[i]? = some d → I i ρ S → ∃ o, f d ρ S = some o ∧ Next (I (i + 1)) Z o) → (∀ ρ S, I ds.length ρ S → Z (.nx ρ S)) → ∃ o, forL f ds ρ S = some o ∧ Z o
  | [], I, ρ, S, h0, _, he => ⟨_, rfl, he ρ S h0⟩
  | d :: ds, I, ρ, S, h0, hs, he => by
    obtain ⟨o, e, z⟩ := hs 0 d ρ S rfl h0
    have rec' : ∀ ρ' S', I 1 ρ' S' → ∃ o, forL f ds ρ' S' = some o ∧ Z o := fun ρ' S' h1 =>
      forL_gen (fun i => I (i + 1)) h1 (fun i d ρ S hd h => hs (i + 1) d ρ S (by simpa using hd) h) (fun ρ S h => he ρ S h)
    cases o with
    | nx ρ' S' => simpa only [forL, e, Option.bind_some] using rec' ρ' S' z
    | ct ρ' S' => simpa only [forL, e, Option.bind_some] using rec' ρ' S' z
    | bk ρ' S' => exact ⟨_, by simp only [forL, e, Option.bind_some], z⟩
    | rt r S' => exact ⟨_, by simp only [forL, e, Option.bind_some], z⟩
    | xc r S' => exact ⟨_, by simp only [forL, e, Option.bind_some], z⟩
theorem x_for {c : Call} {tg : Tg} {it : It} {body : Ss} {ρ : En} {S S1 : Store} {ds : List D} {Z : Out → Prop} (hi : evI c it ρ S = some (ds, S1)) (I : Nat → En → Store → Prop) (h0 : I 0 ρ S1)
    (hs : ∀ (i : Nat) d ρ S, ds[i]? = some d → I i ρ S → ∃ ρ' o, asgn tg d ρ = some ρ' ∧ evSs c body ρ' S = some o ∧ Next (I (i + 1)) Z o) (he : ∀ ρ S, I ds.length ρ S → Z (.nx ρ S)) : ∃ o, evS c (.forS tg it body) ρ S = some o ∧ Z o := by
  simp only [evS, hi, Option.bind_some]
  refine forL_gen I h0 (fun i d ρ S hd h => ?_) he
  obtain ⟨ρ', o, e1, e2, z⟩ := hs i d ρ S hd h
  exact ⟨o, by rw [e1]; exact e2, z⟩
inductive All2 {α β : Type} (R : α → β → Prop) : List α → List β → Prop
  | nil : All2 R [] []
  | cons {a : α} {b : β} {as : List α} {bs : List β} : R a b → All2 R as bs → All2 R (a :: as) (b :: bs)
theorem All2.length {α β : Type} {R : α → β → Prop} : ∀ {as : List α} {bs : List β}, All2 R as bs → as.length = bs.length
  | _, _, .nil => rfl
  | _, _, .cons _ t => by simp [All2.length t]
theorem All2.get {α β : Type} {R : α → β → Prop} : ∀ {as : List α} {bs : List β} {i : Nat} {b : β}, All2 R as bs → bs[i]? = some b → ∃ a, as[i]? = some a ∧ R a b
  | _, _, _, _, .nil, e => by simp at e
  | _, _, 0, _, .cons h _, e => by simp at e; subst e; exact ⟨_, rfl, h⟩
  | _, _, i + 1, _, .cons _ t, e => by
    obtain ⟨a, h1, h2⟩ := All2.get (i := i) t (by simpa using e)
    exact ⟨a, by simpa using h1, h2⟩
theorem All2.imp {α β : Type} {R R' : α → β → Prop} (h : ∀ a b, R a b → R' a b) : ∀ {as : List α} {bs : List β}, All2 R as bs → All2 R' as bs
  | _, _, .nil => .nil
  | _, _, .cons x t => .cons (h _ _ x) (All2.imp h t)
theorem All2.map_eq {α β : Type} {g : β → α} : ∀ {as : List α} {bs : List β}, All2 (fun a b => a = g b) as bs → as = bs.map g
  | _, _, .nil => rfl
  | _, _, .cons x t => by rw [List.map_cons, x, All2.map_eq t]
theorem All2.of_map {α β : Type} {R : α → β → Prop} {g : β → α} : ∀ {bs : List β}, (∀ b ∈ bs, R (g b) b) → All2 R (bs.map g) bs
  | [], _ => .nil
  | b :: bs, h => .cons (h b List.mem_cons_self) (All2.of_map fun b hb => h b (List.mem_cons_of_mem _ hb))
theorem compL_all {f : D → Store → Option (Option D × Store)} {R : D → D → Prop} {J : Store → Prop} : ∀ {ds : List D} {S : Store} {acc : List D}, (∀ d ∈ ds, ∀ S, J S → ∃ d' S', f d S = some (some d', S') ∧ R d' d ∧ J S') → J S → acc.length + ds.length ≤ sizeLine →
    ∃ ds' S', compL f ds S acc = some (acc ++ ds', S') ∧ All2 R ds' ds ∧ J S'
  | [], S, acc, _, hJ, _ => ⟨[], S, by simp [compL], .nil, hJ⟩
  | d :: ds, S, acc, h, hJ, hl => by
    obtain ⟨d', S1, e, r, j1⟩ := h d List.mem_cons_self S hJ
    obtain ⟨ds', S2, e2, r2, j2⟩ := compL_all (S := S1) (acc := acc ++ [d']) (fun d hd => h d (List.mem_cons_of_mem _ hd)) j1 (by simp at hl ⊢; omega)
    refine ⟨d' :: ds', S2, ?_, .cons r r2, j2⟩
    have : acc.length < sizeLine := by simp at hl; omega
    simp only [compL, e, Option.bind_some, if_pos this, e2]
    simp
theorem compL_map {f : D → Store → Option (Option D × Store)} {g : D → D} {S : Store} {ds acc : List D} (h : ∀ d ∈ ds, f d S = some (some (g d), S)) (hl : acc.length + ds.length ≤ sizeLine) : compL f ds S acc = some (acc ++ ds.map g, S) := by
  obtain ⟨ds', S', e, r, rfl⟩ := compL_all (R := fun a b => a = g b) (J := fun S' => S' = S) (fun d hd S' hS => ⟨g d, S, by subst hS; exact h d hd, rfl, rfl⟩) rfl hl
  rw [e, All2.map_eq r]
theorem e_comp {c : Call} {vs : List Nat} {tg : Tg} {it : It} {cond : To} {elt : E} {ρ : En} {S S1 S2 : Store} {ds res : List D} (ht : tgIn tg vs = true) (hi : evI c it ρ S = some (ds, S1))
    (h : compL (fun d S => (asgn tg d (wipeE ρ vs)).bind fun ρ' => (evTo c cond ρ' S).bind fun q => if q.1 = true then (evE c elt ρ' q.2).bind fun w => (fzW w.1 w.2).map fun z => (some z.1, z.2) else some (none, q.2)) ds S1 [] = some (res, S2)) :
    evE c (.comp vs tg it cond elt) ρ S = some (.d (.lst res), S2) := by
  simp only [evE, if_pos ht, hi, Option.bind_some, h, Option.map_some]

theorem callF_b {P : Nat → Option Fn} {k f a s : Nat} {b : Ss} {ws : List W} {S : Store} (h : P f = some ⟨a, s, b⟩) (h1 : ws.length = a) (h2 : a ≤ s) : callF P (k + 1) f ws S = (evSs (callF P k) b (startE s ws) S).bind (fin S.length) :=
  callF_eq h h1 h2
theorem x_ift {c : Call} {t : T} {a b : Ss} {ρ : En} {S S1 : Store} {r : Option Out} (e : evT c t ρ S = some (true, S1)) (h : evSs c a ρ S1 = r) : evS c (.ifs t a b) ρ S = r := by
  simp only [evS, e, Option.bind_some, if_true, h]
theorem x_iff {c : Call} {t : T} {a b : Ss} {ρ : En} {S S1 : Store} {r : Option Out} (e : evT c t ρ S = some (false, S1)) (h : evSs c b ρ S1 = r) : evS c (.ifs t a b) ρ S = r := by
  simp only [evS, e, Option.bind_some, Bool.false_eq_true, if_false, h]
theorem x_ret {c : Call} {e : E} {ρ : En} {S S1 : Store} {d : D} (h : evE c e ρ S = some (.d d, S1)) : evS c (.ret e) ρ S = some (.rt d S1) := by
  simp only [evS, h, Option.bind_some, fz_d, Option.map_some]
theorem x_asg {c : Call} {i : Nat} {e : E} {ρ : En} {S S1 : Store} {w : W} (h : evE c e ρ S = some (w, S1)) (hi : i < ρ.length) : evS c (.asg (.name i) e) ρ S = some (.nx (ρ.set i (some w)) S1) := by
  simp only [evS, h, Option.bind_some, if_pos hi]
theorem x_newC {c : Call} {i : Nat} {vs : List Nat} {tg : Tg} {it : It} {cond : To} {elt : E} {ρ : En} {S S1 : Store} {ds : List D} (h : evE c (.comp vs tg it cond elt) ρ S = some (.d (.lst ds), S1)) (hi : i < ρ.length) :
    evS c (.newC i vs tg it cond elt) ρ S = some (.nx (ρ.set i (some (.mu S1.length))) (S1 ++ [.lst ds])) := by
  simp only [evS, h, Option.bind_some, if_pos hi]
theorem rt_fin {c : Call} {b : Ss} {ρ : En} {S S1 : Store} {d : D} (h : evSs c b ρ S = some (.rt d S1)) (hl : S1.length = S.length) : (evSs c b ρ S).bind (fin S.length) = some (d, S1) := by
  rw [h]
  simp [fin, List.take_of_length_le, hl]

theorem p62 : (2 : Int) ^ 62 = 4611686018427387904 := by decide
theorem x_r1 {c : Call} {a : E} {ρ : En} {S S1 : Store} {j : Int} (h : evE c a ρ S = some (.d (.int j), S1)) (h1 : -4611686018427387904 ≤ j) (h2 : j < 4611686018427387904) : evI c (.r1 a) ρ S = some (rangeD 0 j.toNat, S1) := by
  simp only [evI, h, Option.bind_some]
  exact if_pos ⟨by rw [p62]; exact h1, by rw [p62]; exact h2⟩
theorem x_rn {c : Call} {a : E} {ρ : En} {S S1 : Store} {j : Int} (n : Nat) (h : evE c a ρ S = some (.d (.int j), S1)) (hj : j = (n : Int)) (h2 : n < 4611686018427387904) : evI c (.r1 a) ρ S = some (rangeD 0 n, S1) := by
  subst hj
  have := x_r1 h (by omega) (by omega)
  rw [this]
  rfl
end Pv

set_option Elab.async false
set_option linter.all false
set_option maxRecDepth 100000
set_option maxHeartbeats 4000000
namespace Pv
open PySem L2
def B_law_so (i_law_so : Nat) : Ss := .cons (.ifs (.val (.isN (.var 1))) (.cons (.ret (.isN (.var 0))) (.nil)) (.nil)) (.cons (.ifs (.val (.isi1 (.var 1) "tuple")) (.cons (.ifs (.or (.not (.val (.isi1 (.var 0) "tuple"))) (.val (.cmp .ne (.bi .len (.cons (.var 0) (.nil))) (.bi .len (.cons (.var 1) (.nil)))))) (.cons (.ret (.cst (.bl false))) (.nil)) (.nil)) (.cons (.forS (.name 2) (.r1 (.bi .len (.cons (.var 1) (.nil)))) (.cons (.ifs (.not (.val (.call i_law_so (.cons (.ix (.var 0) (.var 2)) (.cons (.ix (.var 1) (.var 2)) (.nil)))))) (.cons (.ret (.cst (.bl false))) (.nil)) (.nil)) (.nil))) (.cons (.ret (.cst (.bl true))) (.nil)))) (.nil)) (.cons (.ifs (.or (.val (.isi1 (.var 1) "bool")) (.val (.isi1 (.var 0) "bool"))) (.cons (.ret (.and (.isi1 (.var 1) "bool") (.and (.isi1 (.var 0) "bool") (.cmp .eq (.var 0) (.var 1))))) (.nil)) (.nil)) (.cons (.ifs (.val (.isi1 (.var 1) "int")) (.cons (.ret (.and (.isi1 (.var 0) "int") (.cmp .eq (.var 0) (.var 1)))) (.nil)) (.nil)) (.cons (.ret (.and (.isi1 (.var 1) "str") (.and (.isi1 (.var 0) "str") (.cmp .eq (.var 0) (.var 1))))) (.nil)))))
def B_law_numbers : Ss := .cons (.newL 1 (.nil)) (.cons (.forS (.name 2) (.seq (.sl (.var 0) (.none) (.some (.cst (.int 63))))) (.cons (.ifs (.val (.cmp .ge (.var 2) (.bin .pow (.cst (.int 10)) (.cst (.int 18))))) (.cons (.asg (.name 3) (.var 2)) (.cons (.forS (.name 4) (.r1 (.cst (.int 60))) (.cons (.ifs (.val (.cmp .eq (.var 3) (.cst (.int 0)))) (.cons (.brk) (.nil)) (.nil)) (.cons (.app 1 (.bin .mod (.bi .int (.cons (.var 3) (.nil))) (.cst (.int 997)))) (.cons (.asg (.name 3) (.bin .div (.var 3) (.cst (.int 997)))) (.nil))))) (.nil))) (.cons (.forS (.name 4) (.r1 (.cst (.int 4))) (.cons (.asg (.name 5) (.bin .mod (.bi .int (.cons (.bin .add (.bin .add (.bin .mul (.var 2) (.cst (.int 48271))) (.bin .mul (.var 4) (.cst (.int 69621)))) (.cst (.int 11))) (.nil))) (.cst (.int 2147483647)))) (.cons (.app 1 (.bin .mod (.bi .int (.cons (.bin .add (.bin .mul (.var 5) (.cst (.int 16807))) (.var 4)) (.nil))) (.cst (.int 2147483629)))) (.nil)))) (.nil))) (.nil))) (.cons (.ifs (.val (.cmp .eq (.bi .len (.cons (.var 1) (.nil))) (.cst (.int 0)))) (.cons (.app 1 (.cst (.int 0))) (.nil)) (.nil)) (.cons (.ret (.var 1)) (.nil))))
def B_law_draw : Ss := .cons (.ifs (.val (.cmp .lt (.var 1) (.bi .len (.cons (.var 0) (.nil))))) (.cons (.ret (.bin .mod (.bi .int (.cons (.ix (.var 0) (.var 1)) (.nil))) (.var 2))) (.nil)) (.nil)) (.cons (.asg (.name 3) (.bin .mod (.bi .int (.cons (.bin .add (.bin .add (.bin .mul (.ix (.var 0) (.bin .mod (.bi .int (.cons (.var 1) (.nil))) (.bi .len (.cons (.var 0) (.nil))))) (.cst (.int 40692))) (.bin .mul (.var 1) (.cst (.int 7919)))) (.cst (.int 3))) (.nil))) (.cst (.int 2147483399)))) (.cons (.ret (.bin .mod (.bi .int (.cons (.bin .mod (.bi .int (.cons (.bin .add (.bin .mul (.var 3) (.cst (.int 48271))) (.var 1)) (.nil))) (.cst (.int 2147483647))) (.nil))) (.var 2))) (.nil)))
def B_law_take (i_law_draw : Nat) : Ss := .cons (.setL 1 (.cst (.int 0)) (.bin .add (.ix (.var 1) (.cst (.int 0))) (.cst (.int 1)))) (.cons (.ret (.call i_law_draw (.cons (.var 0) (.cons (.bin .sub (.ix (.var 1) (.cst (.int 0))) (.cst (.int 1))) (.cons (.var 2) (.nil)))))) (.nil))
def B_law_wide (i_law_take : Nat) : Ss := .cons (.asg (.name 3) (.call i_law_take (.cons (.var 0) (.cons (.var 1) (.cons (.cst (.int 997)) (.nil)))))) (.cons (.asg (.name 4) (.call i_law_take (.cons (.var 0) (.cons (.var 1) (.cons (.cst (.int 997)) (.nil)))))) (.cons (.asg (.name 5) (.call i_law_take (.cons (.var 0) (.cons (.var 1) (.cons (.cst (.int 997)) (.nil)))))) (.cons (.ret (.bin .mod (.bi .int (.cons (.bin .add (.bin .add (.bin .mul (.var 3) (.cst (.int 994009))) (.bin .mul (.var 4) (.cst (.int 997)))) (.var 5)) (.nil))) (.var 2))) (.nil))))
def B_law_listed (i_law_listed : Nat) : Ss := .cons (.ifs (.val (.isi1 (.var 0) "tuple")) (.cons (.ret (.comp [1] (.name 1) (.seq (.var 0)) (.none) (.call i_law_listed (.cons (.var 1) (.nil))))) (.nil)) (.nil)) (.cons (.ret (.var 0)) (.nil))
def B_law_either (i_law_take i_law_either : Nat) : Ss := .cons (.ifs (.val (.isi1 (.var 2) "tuple")) (.cons (.asg (.name 3) (.comp [4] (.name 4) (.seq (.var 2)) (.none) (.call i_law_either (.cons (.var 0) (.cons (.var 1) (.cons (.var 4) (.nil))))))) (.cons (.ret (.ite (.val (.cmp .eq (.call i_law_take (.cons (.var 0) (.cons (.var 1) (.cons (.cst (.int 2)) (.nil))))) (.cst (.int 0)))) (.var 3) (.bi .tuple (.cons (.var 3) (.nil))))) (.nil))) (.nil)) (.cons (.ret (.var 2)) (.nil))
def B_law_handed (i_law_take i_law_listed i_law_either : Nat) : Ss := .cons (.asg (.name 3) (.call i_law_take (.cons (.var 0) (.cons (.var 1) (.cons (.cst (.int 3)) (.nil)))))) (.cons (.ifs (.val (.cmp .eq (.var 3) (.cst (.int 2)))) (.cons (.ret (.call i_law_either (.cons (.var 0) (.cons (.var 1) (.cons (.var 2) (.nil)))))) (.nil)) (.nil)) (.cons (.ret (.ite (.val (.cmp .eq (.var 3) (.cst (.int 0)))) (.call i_law_listed (.cons (.var 2) (.nil))) (.var 2))) (.nil)))
def B_law_pick (i_law_take : Nat) : Ss := .cons (.ret (.ix (.var 2) (.call i_law_take (.cons (.var 0) (.cons (.var 1) (.cons (.bi .len (.cons (.var 2) (.nil))) (.nil))))))) (.nil)
section
variable {P : Nat → Option Fn} {k f : Nat} {S : Store}
theorem sizeLine_val : sizeLine = 16777216 := rfl
theorem atI_map {ns : List Int} {i : Int} (h0 : 0 ≤ i) (h1 : i < ns.length) : L2.atI (ns.map D.int) i = some (.int (ns.getD i.toNat 0)) := by
  have hj : i.toNat < ns.length := by omega
  have q : (ns.map D.int)[i.toNat]? = some (.int (ns.getD i.toNat 0)) := by simp [List.getElem?_map, hj]
  have e : i = (i.toNat : Int) := by omega
  rw [e]
  exact L2.atI_nat q
def drawI (ns : List Int) (i lim : Int) : Int :=
  if i < ns.length then ns.getD i.toNat 0 % lim else ((ns.getD (i % (ns.length : Int)).toNat 0 * 40692 + i * 7919 + 3) % 2147483399 * 48271 + i) % 2147483647 % lim
theorem drawI_nn {ns : List Int} {i lim : Int} (h : 0 < lim) : 0 ≤ drawI ns i lim := by
  unfold drawI
  split
  · exact Int.emod_nonneg _ (by omega)
  · exact Int.emod_nonneg _ (by omega)
theorem drawI_lt {ns : List Int} {i lim : Int} (h : 0 < lim) : drawI ns i lim < lim := by
  unfold drawI
  split
  · exact Int.emod_lt_of_pos _ h
  · exact Int.emod_lt_of_pos _ h
theorem draw_eq {ns : List Int} {i lim : Int} (hP : P f = some ⟨3, 4, B_law_draw⟩) (hne : ns ≠ []) (hi : 0 ≤ i) (hl : 0 < lim) :
    callF P (k + 1) f [.d (.lst (ns.map .int)), .d (.int i), .d (.int lim)] S = some (.int (drawI ns i lim), S) := by
  have hpos : 0 < ns.length := List.length_pos_iff.mpr hne
  rw [callF_b hP rfl (by decide)]
  show (evSs (callF P k) B_law_draw [some (.d (.lst (ns.map .int))), some (.d (.int i)), some (.d (.int lim)), none] S).bind _ = _
  by_cases h : i < ns.length
  · simp [B_law_draw, evSs, evS, evE, evEs, evZ, evO, evI, evT, evTo, rd_d, fz_d, b_add, b_sub, b_mul, b_div, b_mod, b_p18, b_p8, b_p7, b_p6, c_lt, c_le, c_gt, c_ge, c_eq, c_ne, c_eqs, c_nes, c_nes0, c_nes1, c_eqs0, c_eqs1, l_t, l_l, bi_i, bi_max, bi_min, bi_tl, bi_tt, ix_l, ix_t, m_nil, m_cons, at0, at1, at2, flatD, seqOf, isNonW, fin, evX, atI_map hi h, h, hl, drawI]
  · have h0 : 0 ≤ i % (ns.length : Int) := Int.emod_nonneg _ (by omega)
    have h1 : i % (ns.length : Int) < ns.length := Int.emod_lt_of_pos _ (by omega)
    simp [B_law_draw, evSs, evS, evE, evEs, evZ, evO, evI, evT, evTo, rd_d, fz_d, b_add, b_sub, b_mul, b_div, b_mod, b_p18, b_p8, b_p7, b_p6, c_lt, c_le, c_gt, c_ge, c_eq, c_ne, c_eqs, c_nes, c_nes0, c_nes1, c_eqs0, c_eqs1, l_t, l_l, bi_i, bi_max, bi_min, bi_tl, bi_tt, ix_l, ix_t, m_nil, m_cons, at0, at1, at2, flatD, seqOf, isNonW, fin, evX, atI_map h0 h1, h, hl, hpos, drawI]
theorem take_eq {d n : Nat} {ns : List Int} {i lim : Int} (hP : P f = some ⟨3, 3, B_law_take d⟩) (hD : P d = some ⟨3, 4, B_law_draw⟩) (hne : ns ≠ []) (hi : 0 ≤ i) (hl : 0 < lim) (hS : S[n]? = some (.lst [.int i])) :
    callF P (k + 2) f [.d (.lst (ns.map .int)), .mu n, .d (.int lim)] S = some (.int (drawI ns i lim), S.set n (.lst [.int (i + 1)])) := by
  have hn : n < S.length := (List.getElem?_eq_some_iff.mp hS).1
  rw [callF_eq hP rfl (Nat.le_refl 3)]
  show (evSs (callF P (k + 1)) (B_law_take d) [some (.d (.lst (ns.map .int))), some (.mu n), some (.d (.int lim))] S).bind _ = _
  have e1 : L2.ixN 1 0 = some 0 := by decide
  have hS2 : (S.set n (.lst [.int (i + 1)]))[n]? = some (.lst [.int (i + 1)]) := List.getElem?_set_self hn
  have e4 : i + 1 - 1 = i := by omega
  simp [B_law_take, evSs, evS, evE, evEs, evZ, evO, evI, evT, evTo, rd_d, fz_d, b_add, b_sub, b_mul, b_div, b_mod, b_p18, b_p8, b_p7, b_p6, c_lt, c_le, c_gt, c_ge, c_eq, c_ne, c_eqs, c_nes, c_nes0, c_nes1, c_eqs0, c_eqs1, l_t, l_l, bi_i, bi_max, bi_min, bi_tl, bi_tt, ix_l, ix_t, m_nil, m_cons, at0, at1, at2, flatD, seqOf, isNonW, fin, evX, rd_l hS, lstAt_l hS, hn, e1, e4, draw_eq hD hne hi hl, rd_l hS2, List.take_of_length_le]

def Sp (S0 : Store) (n : Nat) (S : Store) : Prop := ∃ i : Int, 0 ≤ i ∧ S = S0.set n (.lst [.int i])
theorem Sp.at {S0 S : Store} {n : Nat} (h : Sp S0 n S) (hn : n < S0.length) : ∃ i : Int, 0 ≤ i ∧ S[n]? = some (.lst [.int i]) ∧ ∀ x, S.set n x = S0.set n x := by
  obtain ⟨i, hi, rfl⟩ := h
  exact ⟨i, hi, List.getElem?_set_self hn, fun x => List.set_set ..⟩
structure Row (r : D) : Prop where
  ex : ∃ ns : List Int, ns ≠ [] ∧ r = .lst (ns.map .int)
theorem take_ex {d n : Nat} {r : D} {lim : Int} {S0 : Store} (hP : P f = some ⟨3, 3, B_law_take d⟩) (hD : P d = some ⟨3, 4, B_law_draw⟩) (hr : Row r) (hn : n < S0.length) (hS : Sp S0 n S) (hl : 0 < lim) :
    ∃ t S', callF P (k + 2) f [.d r, .mu n, .d (.int lim)] S = some (.int t, S') ∧ 0 ≤ t ∧ t < lim ∧ Sp S0 n S' := by
  obtain ⟨ns, hne, rfl⟩ := hr.ex
  obtain ⟨i, hi, e, st⟩ := hS.at hn
  exact ⟨_, _, take_eq hP hD hne hi hl e, drawI_nn hl, drawI_lt hl, i + 1, by omega, st _⟩
theorem wide_ex {g d n : Nat} {r : D} {lim : Int} {S0 : Store} (hW : P f = some ⟨3, 6, B_law_wide g⟩) (hP : P g = some ⟨3, 3, B_law_take d⟩) (hD : P d = some ⟨3, 4, B_law_draw⟩) (hr : Row r) (hn : n < S0.length) (hS : Sp S0 n S) (hl : 0 < lim) :
    ∃ t S', callF P (k + 3) f [.d r, .mu n, .d (.int lim)] S = some (.int t, S') ∧ 0 ≤ t ∧ t < lim ∧ Sp S0 n S' := by
  obtain ⟨t1, S1, e1, _, _, p1⟩ := take_ex (k := k) (lim := 997) hP hD hr hn hS (by decide)
  obtain ⟨t2, S2, e2, _, _, p2⟩ := take_ex (k := k) (lim := 997) hP hD hr hn p1 (by decide)
  obtain ⟨t3, S3, e3, _, _, p3⟩ := take_ex (k := k) (lim := 997) hP hD hr hn p2 (by decide)
  have hlen : S3.length = S.length := by
    obtain ⟨_, _, rfl⟩ := p3
    obtain ⟨_, _, rfl⟩ := hS
    simp
  refine ⟨(t1 * 994009 + t2 * 997 + t3) % lim, S3, ?_, Int.emod_nonneg _ (by omega), Int.emod_lt_of_pos _ hl, p3⟩
  rw [callF_eq hW rfl (by show 3 ≤ 6; decide)]
  show (evSs (callF P (k + 2)) (B_law_wide g) [some (.d r), some (.mu n), some (.d (.int lim)), none, none, none] S).bind _ = _
  simp [B_law_wide, evSs, evS, evE, evEs, evZ, evO, evI, evT, evTo, rd_d, fz_d, b_add, b_sub, b_mul, b_div, b_mod, b_p18, b_p8, b_p7, b_p6, c_lt, c_le, c_gt, c_ge, c_eq, c_ne, c_eqs, c_nes, c_nes0, c_nes1, c_eqs0, c_eqs1, l_t, l_l, bi_i, bi_max, bi_min, bi_tl, bi_tt, ix_l, ix_t, m_nil, m_cons, at0, at1, at2, flatD, seqOf, isNonW, fin, evX, e1, e2, e3, hl, List.take_of_length_le, hlen]
theorem atI_ok {ds : List D} {t : Int} (h0 : 0 ≤ t) (h1 : t < ds.length) : ∃ x ∈ ds, L2.atI ds t = some x := by
  have hj : t.toNat < ds.length := by omega
  have q : L2.atI ds (t.toNat : Int) = some ds[t.toNat] := L2.atI_nat (List.getElem?_eq_getElem hj)
  refine ⟨ds[t.toNat], List.getElem_mem hj, ?_⟩
  rw [← q]
  congr 1
  omega
theorem pick_ex {g d n : Nat} {r x : D} {ds : List D} {S0 : Store} (hK : P f = some ⟨3, 3, B_law_pick g⟩) (hP : P g = some ⟨3, 3, B_law_take d⟩) (hD : P d = some ⟨3, 4, B_law_draw⟩) (hr : Row r) (hn : n < S0.length) (hS : Sp S0 n S)
    (hx : x = .lst ds ∨ x = .tup ds) (hne : ds ≠ []) : ∃ y S', callF P (k + 3) f [.d r, .mu n, .d x] S = some (y, S') ∧ y ∈ ds ∧ Sp S0 n S' := by
  have hpos : 0 < ds.length := List.length_pos_iff.mpr hne
  obtain ⟨t, S1, e1, h0, h1, p1⟩ := take_ex (k := k) (lim := ds.length) hP hD hr hn hS (by omega)
  have hlen : S1.length = S.length := by
    obtain ⟨_, _, rfl⟩ := p1
    obtain ⟨_, _, rfl⟩ := hS
    simp
  obtain ⟨y, hy, ey⟩ := atI_ok h0 h1
  refine ⟨y, S1, ?_, hy, p1⟩
  rw [callF_eq hK rfl (Nat.le_refl 3)]
  show (evSs (callF P (k + 2)) (B_law_pick g) [some (.d r), some (.mu n), some (.d x)] S).bind _ = _
  rcases hx with rfl | rfl
  · simp [B_law_pick, evSs, evS, evE, evEs, evZ, evO, evI, evT, evTo, rd_d, fz_d, b_add, b_sub, b_mul, b_div, b_mod, b_p18, b_p8, b_p7, b_p6, c_lt, c_le, c_gt, c_ge, c_eq, c_ne, c_eqs, c_nes, c_nes0, c_nes1, c_eqs0, c_eqs1, l_t, l_l, bi_i, bi_max, bi_min, bi_tl, bi_tt, ix_l, ix_t, m_nil, m_cons, at0, at1, at2, flatD, seqOf, isNonW, fin, evX, e1, ey, List.take_of_length_le, hlen]
  · simp [B_law_pick, evSs, evS, evE, evEs, evZ, evO, evI, evT, evTo, rd_d, fz_d, b_add, b_sub, b_mul, b_div, b_mod, b_p18, b_p8, b_p7, b_p6, c_lt, c_le, c_gt, c_ge, c_eq, c_ne, c_eqs, c_nes, c_nes0, c_nes1, c_eqs0, c_eqs1, l_t, l_l, bi_i, bi_max, bi_min, bi_tl, bi_tt, ix_l, ix_t, m_nil, m_cons, at0, at1, at2, flatD, seqOf, isNonW, fin, evX, e1, ey, List.take_of_length_le, hlen]

def Tv : Nat → D → Bool
  | n + 1, .tup ds => decide (ds.length ≤ sizeLine) && ds.all (Tv n)
  | _, d => flatD d
def Lk : Nat → D → D → Prop
  | n + 1, d', .tup ds => ∃ ds', (d' = .lst ds' ∨ d' = .tup ds') ∧ All2 (Lk n) ds' ds
  | _, d', d => d' = d
theorem Lk.refl : ∀ (n : Nat) (d : D), Lk n d d
  | 0, d => by simp only [Lk]
  | n + 1, d => by
    cases d <;> simp only [Lk]
    case tup ds =>
      have e : ds.map id = ds := List.map_id ds
      refine ⟨ds, .inr rfl, ?_⟩
      have := All2.of_map (R := Lk n) (g := id) (bs := ds) fun b _ => Lk.refl n b
      rw [e] at this
      exact this
theorem isi_flat {d : D} (h : flatD d = true) : isi1 d "tuple" = some false := by
  cases d <;> simp [flatD] at h <;> simp [isi1, tyD, kB5, kB10, kB15, kB30]
theorem isi_tup {ds : List D} : isi1 (.tup ds) "tuple" = some true := by simp [isi1, tyD, kB25]
theorem listed_ex (hP : P f = some ⟨1, 2, B_law_listed f⟩) : ∀ (m : Nat) {k : Nat} {S : Store} {d : D}, Tv m d = true → ∃ d', callF P (k + m + 1) f [.d d] S = some (d', S) ∧ Lk m d' d := by
  intro m
  induction m with
  | zero =>
    intro k S d h
    refine ⟨d, ?_, Lk.refl _ _⟩
    rw [callF_b hP rfl (by decide)]
    show (evSs (callF P (k + 0)) (B_law_listed f) [some (.d d), none] S).bind _ = _
    simp [B_law_listed, evSs, evS, evE, evEs, evZ, evO, evI, evT, evTo, rd_d, fz_d, b_add, b_sub, b_mul, b_div, b_mod, b_p18, b_p8, b_p7, b_p6, c_lt, c_le, c_gt, c_ge, c_eq, c_ne, c_eqs, c_nes, c_nes0, c_nes1, c_eqs0, c_eqs1, l_t, l_l, bi_i, bi_max, bi_min, bi_tl, bi_tt, ix_l, ix_t, m_nil, m_cons, at0, at1, at2, flatD, seqOf, isNonW, fin, evX, isi_flat (d := d) (by simpa [Tv] using h)]
  | succ m ih =>
    intro k S d h
    by_cases hf : flatD d = true
    · refine ⟨d, ?_, Lk.refl _ _⟩
      rw [show k + (m + 1) + 1 = (k + m + 1) + 1 from rfl, callF_b hP rfl (by decide)]
      show (evSs (callF P (k + m + 1)) (B_law_listed f) [some (.d d), none] S).bind _ = _
      simp [B_law_listed, evSs, evS, evE, evEs, evZ, evO, evI, evT, evTo, rd_d, fz_d, b_add, b_sub, b_mul, b_div, b_mod, b_p18, b_p8, b_p7, b_p6, c_lt, c_le, c_gt, c_ge, c_eq, c_ne, c_eqs, c_nes, c_nes0, c_nes1, c_eqs0, c_eqs1, l_t, l_l, bi_i, bi_max, bi_min, bi_tl, bi_tt, ix_l, ix_t, m_nil, m_cons, at0, at1, at2, flatD, seqOf, isNonW, fin, evX, isi_flat hf]
    · cases d with
      | tup ds =>
        simp only [Tv, Bool.and_eq_true, decide_eq_true_eq] at h
        obtain ⟨hl, ha⟩ := h
        rw [List.all_eq_true] at ha
        have each : ∀ d ∈ ds, ∀ S' : Store, S' = S → ∃ d' S1, ((asgn (.name 1) d (wipeE [some (.d (.tup ds)), none] [1])).bind fun ρ' => (evTo (callF P (k + m + 1)) .none ρ' S').bind fun q => if q.1 = true then (evE (callF P (k + m + 1)) (.call f (.cons (.var 1) .nil)) ρ' q.2).bind fun w => (fzW w.1 w.2).map fun z => (some z.1, z.2) else some (none, q.2)) = some (some d', S1) ∧ Lk m d' d ∧ S1 = S := by
          intro d hd S' hS'
          subst hS'
          obtain ⟨d', e, l⟩ := ih (k := k) (S := S') (ha d hd)
          refine ⟨d', S', ?_, l, rfl⟩
          simp [wipeE, asgn, evSs, evS, evE, evEs, evZ, evO, evI, evT, evTo, rd_d, fz_d, b_add, b_sub, b_mul, b_div, b_mod, b_p18, b_p8, b_p7, b_p6, c_lt, c_le, c_gt, c_ge, c_eq, c_ne, c_eqs, c_nes, c_nes0, c_nes1, c_eqs0, c_eqs1, l_t, l_l, bi_i, bi_max, bi_min, bi_tl, bi_tt, ix_l, ix_t, m_nil, m_cons, at0, at1, at2, flatD, seqOf, isNonW, fin, evX, e]
        obtain ⟨ds', S1, e1, l1, rfl⟩ := compL_all (acc := []) each rfl (by simpa using hl)
        refine ⟨.lst ds', ?_, ds', .inl rfl, l1⟩
        rw [show k + (m + 1) + 1 = (k + m + 1) + 1 from rfl, callF_b hP rfl (by decide)]
        show (evSs (callF P (k + m + 1)) (B_law_listed f) [some (.d (.tup ds)), none] S1).bind _ = _
        have hc := e_comp (c := callF P (k + m + 1)) (vs := [1]) (tg := .name 1) (it := .seq (.var 0)) (cond := .none) (elt := .call f (.cons (.var 1) .nil)) (ρ := [some (.d (.tup ds)), none]) (S := S1) (S1 := S1) (ds := ds) rfl (by simp [evSs, evS, evE, evEs, evZ, evO, evI, evT, evTo, rd_d, fz_d, b_add, b_sub, b_mul, b_div, b_mod, b_p18, b_p8, b_p7, b_p6, c_lt, c_le, c_gt, c_ge, c_eq, c_ne, c_eqs, c_nes, c_nes0, c_nes1, c_eqs0, c_eqs1, l_t, l_l, bi_i, bi_max, bi_min, bi_tl, bi_tt, ix_l, ix_t, m_nil, m_cons, at0, at1, at2, flatD, seqOf, isNonW, fin, evX]) e1
        simp only [List.nil_append] at hc
        unfold B_law_listed
        refine rt_fin (ss_rt (x_ift (S1 := S1) ?_ (ss_rt (x_ret hc)))) rfl
        simp [evSs, evS, evE, evEs, evZ, evO, evI, evT, evTo, rd_d, fz_d, b_add, b_sub, b_mul, b_div, b_mod, b_p18, b_p8, b_p7, b_p6, c_lt, c_le, c_gt, c_ge, c_eq, c_ne, c_eqs, c_nes, c_nes0, c_nes1, c_eqs0, c_eqs1, l_t, l_l, bi_i, bi_max, bi_min, bi_tl, bi_tt, ix_l, ix_t, m_nil, m_cons, at0, at1, at2, flatD, seqOf, isNonW, fin, evX, isi_tup]
      | _ => simp [Tv, flatD] at h hf
theorem either_ex {g d : Nat} {r : D} {n : Nat} {S0 : Store} (hE : P f = some ⟨3, 5, B_law_either g f⟩) (hP : P g = some ⟨3, 3, B_law_take d⟩) (hD : P d = some ⟨3, 4, B_law_draw⟩) (hr : Row r) (hn : n < S0.length) :
    ∀ (m : Nat) {k : Nat} {S : Store} {x : D}, Tv m x = true → Sp S0 n S → ∃ x' S', callF P (k + m + 3) f [.d r, .mu n, .d x] S = some (x', S') ∧ Lk m x' x ∧ Sp S0 n S' := by
  have flat : ∀ {m k : Nat} {S : Store} {x : D}, flatD x = true → Sp S0 n S → ∃ x' S', callF P (k + m + 3) f [.d r, .mu n, .d x] S = some (x', S') ∧ Lk m x' x ∧ Sp S0 n S' := by
    intro m k S x hf hS
    refine ⟨x, S, ?_, Lk.refl _ _, hS⟩
    rw [callF_b hE rfl (by decide)]
    show (evSs (callF P (k + m + 2)) (B_law_either g f) [some (.d r), some (.mu n), some (.d x), none, none] S).bind _ = _
    simp [B_law_either, evSs, evS, evE, evEs, evZ, evO, evI, evT, evTo, rd_d, fz_d, b_add, b_sub, b_mul, b_div, b_mod, b_p18, b_p8, b_p7, b_p6, c_lt, c_le, c_gt, c_ge, c_eq, c_ne, c_eqs, c_nes, c_nes0, c_nes1, c_eqs0, c_eqs1, l_t, l_l, bi_i, bi_max, bi_min, bi_tl, bi_tt, ix_l, ix_t, m_nil, m_cons, at0, at1, at2, flatD, seqOf, isNonW, fin, evX, isi_flat hf]
  intro m
  induction m with
  | zero => intro k S x h hS; exact flat (m := 0) (by simpa [Tv] using h) hS
  | succ m ih =>
    intro k S x h hS
    by_cases hf : flatD x = true
    · exact flat hf hS
    · cases x with
      | tup ds =>
        simp only [Tv, Bool.and_eq_true, decide_eq_true_eq] at h
        obtain ⟨hl, ha⟩ := h
        rw [List.all_eq_true] at ha
        have each : ∀ d ∈ ds, ∀ S' : Store, Sp S0 n S' → ∃ d' S1, ((asgn (.name 4) d (wipeE [some (.d r), some (.mu n), some (.d (.tup ds)), none, none] [4])).bind fun ρ' => (evTo (callF P (k + m + 3)) .none ρ' S').bind fun q => if q.1 = true then (evE (callF P (k + m + 3)) (.call f (.cons (.var 0) (.cons (.var 1) (.cons (.var 4) .nil)))) ρ' q.2).bind fun w => (fzW w.1 w.2).map fun z => (some z.1, z.2) else some (none, q.2)) = some (some d', S1) ∧ Lk m d' d ∧ Sp S0 n S1 := by
          intro d hd S' hS'
          obtain ⟨d', S1, e, l, p⟩ := ih (k := k) (S := S') (ha d hd) hS'
          refine ⟨d', S1, ?_, l, p⟩
          simp [wipeE, asgn, evSs, evS, evE, evEs, evZ, evO, evI, evT, evTo, rd_d, fz_d, b_add, b_sub, b_mul, b_div, b_mod, b_p18, b_p8, b_p7, b_p6, c_lt, c_le, c_gt, c_ge, c_eq, c_ne, c_eqs, c_nes, c_nes0, c_nes1, c_eqs0, c_eqs1, l_t, l_l, bi_i, bi_max, bi_min, bi_tl, bi_tt, ix_l, ix_t, m_nil, m_cons, at0, at1, at2, flatD, seqOf, isNonW, fin, evX, e]
        obtain ⟨ds', S1, e1, l1, p1⟩ := compL_all (acc := []) each hS (by simpa using hl)
        have hc := e_comp (c := callF P (k + m + 3)) (vs := [4]) (tg := .name 4) (it := .seq (.var 2)) (cond := .none) (elt := .call f (.cons (.var 0) (.cons (.var 1) (.cons (.var 4) .nil)))) (ρ := [some (.d r), some (.mu n), some (.d (.tup ds)), none, none]) (S := S) (S1 := S) (ds := ds) rfl (by simp [evSs, evS, evE, evEs, evZ, evO, evI, evT, evTo, rd_d, fz_d, b_add, b_sub, b_mul, b_div, b_mod, b_p18, b_p8, b_p7, b_p6, c_lt, c_le, c_gt, c_ge, c_eq, c_ne, c_eqs, c_nes, c_nes0, c_nes1, c_eqs0, c_eqs1, l_t, l_l, bi_i, bi_max, bi_min, bi_tl, bi_tt, ix_l, ix_t, m_nil, m_cons, at0, at1, at2, flatD, seqOf, isNonW, fin, evX]) e1
        obtain ⟨t, S2, e2, _, _, p2⟩ := take_ex (k := k + m + 1) (lim := 2) hP hD hr hn p1 (by decide)
        have hlen : S2.length = S.length := by
          obtain ⟨_, _, rfl⟩ := p2
          obtain ⟨_, _, rfl⟩ := hS
          simp
        refine ⟨if t = 0 then .lst ds' else .tup ds', S2, ?_, ?_, p2⟩
        · rw [show k + (m + 1) + 3 = (k + m + 3) + 1 from rfl, callF_b hE rfl (by decide)]
          show (evSs (callF P (k + m + 3)) (B_law_either g f) [some (.d r), some (.mu n), some (.d (.tup ds)), none, none] S).bind _ = _
          unfold B_law_either
          refine rt_fin (ss_rt (x_ift (S1 := S) (by simp [evSs, evS, evE, evEs, evZ, evO, evI, evT, evTo, rd_d, fz_d, b_add, b_sub, b_mul, b_div, b_mod, b_p18, b_p8, b_p7, b_p6, c_lt, c_le, c_gt, c_ge, c_eq, c_ne, c_eqs, c_nes, c_nes0, c_nes1, c_eqs0, c_eqs1, l_t, l_l, bi_i, bi_max, bi_min, bi_tl, bi_tt, ix_l, ix_t, m_nil, m_cons, at0, at1, at2, flatD, seqOf, isNonW, fin, evX, isi_tup]) ((ss_nx (x_asg hc (by simp))).trans (ss_rt (x_ret ?_))))) hlen
          by_cases ht : t = 0 <;> simp [evSs, evS, evE, evEs, evZ, evO, evI, evT, evTo, rd_d, fz_d, b_add, b_sub, b_mul, b_div, b_mod, b_p18, b_p8, b_p7, b_p6, c_lt, c_le, c_gt, c_ge, c_eq, c_ne, c_eqs, c_nes, c_nes0, c_nes1, c_eqs0, c_eqs1, l_t, l_l, bi_i, bi_max, bi_min, bi_tl, bi_tt, ix_l, ix_t, m_nil, m_cons, at0, at1, at2, flatD, seqOf, isNonW, fin, evX, e2, ht]
        · simp only [Lk]
          refine ⟨ds', ?_, l1⟩
          split
          · exact .inl rfl
          · exact .inr rfl
      | _ => simp [Tv, flatD] at h hf
theorem handed_ex {g li ei d : Nat} {r : D} {n m : Nat} {S0 : Store} {x : D} (hH : P f = some ⟨3, 4, B_law_handed g li ei⟩) (hL : P li = some ⟨1, 2, B_law_listed li⟩) (hE : P ei = some ⟨3, 5, B_law_either g ei⟩) (hP : P g = some ⟨3, 3, B_law_take d⟩) (hD : P d = some ⟨3, 4, B_law_draw⟩)
    (hr : Row r) (hn : n < S0.length) (hx : Tv m x = true) (hS : Sp S0 n S) : ∃ x' S', callF P (k + m + 4) f [.d r, .mu n, .d x] S = some (x', S') ∧ Lk m x' x ∧ Sp S0 n S' := by
  obtain ⟨t, S1, e1, _, _, p1⟩ := take_ex (k := k + m + 1) (lim := 3) hP hD hr hn hS (by decide)
  have len1 : S1.length = S.length := by
    obtain ⟨_, _, rfl⟩ := p1
    obtain ⟨_, _, rfl⟩ := hS
    simp
  have start : ∀ {z : D} {S2 : Store}, S2.length = S.length → evSs (callF P (k + m + 3)) (B_law_handed g li ei) [some (.d r), some (.mu n), some (.d x), none] S = some (.rt z S2) → callF P (k + m + 4) f [.d r, .mu n, .d x] S = some (z, S2) := by
    intro z S2 hl e
    rw [callF_b hH rfl (by decide)]
    exact rt_fin e hl
  by_cases h2 : t = 2
  · obtain ⟨x', S2, e2, l2, p2⟩ := either_ex hE hP hD hr hn m (k := k) hx p1
    have len2 : S2.length = S.length := by
      obtain ⟨_, _, rfl⟩ := p2
      obtain ⟨_, _, rfl⟩ := hS
      simp
    refine ⟨x', S2, start len2 ?_, l2, p2⟩
    simp [B_law_handed, evSs, evS, evE, evEs, evZ, evO, evI, evT, evTo, rd_d, fz_d, b_add, b_sub, b_mul, b_div, b_mod, b_p18, b_p8, b_p7, b_p6, c_lt, c_le, c_gt, c_ge, c_eq, c_ne, c_eqs, c_nes, c_nes0, c_nes1, c_eqs0, c_eqs1, l_t, l_l, bi_i, bi_max, bi_min, bi_tl, bi_tt, ix_l, ix_t, m_nil, m_cons, at0, at1, at2, flatD, seqOf, isNonW, fin, evX, e1, h2, e2]
  · by_cases h0 : t = 0
    · obtain ⟨x', e2, l2⟩ := listed_ex hL m (k := k + 2) (S := S1) hx
      rw [show k + 2 + m + 1 = k + m + 3 by omega] at e2
      refine ⟨x', S1, start len1 ?_, l2, p1⟩
      simp [B_law_handed, evSs, evS, evE, evEs, evZ, evO, evI, evT, evTo, rd_d, fz_d, b_add, b_sub, b_mul, b_div, b_mod, b_p18, b_p8, b_p7, b_p6, c_lt, c_le, c_gt, c_ge, c_eq, c_ne, c_eqs, c_nes, c_nes0, c_nes1, c_eqs0, c_eqs1, l_t, l_l, bi_i, bi_max, bi_min, bi_tl, bi_tt, ix_l, ix_t, m_nil, m_cons, at0, at1, at2, flatD, seqOf, isNonW, fin, evX, e1, h0, e2]
    · refine ⟨x, S1, start len1 ?_, Lk.refl _ _, p1⟩
      simp [B_law_handed, evSs, evS, evE, evEs, evZ, evO, evI, evT, evTo, rd_d, fz_d, b_add, b_sub, b_mul, b_div, b_mod, b_p18, b_p8, b_p7, b_p6, c_lt, c_le, c_gt, c_ge, c_eq, c_ne, c_eqs, c_nes, c_nes0, c_nes1, c_eqs0, c_eqs1, l_t, l_l, bi_i, bi_max, bi_min, bi_tl, bi_tt, ix_l, ix_t, m_nil, m_cons, at0, at1, at2, flatD, seqOf, isNonW, fin, evX, e1, h2, h0]
end
end Pv

set_option Elab.async false
set_option linter.all false
set_option maxRecDepth 100000
set_option maxHeartbeats 1000000
namespace Pv
open PySem L2
def IB1 : Ss := .cons (.ifs (.val (.cmp .eq (.var 3) (.cst (.int 0)))) (.cons (.brk) (.nil)) (.nil)) (.cons (.app 1 (.bin .mod (.bi .int (.cons (.var 3) (.nil))) (.cst (.int 997)))) (.cons (.asg (.name 3) (.bin .div (.var 3) (.cst (.int 997)))) (.nil)))
def IB2 : Ss := .cons (.asg (.name 5) (.bin .mod (.bi .int (.cons (.bin .add (.bin .add (.bin .mul (.var 2) (.cst (.int 48271))) (.bin .mul (.var 4) (.cst (.int 69621)))) (.cst (.int 11))) (.nil))) (.cst (.int 2147483647)))) (.cons (.app 1 (.bin .mod (.bi .int (.cons (.bin .add (.bin .mul (.var 5) (.cst (.int 16807))) (.var 4)) (.nil))) (.cst (.int 2147483629)))) (.nil))
def OB : Ss := .cons (.ifs (.val (.cmp .ge (.var 2) (.bin .pow (.cst (.int 10)) (.cst (.int 18))))) (.cons (.asg (.name 3) (.var 2)) (.cons (.forS (.name 4) (.r1 (.cst (.int 60))) IB1) (.nil))) (.cons (.forS (.name 4) (.r1 (.cst (.int 4))) IB2) (.nil))) (.nil)
section
variable {P : Nat → Option Fn} {k f : Nat} {S0 : Store} {c : Call} {ns : List Int}
def NumI (ns : List Int) (S0 : Store) (N : Nat) (ρ : En) (S : Store) : Prop :=
  ∃ (a b c d : Option W) (ms : List Int), ρ = [some (.d (.scr ns)), some (.mu S0.length), a, b, c, d] ∧ S = S0 ++ [.lst (ms.map .int)] ∧ ms.length ≤ N
theorem get_last {S0 : Store} {x : MO} : (S0 ++ [x])[S0.length]? = some x := by simp
theorem set_last {S0 : Store} {x y : MO} : (S0 ++ [x]).set S0.length y = S0 ++ [y] := by simp
theorem x_appN {e : E} {ρ : En} {ms : List Int} {z : Int} (h1 : ρ[1]? = some (some (.mu S0.length))) (hl : ms.length < 16777216) (he : evE c e ρ (S0 ++ [.lst (ms.map .int)]) = some (.d (.int z), S0 ++ [.lst (ms.map .int)])) :
    evS c (.app 1 e) ρ (S0 ++ [.lst (ms.map .int)]) = some (.nx ρ (S0 ++ [.lst ((ms ++ [z]).map .int)])) := by
  have hl' : (ms.map D.int).length < sizeLine := by rw [sizeLine_val]; simpa using hl
  simp only [evS, h1, lstAt_l get_last, he, Option.bind_some, fz_d, if_pos hl', set_last, List.map_append, List.map_cons, List.map_nil]
theorem n_1 {z : Int} {i : Nat} {a b d : Option W} {ms : List Int} (hl : ms.length ≤ 60 * i) (hi : i < 63) : ∃ ρ' S', evS c (.forS (.name 4) (.r1 (.cst (.int 60))) IB1) [some (.d (.scr ns)), some (.mu S0.length), some (.d (.int z)), some (.d (.int z)), b, d] (S0 ++ [.lst (ms.map .int)]) = some (.nx ρ' S') ∧ NumI ns S0 (60 * (i + 1)) ρ' S' := by
  have loop := x_for (c := c) (tg := .name 4) (it := .r1 (.cst (.int 60))) (ρ := [some (.d (.scr ns)), some (.mu S0.length), some (.d (.int z)), some (.d (.int z)), b, d]) (S := S0 ++ [.lst (ms.map .int)]) (S1 := S0 ++ [.lst (ms.map .int)]) (ds := rangeD 0 60)
    (body := IB1) (Z := fun o => ∃ ρ' S', o = .nx ρ' S' ∧ NumI ns S0 (60 * (i + 1)) ρ' S') (x_rn (j := 60) _ (by simp only [evE, flatD, if_true]) rfl (by decide))
    (fun j ρ' S' => ∃ (y : Int) (b d : Option W) (ms' : List Int), ρ' = [some (.d (.scr ns)), some (.mu S0.length), some (.d (.int z)), some (.d (.int y)), b, d] ∧ S' = S0 ++ [.lst (ms'.map .int)] ∧ ms'.length ≤ 60 * i + j) ⟨z, b, d, ms, rfl, rfl, hl⟩ ?_ ?_
  · obtain ⟨o, e2, ρ', S', rfl, q⟩ := loop
    exact ⟨ρ', S', e2, q⟩
  · rintro j x ρ S' hj ⟨y, b, d, ms', rfl, rfl, hl'⟩
    have hj60 : j < 60 := (rangeD_get hj).1
    by_cases hy : y = 0
    · subst hy
      refine ⟨_, .bk [some (.d (.scr ns)), some (.mu S0.length), some (.d (.int z)), some (.d (.int 0)), some (.d x), d] (S0 ++ [.lst (ms'.map .int)]), rfl, ?_, ?_⟩
      · simp [IB1, evSs, evS, evE, evEs, evZ, evO, evI, evT, evTo, rd_d, fz_d, b_add, b_sub, b_mul, b_div, b_mod, b_p18, b_p8, b_p7, b_p6, c_lt, c_le, c_gt, c_ge, c_eq, c_ne, c_eqs, c_nes, c_nes0, c_nes1, c_eqs0, c_eqs1, l_t, l_l, bi_i, bi_max, bi_min, bi_tl, bi_tt, ix_l, ix_t, m_nil, m_cons, at0, at1, at2, flatD, seqOf, isNonW, fin, evX]
      · exact ⟨_, _, rfl, _, _, _, _, ms', rfl, rfl, by omega⟩
    · refine ⟨_, .nx [some (.d (.scr ns)), some (.mu S0.length), some (.d (.int z)), some (.d (.int (y / 997))), some (.d x), d] (S0 ++ [.lst ((ms' ++ [y % 997]).map .int)]), rfl, ?_, ?_⟩
      · unfold IB1
        rw [ss_nx (ρ' := [some (.d (.scr ns)), some (.mu S0.length), some (.d (.int z)), some (.d (.int y)), some (.d x), d]) (S' := S0 ++ [.lst (ms'.map .int)]) (x_iff (S1 := S0 ++ [.lst (ms'.map .int)]) (by simp [evSs, evS, evE, evEs, evZ, evO, evI, evT, evTo, rd_d, fz_d, b_add, b_sub, b_mul, b_div, b_mod, b_p18, b_p8, b_p7, b_p6, c_lt, c_le, c_gt, c_ge, c_eq, c_ne, c_eqs, c_nes, c_nes0, c_nes1, c_eqs0, c_eqs1, l_t, l_l, bi_i, bi_max, bi_min, bi_tl, bi_tt, ix_l, ix_t, m_nil, m_cons, at0, at1, at2, flatD, seqOf, isNonW, fin, evX, hy]) ss_0)]
        rw [ss_nx (x_appN (ms := ms') (z := y % 997) rfl (by omega) (by simp [evSs, evS, evE, evEs, evZ, evO, evI, evT, evTo, rd_d, fz_d, b_add, b_sub, b_mul, b_div, b_mod, b_p18, b_p8, b_p7, b_p6, c_lt, c_le, c_gt, c_ge, c_eq, c_ne, c_eqs, c_nes, c_nes0, c_nes1, c_eqs0, c_eqs1, l_t, l_l, bi_i, bi_max, bi_min, bi_tl, bi_tt, ix_l, ix_t, m_nil, m_cons, at0, at1, at2, flatD, seqOf, isNonW, fin, evX]))]
        simp [evSs, evS, evE, evEs, evZ, evO, evI, evT, evTo, rd_d, fz_d, b_add, b_sub, b_mul, b_div, b_mod, b_p18, b_p8, b_p7, b_p6, c_lt, c_le, c_gt, c_ge, c_eq, c_ne, c_eqs, c_nes, c_nes0, c_nes1, c_eqs0, c_eqs1, l_t, l_l, bi_i, bi_max, bi_min, bi_tl, bi_tt, ix_l, ix_t, m_nil, m_cons, at0, at1, at2, flatD, seqOf, isNonW, fin, evX]
      · exact ⟨_, _, _, _, rfl, rfl, by simp; omega⟩
  · rintro ρ S' ⟨y, b, d, ms', rfl, rfl, hl'⟩
    rw [rangeD_length] at hl'
    exact ⟨_, _, rfl, _, _, _, _, ms', rfl, rfl, by omega⟩
theorem n_2s {z q : Int} {a d : Option W} {ms' : List Int} (hl : ms'.length < 16777216) : evSs c IB2 [some (.d (.scr ns)), some (.mu S0.length), some (.d (.int z)), a, some (.d (.int q)), d] (S0 ++ [.lst (ms'.map .int)]) =
    some (.nx [some (.d (.scr ns)), some (.mu S0.length), some (.d (.int z)), a, some (.d (.int q)), some (.d (.int ((z * 48271 + q * 69621 + 11) % 2147483647)))] (S0 ++ [.lst ((ms' ++ [((z * 48271 + q * 69621 + 11) % 2147483647 * 16807 + q) % 2147483629]).map .int)])) := by
  have e1 : evS c (.asg (.name 5) (.bin .mod (.bi .int (.cons (.bin .add (.bin .add (.bin .mul (.var 2) (.cst (.int 48271))) (.bin .mul (.var 4) (.cst (.int 69621)))) (.cst (.int 11))) (.nil))) (.cst (.int 2147483647)))) [some (.d (.scr ns)), some (.mu S0.length), some (.d (.int z)), a, some (.d (.int q)), d] (S0 ++ [.lst (ms'.map .int)]) = some (.nx [some (.d (.scr ns)), some (.mu S0.length), some (.d (.int z)), a, some (.d (.int q)), some (.d (.int ((z * 48271 + q * 69621 + 11) % 2147483647)))] (S0 ++ [.lst (ms'.map .int)])) := by
    simp [evSs, evS, evE, evEs, evZ, evO, evI, evT, evTo, rd_d, fz_d, b_add, b_sub, b_mul, b_div, b_mod, b_p18, b_p8, b_p7, b_p6, c_lt, c_le, c_gt, c_ge, c_eq, c_ne, c_eqs, c_nes, c_nes0, c_nes1, c_eqs0, c_eqs1, l_t, l_l, bi_i, bi_max, bi_min, bi_tl, bi_tt, ix_l, ix_t, m_nil, m_cons, at0, at1, at2, flatD, seqOf, isNonW, fin, evX]
  generalize (z * 48271 + q * 69621 + 11) % 2147483647 = u at e1 ⊢
  have e2 : evE c (.bin .mod (.bi .int (.cons (.bin .add (.bin .mul (.var 5) (.cst (.int 16807))) (.var 4)) (.nil))) (.cst (.int 2147483629))) [some (.d (.scr ns)), some (.mu S0.length), some (.d (.int z)), a, some (.d (.int q)), some (.d (.int u))] (S0 ++ [.lst (ms'.map .int)]) = some (.d (.int ((u * 16807 + q) % 2147483629)), (S0 ++ [.lst (ms'.map .int)])) := by
    simp [evSs, evS, evE, evEs, evZ, evO, evI, evT, evTo, rd_d, fz_d, b_add, b_sub, b_mul, b_div, b_mod, b_p18, b_p8, b_p7, b_p6, c_lt, c_le, c_gt, c_ge, c_eq, c_ne, c_eqs, c_nes, c_nes0, c_nes1, c_eqs0, c_eqs1, l_t, l_l, bi_i, bi_max, bi_min, bi_tl, bi_tt, ix_l, ix_t, m_nil, m_cons, at0, at1, at2, flatD, seqOf, isNonW, fin, evX]
  unfold IB2
  rw [ss_nx e1, ss_nx (x_appN (ms := ms') rfl hl e2), ss_0]
theorem n_2 {z : Int} {i : Nat} {a b d : Option W} {ms : List Int} (hl : ms.length ≤ 60 * i) (hi : i < 63) : ∃ ρ' S', evS c (.forS (.name 4) (.r1 (.cst (.int 4))) IB2) [some (.d (.scr ns)), some (.mu S0.length), some (.d (.int z)), a, b, d] (S0 ++ [.lst (ms.map .int)]) = some (.nx ρ' S') ∧ NumI ns S0 (60 * (i + 1)) ρ' S' := by
  have loop := x_for (c := c) (tg := .name 4) (it := .r1 (.cst (.int 4))) (ρ := [some (.d (.scr ns)), some (.mu S0.length), some (.d (.int z)), a, b, d]) (S := S0 ++ [.lst (ms.map .int)]) (S1 := S0 ++ [.lst (ms.map .int)]) (ds := rangeD 0 4)
    (body := IB2) (Z := fun o => ∃ ρ' S', o = .nx ρ' S' ∧ NumI ns S0 (60 * (i + 1)) ρ' S') (x_rn (j := 4) _ (by simp only [evE, flatD, if_true]) rfl (by decide))
    (fun j ρ' S' => ∃ (a b d : Option W) (ms' : List Int), ρ' = [some (.d (.scr ns)), some (.mu S0.length), some (.d (.int z)), a, b, d] ∧ S' = S0 ++ [.lst (ms'.map .int)] ∧ ms'.length ≤ 60 * i + j) ⟨a, b, d, ms, rfl, rfl, hl⟩ ?_ ?_
  · obtain ⟨o, e2, ρ', S', rfl, q⟩ := loop
    exact ⟨ρ', S', e2, q⟩
  · rintro j x ρ S' hj ⟨a, b, d, ms', rfl, rfl, hl'⟩
    obtain ⟨hj4, rfl⟩ := rangeD_get hj
    refine ⟨_, _, rfl, n_2s (by omega), ?_⟩
    exact ⟨_, _, _, _, rfl, rfl, by simp; omega⟩
  · rintro ρ S' ⟨a, b, d, ms', rfl, rfl, hl'⟩
    rw [rangeD_length] at hl'
    exact ⟨_, _, rfl, _, _, _, _, ms', rfl, rfl, by omega⟩
theorem n_o {z : Int} {i : Nat} {b c' d : Option W} {ms : List Int} (hl : ms.length ≤ 60 * i) (hi : i < 63) : ∃ ρ' S', evSs c OB [some (.d (.scr ns)), some (.mu S0.length), some (.d (.int z)), b, c', d] (S0 ++ [.lst (ms.map .int)]) = some (.nx ρ' S') ∧ NumI ns S0 (60 * (i + 1)) ρ' S' := by
  by_cases hz : 1000000000000000000 ≤ z
  · obtain ⟨ρ', S', e, q⟩ := n_1 (c := c) (ns := ns) (S0 := S0) (z := z) (a := none) (b := c') (d := d) hl hi
    refine ⟨ρ', S', ?_, q⟩
    have e1 : evT c (.val (.cmp .ge (.var 2) (.bin .pow (.cst (.int 10)) (.cst (.int 18))))) [some (.d (.scr ns)), some (.mu S0.length), some (.d (.int z)), b, c', d] (S0 ++ [.lst (ms.map .int)]) = some (true, S0 ++ [.lst (ms.map .int)]) := by
      simp [evSs, evS, evE, evEs, evZ, evO, evI, evT, evTo, rd_d, fz_d, b_add, b_sub, b_mul, b_div, b_mod, b_p18, b_p8, b_p7, b_p6, c_lt, c_le, c_gt, c_ge, c_eq, c_ne, c_eqs, c_nes, c_nes0, c_nes1, c_eqs0, c_eqs1, l_t, l_l, bi_i, bi_max, bi_min, bi_tl, bi_tt, ix_l, ix_t, m_nil, m_cons, at0, at1, at2, flatD, seqOf, isNonW, fin, evX, hz]
    have e2 : evS c (.asg (.name 3) (.var 2)) [some (.d (.scr ns)), some (.mu S0.length), some (.d (.int z)), b, c', d] (S0 ++ [.lst (ms.map .int)]) = some (.nx [some (.d (.scr ns)), some (.mu S0.length), some (.d (.int z)), some (.d (.int z)), c', d] (S0 ++ [.lst (ms.map .int)])) := by
      simp [evSs, evS, evE, evEs, evZ, evO, evI, evT, evTo, rd_d, fz_d, b_add, b_sub, b_mul, b_div, b_mod, b_p18, b_p8, b_p7, b_p6, c_lt, c_le, c_gt, c_ge, c_eq, c_ne, c_eqs, c_nes, c_nes0, c_nes1, c_eqs0, c_eqs1, l_t, l_l, bi_i, bi_max, bi_min, bi_tl, bi_tt, ix_l, ix_t, m_nil, m_cons, at0, at1, at2, flatD, seqOf, isNonW, fin, evX]
    unfold OB
    rw [ss_nx (x_ift e1 ((ss_nx e2).trans ((ss_nx e).trans ss_0))), ss_0]
  · obtain ⟨ρ', S', e, q⟩ := n_2 (c := c) (ns := ns) (S0 := S0) (z := z) (a := b) (b := c') (d := d) hl hi
    refine ⟨ρ', S', ?_, q⟩
    have e1 : evT c (.val (.cmp .ge (.var 2) (.bin .pow (.cst (.int 10)) (.cst (.int 18))))) [some (.d (.scr ns)), some (.mu S0.length), some (.d (.int z)), b, c', d] (S0 ++ [.lst (ms.map .int)]) = some (false, S0 ++ [.lst (ms.map .int)]) := by
      simp [evSs, evS, evE, evEs, evZ, evO, evI, evT, evTo, rd_d, fz_d, b_add, b_sub, b_mul, b_div, b_mod, b_p18, b_p8, b_p7, b_p6, c_lt, c_le, c_gt, c_ge, c_eq, c_ne, c_eqs, c_nes, c_nes0, c_nes1, c_eqs0, c_eqs1, l_t, l_l, bi_i, bi_max, bi_min, bi_tl, bi_tt, ix_l, ix_t, m_nil, m_cons, at0, at1, at2, flatD, seqOf, isNonW, fin, evX, hz]
    unfold OB
    rw [ss_nx (x_iff e1 ((ss_nx e).trans ss_0)), ss_0]
theorem numbers_ex {S : Store} (hN : P f = some ⟨1, 6, B_law_numbers⟩) : ∃ r, Row r ∧ callF P (k + 1) f [.d (.scr ns)] S = some (r, S) := by
  have b63 : (cutD (ns.map .int) none (some 63)).length ≤ 63 := by
    unfold cutD
    rw [List.length_take]
    have : HT.sIx (ns.map D.int).length (ns.map D.int).length (some 63) ≤ 63 := by
      unfold HT.sIx
      simp
      omega
    omega
  have allI : ∀ x ∈ cutD (ns.map .int) none (some 63), ∃ z, x = .int z := by
    intro x hx
    unfold cutD at hx
    have := List.mem_of_mem_drop (List.mem_of_mem_take hx)
    obtain ⟨z, _, rfl⟩ := List.mem_map.mp this
    exact ⟨z, rfl⟩
  generalize hds : cutD (ns.map .int) none (some 63) = ds at b63 allI
  rw [callF_b hN rfl (by decide)]
  show ∃ r, Row r ∧ (evSs (callF P k) B_law_numbers [some (.d (.scr ns)), none, none, none, none, none] S).bind _ = _
  have e1 : evS (callF P k) (.newL 1 .nil) [some (.d (.scr ns)), none, none, none, none, none] S = some (.nx [some (.d (.scr ns)), some (.mu S.length), none, none, none, none] (S ++ [.lst []])) := by
    simp [evSs, evS, evE, evEs, evZ, evO, evI, evT, evTo, rd_d, fz_d, b_add, b_sub, b_mul, b_div, b_mod, b_p18, b_p8, b_p7, b_p6, c_lt, c_le, c_gt, c_ge, c_eq, c_ne, c_eqs, c_nes, c_nes0, c_nes1, c_eqs0, c_eqs1, l_t, l_l, bi_i, bi_max, bi_min, bi_tl, bi_tt, ix_l, ix_t, m_nil, m_cons, at0, at1, at2, flatD, seqOf, isNonW, fin, evX]
  have loop := x_for (c := callF P k) (tg := .name 2) (it := .seq (.sl (.var 0) .none (.some (.cst (.int 63))))) (ρ := [some (.d (.scr ns)), some (.mu S.length), none, none, none, none]) (S := S ++ [.lst []]) (S1 := S ++ [.lst []]) (ds := ds)
    (body := OB) (Z := fun o => ∃ ρ' S', o = .nx ρ' S' ∧ NumI ns S 4000 ρ' S')
    (by simp [evSs, evS, evE, evEs, evZ, evO, evI, evT, evTo, rd_d, fz_d, b_add, b_sub, b_mul, b_div, b_mod, b_p18, b_p8, b_p7, b_p6, c_lt, c_le, c_gt, c_ge, c_eq, c_ne, c_eqs, c_nes, c_nes0, c_nes1, c_eqs0, c_eqs1, l_t, l_l, bi_i, bi_max, bi_min, bi_tl, bi_tt, ix_l, ix_t, m_nil, m_cons, at0, at1, at2, flatD, seqOf, isNonW, fin, evX, slRun, hds]) (fun i ρ' S' => NumI ns S (60 * i) ρ' S') ⟨none, none, none, none, [], rfl, rfl, by simp⟩ (fun i x ρ S' hi h => by
      obtain ⟨a, b, c, d, ms, rfl, rfl, hl⟩ := h
      obtain ⟨z, rfl⟩ := allI x (List.mem_of_getElem? hi)
      have hi63 : i < 63 := by
        have := (List.getElem?_eq_some_iff.mp hi).1
        omega
      obtain ⟨ρ', S', e2, q⟩ := n_o (c := callF P k) (ns := ns) (S0 := S) (z := z) (b := b) (c' := c) (d := d) hl hi63
      exact ⟨_, .nx ρ' S', rfl, e2, q⟩) (fun ρ S' h => by
      obtain ⟨a, b, c, d, ms, rfl, rfl, hl⟩ := h
      exact ⟨_, _, rfl, a, b, c, d, ms, rfl, rfl, by omega⟩)
  obtain ⟨o, e2, ρ', S', rfl, a, b, c, d, ms, rfl, rfl, hl⟩ := loop
  unfold B_law_numbers
  rw [ss_nx e1]
  erw [ss_nx e2]
  by_cases h0 : ms = []
  · subst h0
    refine ⟨.lst [.int 0], ⟨[0], by simp, rfl⟩, ?_⟩
    have e4 : evT (callF P k) (.val (.cmp .eq (.bi .len (.cons (.var 1) (.nil))) (.cst (.int 0)))) [some (.d (.scr ns)), some (.mu S.length), a, b, c, d] (S ++ [.lst (([] : List Int).map .int)]) = some (true, S ++ [.lst (([] : List Int).map .int)]) := by
      simp [evSs, evS, evE, evEs, evZ, evO, evI, evT, evTo, rd_d, fz_d, b_add, b_sub, b_mul, b_div, b_mod, b_p18, b_p8, b_p7, b_p6, c_lt, c_le, c_gt, c_ge, c_eq, c_ne, c_eqs, c_nes, c_nes0, c_nes1, c_eqs0, c_eqs1, l_t, l_l, bi_i, bi_max, bi_min, bi_tl, bi_tt, ix_l, ix_t, m_nil, m_cons, at0, at1, at2, flatD, seqOf, isNonW, fin, evX, rd_l get_last]
    have e5 := x_appN (S0 := S) (c := callF P k) (e := .cst (.int 0)) (ρ := [some (.d (.scr ns)), some (.mu S.length), a, b, c, d]) (ms := []) (z := 0) rfl (by simp) (by simp [evSs, evS, evE, evEs, evZ, evO, evI, evT, evTo, rd_d, fz_d, b_add, b_sub, b_mul, b_div, b_mod, b_p18, b_p8, b_p7, b_p6, c_lt, c_le, c_gt, c_ge, c_eq, c_ne, c_eqs, c_nes, c_nes0, c_nes1, c_eqs0, c_eqs1, l_t, l_l, bi_i, bi_max, bi_min, bi_tl, bi_tt, ix_l, ix_t, m_nil, m_cons, at0, at1, at2, flatD, seqOf, isNonW, fin, evX])
    rw [ss_nx (x_ift e4 ((ss_nx e5).trans ss_0))]
    simp [evSs, evS, evE, evEs, evZ, evO, evI, evT, evTo, rd_d, fz_d, b_add, b_sub, b_mul, b_div, b_mod, b_p18, b_p8, b_p7, b_p6, c_lt, c_le, c_gt, c_ge, c_eq, c_ne, c_eqs, c_nes, c_nes0, c_nes1, c_eqs0, c_eqs1, l_t, l_l, bi_i, bi_max, bi_min, bi_tl, bi_tt, ix_l, ix_t, m_nil, m_cons, at0, at1, at2, flatD, seqOf, isNonW, fin, evX, fz_l get_last, set_last]
  · refine ⟨.lst (ms.map .int), ⟨ms, h0, rfl⟩, ?_⟩
    have e4 : evT (callF P k) (.val (.cmp .eq (.bi .len (.cons (.var 1) (.nil))) (.cst (.int 0)))) [some (.d (.scr ns)), some (.mu S.length), a, b, c, d] (S ++ [.lst (ms.map .int)]) = some (false, S ++ [.lst (ms.map .int)]) := by
      simp [evSs, evS, evE, evEs, evZ, evO, evI, evT, evTo, rd_d, fz_d, b_add, b_sub, b_mul, b_div, b_mod, b_p18, b_p8, b_p7, b_p6, c_lt, c_le, c_gt, c_ge, c_eq, c_ne, c_eqs, c_nes, c_nes0, c_nes1, c_eqs0, c_eqs1, l_t, l_l, bi_i, bi_max, bi_min, bi_tl, bi_tt, ix_l, ix_t, m_nil, m_cons, at0, at1, at2, flatD, seqOf, isNonW, fin, evX, rd_l get_last, h0]
    rw [ss_nx (x_iff e4 ss_0)]
    simp [evSs, evS, evE, evEs, evZ, evO, evI, evT, evTo, rd_d, fz_d, b_add, b_sub, b_mul, b_div, b_mod, b_p18, b_p8, b_p7, b_p6, c_lt, c_le, c_gt, c_ge, c_eq, c_ne, c_eqs, c_nes, c_nes0, c_nes1, c_eqs0, c_eqs1, l_t, l_l, bi_i, bi_max, bi_min, bi_tl, bi_tt, ix_l, ix_t, m_nil, m_cons, at0, at1, at2, flatD, seqOf, isNonW, fin, evX, fz_l get_last, set_last]
end
end Pv

set_option Elab.async false
set_option linter.all false
set_option maxRecDepth 100000
set_option maxHeartbeats 1000000
namespace Pv
open PySem L2
def B_need : Ss := .cons (.ifs (.not (.val (.var 0))) (.cons (.rais (.var 1)) (.nil)) (.nil)) (.nil)
def B_is_integer : Ss := .cons (.ret (.and (.isi1 (.var 0) "int") (.not (.isi1 (.var 0) "bool")))) (.nil)
def B_is_within (i_is_integer : Nat) : Ss := .cons (.ret (.and (.call i_is_integer (.cons (.var 0) (.nil))) (.chain .le .le (.var 1) (.var 0) (.var 2)))) (.nil)
def B_is_word : Ss := .cons (.ifs (.or (.not (.val (.isi1 (.var 0) "str"))) (.not (.val (.chain .le .le (.cst (.int 1)) (.bi .len (.cons (.var 0) (.nil))) (.cst (.int 8)))))) (.cons (.ret (.cst (.bl false))) (.nil)) (.nil)) (.cons (.ret (.and (.mt0 .isascii (.var 0)) (.and (.mt0 .isalpha (.var 0)) (.mt0 .islower (.var 0))))) (.nil))
def B_is_second (i_is_within : Nat) : Ss := .cons (.ret (.call i_is_within (.cons (.var 0) (.cons (.cst (.int 0)) (.cons (.cst (.int 100000000)) (.nil)))))) (.nil)
def B_is_rows : Ss := .cons (.ret (.and (.isi2 (.var 0) "list" "tuple") (.chain .le .le (.var 1) (.bi .len (.cons (.var 0) (.nil))) (.var 2)))) (.nil)
def B_is_rows_of (i_is_rows : Nat) : Ss := .cons (.ret (.and (.call i_is_rows (.cons (.var 0) (.cons (.var 1) (.cons (.var 2) (.nil))))) (.bi .all (.cons (.comp [4] (.name 4) (.seq (.var 0)) (.none) (.callv 3 (.cons (.var 4) (.nil)))) (.nil))))) (.nil)
def B_is_ascending : Ss := .cons (.ret (.bi .all (.cons (.comp [1] (.name 1) (.r1 (.bin .sub (.bi .len (.cons (.var 0) (.nil))) (.cst (.int 1)))) (.none) (.cmp .lt (.ix (.var 0) (.var 1)) (.ix (.var 0) (.bin .add (.var 1) (.cst (.int 1)))))) (.nil)))) (.nil)
section
variable {P : Nat → Option Fn} {k f g : Nat} {S : Store}
theorem need_ok {at' : D} (h : P f = some ⟨2, 2, B_need⟩) : callF P (k + 1) f [.d (.bl true), .d at'] S = some (.non, S) := by
  rw [callF_b h rfl (by decide)]
  show (evSs (callF P k) B_need [some (.d (.bl true)), some (.d at')] S).bind _ = _
  simp [B_need, evSs, evS, evE, evEs, evZ, evO, evI, evT, evTo, rd_d, fz_d, b_add, b_sub, b_mul, b_div, b_mod, b_p18, b_p8, b_p7, b_p6, c_lt, c_le, c_gt, c_ge, c_eq, c_ne, c_eqs, c_nes, c_nes0, c_nes1, c_eqs0, c_eqs1, l_t, l_l, bi_i, bi_max, bi_min, bi_tl, bi_tt, ix_l, ix_t, m_nil, m_cons, at0, at1, at2, flatD, seqOf, isNonW, fin, evX]
theorem need_no {a : Int} (h : P f = some ⟨2, 2, B_need⟩) (ha : atOk a = true) : callF P (k + 1) f [.d (.bl false), .d (.int a)] S = none ∧ (callF P (k + 1)).x f [.d (.bl false), .d (.int a)] S = some (.int a, S) := by
  have e : evSs (callF P k) B_need (startE 2 [.d (.bl false), .d (.int a)]) S = some (.xc (.int a) S) := by
    show evSs (callF P k) B_need [some (.d (.bl false)), some (.d (.int a))] S = _
    simp [B_need, evSs, evS, evE, evEs, evZ, evO, evI, evT, evTo, rd_d, fz_d, b_add, b_sub, b_mul, b_div, b_mod, b_p18, b_p8, b_p7, b_p6, c_lt, c_le, c_gt, c_ge, c_eq, c_ne, c_eqs, c_nes, c_nes0, c_nes1, c_eqs0, c_eqs1, l_t, l_l, bi_i, bi_max, bi_min, bi_tl, bi_tt, ix_l, ix_t, m_nil, m_cons, at0, at1, at2, flatD, seqOf, isNonW, fin, evX, ha]
  refine ⟨?_, ?_⟩
  · rw [callF_eq h rfl (by decide), e]; rfl
  · rw [callX_eq h rfl (by decide), e]
    show some (D.int a, S.take S.length) = _
    rw [List.take_length]
inductive Rz (P : Nat → Option Fn) (k f : Nat) (ws : List W) (S : Store) : Out → Prop where
  | rt {d : D} {S' : Store} (h : callF P k f ws S = some (d, S')) : Rz P k f ws S (.rt d S')
  | xc {d : D} {S' : Store} (h : callF P k f ws S = none) (h' : (callF P k).x f ws S = some (d, S')) : Rz P k f ws S (.xc d S')
theorem Rz.ev {ws : List W} {S1 : Store} {o : Out} {as : Es} {ρ : En} (h : Rz P k f ws S1 o) (e : evEs (callF P k) as ρ S = some (ws, S1)) : evX (callF P k) (.call f as) ρ S = some o := by
  cases h with
  | rt h => simp only [evX, e, Option.bind_some, h]
  | xc h h' => simp only [evX, e, Option.bind_some, h, h', Option.map_some]
theorem Rz.of {q : Fn} {ws : List W} {ρ : En} {o : Out} (h : P f = some q) (h1 : ws.length = q.ar) (h2 : q.ar ≤ q.sl) (hρ : startE q.sl ws = ρ) (e : evSs (callF P k) q.body ρ S = some o) :
    match o with
    | .rt d S' => Rz P (k + 1) f ws S (.rt d (S'.take S.length))
    | .xc d S' => Rz P (k + 1) f ws S (.xc d (S'.take S.length))
    | _ => True := by
  subst hρ
  cases o with
  | rt d S' => exact .rt (by rw [callF_eq h h1 h2, e]; rfl)
  | xc d S' => exact .xc (by rw [callF_eq h h1 h2, e]; rfl) (by rw [callX_eq h h1 h2, e]; rfl)
  | _ => trivial
def okV : D → Bool
  | .dK _ _ => false | .dT _ _ => false | .fn _ => false | .scr _ => false
  | _ => true
def isI : D → Bool
  | .int _ => true
  | _ => false
theorem integer_ok {d : D} (h : P f = some ⟨1, 1, B_is_integer⟩) (hd : okV d = true) : callF P (k + 1) f [.d d] S = some (.bl (isI d), S) := by
  rw [callF_b h rfl (by decide)]
  show (evSs (callF P k) B_is_integer [some (.d d)] S).bind _ = _
  cases d <;> first
    | (simp [okV] at hd; done)
    | simp [B_is_integer, evSs, evS, evE, evEs, evZ, evO, evI, evT, evTo, rd_d, fz_d, b_add, b_sub, b_mul, b_div, b_mod, b_p18, b_p8, b_p7, b_p6, c_lt, c_le, c_gt, c_ge, c_eq, c_ne, c_eqs, c_nes, c_nes0, c_nes1, c_eqs0, c_eqs1, l_t, l_l, bi_i, bi_max, bi_min, bi_tl, bi_tt, ix_l, ix_t, m_nil, m_cons, at0, at1, at2, flatD, seqOf, isNonW, fin, evX, isi1, tyD, kB1, kB2, kB6, kB7, kB11, kB12, kB16, kB17, kB21, kB22, kB26, kB27, isI]
def isW (lo hi : Int) : D → Bool
  | .int i => decide (lo ≤ i) && decide (i ≤ hi)
  | _ => false
theorem within_ok {d : D} {lo hi : Int} (h : P f = some ⟨3, 3, B_is_within g⟩) (h1 : P g = some ⟨1, 1, B_is_integer⟩) (hd : okV d = true) : callF P (k + 2) f [.d d, .d (.int lo), .d (.int hi)] S = some (.bl (isW lo hi d), S) := by
  have e := integer_ok (k := k) (S := S) h1 hd
  rw [callF_b h rfl (by decide)]
  show (evSs (callF P (k + 1)) (B_is_within g) [some (.d d), some (.d (.int lo)), some (.d (.int hi))] S).bind _ = _
  cases d <;> first
    | (simp [okV] at hd; done)
    | simp [B_is_within, evSs, evS, evE, evEs, evZ, evO, evI, evT, evTo, rd_d, fz_d, b_add, b_sub, b_mul, b_div, b_mod, b_p18, b_p8, b_p7, b_p6, c_lt, c_le, c_gt, c_ge, c_eq, c_ne, c_eqs, c_nes, c_nes0, c_nes1, c_eqs0, c_eqs1, l_t, l_l, bi_i, bi_max, bi_min, bi_tl, bi_tt, ix_l, ix_t, m_nil, m_cons, at0, at1, at2, flatD, seqOf, isNonW, fin, evX, e, isI, isW]
  rename_i i
  by_cases h1 : lo ≤ i <;> simp [h1, evSs, evS, evE, evEs, evZ, evO, evI, evT, evTo, rd_d, fz_d, b_add, b_sub, b_mul, b_div, b_mod, b_p18, b_p8, b_p7, b_p6, c_lt, c_le, c_gt, c_ge, c_eq, c_ne, c_eqs, c_nes, c_nes0, c_nes1, c_eqs0, c_eqs1, l_t, l_l, bi_i, bi_max, bi_min, bi_tl, bi_tt, ix_l, ix_t, m_nil, m_cons, at0, at1, at2, flatD, seqOf, isNonW, fin, evX]
theorem second_ok {d : D} {g' : Nat} (h0 : P f = some ⟨1, 1, B_is_second g⟩) (h : P g = some ⟨3, 3, B_is_within g'⟩) (h1 : P g' = some ⟨1, 1, B_is_integer⟩) (hd : okV d = true) : callF P (k + 3) f [.d d] S = some (.bl (isW 0 100000000 d), S) := by
  have e := within_ok (k := k) (S := S) (lo := 0) (hi := 100000000) h h1 hd
  rw [callF_b h0 rfl (by decide)]
  show (evSs (callF P (k + 2)) (B_is_second g) [some (.d d)] S).bind _ = _
  simp [B_is_second, evSs, evS, evE, evEs, evZ, evO, evI, evT, evTo, rd_d, fz_d, b_add, b_sub, b_mul, b_div, b_mod, b_p18, b_p8, b_p7, b_p6, c_lt, c_le, c_gt, c_ge, c_eq, c_ne, c_eqs, c_nes, c_nes0, c_nes1, c_eqs0, c_eqs1, l_t, l_l, bi_i, bi_max, bi_min, bi_tl, bi_tt, ix_l, ix_t, m_nil, m_cons, at0, at1, at2, flatD, seqOf, isNonW, fin, evX, e]
def Sq (d : D) (ds : List D) : Prop := d = .lst ds ∨ d = .tup ds
theorem isi2_sq {d : D} {ds : List D} (h : Sq d ds) : isi2 d "list" "tuple" = some true := by
  rcases h with rfl | rfl <;> simp [isi2, isi1, tyD, kB19, kB24, kB25]
theorem rows_ok {d : D} {ds : List D} {lo hi : Int} (h : P f = some ⟨3, 3, B_is_rows⟩) (hd : Sq d ds) : callF P (k + 1) f [.d d, .d (.int lo), .d (.int hi)] S = some (.bl (decide (lo ≤ ds.length) && decide ((ds.length : Int) ≤ hi)), S) := by
  have e := isi2_sq hd
  rw [callF_b h rfl (by decide)]
  show (evSs (callF P k) B_is_rows [some (.d d), some (.d (.int lo)), some (.d (.int hi))] S).bind _ = _
  by_cases h1 : lo ≤ (ds.length : Int)
  · rcases hd with rfl | rfl <;> simp [B_is_rows, evSs, evS, evE, evEs, evZ, evO, evI, evT, evTo, rd_d, fz_d, b_add, b_sub, b_mul, b_div, b_mod, b_p18, b_p8, b_p7, b_p6, c_lt, c_le, c_gt, c_ge, c_eq, c_ne, c_eqs, c_nes, c_nes0, c_nes1, c_eqs0, c_eqs1, l_t, l_l, bi_i, bi_max, bi_min, bi_tl, bi_tt, ix_l, ix_t, m_nil, m_cons, at0, at1, at2, flatD, seqOf, isNonW, fin, evX, e, h1]
  · rcases hd with rfl | rfl <;> simp [B_is_rows, evSs, evS, evE, evEs, evZ, evO, evI, evT, evTo, rd_d, fz_d, b_add, b_sub, b_mul, b_div, b_mod, b_p18, b_p8, b_p7, b_p6, c_lt, c_le, c_gt, c_ge, c_eq, c_ne, c_eqs, c_nes, c_nes0, c_nes1, c_eqs0, c_eqs1, l_t, l_l, bi_i, bi_max, bi_min, bi_tl, bi_tt, ix_l, ix_t, m_nil, m_cons, at0, at1, at2, flatD, seqOf, isNonW, fin, evX, e, h1]
theorem blsOf_map (p : D → Bool) : ∀ ds : List D, blsOf (ds.map fun d => .bl (p d)) = some (ds.map p)
  | [] => rfl
  | d :: ds => by simp [blsOf, blsOf_map p ds]
theorem all_bls (p : D → Bool) (ds : List D) : biRun .all [.lst (ds.map fun d => .bl (p d))] = some (.bl (ds.all p)) := by
  simp [biRun, blsOf_map]
theorem rows_of_ok {d : D} {ds : List D} {lo hi : Int} {m : Nat} {p : D → Bool} (h : P f = some ⟨4, 5, B_is_rows_of g⟩) (h1 : P g = some ⟨3, 3, B_is_rows⟩) (hd : Sq d ds) (hl : ds.length ≤ sizeLine)
    (hm : ∀ x ∈ ds, callF P (k + 1) m [.d x] S = some (.bl (p x), S)) : callF P (k + 2) f [.d d, .d (.int lo), .d (.int hi), .d (.fn m)] S = some (.bl ((decide (lo ≤ ds.length) && decide ((ds.length : Int) ≤ hi)) && ds.all p), S) := by
  have e := rows_ok (k := k) (S := S) (lo := lo) (hi := hi) h1 hd
  rw [callF_b h rfl (by decide)]
  show (evSs (callF P (k + 1)) (B_is_rows_of g) [some (.d d), some (.d (.int lo)), some (.d (.int hi)), some (.d (.fn m)), none] S).bind _ = _
  have c1 := compL_map (f := fun d' S => (asgn (.name 4) d' (wipeE [some (.d d), some (.d (.int lo)), some (.d (.int hi)), some (.d (.fn m)), none] [4])).bind fun ρ' => (evTo (callF P (k + 1)) .none ρ' S).bind fun q => if q.1 = true then (evE (callF P (k + 1)) (.callv 3 (.cons (.var 4) .nil)) ρ' q.2).bind fun w => (fzW w.1 w.2).map fun z => (some z.1, z.2) else some (none, q.2))
    (g := fun x => .bl (p x)) (S := S) (ds := ds) (acc := []) (fun x hx => by simp [wipeE, asgn, evSs, evS, evE, evEs, evZ, evO, evI, evT, evTo, rd_d, fz_d, b_add, b_sub, b_mul, b_div, b_mod, b_p18, b_p8, b_p7, b_p6, c_lt, c_le, c_gt, c_ge, c_eq, c_ne, c_eqs, c_nes, c_nes0, c_nes1, c_eqs0, c_eqs1, l_t, l_l, bi_i, bi_max, bi_min, bi_tl, bi_tt, ix_l, ix_t, m_nil, m_cons, at0, at1, at2, flatD, seqOf, isNonW, fin, evX, hm x hx]) (by simpa using hl)
  have hc := e_comp (c := callF P (k + 1)) (vs := [4]) (tg := .name 4) (it := .seq (.var 0)) (cond := .none) (elt := .callv 3 (.cons (.var 4) .nil)) (ρ := [some (.d d), some (.d (.int lo)), some (.d (.int hi)), some (.d (.fn m)), none]) (S := S) (S1 := S) (ds := ds) rfl (by rcases hd with rfl | rfl <;> simp [evSs, evS, evE, evEs, evZ, evO, evI, evT, evTo, rd_d, fz_d, b_add, b_sub, b_mul, b_div, b_mod, b_p18, b_p8, b_p7, b_p6, c_lt, c_le, c_gt, c_ge, c_eq, c_ne, c_eqs, c_nes, c_nes0, c_nes1, c_eqs0, c_eqs1, l_t, l_l, bi_i, bi_max, bi_min, bi_tl, bi_tt, ix_l, ix_t, m_nil, m_cons, at0, at1, at2, flatD, seqOf, isNonW, fin, evX]) c1
  unfold B_is_rows_of
  refine rt_fin (ss_rt (x_ret ?_)) rfl
  have e2 : evE (callF P (k + 1)) (.bi .all (.cons (.comp [4] (.name 4) (.seq (.var 0)) (.none) (.callv 3 (.cons (.var 4) (.nil)))) (.nil))) [some (.d d), some (.d (.int lo)), some (.d (.int hi)), some (.d (.fn m)), none] S = some (.d (.bl (ds.all p)), S) := by
    rw [evE]
    simp only [evEs, hc, Option.bind_some, Option.map_some, m_cons, m_nil, rd_d, List.nil_append, all_bls]
  have e3 : evE (callF P (k + 1)) (.call g (.cons (.var 0) (.cons (.var 1) (.cons (.var 2) (.nil))))) [some (.d d), some (.d (.int lo)), some (.d (.int hi)), some (.d (.fn m)), none] S = some (.d (.bl (decide (lo ≤ ds.length) && decide ((ds.length : Int) ≤ hi))), S) := by
    simp [evSs, evS, evE, evEs, evZ, evO, evI, evT, evTo, rd_d, fz_d, b_add, b_sub, b_mul, b_div, b_mod, b_p18, b_p8, b_p7, b_p6, c_lt, c_le, c_gt, c_ge, c_eq, c_ne, c_eqs, c_nes, c_nes0, c_nes1, c_eqs0, c_eqs1, l_t, l_l, bi_i, bi_max, bi_min, bi_tl, bi_tt, ix_l, ix_t, m_nil, m_cons, at0, at1, at2, flatD, seqOf, isNonW, fin, evX, e]
  rw [evE, e3]
  simp only [Option.bind_some]
  cases hb : (decide (lo ≤ ds.length) && decide ((ds.length : Int) ≤ hi)) with
  | true => simp only [e2, Bool.true_and]
  | false => simp only [Bool.false_and]
def Asc (ns : List Int) : Prop := ∀ (i : Nat) a b, ns[i]? = some a → ns[i + 1]? = some b → a < b
end
end Pv

set_option Elab.async false
set_option linter.all false
set_option maxRecDepth 100000
set_option maxHeartbeats 1000000
namespace Pv
open PySem L2
def B_is_start (i_is_within i_is_word i_is_rows : Nat) : Ss := .cons (.ret (.and (.call i_is_rows (.cons (.var 0) (.cons (.cst (.int 2)) (.cons (.cst (.int 2)) (.nil))))) (.and (.call i_is_within (.cons (.ix (.var 0) (.cst (.int 0))) (.cons (.cst (.int 0)) (.cons (.bin .sub (.cst (.int 86400)) (.cst (.int 1))) (.nil))))) (.call i_is_word (.cons (.ix (.var 0) (.cst (.int 1))) (.nil)))))) (.nil)
def B_is_day (i_is_rows_of i_is_ascending i_is_start : Nat) : Ss := .cons (.ifs (.not (.val (.call i_is_rows_of (.cons (.var 0) (.cons (.cst (.int 1)) (.cons (.cst (.int 8)) (.cons (.fnv i_is_start) (.nil)))))))) (.cons (.ret (.cst (.bl false))) (.nil)) (.nil)) (.cons (.asg (.name 1) (.comp [2] (.name 2) (.seq (.var 0)) (.none) (.ix (.var 2) (.cst (.int 0))))) (.cons (.ret (.and (.cmp .eq (.ix (.var 1) (.cst (.int 0))) (.cst (.int 0))) (.call i_is_ascending (.cons (.var 1) (.nil))))) (.nil)))
def B_is_feast (i_is_within : Nat) : Ss := .cons (.ret (.call i_is_within (.cons (.var 0) (.cons (.cst (.int 0)) (.cons (.cst (.int 1000)) (.nil)))))) (.nil)
def B_is_week (i_is_rows i_is_rows_of i_is_ascending i_is_day i_is_feast : Nat) : Ss := .cons (.ifs (.not (.val (.call i_is_rows (.cons (.var 0) (.cons (.cst (.int 2)) (.cons (.cst (.int 2)) (.nil))))))) (.cons (.ret (.cst (.bl false))) (.nil)) (.nil)) (.cons (.asg (.tup (.tcons (.name 1) (.tcons (.name 2) (.tnil)))) (.var 0)) (.cons (.ifs (.not (.val (.call i_is_rows_of (.cons (.var 1) (.cons (.cst (.int 8)) (.cons (.cst (.int 8)) (.cons (.fnv i_is_day) (.nil)))))))) (.cons (.ret (.cst (.bl false))) (.nil)) (.nil)) (.cons (.ret (.and (.call i_is_rows_of (.cons (.var 2) (.cons (.cst (.int 0)) (.cons (.cst (.int 20)) (.cons (.fnv i_is_feast) (.nil)))))) (.call i_is_ascending (.cons (.var 2) (.nil))))) (.nil))))
def B_day_of : Ss := .cons (.asg (.tup (.tcons (.name 2) (.tcons (.name 3) (.tnil)))) (.var 0)) (.cons (.ret (.ite (.val (.cmp .inn (.var 1) (.var 3))) (.ix (.var 2) (.cst (.int 7))) (.ix (.var 2) (.bin .mod (.var 1) (.cst (.int 7)))))) (.nil))
def B_law_day_row : Ss := .cons (.ret (.ix (.ix (.var 0) (.cst (.int 0))) (.ite (.val (.cmp .inn (.var 1) (.ix (.var 0) (.cst (.int 1))))) (.cst (.int 7)) (.bin .sub (.var 1) (.bin .mul (.bin .div (.var 1) (.cst (.int 7))) (.cst (.int 7))))))) (.nil)
section
variable {P : Nat → Option Fn} {k f g : Nat} {S : Store}
def wordB (w : Str) : Bool := (decide (w.length ≤ 8) && decide (1 ≤ w.length)) && (Txt.isascii w && (Txt.isalpha w && Txt.islower w))
abbrev St := Int × Str
structure StOk (p : St) : Prop where
  lo : 0 ≤ p.1
  hi : p.1 < 86400
  word : wordB p.2 = true
structure DayOk (r : List St) : Prop where
  len : r.length ≤ 8
  head : ∃ w t, r = (0, w) :: t
  asc : Asc (r.map Prod.fst)
  each : ∀ p ∈ r, StOk p
structure WeekOk (days : List (List St)) (feasts : List Int) : Prop where
  len : days.length = 8
  each : ∀ r ∈ days, DayOk r
  flen : feasts.length ≤ 20
  fasc : Asc feasts
  feach : ∀ x ∈ feasts, 0 ≤ x ∧ x ≤ 1000
end
end Pv

set_option Elab.async false
set_option linter.all false
set_option maxRecDepth 100000
set_option maxHeartbeats 1000000
namespace Pv
open PySem L2
def B_band_at (i_day_of : Nat) : Ss := .cons (.asg (.name 2) (.cst .non)) (.cons (.forS (.tup (.tcons (.name 3) (.tcons (.name 4) (.tnil)))) (.seq (.call i_day_of (.cons (.var 0) (.cons (.bin .div (.var 1) (.cst (.int 86400))) (.nil))))) (.cons (.ifs (.val (.cmp .le (.var 3) (.bin .mod (.var 1) (.cst (.int 86400))))) (.cons (.asg (.name 2) (.var 4)) (.nil)) (.nil)) (.nil))) (.cons (.ret (.var 2)) (.nil)))
def B_band (i_need i_is_second i_is_week i_band_at : Nat) : Ss := .cons (.dropX (.call i_need (.cons (.call i_is_week (.cons (.var 0) (.nil))) (.cons (.cst (.int 0)) (.nil))))) (.cons (.dropX (.call i_need (.cons (.call i_is_second (.cons (.var 1) (.nil))) (.cons (.cst (.int 1)) (.nil))))) (.cons (.ret (.call i_band_at (.cons (.var 0) (.cons (.var 1) (.nil))))) (.nil)))
def B_law_band (i_law_day_row : Nat) : Ss := .cons (.asg (.name 2) (.cst .non)) (.cons (.forS (.tup (.tcons (.name 3) (.tcons (.name 4) (.tnil)))) (.seq (.call i_law_day_row (.cons (.var 0) (.cons (.bin .div (.var 1) (.cst (.int 86400))) (.nil))))) (.cons (.ifs (.val (.cmp .le (.var 3) (.bin .sub (.var 1) (.bin .mul (.bin .div (.var 1) (.cst (.int 86400))) (.cst (.int 86400)))))) (.cons (.asg (.name 2) (.var 4)) (.nil)) (.nil)) (.nil))) (.cons (.ret (.var 2)) (.nil)))
section
variable {P : Nat → Option Fn} {k f g : Nat} {S : Store}
theorem getD_at {α : Type} {l : List α} {j : Nat} {d : α} (h : j < l.length) : l[j]? = some (l.getD j d) := by
  simp [List.getD_eq_getElem?_getD, h]
def rowAt (days : List (List St)) (feasts : List Int) (n : Int) : List St := if n ∈ feasts then days.getD 7 [] else days.getD (n % 7).toNat []
theorem rowAt_mem {days : List (List St)} {feasts : List Int} {n : Int} (h : days.length = 8) : rowAt days feasts n ∈ days := by
  have h0 : 0 ≤ n % 7 := Int.emod_nonneg _ (by decide)
  have h1 : n % 7 < 7 := Int.emod_lt_of_pos _ (by decide)
  have : ∀ j, j < days.length → days.getD j [] ∈ days := fun j hj => by
    exact List.mem_of_getElem? (getD_at hj)
  unfold rowAt
  split
  · exact this _ (by omega)
  · exact this _ (by omega)
def bandR (s : Int) : List St → D → D
  | [], b => b
  | p :: t, b => bandR s t (if p.1 ≤ s then .str p.2 else b)
def bandOf (days : List (List St)) (feasts : List Int) (x : Int) : D := bandR (x % 86400) (rowAt days feasts (x / 86400)) .non
theorem x_for' {c : Call} {tg : Tg} {it : It} {body : Ss} {ρ : En} {S S1 : Store} {ds : List D} {r : Option Out} (hi : evI c it ρ S = some (ds, S1)) (h : forL (fun d ρ S => (asgn tg d ρ).bind fun ρ' => evSs c body ρ' S) ds ρ S1 = r) : evS c (.forS tg it body) ρ S = r := by
  simp only [evS, hi, Option.bind_some, h]
end
end Pv

set_option Elab.async false
set_option linter.all false
set_option maxRecDepth 100000
set_option maxHeartbeats 1000000
namespace Pv
open PySem L2
def B_next_change (i_need i_is_second i_is_week i_day_of i_band_at : Nat) : Ss := .cons (.dropX (.call i_need (.cons (.call i_is_week (.cons (.var 0) (.nil))) (.cons (.cst (.int 0)) (.nil))))) (.cons (.dropX (.call i_need (.cons (.call i_is_second (.cons (.var 1) (.nil))) (.cons (.cst (.int 1)) (.nil))))) (.cons (.asg (.name 2) (.call i_band_at (.cons (.var 0) (.cons (.var 1) (.nil))))) (.cons (.forS (.name 3) (.r2 (.bin .div (.var 1) (.cst (.int 86400))) (.bin .add (.bin .div (.cst (.int 100000000)) (.cst (.int 86400))) (.cst (.int 1)))) (.cons (.forS (.tup (.tcons (.name 4) (.tcons (.name 5) (.tnil)))) (.seq (.call i_day_of (.cons (.var 0) (.cons (.var 3) (.nil))))) (.cons (.asg (.name 6) (.bin .add (.bin .mul (.var 3) (.cst (.int 86400))) (.var 4))) (.cons (.ifs (.and (.val (.cmp .gt (.var 6) (.var 1))) (.val (.cmp .ne (.var 5) (.var 2)))) (.cons (.ret (.ite (.val (.cmp .le (.var 6) (.cst (.int 100000000)))) (.var 6) (.cst .non))) (.nil)) (.nil)) (.nil)))) (.nil))) (.cons (.ret (.cst .non)) (.nil)))))
def B_law_next_change (i_law_day_row i_law_band : Nat) : Ss := .cons (.asg (.name 2) (.call i_law_band (.cons (.var 0) (.cons (.var 1) (.nil))))) (.cons (.forS (.name 3) (.r2 (.bin .div (.var 1) (.cst (.int 86400))) (.bin .add (.bin .div (.bin .pow (.cst (.int 10)) (.cst (.int 8))) (.cst (.int 86400))) (.cst (.int 1)))) (.cons (.forS (.tup (.tcons (.name 4) (.tcons (.name 5) (.tnil)))) (.seq (.call i_law_day_row (.cons (.var 0) (.cons (.var 3) (.nil))))) (.cons (.asg (.name 6) (.bin .add (.bin .mul (.var 3) (.cst (.int 86400))) (.var 4))) (.cons (.ifs (.and (.val (.chain .lt .le (.var 1) (.var 6) (.bin .pow (.cst (.int 10)) (.cst (.int 8))))) (.val (.cmp .ne (.var 5) (.var 2)))) (.cons (.ret (.var 6)) (.nil)) (.nil)) (.nil)))) (.cons (.ifs (.val (.cmp .gt (.var 3) (.bin .add (.bin .div (.var 1) (.cst (.int 86400))) (.cst (.int 2100))))) (.cons (.brk) (.nil)) (.nil)) (.nil)))) (.cons (.ret (.cst .non)) (.nil)))
structure Ix where
  need : Nat
  int : Nat
  within : Nat
  word : Nat
  sec : Nat
  rows : Nat
  rowsOf : Nat
  asc : Nat
  start : Nat
  day : Nat
  feast : Nat
  week : Nat
  dayOf : Nat
  bandAt : Nat
structure IxB (P : Nat → Option Fn) (x : Ix) : Prop where
  need : P x.need = some ⟨2, 2, B_need⟩
  int : P x.int = some ⟨1, 1, B_is_integer⟩
  within : P x.within = some ⟨3, 3, B_is_within x.int⟩
  word : P x.word = some ⟨1, 1, B_is_word⟩
  sec : P x.sec = some ⟨1, 1, B_is_second x.within⟩
  rows : P x.rows = some ⟨3, 3, B_is_rows⟩
  rowsOf : P x.rowsOf = some ⟨4, 5, B_is_rows_of x.rows⟩
  asc : P x.asc = some ⟨1, 2, B_is_ascending⟩
  start : P x.start = some ⟨1, 1, B_is_start x.within x.word x.rows⟩
  day : P x.day = some ⟨1, 3, B_is_day x.rowsOf x.asc x.start⟩
  feast : P x.feast = some ⟨1, 1, B_is_feast x.within⟩
  week : P x.week = some ⟨1, 3, B_is_week x.rows x.rowsOf x.asc x.day x.feast⟩
  dayOf : P x.dayOf = some ⟨2, 4, B_day_of⟩
structure IxOk (P : Nat → Option Fn) (x : Ix) : Prop extends IxB P x where
  bandAt : P x.bandAt = some ⟨2, 5, B_band_at x.dayOf⟩
section
variable {P : Nat → Option Fn} {k f g : Nat} {S : Store} {x : Ix}
theorem Asc.tail {a : Int} {t : List Int} (h : Asc (a :: t)) : Asc t := fun i x y h1 h2 => h (i + 1) x y (by simpa using h1) (by simpa using h2)
theorem Asc.all {a : Int} {t : List Int} (h : Asc (a :: t)) : ∀ b ∈ t, a < b := by
  induction t generalizing a with
  | nil => intro b hb; simp at hb
  | cons c t ih =>
    intro b hb
    have hac : a < c := h 0 a c rfl rfl
    rcases List.mem_cons.mp hb with rfl | hb
    · exact hac
    · have := ih h.tail b hb
      omega
theorem bandR_str {s : Int} : ∀ {r : List St} {w : Str}, ∃ w', bandR s r (.str w) = .str w'
  | [], w => ⟨w, rfl⟩
  | p :: r, w => by
    show ∃ w', bandR s r _ = _
    by_cases h : p.1 ≤ s
    · rw [if_pos h]; exact bandR_str
    · rw [if_neg h]; exact bandR_str
theorem bandOf_str {days : List (List St)} {feasts : List Int} {x : Int} (hw : WeekOk days feasts) : ∃ w, bandOf days feasts x = .str w := by
  obtain ⟨w, t, e⟩ := (hw.each _ (rowAt_mem (n := x / 86400) hw.len)).head
  have h0 : 0 ≤ x % 86400 := Int.emod_nonneg _ (by decide)
  unfold bandOf
  rw [e]
  show ∃ w', bandR _ t (if (0 : Int) ≤ x % 86400 then D.str w else _) = _
  rw [if_pos h0]
  exact bandR_str
end
end Pv

set_option Elab.async false
set_option linter.all false
set_option maxRecDepth 100000
set_option maxHeartbeats 1000000
namespace Pv
open PySem L2
def B_stretches (i_day_of : Nat) : Ss := .cons (.newL 3 (.nil)) (.cons (.forS (.name 4) (.r2 (.bin .div (.var 1) (.cst (.int 86400))) (.bin .add (.bin .div (.var 2) (.cst (.int 86400))) (.cst (.int 1)))) (.cons (.asg (.name 5) (.call i_day_of (.cons (.var 0) (.cons (.var 4) (.nil))))) (.cons (.asg (.name 6) (.bin .add (.comp [7, 12] (.tup (.tcons (.name 7) (.tcons (.name 12) (.tnil)))) (.seq (.sl (.var 5) (.some (.cst (.int 1))) (.none))) (.none) (.var 7)) (.lst (.cons (.cst (.int 86400)) (.nil))))) (.cons (.forS (.tup (.tcons (.tup (.tcons (.name 7) (.tcons (.name 8) (.tnil)))) (.tcons (.name 9) (.tnil)))) (.zip (.var 5) (.var 6)) (.cons (.asg (.name 10) (.bi .max2 (.cons (.var 1) (.cons (.bin .add (.bin .mul (.var 4) (.cst (.int 86400))) (.var 7)) (.nil))))) (.cons (.asg (.name 11) (.bi .min2 (.cons (.var 2) (.cons (.bin .add (.bin .mul (.var 4) (.cst (.int 86400))) (.var 9)) (.nil))))) (.cons (.ifs (.val (.cmp .lt (.var 10) (.var 11))) (.cons (.app 3 (.tup (.cons (.var 10) (.cons (.var 11) (.cons (.var 8) (.nil)))))) (.nil)) (.nil)) (.nil))))) (.nil))))) (.cons (.ret (.var 3)) (.nil)))
def B_seconds_in (i_need i_is_word i_is_second i_is_week i_stretches : Nat) : Ss := .cons (.dropX (.call i_need (.cons (.call i_is_week (.cons (.var 0) (.nil))) (.cons (.cst (.int 0)) (.nil))))) (.cons (.dropX (.call i_need (.cons (.call i_is_second (.cons (.var 1) (.nil))) (.cons (.cst (.int 1)) (.nil))))) (.cons (.dropX (.call i_need (.cons (.call i_is_second (.cons (.var 2) (.nil))) (.cons (.cst (.int 2)) (.nil))))) (.cons (.dropX (.call i_need (.cons (.call i_is_word (.cons (.var 3) (.nil))) (.cons (.cst (.int 3)) (.nil))))) (.cons (.ret (.bi .sum (.cons (.comp [4, 5, 6] (.tup (.tcons (.name 4) (.tcons (.name 5) (.tcons (.name 6) (.tnil))))) (.seq (.call i_stretches (.cons (.var 0) (.cons (.var 1) (.cons (.var 2) (.nil)))))) (.some (.val (.cmp .eq (.var 6) (.var 3)))) (.bin .sub (.var 5) (.var 4))) (.nil)))) (.nil)))))
abbrev Pc := Int × Int × Str
inductive Chain : Int → Int → List Pc → Prop
  | nil {a : Int} : Chain a a []
  | cons {a e b : Int} {w : Str} {t : List Pc} : a ≤ e → Chain e b t → Chain a b ((a, e, w) :: t)
theorem Chain.le {a b : Int} {l : List Pc} (h : Chain a b l) : a ≤ b := by
  induction h with
  | nil => omega
  | cons h _ ih => omega
theorem Chain.append {a b c : Int} {l l' : List Pc} (h : Chain a b l) (h' : Chain b c l') : Chain a c (l ++ l') := by
  induction h with
  | nil => exact h'
  | cons q _ ih => exact .cons q (ih h')
def loF (f : Int) (p : Pc) : Int := if p.1 > f then p.1 else f
def hiF (l : Int) (p : Pc) : Int := if p.2.1 < l then p.2.1 else l
def ov (f l : Int) (p : Pc) : Int := if loF f p < hiF l p then hiF l p - loF f p else 0
end Pv

set_option Elab.async false
set_option linter.all false
set_option maxRecDepth 100000
set_option maxHeartbeats 1000000
namespace Pv
open PySem L2
section
variable {P : Nat → Option Fn} {k f g : Nat} {S : Store} {x : Ix}
end
end Pv

set_option Elab.async false
set_option linter.all false
set_option maxRecDepth 100000
set_option maxHeartbeats 1000000
namespace Pv
open PySem L2
section
variable {P : Nat → Option Fn} {k f g : Nat} {S : Store} {x : Ix}
theorem bandR_mem {s : Int} : ∀ {r : List St} {b : D}, bandR s r b = b ∨ ∃ p ∈ r, bandR s r b = .str p.2
  | [], _ => .inl rfl
  | p :: r, b => by
    show bandR s r (if p.1 ≤ s then .str p.2 else b) = b ∨ _
    by_cases h : p.1 ≤ s
    · rw [if_pos h]
      rcases bandR_mem (s := s) (r := r) (b := .str p.2) with e | ⟨q, hq, e⟩
      · exact .inr ⟨p, List.mem_cons_self, by show bandR s r (if p.1 ≤ s then .str p.2 else b) = _; rw [if_pos h]; exact e⟩
      · exact .inr ⟨q, List.mem_cons_of_mem _ hq, by show bandR s r (if p.1 ≤ s then .str p.2 else b) = _; rw [if_pos h]; exact e⟩
    · rw [if_neg h]
      rcases bandR_mem (s := s) (r := r) (b := b) with e | ⟨q, hq, e⟩
      · exact .inl e
      · exact .inr ⟨q, List.mem_cons_of_mem _ hq, by show bandR s r (if p.1 ≤ s then .str p.2 else b) = _; rw [if_neg h]; exact e⟩
theorem Sp.len {S0 S : Store} {n : Nat} (h : Sp S0 n S) : S.length = S0.length := by
  obtain ⟨_, _, rfl⟩ := h
  simp
end
end Pv

set_option Elab.async false
set_option linter.all false
set_option maxRecDepth 100000
set_option maxHeartbeats 1000000
namespace Pv
open PySem L2
def OkR {α : Type} (x : Option α) (Q : α → Prop) : Prop := ∃ a, x = some a ∧ Q a
theorem okR_bind {α β : Type} {x : Option α} {f : α → Option β} {Q : β → Prop} : OkR (x.bind f) Q ↔ OkR x fun a => OkR (f a) Q := by
  cases x with
  | none => simp [OkR]
  | some a => simp [OkR]
theorem okR_map {α β : Type} {x : Option α} {f : α → β} {Q : β → Prop} : OkR (x.map f) Q ↔ OkR x fun a => Q (f a) := by
  cases x with
  | none => simp [OkR]
  | some a => simp [OkR]
theorem okR_some {α : Type} {a : α} {Q : α → Prop} : OkR (some a) Q ↔ Q a := by simp [OkR]
theorem OkR.imp {α : Type} {x : Option α} {Q Q' : α → Prop} (h : OkR x Q) (i : ∀ a, Q a → Q' a) : OkR x Q' := let ⟨a, e, q⟩ := h; ⟨a, e, i a q⟩
theorem OkR.of {α : Type} {x : Option α} {a : α} {Q : α → Prop} (e : x = some a) (q : Q a) : OkR x Q := ⟨a, e, q⟩
def NxQ (c : Call) (ss : Ss) (Q : Out → Prop) : Out → Prop
  | .nx ρ S => OkR (evSs c ss ρ S) Q
  | o => Q o
theorem nx_nx {c : Call} {ss : Ss} {Q : Out → Prop} {ρ : En} {S : Store} : NxQ c ss Q (.nx ρ S) ↔ OkR (evSs c ss ρ S) Q := Iff.rfl
theorem nx_rt {c : Call} {ss : Ss} {Q : Out → Prop} {d : D} {S : Store} : NxQ c ss Q (.rt d S) ↔ Q (.rt d S) := Iff.rfl
theorem nx_bk {c : Call} {ss : Ss} {Q : Out → Prop} {ρ : En} {S : Store} : NxQ c ss Q (.bk ρ S) ↔ Q (.bk ρ S) := Iff.rfl
theorem nx_ct {c : Call} {ss : Ss} {Q : Out → Prop} {ρ : En} {S : Store} : NxQ c ss Q (.ct ρ S) ↔ Q (.ct ρ S) := Iff.rfl
theorem nx_xc {c : Call} {ss : Ss} {Q : Out → Prop} {d : D} {S : Store} : NxQ c ss Q (.xc d S) ↔ Q (.xc d S) := Iff.rfl
theorem ss_step {c : Call} {s : Pv.S} {ss : Ss} {ρ : En} {S : Store} {Q : Out → Prop} (h : OkR (evS c s ρ S) (NxQ c ss Q)) : OkR (evSs c (.cons s ss) ρ S) Q := by
  obtain ⟨o, e, q⟩ := h
  simp only [evSs, e, Option.bind_some]
  cases o with
  | nx ρ' S' => exact q
  | _ => exact ⟨_, rfl, q⟩
theorem ss_done {c : Call} {ρ : En} {S : Store} {Q : Out → Prop} (h : Q (.nx ρ S)) : OkR (evSs c .nil ρ S) Q := ⟨_, by simp only [evSs], h⟩
theorem def_ok {P : Nat → Option Fn} {k f : Nat} {ws : List W} {S : Store} {q : Fn} {ρ : En} {Q : D × Store → Prop} (h : P f = some q) (h1 : ws.length = q.ar) (h2 : q.ar ≤ q.sl) (hρ : startE q.sl ws = ρ)
    (e : OkR (evSs (callF P k) q.body ρ S) fun o => OkR (fin S.length o) Q) : OkR (callF P (k + 1) f ws S) Q := by
  obtain ⟨o, e1, e2⟩ := e
  rw [callF_eq h h1 h2, hρ, e1]
  exact e2
theorem fin_rt {n : Nat} {d : D} {S : Store} {Q : D × Store → Prop} (h : Q (d, S.take n)) : OkR (fin n (.rt d S)) Q := ⟨_, rfl, h⟩
theorem fin_rl {n : Nat} {d : D} {S : Store} {Q : D × Store → Prop} (hl : S.length = n) (h : Q (d, S)) : OkR (fin n (.rt d S)) Q := by
  refine fin_rt ?_
  rw [List.take_of_length_le (by omega)]
  exact h
theorem ifs_ok {c : Call} {t : T} {a b : Ss} {ρ : En} {S : Store} {Q : Out → Prop} (h : OkR (evT c t ρ S) fun p => if p.1 = true then OkR (evSs c a ρ p.2) Q else OkR (evSs c b ρ p.2) Q) : OkR (evS c (.ifs t a b) ρ S) Q := by
  obtain ⟨⟨x, S1⟩, e, q⟩ := h
  simp only [evS, e, Option.bind_some]
  cases x with
  | true => simpa using q
  | false => simpa using q
theorem for_ok {c : Call} {tg : Tg} {it : It} {body : Ss} {ρ : En} {S : Store} {Q : Out → Prop} (h : OkR (evI c it ρ S) fun p => OkR (forL (fun d ρ S => (asgn tg d ρ).bind fun ρ' => evSs c body ρ' S) p.1 ρ p.2) Q) : OkR (evS c (.forS tg it body) ρ S) Q := by
  obtain ⟨⟨x, S1⟩, e, q⟩ := h
  simp only [evS, e, Option.bind_some]
  exact q
theorem loop_ok {f : D → En → Store → Option Out} {ds : List D} {Q : Out → Prop} (I : Nat → En → Store → Prop) {ρ : En} {S : Store} (h0 : I 0 ρ S)
    (hs : ∀ (i : Nat) d ρ S, ds[i]? = some d → I i ρ S → OkR (f d ρ S) (Next (I (i + 1)) Q)) (he : ∀ ρ S, I ds.length ρ S → Q (.nx ρ S)) : OkR (forL f ds ρ S) Q :=
  forL_gen I h0 (fun i d ρ S hd h => hs i d ρ S hd h) he
theorem next_nx {I : En → Store → Prop} {Z : Out → Prop} {ρ : En} {S : Store} : Next I Z (.nx ρ S) ↔ I ρ S := Iff.rfl
theorem next_ct {I : En → Store → Prop} {Z : Out → Prop} {ρ : En} {S : Store} : Next I Z (.ct ρ S) ↔ I ρ S := Iff.rfl
theorem next_bk {I : En → Store → Prop} {Z : Out → Prop} {ρ : En} {S : Store} : Next I Z (.bk ρ S) ↔ Z (.nx ρ S) := Iff.rfl
theorem next_rt {I : En → Store → Prop} {Z : Out → Prop} {d : D} {S : Store} : Next I Z (.rt d S) ↔ Z (.rt d S) := Iff.rfl
theorem comp_ok {c : Call} {vs : List Nat} {tg : Tg} {it : It} {elt : E} {ρ : En} {S : Store} {Q : W × Store → Prop} (ht : tgIn tg vs = true) (R : D → D → Prop) (J : Store → Prop)
    (h : OkR (evI c it ρ S) fun p => J p.2 ∧ p.1.length ≤ sizeLine ∧ (∀ d ∈ p.1, ∀ S, J S → OkR (asgn tg d (wipeE ρ vs)) fun ρ' => OkR (evE c elt ρ' S) fun w => OkR (fzW w.1 w.2) fun z => R z.1 d ∧ J z.2) ∧
      ∀ ds' S', All2 R ds' p.1 → J S' → Q (.d (.lst ds'), S')) : OkR (evE c (.comp vs tg it .none elt) ρ S) Q := by
  obtain ⟨⟨ds, S1⟩, e1, hJ, hl, hs, k⟩ := h
  obtain ⟨ds', S2, e2, r, j2⟩ := compL_all (f := fun d S => (asgn tg d (wipeE ρ vs)).bind fun ρ' => (evTo c .none ρ' S).bind fun q => if q.1 = true then (evE c elt ρ' q.2).bind fun w => (fzW w.1 w.2).map fun z => (some z.1, z.2) else some (none, q.2))
    (R := R) (J := J) (acc := []) (fun d hd S hS => by
      obtain ⟨ρ', a1, w, a2, z, a3, a4, a5⟩ := hs d hd S hS
      exact ⟨z.1, z.2, by simp only [a1, Option.bind_some, evTo, if_true, a2, a3, Option.map_some], a4, a5⟩) hJ (by simpa using hl)
  refine ⟨_, e_comp ht e1 e2, ?_⟩
  simpa using k ds' S2 r j2
theorem ee_var {cc : Call} {ρ : En} {S : Store} {i : Nat} : evE cc (.var i) ρ S = (match ρ[i]? with
    | some (some w) => some (w, S)
    | _ => none) := by first | (simp only [evE]; done) | (simp only [evE]; rfl)
theorem ee_cst {cc : Call} {ρ : En} {S : Store} {d : D} : evE cc (.cst d) ρ S = (if flatD d then some (.d d, S) else none) := by first | (simp only [evE]; done) | (simp only [evE]; rfl)
theorem ee_fnv {cc : Call} {ρ : En} {S : Store} {f : Nat} : evE cc (.fnv f) ρ S = (some (.d (.fn f), S)) := by first | (simp only [evE]; done) | (simp only [evE]; rfl)
theorem ee_bin {cc : Call} {ρ : En} {S : Store} {o : BOp} {a : E} {b : E} : evE cc (.bin o a b) ρ S = ((evE cc a ρ S).bind fun (x, S) => (evE cc b ρ S).bind fun (y, S) => (rdW x S).bind fun x => (rdW y S).bind fun y => (bRun o x y).map fun z => (.d z, S)) := by first | (simp only [evE]; done) | (simp only [evE]; rfl)
theorem ee_fz {cc : Call} {ρ : En} {S : Store} {a : E} : evE cc (.fz a) ρ S = ((evE cc a ρ S).bind fun (x, S) => (fzW x S).map fun (d, S) => (.d d, S)) := by first | rfl | (simp only [evE]; done)
theorem ee_neg {cc : Call} {ρ : En} {S : Store} {a : E} : evE cc (.neg a) ρ S = ((evE cc a ρ S).bind fun (x, S) => match x with
    | .d (.int i) => some (.d (.int (-i)), S)
    | _ => none) := by first | (simp only [evE]; done) | (simp only [evE]; rfl)
theorem ee_cmp {cc : Call} {ρ : En} {S : Store} {o : COp} {a : E} {b : E} : evE cc (.cmp o a b) ρ S = ((evE cc a ρ S).bind fun (x, S) => (evE cc b ρ S).bind fun (y, S) => (rdW x S).bind fun x => (rdW y S).bind fun y => (cRun o x y).map fun z => (.d (.bl z), S)) := by first | (simp only [evE]; done) | (simp only [evE]; rfl)
theorem ee_chain {cc : Call} {ρ : En} {S : Store} {o : COp} {o2 : COp} {a : E} {b : E} {k : E} : evE cc (.chain o o2 a b k) ρ S = ((evE cc a ρ S).bind fun (x, S) => (evE cc b ρ S).bind fun (y, S) => (rdW x S).bind fun x => (rdW y S).bind fun y' => (cRun o x y').bind fun z =>
      if z then (evE cc k ρ S).bind fun (w, S) => (rdW y S).bind fun y => (rdW w S).bind fun w => (cRun o2 y w).map fun z => (.d (.bl z), S) else some (.d (.bl false), S)) := by first | (simp only [evE]; done) | (simp only [evE]; rfl)
theorem ee_isN {cc : Call} {ρ : En} {S : Store} {a : E} : evE cc (.isN a) ρ S = ((evE cc a ρ S).map fun (x, S) => (.d (.bl (isNonW x)), S)) := by first | (simp only [evE]; done) | (simp only [evE]; rfl)
theorem ee_notN {cc : Call} {ρ : En} {S : Store} {a : E} : evE cc (.notN a) ρ S = ((evE cc a ρ S).map fun (x, S) => (.d (.bl (!isNonW x)), S)) := by first | (simp only [evE]; done) | (simp only [evE]; rfl)
theorem ee_and {cc : Call} {ρ : En} {S : Store} {a : E} {b : E} : evE cc (.and a b) ρ S = ((evE cc a ρ S).bind fun (x, S) => match x with
    | .d (.bl true) => evE cc b ρ S
    | .d (.bl false) => some (.d (.bl false), S)
    | _ => none) := by first | (simp only [evE]; done) | (simp only [evE]; rfl)
theorem ee_or {cc : Call} {ρ : En} {S : Store} {a : E} {b : E} : evE cc (.or a b) ρ S = ((evE cc a ρ S).bind fun (x, S) => match x with
    | .d (.bl false) => evE cc b ρ S
    | .d (.bl true) => some (.d (.bl true), S)
    | _ => none) := by first | (simp only [evE]; done) | (simp only [evE]; rfl)
theorem ee_not {cc : Call} {ρ : En} {S : Store} {a : E} : evE cc (.not a) ρ S = ((evE cc a ρ S).bind fun (x, S) => match x with
    | .d (.bl b) => some (.d (.bl (!b)), S)
    | _ => none) := by first | (simp only [evE]; done) | (simp only [evE]; rfl)
theorem ee_ite {cc : Call} {ρ : En} {S : Store} {k : T} {a : E} {b : E} : evE cc (.ite k a b) ρ S = ((evT cc k ρ S).bind fun (x, S) => if x = true then evE cc a ρ S else evE cc b ρ S) := by first | (simp only [evE]; done) | (simp only [evE]; rfl)
theorem ee_call {cc : Call} {ρ : En} {S : Store} {f : Nat} {as : Es} : evE cc (.call f as) ρ S = ((evEs cc as ρ S).bind fun (ws, S) => (cc f ws S).map fun (d, S) => (.d d, S)) := by first | (simp only [evE]; done) | (simp only [evE]; rfl)
theorem ee_callv {cc : Call} {ρ : En} {S : Store} {i : Nat} {as : Es} : evE cc (.callv i as) ρ S = (match ρ[i]? with
    | some (some (.d (.fn f))) => (evEs cc as ρ S).bind fun (ws, S) => (cc f ws S).map fun (d, S) => (.d d, S)
    | _ => none) := by first | (simp only [evE]; done) | (simp only [evE]; rfl)
theorem ee_bi {cc : Call} {ρ : En} {S : Store} {b : Bi} {as : Es} : evE cc (.bi b as) ρ S = ((evEs cc as ρ S).bind fun (ws, S) => (ws.mapM fun w => rdW w S).bind fun ds => (biRun b ds).map fun d => (.d d, S)) := by first | (simp only [evE]; done) | (simp only [evE]; rfl)
theorem ee_isi1 {cc : Call} {ρ : En} {S : Store} {a : E} {t : String} : evE cc (.isi1 a t) ρ S = ((evE cc a ρ S).bind fun (x, S) => (rdW x S).bind fun x => (isi1 x t).map fun b => (.d (.bl b), S)) := by first | (simp only [evE]; done) | (simp only [evE]; rfl)
theorem ee_isi2 {cc : Call} {ρ : En} {S : Store} {a : E} {t : String} {u : String} : evE cc (.isi2 a t u) ρ S = ((evE cc a ρ S).bind fun (x, S) => (rdW x S).bind fun x => (isi2 x t u).map fun b => (.d (.bl b), S)) := by first | (simp only [evE]; done) | (simp only [evE]; rfl)
theorem ee_mt0 {cc : Call} {ρ : En} {S : Store} {m : Me} {a : E} : evE cc (.mt0 m a) ρ S = ((evE cc a ρ S).bind fun (x, S) => (rdW x S).bind fun x => (meRun0 m x).map fun d => (.d d, S)) := by first | (simp only [evE]; done) | (simp only [evE]; rfl)
theorem ee_mt1 {cc : Call} {ρ : En} {S : Store} {m : Me} {a : E} {b : E} : evE cc (.mt1 m a b) ρ S = ((evE cc a ρ S).bind fun (x, S) => (evE cc b ρ S).bind fun (y, S) => (rdW x S).bind fun x => (rdW y S).bind fun y => (meRun1 m x y).map fun d => (.d d, S)) := by first | (simp only [evE]; done) | (simp only [evE]; rfl)
theorem ee_ix {cc : Call} {ρ : En} {S : Store} {a : E} {i : E} : evE cc (.ix a i) ρ S = ((evE cc a ρ S).bind fun (x, S) => (evE cc i ρ S).bind fun (y, S) => (rdW x S).bind fun x => (rdW y S).bind fun y => (ixRun x y).map fun d => (.d d, S)) := by first | (simp only [evE]; done) | (simp only [evE]; rfl)
theorem ee_sl {cc : Call} {ρ : En} {S : Store} {a : E} {lo : Eo} {hi : Eo} : evE cc (.sl a lo hi) ρ S = ((evE cc a ρ S).bind fun (x, S) => (evO cc lo ρ S).bind fun (l, S) => (evO cc hi ρ S).bind fun (h, S) => (rdW x S).bind fun x => (slRun x l h).map fun d => (.d d, S)) := by first | (simp only [evE]; done) | (simp only [evE]; rfl)
theorem ee_dget {cc : Call} {ρ : En} {S : Store} {a k : E} : evE cc (.dget a k) ρ S = ((evE cc a ρ S).bind fun (x, S) => (evE cc k ρ S).bind fun (y, S) => (rdW x S).bind fun x => (rdW y S).bind fun y => (dLook x y).bind fun o => o.map fun d => (.d d, S)) := by first | (simp only [evE]; done) | (simp only [evE]; rfl)
theorem ee_din {cc : Call} {ρ : En} {S : Store} {k a : E} : evE cc (.din k a) ρ S = ((evE cc k ρ S).bind fun (y, S) => (evE cc a ρ S).bind fun (x, S) => (rdW x S).bind fun x => (rdW y S).bind fun y => (dLook x y).map fun o => (.d (.bl o.isSome), S)) := by first | (simp only [evE]; done) | (simp only [evE]; rfl)
theorem ee_get1 {cc : Call} {ρ : En} {S : Store} {a k : E} : evE cc (.get1 a k) ρ S = ((evE cc a ρ S).bind fun (x, S) => (rdW x S).bind fun x1 => if isDct x1 = true then (evE cc k ρ S).bind fun (y, S) => (rdW x S).bind fun x => (rdW y S).bind fun y => (dLook x y).map fun o => (.d (o.getD .non), S) else none) := by first | (simp only [evE]; done) | (simp only [evE]; rfl)
theorem ee_get2 {cc : Call} {ρ : En} {S : Store} {a k z : E} : evE cc (.get2 a k z) ρ S = ((evE cc a ρ S).bind fun (x, S) => (rdW x S).bind fun x1 => if isDct x1 = true then (evE cc k ρ S).bind fun (y, S) => (evE cc z ρ S).bind fun (w, S) => (rdW x S).bind fun x => (rdW y S).bind fun y => (dLook x y).map fun o => ((o.map W.d).getD w, S) else none) := by first | (simp only [evE]; done) | (simp only [evE]; rfl)
theorem ee_tup {cc : Call} {ρ : En} {S : Store} {as : Es} : evE cc (.tup as) ρ S = ((evZ cc as ρ S).bind fun (ds, S) => if ds.length ≤ sizeLine then some (.d (.tup ds), S) else none) := by first | (simp only [evE]; done) | (simp only [evE]; rfl)
theorem ee_lst {cc : Call} {ρ : En} {S : Store} {as : Es} : evE cc (.lst as) ρ S = ((evZ cc as ρ S).bind fun (ds, S) => if ds.length ≤ sizeLine then some (.d (.lst ds), S) else none) := by first | (simp only [evE]; done) | (simp only [evE]; rfl)
theorem b_m7 {i : Int} : bRun .mul (.int i) (.int 7) = some (.int (i * 7)) := b_mul (by decide) (by decide)
theorem b_m86400 {i : Int} : bRun .mul (.int i) (.int 86400) = some (.int (i * 86400)) := b_mul (by decide) (by decide)
theorem b_m1000000000 {i : Int} : bRun .mul (.int i) (.int 1000000000) = some (.int (i * 1000000000)) := b_mul (by decide) (by decide)
theorem b_m60 {i : Int} : bRun .mul (.int i) (.int 60) = some (.int (i * 60)) := b_mul (by decide) (by decide)
theorem b_m600 {i : Int} : bRun .mul (.int i) (.int 600) = some (.int (i * 600)) := b_mul (by decide) (by decide)
theorem b_d7 {i : Int} : bRun .div (.int i) (.int 7) = some (.int (i / 7)) := b_div (by decide) (by decide)
theorem b_d86400 {i : Int} : bRun .div (.int i) (.int 86400) = some (.int (i / 86400)) := b_div (by decide) (by decide)
theorem b_d1000 {i : Int} : bRun .div (.int i) (.int 1000) = some (.int (i / 1000)) := b_div (by decide) (by decide)
theorem b_p10_5 : bRun .pow (.int 10) (.int 5) = some (.int 100000) := (b_pow ⟨by decide, by decide, by decide⟩).trans (congrArg (fun x => some (D.int x)) (by decide : (10 : Int) ^ (5 : Int).toNat = 100000))
theorem b_p10_9 : bRun .pow (.int 10) (.int 9) = some (.int 1000000000) := (b_pow ⟨by decide, by decide, by decide⟩).trans (congrArg (fun x => some (D.int x)) (by decide : (10 : Int) ^ (9 : Int).toNat = 1000000000))
theorem b_p10_12 : bRun .pow (.int 10) (.int 12) = some (.int 1000000000000) := (b_pow ⟨by decide, by decide, by decide⟩).trans (congrArg (fun x => some (D.int x)) (by decide : (10 : Int) ^ (12 : Int).toNat = 1000000000000))
theorem b_p10_15 : bRun .pow (.int 10) (.int 15) = some (.int 1000000000000000) := (b_pow ⟨by decide, by decide, by decide⟩).trans (congrArg (fun x => some (D.int x)) (by decide : (10 : Int) ^ (15 : Int).toNat = 1000000000000000))
section
variable {P : Nat → Option Fn} {k f : Nat} {S : Store}
theorem take_ok {d n : Nat} {r : D} {lim : Int} {S0 : Store} {Q : D × Store → Prop} (hP : P f = some ⟨3, 3, B_law_take d⟩) (hD : P d = some ⟨3, 4, B_law_draw⟩) (hr : Row r) (hn : n < S0.length) (hS : Sp S0 n S) (hl : 0 < lim)
    (q : ∀ t S', 0 ≤ t → t < lim → Sp S0 n S' → Q (.int t, S')) : OkR (callF P (k + 2) f [.d r, .mu n, .d (.int lim)] S) Q := by
  obtain ⟨t, S', e, h0, h1, h2⟩ := take_ex (k := k) hP hD hr hn hS hl
  exact ⟨_, e, q t S' h0 h1 h2⟩
theorem wide_ok {g d n : Nat} {r : D} {lim : Int} {S0 : Store} {Q : D × Store → Prop} (hW : P f = some ⟨3, 6, B_law_wide g⟩) (hP : P g = some ⟨3, 3, B_law_take d⟩) (hD : P d = some ⟨3, 4, B_law_draw⟩) (hr : Row r) (hn : n < S0.length) (hS : Sp S0 n S) (hl : 0 < lim)
    (q : ∀ t S', 0 ≤ t → t < lim → Sp S0 n S' → Q (.int t, S')) : OkR (callF P (k + 3) f [.d r, .mu n, .d (.int lim)] S) Q := by
  obtain ⟨t, S', e, h0, h1, h2⟩ := wide_ex (k := k) hW hP hD hr hn hS hl
  exact ⟨_, e, q t S' h0 h1 h2⟩
theorem pick_ok {g d n : Nat} {r x : D} {ds : List D} {S0 : Store} {Q : D × Store → Prop} (hK : P f = some ⟨3, 3, B_law_pick g⟩) (hP : P g = some ⟨3, 3, B_law_take d⟩) (hD : P d = some ⟨3, 4, B_law_draw⟩) (hr : Row r) (hn : n < S0.length) (hS : Sp S0 n S)
    (hx : x = .lst ds ∨ x = .tup ds) (hne : ds ≠ []) (q : ∀ y S', y ∈ ds → Sp S0 n S' → Q (y, S')) : OkR (callF P (k + 3) f [.d r, .mu n, .d x] S) Q := by
  obtain ⟨t, S', e, h0, h1⟩ := pick_ex (k := k) hK hP hD hr hn hS hx hne
  exact ⟨_, e, q t S' h0 h1⟩
end
end Pv

set_option Elab.async false
set_option linter.all false
set_option maxRecDepth 100000
set_option maxHeartbeats 2000000
namespace Pv
open PySem L2
def negP (ns : List Int) (j : Nat) : D := .tup [.int (-(ns.getD j 0)), .int (j : Int)]
theorem zipIdx_range (n : Nat) : (List.range n).zipIdx = (List.range n).map fun j => (j, j) := by
  refine List.ext_getElem (by simp) fun i h1 h2 => ?_
  simp
theorem byNeg_pairs (ns : List Int) : ((List.range ns.length).map (negP ns)).mergeSort (PySem.W.dataLe false toPy) = (PvLm.byNeg ns).map (negP ns) := by
  have key : PvLm.byNeg ns = (((List.range ns.length).zipIdx).mergeSort (List.zipIdxLE (PySem.W.dataLe false fun j => PyData.int (-(ns.getD j 0))))).map (·.1) := List.mergeSort_zipIdx.symm
  have tot : ((List.range ns.length).mergeSort (PySem.W.dataLe false (fun j : Nat => PyData.tuple [.int (-(ns.getD j 0)), .int (j : Int)]))) = PvLm.byNeg ns := by
    rw [key, zipIdx_range, ← List.map_mergeSort (r := PySem.W.dataLe false (fun j : Nat => PyData.tuple [.int (-(ns.getD j 0)), .int (j : Int)])) (f := fun j => (j, j)), List.map_map]
    · exact (List.map_id _).symm
    · intro a _ b _
      rw [PySem.W.dataLe_ii (x := fun j : Nat => -(ns.getD j 0)) (y := fun j : Nat => (j : Int))]
      simp only [List.zipIdxLE, PySem.W.dataLe_int]
      generalize -(ns.getD a 0) = x
      generalize -(ns.getD b 0) = y
      by_cases h : x < y
      · have h2 : ¬ y ≤ x := by omega
        have h3 : x ≤ y := by omega
        simp [h, h2, h3]
      · by_cases e : x = y
        · subst e
          simp
        · have h2 : ¬ x ≤ y := by omega
          simp [h, h2, e]
  rw [← tot]
  refine (List.map_mergeSort fun a _ b _ => ?_).symm
  show _ = PySem.W.dataLe false toPy (negP ns a) (negP ns b)
  rfl
end Pv

set_option Elab.async false
set_option linter.all false
set_option maxRecDepth 100000
set_option maxHeartbeats 1000000
namespace Pv
open PySem L2
def Vt : Nat → D → Bool
  | n + 1, .tup ds => decide (ds.length ≤ sizeLine) && ds.all (Vt n)
  | n + 1, .lst ds => decide (ds.length ≤ sizeLine) && ds.all (Vt n)
  | _, .str w => decide (w.length ≤ sizeLine)
  | _, d => flatD d
def sqL : D → Option (List D)
  | .tup ds => some ds
  | .lst ds => some ds
  | _ => none
theorem sqL_sq {d : D} {ds : List D} (h : sqL d = some ds) : Sq d ds := by
  cases d <;> simp [sqL] at h <;> subst h
  · exact .inr rfl
  · exact .inl rfl
theorem vt_ok {m : Nat} {d : D} (h : Vt m d = true) : okV d = true := by
  cases m <;> cases d <;> first | rfl | (simp [Vt, flatD] at h; done)
theorem vt_sq {m : Nat} {d : D} {ds : List D} (h : Vt m d = true) (e : sqL d = some ds) : ds.length ≤ sizeLine ∧ ∀ x ∈ ds, ∃ m', Vt m' x = true := by
  cases m with
  | zero => cases d <;> simp [sqL, Vt, flatD] at h e
  | succ m =>
    cases d <;> simp [sqL] at e <;> subst e <;> simp [Vt] at h
    · exact ⟨h.1, fun x hx => ⟨m, h.2 x hx⟩⟩
    · exact ⟨h.1, fun x hx => ⟨m, h.2 x hx⟩⟩
theorem vt_nosq {m : Nat} {d : D} (h : Vt m d = true) (e : sqL d = none) : isi2 d "list" "tuple" = some false := by
  cases m <;> cases d <;> first | (simp [Vt, flatD] at h; done) | (simp [sqL] at e; done) | simp [isi2, isi1, tyD, kB4, kB5, kB9, kB10, kB14, kB15, kB29, kB30]
section
variable {P : Nat → Option Fn} {k f g : Nat} {S : Store} {x : Ix}
theorem rangeD_range : ∀ (n : Nat) (lo : Int), rangeD lo n = (List.range n).map fun j => .int (lo + (j : Int))
  | 0, _ => rfl
  | n + 1, lo => by
    rw [rangeD, rangeD_range n (lo + 1), List.range_succ_eq_map, List.map_cons, List.map_map]
    congr 1
    · simp
    · apply List.map_congr_left
      intro j _
      show D.int _ = D.int _
      congr 1
      simp; omega
def rowsB (lo hi : Int) (d : D) : Bool := match sqL d with
  | some ds => decide (lo ≤ (ds.length : Int)) && decide ((ds.length : Int) ≤ hi)
  | none => false
theorem rows_eq {m : Nat} {d : D} {lo hi : Int} (h : P f = some ⟨3, 3, B_is_rows⟩) (hd : Vt m d = true) : callF P (k + 1) f [.d d, .d (.int lo), .d (.int hi)] S = some (.bl (rowsB lo hi d), S) := by
  cases e : sqL d with
  | some ds =>
    rw [rows_ok h (sqL_sq e)]
    simp only [rowsB, e]
  | none =>
    have e2 := vt_nosq hd e
    rw [callF_b h rfl (by decide)]
    show (evSs (callF P k) B_is_rows [some (.d d), some (.d (.int lo)), some (.d (.int hi))] S).bind _ = _
    simp [B_is_rows, evSs, evS, evE, evEs, evZ, evO, evI, evT, evTo, rd_d, fz_d, b_add, b_sub, b_mul, b_div, b_mod, b_p18, b_p8, b_p7, b_p6, c_lt, c_le, c_gt, c_ge, c_eq, c_ne, c_eqs, c_nes, c_nes0, c_nes1, c_eqs0, c_eqs1, l_t, l_l, bi_i, bi_max, bi_min, bi_tl, bi_tt, ix_l, ix_t, m_nil, m_cons, at0, at1, at2, flatD, seqOf, isNonW, fin, evX, e2, rowsB, e]
theorem rows_of_eq {m n : Nat} {d : D} {lo hi : Int} {p : D → Bool} (h : P f = some ⟨4, 5, B_is_rows_of g⟩) (h1 : P g = some ⟨3, 3, B_is_rows⟩) (hd : Vt m d = true)
    (hm : ∀ y m', Vt m' y = true → callF P (k + 1) n [.d y] S = some (.bl (p y), S)) : callF P (k + 2) f [.d d, .d (.int lo), .d (.int hi), .d (.fn n)] S = some (.bl (match sqL d with | some ds => (decide (lo ≤ (ds.length : Int)) && decide ((ds.length : Int) ≤ hi)) && ds.all p | none => false), S) := by
  cases e : sqL d with
  | some ds =>
    obtain ⟨v1, v2⟩ := vt_sq hd e
    exact rows_of_ok h h1 (sqL_sq e) v1 fun y hy => let ⟨m', v⟩ := v2 y hy; hm y m' v
  | none =>
    have e1 := rows_eq (k := k) (S := S) (lo := lo) (hi := hi) h1 hd
    rw [callF_b h rfl (by decide)]
    show (evSs (callF P (k + 1)) (B_is_rows_of g) [some (.d d), some (.d (.int lo)), some (.d (.int hi)), some (.d (.fn n)), none] S).bind _ = _
    simp [B_is_rows_of, evSs, evS, evE, evEs, evZ, evO, evI, evT, evTo, rd_d, fz_d, b_add, b_sub, b_mul, b_div, b_mod, b_p18, b_p8, b_p7, b_p6, c_lt, c_le, c_gt, c_ge, c_eq, c_ne, c_eqs, c_nes, c_nes0, c_nes1, c_eqs0, c_eqs1, l_t, l_l, bi_i, bi_max, bi_min, bi_tl, bi_tt, ix_l, ix_t, m_nil, m_cons, at0, at1, at2, flatD, seqOf, isNonW, fin, evX, e1, rowsB, e]
theorem len2 {ds : List D} (h : rowsB 2 2 d = true) (e : sqL d = some ds) : ∃ a b, ds = [a, b] := by
  simp [rowsB, e] at h
  match ds, h with
  | [a, b], _ => exact ⟨a, b, rfl⟩
end
end Pv

set_option Elab.async false
set_option linter.all false
set_option maxRecDepth 100000
set_option maxHeartbeats 1000000
namespace Pv
open PySem L2
structure Lx where
  so : Nat
  num : Nat
  draw : Nat
  take : Nat
  wide : Nat
  listed : Nat
  either : Nat
  handed : Nat
  pick : Nat
structure LxOk (P : Nat → Option Fn) (y : Lx) : Prop where
  so : P y.so = some ⟨2, 3, B_law_so y.so⟩
  num : P y.num = some ⟨1, 6, B_law_numbers⟩
  draw : P y.draw = some ⟨3, 4, B_law_draw⟩
  take : P y.take = some ⟨3, 3, B_law_take y.draw⟩
  wide : P y.wide = some ⟨3, 6, B_law_wide y.take⟩
  listed : P y.listed = some ⟨1, 2, B_law_listed y.listed⟩
  either : P y.either = some ⟨3, 5, B_law_either y.take y.either⟩
  handed : P y.handed = some ⟨3, 4, B_law_handed y.take y.listed y.either⟩
  pick : P y.pick = some ⟨3, 3, B_law_pick y.take⟩
section
variable {P : Nat → Option Fn} {k f : Nat} {r : D} {ms : List MO} {i : Int} {y : Lx}
theorem spA (hi : 0 ≤ i) : Sp (.lst [.int 0] :: ms) 0 (.lst [.int i] :: ms) := ⟨i, hi, rfl⟩
theorem spB {S : Store} (h : Sp (.lst [.int 0] :: ms) 0 S) : ∃ j : Int, 0 ≤ j ∧ S = .lst [.int j] :: ms := by
  obtain ⟨j, hj, e⟩ := h
  exact ⟨j, hj, e⟩
theorem LxOk.take0 (L : LxOk P y) {Q : D × Store → Prop} (hr : Row r) (hi : 0 ≤ i) {lim : Int} (hl : 0 < lim) (q : ∀ t j : Int, 0 ≤ t → t < lim → 0 ≤ j → Q (.int t, .lst [.int j] :: ms)) : OkR (callF P (k + 2) y.take [.d r, .mu 0, .d (.int lim)] (.lst [.int i] :: ms)) Q :=
  take_ok L.take L.draw hr (by simp) (spA (ms := ms) hi) hl fun t S' a b p => by
    obtain ⟨j, hj, rfl⟩ := spB p
    exact q t j a b hj
theorem LxOk.wide0 (L : LxOk P y) {Q : D × Store → Prop} (hr : Row r) (hi : 0 ≤ i) {lim : Int} (hl : 0 < lim) (q : ∀ t j : Int, 0 ≤ t → t < lim → 0 ≤ j → Q (.int t, .lst [.int j] :: ms)) : OkR (callF P (k + 3) y.wide [.d r, .mu 0, .d (.int lim)] (.lst [.int i] :: ms)) Q :=
  wide_ok L.wide L.take L.draw hr (by simp) (spA (ms := ms) hi) hl fun t S' a b p => by
    obtain ⟨j, hj, rfl⟩ := spB p
    exact q t j a b hj
theorem LxOk.pick0 (L : LxOk P y) {Q : D × Store → Prop} {x : D} {ds : List D} (hr : Row r) (hi : 0 ≤ i) (hx : x = .lst ds ∨ x = .tup ds) (hne : ds ≠ []) (q : ∀ y' (j : Int), y' ∈ ds → 0 ≤ j → Q (y', .lst [.int j] :: ms)) : OkR (callF P (k + 3) y.pick [.d r, .mu 0, .d x] (.lst [.int i] :: ms)) Q :=
  pick_ok L.pick L.take L.draw hr (by simp) (spA (ms := ms) hi) hx hne fun t S' a p => by
    obtain ⟨j, hj, rfl⟩ := spB p
    exact q t j a hj
theorem LxOk.pickL (L : LxOk P y) {Q : D × Store → Prop} {ds : List D} (hr : Row r) (hi : 0 ≤ i) (hne : ds ≠ []) (q : ∀ y' (j : Int), y' ∈ ds → 0 ≤ j → Q (y', .lst [.int j] :: ms)) : OkR (callF P (k + 3) y.pick [.d r, .mu 0, .d (.lst ds)] (.lst [.int i] :: ms)) Q := L.pick0 hr hi (.inl rfl) hne q
theorem LxOk.handed0 (L : LxOk P y) {Q : D × Store → Prop} {m : Nat} {x : D} (hr : Row r) (hi : 0 ≤ i) (hx : Tv m x = true) (q : ∀ x' (j : Int), Lk m x' x → 0 ≤ j → Q (x', .lst [.int j] :: ms)) : OkR (callF P (k + m + 4) y.handed [.d r, .mu 0, .d x] (.lst [.int i] :: ms)) Q := by
  obtain ⟨x', S', e, l, p⟩ := handed_ex (k := k) L.handed L.listed L.either L.take L.draw hr (by simp) hx (spA (ms := ms) hi)
  obtain ⟨j, hj, rfl⟩ := spB p
  exact ⟨_, e, q x' j l hj⟩
structure KsOk (lo hi : Int) (n : Nat) (fs : List Int) : Prop where
  nd : fs.Nodup
  each : ∀ z ∈ fs, lo ≤ z ∧ z ≤ hi
  len : fs.length ≤ n
theorem KsOk.nil {lo hi : Int} {n : Nat} : KsOk lo hi n [] := ⟨List.nodup_nil, by simp, by simp⟩
theorem KsOk.mono {lo hi : Int} {n m : Nat} {fs : List Int} (h : KsOk lo hi n fs) (hl : n ≤ m) : KsOk lo hi m fs := ⟨h.nd, h.each, Nat.le_trans h.len hl⟩
theorem i_r1 {c : Call} {e : E} {ρ : En} {S : Store} {Q : List D × Store → Prop} (h : OkR (evE c e ρ S) fun p => ∃ j : Int, p.1 = .d (.int j) ∧ -4611686018427387904 ≤ j ∧ j < 4611686018427387904 ∧ Q (rangeD 0 j.toNat, p.2)) : OkR (evI c (.r1 e) ρ S) Q := by
  obtain ⟨⟨w, S1⟩, e1, j, e2, h1, h2, q⟩ := h
  simp only at e2
  subst e2
  exact ⟨_, x_r1 e1 h1 h2, q⟩
end
end Pv

set_option Elab.async false
set_option linter.all false
set_option maxRecDepth 100000
set_option maxHeartbeats 1000000
namespace Pv
open PySem L2
def B_law_day (i_law_take i_law_wide i_law_pick : Nat) : Ss := .cons (.newDK 2 (.cons (.cst (.int 0)) (.cons (.cst (.bl true)) (.nil)))) (.cons (.forS (.name 3) (.r1 (.call i_law_take (.cons (.var 0) (.cons (.var 1) (.cons (.cst (.int 4)) (.nil)))))) (.cons (.setD 2 (.call i_law_pick (.cons (.var 0) (.cons (.var 1) (.cons (.lst (.cons (.cst (.int 1)) (.cons (.cst (.int 100)) (.cons (.cst (.int 28800)) (.cons (.cst (.int 64800)) (.cons (.cst (.int 86399)) (.cons (.call i_law_wide (.cons (.var 0) (.cons (.var 1) (.cons (.cst (.int 86400)) (.nil))))) (.nil)))))))) (.nil))))) (.cst (.bl true))) (.nil))) (.cons (.ret (.bi .tuple (.cons (.comp [4] (.name 4) (.seq (.bi .sorted (.cons (.var 2) (.nil)))) (.none) (.tup (.cons (.var 4) (.cons (.call i_law_pick (.cons (.var 0) (.cons (.var 1) (.cons (.lst (.cons (.cst (.str "low")) (.cons (.cst (.str "high")) (.cons (.cst (.str "mid")) (.nil))))) (.nil))))) (.nil))))) (.nil)))) (.nil)))
def B_law_week (i_law_take i_law_pick i_law_day : Nat) : Ss := .cons (.asg (.name 2) (.call i_law_day (.cons (.var 0) (.cons (.var 1) (.nil))))) (.cons (.asg (.name 3) (.comp [5] (.name 5) (.r1 (.cst (.int 8))) (.none) (.ite (.val (.cmp .eq (.call i_law_take (.cons (.var 0) (.cons (.var 1) (.cons (.cst (.int 2)) (.nil))))) (.cst (.int 0)))) (.var 2) (.call i_law_day (.cons (.var 0) (.cons (.var 1) (.nil))))))) (.cons (.newD 4) (.cons (.forS (.name 5) (.r1 (.call i_law_take (.cons (.var 0) (.cons (.var 1) (.cons (.cst (.int 4)) (.nil)))))) (.cons (.setD 4 (.call i_law_pick (.cons (.var 0) (.cons (.var 1) (.cons (.lst (.cons (.cst (.int 0)) (.cons (.cst (.int 1)) (.cons (.cst (.int 2)) (.cons (.cst (.int 6)) (.cons (.cst (.int 7)) (.cons (.cst (.int 1000)) (.cons (.call i_law_take (.cons (.var 0) (.cons (.var 1) (.cons (.cst (.int 997)) (.nil))))) (.nil))))))))) (.nil))))) (.cst (.bl true))) (.nil))) (.cons (.ret (.tup (.cons (.bi .tuple (.cons (.var 3) (.nil))) (.cons (.bi .tuple (.cons (.bi .sorted (.cons (.var 4) (.nil))) (.nil))) (.nil))))) (.nil)))))
section
variable {P : Nat → Option Fn} {k f : Nat} {r : D} {ms : List MO} {i : Int} {y : Lx}
def words3 : List Str := ["low", "high", "mid"]
end
end Pv

set_option Elab.async false
set_option linter.all false
set_option maxRecDepth 100000
set_option maxHeartbeats 1000000
namespace Pv
open PySem L2
def B_law_whole : Ss := .cons (.ret (.and (.isi1 (.var 0) "int") (.not (.isi1 (.var 0) "bool")))) (.nil)
def B_law_between (i_law_whole : Nat) : Ss := .cons (.ret (.and (.call i_law_whole (.cons (.var 0) (.nil))) (.chain .le .le (.var 1) (.var 0) (.var 2)))) (.nil)
def B_law_is_word : Ss := .cons (.ifs (.or (.not (.val (.isi1 (.var 0) "str"))) (.not (.val (.chain .le .le (.cst (.int 1)) (.bi .len (.cons (.var 0) (.nil))) (.cst (.int 8)))))) (.cons (.ret (.cst (.bl false))) (.nil)) (.nil)) (.cons (.ret (.cmp .eq (.bi .len (.cons (.comp [1] (.name 1) (.seq (.var 0)) (.some (.val (.cmp .nin (.var 1) (.cst (.str "abcdefghijklmnopqrstuvwxyz"))))) (.var 1)) (.nil))) (.cst (.int 0)))) (.nil))
def B_law_is_day (i_law_between i_law_is_word : Nat) : Ss := .cons (.ifs (.or (.not (.val (.isi1 (.var 0) "tuple"))) (.not (.val (.chain .le .le (.cst (.int 1)) (.bi .len (.cons (.var 0) (.nil))) (.cst (.int 8)))))) (.cons (.ret (.cst (.bl false))) (.nil)) (.nil)) (.cons (.forS (.name 1) (.r1 (.bi .len (.cons (.var 0) (.nil)))) (.cons (.asg (.name 2) (.ix (.var 0) (.var 1))) (.cons (.ifs (.or (.not (.val (.isi1 (.var 2) "tuple"))) (.or (.val (.cmp .ne (.bi .len (.cons (.var 2) (.nil))) (.cst (.int 2)))) (.or (.not (.val (.call i_law_between (.cons (.ix (.var 2) (.cst (.int 0))) (.cons (.cst (.int 0)) (.cons (.cst (.int 86399)) (.nil))))))) (.not (.val (.call i_law_is_word (.cons (.ix (.var 2) (.cst (.int 1))) (.nil)))))))) (.cons (.ret (.cst (.bl false))) (.nil)) (.nil)) (.cons (.ifs (.or (.and (.val (.cmp .eq (.var 1) (.cst (.int 0)))) (.val (.cmp .ne (.ix (.var 2) (.cst (.int 0))) (.cst (.int 0))))) (.and (.val (.cmp .gt (.var 1) (.cst (.int 0)))) (.val (.cmp .ge (.ix (.ix (.var 0) (.bin .sub (.var 1) (.cst (.int 1)))) (.cst (.int 0))) (.ix (.var 2) (.cst (.int 0))))))) (.cons (.ret (.cst (.bl false))) (.nil)) (.nil)) (.nil))))) (.cons (.ret (.cst (.bl true))) (.nil)))
def B_law_is_week (i_law_between i_law_is_day : Nat) : Ss := .cons (.ifs (.or (.not (.val (.isi1 (.var 0) "tuple"))) (.or (.val (.cmp .ne (.bi .len (.cons (.var 0) (.nil))) (.cst (.int 2)))) (.or (.not (.val (.isi1 (.ix (.var 0) (.cst (.int 0))) "tuple"))) (.val (.cmp .ne (.bi .len (.cons (.ix (.var 0) (.cst (.int 0))) (.nil))) (.cst (.int 8))))))) (.cons (.ret (.cst (.bl false))) (.nil)) (.nil)) (.cons (.ifs (.or (.val (.cmp .gt (.bi .len (.cons (.comp [2] (.name 2) (.seq (.ix (.var 0) (.cst (.int 0)))) (.some (.not (.val (.call i_law_is_day (.cons (.var 2) (.nil)))))) (.var 2)) (.nil))) (.cst (.int 0)))) (.or (.not (.val (.isi1 (.ix (.var 0) (.cst (.int 1))) "tuple"))) (.val (.cmp .gt (.bi .len (.cons (.ix (.var 0) (.cst (.int 1))) (.nil))) (.cst (.int 20)))))) (.cons (.ret (.cst (.bl false))) (.nil)) (.nil)) (.cons (.forS (.name 1) (.r1 (.bi .len (.cons (.ix (.var 0) (.cst (.int 1))) (.nil)))) (.cons (.ifs (.or (.not (.val (.call i_law_between (.cons (.ix (.ix (.var 0) (.cst (.int 1))) (.var 1)) (.cons (.cst (.int 0)) (.cons (.cst (.int 1000)) (.nil))))))) (.and (.val (.cmp .gt (.var 1) (.cst (.int 0)))) (.val (.cmp .ge (.ix (.ix (.var 0) (.cst (.int 1))) (.bin .sub (.var 1) (.cst (.int 1)))) (.ix (.ix (.var 0) (.cst (.int 1))) (.var 1)))))) (.cons (.ret (.cst (.bl false))) (.nil)) (.nil)) (.nil))) (.cons (.ret (.cst (.bl true))) (.nil))))
section
variable {P : Nat → Option Fn} {k f g : Nat} {S : Store} {y : Lx}
theorem so_refl (h : P f = some ⟨2, 3, B_law_so f⟩) : ∀ (m : Nat) {k : Nat} {S : Store} {d : D}, Tv m d = true → callF P (k + m + 1) f [.d d, .d d] S = some (.bl true, S) := by
  intro m
  have flat : ∀ {k : Nat} {S : Store} {d : D}, flatD d = true → callF P (k + 1) f [.d d, .d d] S = some (.bl true, S) := by
    intro k S d hd
    rw [callF_b h rfl (by decide)]
    show (evSs (callF P k) (B_law_so f) [some (.d d), some (.d d), none] S).bind _ = _
    cases d with
    | non => simp [B_law_so, evSs, evS, evE, evEs, evZ, evO, evI, evT, evTo, rd_d, fz_d, b_add, b_sub, b_mul, b_div, b_mod, b_p18, b_p8, b_p7, b_p6, c_lt, c_le, c_gt, c_ge, c_eq, c_ne, c_eqs, c_nes, c_nes0, c_nes1, c_eqs0, c_eqs1, l_t, l_l, bi_i, bi_max, bi_min, bi_tl, bi_tt, ix_l, ix_t, m_nil, m_cons, at0, at1, at2, flatD, seqOf, isNonW, fin, evX]
    | bl b => cases b <;> simp [B_law_so, evSs, evS, evE, evEs, evZ, evO, evI, evT, evTo, rd_d, fz_d, b_add, b_sub, b_mul, b_div, b_mod, b_p18, b_p8, b_p7, b_p6, c_lt, c_le, c_gt, c_ge, c_eq, c_ne, c_eqs, c_nes, c_nes0, c_nes1, c_eqs0, c_eqs1, l_t, l_l, bi_i, bi_max, bi_min, bi_tl, bi_tt, ix_l, ix_t, m_nil, m_cons, at0, at1, at2, flatD, seqOf, isNonW, fin, evX, isi1, tyD, kB5, kB7, kB10, cRun, cEq, scalD, eqS]
    | int i => simp [B_law_so, evSs, evS, evE, evEs, evZ, evO, evI, evT, evTo, rd_d, fz_d, b_add, b_sub, b_mul, b_div, b_mod, b_p18, b_p8, b_p7, b_p6, c_lt, c_le, c_gt, c_ge, c_eq, c_ne, c_eqs, c_nes, c_nes0, c_nes1, c_eqs0, c_eqs1, l_t, l_l, bi_i, bi_max, bi_min, bi_tl, bi_tt, ix_l, ix_t, m_nil, m_cons, at0, at1, at2, flatD, seqOf, isNonW, fin, evX, isi1, tyD, kB1, kB2, kB5]
    | str w => simp [B_law_so, evSs, evS, evE, evEs, evZ, evO, evI, evT, evTo, rd_d, fz_d, b_add, b_sub, b_mul, b_div, b_mod, b_p18, b_p8, b_p7, b_p6, c_lt, c_le, c_gt, c_ge, c_eq, c_ne, c_eqs, c_nes, c_nes0, c_nes1, c_eqs0, c_eqs1, l_t, l_l, bi_i, bi_max, bi_min, bi_tl, bi_tt, ix_l, ix_t, m_nil, m_cons, at0, at1, at2, flatD, seqOf, isNonW, fin, evX, isi1, tyD, kB11, kB12, kB13, kB15]
    | _ => simp [flatD] at hd
  induction m with
  | zero =>
    intro k S d hd
    exact flat (by simpa [Tv] using hd)
  | succ m ih =>
    intro k S d hd
    cases d with
    | tup ds =>
      simp only [Tv, Bool.and_eq_true, decide_eq_true_eq, List.all_eq_true] at hd
      obtain ⟨hl, hall⟩ := hd
      have key : OkR (callF P (k + (m + 1) + 1) f [.d (.tup ds), .d (.tup ds)] S) fun p => p = (.bl true, S) := by
        refine def_ok h rfl (by show 2 ≤ 3; decide) rfl ?_
        show OkR (evSs (callF P (k + (m + 1))) (B_law_so f) [some (.d (.tup ds)), some (.d (.tup ds)), none] S) _
        unfold B_law_so
        refine ss_step ?_; simp only [okR_bind, okR_map, okR_some, evS, ee_var, ee_cst, ee_fnv, ee_bin, ee_neg, ee_fz, ee_cmp, ee_chain, ee_isN, ee_notN, ee_and, ee_or, ee_not, ee_ite, ee_call, ee_callv, ee_bi, ee_isi1, ee_isi2, ee_mt0, ee_mt1, ee_ix, ee_dget, ee_din, ee_get1, ee_get2, ee_sl, ee_tup, ee_lst, evEs, evZ, evO, evI, evT, evTo, evX, rd_d, fz_d, b_add, b_sub, b_mul, b_div, b_mod, b_p18, b_p8, b_p7, b_p6, c_lt, c_le, c_gt, c_ge, c_eq, c_ne, c_eqs, c_nes, c_nes0, c_nes1, c_eqs0, c_eqs1, l_t, l_l, bi_i, bi_max, bi_min, bi_tl, bi_tt, ix_l, ix_t, m_nil, m_cons, at0, at1, at2, flatD, seqOf, isNonW, nx_nx, nx_rt, nx_bk, nx_ct, nx_xc, next_nx, next_ct, next_bk, next_rt, Option.bind_some, Option.map_some, List.getElem?_cons_zero, List.getElem?_cons_succ, List.set_cons_zero, List.set_cons_succ, List.length_cons, List.length_nil, if_true, asgn, asgns, Nat.zero_add, Nat.reduceAdd, Nat.reduceLT, Nat.reduceLeDiff, reduceIte, reduceCtorEq, Bool.false_eq_true, Int.reduceNeg, sizeLine_val, and_self, true_and, and_true, b_m7, b_m86400, b_m1000000000, b_m60, b_m600, b_d7, b_d86400, b_d1000, b_p10_5, b_p10_9, b_p10_12, b_p10_15]
        refine ss_done ?_
        simp only [nx_nx]
        refine ss_step (ifs_ok ?_)
        simp only [okR_bind, okR_map, okR_some, evS, ee_var, ee_cst, ee_fnv, ee_bin, ee_neg, ee_fz, ee_cmp, ee_chain, ee_isN, ee_notN, ee_and, ee_or, ee_not, ee_ite, ee_call, ee_callv, ee_bi, ee_isi1, ee_isi2, ee_mt0, ee_mt1, ee_ix, ee_dget, ee_din, ee_get1, ee_get2, ee_sl, ee_tup, ee_lst, evEs, evZ, evO, evI, evT, evTo, evX, rd_d, fz_d, b_add, b_sub, b_mul, b_div, b_mod, b_p18, b_p8, b_p7, b_p6, c_lt, c_le, c_gt, c_ge, c_eq, c_ne, c_eqs, c_nes, c_nes0, c_nes1, c_eqs0, c_eqs1, l_t, l_l, bi_i, bi_max, bi_min, bi_tl, bi_tt, ix_l, ix_t, m_nil, m_cons, at0, at1, at2, flatD, seqOf, isNonW, nx_nx, nx_rt, nx_bk, nx_ct, nx_xc, next_nx, next_ct, next_bk, next_rt, Option.bind_some, Option.map_some, List.getElem?_cons_zero, List.getElem?_cons_succ, List.set_cons_zero, List.set_cons_succ, List.length_cons, List.length_nil, if_true, asgn, asgns, Nat.zero_add, Nat.reduceAdd, Nat.reduceLT, Nat.reduceLeDiff, reduceIte, reduceCtorEq, Bool.false_eq_true, Int.reduceNeg, sizeLine_val, and_self, true_and, and_true, b_m7, b_m86400, b_m1000000000, b_m60, b_m600, b_d7, b_d86400, b_d1000, b_p10_5, b_p10_9, b_p10_12, b_p10_15, isi_tup]
        refine ss_step (ifs_ok ?_)
        simp only [okR_bind, okR_map, okR_some, evS, ee_var, ee_cst, ee_fnv, ee_bin, ee_neg, ee_fz, ee_cmp, ee_chain, ee_isN, ee_notN, ee_and, ee_or, ee_not, ee_ite, ee_call, ee_callv, ee_bi, ee_isi1, ee_isi2, ee_mt0, ee_mt1, ee_ix, ee_dget, ee_din, ee_get1, ee_get2, ee_sl, ee_tup, ee_lst, evEs, evZ, evO, evI, evT, evTo, evX, rd_d, fz_d, b_add, b_sub, b_mul, b_div, b_mod, b_p18, b_p8, b_p7, b_p6, c_lt, c_le, c_gt, c_ge, c_eq, c_ne, c_eqs, c_nes, c_nes0, c_nes1, c_eqs0, c_eqs1, l_t, l_l, bi_i, bi_max, bi_min, bi_tl, bi_tt, ix_l, ix_t, m_nil, m_cons, at0, at1, at2, flatD, seqOf, isNonW, nx_nx, nx_rt, nx_bk, nx_ct, nx_xc, next_nx, next_ct, next_bk, next_rt, Option.bind_some, Option.map_some, List.getElem?_cons_zero, List.getElem?_cons_succ, List.set_cons_zero, List.set_cons_succ, List.length_cons, List.length_nil, if_true, asgn, asgns, Nat.zero_add, Nat.reduceAdd, Nat.reduceLT, Nat.reduceLeDiff, reduceIte, reduceCtorEq, Bool.false_eq_true, Int.reduceNeg, sizeLine_val, and_self, true_and, and_true, b_m7, b_m86400, b_m1000000000, b_m60, b_m600, b_d7, b_d86400, b_d1000, b_p10_5, b_p10_9, b_p10_12, b_p10_15, isi_tup, Bool.not_true, decide_true]
        refine ss_done ?_
        simp only [nx_nx]
        refine ss_step (for_ok (i_r1 ?_))
        simp only [okR_bind, okR_map, okR_some, evS, ee_var, ee_cst, ee_fnv, ee_bin, ee_neg, ee_fz, ee_cmp, ee_chain, ee_isN, ee_notN, ee_and, ee_or, ee_not, ee_ite, ee_call, ee_callv, ee_bi, ee_isi1, ee_isi2, ee_mt0, ee_mt1, ee_ix, ee_dget, ee_din, ee_get1, ee_get2, ee_sl, ee_tup, ee_lst, evEs, evZ, evO, evI, evT, evTo, evX, rd_d, fz_d, b_add, b_sub, b_mul, b_div, b_mod, b_p18, b_p8, b_p7, b_p6, c_lt, c_le, c_gt, c_ge, c_eq, c_ne, c_eqs, c_nes, c_nes0, c_nes1, c_eqs0, c_eqs1, l_t, l_l, bi_i, bi_max, bi_min, bi_tl, bi_tt, ix_l, ix_t, m_nil, m_cons, at0, at1, at2, flatD, seqOf, isNonW, nx_nx, nx_rt, nx_bk, nx_ct, nx_xc, next_nx, next_ct, next_bk, next_rt, Option.bind_some, Option.map_some, List.getElem?_cons_zero, List.getElem?_cons_succ, List.set_cons_zero, List.set_cons_succ, List.length_cons, List.length_nil, if_true, asgn, asgns, Nat.zero_add, Nat.reduceAdd, Nat.reduceLT, Nat.reduceLeDiff, reduceIte, reduceCtorEq, Bool.false_eq_true, Int.reduceNeg, sizeLine_val, and_self, true_and, and_true, b_m7, b_m86400, b_m1000000000, b_m60, b_m600, b_d7, b_d86400, b_d1000, b_p10_5, b_p10_9, b_p10_12, b_p10_15]
        refine ⟨ds.length, rfl, by omega, by have : sizeLine = 16777216 := sizeLine_val; omega, ?_⟩
        refine loop_ok (fun n ρ S' => ∃ v2, ρ = [some (.d (.tup ds)), some (.d (.tup ds)), v2] ∧ S' = S) ⟨none, rfl, rfl⟩ ?_ ?_
        · rintro n d ρ S' hn ⟨v2, rfl, rfl⟩
          obtain ⟨hn1, rfl⟩ := rangeD_get hn
          have hn2 : n < ds.length := by omega
          have ei : L2.atI ds (0 + (n : Int)) = some ds[n] := by rw [Int.zero_add]; exact L2.atI_nat (List.getElem?_eq_getElem hn2)
          simp only [okR_bind, okR_map, okR_some, evS, ee_var, ee_cst, ee_fnv, ee_bin, ee_neg, ee_fz, ee_cmp, ee_chain, ee_isN, ee_notN, ee_and, ee_or, ee_not, ee_ite, ee_call, ee_callv, ee_bi, ee_isi1, ee_isi2, ee_mt0, ee_mt1, ee_ix, ee_dget, ee_din, ee_get1, ee_get2, ee_sl, ee_tup, ee_lst, evEs, evZ, evO, evI, evT, evTo, evX, rd_d, fz_d, b_add, b_sub, b_mul, b_div, b_mod, b_p18, b_p8, b_p7, b_p6, c_lt, c_le, c_gt, c_ge, c_eq, c_ne, c_eqs, c_nes, c_nes0, c_nes1, c_eqs0, c_eqs1, l_t, l_l, bi_i, bi_max, bi_min, bi_tl, bi_tt, ix_l, ix_t, m_nil, m_cons, at0, at1, at2, flatD, seqOf, isNonW, nx_nx, nx_rt, nx_bk, nx_ct, nx_xc, next_nx, next_ct, next_bk, next_rt, Option.bind_some, Option.map_some, List.getElem?_cons_zero, List.getElem?_cons_succ, List.set_cons_zero, List.set_cons_succ, List.length_cons, List.length_nil, if_true, asgn, asgns, Nat.zero_add, Nat.reduceAdd, Nat.reduceLT, Nat.reduceLeDiff, reduceIte, reduceCtorEq, Bool.false_eq_true, Int.reduceNeg, sizeLine_val, and_self, true_and, and_true, b_m7, b_m86400, b_m1000000000, b_m60, b_m600, b_d7, b_d86400, b_d1000, b_p10_5, b_p10_9, b_p10_12, b_p10_15]
          refine ss_step (ifs_ok ?_)
          simp only [okR_bind, okR_map, okR_some, evS, ee_var, ee_cst, ee_fnv, ee_bin, ee_neg, ee_fz, ee_cmp, ee_chain, ee_isN, ee_notN, ee_and, ee_or, ee_not, ee_ite, ee_call, ee_callv, ee_bi, ee_isi1, ee_isi2, ee_mt0, ee_mt1, ee_ix, ee_dget, ee_din, ee_get1, ee_get2, ee_sl, ee_tup, ee_lst, evEs, evZ, evO, evI, evT, evTo, evX, rd_d, fz_d, b_add, b_sub, b_mul, b_div, b_mod, b_p18, b_p8, b_p7, b_p6, c_lt, c_le, c_gt, c_ge, c_eq, c_ne, c_eqs, c_nes, c_nes0, c_nes1, c_eqs0, c_eqs1, l_t, l_l, bi_i, bi_max, bi_min, bi_tl, bi_tt, ix_l, ix_t, m_nil, m_cons, at0, at1, at2, flatD, seqOf, isNonW, nx_nx, nx_rt, nx_bk, nx_ct, nx_xc, next_nx, next_ct, next_bk, next_rt, Option.bind_some, Option.map_some, List.getElem?_cons_zero, List.getElem?_cons_succ, List.set_cons_zero, List.set_cons_succ, List.length_cons, List.length_nil, if_true, asgn, asgns, Nat.zero_add, Nat.reduceAdd, Nat.reduceLT, Nat.reduceLeDiff, reduceIte, reduceCtorEq, Bool.false_eq_true, Int.reduceNeg, sizeLine_val, and_self, true_and, and_true, b_m7, b_m86400, b_m1000000000, b_m60, b_m600, b_d7, b_d86400, b_d1000, b_p10_5, b_p10_9, b_p10_12, b_p10_15, ei]
          refine OkR.of (ih (k := k) (hall _ (List.getElem_mem hn2))) ?_
          simp only [okR_bind, okR_map, okR_some, evS, ee_var, ee_cst, ee_fnv, ee_bin, ee_neg, ee_fz, ee_cmp, ee_chain, ee_isN, ee_notN, ee_and, ee_or, ee_not, ee_ite, ee_call, ee_callv, ee_bi, ee_isi1, ee_isi2, ee_mt0, ee_mt1, ee_ix, ee_dget, ee_din, ee_get1, ee_get2, ee_sl, ee_tup, ee_lst, evEs, evZ, evO, evI, evT, evTo, evX, rd_d, fz_d, b_add, b_sub, b_mul, b_div, b_mod, b_p18, b_p8, b_p7, b_p6, c_lt, c_le, c_gt, c_ge, c_eq, c_ne, c_eqs, c_nes, c_nes0, c_nes1, c_eqs0, c_eqs1, l_t, l_l, bi_i, bi_max, bi_min, bi_tl, bi_tt, ix_l, ix_t, m_nil, m_cons, at0, at1, at2, flatD, seqOf, isNonW, nx_nx, nx_rt, nx_bk, nx_ct, nx_xc, next_nx, next_ct, next_bk, next_rt, Option.bind_some, Option.map_some, List.getElem?_cons_zero, List.getElem?_cons_succ, List.set_cons_zero, List.set_cons_succ, List.length_cons, List.length_nil, if_true, asgn, asgns, Nat.zero_add, Nat.reduceAdd, Nat.reduceLT, Nat.reduceLeDiff, reduceIte, reduceCtorEq, Bool.false_eq_true, Int.reduceNeg, sizeLine_val, and_self, true_and, and_true, b_m7, b_m86400, b_m1000000000, b_m60, b_m600, b_d7, b_d86400, b_d1000, b_p10_5, b_p10_9, b_p10_12, b_p10_15, Bool.not_true]
          exact ss_done (ss_done ⟨_, rfl, rfl⟩)
        · rintro ρ S' ⟨v2, rfl, rfl⟩
          simp only [nx_nx]
          refine ss_step ?_; simp only [okR_bind, okR_map, okR_some, evS, ee_var, ee_cst, ee_fnv, ee_bin, ee_neg, ee_fz, ee_cmp, ee_chain, ee_isN, ee_notN, ee_and, ee_or, ee_not, ee_ite, ee_call, ee_callv, ee_bi, ee_isi1, ee_isi2, ee_mt0, ee_mt1, ee_ix, ee_dget, ee_din, ee_get1, ee_get2, ee_sl, ee_tup, ee_lst, evEs, evZ, evO, evI, evT, evTo, evX, rd_d, fz_d, b_add, b_sub, b_mul, b_div, b_mod, b_p18, b_p8, b_p7, b_p6, c_lt, c_le, c_gt, c_ge, c_eq, c_ne, c_eqs, c_nes, c_nes0, c_nes1, c_eqs0, c_eqs1, l_t, l_l, bi_i, bi_max, bi_min, bi_tl, bi_tt, ix_l, ix_t, m_nil, m_cons, at0, at1, at2, flatD, seqOf, isNonW, nx_nx, nx_rt, nx_bk, nx_ct, nx_xc, next_nx, next_ct, next_bk, next_rt, Option.bind_some, Option.map_some, List.getElem?_cons_zero, List.getElem?_cons_succ, List.set_cons_zero, List.set_cons_succ, List.length_cons, List.length_nil, if_true, asgn, asgns, Nat.zero_add, Nat.reduceAdd, Nat.reduceLT, Nat.reduceLeDiff, reduceIte, reduceCtorEq, Bool.false_eq_true, Int.reduceNeg, sizeLine_val, and_self, true_and, and_true, b_m7, b_m86400, b_m1000000000, b_m60, b_m600, b_d7, b_d86400, b_d1000, b_p10_5, b_p10_9, b_p10_12, b_p10_15]
          exact fin_rl rfl rfl
      obtain ⟨p, e, rfl⟩ := key
      exact e
    | _ => exact flat (k := k + (m + 1)) (by simpa [Tv] using hd)
theorem LxOk.soR (L : LxOk P y) {m : Nat} {d : D} (hd : Tv m d = true) : callF P (k + m + 1) y.so [.d d, .d d] S = some (.bl true, S) := so_refl L.so m hd
end
end Pv

set_option Elab.async false
set_option linter.all false
set_option maxRecDepth 100000
set_option maxHeartbeats 1000000
namespace Pv
open PySem L2
section
variable {P : Nat → Option Fn} {k f g : Nat} {S : Store} {y : Lx}
end
end Pv

set_option Elab.async false
set_option linter.all false
set_option maxRecDepth 100000
set_option maxHeartbeats 1000000
namespace Pv
open PySem L2
section
variable {P : Nat → Option Fn} {k f g : Nat} {S : Store} {y : Lx}
end
end Pv

set_option Elab.async false
set_option linter.all false
set_option maxRecDepth 100000
set_option maxHeartbeats 2000000
namespace Pv
open PySem L2
def B_law_part_changed (i_law_take i_law_pick i_law_part_changed : Nat) : Ss := .cons (.ifs (.and (.val (.isi1 (.var 2) "tuple")) (.and (.val (.cmp .gt (.bi .len (.cons (.var 2) (.nil))) (.cst (.int 0)))) (.val (.cmp .gt (.call i_law_take (.cons (.var 0) (.cons (.var 1) (.cons (.cst (.int 6)) (.nil))))) (.cst (.int 0)))))) (.cons (.asg (.name 3) (.call i_law_take (.cons (.var 0) (.cons (.var 1) (.cons (.bi .len (.cons (.var 2) (.nil))) (.nil)))))) (.cons (.ret (.bin .add (.bin .add (.sl (.var 2) (.none) (.some (.var 3))) (.tup (.cons (.call i_law_part_changed (.cons (.var 0) (.cons (.var 1) (.cons (.ix (.var 2) (.var 3)) (.nil))))) (.nil)))) (.sl (.var 2) (.some (.bin .add (.var 3) (.cst (.int 1)))) (.none)))) (.nil))) (.nil)) (.cons (.asg (.name 4) (.call i_law_take (.cons (.var 0) (.cons (.var 1) (.cons (.cst (.int 6)) (.nil)))))) (.cons (.ifs (.and (.val (.isi1 (.var 2) "tuple")) (.and (.val (.cmp .eq (.var 4) (.cst (.int 0)))) (.val (.cmp .gt (.bi .len (.cons (.var 2) (.nil))) (.cst (.int 0)))))) (.cons (.ret (.bin .add (.var 2) (.sl (.var 2) (.none) (.some (.cst (.int 1)))))) (.nil)) (.nil)) (.cons (.ifs (.and (.val (.isi1 (.var 2) "tuple")) (.and (.val (.cmp .eq (.var 4) (.cst (.int 1)))) (.val (.cmp .gt (.bi .len (.cons (.var 2) (.nil))) (.cst (.int 0)))))) (.cons (.ret (.sl (.var 2) (.some (.cst (.int 1))) (.none))) (.nil)) (.nil)) (.cons (.ifs (.and (.val (.isi1 (.var 2) "tuple")) (.and (.val (.cmp .eq (.var 4) (.cst (.int 3)))) (.val (.cmp .gt (.bi .len (.cons (.var 2) (.nil))) (.cst (.int 0)))))) (.cons (.asg (.name 3) (.call i_law_take (.cons (.var 0) (.cons (.var 1) (.cons (.bi .len (.cons (.var 2) (.nil))) (.nil)))))) (.cons (.asg (.name 5) (.ix (.var 2) (.var 3))) (.cons (.ifs (.and (.val (.isi1 (.var 5) "tuple")) (.and (.val (.cmp .gt (.bi .len (.cons (.var 5) (.nil))) (.cst (.int 1)))) (.val (.isi1 (.ix (.var 5) (.bin .sub (.bi .len (.cons (.var 5) (.nil))) (.cst (.int 1)))) "int")))) (.cons (.ret (.bin .add (.bin .add (.sl (.var 2) (.none) (.some (.bin .add (.var 3) (.cst (.int 1))))) (.tup (.cons (.bin .add (.sl (.var 5) (.none) (.some (.bin .sub (.bi .len (.cons (.var 5) (.nil))) (.cst (.int 1))))) (.tup (.cons (.bin .add (.ix (.var 5) (.bin .sub (.bi .len (.cons (.var 5) (.nil))) (.cst (.int 1)))) (.cst (.int 1))) (.nil)))) (.nil)))) (.sl (.var 2) (.some (.bin .add (.var 3) (.cst (.int 1)))) (.none)))) (.nil)) (.nil)) (.nil)))) (.nil)) (.cons (.ifs (.and (.val (.isi1 (.var 2) "tuple")) (.and (.val (.cmp .eq (.var 4) (.cst (.int 2)))) (.val (.cmp .gt (.bi .len (.cons (.var 2) (.nil))) (.cst (.int 1)))))) (.cons (.ret (.bin .add (.sl (.var 2) (.some (.cst (.int 1))) (.none)) (.sl (.var 2) (.none) (.some (.cst (.int 1)))))) (.nil)) (.nil)) (.cons (.ifs (.and (.val (.isi1 (.var 2) "int")) (.val (.cmp .lt (.var 4) (.cst (.int 4))))) (.cons (.ret (.call i_law_pick (.cons (.var 0) (.cons (.var 1) (.cons (.lst (.cons (.bin .add (.var 2) (.cst (.int 1))) (.cons (.bin .sub (.var 2) (.cst (.int 1))) (.cons (.cst (.int 0)) (.cons (.cst (.int 1)) (.cons (.cst (.int 8)) (.cons (.cst (.int 86400)) (.cons (.cst (.int 1000)) (.cons (.cst (.int 1001)) (.cons (.bin .add (.bin .pow (.cst (.int 10)) (.cst (.int 6))) (.cst (.int 1))) (.cons (.bin .add (.bin .pow (.cst (.int 10)) (.cst (.int 8))) (.cst (.int 1))) (.cons (.cst .non) (.cons (.cst (.bl true)) (.nil)))))))))))))) (.nil)))))) (.nil)) (.nil)) (.cons (.ifs (.and (.val (.isi1 (.var 2) "str")) (.val (.cmp .lt (.var 4) (.cst (.int 4))))) (.cons (.ret (.call i_law_pick (.cons (.var 0) (.cons (.var 1) (.cons (.lst (.cons (.cst (.str "")) (.cons (.cst (.str "a")) (.cons (.cst (.str "A")) (.cons (.cst (.str "toolongword")) (.cons (.cst (.str "1")) (.cons (.cst (.str "12")) (.cons (.cst (.str "123")) (.cons (.cst (.str "12345678")) (.cons (.cst (.str "123456789")) (.cons (.cst (.str "40")) (.cons (.cst (.str "void")) (.cons (.bin .add (.var 2) (.cst (.str "1"))) (.cons (.bin .add (.var 2) (.cst (.str "\n"))) (.cons (.var 2) (.nil)))))))))))))))) (.nil)))))) (.nil)) (.nil)) (.cons (.ret (.call i_law_pick (.cons (.var 0) (.cons (.var 1) (.cons (.lst (.cons (.cst .non) (.cons (.cst (.int 7)) (.cons (.cst (.bl true)) (.cons (.cst (.str "")) (.cons (.tup (.nil)) (.cons (.tup (.cons (.cst (.int 0)) (.nil))) (.cons (.cst (.str "a")) (.cons (.tup (.cons (.cst (.str "a")) (.nil))) (.cons (.tup (.cons (.cst (.int 0)) (.cons (.cst (.str "a")) (.nil)))) (.cons (.cst (.str "40123")) (.nil)))))))))))) (.nil)))))) (.nil)))))))))
section
variable {P : Nat → Option Fn} {k f : Nat} {r : D} {ms : List MO} {i : Int} {y : Lx}
def Tw : Nat → D → Bool
  | n + 1, .tup ds => decide (ds.length ≤ 1000) && ds.all (Tw n)
  | _, .int _ => true
  | _, .str w => decide (w.length ≤ 1000)
  | _, .non => true
  | _, _ => false
end
end Pv

set_option Elab.async false
set_option linter.all false
set_option maxRecDepth 100000
set_option maxHeartbeats 2000000
namespace Pv
open PySem L2
def B_law_told5 (i_band : Nat) : Ss := .cons (.tryR (.call i_band (.cons (.var 0) (.cons (.var 1) (.nil)))) 2 "bad") (.nil)
def B_law5 (i_is_week i_law_so i_law_numbers i_law_take i_law_handed i_law_pick i_law_is_week i_law_day_row i_law_band i_law_week i_law_part_changed i_law_told : Nat) : Ss := .cons (.asg (.name 1) (.call i_law_numbers (.cons (.var 0) (.nil)))) (.cons (.newL 2 (.cons (.cst (.int 0)) (.nil))) (.cons (.asg (.name 3) (.call i_law_week (.cons (.var 1) (.cons (.var 2) (.nil))))) (.cons (.forS (.name 4) (.r1 (.cst (.int 8))) (.cons (.asg (.name 5) (.call i_law_part_changed (.cons (.var 1) (.cons (.var 2) (.cons (.var 3) (.nil)))))) (.cons (.ifs (.not (.val (.call i_law_so (.cons (.call i_is_week (.cons (.call i_law_handed (.cons (.var 1) (.cons (.var 2) (.cons (.var 5) (.nil))))) (.nil))) (.cons (.call i_law_is_week (.cons (.var 5) (.nil))) (.nil)))))) (.cons (.ret (.cst (.bl false))) (.nil)) (.nil)) (.cons (.ifs (.and (.not (.val (.call i_law_is_week (.cons (.var 5) (.nil))))) (.not (.val (.call i_law_so (.cons (.call i_law_told (.cons (.var 5) (.cons (.neg (.cst (.int 1))) (.nil)))) (.cons (.tup (.cons (.cst (.str "bad")) (.cons (.cst (.int 0)) (.nil)))) (.nil))))))) (.cons (.ret (.cst (.bl false))) (.nil)) (.nil)) (.nil))))) (.cons (.forS (.name 4) (.r1 (.cst (.int 12))) (.cons (.asg (.name 6) (.call i_law_pick (.cons (.var 1) (.cons (.var 2) (.cons (.lst (.cons (.cst (.int 0)) (.cons (.cst (.int 1)) (.cons (.cst (.int 6)) (.cons (.cst (.int 7)) (.cons (.cst (.int 8)) (.cons (.cst (.int 1000)) (.cons (.call i_law_take (.cons (.var 1) (.cons (.var 2) (.cons (.cst (.int 997)) (.nil))))) (.nil))))))))) (.nil)))))) (.cons (.asg (.name 7) (.ix (.call i_law_pick (.cons (.var 1) (.cons (.var 2) (.cons (.call i_law_day_row (.cons (.var 3) (.cons (.var 6) (.nil)))) (.nil))))) (.cst (.int 0)))) (.cons (.asg (.name 8) (.bi .max2 (.cons (.cst (.int 0)) (.cons (.bin .sub (.bin .add (.bin .add (.bin .mul (.var 6) (.cst (.int 86400))) (.var 7)) (.call i_law_take (.cons (.var 1) (.cons (.var 2) (.cons (.cst (.int 3)) (.nil)))))) (.cst (.int 1))) (.nil))))) (.cons (.ifs (.not (.val (.call i_law_so (.cons (.call i_law_told (.cons (.call i_law_handed (.cons (.var 1) (.cons (.var 2) (.cons (.var 3) (.nil))))) (.cons (.var 8) (.nil)))) (.cons (.call i_law_band (.cons (.var 3) (.cons (.var 8) (.nil)))) (.nil)))))) (.cons (.ret (.cst (.bl false))) (.nil)) (.nil)) (.nil)))))) (.cons (.asg (.name 9) (.call i_law_pick (.cons (.var 1) (.cons (.var 2) (.cons (.lst (.cons (.cst .non) (.cons (.neg (.cst (.int 1))) (.cons (.bin .add (.bin .pow (.cst (.int 10)) (.cst (.int 8))) (.cst (.int 1))) (.cons (.cst (.str "0")) (.cons (.cst (.bl true)) (.nil))))))) (.nil)))))) (.cons (.ret (.and (.call i_law_so (.cons (.call i_law_told (.cons (.var 3) (.cons (.var 9) (.nil)))) (.cons (.tup (.cons (.cst (.str "bad")) (.cons (.cst (.int 1)) (.nil)))) (.nil)))) (.and (.call i_law_so (.cons (.call i_law_told (.cons (.var 3) (.cons (.bin .pow (.cst (.int 10)) (.cst (.int 8))) (.nil)))) (.cons (.call i_law_band (.cons (.var 3) (.cons (.bin .pow (.cst (.int 10)) (.cst (.int 8))) (.nil)))) (.nil)))) (.call i_law_so (.cons (.call i_is_week (.cons (.var 3) (.nil))) (.cons (.cst (.bl true)) (.nil))))))) (.nil)))))))
section
variable {P : Nat → Option Fn} {k f g : Nat} {S : Store} {x : Ix}
theorem rz_of {q : Fn} {ws : List W} {ρ : En} {d : D} (h : P f = some q) (h1 : ws.length = q.ar) (h2 : q.ar ≤ q.sl) (hρ : startE q.sl ws = ρ) (e : evSs (callF P k) q.body ρ S = some (.xc d S)) : Rz P (k + 1) f ws S (.xc d S) := by
  have := Rz.of h h1 h2 hρ e
  simpa using this
abbrev X05 : Ix := ⟨0, 1, 2, 3, 4, 5, 6, 7, 8, 9, 10, 11, 12, 13⟩
abbrev Y05 : Lx := ⟨15, 16, 17, 18, 19, 21, 22, 23, 24⟩
structure T05 (P : Nat → Option Fn) : Prop where
  ix : IxOk P X05
  lx : LxOk P Y05
  p14 : P 14 = some ⟨2, 2, B_band 0 4 11 13⟩
  p20 : P 20 = some ⟨1, 1, B_law_whole⟩
  p25 : P 25 = some ⟨3, 3, B_law_between 20⟩
  p26 : P 26 = some ⟨1, 2, B_law_is_word⟩
  p27 : P 27 = some ⟨1, 3, B_law_is_day 25 26⟩
  p28 : P 28 = some ⟨1, 3, B_law_is_week 25 27⟩
  p29 : P 29 = some ⟨2, 2, B_law_day_row⟩
  p30 : P 30 = some ⟨2, 5, B_law_band 29⟩
  p31 : P 31 = some ⟨2, 5, B_law_day 18 19 24⟩
  p32 : P 32 = some ⟨2, 6, B_law_week 18 24 31⟩
  p33 : P 33 = some ⟨3, 6, B_law_part_changed 18 24 33⟩
  p34 : P 34 = some ⟨2, 3, B_law_told5 14⟩
  p35 : P 35 = some ⟨1, 10, B_law5 11 15 16 18 23 24 28 29 30 32 33 34⟩
theorem T05.so (T : T05 P) {S : Store} {d : D} (h : Tv 9 d = true) {Q : D × Store → Prop} (q : Q (.bl true, S)) : OkR (callF P 40 15 [.d d, .d d] S) Q := ⟨_, T.lx.soR (k := 30) (m := 9) h, q⟩
theorem T05.bad (n : Int) : Tv 9 (.tup [.str "bad", .int n]) = true := rfl
end
end Pv

set_option Elab.async false
set_option linter.all false
set_option maxRecDepth 100000
set_option maxHeartbeats 2000000
namespace Pv
open PySem L2
def B_law_second_here (i_law_take i_law_wide i_law_pick : Nat) : Ss := .cons (.asg (.name 2) (.call i_law_take (.cons (.var 0) (.cons (.var 1) (.cons (.cst (.int 6)) (.nil)))))) (.cons (.ifs (.val (.cmp .eq (.var 2) (.cst (.int 0)))) (.cons (.ret (.call i_law_wide (.cons (.var 0) (.cons (.var 1) (.cons (.bin .add (.bin .pow (.cst (.int 10)) (.cst (.int 8))) (.cst (.int 1))) (.nil)))))) (.nil)) (.nil)) (.cons (.ifs (.val (.cmp .eq (.var 2) (.cst (.int 1)))) (.cons (.ret (.call i_law_pick (.cons (.var 0) (.cons (.var 1) (.cons (.lst (.cons (.cst (.int 0)) (.cons (.cst (.int 1)) (.cons (.cst (.int 86399)) (.cons (.cst (.int 86400)) (.cons (.bin .pow (.cst (.int 10)) (.cst (.int 8))) (.cons (.cst (.int 28800)) (.cons (.cst (.int 172800)) (.nil))))))))) (.nil)))))) (.nil)) (.nil)) (.cons (.ret (.bin .mul (.call i_law_take (.cons (.var 0) (.cons (.var 1) (.cons (.cst (.int 300)) (.nil))))) (.call i_law_pick (.cons (.var 0) (.cons (.var 1) (.cons (.lst (.cons (.cst (.int 1)) (.cons (.cst (.int 1)) (.cons (.cst (.int 60)) (.cons (.cst (.int 600)) (.nil)))))) (.nil))))))) (.nil))))
def B_law6 (i_band i_law_so i_law_numbers i_law_take i_law_handed i_law_pick i_law_next_change i_law_second_here i_law_day i_law_week i_law_told : Nat) : Ss := .cons (.asg (.name 1) (.call i_law_numbers (.cons (.var 0) (.nil)))) (.cons (.newL 2 (.cons (.cst (.int 0)) (.nil))) (.cons (.asg (.name 3) (.call i_law_week (.cons (.var 1) (.cons (.var 2) (.nil))))) (.cons (.ifs (.val (.cmp .eq (.call i_law_take (.cons (.var 1) (.cons (.var 2) (.cons (.cst (.int 3)) (.nil))))) (.cst (.int 0)))) (.cons (.asg (.name 3) (.tup (.cons (.bin .add (.bin .mul (.tup (.cons (.tup (.cons (.tup (.cons (.cst (.int 0)) (.cons (.cst (.str "low")) (.nil)))) (.nil))) (.nil))) (.cst (.int 7))) (.tup (.cons (.call i_law_day (.cons (.var 1) (.cons (.var 2) (.nil)))) (.nil)))) (.cons (.ix (.var 3) (.cst (.int 1))) (.nil))))) (.nil)) (.nil)) (.cons (.forS (.name 4) (.r1 (.cst (.int 6))) (.cons (.asg (.name 5) (.call i_law_pick (.cons (.var 1) (.cons (.var 2) (.cons (.lst (.cons (.call i_law_second_here (.cons (.var 1) (.cons (.var 2) (.nil)))) (.cons (.bin .sub (.bin .pow (.cst (.int 10)) (.cst (.int 8))) (.call i_law_take (.cons (.var 1) (.cons (.var 2) (.cons (.cst (.int 900)) (.nil)))))) (.cons (.bin .mul (.cst (.int 86400)) (.call i_law_take (.cons (.var 1) (.cons (.var 2) (.cons (.cst (.int 997)) (.nil)))))) (.nil))))) (.nil)))))) (.cons (.asg (.name 6) (.call i_law_told (.cons (.call i_law_handed (.cons (.var 1) (.cons (.var 2) (.cons (.var 3) (.nil))))) (.cons (.var 5) (.nil))))) (.cons (.ifs (.not (.val (.call i_law_so (.cons (.var 6) (.cons (.call i_law_next_change (.cons (.var 3) (.cons (.var 5) (.nil)))) (.nil)))))) (.cons (.ret (.cst (.bl false))) (.nil)) (.nil)) (.cons (.asg (.name 7) (.call i_band (.cons (.var 3) (.cons (.var 5) (.nil))))) (.cons (.ifs (.and (.val (.notN (.var 6))) (.or (.val (.cmp .eq (.call i_band (.cons (.var 3) (.cons (.var 6) (.nil)))) (.var 7))) (.val (.cmp .ne (.call i_band (.cons (.var 3) (.cons (.bin .sub (.var 6) (.cst (.int 1))) (.nil)))) (.var 7))))) (.cons (.ret (.cst (.bl false))) (.nil)) (.nil)) (.nil))))))) (.cons (.ifs (.not (.val (.call i_law_so (.cons (.call i_law_told (.cons (.call i_law_pick (.cons (.var 1) (.cons (.var 2) (.cons (.lst (.cons (.cst .non) (.cons (.cst (.int 7)) (.cons (.sl (.var 3) (.none) (.some (.cst (.int 1)))) (.cons (.tup (.cons (.sl (.ix (.var 3) (.cst (.int 0))) (.none) (.some (.cst (.int 7)))) (.cons (.ix (.var 3) (.cst (.int 1))) (.nil)))) (.nil)))))) (.nil))))) (.cons (.neg (.cst (.int 1))) (.nil)))) (.cons (.tup (.cons (.cst (.str "bad")) (.cons (.cst (.int 0)) (.nil)))) (.nil)))))) (.cons (.ret (.cst (.bl false))) (.nil)) (.nil)) (.cons (.ret (.and (.call i_law_so (.cons (.call i_law_told (.cons (.var 3) (.cons (.call i_law_pick (.cons (.var 1) (.cons (.var 2) (.cons (.lst (.cons (.cst .non) (.cons (.neg (.cst (.int 1))) (.cons (.bin .add (.bin .pow (.cst (.int 10)) (.cst (.int 8))) (.cst (.int 1))) (.cons (.cst (.bl true)) (.nil)))))) (.nil))))) (.nil)))) (.cons (.tup (.cons (.cst (.str "bad")) (.cons (.cst (.int 1)) (.nil)))) (.nil)))) (.call i_law_so (.cons (.call i_law_told (.cons (.var 3) (.cons (.bin .pow (.cst (.int 10)) (.cst (.int 8))) (.nil)))) (.cons (.cst .non) (.nil)))))) (.nil)))))))
section
variable {P : Nat → Option Fn} {k f g : Nat} {S : Store} {x : Ix} {r : D} {ms : List MO} {i : Int} {y : Lx}
abbrev Y06 : Lx := ⟨16, 17, 18, 19, 20, 21, 22, 23, 24⟩
structure T06 (P : Nat → Option Fn) : Prop where
  ix : IxOk P X05
  lx : LxOk P Y06
  p14 : P 14 = some ⟨2, 2, B_band 0 4 11 13⟩
  p15 : P 15 = some ⟨2, 7, B_next_change 0 4 11 12 13⟩
  p25 : P 25 = some ⟨2, 2, B_law_day_row⟩
  p26 : P 26 = some ⟨2, 5, B_law_band 25⟩
  p27 : P 27 = some ⟨2, 7, B_law_next_change 25 26⟩
  p28 : P 28 = some ⟨2, 3, B_law_second_here 19 20 24⟩
  p29 : P 29 = some ⟨2, 5, B_law_day 19 20 24⟩
  p30 : P 30 = some ⟨2, 6, B_law_week 19 24 29⟩
  p31 : P 31 = some ⟨2, 3, B_law_told5 15⟩
  p32 : P 32 = some ⟨1, 8, B_law6 14 16 17 19 23 24 27 28 29 30 31⟩
theorem T06.so (T : T06 P) {S : Store} {d : D} (h : Tv 9 d = true) {Q : D × Store → Prop} (q : Q (.bl true, S)) : OkR (callF P 40 16 [.d d, .d d] S) Q := ⟨_, T.lx.soR (k := 30) (m := 9) h, q⟩
end
end Pv

set_option Elab.async false
set_option linter.all false
set_option maxRecDepth 100000
set_option maxHeartbeats 2000000
namespace Pv
open PySem L2
section
variable {days : List (List St)} {feasts : List Int}
def bw (days : List (List St)) (feasts : List Int) (t : Int) : Str := match bandOf days feasts t with
  | .str v => v
  | _ => ""
theorem bw_eq (hw : WeekOk days feasts) (t : Int) : bandOf days feasts t = .str (bw days feasts t) := by
  obtain ⟨w, e⟩ := bandOf_str (x := t) hw
  unfold bw
  rw [e]
def tot (days : List (List St)) (feasts : List Int) (φ : Str → Int) (a b : Int) : Int := ((List.range (b - a).toNat).map fun (j : Nat) => φ (bw days feasts (a + (j : Int)))).sum
theorem tot_self {φ : Str → Int} {a : Int} : tot days feasts φ a a = 0 := by simp [tot]
theorem tot_add {φ : Str → Int} {a b c : Int} (h1 : a ≤ b) (h2 : b ≤ c) : tot days feasts φ a c = tot days feasts φ a b + tot days feasts φ b c := by
  unfold tot
  have e : (c - a).toNat = (b - a).toNat + (c - b).toNat := by omega
  rw [e, List.range_add, List.map_append, List.sum_append, List.map_map]
  congr 2
  apply List.map_congr_left
  intro j _
  show φ (bw days feasts (a + (((b - a).toNat + j : Nat) : Int))) = _
  congr 2
  omega
theorem sum_const : ∀ (n : Nat) (f : Nat → Int) (v : Int), (∀ j, j < n → f j = v) → ((List.range n).map f).sum = (n : Int) * v
  | 0, _, _, _ => by simp
  | n + 1, f, v, h => by
    rw [List.range_succ, List.map_append, List.sum_append, sum_const n f v fun j hj => h j (by omega)]
    simp [h n (by omega)]
    rw [Int.add_mul]; omega
theorem tot_const {φ : Str → Int} {a b : Int} {v : Str} (h1 : a ≤ b) (h : ∀ t, a ≤ t → t < b → bw days feasts t = v) : tot days feasts φ a b = (b - a) * φ v := by
  unfold tot
  rw [sum_const _ _ (φ v) fun j hj => by rw [h _ (by omega) (by omega)]]
  congr 1
  omega
inductive Parts (days : List (List St)) (feasts : List Int) : Int → Int → List Pc → Prop
  | nil {a : Int} : Parts days feasts a a []
  | cons {a e b : Int} {v : Str} {t : List Pc} : a < e → (∀ z, a ≤ z → z < e → bw days feasts z = v) → Parts days feasts e b t → Parts days feasts a b ((a, e, v) :: t)
theorem Parts.le {a b : Int} {l : List Pc} (h : Parts days feasts a b l) : a ≤ b := by
  induction h with
  | nil => omega
  | cons h _ _ ih => omega
theorem Parts.append {a b c : Int} {l l' : List Pc} (h : Parts days feasts a b l) (h' : Parts days feasts b c l') : Parts days feasts a c (l ++ l') := by
  induction h with
  | nil => exact h'
  | cons h1 h2 _ ih => exact .cons h1 h2 (ih h')
def sumF (φ : Str → Int) (ps : List Pc) : Int := (ps.map fun p => (p.2.1 - p.1) * φ p.2.2).sum
theorem Parts.sum {φ : Str → Int} {a b : Int} {l : List Pc} (h : Parts days feasts a b l) : sumF φ l = tot days feasts φ a b := by
  induction h with
  | nil => simp [sumF, tot_self]
  | @cons a e b v t h1 h2 h3 ih =>
    rw [tot_add (Int.le_of_lt h1) h3.le, ← ih, tot_const (Int.le_of_lt h1) h2]
    simp [sumF]
theorem Parts.len {a b : Int} {l : List Pc} (h : Parts days feasts a b l) : (l.length : Int) ≤ b - a := by
  induction h with
  | nil => simp
  | cons h1 _ _ ih => simp; omega
end
end Pv

set_option Elab.async false
set_option linter.all false
set_option maxRecDepth 100000
set_option maxHeartbeats 2000000
namespace Pv
open PySem L2
def B_law_parts (i_law_day_row i_law_band : Nat) : Ss := .cons (.newL 3 (.nil)) (.cons (.asg (.name 4) (.var 1)) (.cons (.forS (.name 5) (.r1 (.bin .pow (.cst (.int 10)) (.cst (.int 5)))) (.cons (.ifs (.val (.cmp .ge (.var 4) (.var 2))) (.cons (.brk) (.nil)) (.nil)) (.cons (.asg (.name 6) (.bin .div (.var 4) (.cst (.int 86400)))) (.cons (.asg (.name 7) (.bin .add (.comp [9, 10] (.tup (.tcons (.name 9) (.tcons (.name 10) (.tnil)))) (.seq (.call i_law_day_row (.cons (.var 0) (.cons (.var 6) (.nil))))) (.none) (.bin .add (.bin .mul (.var 6) (.cst (.int 86400))) (.var 9))) (.lst (.cons (.bin .mul (.bin .add (.var 6) (.cst (.int 1))) (.cst (.int 86400))) (.nil))))) (.cons (.asg (.name 8) (.bi .minL (.cons (.bin .add (.comp [11] (.name 11) (.seq (.var 7)) (.some (.val (.cmp .gt (.var 11) (.var 4)))) (.var 11)) (.lst (.cons (.var 2) (.nil)))) (.nil)))) (.cons (.app 3 (.tup (.cons (.var 4) (.cons (.var 8) (.cons (.call i_law_band (.cons (.var 0) (.cons (.var 4) (.nil)))) (.nil)))))) (.cons (.asg (.name 4) (.var 8)) (.nil)))))))) (.cons (.ret (.var 3)) (.nil))))
def one (now v : Str) : Int := if v = now then 1 else 0
section
variable {P : Nat → Option Fn} {k f g : Nat} {S : Store} {x : Ix} {days : List (List St)} {feasts : List Int}
end
end Pv

set_option Elab.async false
set_option linter.all false
set_option maxRecDepth 100000
set_option maxHeartbeats 2000000
namespace Pv
open PySem L2
section
variable {P : Nat → Option Fn} {k f g : Nat} {S : Store} {days : List (List St)} {feasts : List Int}
end
end Pv

set_option Elab.async false
set_option linter.all false
set_option maxRecDepth 100000
set_option maxHeartbeats 2000000
namespace Pv
open PySem L2
def B_law_seconds_in (i_law_parts : Nat) : Ss := .cons (.asg (.name 4) (.cst (.int 0))) (.cons (.asg (.name 5) (.var 1)) (.cons (.forS (.name 6) (.r1 (.cst (.int 3000))) (.cons (.ifs (.val (.cmp .ge (.var 5) (.var 2))) (.cons (.brk) (.nil)) (.nil)) (.cons (.asg (.name 7) (.bin .div (.var 5) (.cst (.int 86400)))) (.cons (.asg (.name 8) (.comp [10] (.name 10) (.seq (.ix (.var 0) (.cst (.int 1)))) (.some (.val (.chain .le .lt (.var 7) (.var 10) (.bin .add (.var 7) (.cst (.int 7)))))) (.var 10))) (.cons (.ifs (.and (.val (.cmp .eq (.var 5) (.bin .mul (.var 7) (.cst (.int 86400))))) (.and (.val (.cmp .gt (.bin .sub (.var 2) (.var 5)) (.bin .mul (.cst (.int 14)) (.cst (.int 86400))))) (.val (.cmp .eq (.bi .len (.cons (.var 8) (.nil))) (.cst (.int 0)))))) (.cons (.asg (.name 4) (.bin .add (.var 4) (.bi .sum (.cons (.comp [11, 12, 13] (.tup (.tcons (.name 11) (.tcons (.name 12) (.tcons (.name 13) (.tnil))))) (.seq (.call i_law_parts (.cons (.var 0) (.cons (.var 5) (.cons (.bin .add (.var 5) (.bin .mul (.cst (.int 7)) (.cst (.int 86400)))) (.nil)))))) (.some (.val (.cmp .eq (.var 13) (.var 3)))) (.bin .sub (.var 12) (.var 11))) (.nil))))) (.cons (.asg (.name 5) (.bin .add (.var 5) (.bin .mul (.cst (.int 7)) (.cst (.int 86400))))) (.nil))) (.cons (.asg (.name 9) (.bi .min2 (.cons (.var 2) (.cons (.bin .mul (.bin .add (.bin .div (.var 5) (.cst (.int 86400))) (.cst (.int 1))) (.cst (.int 86400))) (.nil))))) (.cons (.asg (.name 4) (.bin .add (.var 4) (.bi .sum (.cons (.comp [11, 12, 13] (.tup (.tcons (.name 11) (.tcons (.name 12) (.tcons (.name 13) (.tnil))))) (.seq (.call i_law_parts (.cons (.var 0) (.cons (.var 5) (.cons (.var 9) (.nil)))))) (.some (.val (.cmp .eq (.var 13) (.var 3)))) (.bin .sub (.var 12) (.var 11))) (.nil))))) (.cons (.asg (.name 5) (.var 9)) (.nil))))) (.nil)))))) (.cons (.ret (.var 4)) (.nil))))
section
variable {P : Nat → Option Fn} {k f g : Nat} {S : Store} {days : List (List St)} {feasts : List Int}
end
end Pv

set_option Elab.async false
set_option linter.all false
set_option maxRecDepth 100000
set_option maxHeartbeats 2000000
namespace Pv
open PySem L2
def B_law_told7 (i_seconds_in : Nat) : Ss := .cons (.tryR (.call i_seconds_in (.cons (.var 0) (.cons (.var 1) (.cons (.var 2) (.cons (.var 3) (.nil)))))) 4 "bad") (.nil)
def B_law7 (i_law_so i_law_numbers i_law_take i_law_wide i_law_handed i_law_pick i_law_seconds_in i_law_second_here i_law_week i_law_told : Nat) : Ss := .cons (.asg (.name 1) (.call i_law_numbers (.cons (.var 0) (.nil)))) (.cons (.newL 2 (.cons (.cst (.int 0)) (.nil))) (.cons (.asg (.name 3) (.call i_law_week (.cons (.var 1) (.cons (.var 2) (.nil))))) (.cons (.forS (.name 4) (.r1 (.cst (.int 4))) (.cons (.asg (.name 5) (.call i_law_second_here (.cons (.var 1) (.cons (.var 2) (.nil))))) (.cons (.asg (.name 6) (.call i_law_pick (.cons (.var 1) (.cons (.var 2) (.cons (.lst (.cons (.cst (.int 0)) (.cons (.call i_law_take (.cons (.var 1) (.cons (.var 2) (.cons (.cst (.int 900)) (.nil))))) (.cons (.call i_law_wide (.cons (.var 1) (.cons (.var 2) (.cons (.bin .pow (.cst (.int 10)) (.cst (.int 6))) (.nil))))) (.cons (.call i_law_wide (.cons (.var 1) (.cons (.var 2) (.cons (.bin .pow (.cst (.int 10)) (.cst (.int 8))) (.nil))))) (.nil)))))) (.nil)))))) (.cons (.asg (.name 7) (.bi .min2 (.cons (.bin .pow (.cst (.int 10)) (.cst (.int 8))) (.cons (.bin .add (.var 5) (.var 6)) (.nil))))) (.cons (.asg (.name 8) (.cst (.int 0))) (.cons (.forS (.name 9) (.seq (.tup (.cons (.cst (.str "low")) (.cons (.cst (.str "high")) (.cons (.cst (.str "mid")) (.cons (.cst (.str "none")) (.nil))))))) (.cons (.asg (.name 10) (.call i_law_told (.cons (.call i_law_handed (.cons (.var 1) (.cons (.var 2) (.cons (.var 3) (.nil))))) (.cons (.var 5) (.cons (.var 7) (.cons (.var 9) (.nil))))))) (.cons (.ifs (.not (.val (.call i_law_so (.cons (.var 10) (.cons (.call i_law_seconds_in (.cons (.var 3) (.cons (.var 5) (.cons (.var 7) (.cons (.var 9) (.nil)))))) (.nil)))))) (.cons (.ret (.cst (.bl false))) (.nil)) (.nil)) (.cons (.asg (.name 8) (.bin .add (.var 8) (.var 10))) (.nil))))) (.cons (.ifs (.val (.cmp .ne (.var 8) (.bin .sub (.var 7) (.var 5)))) (.cons (.ret (.cst (.bl false))) (.nil)) (.nil)) (.cons (.asg (.name 11) (.bin .add (.var 5) (.call i_law_wide (.cons (.var 1) (.cons (.var 2) (.cons (.bin .add (.bin .sub (.var 7) (.var 5)) (.cst (.int 1))) (.nil))))))) (.cons (.ifs (.not (.val (.call i_law_so (.cons (.bin .add (.call i_law_told (.cons (.var 3) (.cons (.var 5) (.cons (.var 11) (.cons (.cst (.str "low")) (.nil)))))) (.call i_law_told (.cons (.var 3) (.cons (.var 11) (.cons (.var 7) (.cons (.cst (.str "low")) (.nil))))))) (.cons (.call i_law_told (.cons (.var 3) (.cons (.var 5) (.cons (.var 7) (.cons (.cst (.str "low")) (.nil)))))) (.nil)))))) (.cons (.ret (.cst (.bl false))) (.nil)) (.nil)) (.cons (.ifs (.not (.val (.call i_law_so (.cons (.call i_law_told (.cons (.var 3) (.cons (.var 7) (.cons (.var 5) (.cons (.cst (.str "low")) (.nil)))))) (.cons (.cst (.int 0)) (.nil)))))) (.cons (.ret (.cst (.bl false))) (.nil)) (.nil)) (.nil))))))))))) (.cons (.asg (.name 12) (.call i_law_pick (.cons (.var 1) (.cons (.var 2) (.cons (.lst (.cons (.cst .non) (.cons (.neg (.cst (.int 1))) (.cons (.bin .add (.bin .pow (.cst (.int 10)) (.cst (.int 8))) (.cst (.int 1))) (.cons (.cst (.str "0")) (.cons (.cst (.bl true)) (.nil))))))) (.nil)))))) (.cons (.asg (.name 13) (.call i_law_pick (.cons (.var 1) (.cons (.var 2) (.cons (.lst (.cons (.cst .non) (.cons (.cst (.int 7)) (.cons (.cst (.str "")) (.cons (.cst (.str "A")) (.cons (.cst (.str "abcdefghi")) (.nil))))))) (.nil)))))) (.cons (.ifs (.or (.not (.val (.call i_law_so (.cons (.call i_law_told (.cons (.var 3) (.cons (.var 12) (.cons (.var 12) (.cons (.var 13) (.nil)))))) (.cons (.tup (.cons (.cst (.str "bad")) (.cons (.cst (.int 1)) (.nil)))) (.nil)))))) (.not (.val (.call i_law_so (.cons (.call i_law_told (.cons (.var 3) (.cons (.cst (.int 0)) (.cons (.var 12) (.cons (.var 13) (.nil)))))) (.cons (.tup (.cons (.cst (.str "bad")) (.cons (.cst (.int 2)) (.nil)))) (.nil))))))) (.cons (.ret (.cst (.bl false))) (.nil)) (.nil)) (.cons (.ret (.and (.call i_law_so (.cons (.call i_law_told (.cons (.var 3) (.cons (.cst (.int 0)) (.cons (.cst (.int 0)) (.cons (.var 13) (.nil)))))) (.cons (.tup (.cons (.cst (.str "bad")) (.cons (.cst (.int 3)) (.nil)))) (.nil)))) (.call i_law_so (.cons (.call i_law_told (.cons (.cst .non) (.cons (.var 12) (.cons (.var 12) (.cons (.var 13) (.nil)))))) (.cons (.tup (.cons (.cst (.str "bad")) (.cons (.cst (.int 0)) (.nil)))) (.nil)))))) (.nil))))))))
section
variable {P : Nat → Option Fn} {k f g : Nat} {S : Store} {x : Ix} {days : List (List St)} {feasts : List Int}
theorem bw_words (hw : WeekOk days feasts) (ww : ∀ r' ∈ days, ∀ p ∈ r', p.2 ∈ words3) (t : Int) : bw days feasts t ∈ words3 := by
  have e := bw_eq hw t
  have hr := rowAt_mem (feasts := feasts) (n := t / 86400) hw.len
  unfold bandOf at e
  rcases bandR_mem (s := t % 86400) (r := rowAt days feasts (t / 86400)) (b := .non) with h | ⟨p, hp, h⟩
  · rw [h] at e
    cases e
  · rw [h] at e
    have e := D.str.inj e
    rw [← e]
    exact ww _ hr p hp
abbrev X07 : Ix := ⟨0, 1, 2, 3, 4, 5, 6, 7, 8, 9, 10, 11, 12, 0⟩
abbrev Y07 : Lx := ⟨15, 16, 17, 18, 19, 20, 21, 22, 23⟩
structure T07 (P : Nat → Option Fn) : Prop where
  ix : IxB P X07
  lx : LxOk P Y07
  p13 : P 13 = some ⟨3, 13, B_stretches 12⟩
  p14 : P 14 = some ⟨4, 7, B_seconds_in 0 3 4 11 13⟩
  p24 : P 24 = some ⟨2, 2, B_law_day_row⟩
  p25 : P 25 = some ⟨2, 5, B_law_band 24⟩
  p26 : P 26 = some ⟨3, 12, B_law_parts 24 25⟩
  p27 : P 27 = some ⟨4, 14, B_law_seconds_in 26⟩
  p28 : P 28 = some ⟨2, 3, B_law_second_here 18 19 23⟩
  p29 : P 29 = some ⟨2, 5, B_law_day 18 19 23⟩
  p30 : P 30 = some ⟨2, 6, B_law_week 18 23 29⟩
  p31 : P 31 = some ⟨4, 5, B_law_told7 14⟩
  p32 : P 32 = some ⟨1, 14, B_law7 15 16 18 19 22 23 27 28 30 31⟩
theorem T07.so (T : T07 P) {S : Store} {d : D} (h : Tv 9 d = true) {Q : D × Store → Prop} (q : Q (.bl true, S)) : OkR (callF P 40 15 [.d d, .d d] S) Q := ⟨_, T.lx.soR (k := 30) (m := 9) h, q⟩
end
end Pv

set_option Elab.async false
set_option linter.all false
set_option maxRecDepth 100000
set_option maxHeartbeats 2000000
namespace Pv
open PySem L2
def B_zone_of : Ss := .cons (.asg (.name 2) (.cst .non)) (.cons (.forS (.tup (.tcons (.name 3) (.tcons (.name 4) (.tnil)))) (.seq (.ix (.var 0) (.cst (.int 1)))) (.cons (.ifs (.val (.mt1 .startswith (.var 1) (.var 3))) (.cons (.asg (.name 2) (.var 4)) (.nil)) (.nil)) (.nil))) (.cons (.ret (.var 2)) (.nil)))
def B_law_zone : Ss := .cons (.asg (.name 2) (.cst .non)) (.cons (.forS (.tup (.tcons (.name 3) (.tcons (.name 4) (.tnil)))) (.seq (.ix (.var 0) (.cst (.int 1)))) (.cons (.ifs (.and (.val (.cmp .eq (.sl (.var 1) (.none) (.some (.bi .len (.cons (.var 3) (.nil))))) (.var 3))) (.or (.val (.isN (.var 2))) (.val (.cmp .gt (.bi .len (.cons (.var 3) (.nil))) (.ix (.var 2) (.cst (.int 0))))))) (.cons (.asg (.name 2) (.tup (.cons (.bi .len (.cons (.var 3) (.nil))) (.cons (.var 4) (.nil))))) (.nil)) (.nil)) (.nil))) (.cons (.ret (.ix (.var 2) (.cst (.int 1)))) (.nil)))
def pfx (n p : Str) : Bool := n.cps.toList.take p.cps.toList.length == p.cps.toList
abbrev Zn := Str × Str
section
variable {P : Nat → Option Fn} {k f g : Nat} {S : Store}
end
end Pv

set_option Elab.async false
set_option linter.all false
set_option maxRecDepth 100000
set_option maxHeartbeats 2000000
namespace Pv
open PySem L2
def B_zone_prices : Ss := .cons (.ret (.dcomp [2, 3, 4] (.tup (.tcons (.name 2) (.tcons (.name 3) (.tcons (.name 4) (.tnil))))) (.seq (.ix (.var 0) (.cst (.int 2)))) (.some (.val (.cmp .eq (.var 2) (.var 1)))) (.var 3) (.var 4))) (.nil)
def B_prices_of (i_zone_of i_zone_prices : Nat) : Ss := .cons (.ret (.call i_zone_prices (.cons (.var 0) (.cons (.call i_zone_of (.cons (.var 0) (.cons (.var 1) (.nil)))) (.nil))))) (.nil)
def PrOk (P : Nat → Option Fn) (pr zo : Nat) : Prop := ∃ zp, P pr = some ⟨2, 2, B_prices_of zo zp⟩ ∧ P zp = some ⟨2, 5, B_zone_prices⟩
def B_law_price_of : Ss := .cons (.asg (.name 3) (.comp [4] (.name 4) (.seq (.ix (.var 0) (.cst (.int 2)))) (.some (.val (.cmp .eq (.sl (.var 4) (.none) (.some (.cst (.int 2)))) (.tup (.cons (.var 1) (.cons (.var 2) (.nil))))))) (.ix (.var 4) (.cst (.int 2))))) (.cons (.ret (.ite (.val (.cmp .gt (.bi .len (.cons (.var 3) (.nil))) (.cst (.int 0)))) (.ix (.var 3) (.cst (.int 0))) (.cst (.int 0)))) (.nil))
abbrev Pr := Str × Str × Int
section
variable {P : Nat → Option Fn} {k f g : Nat} {S : Store}
end
end Pv

set_option Elab.async false
set_option linter.all false
set_option maxRecDepth 100000
set_option maxHeartbeats 2000000
namespace Pv
open PySem L2
def B_cost_of (i_stretches i_prices_of : Nat) : Ss := .cons (.asg (.name 5) (.call i_prices_of (.cons (.var 0) (.cons (.var 2) (.nil))))) (.cons (.asg (.name 6) (.call i_stretches (.cons (.var 1) (.cons (.var 3) (.cons (.bin .add (.var 3) (.var 4)) (.nil)))))) (.cons (.ret (.bin .add (.ix (.var 0) (.cst (.int 0))) (.bi .sum (.cons (.comp [7, 8, 9] (.tup (.tcons (.name 7) (.tcons (.name 8) (.tcons (.name 9) (.tnil))))) (.seq (.var 6)) (.none) (.bin .mul (.bin .sub (.var 8) (.var 7)) (.get2 (.var 5) (.var 9) (.cst (.int 0))))) (.nil))))) (.nil)))
def B_law_cost (i_law_parts i_law_zone i_law_price_of : Nat) : Ss := .cons (.asg (.name 5) (.ix (.var 0) (.cst (.int 0)))) (.cons (.asg (.name 6) (.call i_law_zone (.cons (.var 0) (.cons (.var 2) (.nil))))) (.cons (.forS (.tup (.tcons (.name 7) (.tcons (.name 8) (.tcons (.name 9) (.tnil))))) (.seq (.call i_law_parts (.cons (.var 1) (.cons (.var 3) (.cons (.bin .add (.var 3) (.var 4)) (.nil)))))) (.cons (.asg (.name 5) (.bin .add (.var 5) (.bin .mul (.bin .sub (.var 8) (.var 7)) (.call i_law_price_of (.cons (.var 0) (.cons (.var 6) (.cons (.var 9) (.nil)))))))) (.nil))) (.cons (.ret (.var 5)) (.nil))))
section
variable {P : Nat → Option Fn} {k f g s dy zo pr : Nat} {S : Store} {days : List (List St)} {feasts : List Int} {setup : Int} {zs : List Zn} {ps : List Pr}
theorem Parts.names {a b : Int} {B : List Pc} (h : Parts days feasts a b B) (ww : ∀ r' ∈ days, ∀ p ∈ r', p.2 ∈ words3) (hw : WeekOk days feasts) : ∀ p ∈ B, p.2.2 ∈ words3 := by
  induction h with
  | nil => intro p hp; simp at hp
  | @cons a e b v t h1 h2 h3 ih =>
    intro p hp
    rcases List.mem_cons.mp hp with rfl | hp
    · show v ∈ words3
      rw [← h2 a (Int.le_refl _) h1]
      exact bw_words hw ww a
    · exact ih p hp
end
end Pv

set_option Elab.async false
set_option linter.all false
set_option maxRecDepth 100000
set_option maxHeartbeats 2000000
namespace Pv
open PySem L2
def B_is_digits : Ss := .cons (.ifs (.or (.not (.val (.isi1 (.var 0) "str"))) (.not (.val (.chain .le .le (.var 1) (.bi .len (.cons (.var 0) (.nil))) (.var 2))))) (.cons (.ret (.cst (.bl false))) (.nil)) (.nil)) (.cons (.ret (.or (.cmp .eq (.var 0) (.cst (.str ""))) (.and (.mt0 .isascii (.var 0)) (.mt0 .isdigit (.var 0))))) (.nil))
def B_is_zone (i_is_digits i_is_word i_is_rows : Nat) : Ss := .cons (.ret (.and (.call i_is_rows (.cons (.var 0) (.cons (.cst (.int 2)) (.cons (.cst (.int 2)) (.nil))))) (.and (.call i_is_digits (.cons (.ix (.var 0) (.cst (.int 0))) (.cons (.cst (.int 0)) (.cons (.cst (.int 3)) (.nil))))) (.call i_is_word (.cons (.ix (.var 0) (.cst (.int 1))) (.nil)))))) (.nil)
def B_is_price (i_is_within i_is_word i_is_rows : Nat) : Ss := .cons (.ret (.and (.call i_is_rows (.cons (.var 0) (.cons (.cst (.int 3)) (.cons (.cst (.int 3)) (.nil))))) (.and (.call i_is_word (.cons (.ix (.var 0) (.cst (.int 0))) (.nil))) (.and (.call i_is_word (.cons (.ix (.var 0) (.cst (.int 1))) (.nil))) (.call i_is_within (.cons (.ix (.var 0) (.cst (.int 2))) (.cons (.cst (.int 0)) (.cons (.cst (.int 1000000)) (.nil))))))))) (.nil)
def B_is_tariff (i_is_within i_is_rows i_is_rows_of i_is_ascending i_is_zone i_is_price : Nat) : Ss := .cons (.ifs (.not (.val (.call i_is_rows (.cons (.var 0) (.cons (.cst (.int 3)) (.cons (.cst (.int 3)) (.nil))))))) (.cons (.ret (.cst (.bl false))) (.nil)) (.nil)) (.cons (.asg (.tup (.tcons (.name 1) (.tcons (.name 2) (.tcons (.name 3) (.tnil))))) (.var 0)) (.cons (.ifs (.not (.and (.val (.call i_is_within (.cons (.var 1) (.cons (.cst (.int 0)) (.cons (.cst (.int 1000000)) (.nil)))))) (.val (.call i_is_rows_of (.cons (.var 2) (.cons (.cst (.int 1)) (.cons (.cst (.int 12)) (.cons (.fnv i_is_zone) (.nil))))))))) (.cons (.ret (.cst (.bl false))) (.nil)) (.nil)) (.cons (.asg (.name 4) (.comp [5] (.name 5) (.seq (.var 2)) (.none) (.ix (.var 5) (.cst (.int 0))))) (.cons (.ifs (.or (.val (.cmp .ne (.ix (.var 4) (.cst (.int 0))) (.cst (.str "")))) (.not (.val (.call i_is_ascending (.cons (.var 4) (.nil)))))) (.cons (.ret (.cst (.bl false))) (.nil)) (.nil)) (.cons (.ret (.and (.call i_is_rows_of (.cons (.var 3) (.cons (.cst (.int 0)) (.cons (.cst (.int 40)) (.cons (.fnv i_is_price) (.nil)))))) (.call i_is_ascending (.cons (.comp [5] (.name 5) (.seq (.var 3)) (.none) (.tup (.cons (.ix (.var 5) (.cst (.int 0))) (.cons (.ix (.var 5) (.cst (.int 1))) (.nil))))) (.nil))))) (.nil))))))
section
variable {P : Nat → Option Fn} {k f g : Nat} {S : Store}
def PairLt (p q : Str × Str) : Prop := p.1.cps.toList < q.1.cps.toList ∨ (p.1 = q.1 ∧ p.2.cps.toList < q.2.cps.toList)
def digB (w : Str) : Bool := decide (w = ("" : Str)) || (Txt.isascii w && Txt.isdigit w)
structure Tx where
  within : Nat
  int : Nat
  digits : Nat
  word : Nat
  rows : Nat
  rowsOf : Nat
  asc : Nat
  zone : Nat
  price : Nat
  tariff : Nat
structure TxOk (P : Nat → Option Fn) (x : Tx) : Prop where
  within : P x.within = some ⟨3, 3, B_is_within x.int⟩
  int : P x.int = some ⟨1, 1, B_is_integer⟩
  digits : P x.digits = some ⟨3, 3, B_is_digits⟩
  word : P x.word = some ⟨1, 1, B_is_word⟩
  rows : P x.rows = some ⟨3, 3, B_is_rows⟩
  rowsOf : P x.rowsOf = some ⟨4, 5, B_is_rows_of x.rows⟩
  asc : P x.asc = some ⟨1, 2, B_is_ascending⟩
  zone : P x.zone = some ⟨1, 1, B_is_zone x.digits x.word x.rows⟩
  price : P x.price = some ⟨1, 1, B_is_price x.within x.word x.rows⟩
  tariff : P x.tariff = some ⟨1, 6, B_is_tariff x.within x.rows x.rowsOf x.asc x.zone x.price⟩
end
end Pv

set_option Elab.async false
set_option linter.all false
set_option maxRecDepth 100000
set_option maxHeartbeats 2000000
namespace Pv
open PySem L2
def kp (p : Str × Str) : List Key := [.inr p.1, .inr p.2]
instance (p q : Str × Str) : Decidable (PairLt p q) := inferInstanceAs (Decidable (_ ∨ (_ ∧ _)))
end Pv

set_option Elab.async false
set_option linter.all false
set_option maxRecDepth 100000
set_option maxHeartbeats 2000000
namespace Pv
open PySem L2
theorem look_gen {κ α β : Type} [DecidableEq κ] {kf : α → κ} {vf : β → D} : ∀ {a : List α} {b : List β} {x : α}, a.length = b.length → x ∈ a → ∃ y ∈ b, lookD (kf x) (a.map kf) (b.map vf) = some (vf y)
  | [], _, _, _, h => by simp at h
  | _ :: _, [], _, h, _ => by simp at h
  | u :: a, v :: b, x, h, hx => by
    by_cases hu : kf u = kf x
    · exact ⟨v, List.mem_cons_self, by simp [lookD, hu]⟩
    · have hx' : x ∈ a := by
        rcases List.mem_cons.mp hx with rfl | hx
        · exact absurd rfl hu
        · exact hx
      obtain ⟨y, hy, e⟩ := look_gen (kf := kf) (vf := vf) (a := a) (b := b) (by simpa using h) hx'
      exact ⟨y, List.mem_cons_of_mem _ hy, by simpa [lookD, hu] using e⟩
def B_law_tariff (i_law_take i_law_pick : Nat) : Ss := .cons (.newDK 2 (.cons (.cst (.str "")) (.cons (.call i_law_pick (.cons (.var 0) (.cons (.var 1) (.cons (.lst (.cons (.cst (.str "far")) (.cons (.cst (.str "home")) (.cons (.cst (.str "far")) (.cons (.cst (.str "home")) (.cons (.cst (.str "none")) (.nil))))))) (.nil))))) (.nil)))) (.cons (.forS (.name 3) (.r1 (.call i_law_take (.cons (.var 0) (.cons (.var 1) (.cons (.cst (.int 5)) (.nil)))))) (.cons (.setD 2 (.call i_law_pick (.cons (.var 0) (.cons (.var 1) (.cons (.lst (.cons (.cst (.str "4")) (.cons (.cst (.str "40")) (.cons (.cst (.str "401")) (.cons (.cst (.str "5")) (.cons (.cst (.str "50")) (.cons (.cst (.str "3")) (.cons (.cst (.str "33")) (.cons (.cst (.str "345")) (.cons (.cst (.str "1")) (.nil))))))))))) (.nil))))) (.call i_law_pick (.cons (.var 0) (.cons (.var 1) (.cons (.lst (.cons (.cst (.str "far")) (.cons (.cst (.str "home")) (.cons (.cst (.str "near")) (.cons (.cst (.str "near")) (.cons (.cst (.str "none")) (.nil))))))) (.nil)))))) (.nil))) (.cons (.newT 4) (.cons (.forS (.name 3) (.r1 (.call i_law_take (.cons (.var 0) (.cons (.var 1) (.cons (.cst (.int 9)) (.nil)))))) (.cons (.asg (.name 5) (.tup (.cons (.call i_law_pick (.cons (.var 0) (.cons (.var 1) (.cons (.lst (.cons (.cst (.str "far")) (.cons (.cst (.str "home")) (.cons (.cst (.str "near")) (.nil))))) (.nil))))) (.cons (.call i_law_pick (.cons (.var 0) (.cons (.var 1) (.cons (.lst (.cons (.cst (.str "low")) (.cons (.cst (.str "high")) (.cons (.cst (.str "mid")) (.nil))))) (.nil))))) (.nil))))) (.cons (.setD 4 (.var 5) (.call i_law_pick (.cons (.var 0) (.cons (.var 1) (.cons (.lst (.cons (.cst (.int 0)) (.cons (.cst (.int 1)) (.cons (.cst (.int 2)) (.cons (.cst (.int 3)) (.cons (.cst (.int 7)) (.cons (.cst (.int 40)) (.cons (.cst (.int 1000000)) (.nil))))))))) (.nil)))))) (.nil)))) (.cons (.asg (.name 6) (.bi .tuple (.cons (.comp [7] (.name 7) (.seq (.bi .sorted (.cons (.var 2) (.nil)))) (.none) (.tup (.cons (.var 7) (.cons (.dget (.var 2) (.var 7)) (.nil))))) (.nil)))) (.cons (.ret (.tup (.cons (.call i_law_pick (.cons (.var 0) (.cons (.var 1) (.cons (.lst (.cons (.cst (.int 0)) (.cons (.cst (.int 0)) (.cons (.cst (.int 1)) (.cons (.cst (.int 50)) (.cons (.cst (.int 1000000)) (.nil))))))) (.nil))))) (.cons (.var 6) (.cons (.bi .tuple (.cons (.comp [5] (.name 5) (.seq (.bi .sorted (.cons (.var 4) (.nil)))) (.none) (.bin .add (.var 5) (.tup (.cons (.dget (.var 4) (.var 5)) (.nil))))) (.nil))) (.nil)))))) (.nil))))))
def zpre : List Str := ["", "4", "40", "401", "5", "50", "3", "33", "345", "1"]
def zwords : List Str := ["far", "home", "near", "none"]
def pzones : List Str := ["far", "home", "near"]
structure ZK (n : Nat) (kz wz : List Str) : Prop where
  len : kz.length = wz.length
  nd : kz.Nodup
  nil : ("" : Str) ∈ kz
  each : ∀ k ∈ kz, k ∈ zpre
  word : ∀ w ∈ wz, w ∈ zwords
  few : kz.length ≤ n + 1
structure PK (n : Nat) (kz : List (Str × Str)) (wz : List Int) : Prop where
  len : kz.length = wz.length
  nd : kz.Nodup
  each : ∀ k ∈ kz, k.1 ∈ pzones ∧ k.2 ∈ words3
  val : ∀ w ∈ wz, 0 ≤ w ∧ w ≤ 1000000
  few : kz.length ≤ n
def wordAt (kz wz : List Str) (k : Str) : Str := match lookD (κ := Key) (.inr k) (kz.map .inr) (wz.map .str) with
  | some (.str w) => w
  | _ => ""
def valAt (kz : List (Str × Str)) (wz : List Int) (k : Str × Str) : Int := match lookD (kp k) (kz.map kp) (wz.map .int) with
  | some (.int w) => w
  | _ => 0
theorem ZK.at {n : Nat} {kz wz : List Str} (h : ZK n kz wz) {k : Str} (hk : k ∈ kz) : lookD (κ := Key) (.inr k) (kz.map .inr) (wz.map .str) = some (.str (wordAt kz wz k)) ∧ wordAt kz wz k ∈ zwords := by
  obtain ⟨w, hw, e⟩ := look_gen (kf := fun x : Str => (Sum.inr x : Key)) (vf := D.str) h.len hk
  have e' : wordAt kz wz k = w := by
    unfold wordAt
    rw [show lookD (κ := Key) (.inr k) (kz.map .inr) (wz.map .str) = some (.str w) from e]
  exact ⟨by rw [e']; exact e, by rw [e']; exact h.word w hw⟩
theorem PK.at {n : Nat} {kz : List (Str × Str)} {wz : List Int} (h : PK n kz wz) {k : Str × Str} (hk : k ∈ kz) : lookD (kp k) (kz.map kp) (wz.map .int) = some (.int (valAt kz wz k)) ∧ 0 ≤ valAt kz wz k ∧ valAt kz wz k ≤ 1000000 := by
  obtain ⟨w, hw, e⟩ := look_gen (kf := kp) (vf := D.int) h.len hk
  have e' : valAt kz wz k = w := by
    unfold valAt
    rw [e]
  exact ⟨by rw [e']; exact e, by rw [e']; exact h.val w hw⟩
end Pv

set_option Elab.async false
set_option linter.all false
set_option maxRecDepth 100000
set_option maxHeartbeats 2000000
namespace Pv
open PySem L2
section
variable {P : Nat → Option Fn} {k f : Nat} {r : D} {ms : List MO} {i : Int} {y : Lx}
end
end Pv

set_option Elab.async false
set_option linter.all false
set_option maxRecDepth 100000
set_option maxHeartbeats 2000000
namespace Pv
open PySem L2
def B_is_number (i_is_digits : Nat) : Ss := .cons (.ret (.call i_is_digits (.cons (.var 0) (.cons (.cst (.int 2)) (.cons (.cst (.int 8)) (.nil)))))) (.nil)
def B_law_told9 (i_cost : Nat) : Ss := .cons (.tryR (.call i_cost (.cons (.var 0) (.cons (.var 1) (.cons (.var 2) (.cons (.var 3) (.cons (.var 4) (.nil))))))) 5 "bad") (.nil)
section
variable {P : Nat → Option Fn} {k f g : Nat} {S : Store}
end
end Pv

set_option Elab.async false
set_option linter.all false
set_option maxRecDepth 100000
set_option maxHeartbeats 2000000
namespace Pv
open PySem L2
def B_law_number_here (i_law_take : Nat) : Ss := .cons (.asg (.name 3) (.lst (.cons (.cst (.str "40123")) (.cons (.cst (.str "40124")) (.cons (.cst (.str "40999")) (.cons (.cst (.str "50123")) (.cons (.cst (.str "50200")) (.cons (.cst (.str "333")) (.cons (.cst (.str "345")) (.cons (.cst (.str "4012345")) (.cons (.cst (.str "11")) (.cons (.cst (.str "22")) (.nil))))))))))))) (.cons (.ifs (.val (.cmp .eq (.call i_law_take (.cons (.var 0) (.cons (.var 1) (.cons (.cst (.int 10)) (.nil))))) (.cst (.int 0)))) (.cons (.asg (.name 4) (.cst (.str ""))) (.cons (.forS (.name 5) (.r1 (.bin .add (.cst (.int 3)) (.call i_law_take (.cons (.var 0) (.cons (.var 1) (.cons (.cst (.int 6)) (.nil))))))) (.cons (.asg (.name 4) (.bin .add (.var 4) (.bi .str (.cons (.call i_law_take (.cons (.var 0) (.cons (.var 1) (.cons (.cst (.int 10)) (.nil))))) (.nil))))) (.nil))) (.cons (.ret (.var 4)) (.nil)))) (.nil)) (.cons (.ret (.ix (.var 3) (.call i_law_take (.cons (.var 0) (.cons (.var 1) (.cons (.ite (.val (.var 2)) (.cst (.int 10)) (.cst (.int 8))) (.nil))))))) (.nil)))
section
variable {P : Nat → Option Fn} {k f : Nat} {r : D} {ms : List MO} {i : Int} {y : Lx}
end
end Pv

set_option Elab.async false
set_option linter.all false
set_option maxRecDepth 100000
set_option maxHeartbeats 2000000
namespace Pv
open PySem L2
def B_cost (i_need i_is_within i_is_number i_is_second i_is_week i_is_tariff i_cost_of : Nat) : Ss := .cons (.dropX (.call i_need (.cons (.call i_is_tariff (.cons (.var 0) (.nil))) (.cons (.cst (.int 0)) (.nil))))) (.cons (.dropX (.call i_need (.cons (.call i_is_week (.cons (.var 1) (.nil))) (.cons (.cst (.int 1)) (.nil))))) (.cons (.dropX (.call i_need (.cons (.call i_is_number (.cons (.var 2) (.nil))) (.cons (.cst (.int 2)) (.nil))))) (.cons (.dropX (.call i_need (.cons (.call i_is_second (.cons (.var 3) (.nil))) (.cons (.cst (.int 3)) (.nil))))) (.cons (.dropX (.call i_need (.cons (.call i_is_within (.cons (.var 4) (.cons (.cst (.int 0)) (.cons (.cst (.int 1000000)) (.nil))))) (.cons (.cst (.int 4)) (.nil))))) (.cons (.ret (.call i_cost_of (.cons (.var 0) (.cons (.var 1) (.cons (.var 2) (.cons (.var 3) (.cons (.var 4) (.nil)))))))) (.nil))))))
section
variable {P : Nat → Option Fn} {k f g : Nat} {S : Store} {x : Ix} {t : Tx} {days : List (List St)} {feasts : List Int} {setup : Int} {zs : List Zn} {ps : List Pr}
section
variable {nb co : Nat} {d wk n a l : D}
end
end
end Pv

set_option Elab.async false
set_option linter.all false
set_option maxRecDepth 100000
set_option maxHeartbeats 2000000
namespace Pv
open PySem L2
def B_price (i_need i_is_number i_is_second i_is_week i_band_at i_is_tariff i_prices_of : Nat) : Ss := .cons (.dropX (.call i_need (.cons (.call i_is_tariff (.cons (.var 0) (.nil))) (.cons (.cst (.int 0)) (.nil))))) (.cons (.dropX (.call i_need (.cons (.call i_is_week (.cons (.var 1) (.nil))) (.cons (.cst (.int 1)) (.nil))))) (.cons (.dropX (.call i_need (.cons (.call i_is_number (.cons (.var 2) (.nil))) (.cons (.cst (.int 2)) (.nil))))) (.cons (.dropX (.call i_need (.cons (.call i_is_second (.cons (.var 3) (.nil))) (.cons (.cst (.int 3)) (.nil))))) (.cons (.ret (.get2 (.call i_prices_of (.cons (.var 0) (.cons (.var 2) (.nil)))) (.call i_band_at (.cons (.var 1) (.cons (.var 3) (.nil)))) (.cst (.int 0)))) (.nil)))))
section
variable {P : Nat → Option Fn} {k f g : Nat} {S : Store} {x : Ix} {t : Tx} {days : List (List St)} {feasts : List Int} {setup : Int} {zs : List Zn} {ps : List Pr}
end
end Pv

set_option Elab.async false
set_option linter.all false
set_option maxRecDepth 100000
set_option maxHeartbeats 2000000
namespace Pv
open PySem L2
def B_law9 (i_price i_law_so i_law_numbers i_law_take i_law_wide i_law_handed i_law_pick i_law_cost i_law_number_here i_law_second_here i_law_week i_law_tariff i_law_told : Nat) : Ss := .cons (.asg (.name 1) (.call i_law_numbers (.cons (.var 0) (.nil)))) (.cons (.newL 2 (.cons (.cst (.int 0)) (.nil))) (.cons (.asg (.tup (.tcons (.name 3) (.tcons (.name 4) (.tnil)))) (.tup (.cons (.call i_law_tariff (.cons (.var 1) (.cons (.var 2) (.nil)))) (.cons (.call i_law_week (.cons (.var 1) (.cons (.var 2) (.nil)))) (.nil))))) (.cons (.forS (.name 5) (.r1 (.cst (.int 6))) (.cons (.asg (.tup (.tcons (.name 6) (.tcons (.name 7) (.tnil)))) (.tup (.cons (.call i_law_number_here (.cons (.var 1) (.cons (.var 2) (.cons (.cst (.bl true)) (.nil))))) (.cons (.call i_law_second_here (.cons (.var 1) (.cons (.var 2) (.nil)))) (.nil))))) (.cons (.asg (.name 8) (.call i_law_pick (.cons (.var 1) (.cons (.var 2) (.cons (.lst (.cons (.cst (.int 0)) (.cons (.cst (.int 1)) (.cons (.call i_law_take (.cons (.var 1) (.cons (.var 2) (.cons (.cst (.int 300)) (.nil))))) (.cons (.call i_law_wide (.cons (.var 1) (.cons (.var 2) (.cons (.cst (.int 200000)) (.nil))))) (.cons (.call i_law_wide (.cons (.var 1) (.cons (.var 2) (.cons (.bin .add (.bin .pow (.cst (.int 10)) (.cst (.int 6))) (.cst (.int 1))) (.nil))))) (.nil))))))) (.nil)))))) (.cons (.asg (.name 9) (.call i_law_told (.cons (.call i_law_handed (.cons (.var 1) (.cons (.var 2) (.cons (.var 3) (.nil))))) (.cons (.call i_law_handed (.cons (.var 1) (.cons (.var 2) (.cons (.var 4) (.nil))))) (.cons (.var 6) (.cons (.var 7) (.cons (.var 8) (.nil)))))))) (.cons (.ifs (.not (.val (.call i_law_so (.cons (.var 9) (.cons (.call i_law_cost (.cons (.var 3) (.cons (.var 4) (.cons (.var 6) (.cons (.var 7) (.cons (.var 8) (.nil))))))) (.nil)))))) (.cons (.ret (.cst (.bl false))) (.nil)) (.nil)) (.cons (.asg (.name 10) (.call i_law_wide (.cons (.var 1) (.cons (.var 2) (.cons (.bin .add (.var 8) (.cst (.int 1))) (.nil)))))) (.cons (.ifs (.val (.cmp .le (.bin .add (.var 7) (.var 10)) (.bin .pow (.cst (.int 10)) (.cst (.int 8))))) (.cons (.asg (.name 11) (.call i_law_told (.cons (.var 3) (.cons (.var 4) (.cons (.var 6) (.cons (.var 7) (.cons (.var 10) (.nil)))))))) (.cons (.ifs (.not (.val (.call i_law_so (.cons (.bin .add (.var 11) (.call i_law_told (.cons (.var 3) (.cons (.var 4) (.cons (.var 6) (.cons (.bin .add (.var 7) (.var 10)) (.cons (.bin .sub (.var 8) (.var 10)) (.nil)))))))) (.cons (.bin .add (.var 9) (.ix (.var 3) (.cst (.int 0)))) (.nil)))))) (.cons (.ret (.cst (.bl false))) (.nil)) (.nil)) (.nil))) (.nil)) (.cons (.ifs (.and (.val (.cmp .lt (.var 8) (.cst (.int 60)))) (.val (.cmp .le (.bin .add (.var 7) (.var 8)) (.bin .pow (.cst (.int 10)) (.cst (.int 8)))))) (.cons (.ifs (.not (.val (.call i_law_so (.cons (.bin .add (.ix (.var 3) (.cst (.int 0))) (.bi .sum (.cons (.comp [16] (.name 16) (.r1 (.var 8)) (.none) (.call i_price (.cons (.var 3) (.cons (.var 4) (.cons (.var 6) (.cons (.bin .add (.var 7) (.var 16)) (.nil))))))) (.nil)))) (.cons (.var 9) (.nil)))))) (.cons (.ret (.cst (.bl false))) (.nil)) (.nil)) (.nil)) (.nil)) (.nil))))))))) (.cons (.par 12 13 (.call i_law_pick (.cons (.var 1) (.cons (.var 2) (.cons (.lst (.cons (.cst .non) (.cons (.neg (.cst (.int 1))) (.cons (.cst (.bl true)) (.cons (.bin .add (.bin .pow (.cst (.int 10)) (.cst (.int 8))) (.cst (.int 1))) (.nil)))))) (.nil))))) (.call i_law_pick (.cons (.var 1) (.cons (.var 2) (.cons (.lst (.cons (.cst .non) (.cons (.neg (.cst (.int 1))) (.cons (.cst (.bl true)) (.cons (.bin .add (.bin .pow (.cst (.int 10)) (.cst (.int 6))) (.cst (.int 1))) (.nil)))))) (.nil)))))) (.cons (.forS (.tup (.tcons (.name 14) (.tcons (.name 15) (.tnil)))) (.seq (.tup (.cons (.tup (.cons (.tup (.cons (.cst .non) (.cons (.cst (.int 7)) (.cons (.cst (.str "1")) (.nil))))) (.cons (.cst (.int 0)) (.nil)))) (.cons (.tup (.cons (.tup (.cons (.var 3) (.cons (.cst (.int 7)) (.cons (.cst (.str "1")) (.nil))))) (.cons (.cst (.int 1)) (.nil)))) (.cons (.tup (.cons (.tup (.cons (.var 3) (.cons (.var 4) (.cons (.cst (.str "1")) (.nil))))) (.cons (.cst (.int 2)) (.nil)))) (.nil)))))) (.cons (.ifs (.not (.val (.call i_law_so (.cons (.call i_law_told (.cons (.ix (.var 14) (.cst (.int 0))) (.cons (.ix (.var 14) (.cst (.int 1))) (.cons (.ix (.var 14) (.cst (.int 2))) (.cons (.var 12) (.cons (.var 13) (.nil))))))) (.cons (.tup (.cons (.cst (.str "bad")) (.cons (.var 15) (.nil)))) (.nil)))))) (.cons (.ret (.cst (.bl false))) (.nil)) (.nil)) (.nil))) (.cons (.ret (.and (.call i_law_so (.cons (.call i_law_told (.cons (.var 3) (.cons (.var 4) (.cons (.cst (.str "333")) (.cons (.var 12) (.cons (.var 13) (.nil))))))) (.cons (.tup (.cons (.cst (.str "bad")) (.cons (.cst (.int 3)) (.nil)))) (.nil)))) (.call i_law_so (.cons (.call i_law_told (.cons (.var 3) (.cons (.var 4) (.cons (.cst (.str "333")) (.cons (.cst (.int 0)) (.cons (.var 13) (.nil))))))) (.cons (.tup (.cons (.cst (.str "bad")) (.cons (.cst (.int 4)) (.nil)))) (.nil)))))) (.nil)))))))
abbrev X09 : Ix := ⟨0, 1, 2, 4, 6, 7, 8, 9, 10, 11, 12, 13, 14, 15⟩
abbrev Z09 : Tx := ⟨2, 1, 3, 4, 7, 8, 9, 17, 18, 19⟩
abbrev Y09 : Lx := ⟨26, 27, 28, 29, 30, 31, 32, 33, 34⟩
structure T09 (P : Nat → Option Fn) : Prop where
  ix : IxOk P X09
  tx : TxOk P Z09
  lx : LxOk P Y09
  p5 : P 5 = some ⟨1, 1, B_is_number 3⟩
  p16 : P 16 = some ⟨3, 13, B_stretches 14⟩
  p20 : P 20 = some ⟨2, 5, B_zone_of⟩
  p21 : P 21 = some ⟨2, 5, B_zone_prices⟩
  p22 : PrOk P 22 20
  p23 : P 23 = some ⟨4, 4, B_price 0 5 6 13 15 19 22⟩
  p24 : P 24 = some ⟨5, 10, B_cost_of 16 22⟩
  p25 : P 25 = some ⟨5, 5, B_cost 0 2 5 6 13 19 24⟩
  p35 : P 35 = some ⟨2, 2, B_law_day_row⟩
  p36 : P 36 = some ⟨2, 5, B_law_band 35⟩
  p37 : P 37 = some ⟨3, 12, B_law_parts 35 36⟩
  p38 : P 38 = some ⟨2, 5, B_law_zone⟩
  p39 : P 39 = some ⟨3, 5, B_law_price_of⟩
  p40 : P 40 = some ⟨5, 10, B_law_cost 37 38 39⟩
  p41 : P 41 = some ⟨3, 6, B_law_number_here 29⟩
  p42 : P 42 = some ⟨2, 3, B_law_second_here 29 30 34⟩
  p43 : P 43 = some ⟨2, 5, B_law_day 29 30 34⟩
  p44 : P 44 = some ⟨2, 6, B_law_week 29 34 43⟩
  p45 : P 45 = some ⟨2, 8, B_law_tariff 29 34⟩
  p46 : P 46 = some ⟨5, 6, B_law_told9 25⟩
  p47 : P 47 = some ⟨1, 17, B_law9 23 26 27 29 30 33 34 40 41 42 44 45 46⟩
section
variable {P : Nat → Option Fn} {S : Store} {days : List (List St)} {feasts : List Int} {setup : Int} {zs : List Zn} {ps : List Pr}
theorem T09.so (T : T09 P) {d : D} (h : Tv 9 d = true) {Q : D × Store → Prop} (q : Q (.bl true, S)) : OkR (callF P 40 26 [.d d, .d d] S) Q := ⟨_, T.lx.soR (k := 30) (m := 9) h, q⟩
end
end Pv

set_option Elab.async false
set_option linter.all false
set_option maxRecDepth 100000
set_option maxHeartbeats 2000000
namespace Pv
open PySem L2
section
variable {P : Nat → Option Fn} {k f g : Nat} {S : Store}
end
end Pv

set_option Elab.async false
set_option linter.all false
set_option maxRecDepth 100000
set_option maxHeartbeats 2000000
namespace Pv
open PySem L2
section
variable {P : Nat → Option Fn} {k f g : Nat} {S : Store} {y : Lx}
end
end Pv

set_option Elab.async false
set_option linter.all false
set_option maxRecDepth 100000
set_option maxHeartbeats 2000000
namespace Pv
open PySem L2
def B_is_word_or_none (i_is_word : Nat) : Ss := .cons (.ret (.or (.isN (.var 0)) (.call i_is_word (.cons (.var 0) (.nil))))) (.nil)
def B_is_long_number (i_is_digits : Nat) : Ss := .cons (.ret (.call i_is_digits (.cons (.var 0) (.cons (.cst (.int 3)) (.cons (.cst (.int 8)) (.nil)))))) (.nil)
def B_is_number_or_none (i_is_number : Nat) : Ss := .cons (.ret (.or (.isN (.var 0)) (.call i_is_number (.cons (.var 0) (.nil))))) (.nil)
def B_is_block (i_is_within i_is_digits i_is_word i_is_rows : Nat) : Ss := .cons (.ifs (.not (.val (.call i_is_rows (.cons (.var 0) (.cons (.cst (.int 3)) (.cons (.cst (.int 3)) (.nil))))))) (.cons (.ret (.cst (.bl false))) (.nil)) (.nil)) (.cons (.asg (.tup (.tcons (.name 1) (.tcons (.name 2) (.tcons (.name 3) (.tnil))))) (.var 0)) (.cons (.ret (.and (.call i_is_within (.cons (.var 2) (.cons (.cst (.int 3)) (.cons (.cst (.int 8)) (.nil))))) (.and (.call i_is_digits (.cons (.var 1) (.cons (.cst (.int 1)) (.cons (.bin .sub (.var 2) (.cst (.int 1))) (.nil))))) (.call i_is_word (.cons (.var 3) (.nil)))))) (.nil)))
def B_is_blocks (i_is_rows_of i_is_ascending i_is_block : Nat) : Ss := .cons (.ifs (.not (.val (.call i_is_rows_of (.cons (.var 0) (.cons (.cst (.int 0)) (.cons (.cst (.int 8)) (.cons (.fnv i_is_block) (.nil)))))))) (.cons (.ret (.cst (.bl false))) (.nil)) (.nil)) (.cons (.asg (.name 1) (.comp [3] (.name 3) (.seq (.var 0)) (.none) (.ix (.var 3) (.cst (.int 0))))) (.cons (.asg (.name 2) (.comp [4] (.name 4) (.r1 (.bin .sub (.bi .len (.cons (.var 1) (.nil))) (.cst (.int 1)))) (.none) (.not (.mt1 .startswith (.ix (.var 1) (.bin .add (.var 4) (.cst (.int 1)))) (.ix (.var 1) (.var 4)))))) (.cons (.ret (.and (.call i_is_ascending (.cons (.var 1) (.nil))) (.bi .all (.cons (.var 2) (.nil))))) (.nil))))
def B_is_hold (i_is_word_or_none i_is_long_number i_is_second i_is_rows : Nat) : Ss := .cons (.ifs (.not (.val (.call i_is_rows (.cons (.var 0) (.cons (.cst (.int 4)) (.cons (.cst (.int 4)) (.nil))))))) (.cons (.ret (.cst (.bl false))) (.nil)) (.nil)) (.cons (.asg (.tup (.tcons (.name 1) (.tcons (.name 2) (.tcons (.name 3) (.tcons (.name 4) (.tnil)))))) (.var 0)) (.cons (.ifs (.not (.and (.val (.call i_is_long_number (.cons (.var 1) (.nil)))) (.val (.call i_is_second (.cons (.var 2) (.nil)))))) (.cons (.ret (.cst (.bl false))) (.nil)) (.nil)) (.cons (.ret (.and (.call i_is_word_or_none (.cons (.var 3) (.nil))) (.call i_is_word_or_none (.cons (.var 4) (.nil))))) (.nil))))
def B_is_forward (i_is_number i_is_number_or_none i_is_second i_is_rows : Nat) : Ss := .cons (.ifs (.not (.val (.call i_is_rows (.cons (.var 0) (.cons (.cst (.int 3)) (.cons (.cst (.int 3)) (.nil))))))) (.cons (.ret (.cst (.bl false))) (.nil)) (.nil)) (.cons (.asg (.tup (.tcons (.name 1) (.tcons (.name 2) (.tcons (.name 3) (.tnil))))) (.var 0)) (.cons (.ret (.and (.call i_is_number (.cons (.var 1) (.nil))) (.and (.call i_is_second (.cons (.var 2) (.nil))) (.call i_is_number_or_none (.cons (.var 3) (.nil)))))) (.nil)))
def B_is_timed (i_is_ascending : Nat) : Ss := .cons (.ret (.call i_is_ascending (.cons (.comp [1] (.name 1) (.seq (.var 0)) (.none) (.tup (.cons (.ix (.var 1) (.cst (.int 0))) (.cons (.ix (.var 1) (.cst (.int 1))) (.nil))))) (.nil)))) (.nil)
def B_is_plan (i_is_rows i_is_rows_of i_is_blocks i_is_hold i_is_forward i_is_timed : Nat) : Ss := .cons (.ifs (.not (.val (.call i_is_rows (.cons (.var 0) (.cons (.cst (.int 3)) (.cons (.cst (.int 3)) (.nil))))))) (.cons (.ret (.cst (.bl false))) (.nil)) (.nil)) (.cons (.asg (.tup (.tcons (.name 1) (.tcons (.name 2) (.tcons (.name 3) (.tnil))))) (.var 0)) (.cons (.ifs (.not (.and (.val (.call i_is_blocks (.cons (.var 1) (.nil)))) (.and (.val (.call i_is_rows_of (.cons (.var 2) (.cons (.cst (.int 0)) (.cons (.cst (.int 400)) (.cons (.fnv i_is_hold) (.nil))))))) (.val (.call i_is_timed (.cons (.var 2) (.nil))))))) (.cons (.ret (.cst (.bl false))) (.nil)) (.nil)) (.cons (.ret (.and (.call i_is_rows_of (.cons (.var 3) (.cons (.cst (.int 0)) (.cons (.cst (.int 400)) (.cons (.fnv i_is_forward) (.nil)))))) (.call i_is_timed (.cons (.var 3) (.nil))))) (.nil))))
structure Px where
  int : Nat
  within : Nat
  digits : Nat
  word : Nat
  wordN : Nat
  num : Nat
  long : Nat
  numN : Nat
  sec : Nat
  rows : Nat
  rowsOf : Nat
  asc : Nat
  block : Nat
  blocks : Nat
  hold : Nat
  fwd : Nat
  timed : Nat
  plan : Nat
structure PxOk (P : Nat → Option Fn) (x : Px) : Prop where
  int : P x.int = some ⟨1, 1, B_is_integer⟩
  within : P x.within = some ⟨3, 3, B_is_within x.int⟩
  digits : P x.digits = some ⟨3, 3, B_is_digits⟩
  word : P x.word = some ⟨1, 1, B_is_word⟩
  wordN : P x.wordN = some ⟨1, 1, B_is_word_or_none x.word⟩
  num : P x.num = some ⟨1, 1, B_is_number x.digits⟩
  long : P x.long = some ⟨1, 1, B_is_long_number x.digits⟩
  numN : P x.numN = some ⟨1, 1, B_is_number_or_none x.num⟩
  sec : P x.sec = some ⟨1, 1, B_is_second x.within⟩
  rows : P x.rows = some ⟨3, 3, B_is_rows⟩
  rowsOf : P x.rowsOf = some ⟨4, 5, B_is_rows_of x.rows⟩
  asc : P x.asc = some ⟨1, 2, B_is_ascending⟩
  block : P x.block = some ⟨1, 4, B_is_block x.within x.digits x.word x.rows⟩
  blocks : P x.blocks = some ⟨1, 5, B_is_blocks x.rowsOf x.asc x.block⟩
  hold : P x.hold = some ⟨1, 5, B_is_hold x.wordN x.long x.sec x.rows⟩
  fwd : P x.fwd = some ⟨1, 4, B_is_forward x.num x.numN x.sec x.rows⟩
  timed : P x.timed = some ⟨1, 2, B_is_timed x.asc⟩
  plan : P x.plan = some ⟨1, 4, B_is_plan x.rows x.rowsOf x.blocks x.hold x.fwd x.timed⟩
section
variable {P : Nat → Option Fn} {k f g : Nat} {S : Store} {x : Px}
end
end Pv

set_option Elab.async false
set_option linter.all false
set_option maxRecDepth 100000
set_option maxHeartbeats 2000000
namespace Pv
open PySem L2
section
variable {P : Nat → Option Fn} {k f g : Nat} {S : Store}
end
end Pv

set_option Elab.async false
set_option linter.all false
set_option maxRecDepth 100000
set_option maxHeartbeats 2000000
namespace Pv
open PySem L2
def BkOk (b : D) : Prop := ∃ (z : Str) (l : Int) (w : Str), b = .tup [.str z, .int l, .str w] ∧ digB z = true ∧ wordB w = true ∧ 1 ≤ z.length ∧ z.length ≤ 8 ∧ 3 ≤ l ∧ l ≤ 8
theorem bk_tw {b : D} (h : BkOk b) : Tw 1 b = true := by
  obtain ⟨z, l, w, rfl, _, hw, _, h8, _, _⟩ := h
  simp only [wordB, Bool.and_eq_true, decide_eq_true_eq] at hw
  have h1 : decide (z.length ≤ 1000) = true := decide_eq_true (by omega)
  have h2 : decide (w.length ≤ 1000) = true := decide_eq_true (by omega)
  simp [Tw, h1, h2]
section
variable {P : Nat → Option Fn} {k f : Nat} {r : D} {ms : List MO} {i : Int} {y : Lx}
end
end Pv

set_option Elab.async false
set_option linter.all false
set_option maxRecDepth 100000
set_option maxHeartbeats 2000000
namespace Pv
open PySem L2
abbrev kNI (p : Str × Int) : List Key := [.inr p.1, .inl p.2]
structure HF (V : List D → Prop) (lo n : Nat) (kz : List (Str × Int)) (wz : List (List D)) : Prop where
  len : kz.length = wz.length
  nd : kz.Nodup
  key : ∀ k ∈ kz, lo ≤ k.1.length ∧ k.1.length ≤ 8 ∧ digB k.1 = true ∧ 0 ≤ k.2 ∧ k.2 ≤ 100000000
  val : ∀ w ∈ wz, V w
  few : kz.length ≤ n
theorem HF.at {V : List D → Prop} {lo n : Nat} {kz : List (Str × Int)} {wz : List (List D)} (h : HF V lo n kz wz) {k : Str × Int} (hk : k ∈ kz) : ∃ w, V w ∧ lookD (kNI k) (kz.map kNI) (wz.map D.tup) = some (.tup w) := by
  obtain ⟨w, hw, e⟩ := look_gen (kf := kNI) (vf := D.tup) h.len hk
  exact ⟨w, h.val w hw, e⟩
def rowK (ks : List (List Key)) (ds : List D) (k : List Key) : D := match lookD k ks ds with
  | some (.tup vs) => .tup (k.map keyD ++ vs)
  | _ => .non
def rowsY (y : D) : D := match y with
  | .dT ks ds => .tup ((ks.mergeSort (PySem.W.dataLe false PvR.keysPy)).map (rowK ks ds))
  | _ => .non
def okC (c : D) : Prop := c = .non ∨ ∃ z, c = .str z ∧ wordB z = true
def okN (c : D) : Prop := c = .non ∨ ∃ z, c = .str z ∧ 2 ≤ z.length ∧ z.length ≤ 8 ∧ digB z = true
def VH (w : List D) : Prop := ∃ c e, w = [c, e] ∧ okC c ∧ okC e
def VF (w : List D) : Prop := ∃ t, w = [t] ∧ okN t
theorem okC_tw {c : D} {m : Nat} (h : okC c) : Tw m c = true := by
  rcases h with rfl | ⟨z, rfl, hz⟩
  · cases m <;> rfl
  · simp only [wordB, Bool.and_eq_true, decide_eq_true_eq] at hz
    have : decide (z.length ≤ 1000) = true := decide_eq_true (by omega)
    cases m <;> simpa [Tw] using this
theorem okN_tw {c : D} {m : Nat} (h : okN c) : Tw m c = true := by
  rcases h with rfl | ⟨z, rfl, _, h8, _⟩
  · cases m <;> rfl
  · have : decide (z.length ≤ 1000) = true := decide_eq_true (by omega)
    cases m <;> simpa [Tw] using this
theorem tw_tup {m : Nat} {ds : List D} (hl : ds.length ≤ 1000) (h : ∀ x ∈ ds, Tw m x = true) : Tw (m + 1) (.tup ds) = true := by
  simp only [Tw, Bool.and_eq_true, decide_eq_true_eq, List.all_eq_true]
  exact ⟨hl, h⟩
theorem tw_str {m : Nat} {w : Str} (h : w.length ≤ 1000) : Tw m (.str w) = true := by
  have : decide (w.length ≤ 1000) = true := decide_eq_true h
  cases m <;> simpa [Tw] using this
theorem tw_int {m : Nat} {i : Int} : Tw m (.int i) = true := by cases m <;> rfl
theorem rows_tw {V : List D → Prop} {lo n : Nat} {kz : List (Str × Int)} {wz : List (List D)} (h : HF V lo n kz wz) (hn : n ≤ 100) (hV : ∀ w, V w → w.length ≤ 10 ∧ ∀ x ∈ w, Tw 0 x = true) : Tw 2 (rowsY (.dT (kz.map kNI) (wz.map D.tup))) = true := by
  unfold rowsY
  refine tw_tup (by rw [List.length_map, List.length_mergeSort, List.length_map]; have := h.few; omega) fun x hx => ?_
  obtain ⟨k, hk, rfl⟩ := List.mem_map.mp hx
  obtain ⟨p, hp, rfl⟩ := List.mem_map.mp (List.mem_mergeSort.mp hk)
  obtain ⟨w, hw, e⟩ := h.at hp
  unfold rowK
  rw [e]
  obtain ⟨h1, h2⟩ := hV w hw
  obtain ⟨k1, k2, _⟩ := h.key p hp
  refine tw_tup (by simp; omega) fun x hx => ?_
  rcases List.mem_append.mp hx with hx | hx
  · simp only [kNI, List.map_cons, List.map_nil, keyD, List.mem_cons, List.not_mem_nil, or_false] at hx
    rcases hx with rfl | rfl
    · exact tw_str (by omega)
    · exact tw_int
  · exact h2 x hx
section
variable {P : Nat → Option Fn} {k f : Nat} {r : D} {ms : List MO} {i : Int} {y : Lx}
structure PlIs (d : D) : Prop where
  ex : ∃ bl kz wz kf wf, d = .tup [.tup bl, rowsY (.dT (kz.map kNI) (wz.map D.tup)), rowsY (.dT (kf.map kNI) (wf.map D.tup))] ∧ (∀ b ∈ bl, BkOk b) ∧ bl.length ≤ 5 ∧ HF VH 3 8 kz wz ∧ HF VF 2 8 kf wf
theorem PlIs.tw {d : D} (h : PlIs d) : Tw 3 d = true := by
  obtain ⟨bl, kz, wz, kf, wf, rfl, hb, hl, h1, h2⟩ := h.ex
  refine tw_tup (by simp) fun x hx => ?_
  simp only [List.mem_cons, List.not_mem_nil, or_false] at hx
  rcases hx with rfl | rfl | rfl
  · exact tw_tup (by omega) fun b hb' => bk_tw (hb b hb')
  · refine rows_tw h1 (by omega) fun w hw => ?_
    obtain ⟨c, e, rfl, hc, he⟩ := hw
    refine ⟨by simp, fun x hx => ?_⟩
    simp only [List.mem_cons, List.not_mem_nil, or_false] at hx
    rcases hx with rfl | rfl
    · exact okC_tw hc
    · exact okC_tw he
  · refine rows_tw h2 (by omega) fun w hw => ?_
    obtain ⟨c, rfl, hc⟩ := hw
    refine ⟨by simp, fun x hx => ?_⟩
    obtain rfl : x = c := by simpa using hx
    exact okN_tw hc
end
end Pv

set_option Elab.async false
set_option linter.all false
set_option maxRecDepth 100000
set_option maxHeartbeats 2000000
namespace Pv
open PySem L2
abbrev BRow := Str × Int × Str
abbrev HRow := (Str × Int) × D × D
def hD (p : HRow) : D := .tup [.str p.1.1, .int p.1.2, p.2.1, p.2.2]
def inBk (n : Str) (b : BRow) : Bool := decide ((n.length : Int) = b.2.1) && pfx n b.1
def blkOf (bs : List BRow) (n : Str) : Option Str := (bs.find? (inBk n)).map (·.2.2)
def own (bs : List BRow) (p : HRow) : D := match blkOf bs p.1.1, p.2.1 with
  | none, _ => .non
  | some _, .non => .non
  | some b, c => .tup [c, match p.2.2 with
    | .non => .str b
    | e => e]
theorem forL_fold {F : D → En → Store → Option Out} {α β : Type} {R : D → α → Prop} (G : En → Store → β → Prop) (st : β → α → β) (hF : ∀ y a ρ S b, R y a → G ρ S b → ∃ ρ' S', F y ρ S = some (.nx ρ' S') ∧ G ρ' S' (st b a)) :
    ∀ {xs : List D} {as : List α}, All2 R xs as → ∀ {ρ : En} {S : Store} {b : β}, G ρ S b → ∃ ρ' S', forL F xs ρ S = some (.nx ρ' S') ∧ G ρ' S' (as.foldl st b)
  | [], [], _, ρ, S, b, h => ⟨ρ, S, rfl, h⟩
  | x :: xs, a :: as, h, ρ, S, b, hg => by
    cases h with
    | cons h1 h2 =>
      obtain ⟨ρ', S', e, h'⟩ := hF x a ρ S b h1 hg
      simp only [forL, e, Option.bind_some, List.foldl_cons]
      exact forL_fold G st hF h2 h'
section
variable {P : Nat → Option Fn} {k f g : Nat} {S : Store}
end
end Pv

set_option Elab.async false
set_option linter.all false
set_option maxRecDepth 100000
set_option maxHeartbeats 2000000
namespace Pv
open PySem L2
def B_shares_of : Ss := .cons (.asg (.name 2) (.bi .sum (.cons (.var 1) (.nil)))) (.cons (.newC 3 [7] (.name 7) (.seq (.var 1)) (.none) (.bin .div (.bin .mul (.var 0) (.var 7)) (.var 2))) (.cons (.asg (.name 4) (.comp [7] (.name 7) (.seq (.var 1)) (.none) (.bin .mod (.bin .mul (.var 0) (.var 7)) (.var 2)))) (.cons (.asg (.name 5) (.sortR 4)) (.cons (.forS (.name 6) (.seq (.sl (.var 5) (.none) (.some (.bin .sub (.var 0) (.bi .sum (.cons (.var 3) (.nil))))))) (.cons (.augL 3 (.var 6) (.cst (.int 1))) (.nil))) (.cons (.ret (.bi .tuple (.cons (.var 3) (.nil)))) (.nil))))))
def B_law_shares : Ss := .cons (.asg (.name 2) (.bi .sum (.cons (.var 1) (.nil)))) (.cons (.newC 3 [7] (.name 7) (.seq (.var 1)) (.none) (.bin .div (.bin .mul (.var 0) (.var 7)) (.var 2))) (.cons (.asg (.name 4) (.comp [6] (.name 6) (.r1 (.bi .len (.cons (.var 1) (.nil)))) (.none) (.tup (.cons (.bin .sub (.bin .mul (.bin .div (.bin .mul (.var 0) (.ix (.var 1) (.var 6))) (.var 2)) (.var 2)) (.bin .mul (.var 0) (.ix (.var 1) (.var 6)))) (.cons (.var 6) (.nil)))))) (.cons (.forS (.tup (.tcons (.name 5) (.tcons (.name 6) (.tnil)))) (.seq (.sl (.bi .sorted (.cons (.var 4) (.nil))) (.none) (.some (.bin .sub (.var 0) (.bi .sum (.cons (.var 3) (.nil))))))) (.cons (.setL 3 (.var 6) (.bin .add (.ix (.var 3) (.var 6)) (.cst (.int 1)))) (.nil))) (.cons (.ret (.bi .tuple (.cons (.var 3) (.nil)))) (.nil)))))
theorem e_compM {c : Call} {vs : List Nat} {tg : Tg} {it : It} {elt : E} {ρ : En} {S : Store} {ds : List D} {g : D → D} (ht : tgIn tg vs = true) (hi : evI c it ρ S = some (ds, S)) (hl : ds.length ≤ sizeLine)
    (h : ∀ d ∈ ds, ∃ ρ', asgn tg d (wipeE ρ vs) = some ρ' ∧ evE c elt ρ' S = some (.d (g d), S)) : evE c (.comp vs tg it .none elt) ρ S = some (.d (.lst (ds.map g)), S) := by
  refine e_comp ht hi (S2 := S) (res := ds.map g) ?_
  have := compL_map (f := fun d S => (asgn tg d (wipeE ρ vs)).bind fun ρ' => (evTo c .none ρ' S).bind fun q => if q.1 = true then (evE c elt ρ' q.2).bind fun w => (fzW w.1 w.2).map fun z => (some z.1, z.2) else some (none, q.2)) (g := g) (S := S) (ds := ds) (acc := [])
    (fun d hd => by obtain ⟨ρ', e1, e2⟩ := h d hd; simp only [e1, Option.bind_some, evTo, if_true, e2, fz_d, Option.map_some]) (by simpa using hl)
  simpa using this
def cutG {α : Type} (xs : List α) (hi : Int) : List α := (xs.drop (HT.sIx xs.length 0 none)).take (HT.sIx xs.length xs.length (some hi) - HT.sIx xs.length 0 none)
theorem cutG_map {α : Type} (xs : List α) (f : α → D) (hi : Int) : cutD (xs.map f) none (some hi) = (cutG xs hi).map f := by
  simp [cutD, cutG, List.map_take, List.map_drop]
theorem cutG_mem {α : Type} {xs : List α} {hi : Int} {x : α} (h : x ∈ cutG xs hi) : x ∈ xs := List.mem_of_mem_drop (List.mem_of_mem_take h)
def bump (ps : List Int) (j : Nat) : List Int := ps.set j (ps.getD j 0 + 1)
def partsL (whole : Int) (ws : List Int) : List Int := ws.map fun w => whole * w / ws.sum
def restsL (whole : Int) (ws : List Int) : List Int := ws.map fun w => whole * w % ws.sum
def sharesL (whole : Int) (ws : List Int) : List Int := (cutG (PvLm.byNeg (restsL whole ws)) (whole - (partsL whole ws).sum)).foldl bump (partsL whole ws)
structure WsOk (ws : List Int) : Prop where
  len : ws.length ≤ 40
  each : ∀ w ∈ ws, 0 ≤ w ∧ w ≤ 1000000000000000
  pos : 0 < ws.sum
theorem sum_le : ∀ {ws : List Int}, (∀ w ∈ ws, 0 ≤ w ∧ w ≤ 1000000000000000) → ws.sum ≤ ws.length * 1000000000000000
  | [], _ => by simp
  | w :: ws, h => by
    have := sum_le (ws := ws) fun x hx => h x (.tail _ hx)
    have := h w (.head _)
    simp only [List.sum_cons, List.length_cons]
    omega
theorem byNeg_lt {ns : List Int} {j : Nat} (h : j ∈ PvLm.byNeg ns) : j < ns.length := by
  have := (List.mergeSort_perm _ _).mem_iff.mp h
  simpa using this
theorem ints_map (ns : List Int) : intsOf (ns.map D.int) = some ns := by
  induction ns with
  | nil => rfl
  | cons a r ih => simp [intsOf, ih]
theorem cdivW {i j : Int} (h : 0 < j) (h1 : j ≤ 40000000000000000) : CDivW i j := ⟨h, by
  have : j.natAbs.log2 ≤ j.natAbs := Nat.log2_le_self _
  have h2 : j.natAbs < 2 ^ 64 := by omega
  have := Nat.log2_lt (n := j.natAbs) (k := 64) (by omega) |>.mpr h2
  omega⟩
theorem WsOk.sum_lt {ws : List Int} (h : WsOk ws) : ws.sum ≤ 40000000000000000 := by
  have := sum_le h.each
  have := h.len
  have : (ws.length : Int) * 1000000000000000 ≤ 40 * 1000000000000000 := by omega
  omega
section
variable {P : Nat → Option Fn} {k f : Nat} {S : Store} {d : D} {ws : List Int} {whole : Int}
theorem parts_comp {c : Call} {ρ : En} {S : Store} (hd : Sq d (ws.map D.int)) (hw : WsOk ws) (h0 : 0 ≤ whole) (h1 : whole ≤ 1000000000000000) (e0 : ρ[0]? = some (some (.d (.int whole)))) (e1 : ρ[1]? = some (some (.d d))) (e2 : ρ[2]? = some (some (.d (.int ws.sum)))) (hl : ρ.length = 8) :
    evE c (.comp [7] (.name 7) (.seq (.var 1)) .none (.bin .div (.bin .mul (.var 0) (.var 7)) (.var 2))) ρ S = some (.d (.lst ((partsL whole ws).map .int)), S) := by
  match ρ, hl with
  | [a0, a1, a2, a3, a4, a5, a6, a7], _ =>
    simp only [List.getElem?_cons_zero, List.getElem?_cons_succ, Option.some.injEq] at e0 e1 e2
    subst e0 e1 e2
    have key := e_compM (c := c) (vs := [7]) (tg := .name 7) (it := .seq (.var 1)) (elt := .bin .div (.bin .mul (.var 0) (.var 7)) (.var 2)) (ρ := [some (.d (.int whole)), some (.d d), some (.d (.int ws.sum)), a3, a4, a5, a6, a7]) (S := S) (ds := ws.map D.int) (g := fun x => match x with | .int w => .int (whole * w / ws.sum) | x => x) (by decide)
      (by rcases hd with rfl | rfl <;> simp [evI, evE, rd_d, flatD, seqOf]) (by have := hw.len; simp [sizeLine_val]; omega) (fun x hx => by
        obtain ⟨w, hw', rfl⟩ := List.mem_map.mp hx
        refine ⟨_, rfl, ?_⟩
        have c1 : CMul whole w := .inl ⟨by omega, by omega⟩
        have c2 : CDivW (whole * w) ws.sum := cdivW hw.pos hw.sum_lt
        simp [wipeE, evE, rd_d, flatD, bRun, c1, c2])
    rw [key, List.map_map]
    simp [partsL, List.map_map, Function.comp_def]
theorem rests_comp {c : Call} {ρ : En} {S : Store} (hd : Sq d (ws.map D.int)) (hw : WsOk ws) (h0 : 0 ≤ whole) (h1 : whole ≤ 1000000000000000) (e0 : ρ[0]? = some (some (.d (.int whole)))) (e1 : ρ[1]? = some (some (.d d))) (e2 : ρ[2]? = some (some (.d (.int ws.sum)))) (hl : ρ.length = 8) :
    evE c (.comp [7] (.name 7) (.seq (.var 1)) .none (.bin .mod (.bin .mul (.var 0) (.var 7)) (.var 2))) ρ S = some (.d (.lst ((restsL whole ws).map .int)), S) := by
  match ρ, hl with
  | [a0, a1, a2, a3, a4, a5, a6, a7], _ =>
    simp only [List.getElem?_cons_zero, List.getElem?_cons_succ, Option.some.injEq] at e0 e1 e2
    subst e0 e1 e2
    have key := e_compM (c := c) (vs := [7]) (tg := .name 7) (it := .seq (.var 1)) (elt := .bin .mod (.bin .mul (.var 0) (.var 7)) (.var 2)) (ρ := [some (.d (.int whole)), some (.d d), some (.d (.int ws.sum)), a3, a4, a5, a6, a7]) (S := S) (ds := ws.map D.int) (g := fun x => match x with | .int w => .int (whole * w % ws.sum) | x => x) (by decide)
      (by rcases hd with rfl | rfl <;> simp [evI, evE, rd_d, flatD, seqOf]) (by have := hw.len; simp [sizeLine_val]; omega) (fun x hx => by
        obtain ⟨w, hw', rfl⟩ := List.mem_map.mp hx
        refine ⟨_, rfl, ?_⟩
        have c1 : CMul whole w := .inl ⟨by omega, by omega⟩
        simp [wipeE, evE, rd_d, flatD, bRun, c1, hw.pos])
    rw [key, List.map_map]
    simp [restsL, List.map_map, Function.comp_def]
end
end Pv

set_option Elab.async false
set_option linter.all false
set_option maxRecDepth 100000
set_option maxHeartbeats 2000000
namespace Pv
open PySem L2
theorem ixN_nat {n j : Nat} (h : j < n) : ixN n (j : Int) = some j := by
  simp [ixN, h]
theorem atI_nat {ds : List D} {j : Nat} (h : j < ds.length) : L2.atI ds (j : Int) = some ds[j] := by
  simp [L2.atI, ixN_nat h, h]
theorem bump_map (ps : List Int) (j : Nat) (h : j < ps.length) : (ps.map D.int).set j (.int (ps[j] + 1)) = (bump ps j).map D.int := by
  simp [bump, List.map_set, h]
section
variable {P : Nat → Option Fn} {k f : Nat} {S : Store} {d : D} {ws : List Int} {whole : Int}
theorem bump_length (ps : List Int) (j : Nat) : (bump ps j).length = ps.length := by simp [bump]
theorem all2_lt {xs : List Nat} {g : Nat → D} {n : Nat} : (∀ j ∈ xs, j < n) → All2 (fun (y : D) (j : Nat) => y = g j ∧ j < n) (xs.map g) xs := by
  induction xs with
  | nil => exact fun _ => .nil
  | cons x r ih => exact fun h => .cons ⟨rfl, h x (.head _)⟩ (ih fun j hj => h j (.tail _ hj))
theorem bump_loop {F : D → En → Store → Option Out} {g : Nat → D} {n : Nat} (E : Option W → Option W → En) (hF : ∀ j a b ps, ps.length = n → j < n → ∃ a' b', F (g j) (E a b) (S ++ [.lst (ps.map .int)]) = some (.nx (E a' b') (S ++ [.lst ((bump ps j).map .int)]))) {xs : List Nat} (hx : ∀ j ∈ xs, j < n) {ps : List Int} (hl : ps.length = n) (a b : Option W) :
    ∃ a' b', forL F (xs.map g) (E a b) (S ++ [.lst (ps.map .int)]) = some (.nx (E a' b') (S ++ [.lst ((xs.foldl bump ps).map .int)])) := by
  obtain ⟨ρ', S', e, a', b', rfl, rfl, _⟩ := forL_fold (F := F) (R := fun y j => y = g j ∧ j < n) (fun ρ S' ps => ∃ a b, ρ = E a b ∧ S' = S ++ [.lst (ps.map .int)] ∧ ps.length = n) bump (fun y j ρ S' ps hy hg => by
    obtain ⟨rfl, hj⟩ := hy
    obtain ⟨a, b, rfl, rfl, hl⟩ := hg
    obtain ⟨a', b', e⟩ := hF j a b ps hl hj
    exact ⟨_, _, e, a', b', rfl, rfl, by rw [bump_length]; exact hl⟩) (all2_lt (g := g) hx) ⟨a, b, rfl, rfl, hl⟩
  exact ⟨a', b', e⟩
theorem shares_of_ok (h : P f = some ⟨2, 8, B_shares_of⟩) (hd : Sq d (ws.map D.int)) (hw : WsOk ws) (h0 : 0 ≤ whole) (h1 : whole ≤ 1000000000000000) : callF P (k + 1) f [.d (.int whole), .d d] S = some (.tup ((sharesL whole ws).map .int), S) := by
  rw [callF_b h rfl (by show 2 ≤ 8; decide)]
  show (evSs (callF P k) B_shares_of [some (.d (.int whole)), some (.d d), none, none, none, none, none, none] S).bind _ = _
  unfold B_shares_of
  rw [ss_nx (x_asg (w := .d (.int ws.sum)) (S1 := S) (by rcases hd with rfl | rfl <;> simp [evE, evEs, rd_d, flatD, biRun, ints_map]) (by simp))]
  rw [ss_nx (x_newC (parts_comp hd hw h0 h1 rfl rfl rfl rfl) (by simp))]
  rw [ss_nx (x_asg (rests_comp hd hw h0 h1 rfl rfl rfl rfl) (by simp))]
  have hlr : (restsL whole ws).length ≤ 1000 := by have := hw.len; simp [restsL]; omega
  rw [ss_nx (x_asg (w := .d (.lst ((PvLm.byNeg (restsL whole ws)).map fun j : Nat => .int (j : Int)))) (S1 := S ++ [.lst ((partsL whole ws).map .int)]) (by simp [evE, ints_map, hlr]) (by simp))]
  simp only [List.set_cons_zero, List.set_cons_succ]
  obtain ⟨a', b', e⟩ := bump_loop (S := S) (F := fun d ρ S => (asgn (.name 6) d ρ).bind fun ρ' => evSs (callF P k) (.cons (.augL 3 (.var 6) (.cst (.int 1))) (.nil)) ρ' S) (g := fun j : Nat => D.int (j : Int)) (n := (partsL whole ws).length) (xs := cutG (PvLm.byNeg (restsL whole ws)) (whole - (partsL whole ws).sum)) (ps := partsL whole ws)
    (fun a b => [some (.d (.int whole)), some (.d d), some (.d (.int ws.sum)), some (.mu S.length), some (.d (.lst ((restsL whole ws).map .int))), some (.d (.lst ((PvLm.byNeg (restsL whole ws)).map fun j : Nat => .int (j : Int)))), a, b])
    (fun j a b ps hl hj => ⟨some (.d (.int j)), b, by
      have hj' : j < ps.length := hl ▸ hj
      have e1 := atI_nat (ds := ps.map D.int) (j := j) (by simpa using hj')
      have e2 := ixN_nat hj'
      have e3 := bump_map ps j hj'
      simp [asgn, evSs, evS, evE, lstAt, flatD, e1, e2, ← e3]⟩) (fun j hj => by have := byNeg_lt (cutG_mem hj); simpa [restsL, partsL] using this) rfl none none
  rw [ss_nx (x_for' (ρ := _) (by
    show evI _ _ _ _ = some (((cutG (PvLm.byNeg (restsL whole ws)) (whole - (partsL whole ws).sum)).map fun j : Nat => D.int (j : Int)), S ++ [.lst ((partsL whole ws).map .int)])
    simp [evI, evE, evEs, evO, rd_d, flatD, biRun, bRun, ints_map, seqOf, slRun, cutG_map, rdW, lstAt, fz_d]) e)]
  rw [ss_rt (x_ret (d := .tup ((sharesL whole ws).map .int)) (S1 := S ++ [.lst ((sharesL whole ws).map .int)]) (by simp [evE, evEs, rdW, biRun, sharesL]))]
  simp [fin]
end
end Pv

set_option Elab.async false
set_option linter.all false
set_option maxRecDepth 100000
set_option maxHeartbeats 2000000
namespace Pv
open PySem L2
section
variable {P : Nat → Option Fn} {k f : Nat} {S : Store} {d : D} {ws : List Int} {whole : Int}
theorem negs_sorted {ns : List Int} (hl : ns.length ≤ 1000) : biRun .sorted [.lst ((List.range ns.length).map (negP ns))] = some (.lst ((PvLm.byNeg ns).map (negP ns))) := by
  by_cases h0 : ns = []
  · subst h0
    simp [biRun, intsOf, sortI, PvLm.byNeg]
  · have et : tupsB ((List.range ns.length).map (negP ns)) = true := by
      simp only [tupsB, Bool.and_eq_true, List.all_eq_true, decide_eq_true_eq]
      refine ⟨by rw [sizeLine_val, List.length_map, List.length_range]; omega, fun x hx => ?_, fun x hx y hy => ?_⟩
      · obtain ⟨w, hw, rfl⟩ := List.mem_map.mp hx
        simp [tupC, negP, toPy, toPyL, PyData.canLay0, PyData.canLayAll0, PyData.depth, PyData.depthAll]
      · obtain ⟨w, hw, rfl⟩ := List.mem_map.mp hx
        obtain ⟨w', hw', rfl⟩ := List.mem_map.mp hy
        simp [negP, toPy, toPyL, PySem.W.alike, PySem.W.alikeAll]
    have e0 : intsOf ((List.range ns.length).map (negP ns)) = none := by
      cases ns with
      | nil => exact absurd rfl h0
      | cons a r =>
        rw [List.length_cons, List.range_succ_eq_map]
        rfl
    simp only [biRun, e0, Option.map_none, Option.none_or, if_pos et]
    rw [byNeg_pairs]
theorem law_shares_ok (h : P f = some ⟨2, 8, B_law_shares⟩) (hd : Sq d (ws.map D.int)) (hw : WsOk ws) (h0 : 0 ≤ whole) (h1 : whole ≤ 1000000000000000) : callF P (k + 1) f [.d (.int whole), .d d] S = some (.tup ((sharesL whole ws).map .int), S) := by
  rw [callF_b h rfl (by show 2 ≤ 8; decide)]
  show (evSs (callF P k) B_law_shares [some (.d (.int whole)), some (.d d), none, none, none, none, none, none] S).bind _ = _
  unfold B_law_shares
  rw [ss_nx (x_asg (w := .d (.int ws.sum)) (S1 := S) (by rcases hd with rfl | rfl <;> simp [evE, evEs, rd_d, flatD, biRun, ints_map]) (by simp))]
  rw [ss_nx (x_newC (parts_comp hd hw h0 h1 rfl rfl rfl rfl) (by simp))]
  have hlr : (restsL whole ws).length ≤ 1000 := by have := hw.len; simp [restsL]; omega
  have hln : (restsL whole ws).length = ws.length := by simp [restsL]
  simp only [List.set_cons_zero, List.set_cons_succ]
  have er := e_compM (c := callF P k) (vs := [6]) (tg := .name 6) (it := .r1 (.bi .len (.cons (.var 1) (.nil)))) (elt := .tup (.cons (.bin .sub (.bin .mul (.bin .div (.bin .mul (.var 0) (.ix (.var 1) (.var 6))) (.var 2)) (.var 2)) (.bin .mul (.var 0) (.ix (.var 1) (.var 6)))) (.cons (.var 6) (.nil))))
    (ρ := [some (.d (.int whole)), some (.d d), some (.d (.int ws.sum)), some (.mu S.length), none, none, none, none]) (S := S ++ [.lst ((partsL whole ws).map .int)]) (ds := (List.range ws.length).map fun j : Nat => .int (j : Int)) (g := fun x => match x with | .int j => negP (restsL whole ws) j.toNat | x => x) (by decide)
    (by
      have e := x_r1 (c := callF P k) (a := .bi .len (.cons (.var 1) (.nil))) (ρ := [some (.d (.int whole)), some (.d d), some (.d (.int ws.sum)), some (.mu S.length), none, none, none, none]) (S := S ++ [.lst ((partsL whole ws).map .int)]) (S1 := S ++ [.lst ((partsL whole ws).map .int)]) (j := (ws.length : Int)) (by rcases hd with rfl | rfl <;> simp [evE, evEs, rd_d, flatD, biRun]) (by omega) (by have := hw.len; omega)
      rw [e, Int.toNat_natCast, rangeD_range]
      simp)
    (by have := hw.len; simp [sizeLine_val]; omega) (fun x hx => by
      obtain ⟨j, hj, rfl⟩ := List.mem_map.mp hx
      have hj' : j < ws.length := by simpa using hj
      refine ⟨_, rfl, ?_⟩
      have e1 : ixRun d (.int (j : Int)) = some (.int ws[j]) := by rcases hd with rfl | rfl <;> (show L2.atI _ _ = _; rw [atI_nat (by simpa using hj')]; simp)
      have c1 : CMul whole ws[j] := .inl ⟨by omega, by omega⟩
      have c2 : CDivW (whole * ws[j]) ws.sum := cdivW hw.pos hw.sum_lt
      have c3 : CMul (whole * ws[j] / ws.sum) ws.sum := .inr ⟨by have := hw.pos; omega, by have := hw.sum_lt; omega⟩
      have e2 : whole * ws[j] / ws.sum * ws.sum - whole * ws[j] = -((restsL whole ws).getD j 0) := by
        have := Int.mul_ediv_add_emod (whole * ws[j]) ws.sum
        have e : (restsL whole ws).getD j 0 = whole * ws[j] % ws.sum := by simp [restsL, hj']
        rw [e, Int.mul_comm (_ / _)]
        omega
      simp [wipeE, evE, evZ, rd_d, flatD, bRun, c1, c2, c3, e1, e2, negP, sizeLine_val, fz_d])
  rw [ss_nx (x_asg er (by simp))]
  rw [show (List.map (fun x => match x with | .int j => negP (restsL whole ws) j.toNat | x => x) ((List.range ws.length).map fun j : Nat => D.int (j : Int))) = (List.range (restsL whole ws).length).map (negP (restsL whole ws)) by rw [List.map_map, hln]; rfl]
  simp only [List.set_cons_zero, List.set_cons_succ]
  obtain ⟨a', b', e⟩ := bump_loop (S := S) (F := fun d ρ S => (asgn (.tup (.tcons (.name 5) (.tcons (.name 6) (.tnil)))) d ρ).bind fun ρ' => evSs (callF P k) (.cons (.setL 3 (.var 6) (.bin .add (.ix (.var 3) (.var 6)) (.cst (.int 1)))) (.nil)) ρ' S) (g := negP (restsL whole ws)) (n := (partsL whole ws).length) (xs := cutG (PvLm.byNeg (restsL whole ws)) (whole - (partsL whole ws).sum)) (ps := partsL whole ws)
    (fun a b => [some (.d (.int whole)), some (.d d), some (.d (.int ws.sum)), some (.mu S.length), some (.d (.lst ((List.range (restsL whole ws).length).map (negP (restsL whole ws))))), a, b, none])
    (fun j a b ps hl hj => ⟨some (.d (.int (-((restsL whole ws).getD j 0)))), some (.d (.int j)), by
      have hj' : j < ps.length := hl ▸ hj
      have e1 := atI_nat (ds := ps.map D.int) (j := j) (by simpa using hj')
      have e2 := ixN_nat hj'
      have e3 := bump_map ps j hj'
      simp [negP, asgn, asgns, evSs, evS, evE, lstAt, flatD, rdW, ixRun, bRun, fz_d, e1, e2, ← e3]⟩) (fun j hj => by have := byNeg_lt (cutG_mem hj); simpa [restsL, partsL] using this) rfl none none
  have es := negs_sorted hlr
  rw [ss_nx (x_for' (ρ := _) (by
    show evI _ _ _ _ = some (((cutG (PvLm.byNeg (restsL whole ws)) (whole - (partsL whole ws).sum)).map (negP (restsL whole ws))), S ++ [.lst ((partsL whole ws).map .int)])
    simp only [biRun] at es
    simp [evI, evE, evEs, evO, rd_d, flatD, biRun, bRun, ints_map, seqOf, slRun, cutG_map, rdW, lstAt, fz_d, es]) e)]
  rw [ss_rt (x_ret (d := .tup ((sharesL whole ws).map .int)) (S1 := S ++ [.lst ((sharesL whole ws).map .int)]) (by simp [evE, evEs, rdW, biRun, sharesL]))]
  simp [fin]
end
end Pv

set_option Elab.async false
set_option linter.all false
set_option maxRecDepth 100000
set_option maxHeartbeats 2000000
namespace Pv
open PySem L2
section
variable {P : Nat → Option Fn} {k f g : Nat} {S : Store}
end
end Pv

set_option Elab.async false
set_option linter.all false
set_option maxRecDepth 100000
set_option maxHeartbeats 2000000
namespace Pv
open PySem L2
section
variable {P : Nat → Option Fn} {k f g : Nat} {S : Store}
end
end Pv

set_option Elab.async false
set_option linter.all false
set_option maxRecDepth 100000
set_option maxHeartbeats 2000000
namespace Pv
open PySem L2
section
variable {P : Nat → Option Fn} {k f : Nat} {S : Store} {x : Px} {nd la bc ow st ro ra : Nat}
theorem needE2 (h : P nd = some ⟨2, 2, B_need⟩) {e1 e2 : E} {ρ : En} {a : D} (h1 : evE (callF P (k + 1)) e1 ρ S = some (.d (.bl true), S)) (h2 : evE (callF P (k + 1)) e2 ρ S = some (.d a, S)) : evS (callF P (k + 1)) (.dropX (.call nd (.cons e1 (.cons e2 (.nil))))) ρ S = some (.nx ρ S) := by
  simp only [evS, evX, evE, evEs, h1, h2, Option.bind_some, Option.map_some, need_ok h]
theorem needN2 (h : P nd = some ⟨2, 2, B_need⟩) {e1 e2 : E} {ρ : En} {a : Int} (ha : atOk a = true) (h1 : evE (callF P (k + 1)) e1 ρ S = some (.d (.bl false), S)) (h2 : evE (callF P (k + 1)) e2 ρ S = some (.d (.int a), S)) : evS (callF P (k + 1)) (.dropX (.call nd (.cons e1 (.cons e2 (.nil))))) ρ S = some (.xc (.int a) S) := by
  obtain ⟨q1, q2⟩ := need_no (k := k) (S := S) h ha
  simp only [evS, evX, evE, evEs, h1, h2, Option.bind_some, Option.map_some, q1, q2]
variable {d n a : D} {m m2 : Nat}
theorem PxOk.scE (X : PxOk P x) (hn : okV n = true) : callF P (k + 3) x.sec [.d n] S = some (.bl (isW 0 100000000 n), S) := second_ok X.sec X.within X.int hn
end
end Pv

set_option Elab.async false
set_option linter.all false
set_option maxRecDepth 100000
set_option maxHeartbeats 2000000
namespace Pv
open PySem L2
def B_is_weight (i_is_within : Nat) : Ss := .cons (.ret (.call i_is_within (.cons (.var 0) (.cons (.cst (.int 0)) (.cons (.cst (.int 1000000000000000)) (.nil)))))) (.nil)
def B_is_weights (i_is_rows_of i_is_weight : Nat) : Ss := .cons (.ret (.and (.call i_is_rows_of (.cons (.var 0) (.cons (.cst (.int 1)) (.cons (.cst (.int 40)) (.cons (.fnv i_is_weight) (.nil)))))) (.cmp .gt (.bi .sum (.cons (.var 0) (.nil))) (.cst (.int 0))))) (.nil)
def B_shares (i_need i_is_within i_is_weights i_shares_of : Nat) : Ss := .cons (.dropX (.call i_need (.cons (.call i_is_within (.cons (.var 0) (.cons (.cst (.int 0)) (.cons (.cst (.int 1000000000000000)) (.nil))))) (.cons (.cst (.int 0)) (.nil))))) (.cons (.dropX (.call i_need (.cons (.call i_is_weights (.cons (.var 1) (.nil))) (.cons (.cst (.int 1)) (.nil))))) (.cons (.ret (.call i_shares_of (.cons (.var 0) (.cons (.var 1) (.nil))))) (.nil)))
def B_tax_of : Ss := .cons (.ret (.bin .div (.bin .add (.bin .mul (.var 0) (.var 1)) (.cst (.int 500))) (.cst (.int 1000)))) (.nil)
def B_tax (i_need i_is_within i_tax_of : Nat) : Ss := .cons (.dropX (.call i_need (.cons (.call i_is_within (.cons (.var 0) (.cons (.cst (.int 0)) (.cons (.cst (.int 1000000000000000)) (.nil))))) (.cons (.cst (.int 0)) (.nil))))) (.cons (.dropX (.call i_need (.cons (.call i_is_within (.cons (.var 1) (.cons (.cst (.int 0)) (.cons (.cst (.int 1000)) (.nil))))) (.cons (.cst (.int 1)) (.nil))))) (.cons (.ret (.call i_tax_of (.cons (.var 0) (.cons (.var 1) (.nil))))) (.nil)))
def B_law_tax : Ss := .cons (.ret (.bin .div (.bin .add (.bin .mul (.var 0) (.var 1)) (.cst (.int 500))) (.cst (.int 1000)))) (.nil)
section
variable {P : Nat → Option Fn} {k f : Nat} {S : Store} {d : D} {ws : List Int} {whole : Int}
theorem weight_ok {g i : Nat} (h : P f = some ⟨1, 1, B_is_weight g⟩) (hg : P g = some ⟨3, 3, B_is_within i⟩) (hi : P i = some ⟨1, 1, B_is_integer⟩) {x : Int} (h0 : 0 ≤ x) (h1 : x ≤ 1000000000000000) : callF P (k + 3) f [.d (.int x)] S = some (.bl true, S) := by
  have e := within_ok (k := k) (S := S) (d := .int x) (lo := 0) (hi := 1000000000000000) hg hi rfl
  rw [callF_b h rfl (by decide)]
  unfold B_is_weight
  refine rt_fin ?_ rfl
  show evSs (callF P (k + 2)) _ [some (.d (.int x))] S = _
  refine ss_rt (x_ret ?_)
  simp [evE, evEs, flatD, rd_d, e, isW, h0, h1]
theorem weights_ok {ro r w g i : Nat} (h : P f = some ⟨1, 1, B_is_weights ro w⟩) (hro : P ro = some ⟨4, 5, B_is_rows_of r⟩) (hr : P r = some ⟨3, 3, B_is_rows⟩) (hw' : P w = some ⟨1, 1, B_is_weight g⟩) (hg : P g = some ⟨3, 3, B_is_within i⟩) (hi : P i = some ⟨1, 1, B_is_integer⟩)
    (hd : Sq d (ws.map D.int)) (hw : WsOk ws) : callF P (k + 5) f [.d d] S = some (.bl true, S) := by
  have hne : 1 ≤ ws.length := by
    cases ws with
    | nil => exact absurd hw.pos (by simp)
    | cons a t => simp
  have e := rows_of_ok (k := k + 2) (S := S) (lo := 1) (hi := 40) (m := w) (p := fun _ => true) hro hr hd (by have := hw.len; simp [sizeLine_val]; omega) (fun x hx => by
    obtain ⟨z, hz, rfl⟩ := List.mem_map.mp hx
    exact weight_ok (k := k) hw' hg hi (hw.each z hz).1 (hw.each z hz).2)
  have e2 : (decide ((1 : Int) ≤ (ws.map D.int).length) && decide (((ws.map D.int).length : Int) ≤ 40)) = true := by have := hw.len; simp; omega
  rw [e2, show ((ws.map D.int).all fun _ => true) = true from List.all_eq_true.mpr fun _ _ => rfl] at e
  have e3 : biRun .sum [d] = some (.int ws.sum) := by rcases hd with rfl | rfl <;> simp [biRun, ints_map]
  rw [callF_b h rfl (by decide)]
  unfold B_is_weights
  refine rt_fin ?_ rfl
  show evSs (callF P (k + 4)) _ [some (.d d)] S = _
  refine ss_rt (x_ret ?_)
  have h3 := hw.pos
  simp [evE, evEs, flatD, rd_d, e, e3, c_gt, h3]
theorem shares_ok {nd wi rs ro r w i so : Nat} (h : P f = some ⟨2, 2, B_shares nd wi rs so⟩) (hn : P nd = some ⟨2, 2, B_need⟩) (hrs : P rs = some ⟨1, 1, B_is_weights ro w⟩) (hro : P ro = some ⟨4, 5, B_is_rows_of r⟩) (hr : P r = some ⟨3, 3, B_is_rows⟩) (hw' : P w = some ⟨1, 1, B_is_weight wi⟩) (hg : P wi = some ⟨3, 3, B_is_within i⟩) (hi : P i = some ⟨1, 1, B_is_integer⟩) (hso : P so = some ⟨2, 8, B_shares_of⟩)
    (hd : Sq d (ws.map D.int)) (hw : WsOk ws) (h0 : 0 ≤ whole) (h1 : whole ≤ 1000000000000000) : callF P (k + 6) f [.d (.int whole), .d d] S = some (.tup ((sharesL whole ws).map .int), S) := by
  have e1 := within_ok (k := k + 3) (S := S) (d := .int whole) (lo := 0) (hi := 1000000000000000) hg hi rfl
  have e2 := weights_ok (k := k) (S := S) hrs hro hr hw' hg hi hd hw
  have e3 := shares_of_ok (k := k + 4) (S := S) hso hd hw h0 h1
  rw [callF_b h rfl (by decide)]
  unfold B_shares
  refine rt_fin ?_ rfl
  show evSs (callF P (k + 5)) _ [some (.d (.int whole)), some (.d d)] S = _
  rw [ss_nx (needE2 (k := k + 4) (a := .int 0) hn (by simp [evE, evEs, flatD, rd_d, e1, isW, h0, h1]) (by simp [evE, flatD]))]
  rw [ss_nx (needE2 (k := k + 4) (a := .int 1) hn (by simp [evE, evEs, e2]) (by simp [evE, flatD]))]
  exact ss_rt (x_ret (by simp [evE, evEs, e3]))
def taxL (a r : Int) : Int := (a * r + 500) / 1000
theorem tax_body {a r : Int} (h1 : 0 ≤ r) (h2 : r ≤ 1000) {c : Call} : evE c (.bin .div (.bin .add (.bin .mul (.var 0) (.var 1)) (.cst (.int 500))) (.cst (.int 1000))) [some (.d (.int a)), some (.d (.int r))] S = some (.d (.int (taxL a r)), S) := by
  have c1 : CMul a r := .inr ⟨by omega, by omega⟩
  have c2 : CDivW (a * r + 500) 1000 := cdivW (by decide) (by decide)
  simp [evE, flatD, rd_d, bRun, c1, c2, taxL]
theorem law_tax_ok (h : P f = some ⟨2, 2, B_law_tax⟩) {a r : Int} (h1 : 0 ≤ r) (h2 : r ≤ 1000) : callF P (k + 1) f [.d (.int a), .d (.int r)] S = some (.int (taxL a r), S) := by
  rw [callF_b h rfl (by decide)]
  exact rt_fin (ss_rt (x_ret (tax_body h1 h2))) rfl
theorem tax_ok {nd wi i t : Nat} (h : P f = some ⟨2, 2, B_tax nd wi t⟩) (hn : P nd = some ⟨2, 2, B_need⟩) (hg : P wi = some ⟨3, 3, B_is_within i⟩) (hi : P i = some ⟨1, 1, B_is_integer⟩) (ht : P t = some ⟨2, 2, B_tax_of⟩)
    {a r : Int} (a0 : 0 ≤ a) (a1 : a ≤ 1000000000000000) (h1 : 0 ≤ r) (h2 : r ≤ 1000) : callF P (k + 3) f [.d (.int a), .d (.int r)] S = some (.int (taxL a r), S) := by
  have e1 := within_ok (k := k) (S := S) (d := .int a) (lo := 0) (hi := 1000000000000000) hg hi rfl
  have e2 := within_ok (k := k) (S := S) (d := .int r) (lo := 0) (hi := 1000) hg hi rfl
  have e3 : callF P (k + 2) t [.d (.int a), .d (.int r)] S = some (.int (taxL a r), S) := by
    rw [callF_b ht rfl (by decide)]
    exact rt_fin (ss_rt (x_ret (tax_body h1 h2))) rfl
  rw [callF_b h rfl (by decide)]
  unfold B_tax
  refine rt_fin ?_ rfl
  show evSs (callF P (k + 2)) _ [some (.d (.int a)), some (.d (.int r))] S = _
  rw [ss_nx (needE2 (k := k + 1) (a := .int 0) hn (by simp [evE, evEs, flatD, rd_d, e1, isW, a0, a1]) (by simp [evE, flatD]))]
  rw [ss_nx (needE2 (k := k + 1) (a := .int 1) hn (by simp [evE, evEs, flatD, rd_d, e2, isW, h1, h2]) (by simp [evE, flatD]))]
  exact ss_rt (x_ret (by simp [evE, evEs, e3]))
end
end Pv

set_option Elab.async false
set_option linter.all false
set_option maxRecDepth 100000
set_option maxHeartbeats 2000000
namespace Pv
open PySem L2
theorem sum_set : ∀ (ps : List Int) (j : Nat) (h : j < ps.length) (v : Int), (ps.set j v).sum = ps.sum - ps[j] + v
  | p :: ps, 0, _, v => by simp; omega
  | p :: ps, j + 1, h, v => by
    have := sum_set ps j (by simpa using h) v
    simp only [List.set_cons_succ, List.sum_cons, List.getElem_cons_succ, this]
    omega
theorem sum_bump {ps : List Int} {j : Nat} (h : j < ps.length) : (bump ps j).sum = ps.sum + 1 := by
  have e : ps.getD j 0 = ps[j] := by simp [h]
  rw [bump, sum_set ps j h, e]
  omega
theorem sum_bumps : ∀ (xs : List Nat) (ps : List Int), (∀ j ∈ xs, j < ps.length) → (xs.foldl bump ps).sum = ps.sum + xs.length
  | [], ps, _ => by simp
  | x :: xs, ps, h => by
    have h1 := sum_bumps xs (bump ps x) fun j hj => by rw [bump_length]; exact h j (.tail _ hj)
    have h2 := sum_bump (h x (.head _))
    simp only [List.foldl_cons, List.length_cons, h1, h2]
    omega
theorem parts_rests (whole t : Int) : ∀ ws : List Int, t * (ws.map fun w => whole * w / t).sum + (ws.map fun w => whole * w % t).sum = whole * ws.sum
  | [] => by simp
  | w :: ws => by
    have ih := parts_rests whole t ws
    have e := Int.mul_ediv_add_emod (whole * w) t
    simp only [List.map_cons, List.sum_cons, Int.mul_add]
    rw [← ih]
    omega
theorem rests_sum {t : Int} (ht : 0 < t) (whole : Int) : ∀ ws : List Int, 0 ≤ (ws.map fun w => whole * w % t).sum ∧ (ws.map fun w => whole * w % t).sum ≤ t * ws.length - ws.length
  | [] => by simp
  | w :: ws => by
    have ih := rests_sum ht whole ws
    have e1 := Int.emod_nonneg (whole * w) (by omega : t ≠ 0)
    have e2 := Int.emod_lt_of_pos (whole * w) ht
    simp only [List.map_cons, List.sum_cons, List.length_cons, Int.natCast_add, Int.mul_add, Int.mul_one, Int.natCast_one]
    omega
theorem cutG_length {α : Type} {xs : List α} {hi : Int} (h0 : 0 ≤ hi) (h1 : hi ≤ xs.length) : ((cutG xs hi).length : Int) = hi := by
  have e0 : HT.sIx xs.length 0 none = 0 := rfl
  have e1 : HT.sIx xs.length xs.length (some hi) = hi.toNat := by
    unfold HT.sIx
    simp only []
    split <;> omega
  rw [cutG, e0, e1]
  simp
  omega
theorem shares_sum {whole : Int} {ws : List Int} (hw : WsOk ws) : (sharesL whole ws).sum = whole := by
  have hp := parts_rests whole ws.sum ws
  have hr := rests_sum hw.pos whole ws
  have hs := hw.pos
  generalize ht : ws.sum = t at *
  have e1 : partsL whole ws = ws.map fun w => whole * w / t := by rw [partsL, ht]
  have e2 : restsL whole ws = ws.map fun w => whole * w % t := by rw [restsL, ht]
  rw [← e1, ← e2] at hp
  rw [← e2] at hr
  have key : t * (whole - (partsL whole ws).sum) = (restsL whole ws).sum := by
    rw [Int.mul_sub, Int.mul_comm t whole]
    omega
  have l0 : 0 ≤ whole - (partsL whole ws).sum := by
    by_cases h : 0 ≤ whole - (partsL whole ws).sum
    · exact h
    · have := Int.mul_neg_of_pos_of_neg hs (by omega : whole - (partsL whole ws).sum < 0)
      omega
  have l1 : whole - (partsL whole ws).sum ≤ ws.length := by
    by_cases h : whole - (partsL whole ws).sum ≤ ws.length
    · exact h
    · have := Int.mul_lt_mul_of_pos_left (by omega : (ws.length : Int) < whole - (partsL whole ws).sum) hs
      omega
  have hb : (PvLm.byNeg (restsL whole ws)).length = ws.length := by simp [PvLm.byNeg, restsL]
  have hl := cutG_length (xs := PvLm.byNeg (restsL whole ws)) l0 (by rw [hb]; exact l1)
  rw [sharesL, sum_bumps _ _ fun j hj => by have := byNeg_lt (cutG_mem hj); simpa [restsL, partsL] using this, hl]
  omega
end Pv

set_option Elab.async false
set_option linter.all false
set_option maxRecDepth 100000
set_option maxHeartbeats 2000000
namespace Pv
open PySem L2
def B_law_told15 (i_shares i_tax : Nat) : Ss := .cons (.tryR (.ite (.val (.cmp .eq (.var 0) (.cst (.int 0)))) (.call i_shares (.cons (.var 1) (.cons (.var 2) (.nil)))) (.call i_tax (.cons (.var 1) (.cons (.var 2) (.nil))))) 3 "bad") (.nil)
section
variable {P : Nat → Option Fn} {k f : Nat} {S : Store} {d : D} {ws : List Int} {whole : Int}
theorem told15s {z p : Nat} (hT : P f = some ⟨3, 4, B_law_told15 z p⟩) {b c : D} {o : Out} (hz : Rz P k z [.d b, .d c] S o) {Q : D × Store → Prop} (q : match o with | .rt d S' => S' = S ∧ Q (d, S) | .xc v S' => S' = S ∧ Q (.tup [.str "bad", v], S) | _ => False) : OkR (callF P (k + 1) f [.d (.int 0), .d b, .d c] S) Q := by
  refine def_ok hT rfl (by show 3 ≤ 4; decide) rfl ?_
  show OkR (evSs (callF P k) (B_law_told15 z p) [some (.d (.int 0)), some (.d b), some (.d c), none] S) _
  unfold B_law_told15
  refine ss_step ?_
  have et : evT (callF P k) (.val (.cmp .eq (.var 0) (.cst (.int 0)))) [some (.d (.int 0)), some (.d b), some (.d c), none] S = some (true, S) := by simp [evT, evE, rd_d, flatD, c_eq]
  have ex : evX (callF P k) (.ite (.val (.cmp .eq (.var 0) (.cst (.int 0)))) (.call z (.cons (.var 1) (.cons (.var 2) (.nil)))) (.call p (.cons (.var 1) (.cons (.var 2) (.nil))))) [some (.d (.int 0)), some (.d b), some (.d c), none] S = some o := by
    rw [evX, et]
    simp only [Option.bind_some, if_true]
    exact hz.ev (by simp [evE, evEs])
  simp only [evS, ex, List.length_cons, List.length_nil]
  cases o with
  | rt d S' =>
    obtain ⟨rfl, q⟩ := q
    simp only [okR_bind, okR_map, okR_some, evS, ee_var, ee_cst, ee_fnv, ee_bin, ee_neg, ee_fz, ee_cmp, ee_chain, ee_isN, ee_notN, ee_and, ee_or, ee_not, ee_ite, ee_call, ee_callv, ee_bi, ee_isi1, ee_isi2, ee_mt0, ee_mt1, ee_ix, ee_dget, ee_din, ee_get1, ee_get2, ee_sl, ee_tup, ee_lst, evEs, evZ, evO, evI, evT, evTo, evX, rd_d, fz_d, b_add, b_sub, b_mul, b_div, b_mod, b_p18, b_p8, b_p7, b_p6, c_lt, c_le, c_gt, c_ge, c_eq, c_ne, c_eqs, c_nes, c_nes0, c_nes1, c_eqs0, c_eqs1, l_t, l_l, bi_i, bi_max, bi_min, bi_tl, bi_tt, ix_l, ix_t, m_nil, m_cons, at0, at1, at2, flatD, seqOf, isNonW, nx_nx, nx_rt, nx_bk, nx_ct, nx_xc, next_nx, next_ct, next_bk, next_rt, Option.bind_some, Option.map_some, List.getElem?_cons_zero, List.getElem?_cons_succ, List.set_cons_zero, List.set_cons_succ, List.length_cons, List.length_nil, if_true, asgn, asgns, Nat.zero_add, Nat.reduceAdd, Nat.reduceLT, Nat.reduceLeDiff, reduceIte, reduceCtorEq, Bool.false_eq_true, Int.reduceNeg, sizeLine_val, and_self, true_and, and_true, b_m7, b_m86400, b_m1000000000, b_m60, b_m600, b_d7, b_d86400, b_d1000, b_p10_5, b_p10_9, b_p10_12, b_p10_15]
    exact fin_rl rfl q
  | xc v S' =>
    obtain ⟨rfl, q⟩ := q
    simp only [okR_bind, okR_map, okR_some, evS, ee_var, ee_cst, ee_fnv, ee_bin, ee_neg, ee_fz, ee_cmp, ee_chain, ee_isN, ee_notN, ee_and, ee_or, ee_not, ee_ite, ee_call, ee_callv, ee_bi, ee_isi1, ee_isi2, ee_mt0, ee_mt1, ee_ix, ee_dget, ee_din, ee_get1, ee_get2, ee_sl, ee_tup, ee_lst, evEs, evZ, evO, evI, evT, evTo, evX, rd_d, fz_d, b_add, b_sub, b_mul, b_div, b_mod, b_p18, b_p8, b_p7, b_p6, c_lt, c_le, c_gt, c_ge, c_eq, c_ne, c_eqs, c_nes, c_nes0, c_nes1, c_eqs0, c_eqs1, l_t, l_l, bi_i, bi_max, bi_min, bi_tl, bi_tt, ix_l, ix_t, m_nil, m_cons, at0, at1, at2, flatD, seqOf, isNonW, nx_nx, nx_rt, nx_bk, nx_ct, nx_xc, next_nx, next_ct, next_bk, next_rt, Option.bind_some, Option.map_some, List.getElem?_cons_zero, List.getElem?_cons_succ, List.set_cons_zero, List.set_cons_succ, List.length_cons, List.length_nil, if_true, asgn, asgns, Nat.zero_add, Nat.reduceAdd, Nat.reduceLT, Nat.reduceLeDiff, reduceIte, reduceCtorEq, Bool.false_eq_true, Int.reduceNeg, sizeLine_val, and_self, true_and, and_true, b_m7, b_m86400, b_m1000000000, b_m60, b_m600, b_d7, b_d86400, b_d1000, b_p10_5, b_p10_9, b_p10_12, b_p10_15]
    exact fin_rl rfl q
  | _ => exact q.elim
theorem told15t {z p : Nat} (hT : P f = some ⟨3, 4, B_law_told15 z p⟩) {b c : D} {o : Out} (hz : Rz P k p [.d b, .d c] S o) {Q : D × Store → Prop} (q : match o with | .rt d S' => S' = S ∧ Q (d, S) | .xc v S' => S' = S ∧ Q (.tup [.str "bad", v], S) | _ => False) : OkR (callF P (k + 1) f [.d (.int 1), .d b, .d c] S) Q := by
  refine def_ok hT rfl (by show 3 ≤ 4; decide) rfl ?_
  show OkR (evSs (callF P k) (B_law_told15 z p) [some (.d (.int 1)), some (.d b), some (.d c), none] S) _
  unfold B_law_told15
  refine ss_step ?_
  have et : evT (callF P k) (.val (.cmp .eq (.var 0) (.cst (.int 0)))) [some (.d (.int 1)), some (.d b), some (.d c), none] S = some (false, S) := by simp [evT, evE, rd_d, flatD, c_eq]
  have ex : evX (callF P k) (.ite (.val (.cmp .eq (.var 0) (.cst (.int 0)))) (.call z (.cons (.var 1) (.cons (.var 2) (.nil)))) (.call p (.cons (.var 1) (.cons (.var 2) (.nil))))) [some (.d (.int 1)), some (.d b), some (.d c), none] S = some o := by
    rw [evX, et]
    simp only [Option.bind_some, Bool.false_eq_true, if_false]
    exact hz.ev (by simp [evE, evEs])
  simp only [evS, ex, List.length_cons, List.length_nil]
  cases o with
  | rt d S' =>
    obtain ⟨rfl, q⟩ := q
    simp only [okR_bind, okR_map, okR_some, evS, ee_var, ee_cst, ee_fnv, ee_bin, ee_neg, ee_fz, ee_cmp, ee_chain, ee_isN, ee_notN, ee_and, ee_or, ee_not, ee_ite, ee_call, ee_callv, ee_bi, ee_isi1, ee_isi2, ee_mt0, ee_mt1, ee_ix, ee_dget, ee_din, ee_get1, ee_get2, ee_sl, ee_tup, ee_lst, evEs, evZ, evO, evI, evT, evTo, evX, rd_d, fz_d, b_add, b_sub, b_mul, b_div, b_mod, b_p18, b_p8, b_p7, b_p6, c_lt, c_le, c_gt, c_ge, c_eq, c_ne, c_eqs, c_nes, c_nes0, c_nes1, c_eqs0, c_eqs1, l_t, l_l, bi_i, bi_max, bi_min, bi_tl, bi_tt, ix_l, ix_t, m_nil, m_cons, at0, at1, at2, flatD, seqOf, isNonW, nx_nx, nx_rt, nx_bk, nx_ct, nx_xc, next_nx, next_ct, next_bk, next_rt, Option.bind_some, Option.map_some, List.getElem?_cons_zero, List.getElem?_cons_succ, List.set_cons_zero, List.set_cons_succ, List.length_cons, List.length_nil, if_true, asgn, asgns, Nat.zero_add, Nat.reduceAdd, Nat.reduceLT, Nat.reduceLeDiff, reduceIte, reduceCtorEq, Bool.false_eq_true, Int.reduceNeg, sizeLine_val, and_self, true_and, and_true, b_m7, b_m86400, b_m1000000000, b_m60, b_m600, b_d7, b_d86400, b_d1000, b_p10_5, b_p10_9, b_p10_12, b_p10_15]
    exact fin_rl rfl q
  | xc v S' =>
    obtain ⟨rfl, q⟩ := q
    simp only [okR_bind, okR_map, okR_some, evS, ee_var, ee_cst, ee_fnv, ee_bin, ee_neg, ee_fz, ee_cmp, ee_chain, ee_isN, ee_notN, ee_and, ee_or, ee_not, ee_ite, ee_call, ee_callv, ee_bi, ee_isi1, ee_isi2, ee_mt0, ee_mt1, ee_ix, ee_dget, ee_din, ee_get1, ee_get2, ee_sl, ee_tup, ee_lst, evEs, evZ, evO, evI, evT, evTo, evX, rd_d, fz_d, b_add, b_sub, b_mul, b_div, b_mod, b_p18, b_p8, b_p7, b_p6, c_lt, c_le, c_gt, c_ge, c_eq, c_ne, c_eqs, c_nes, c_nes0, c_nes1, c_eqs0, c_eqs1, l_t, l_l, bi_i, bi_max, bi_min, bi_tl, bi_tt, ix_l, ix_t, m_nil, m_cons, at0, at1, at2, flatD, seqOf, isNonW, nx_nx, nx_rt, nx_bk, nx_ct, nx_xc, next_nx, next_ct, next_bk, next_rt, Option.bind_some, Option.map_some, List.getElem?_cons_zero, List.getElem?_cons_succ, List.set_cons_zero, List.set_cons_succ, List.length_cons, List.length_nil, if_true, asgn, asgns, Nat.zero_add, Nat.reduceAdd, Nat.reduceLT, Nat.reduceLeDiff, reduceIte, reduceCtorEq, Bool.false_eq_true, Int.reduceNeg, sizeLine_val, and_self, true_and, and_true, b_m7, b_m86400, b_m1000000000, b_m60, b_m600, b_d7, b_d86400, b_d1000, b_p10_5, b_p10_9, b_p10_12, b_p10_15]
    exact fin_rl rfl q
  | _ => exact q.elim
structure ShOk (P : Nat → Option Fn) : Prop where
  p0 : P 0 = some ⟨2, 2, B_need⟩
  p1 : P 1 = some ⟨1, 1, B_is_integer⟩
  p2 : P 2 = some ⟨3, 3, B_is_within 1⟩
  p3 : P 3 = some ⟨3, 3, B_is_rows⟩
  p4 : P 4 = some ⟨4, 5, B_is_rows_of 3⟩
  p5 : P 5 = some ⟨1, 1, B_is_weight 2⟩
  p6 : P 6 = some ⟨1, 1, B_is_weights 4 5⟩
  p7 : P 7 = some ⟨2, 8, B_shares_of⟩
  p8 : P 8 = some ⟨2, 2, B_shares 0 2 6 7⟩
  p9 : P 9 = some ⟨2, 2, B_tax_of⟩
  p10 : P 10 = some ⟨2, 2, B_tax 0 2 9⟩
theorem weight_eq (h : ShOk P) {y : D} (hy : okV y = true) : callF P (k + 3) 5 [.d y] S = some (.bl (isW 0 1000000000000000 y), S) := by
  have e := within_ok (k := k) (S := S) (lo := 0) (hi := 1000000000000000) h.p2 h.p1 hy
  rw [callF_b h.p5 rfl (by decide)]
  unfold B_is_weight
  refine rt_fin ?_ rfl
  show evSs (callF P (k + 2)) _ [some (.d y)] S = _
  refine ss_rt (x_ret ?_)
  simp [evE, evEs, flatD, rd_d, e]
def rowsW (d : D) : Bool := match sqL d with | some ds => (decide ((1 : Int) ≤ (ds.length : Int)) && decide ((ds.length : Int) ≤ 40)) && ds.all (isW 0 1000000000000000) | none => false
theorem weights_bad (h : ShOk P) {m : Nat} (hd : Vt m d = true) (hb : rowsW d = false ∨ biRun .sum [d] = some (.int 0)) : callF P (k + 5) 6 [.d d] S = some (.bl false, S) := by
  have e := rows_of_eq (k := k + 2) (S := S) (n := 5) (lo := 1) (hi := 40) (p := isW 0 1000000000000000) h.p4 h.p3 hd (fun y m' hy => weight_eq (k := k) h (vt_ok hy))
  have e' : callF P (k + 4) 4 [.d d, .d (.int 1), .d (.int 40), .d (.fn 5)] S = some (.bl (rowsW d), S) := e
  rw [callF_b h.p6 rfl (by decide)]
  unfold B_is_weights
  refine rt_fin ?_ rfl
  show evSs (callF P (k + 4)) _ [some (.d d)] S = _
  refine ss_rt (x_ret ?_)
  cases hr : rowsW d with
  | false =>
    rw [hr] at e'
    simp [evE, evEs, flatD, rd_d, e']
  | true =>
    rw [hr] at e' hb
    have e3 := hb.resolve_left (by simp)
    simp [evE, evEs, flatD, rd_d, e', e3, c_gt]
theorem shares0 (h : ShOk P) {y : D} (hy : okV y = true) (hb : isW 0 1000000000000000 y = false) : Rz P (k + 6) 8 [.d y, .d d] S (.xc (.int 0) S) := by
  refine rz_of (ρ := [some (.d y), some (.d d)]) h.p8 rfl (by show 2 ≤ 2; decide) rfl ?_
  have e1 := within_ok (k := k + 3) (S := S) (lo := 0) (hi := 1000000000000000) h.p2 h.p1 hy
  show evSs _ (B_shares 0 2 6 7) _ _ = _
  unfold B_shares
  exact ss_xc (needN2 (k := k + 4) h.p0 (by decide) (by simp [evE, evEs, flatD, rd_d, e1, hb]) (by simp [evE, flatD]))
theorem shares1 (h : ShOk P) {m : Nat} (h0 : 0 ≤ whole) (h1 : whole ≤ 1000000000000000) (hd : Vt m d = true) (hb : rowsW d = false ∨ biRun .sum [d] = some (.int 0)) : Rz P (k + 6) 8 [.d (.int whole), .d d] S (.xc (.int 1) S) := by
  refine rz_of (ρ := [some (.d (.int whole)), some (.d d)]) h.p8 rfl (by show 2 ≤ 2; decide) rfl ?_
  have e1 := within_ok (k := k + 3) (S := S) (d := .int whole) (lo := 0) (hi := 1000000000000000) h.p2 h.p1 rfl
  have e2 := weights_bad (k := k) (S := S) h hd hb
  show evSs _ (B_shares 0 2 6 7) _ _ = _
  unfold B_shares
  rw [ss_nx (needE2 (k := k + 4) (a := .int 0) h.p0 (by simp [evE, evEs, flatD, rd_d, e1, isW, h0, h1]) (by simp [evE, flatD]))]
  exact ss_xc (needN2 (k := k + 4) h.p0 (by decide) (by simp [evE, evEs, e2]) (by simp [evE, flatD]))
theorem tax0 (h : ShOk P) {y : D} (hy : okV y = true) (hb : isW 0 1000000000000000 y = false) : Rz P (k + 3) 10 [.d y, .d d] S (.xc (.int 0) S) := by
  refine rz_of (ρ := [some (.d y), some (.d d)]) h.p10 rfl (by show 2 ≤ 2; decide) rfl ?_
  have e1 := within_ok (k := k) (S := S) (lo := 0) (hi := 1000000000000000) h.p2 h.p1 hy
  show evSs _ (B_tax 0 2 9) _ _ = _
  unfold B_tax
  exact ss_xc (needN2 (k := k + 1) h.p0 (by decide) (by simp [evE, evEs, flatD, rd_d, e1, hb]) (by simp [evE, flatD]))
theorem tax1 (h : ShOk P) {y : D} (h0 : 0 ≤ whole) (h1 : whole ≤ 1000000000000000) (hy : okV y = true) (hb : isW 0 1000 y = false) : Rz P (k + 3) 10 [.d (.int whole), .d y] S (.xc (.int 1) S) := by
  refine rz_of (ρ := [some (.d (.int whole)), some (.d y)]) h.p10 rfl (by show 2 ≤ 2; decide) rfl ?_
  have e1 := within_ok (k := k) (S := S) (d := .int whole) (lo := 0) (hi := 1000000000000000) h.p2 h.p1 rfl
  have e2 := within_ok (k := k) (S := S) (lo := 0) (hi := 1000) h.p2 h.p1 hy
  show evSs _ (B_tax 0 2 9) _ _ = _
  unfold B_tax
  rw [ss_nx (needE2 (k := k + 1) (a := .int 0) h.p0 (by simp [evE, evEs, flatD, rd_d, e1, isW, h0, h1]) (by simp [evE, flatD]))]
  exact ss_xc (needN2 (k := k + 1) h.p0 (by decide) (by simp [evE, evEs, flatD, rd_d, e2, hb]) (by simp [evE, flatD]))
end
end Pv

set_option Elab.async false
set_option linter.all false
set_option maxRecDepth 100000
set_option maxHeartbeats 4000000
namespace Pv
open PySem L2
def B_law15 (i_law_so i_law_numbers i_law_take i_law_wide i_law_handed i_law_pick i_law_shares i_law_tax i_law_told : Nat) : Ss := .cons (.asg (.name 1) (.call i_law_numbers (.cons (.var 0) (.nil)))) (.cons (.newL 2 (.cons (.cst (.int 0)) (.nil))) (.cons (.forS (.name 3) (.r1 (.cst (.int 6))) (.cons (.asg (.name 4) (.call i_law_pick (.cons (.var 1) (.cons (.var 2) (.cons (.lst (.cons (.cst (.int 3)) (.cons (.cst (.int 30)) (.cons (.cst (.int 997)) (.nil))))) (.nil)))))) (.cons (.asg (.name 5) (.bin .add (.cst (.int 1)) (.call i_law_take (.cons (.var 1) (.cons (.var 2) (.cons (.ix (.lst (.cons (.cst (.int 4)) (.cons (.cst (.int 40)) (.nil)))) (.call i_law_take (.cons (.var 1) (.cons (.var 2) (.cons (.cst (.int 2)) (.nil)))))) (.nil))))))) (.cons (.newC 6 [14] (.name 14) (.r1 (.var 5)) (.none) (.bin .mul (.call i_law_take (.cons (.var 1) (.cons (.var 2) (.cons (.var 4) (.nil))))) (.call i_law_pick (.cons (.var 1) (.cons (.var 2) (.cons (.lst (.cons (.cst (.int 1)) (.cons (.cst (.int 1)) (.cons (.bin .pow (.cst (.int 10)) (.cst (.int 9))) (.nil))))) (.nil))))))) (.cons (.ifs (.val (.cmp .eq (.bi .sum (.cons (.var 6) (.nil))) (.cst (.int 0)))) (.cons (.setL 6 (.cst (.int 0)) (.cst (.int 1))) (.nil)) (.nil)) (.cons (.asg (.name 7) (.bi .min2 (.cons (.bin .pow (.cst (.int 10)) (.cst (.int 15))) (.cons (.bin .add (.bin .mul (.call i_law_wide (.cons (.var 1) (.cons (.var 2) (.cons (.bin .pow (.cst (.int 10)) (.cst (.int 6))) (.nil))))) (.bin .pow (.cst (.int 10)) (.cst (.int 9)))) (.call i_law_wide (.cons (.var 1) (.cons (.var 2) (.cons (.bin .pow (.cst (.int 10)) (.cst (.int 9))) (.nil)))))) (.nil))))) (.cons (.asg (.name 8) (.call i_law_pick (.cons (.var 1) (.cons (.var 2) (.cons (.lst (.cons (.cst (.int 0)) (.cons (.cst (.int 1)) (.cons (.call i_law_take (.cons (.var 1) (.cons (.var 2) (.cons (.cst (.int 997)) (.nil))))) (.cons (.var 7) (.cons (.var 7) (.cons (.bin .pow (.cst (.int 10)) (.cst (.int 15))) (.nil)))))))) (.nil)))))) (.cons (.asg (.name 9) (.call i_law_told (.cons (.cst (.int 0)) (.cons (.var 8) (.cons (.call i_law_handed (.cons (.var 1) (.cons (.var 2) (.cons (.bi .tuple (.cons (.var 6) (.nil))) (.nil))))) (.nil)))))) (.cons (.ifs (.or (.not (.val (.call i_law_so (.cons (.var 9) (.cons (.call i_law_shares (.cons (.var 8) (.cons (.fz (.var 6)) (.nil)))) (.nil)))))) (.val (.cmp .ne (.bi .sum (.cons (.var 9) (.nil))) (.var 8)))) (.cons (.ret (.cst (.bl false))) (.nil)) (.nil)) (.cons (.asg (.name 10) (.call i_law_pick (.cons (.var 1) (.cons (.var 2) (.cons (.lst (.cons (.cst (.int 0)) (.cons (.cst (.int 1)) (.cons (.cst (.int 500)) (.cons (.cst (.int 1000)) (.cons (.call i_law_take (.cons (.var 1) (.cons (.var 2) (.cons (.cst (.int 997)) (.nil))))) (.nil))))))) (.nil)))))) (.cons (.ifs (.not (.val (.call i_law_so (.cons (.call i_law_told (.cons (.cst (.int 1)) (.cons (.var 8) (.cons (.var 10) (.nil))))) (.cons (.call i_law_tax (.cons (.var 8) (.cons (.var 10) (.nil)))) (.nil)))))) (.cons (.ret (.cst (.bl false))) (.nil)) (.nil)) (.nil)))))))))))) (.cons (.asg (.name 11) (.call i_law_pick (.cons (.var 1) (.cons (.var 2) (.cons (.lst (.cons (.cst .non) (.cons (.neg (.cst (.int 1))) (.cons (.bin .add (.bin .pow (.cst (.int 10)) (.cst (.int 15))) (.cst (.int 1))) (.cons (.cst (.str "1")) (.cons (.cst (.bl true)) (.nil))))))) (.nil)))))) (.cons (.asg (.name 12) (.call i_law_pick (.cons (.var 1) (.cons (.var 2) (.cons (.lst (.cons (.cst .non) (.cons (.tup (.nil)) (.cons (.tup (.cons (.cst (.int 0)) (.nil))) (.cons (.tup (.cons (.cst (.int 0)) (.cons (.cst (.int 0)) (.nil)))) (.cons (.tup (.cons (.neg (.cst (.int 1))) (.cons (.cst (.int 2)) (.nil)))) (.cons (.tup (.cons (.cst (.bl true)) (.nil))) (.cons (.tup (.cons (.bin .add (.bin .pow (.cst (.int 10)) (.cst (.int 15))) (.cst (.int 1))) (.nil))) (.cons (.bin .mul (.tup (.cons (.cst (.int 1)) (.nil))) (.cst (.int 41))) (.cons (.cst (.int 7)) (.cons (.cst (.str "12")) (.nil)))))))))))) (.nil)))))) (.cons (.ifs (.or (.not (.val (.call i_law_so (.cons (.call i_law_told (.cons (.cst (.int 0)) (.cons (.var 11) (.cons (.var 12) (.nil))))) (.cons (.tup (.cons (.cst (.str "bad")) (.cons (.cst (.int 0)) (.nil)))) (.nil)))))) (.not (.val (.call i_law_so (.cons (.call i_law_told (.cons (.cst (.int 0)) (.cons (.cst (.int 1)) (.cons (.var 12) (.nil))))) (.cons (.tup (.cons (.cst (.str "bad")) (.cons (.cst (.int 1)) (.nil)))) (.nil))))))) (.cons (.ret (.cst (.bl false))) (.nil)) (.nil)) (.cons (.asg (.name 13) (.call i_law_pick (.cons (.var 1) (.cons (.var 2) (.cons (.lst (.cons (.cst .non) (.cons (.neg (.cst (.int 1))) (.cons (.cst (.int 1001)) (.cons (.cst (.bl true)) (.nil)))))) (.nil)))))) (.cons (.ret (.and (.call i_law_so (.cons (.call i_law_told (.cons (.cst (.int 1)) (.cons (.var 11) (.cons (.var 13) (.nil))))) (.cons (.tup (.cons (.cst (.str "bad")) (.cons (.cst (.int 0)) (.nil)))) (.nil)))) (.call i_law_so (.cons (.call i_law_told (.cons (.cst (.int 1)) (.cons (.cst (.int 1)) (.cons (.var 13) (.nil))))) (.cons (.tup (.cons (.cst (.str "bad")) (.cons (.cst (.int 1)) (.nil)))) (.nil)))))) (.nil))))))))
abbrev Y15 : Lx := ⟨11, 12, 13, 14, 15, 16, 17, 18, 19⟩
structure T15 (P : Nat → Option Fn) : Prop where
  lx : LxOk P Y15
  sh : ShOk P
  p20 : P 20 = some ⟨2, 8, B_law_shares⟩
  p21 : P 21 = some ⟨2, 2, B_law_tax⟩
  p22 : P 22 = some ⟨3, 4, B_law_told15 8 10⟩
  p23 : P 23 = some ⟨1, 15, B_law15 11 12 14 15 18 19 20 21 22⟩
theorem newC_ok {c : Call} {i : Nat} {vs : List Nat} {tg : Tg} {it : It} {cond : To} {elt : E} {ρ : En} {S : Store} {Q : Out → Prop} (h : OkR (evE c (.comp vs tg it cond elt) ρ S) fun p => ∃ ds, p.1 = .d (.lst ds) ∧ i < ρ.length ∧ Q (.nx (ρ.set i (some (.mu p.2.length))) (p.2 ++ [.lst ds]))) : OkR (evS c (.newC i vs tg it cond elt) ρ S) Q := by
  obtain ⟨⟨w, S1⟩, e, ds, e2, hi, q⟩ := h
  simp only at e2
  subst e2
  exact ⟨_, x_newC e hi, q⟩
theorem st_at15 {x y : MO} {ms : List MO} : (x :: (ms ++ [y]))[ms.length + 1]? = some y := by simp
theorem st_set15 {x y z : MO} {ms : List MO} : (x :: (ms ++ [y])).set (ms.length + 1) z = x :: (ms ++ [z]) := by simp
theorem fz15 {x : MO} {ms : List MO} {ds : List D} : fzW (.mu (ms.length + 1)) (x :: (ms ++ [.lst ds])) = some (.lst ds, x :: (ms ++ [.dead])) := by rw [fz_l st_at15, st_set15]
theorem rd15 {x : MO} {ms : List MO} {ds : List D} : rdW (.mu (ms.length + 1)) (x :: (ms ++ [.lst ds])) = some (.lst ds) := by simp [rdW]
theorem bt15 {ds : List D} : biRun .tuple [.lst ds] = some (.tup ds) := rfl
theorem bl15 {ds : List D} : biRun .list [.lst ds] = some (.lst ds) := rfl
theorem fix0 {c : Call} {ρ : En} {x : MO} {ms : List MO} {ws0 : List Int} (h6 : ρ[6]? = some (some (.mu (ms.length + 1)))) (h1 : 1 ≤ ws0.length) (h2 : ws0.length ≤ 40) (h3 : ∀ w ∈ ws0, 0 ≤ w ∧ w ≤ 1000000000000000) :
    OkR (evS c (.ifs (.val (.cmp .eq (.bi .sum (.cons (.var 6) (.nil))) (.cst (.int 0)))) (.cons (.setL 6 (.cst (.int 0)) (.cst (.int 1))) (.nil)) (.nil)) ρ (x :: (ms ++ [.lst (ws0.map .int)]))) fun o => ∃ ws, WsOk ws ∧ o = .nx ρ (x :: (ms ++ [.lst (ws.map .int)])) := by
  have nn : ∀ {ws : List Int}, (∀ w ∈ ws, 0 ≤ w ∧ w ≤ 1000000000000000) → 0 ≤ ws.sum := by
    intro ws
    induction ws with
    | nil => simp
    | cons a t ih => exact fun h => by have := ih fun w hw => h w (.tail _ hw); have := h a (.head _); simp only [List.sum_cons]; omega
  have n0 := nn h3
  by_cases h0 : ws0.sum = 0
  · match ws0, h1 with
    | a :: t, _ =>
      have nt := nn fun w hw => h3 w (.tail a hw)
      refine ⟨_, ?_, 1 :: t, ⟨h2, fun w hw => ?_, ?_⟩, rfl⟩
      · have e0 : biRun .sum [.lst (D.int a :: t.map D.int)] = some (.int 0) := by
          have := ints_map (a :: t)
          simp only [List.map_cons] at this
          simp only [biRun, this, Option.map_some, h0]
        simp [evS, evSs, evT, evE, evEs, h6, rdW, e0, flatD, c_eq, lstAt, ixN, fz_d]
      · rcases List.mem_cons.mp hw with rfl | hw
        · decide
        · exact h3 w (.tail _ hw)
      · simp only [List.sum_cons]
        omega
  · refine ⟨_, ?_, ws0, ⟨h2, h3, by omega⟩, rfl⟩
    simp [evS, evSs, evT, evE, evEs, h6, rdW, biRun, ints_map, flatD, c_eq, h0]
section
variable {P : Nat → Option Fn} {S : Store}
theorem lk_ints15 {x : D} {ws : List Int} (h : Lk 1 x (.tup (ws.map .int))) : Sq x (ws.map D.int) := by
  obtain ⟨ds', h1, h2⟩ := h
  have e : ds' = ws.map D.int := by
    have : ∀ {as bs : List D}, All2 (Lk 0) as bs → as = bs := by
      intro as bs h
      induction h with
      | nil => rfl
      | cons h1 _ ih => rw [ih, show _ = _ from h1]
    exact this h2
  subst e
  exact h1
theorem tv_ints {ws : List Int} (h : ws.length ≤ 40) (m : Nat) : Tv (m + 1) (.tup (ws.map .int)) = true := by
  simp only [Tv, Bool.and_eq_true, decide_eq_true_eq, List.all_eq_true, List.length_map]
  refine ⟨by rw [sizeLine_val]; omega, fun x hx => ?_⟩
  obtain ⟨z, _, rfl⟩ := List.mem_map.mp hx
  cases m <;> simp [Tv, flatD]
theorem T15.so (T : T15 P) {d : D} (h : Tv 9 d = true) {Q : D × Store → Prop} (q : Q (.bl true, S)) : OkR (callF P 40 11 [.d d, .d d] S) Q := ⟨_, T.lx.soR (k := 30) (m := 9) h, q⟩
theorem wsok0 {ds : List D} {ms : List D} (h : All2 (fun z _ => ∃ w : Int, z = D.int w ∧ 0 ≤ w ∧ w ≤ 1000000000000000) ds ms) : ∃ ws : List Int, ds = ws.map D.int ∧ ws.length = ms.length ∧ ∀ w ∈ ws, 0 ≤ w ∧ w ≤ 1000000000000000 := by
  induction h with
  | nil => exact ⟨[], rfl, rfl, by simp⟩
  | cons h1 _ ih =>
    obtain ⟨w, rfl, w0, w1⟩ := h1
    obtain ⟨ws, rfl, l, e⟩ := ih
    refine ⟨w :: ws, rfl, by simp [l], fun x hx => ?_⟩
    rcases List.mem_cons.mp hx with rfl | hx
    · exact ⟨w0, w1⟩
    · exact e x hx
theorem law15 (T : T15 P) {ns : List Int} : ∃ S, callF P 41 23 [.d (.scr ns)] [] = some (.bl true, S) := by
  have key : OkR (callF P 41 23 [.d (.scr ns)] []) fun p => p.1 = .bl true := by
    refine def_ok T.p23 rfl (by show 1 ≤ 15; decide) rfl ?_
    show OkR (evSs (callF P 40) (B_law15 11 12 14 15 18 19 20 21 22) [some (.d (.scr ns)), none, none, none, none, none, none, none, none, none, none, none, none, none, none] []) _
    unfold B_law15
    obtain ⟨r, hr, er⟩ := numbers_ex (P := P) (k := 39) (ns := ns) (S := []) T.lx.num
    refine ss_step ?_; simp only [okR_bind, okR_map, okR_some, evS, ee_var, ee_cst, ee_fnv, ee_bin, ee_neg, ee_fz, ee_cmp, ee_chain, ee_isN, ee_notN, ee_and, ee_or, ee_not, ee_ite, ee_call, ee_callv, ee_bi, ee_isi1, ee_isi2, ee_mt0, ee_mt1, ee_ix, ee_dget, ee_din, ee_get1, ee_get2, ee_sl, ee_tup, ee_lst, evEs, evZ, evO, evI, evT, evTo, evX, rd_d, fz_d, b_add, b_sub, b_mul, b_div, b_mod, b_p18, b_p8, b_p7, b_p6, c_lt, c_le, c_gt, c_ge, c_eq, c_ne, c_eqs, c_nes, c_nes0, c_nes1, c_eqs0, c_eqs1, l_t, l_l, bi_i, bi_max, bi_min, bi_tl, bi_tt, ix_l, ix_t, m_nil, m_cons, at0, at1, at2, flatD, seqOf, isNonW, nx_nx, nx_rt, nx_bk, nx_ct, nx_xc, next_nx, next_ct, next_bk, next_rt, Option.bind_some, Option.map_some, List.getElem?_cons_zero, List.getElem?_cons_succ, List.set_cons_zero, List.set_cons_succ, List.length_cons, List.length_nil, if_true, asgn, asgns, Nat.zero_add, Nat.reduceAdd, Nat.reduceLT, Nat.reduceLeDiff, reduceIte, reduceCtorEq, Bool.false_eq_true, Int.reduceNeg, sizeLine_val, and_self, true_and, and_true, b_m7, b_m86400, b_m1000000000, b_m60, b_m600, b_d7, b_d86400, b_d1000, b_p10_5, b_p10_9, b_p10_12, b_p10_15]
    refine OkR.of er ?_
    simp only [okR_bind, okR_map, okR_some, evS, ee_var, ee_cst, ee_fnv, ee_bin, ee_neg, ee_fz, ee_cmp, ee_chain, ee_isN, ee_notN, ee_and, ee_or, ee_not, ee_ite, ee_call, ee_callv, ee_bi, ee_isi1, ee_isi2, ee_mt0, ee_mt1, ee_ix, ee_dget, ee_din, ee_get1, ee_get2, ee_sl, ee_tup, ee_lst, evEs, evZ, evO, evI, evT, evTo, evX, rd_d, fz_d, b_add, b_sub, b_mul, b_div, b_mod, b_p18, b_p8, b_p7, b_p6, c_lt, c_le, c_gt, c_ge, c_eq, c_ne, c_eqs, c_nes, c_nes0, c_nes1, c_eqs0, c_eqs1, l_t, l_l, bi_i, bi_max, bi_min, bi_tl, bi_tt, ix_l, ix_t, m_nil, m_cons, at0, at1, at2, flatD, seqOf, isNonW, nx_nx, nx_rt, nx_bk, nx_ct, nx_xc, next_nx, next_ct, next_bk, next_rt, Option.bind_some, Option.map_some, List.getElem?_cons_zero, List.getElem?_cons_succ, List.set_cons_zero, List.set_cons_succ, List.length_cons, List.length_nil, if_true, asgn, asgns, Nat.zero_add, Nat.reduceAdd, Nat.reduceLT, Nat.reduceLeDiff, reduceIte, reduceCtorEq, Bool.false_eq_true, Int.reduceNeg, sizeLine_val, and_self, true_and, and_true, b_m7, b_m86400, b_m1000000000, b_m60, b_m600, b_d7, b_d86400, b_d1000, b_p10_5, b_p10_9, b_p10_12, b_p10_15]
    refine ss_step ?_; simp only [okR_bind, okR_map, okR_some, evS, ee_var, ee_cst, ee_fnv, ee_bin, ee_neg, ee_fz, ee_cmp, ee_chain, ee_isN, ee_notN, ee_and, ee_or, ee_not, ee_ite, ee_call, ee_callv, ee_bi, ee_isi1, ee_isi2, ee_mt0, ee_mt1, ee_ix, ee_dget, ee_din, ee_get1, ee_get2, ee_sl, ee_tup, ee_lst, evEs, evZ, evO, evI, evT, evTo, evX, rd_d, fz_d, b_add, b_sub, b_mul, b_div, b_mod, b_p18, b_p8, b_p7, b_p6, c_lt, c_le, c_gt, c_ge, c_eq, c_ne, c_eqs, c_nes, c_nes0, c_nes1, c_eqs0, c_eqs1, l_t, l_l, bi_i, bi_max, bi_min, bi_tl, bi_tt, ix_l, ix_t, m_nil, m_cons, at0, at1, at2, flatD, seqOf, isNonW, nx_nx, nx_rt, nx_bk, nx_ct, nx_xc, next_nx, next_ct, next_bk, next_rt, Option.bind_some, Option.map_some, List.getElem?_cons_zero, List.getElem?_cons_succ, List.set_cons_zero, List.set_cons_succ, List.length_cons, List.length_nil, if_true, asgn, asgns, Nat.zero_add, Nat.reduceAdd, Nat.reduceLT, Nat.reduceLeDiff, reduceIte, reduceCtorEq, Bool.false_eq_true, Int.reduceNeg, sizeLine_val, and_self, true_and, and_true, b_m7, b_m86400, b_m1000000000, b_m60, b_m600, b_d7, b_d86400, b_d1000, b_p10_5, b_p10_9, b_p10_12, b_p10_15]
    simp only [List.nil_append]
    refine ss_step (for_ok (i_r1 ?_))
    simp only [okR_bind, okR_map, okR_some, evS, ee_var, ee_cst, ee_fnv, ee_bin, ee_neg, ee_fz, ee_cmp, ee_chain, ee_isN, ee_notN, ee_and, ee_or, ee_not, ee_ite, ee_call, ee_callv, ee_bi, ee_isi1, ee_isi2, ee_mt0, ee_mt1, ee_ix, ee_dget, ee_din, ee_get1, ee_get2, ee_sl, ee_tup, ee_lst, evEs, evZ, evO, evI, evT, evTo, evX, rd_d, fz_d, b_add, b_sub, b_mul, b_div, b_mod, b_p18, b_p8, b_p7, b_p6, c_lt, c_le, c_gt, c_ge, c_eq, c_ne, c_eqs, c_nes, c_nes0, c_nes1, c_eqs0, c_eqs1, l_t, l_l, bi_i, bi_max, bi_min, bi_tl, bi_tt, ix_l, ix_t, m_nil, m_cons, at0, at1, at2, flatD, seqOf, isNonW, nx_nx, nx_rt, nx_bk, nx_ct, nx_xc, next_nx, next_ct, next_bk, next_rt, Option.bind_some, Option.map_some, List.getElem?_cons_zero, List.getElem?_cons_succ, List.set_cons_zero, List.set_cons_succ, List.length_cons, List.length_nil, if_true, asgn, asgns, Nat.zero_add, Nat.reduceAdd, Nat.reduceLT, Nat.reduceLeDiff, reduceIte, reduceCtorEq, Bool.false_eq_true, Int.reduceNeg, sizeLine_val, and_self, true_and, and_true, b_m7, b_m86400, b_m1000000000, b_m60, b_m600, b_d7, b_d86400, b_d1000, b_p10_5, b_p10_9, b_p10_12, b_p10_15]
    refine ⟨6, rfl, by decide, by decide, ?_⟩
    refine loop_ok (fun n ρ S => ∃ (v3 v4 v5 v6 v7 v8 v9 v10 : Option W) (j : Int) (ms : List MO), ρ = [some (.d (.scr ns)), some (.d r), some (.mu 0), v3, v4, v5, v6, v7, v8, v9, v10, none, none, none, none] ∧ S = .lst [.int j] :: ms ∧ 0 ≤ j) ⟨none, none, none, none, none, none, none, none, 0, [], rfl, rfl, by decide⟩ ?_ ?_
    · rintro n d ρ S hn ⟨v3, v4, v5, v6, v7, v8, v9, v10, j, ms, rfl, rfl, hj⟩
      obtain ⟨hn1, rfl⟩ := rangeD_get hn
      simp only [okR_bind, okR_map, okR_some, evS, ee_var, ee_cst, ee_fnv, ee_bin, ee_neg, ee_fz, ee_cmp, ee_chain, ee_isN, ee_notN, ee_and, ee_or, ee_not, ee_ite, ee_call, ee_callv, ee_bi, ee_isi1, ee_isi2, ee_mt0, ee_mt1, ee_ix, ee_dget, ee_din, ee_get1, ee_get2, ee_sl, ee_tup, ee_lst, evEs, evZ, evO, evI, evT, evTo, evX, rd_d, fz_d, b_add, b_sub, b_mul, b_div, b_mod, b_p18, b_p8, b_p7, b_p6, c_lt, c_le, c_gt, c_ge, c_eq, c_ne, c_eqs, c_nes, c_nes0, c_nes1, c_eqs0, c_eqs1, l_t, l_l, bi_i, bi_max, bi_min, bi_tl, bi_tt, ix_l, ix_t, m_nil, m_cons, at0, at1, at2, flatD, seqOf, isNonW, nx_nx, nx_rt, nx_bk, nx_ct, nx_xc, next_nx, next_ct, next_bk, next_rt, Option.bind_some, Option.map_some, List.getElem?_cons_zero, List.getElem?_cons_succ, List.set_cons_zero, List.set_cons_succ, List.length_cons, List.length_nil, if_true, asgn, asgns, Nat.zero_add, Nat.reduceAdd, Nat.reduceLT, Nat.reduceLeDiff, reduceIte, reduceCtorEq, Bool.false_eq_true, Int.reduceNeg, sizeLine_val, and_self, true_and, and_true, b_m7, b_m86400, b_m1000000000, b_m60, b_m600, b_d7, b_d86400, b_d1000, b_p10_5, b_p10_9, b_p10_12, b_p10_15]
      refine ss_step ?_
      simp only [okR_bind, okR_map, okR_some, evS, ee_var, ee_cst, ee_fnv, ee_bin, ee_neg, ee_fz, ee_cmp, ee_chain, ee_isN, ee_notN, ee_and, ee_or, ee_not, ee_ite, ee_call, ee_callv, ee_bi, ee_isi1, ee_isi2, ee_mt0, ee_mt1, ee_ix, ee_dget, ee_din, ee_get1, ee_get2, ee_sl, ee_tup, ee_lst, evEs, evZ, evO, evI, evT, evTo, evX, rd_d, fz_d, b_add, b_sub, b_mul, b_div, b_mod, b_p18, b_p8, b_p7, b_p6, c_lt, c_le, c_gt, c_ge, c_eq, c_ne, c_eqs, c_nes, c_nes0, c_nes1, c_eqs0, c_eqs1, l_t, l_l, bi_i, bi_max, bi_min, bi_tl, bi_tt, ix_l, ix_t, m_nil, m_cons, at0, at1, at2, flatD, seqOf, isNonW, nx_nx, nx_rt, nx_bk, nx_ct, nx_xc, next_nx, next_ct, next_bk, next_rt, Option.bind_some, Option.map_some, List.getElem?_cons_zero, List.getElem?_cons_succ, List.set_cons_zero, List.set_cons_succ, List.length_cons, List.length_nil, if_true, asgn, asgns, Nat.zero_add, Nat.reduceAdd, Nat.reduceLT, Nat.reduceLeDiff, reduceIte, reduceCtorEq, Bool.false_eq_true, Int.reduceNeg, sizeLine_val, and_self, true_and, and_true, b_m7, b_m86400, b_m1000000000, b_m60, b_m600, b_d7, b_d86400, b_d1000, b_p10_5, b_p10_9, b_p10_12, b_p10_15]
      refine T.lx.pickL (k := 37) hr hj (fun z => nomatch z) fun b j1 hb hj1 => ?_
      have hb' : ∃ tp : Int, b = .int tp ∧ 0 < tp ∧ tp ≤ 997 := by
        simp only [List.mem_cons, List.not_mem_nil, or_false] at hb
        rcases hb with rfl | rfl | rfl <;> exact ⟨_, rfl, by decide, by decide⟩
      obtain ⟨tp, rfl, b0, b1⟩ := hb'
      simp only [okR_bind, okR_map, okR_some, evS, ee_var, ee_cst, ee_fnv, ee_bin, ee_neg, ee_fz, ee_cmp, ee_chain, ee_isN, ee_notN, ee_and, ee_or, ee_not, ee_ite, ee_call, ee_callv, ee_bi, ee_isi1, ee_isi2, ee_mt0, ee_mt1, ee_ix, ee_dget, ee_din, ee_get1, ee_get2, ee_sl, ee_tup, ee_lst, evEs, evZ, evO, evI, evT, evTo, evX, rd_d, fz_d, b_add, b_sub, b_mul, b_div, b_mod, b_p18, b_p8, b_p7, b_p6, c_lt, c_le, c_gt, c_ge, c_eq, c_ne, c_eqs, c_nes, c_nes0, c_nes1, c_eqs0, c_eqs1, l_t, l_l, bi_i, bi_max, bi_min, bi_tl, bi_tt, ix_l, ix_t, m_nil, m_cons, at0, at1, at2, flatD, seqOf, isNonW, nx_nx, nx_rt, nx_bk, nx_ct, nx_xc, next_nx, next_ct, next_bk, next_rt, Option.bind_some, Option.map_some, List.getElem?_cons_zero, List.getElem?_cons_succ, List.set_cons_zero, List.set_cons_succ, List.length_cons, List.length_nil, if_true, asgn, asgns, Nat.zero_add, Nat.reduceAdd, Nat.reduceLT, Nat.reduceLeDiff, reduceIte, reduceCtorEq, Bool.false_eq_true, Int.reduceNeg, sizeLine_val, and_self, true_and, and_true, b_m7, b_m86400, b_m1000000000, b_m60, b_m600, b_d7, b_d86400, b_d1000, b_p10_5, b_p10_9, b_p10_12, b_p10_15]
      refine ss_step ?_
      simp only [okR_bind, okR_map, okR_some, evS, ee_var, ee_cst, ee_fnv, ee_bin, ee_neg, ee_fz, ee_cmp, ee_chain, ee_isN, ee_notN, ee_and, ee_or, ee_not, ee_ite, ee_call, ee_callv, ee_bi, ee_isi1, ee_isi2, ee_mt0, ee_mt1, ee_ix, ee_dget, ee_din, ee_get1, ee_get2, ee_sl, ee_tup, ee_lst, evEs, evZ, evO, evI, evT, evTo, evX, rd_d, fz_d, b_add, b_sub, b_mul, b_div, b_mod, b_p18, b_p8, b_p7, b_p6, c_lt, c_le, c_gt, c_ge, c_eq, c_ne, c_eqs, c_nes, c_nes0, c_nes1, c_eqs0, c_eqs1, l_t, l_l, bi_i, bi_max, bi_min, bi_tl, bi_tt, ix_l, ix_t, m_nil, m_cons, at0, at1, at2, flatD, seqOf, isNonW, nx_nx, nx_rt, nx_bk, nx_ct, nx_xc, next_nx, next_ct, next_bk, next_rt, Option.bind_some, Option.map_some, List.getElem?_cons_zero, List.getElem?_cons_succ, List.set_cons_zero, List.set_cons_succ, List.length_cons, List.length_nil, if_true, asgn, asgns, Nat.zero_add, Nat.reduceAdd, Nat.reduceLT, Nat.reduceLeDiff, reduceIte, reduceCtorEq, Bool.false_eq_true, Int.reduceNeg, sizeLine_val, and_self, true_and, and_true, b_m7, b_m86400, b_m1000000000, b_m60, b_m600, b_d7, b_d86400, b_d1000, b_p10_5, b_p10_9, b_p10_12, b_p10_15]
      refine T.lx.take0 (k := 38) hr hj1 (by decide) fun t1 j2 t0 t3 hj2 => ?_
      simp only [okR_bind, okR_map, okR_some, evS, ee_var, ee_cst, ee_fnv, ee_bin, ee_neg, ee_fz, ee_cmp, ee_chain, ee_isN, ee_notN, ee_and, ee_or, ee_not, ee_ite, ee_call, ee_callv, ee_bi, ee_isi1, ee_isi2, ee_mt0, ee_mt1, ee_ix, ee_dget, ee_din, ee_get1, ee_get2, ee_sl, ee_tup, ee_lst, evEs, evZ, evO, evI, evT, evTo, evX, rd_d, fz_d, b_add, b_sub, b_mul, b_div, b_mod, b_p18, b_p8, b_p7, b_p6, c_lt, c_le, c_gt, c_ge, c_eq, c_ne, c_eqs, c_nes, c_nes0, c_nes1, c_eqs0, c_eqs1, l_t, l_l, bi_i, bi_max, bi_min, bi_tl, bi_tt, ix_l, ix_t, m_nil, m_cons, at0, at1, at2, flatD, seqOf, isNonW, nx_nx, nx_rt, nx_bk, nx_ct, nx_xc, next_nx, next_ct, next_bk, next_rt, Option.bind_some, Option.map_some, List.getElem?_cons_zero, List.getElem?_cons_succ, List.set_cons_zero, List.set_cons_succ, List.length_cons, List.length_nil, if_true, asgn, asgns, Nat.zero_add, Nat.reduceAdd, Nat.reduceLT, Nat.reduceLeDiff, reduceIte, reduceCtorEq, Bool.false_eq_true, Int.reduceNeg, sizeLine_val, and_self, true_and, and_true, b_m7, b_m86400, b_m1000000000, b_m60, b_m600, b_d7, b_d86400, b_d1000, b_p10_5, b_p10_9, b_p10_12, b_p10_15]
      obtain ⟨lim, el, l0, l1⟩ : ∃ lim : Int, L2.atI [D.int 4, .int 40] t1 = some (.int lim) ∧ 0 < lim ∧ lim ≤ 40 := by
        have : t1 = 0 ∨ t1 = 1 := by omega
        rcases this with rfl | rfl <;> exact ⟨_, rfl, by decide, by decide⟩
      refine OkR.of el ?_
      refine T.lx.take0 (k := 38) hr hj2 l0 fun t2 j3 m0 m1 hj3 => ?_
      simp only [okR_bind, okR_map, okR_some, evS, ee_var, ee_cst, ee_fnv, ee_bin, ee_neg, ee_fz, ee_cmp, ee_chain, ee_isN, ee_notN, ee_and, ee_or, ee_not, ee_ite, ee_call, ee_callv, ee_bi, ee_isi1, ee_isi2, ee_mt0, ee_mt1, ee_ix, ee_dget, ee_din, ee_get1, ee_get2, ee_sl, ee_tup, ee_lst, evEs, evZ, evO, evI, evT, evTo, evX, rd_d, fz_d, b_add, b_sub, b_mul, b_div, b_mod, b_p18, b_p8, b_p7, b_p6, c_lt, c_le, c_gt, c_ge, c_eq, c_ne, c_eqs, c_nes, c_nes0, c_nes1, c_eqs0, c_eqs1, l_t, l_l, bi_i, bi_max, bi_min, bi_tl, bi_tt, ix_l, ix_t, m_nil, m_cons, at0, at1, at2, flatD, seqOf, isNonW, nx_nx, nx_rt, nx_bk, nx_ct, nx_xc, next_nx, next_ct, next_bk, next_rt, Option.bind_some, Option.map_some, List.getElem?_cons_zero, List.getElem?_cons_succ, List.set_cons_zero, List.set_cons_succ, List.length_cons, List.length_nil, if_true, asgn, asgns, Nat.zero_add, Nat.reduceAdd, Nat.reduceLT, Nat.reduceLeDiff, reduceIte, reduceCtorEq, Bool.false_eq_true, Int.reduceNeg, sizeLine_val, and_self, true_and, and_true, b_m7, b_m86400, b_m1000000000, b_m60, b_m600, b_d7, b_d86400, b_d1000, b_p10_5, b_p10_9, b_p10_12, b_p10_15]
      refine ss_step (newC_ok ?_)
      refine comp_ok (by decide) (fun z _ => ∃ w : Int, z = D.int w ∧ 0 ≤ w ∧ w ≤ 1000000000000000) (fun S => ∃ j : Int, 0 ≤ j ∧ S = .lst [.int j] :: ms) ?_
      refine i_r1 (OkR.of rfl ⟨1 + t2, rfl, by omega, by omega, ?_⟩)
      refine ⟨⟨_, hj3, rfl⟩, by rw [rangeD_range]; simp [sizeLine_val]; omega, ?_, ?_⟩
      · rintro d hd S ⟨j, hj, rfl⟩
        refine OkR.of (a := [some (.d (.scr ns)), some (.d r), some (.mu 0), some (.d (.int (0 + (n : Int)))), some (.d (.int tp)), some (.d (.int (1 + t2))), v6, v7, v8, v9, v10, none, none, none, some (.d d)]) rfl ?_
        simp only [okR_bind, okR_map, okR_some, evS, ee_var, ee_cst, ee_fnv, ee_bin, ee_neg, ee_fz, ee_cmp, ee_chain, ee_isN, ee_notN, ee_and, ee_or, ee_not, ee_ite, ee_call, ee_callv, ee_bi, ee_isi1, ee_isi2, ee_mt0, ee_mt1, ee_ix, ee_dget, ee_din, ee_get1, ee_get2, ee_sl, ee_tup, ee_lst, evEs, evZ, evO, evI, evT, evTo, evX, rd_d, fz_d, b_add, b_sub, b_mul, b_div, b_mod, b_p18, b_p8, b_p7, b_p6, c_lt, c_le, c_gt, c_ge, c_eq, c_ne, c_eqs, c_nes, c_nes0, c_nes1, c_eqs0, c_eqs1, l_t, l_l, bi_i, bi_max, bi_min, bi_tl, bi_tt, ix_l, ix_t, m_nil, m_cons, at0, at1, at2, flatD, seqOf, isNonW, nx_nx, nx_rt, nx_bk, nx_ct, nx_xc, next_nx, next_ct, next_bk, next_rt, Option.bind_some, Option.map_some, List.getElem?_cons_zero, List.getElem?_cons_succ, List.set_cons_zero, List.set_cons_succ, List.length_cons, List.length_nil, if_true, asgn, asgns, Nat.zero_add, Nat.reduceAdd, Nat.reduceLT, Nat.reduceLeDiff, reduceIte, reduceCtorEq, Bool.false_eq_true, Int.reduceNeg, sizeLine_val, and_self, true_and, and_true, b_m7, b_m86400, b_m1000000000, b_m60, b_m600, b_d7, b_d86400, b_d1000, b_p10_5, b_p10_9, b_p10_12, b_p10_15]
        refine T.lx.take0 (k := 38) hr hj b0 fun u1 j4 u0 u2 hj4 => ?_
        simp only [okR_bind, okR_map, okR_some, evS, ee_var, ee_cst, ee_fnv, ee_bin, ee_neg, ee_fz, ee_cmp, ee_chain, ee_isN, ee_notN, ee_and, ee_or, ee_not, ee_ite, ee_call, ee_callv, ee_bi, ee_isi1, ee_isi2, ee_mt0, ee_mt1, ee_ix, ee_dget, ee_din, ee_get1, ee_get2, ee_sl, ee_tup, ee_lst, evEs, evZ, evO, evI, evT, evTo, evX, rd_d, fz_d, b_add, b_sub, b_mul, b_div, b_mod, b_p18, b_p8, b_p7, b_p6, c_lt, c_le, c_gt, c_ge, c_eq, c_ne, c_eqs, c_nes, c_nes0, c_nes1, c_eqs0, c_eqs1, l_t, l_l, bi_i, bi_max, bi_min, bi_tl, bi_tt, ix_l, ix_t, m_nil, m_cons, at0, at1, at2, flatD, seqOf, isNonW, nx_nx, nx_rt, nx_bk, nx_ct, nx_xc, next_nx, next_ct, next_bk, next_rt, Option.bind_some, Option.map_some, List.getElem?_cons_zero, List.getElem?_cons_succ, List.set_cons_zero, List.set_cons_succ, List.length_cons, List.length_nil, if_true, asgn, asgns, Nat.zero_add, Nat.reduceAdd, Nat.reduceLT, Nat.reduceLeDiff, reduceIte, reduceCtorEq, Bool.false_eq_true, Int.reduceNeg, sizeLine_val, and_self, true_and, and_true, b_m7, b_m86400, b_m1000000000, b_m60, b_m600, b_d7, b_d86400, b_d1000, b_p10_5, b_p10_9, b_p10_12, b_p10_15]
        refine T.lx.pickL (k := 37) hr hj4 (fun z => nomatch z) fun b j5 hb hj5 => ?_
        have hb' : b = .int 1 ∨ b = .int 1000000000 := by
          simp only [List.mem_cons, List.not_mem_nil, or_false] at hb
          rcases hb with rfl | rfl | rfl
          · exact .inl rfl
          · exact .inl rfl
          · exact .inr rfl
        rcases hb' with rfl | rfl
        · have c1 : CMul u1 1 := .inl ⟨by omega, by omega⟩
          have e1 : bRun .mul (.int u1) (.int 1) = some (.int (u1 * 1)) := if_pos c1
          simp only [okR_bind, okR_map, okR_some, evS, ee_var, ee_cst, ee_fnv, ee_bin, ee_neg, ee_fz, ee_cmp, ee_chain, ee_isN, ee_notN, ee_and, ee_or, ee_not, ee_ite, ee_call, ee_callv, ee_bi, ee_isi1, ee_isi2, ee_mt0, ee_mt1, ee_ix, ee_dget, ee_din, ee_get1, ee_get2, ee_sl, ee_tup, ee_lst, evEs, evZ, evO, evI, evT, evTo, evX, rd_d, fz_d, b_add, b_sub, b_mul, b_div, b_mod, b_p18, b_p8, b_p7, b_p6, c_lt, c_le, c_gt, c_ge, c_eq, c_ne, c_eqs, c_nes, c_nes0, c_nes1, c_eqs0, c_eqs1, l_t, l_l, bi_i, bi_max, bi_min, bi_tl, bi_tt, ix_l, ix_t, m_nil, m_cons, at0, at1, at2, flatD, seqOf, isNonW, nx_nx, nx_rt, nx_bk, nx_ct, nx_xc, next_nx, next_ct, next_bk, next_rt, Option.bind_some, Option.map_some, List.getElem?_cons_zero, List.getElem?_cons_succ, List.set_cons_zero, List.set_cons_succ, List.length_cons, List.length_nil, if_true, asgn, asgns, Nat.zero_add, Nat.reduceAdd, Nat.reduceLT, Nat.reduceLeDiff, reduceIte, reduceCtorEq, Bool.false_eq_true, Int.reduceNeg, sizeLine_val, and_self, true_and, and_true, b_m7, b_m86400, b_m1000000000, b_m60, b_m600, b_d7, b_d86400, b_d1000, b_p10_5, b_p10_9, b_p10_12, b_p10_15, e1]
          exact ⟨⟨_, rfl, by omega, by omega⟩, _, hj5, rfl⟩
        · have c1 : CMul u1 1000000000 := .inl ⟨by omega, by omega⟩
          have e1 : bRun .mul (.int u1) (.int 1000000000) = some (.int (u1 * 1000000000)) := if_pos c1
          simp only [okR_bind, okR_map, okR_some, evS, ee_var, ee_cst, ee_fnv, ee_bin, ee_neg, ee_fz, ee_cmp, ee_chain, ee_isN, ee_notN, ee_and, ee_or, ee_not, ee_ite, ee_call, ee_callv, ee_bi, ee_isi1, ee_isi2, ee_mt0, ee_mt1, ee_ix, ee_dget, ee_din, ee_get1, ee_get2, ee_sl, ee_tup, ee_lst, evEs, evZ, evO, evI, evT, evTo, evX, rd_d, fz_d, b_add, b_sub, b_mul, b_div, b_mod, b_p18, b_p8, b_p7, b_p6, c_lt, c_le, c_gt, c_ge, c_eq, c_ne, c_eqs, c_nes, c_nes0, c_nes1, c_eqs0, c_eqs1, l_t, l_l, bi_i, bi_max, bi_min, bi_tl, bi_tt, ix_l, ix_t, m_nil, m_cons, at0, at1, at2, flatD, seqOf, isNonW, nx_nx, nx_rt, nx_bk, nx_ct, nx_xc, next_nx, next_ct, next_bk, next_rt, Option.bind_some, Option.map_some, List.getElem?_cons_zero, List.getElem?_cons_succ, List.set_cons_zero, List.set_cons_succ, List.length_cons, List.length_nil, if_true, asgn, asgns, Nat.zero_add, Nat.reduceAdd, Nat.reduceLT, Nat.reduceLeDiff, reduceIte, reduceCtorEq, Bool.false_eq_true, Int.reduceNeg, sizeLine_val, and_self, true_and, and_true, b_m7, b_m86400, b_m1000000000, b_m60, b_m600, b_d7, b_d86400, b_d1000, b_p10_5, b_p10_9, b_p10_12, b_p10_15, e1]
          exact ⟨⟨_, rfl, by omega, by omega⟩, _, hj5, rfl⟩
      rintro ds S hds ⟨j4, hj4, rfl⟩
      obtain ⟨ws0, rfl, hl0, hw0⟩ := wsok0 hds
      refine ⟨_, rfl, by simp, ?_⟩
      simp only [okR_bind, okR_map, okR_some, evS, ee_var, ee_cst, ee_fnv, ee_bin, ee_neg, ee_fz, ee_cmp, ee_chain, ee_isN, ee_notN, ee_and, ee_or, ee_not, ee_ite, ee_call, ee_callv, ee_bi, ee_isi1, ee_isi2, ee_mt0, ee_mt1, ee_ix, ee_dget, ee_din, ee_get1, ee_get2, ee_sl, ee_tup, ee_lst, evEs, evZ, evO, evI, evT, evTo, evX, rd_d, fz_d, b_add, b_sub, b_mul, b_div, b_mod, b_p18, b_p8, b_p7, b_p6, c_lt, c_le, c_gt, c_ge, c_eq, c_ne, c_eqs, c_nes, c_nes0, c_nes1, c_eqs0, c_eqs1, l_t, l_l, bi_i, bi_max, bi_min, bi_tl, bi_tt, ix_l, ix_t, m_nil, m_cons, at0, at1, at2, flatD, seqOf, isNonW, nx_nx, nx_rt, nx_bk, nx_ct, nx_xc, next_nx, next_ct, next_bk, next_rt, Option.bind_some, Option.map_some, List.getElem?_cons_zero, List.getElem?_cons_succ, List.set_cons_zero, List.set_cons_succ, List.length_cons, List.length_nil, if_true, asgn, asgns, Nat.zero_add, Nat.reduceAdd, Nat.reduceLT, Nat.reduceLeDiff, reduceIte, reduceCtorEq, Bool.false_eq_true, Int.reduceNeg, sizeLine_val, and_self, true_and, and_true, b_m7, b_m86400, b_m1000000000, b_m60, b_m600, b_d7, b_d86400, b_d1000, b_p10_5, b_p10_9, b_p10_12, b_p10_15, List.length_cons, List.cons_append]
      refine ss_step (OkR.imp (fix0 (ws0 := ws0) rfl (by rw [hl0, rangeD_range]; simp; omega) (by rw [hl0, rangeD_range]; simp; omega) hw0) ?_)
      rintro o ⟨ws, hw, rfl⟩
      simp only [okR_bind, okR_map, okR_some, evS, ee_var, ee_cst, ee_fnv, ee_bin, ee_neg, ee_fz, ee_cmp, ee_chain, ee_isN, ee_notN, ee_and, ee_or, ee_not, ee_ite, ee_call, ee_callv, ee_bi, ee_isi1, ee_isi2, ee_mt0, ee_mt1, ee_ix, ee_dget, ee_din, ee_get1, ee_get2, ee_sl, ee_tup, ee_lst, evEs, evZ, evO, evI, evT, evTo, evX, rd_d, fz_d, b_add, b_sub, b_mul, b_div, b_mod, b_p18, b_p8, b_p7, b_p6, c_lt, c_le, c_gt, c_ge, c_eq, c_ne, c_eqs, c_nes, c_nes0, c_nes1, c_eqs0, c_eqs1, l_t, l_l, bi_i, bi_max, bi_min, bi_tl, bi_tt, ix_l, ix_t, m_nil, m_cons, at0, at1, at2, flatD, seqOf, isNonW, nx_nx, nx_rt, nx_bk, nx_ct, nx_xc, next_nx, next_ct, next_bk, next_rt, Option.bind_some, Option.map_some, List.getElem?_cons_zero, List.getElem?_cons_succ, List.set_cons_zero, List.set_cons_succ, List.length_cons, List.length_nil, if_true, asgn, asgns, Nat.zero_add, Nat.reduceAdd, Nat.reduceLT, Nat.reduceLeDiff, reduceIte, reduceCtorEq, Bool.false_eq_true, Int.reduceNeg, sizeLine_val, and_self, true_and, and_true, b_m7, b_m86400, b_m1000000000, b_m60, b_m600, b_d7, b_d86400, b_d1000, b_p10_5, b_p10_9, b_p10_12, b_p10_15]
      refine ss_step ?_
      simp only [okR_bind, okR_map, okR_some, evS, ee_var, ee_cst, ee_fnv, ee_bin, ee_neg, ee_fz, ee_cmp, ee_chain, ee_isN, ee_notN, ee_and, ee_or, ee_not, ee_ite, ee_call, ee_callv, ee_bi, ee_isi1, ee_isi2, ee_mt0, ee_mt1, ee_ix, ee_dget, ee_din, ee_get1, ee_get2, ee_sl, ee_tup, ee_lst, evEs, evZ, evO, evI, evT, evTo, evX, rd_d, fz_d, b_add, b_sub, b_mul, b_div, b_mod, b_p18, b_p8, b_p7, b_p6, c_lt, c_le, c_gt, c_ge, c_eq, c_ne, c_eqs, c_nes, c_nes0, c_nes1, c_eqs0, c_eqs1, l_t, l_l, bi_i, bi_max, bi_min, bi_tl, bi_tt, ix_l, ix_t, m_nil, m_cons, at0, at1, at2, flatD, seqOf, isNonW, nx_nx, nx_rt, nx_bk, nx_ct, nx_xc, next_nx, next_ct, next_bk, next_rt, Option.bind_some, Option.map_some, List.getElem?_cons_zero, List.getElem?_cons_succ, List.set_cons_zero, List.set_cons_succ, List.length_cons, List.length_nil, if_true, asgn, asgns, Nat.zero_add, Nat.reduceAdd, Nat.reduceLT, Nat.reduceLeDiff, reduceIte, reduceCtorEq, Bool.false_eq_true, Int.reduceNeg, sizeLine_val, and_self, true_and, and_true, b_m7, b_m86400, b_m1000000000, b_m60, b_m600, b_d7, b_d86400, b_d1000, b_p10_5, b_p10_9, b_p10_12, b_p10_15]
      refine T.lx.wide0 (k := 37) hr hj4 (by decide) fun g1 j5 g2 g3 hj5 => ?_
      have eg : bRun .mul (.int g1) (.int 1000000000) = some (.int (g1 * 1000000000)) := if_pos (show CMul g1 1000000000 from .inl ⟨by omega, by omega⟩)
      simp only [okR_bind, okR_map, okR_some, evS, ee_var, ee_cst, ee_fnv, ee_bin, ee_neg, ee_fz, ee_cmp, ee_chain, ee_isN, ee_notN, ee_and, ee_or, ee_not, ee_ite, ee_call, ee_callv, ee_bi, ee_isi1, ee_isi2, ee_mt0, ee_mt1, ee_ix, ee_dget, ee_din, ee_get1, ee_get2, ee_sl, ee_tup, ee_lst, evEs, evZ, evO, evI, evT, evTo, evX, rd_d, fz_d, b_add, b_sub, b_mul, b_div, b_mod, b_p18, b_p8, b_p7, b_p6, c_lt, c_le, c_gt, c_ge, c_eq, c_ne, c_eqs, c_nes, c_nes0, c_nes1, c_eqs0, c_eqs1, l_t, l_l, bi_i, bi_max, bi_min, bi_tl, bi_tt, ix_l, ix_t, m_nil, m_cons, at0, at1, at2, flatD, seqOf, isNonW, nx_nx, nx_rt, nx_bk, nx_ct, nx_xc, next_nx, next_ct, next_bk, next_rt, Option.bind_some, Option.map_some, List.getElem?_cons_zero, List.getElem?_cons_succ, List.set_cons_zero, List.set_cons_succ, List.length_cons, List.length_nil, if_true, asgn, asgns, Nat.zero_add, Nat.reduceAdd, Nat.reduceLT, Nat.reduceLeDiff, reduceIte, reduceCtorEq, Bool.false_eq_true, Int.reduceNeg, sizeLine_val, and_self, true_and, and_true, b_m7, b_m86400, b_m1000000000, b_m60, b_m600, b_d7, b_d86400, b_d1000, b_p10_5, b_p10_9, b_p10_12, b_p10_15, eg]
      refine T.lx.wide0 (k := 37) hr hj5 (by decide) fun g4 j6 g5 g6 hj6 => ?_
      simp only [okR_bind, okR_map, okR_some, evS, ee_var, ee_cst, ee_fnv, ee_bin, ee_neg, ee_fz, ee_cmp, ee_chain, ee_isN, ee_notN, ee_and, ee_or, ee_not, ee_ite, ee_call, ee_callv, ee_bi, ee_isi1, ee_isi2, ee_mt0, ee_mt1, ee_ix, ee_dget, ee_din, ee_get1, ee_get2, ee_sl, ee_tup, ee_lst, evEs, evZ, evO, evI, evT, evTo, evX, rd_d, fz_d, b_add, b_sub, b_mul, b_div, b_mod, b_p18, b_p8, b_p7, b_p6, c_lt, c_le, c_gt, c_ge, c_eq, c_ne, c_eqs, c_nes, c_nes0, c_nes1, c_eqs0, c_eqs1, l_t, l_l, bi_i, bi_max, bi_min, bi_tl, bi_tt, ix_l, ix_t, m_nil, m_cons, at0, at1, at2, flatD, seqOf, isNonW, nx_nx, nx_rt, nx_bk, nx_ct, nx_xc, next_nx, next_ct, next_bk, next_rt, Option.bind_some, Option.map_some, List.getElem?_cons_zero, List.getElem?_cons_succ, List.set_cons_zero, List.set_cons_succ, List.length_cons, List.length_nil, if_true, asgn, asgns, Nat.zero_add, Nat.reduceAdd, Nat.reduceLT, Nat.reduceLeDiff, reduceIte, reduceCtorEq, Bool.false_eq_true, Int.reduceNeg, sizeLine_val, and_self, true_and, and_true, b_m7, b_m86400, b_m1000000000, b_m60, b_m600, b_d7, b_d86400, b_d1000, b_p10_5, b_p10_9, b_p10_12, b_p10_15]
      obtain ⟨gr, egr, gr0, gr1⟩ : ∃ gr : Int, (if g1 * 1000000000 + g4 < 1000000000000000 then g1 * 1000000000 + g4 else 1000000000000000) = gr ∧ 0 ≤ gr ∧ gr ≤ 1000000000000000 := ⟨_, rfl, by split <;> omega, by split <;> omega⟩
      simp only [egr]
      refine ss_step ?_
      simp only [okR_bind, okR_map, okR_some, evS, ee_var, ee_cst, ee_fnv, ee_bin, ee_neg, ee_fz, ee_cmp, ee_chain, ee_isN, ee_notN, ee_and, ee_or, ee_not, ee_ite, ee_call, ee_callv, ee_bi, ee_isi1, ee_isi2, ee_mt0, ee_mt1, ee_ix, ee_dget, ee_din, ee_get1, ee_get2, ee_sl, ee_tup, ee_lst, evEs, evZ, evO, evI, evT, evTo, evX, rd_d, fz_d, b_add, b_sub, b_mul, b_div, b_mod, b_p18, b_p8, b_p7, b_p6, c_lt, c_le, c_gt, c_ge, c_eq, c_ne, c_eqs, c_nes, c_nes0, c_nes1, c_eqs0, c_eqs1, l_t, l_l, bi_i, bi_max, bi_min, bi_tl, bi_tt, ix_l, ix_t, m_nil, m_cons, at0, at1, at2, flatD, seqOf, isNonW, nx_nx, nx_rt, nx_bk, nx_ct, nx_xc, next_nx, next_ct, next_bk, next_rt, Option.bind_some, Option.map_some, List.getElem?_cons_zero, List.getElem?_cons_succ, List.set_cons_zero, List.set_cons_succ, List.length_cons, List.length_nil, if_true, asgn, asgns, Nat.zero_add, Nat.reduceAdd, Nat.reduceLT, Nat.reduceLeDiff, reduceIte, reduceCtorEq, Bool.false_eq_true, Int.reduceNeg, sizeLine_val, and_self, true_and, and_true, b_m7, b_m86400, b_m1000000000, b_m60, b_m600, b_d7, b_d86400, b_d1000, b_p10_5, b_p10_9, b_p10_12, b_p10_15]
      refine T.lx.take0 (k := 38) hr hj6 (by decide) fun u1 j7 u0 u2 hj7 => ?_
      simp only [okR_bind, okR_map, okR_some, evS, ee_var, ee_cst, ee_fnv, ee_bin, ee_neg, ee_fz, ee_cmp, ee_chain, ee_isN, ee_notN, ee_and, ee_or, ee_not, ee_ite, ee_call, ee_callv, ee_bi, ee_isi1, ee_isi2, ee_mt0, ee_mt1, ee_ix, ee_dget, ee_din, ee_get1, ee_get2, ee_sl, ee_tup, ee_lst, evEs, evZ, evO, evI, evT, evTo, evX, rd_d, fz_d, b_add, b_sub, b_mul, b_div, b_mod, b_p18, b_p8, b_p7, b_p6, c_lt, c_le, c_gt, c_ge, c_eq, c_ne, c_eqs, c_nes, c_nes0, c_nes1, c_eqs0, c_eqs1, l_t, l_l, bi_i, bi_max, bi_min, bi_tl, bi_tt, ix_l, ix_t, m_nil, m_cons, at0, at1, at2, flatD, seqOf, isNonW, nx_nx, nx_rt, nx_bk, nx_ct, nx_xc, next_nx, next_ct, next_bk, next_rt, Option.bind_some, Option.map_some, List.getElem?_cons_zero, List.getElem?_cons_succ, List.set_cons_zero, List.set_cons_succ, List.length_cons, List.length_nil, if_true, asgn, asgns, Nat.zero_add, Nat.reduceAdd, Nat.reduceLT, Nat.reduceLeDiff, reduceIte, reduceCtorEq, Bool.false_eq_true, Int.reduceNeg, sizeLine_val, and_self, true_and, and_true, b_m7, b_m86400, b_m1000000000, b_m60, b_m600, b_d7, b_d86400, b_d1000, b_p10_5, b_p10_9, b_p10_12, b_p10_15]
      refine T.lx.pickL (k := 37) hr hj7 (fun z => nomatch z) fun b j8 hb hj8 => ?_
      have hb' : ∃ wh : Int, b = .int wh ∧ 0 ≤ wh ∧ wh ≤ 1000000000000000 := by
        simp only [List.mem_cons, List.not_mem_nil, or_false] at hb
        rcases hb with rfl | rfl | rfl | rfl | rfl | rfl <;> exact ⟨_, rfl, by omega, by omega⟩
      obtain ⟨wh, rfl, wh0, wh1⟩ := hb'
      simp only [okR_bind, okR_map, okR_some, evS, ee_var, ee_cst, ee_fnv, ee_bin, ee_neg, ee_fz, ee_cmp, ee_chain, ee_isN, ee_notN, ee_and, ee_or, ee_not, ee_ite, ee_call, ee_callv, ee_bi, ee_isi1, ee_isi2, ee_mt0, ee_mt1, ee_ix, ee_dget, ee_din, ee_get1, ee_get2, ee_sl, ee_tup, ee_lst, evEs, evZ, evO, evI, evT, evTo, evX, rd_d, fz_d, b_add, b_sub, b_mul, b_div, b_mod, b_p18, b_p8, b_p7, b_p6, c_lt, c_le, c_gt, c_ge, c_eq, c_ne, c_eqs, c_nes, c_nes0, c_nes1, c_eqs0, c_eqs1, l_t, l_l, bi_i, bi_max, bi_min, bi_tl, bi_tt, ix_l, ix_t, m_nil, m_cons, at0, at1, at2, flatD, seqOf, isNonW, nx_nx, nx_rt, nx_bk, nx_ct, nx_xc, next_nx, next_ct, next_bk, next_rt, Option.bind_some, Option.map_some, List.getElem?_cons_zero, List.getElem?_cons_succ, List.set_cons_zero, List.set_cons_succ, List.length_cons, List.length_nil, if_true, asgn, asgns, Nat.zero_add, Nat.reduceAdd, Nat.reduceLT, Nat.reduceLeDiff, reduceIte, reduceCtorEq, Bool.false_eq_true, Int.reduceNeg, sizeLine_val, and_self, true_and, and_true, b_m7, b_m86400, b_m1000000000, b_m60, b_m600, b_d7, b_d86400, b_d1000, b_p10_5, b_p10_9, b_p10_12, b_p10_15]
      refine ss_step ?_
      simp only [okR_bind, okR_map, okR_some, evS, ee_var, ee_cst, ee_fnv, ee_bin, ee_neg, ee_fz, ee_cmp, ee_chain, ee_isN, ee_notN, ee_and, ee_or, ee_not, ee_ite, ee_call, ee_callv, ee_bi, ee_isi1, ee_isi2, ee_mt0, ee_mt1, ee_ix, ee_dget, ee_din, ee_get1, ee_get2, ee_sl, ee_tup, ee_lst, evEs, evZ, evO, evI, evT, evTo, evX, rd_d, fz_d, b_add, b_sub, b_mul, b_div, b_mod, b_p18, b_p8, b_p7, b_p6, c_lt, c_le, c_gt, c_ge, c_eq, c_ne, c_eqs, c_nes, c_nes0, c_nes1, c_eqs0, c_eqs1, l_t, l_l, bi_i, bi_max, bi_min, bi_tl, bi_tt, ix_l, ix_t, m_nil, m_cons, at0, at1, at2, flatD, seqOf, isNonW, nx_nx, nx_rt, nx_bk, nx_ct, nx_xc, next_nx, next_ct, next_bk, next_rt, Option.bind_some, Option.map_some, List.getElem?_cons_zero, List.getElem?_cons_succ, List.set_cons_zero, List.set_cons_succ, List.length_cons, List.length_nil, if_true, asgn, asgns, Nat.zero_add, Nat.reduceAdd, Nat.reduceLT, Nat.reduceLeDiff, reduceIte, reduceCtorEq, Bool.false_eq_true, Int.reduceNeg, sizeLine_val, and_self, true_and, and_true, b_m7, b_m86400, b_m1000000000, b_m60, b_m600, b_d7, b_d86400, b_d1000, b_p10_5, b_p10_9, b_p10_12, b_p10_15, rd15, bt15]
      refine T.lx.handed0 (k := 35) (m := 1) hr hj8 (tv_ints hw.len 0) fun d' j9 hd' hj9 => ?_
      simp only [okR_bind, okR_map, okR_some, evS, ee_var, ee_cst, ee_fnv, ee_bin, ee_neg, ee_fz, ee_cmp, ee_chain, ee_isN, ee_notN, ee_and, ee_or, ee_not, ee_ite, ee_call, ee_callv, ee_bi, ee_isi1, ee_isi2, ee_mt0, ee_mt1, ee_ix, ee_dget, ee_din, ee_get1, ee_get2, ee_sl, ee_tup, ee_lst, evEs, evZ, evO, evI, evT, evTo, evX, rd_d, fz_d, b_add, b_sub, b_mul, b_div, b_mod, b_p18, b_p8, b_p7, b_p6, c_lt, c_le, c_gt, c_ge, c_eq, c_ne, c_eqs, c_nes, c_nes0, c_nes1, c_eqs0, c_eqs1, l_t, l_l, bi_i, bi_max, bi_min, bi_tl, bi_tt, ix_l, ix_t, m_nil, m_cons, at0, at1, at2, flatD, seqOf, isNonW, nx_nx, nx_rt, nx_bk, nx_ct, nx_xc, next_nx, next_ct, next_bk, next_rt, Option.bind_some, Option.map_some, List.getElem?_cons_zero, List.getElem?_cons_succ, List.set_cons_zero, List.set_cons_succ, List.length_cons, List.length_nil, if_true, asgn, asgns, Nat.zero_add, Nat.reduceAdd, Nat.reduceLT, Nat.reduceLeDiff, reduceIte, reduceCtorEq, Bool.false_eq_true, Int.reduceNeg, sizeLine_val, and_self, true_and, and_true, b_m7, b_m86400, b_m1000000000, b_m60, b_m600, b_d7, b_d86400, b_d1000, b_p10_5, b_p10_9, b_p10_12, b_p10_15]
      refine told15s (k := 39) T.p22 (.rt (shares_ok (k := 33) T.sh.p8 T.sh.p0 T.sh.p6 T.sh.p4 T.sh.p3 T.sh.p5 T.sh.p2 T.sh.p1 T.sh.p7 (lk_ints15 hd') hw wh0 wh1)) ⟨rfl, ?_⟩
      simp only [okR_bind, okR_map, okR_some, evS, ee_var, ee_cst, ee_fnv, ee_bin, ee_neg, ee_fz, ee_cmp, ee_chain, ee_isN, ee_notN, ee_and, ee_or, ee_not, ee_ite, ee_call, ee_callv, ee_bi, ee_isi1, ee_isi2, ee_mt0, ee_mt1, ee_ix, ee_dget, ee_din, ee_get1, ee_get2, ee_sl, ee_tup, ee_lst, evEs, evZ, evO, evI, evT, evTo, evX, rd_d, fz_d, b_add, b_sub, b_mul, b_div, b_mod, b_p18, b_p8, b_p7, b_p6, c_lt, c_le, c_gt, c_ge, c_eq, c_ne, c_eqs, c_nes, c_nes0, c_nes1, c_eqs0, c_eqs1, l_t, l_l, bi_i, bi_max, bi_min, bi_tl, bi_tt, ix_l, ix_t, m_nil, m_cons, at0, at1, at2, flatD, seqOf, isNonW, nx_nx, nx_rt, nx_bk, nx_ct, nx_xc, next_nx, next_ct, next_bk, next_rt, Option.bind_some, Option.map_some, List.getElem?_cons_zero, List.getElem?_cons_succ, List.set_cons_zero, List.set_cons_succ, List.length_cons, List.length_nil, if_true, asgn, asgns, Nat.zero_add, Nat.reduceAdd, Nat.reduceLT, Nat.reduceLeDiff, reduceIte, reduceCtorEq, Bool.false_eq_true, Int.reduceNeg, sizeLine_val, and_self, true_and, and_true, b_m7, b_m86400, b_m1000000000, b_m60, b_m600, b_d7, b_d86400, b_d1000, b_p10_5, b_p10_9, b_p10_12, b_p10_15]
      refine ss_step (ifs_ok ?_)
      simp only [okR_bind, okR_map, okR_some, evS, ee_var, ee_cst, ee_fnv, ee_bin, ee_neg, ee_fz, ee_cmp, ee_chain, ee_isN, ee_notN, ee_and, ee_or, ee_not, ee_ite, ee_call, ee_callv, ee_bi, ee_isi1, ee_isi2, ee_mt0, ee_mt1, ee_ix, ee_dget, ee_din, ee_get1, ee_get2, ee_sl, ee_tup, ee_lst, evEs, evZ, evO, evI, evT, evTo, evX, rd_d, fz_d, b_add, b_sub, b_mul, b_div, b_mod, b_p18, b_p8, b_p7, b_p6, c_lt, c_le, c_gt, c_ge, c_eq, c_ne, c_eqs, c_nes, c_nes0, c_nes1, c_eqs0, c_eqs1, l_t, l_l, bi_i, bi_max, bi_min, bi_tl, bi_tt, ix_l, ix_t, m_nil, m_cons, at0, at1, at2, flatD, seqOf, isNonW, nx_nx, nx_rt, nx_bk, nx_ct, nx_xc, next_nx, next_ct, next_bk, next_rt, Option.bind_some, Option.map_some, List.getElem?_cons_zero, List.getElem?_cons_succ, List.set_cons_zero, List.set_cons_succ, List.length_cons, List.length_nil, if_true, asgn, asgns, Nat.zero_add, Nat.reduceAdd, Nat.reduceLT, Nat.reduceLeDiff, reduceIte, reduceCtorEq, Bool.false_eq_true, Int.reduceNeg, sizeLine_val, and_self, true_and, and_true, b_m7, b_m86400, b_m1000000000, b_m60, b_m600, b_d7, b_d86400, b_d1000, b_p10_5, b_p10_9, b_p10_12, b_p10_15, fz15, rd15, bl15]
      refine OkR.of (law_shares_ok (k := 39) T.p20 (.inl rfl) hw wh0 wh1) ?_
      simp only [okR_bind, okR_map, okR_some, evS, ee_var, ee_cst, ee_fnv, ee_bin, ee_neg, ee_fz, ee_cmp, ee_chain, ee_isN, ee_notN, ee_and, ee_or, ee_not, ee_ite, ee_call, ee_callv, ee_bi, ee_isi1, ee_isi2, ee_mt0, ee_mt1, ee_ix, ee_dget, ee_din, ee_get1, ee_get2, ee_sl, ee_tup, ee_lst, evEs, evZ, evO, evI, evT, evTo, evX, rd_d, fz_d, b_add, b_sub, b_mul, b_div, b_mod, b_p18, b_p8, b_p7, b_p6, c_lt, c_le, c_gt, c_ge, c_eq, c_ne, c_eqs, c_nes, c_nes0, c_nes1, c_eqs0, c_eqs1, l_t, l_l, bi_i, bi_max, bi_min, bi_tl, bi_tt, ix_l, ix_t, m_nil, m_cons, at0, at1, at2, flatD, seqOf, isNonW, nx_nx, nx_rt, nx_bk, nx_ct, nx_xc, next_nx, next_ct, next_bk, next_rt, Option.bind_some, Option.map_some, List.getElem?_cons_zero, List.getElem?_cons_succ, List.set_cons_zero, List.set_cons_succ, List.length_cons, List.length_nil, if_true, asgn, asgns, Nat.zero_add, Nat.reduceAdd, Nat.reduceLT, Nat.reduceLeDiff, reduceIte, reduceCtorEq, Bool.false_eq_true, Int.reduceNeg, sizeLine_val, and_self, true_and, and_true, b_m7, b_m86400, b_m1000000000, b_m60, b_m600, b_d7, b_d86400, b_d1000, b_p10_5, b_p10_9, b_p10_12, b_p10_15]
      have hls : (sharesL wh ws).length ≤ 40 := by
        have : ∀ (xs : List Nat) (ps : List Int), (xs.foldl bump ps).length = ps.length := by
          intro xs
          induction xs with
          | nil => exact fun _ => rfl
          | cons x r ih => exact fun ps => by rw [List.foldl_cons, ih, bump_length]
        rw [sharesL, this, partsL, List.length_map]
        exact hw.len
      have esum : biRun .sum [.tup ((sharesL wh ws).map .int)] = some (.int wh) := by simp [biRun, ints_map, shares_sum hw]
      refine T.so (tv_ints hls 8) ?_
      simp only [okR_bind, okR_map, okR_some, evS, ee_var, ee_cst, ee_fnv, ee_bin, ee_neg, ee_fz, ee_cmp, ee_chain, ee_isN, ee_notN, ee_and, ee_or, ee_not, ee_ite, ee_call, ee_callv, ee_bi, ee_isi1, ee_isi2, ee_mt0, ee_mt1, ee_ix, ee_dget, ee_din, ee_get1, ee_get2, ee_sl, ee_tup, ee_lst, evEs, evZ, evO, evI, evT, evTo, evX, rd_d, fz_d, b_add, b_sub, b_mul, b_div, b_mod, b_p18, b_p8, b_p7, b_p6, c_lt, c_le, c_gt, c_ge, c_eq, c_ne, c_eqs, c_nes, c_nes0, c_nes1, c_eqs0, c_eqs1, l_t, l_l, bi_i, bi_max, bi_min, bi_tl, bi_tt, ix_l, ix_t, m_nil, m_cons, at0, at1, at2, flatD, seqOf, isNonW, nx_nx, nx_rt, nx_bk, nx_ct, nx_xc, next_nx, next_ct, next_bk, next_rt, Option.bind_some, Option.map_some, List.getElem?_cons_zero, List.getElem?_cons_succ, List.set_cons_zero, List.set_cons_succ, List.length_cons, List.length_nil, if_true, asgn, asgns, Nat.zero_add, Nat.reduceAdd, Nat.reduceLT, Nat.reduceLeDiff, reduceIte, reduceCtorEq, Bool.false_eq_true, Int.reduceNeg, sizeLine_val, and_self, true_and, and_true, b_m7, b_m86400, b_m1000000000, b_m60, b_m600, b_d7, b_d86400, b_d1000, b_p10_5, b_p10_9, b_p10_12, b_p10_15, Bool.not_true, esum, ne_eq, not_true_eq_false, decide_false, Bool.false_eq_true, if_false]
      refine ss_done ?_
      simp only [okR_bind, okR_map, okR_some, evS, ee_var, ee_cst, ee_fnv, ee_bin, ee_neg, ee_fz, ee_cmp, ee_chain, ee_isN, ee_notN, ee_and, ee_or, ee_not, ee_ite, ee_call, ee_callv, ee_bi, ee_isi1, ee_isi2, ee_mt0, ee_mt1, ee_ix, ee_dget, ee_din, ee_get1, ee_get2, ee_sl, ee_tup, ee_lst, evEs, evZ, evO, evI, evT, evTo, evX, rd_d, fz_d, b_add, b_sub, b_mul, b_div, b_mod, b_p18, b_p8, b_p7, b_p6, c_lt, c_le, c_gt, c_ge, c_eq, c_ne, c_eqs, c_nes, c_nes0, c_nes1, c_eqs0, c_eqs1, l_t, l_l, bi_i, bi_max, bi_min, bi_tl, bi_tt, ix_l, ix_t, m_nil, m_cons, at0, at1, at2, flatD, seqOf, isNonW, nx_nx, nx_rt, nx_bk, nx_ct, nx_xc, next_nx, next_ct, next_bk, next_rt, Option.bind_some, Option.map_some, List.getElem?_cons_zero, List.getElem?_cons_succ, List.set_cons_zero, List.set_cons_succ, List.length_cons, List.length_nil, if_true, asgn, asgns, Nat.zero_add, Nat.reduceAdd, Nat.reduceLT, Nat.reduceLeDiff, reduceIte, reduceCtorEq, Bool.false_eq_true, Int.reduceNeg, sizeLine_val, and_self, true_and, and_true, b_m7, b_m86400, b_m1000000000, b_m60, b_m600, b_d7, b_d86400, b_d1000, b_p10_5, b_p10_9, b_p10_12, b_p10_15]
      refine ss_step ?_
      simp only [okR_bind, okR_map, okR_some, evS, ee_var, ee_cst, ee_fnv, ee_bin, ee_neg, ee_fz, ee_cmp, ee_chain, ee_isN, ee_notN, ee_and, ee_or, ee_not, ee_ite, ee_call, ee_callv, ee_bi, ee_isi1, ee_isi2, ee_mt0, ee_mt1, ee_ix, ee_dget, ee_din, ee_get1, ee_get2, ee_sl, ee_tup, ee_lst, evEs, evZ, evO, evI, evT, evTo, evX, rd_d, fz_d, b_add, b_sub, b_mul, b_div, b_mod, b_p18, b_p8, b_p7, b_p6, c_lt, c_le, c_gt, c_ge, c_eq, c_ne, c_eqs, c_nes, c_nes0, c_nes1, c_eqs0, c_eqs1, l_t, l_l, bi_i, bi_max, bi_min, bi_tl, bi_tt, ix_l, ix_t, m_nil, m_cons, at0, at1, at2, flatD, seqOf, isNonW, nx_nx, nx_rt, nx_bk, nx_ct, nx_xc, next_nx, next_ct, next_bk, next_rt, Option.bind_some, Option.map_some, List.getElem?_cons_zero, List.getElem?_cons_succ, List.set_cons_zero, List.set_cons_succ, List.length_cons, List.length_nil, if_true, asgn, asgns, Nat.zero_add, Nat.reduceAdd, Nat.reduceLT, Nat.reduceLeDiff, reduceIte, reduceCtorEq, Bool.false_eq_true, Int.reduceNeg, sizeLine_val, and_self, true_and, and_true, b_m7, b_m86400, b_m1000000000, b_m60, b_m600, b_d7, b_d86400, b_d1000, b_p10_5, b_p10_9, b_p10_12, b_p10_15]
      refine T.lx.take0 (k := 38) hr hj9 (by decide) fun r1 ja r2 r3 hja => ?_
      simp only [okR_bind, okR_map, okR_some, evS, ee_var, ee_cst, ee_fnv, ee_bin, ee_neg, ee_fz, ee_cmp, ee_chain, ee_isN, ee_notN, ee_and, ee_or, ee_not, ee_ite, ee_call, ee_callv, ee_bi, ee_isi1, ee_isi2, ee_mt0, ee_mt1, ee_ix, ee_dget, ee_din, ee_get1, ee_get2, ee_sl, ee_tup, ee_lst, evEs, evZ, evO, evI, evT, evTo, evX, rd_d, fz_d, b_add, b_sub, b_mul, b_div, b_mod, b_p18, b_p8, b_p7, b_p6, c_lt, c_le, c_gt, c_ge, c_eq, c_ne, c_eqs, c_nes, c_nes0, c_nes1, c_eqs0, c_eqs1, l_t, l_l, bi_i, bi_max, bi_min, bi_tl, bi_tt, ix_l, ix_t, m_nil, m_cons, at0, at1, at2, flatD, seqOf, isNonW, nx_nx, nx_rt, nx_bk, nx_ct, nx_xc, next_nx, next_ct, next_bk, next_rt, Option.bind_some, Option.map_some, List.getElem?_cons_zero, List.getElem?_cons_succ, List.set_cons_zero, List.set_cons_succ, List.length_cons, List.length_nil, if_true, asgn, asgns, Nat.zero_add, Nat.reduceAdd, Nat.reduceLT, Nat.reduceLeDiff, reduceIte, reduceCtorEq, Bool.false_eq_true, Int.reduceNeg, sizeLine_val, and_self, true_and, and_true, b_m7, b_m86400, b_m1000000000, b_m60, b_m600, b_d7, b_d86400, b_d1000, b_p10_5, b_p10_9, b_p10_12, b_p10_15]
      refine T.lx.pickL (k := 37) hr hja (fun z => nomatch z) fun b jb hb hjb => ?_
      have hb' : ∃ ra : Int, b = .int ra ∧ 0 ≤ ra ∧ ra ≤ 1000 := by
        simp only [List.mem_cons, List.not_mem_nil, or_false] at hb
        rcases hb with rfl | rfl | rfl | rfl | rfl <;> exact ⟨_, rfl, by omega, by omega⟩
      obtain ⟨ra, rfl, ra0, ra1⟩ := hb'
      simp only [okR_bind, okR_map, okR_some, evS, ee_var, ee_cst, ee_fnv, ee_bin, ee_neg, ee_fz, ee_cmp, ee_chain, ee_isN, ee_notN, ee_and, ee_or, ee_not, ee_ite, ee_call, ee_callv, ee_bi, ee_isi1, ee_isi2, ee_mt0, ee_mt1, ee_ix, ee_dget, ee_din, ee_get1, ee_get2, ee_sl, ee_tup, ee_lst, evEs, evZ, evO, evI, evT, evTo, evX, rd_d, fz_d, b_add, b_sub, b_mul, b_div, b_mod, b_p18, b_p8, b_p7, b_p6, c_lt, c_le, c_gt, c_ge, c_eq, c_ne, c_eqs, c_nes, c_nes0, c_nes1, c_eqs0, c_eqs1, l_t, l_l, bi_i, bi_max, bi_min, bi_tl, bi_tt, ix_l, ix_t, m_nil, m_cons, at0, at1, at2, flatD, seqOf, isNonW, nx_nx, nx_rt, nx_bk, nx_ct, nx_xc, next_nx, next_ct, next_bk, next_rt, Option.bind_some, Option.map_some, List.getElem?_cons_zero, List.getElem?_cons_succ, List.set_cons_zero, List.set_cons_succ, List.length_cons, List.length_nil, if_true, asgn, asgns, Nat.zero_add, Nat.reduceAdd, Nat.reduceLT, Nat.reduceLeDiff, reduceIte, reduceCtorEq, Bool.false_eq_true, Int.reduceNeg, sizeLine_val, and_self, true_and, and_true, b_m7, b_m86400, b_m1000000000, b_m60, b_m600, b_d7, b_d86400, b_d1000, b_p10_5, b_p10_9, b_p10_12, b_p10_15]
      refine ss_step (ifs_ok ?_)
      simp only [okR_bind, okR_map, okR_some, evS, ee_var, ee_cst, ee_fnv, ee_bin, ee_neg, ee_fz, ee_cmp, ee_chain, ee_isN, ee_notN, ee_and, ee_or, ee_not, ee_ite, ee_call, ee_callv, ee_bi, ee_isi1, ee_isi2, ee_mt0, ee_mt1, ee_ix, ee_dget, ee_din, ee_get1, ee_get2, ee_sl, ee_tup, ee_lst, evEs, evZ, evO, evI, evT, evTo, evX, rd_d, fz_d, b_add, b_sub, b_mul, b_div, b_mod, b_p18, b_p8, b_p7, b_p6, c_lt, c_le, c_gt, c_ge, c_eq, c_ne, c_eqs, c_nes, c_nes0, c_nes1, c_eqs0, c_eqs1, l_t, l_l, bi_i, bi_max, bi_min, bi_tl, bi_tt, ix_l, ix_t, m_nil, m_cons, at0, at1, at2, flatD, seqOf, isNonW, nx_nx, nx_rt, nx_bk, nx_ct, nx_xc, next_nx, next_ct, next_bk, next_rt, Option.bind_some, Option.map_some, List.getElem?_cons_zero, List.getElem?_cons_succ, List.set_cons_zero, List.set_cons_succ, List.length_cons, List.length_nil, if_true, asgn, asgns, Nat.zero_add, Nat.reduceAdd, Nat.reduceLT, Nat.reduceLeDiff, reduceIte, reduceCtorEq, Bool.false_eq_true, Int.reduceNeg, sizeLine_val, and_self, true_and, and_true, b_m7, b_m86400, b_m1000000000, b_m60, b_m600, b_d7, b_d86400, b_d1000, b_p10_5, b_p10_9, b_p10_12, b_p10_15]
      refine told15t (k := 39) T.p22 (.rt (tax_ok (k := 36) T.sh.p10 T.sh.p0 T.sh.p2 T.sh.p1 T.sh.p9 wh0 wh1 ra0 ra1)) ⟨rfl, ?_⟩
      simp only [okR_bind, okR_map, okR_some, evS, ee_var, ee_cst, ee_fnv, ee_bin, ee_neg, ee_fz, ee_cmp, ee_chain, ee_isN, ee_notN, ee_and, ee_or, ee_not, ee_ite, ee_call, ee_callv, ee_bi, ee_isi1, ee_isi2, ee_mt0, ee_mt1, ee_ix, ee_dget, ee_din, ee_get1, ee_get2, ee_sl, ee_tup, ee_lst, evEs, evZ, evO, evI, evT, evTo, evX, rd_d, fz_d, b_add, b_sub, b_mul, b_div, b_mod, b_p18, b_p8, b_p7, b_p6, c_lt, c_le, c_gt, c_ge, c_eq, c_ne, c_eqs, c_nes, c_nes0, c_nes1, c_eqs0, c_eqs1, l_t, l_l, bi_i, bi_max, bi_min, bi_tl, bi_tt, ix_l, ix_t, m_nil, m_cons, at0, at1, at2, flatD, seqOf, isNonW, nx_nx, nx_rt, nx_bk, nx_ct, nx_xc, next_nx, next_ct, next_bk, next_rt, Option.bind_some, Option.map_some, List.getElem?_cons_zero, List.getElem?_cons_succ, List.set_cons_zero, List.set_cons_succ, List.length_cons, List.length_nil, if_true, asgn, asgns, Nat.zero_add, Nat.reduceAdd, Nat.reduceLT, Nat.reduceLeDiff, reduceIte, reduceCtorEq, Bool.false_eq_true, Int.reduceNeg, sizeLine_val, and_self, true_and, and_true, b_m7, b_m86400, b_m1000000000, b_m60, b_m600, b_d7, b_d86400, b_d1000, b_p10_5, b_p10_9, b_p10_12, b_p10_15]
      refine OkR.of (law_tax_ok (k := 39) T.p21 ra0 ra1) ?_
      simp only [okR_bind, okR_map, okR_some, evS, ee_var, ee_cst, ee_fnv, ee_bin, ee_neg, ee_fz, ee_cmp, ee_chain, ee_isN, ee_notN, ee_and, ee_or, ee_not, ee_ite, ee_call, ee_callv, ee_bi, ee_isi1, ee_isi2, ee_mt0, ee_mt1, ee_ix, ee_dget, ee_din, ee_get1, ee_get2, ee_sl, ee_tup, ee_lst, evEs, evZ, evO, evI, evT, evTo, evX, rd_d, fz_d, b_add, b_sub, b_mul, b_div, b_mod, b_p18, b_p8, b_p7, b_p6, c_lt, c_le, c_gt, c_ge, c_eq, c_ne, c_eqs, c_nes, c_nes0, c_nes1, c_eqs0, c_eqs1, l_t, l_l, bi_i, bi_max, bi_min, bi_tl, bi_tt, ix_l, ix_t, m_nil, m_cons, at0, at1, at2, flatD, seqOf, isNonW, nx_nx, nx_rt, nx_bk, nx_ct, nx_xc, next_nx, next_ct, next_bk, next_rt, Option.bind_some, Option.map_some, List.getElem?_cons_zero, List.getElem?_cons_succ, List.set_cons_zero, List.set_cons_succ, List.length_cons, List.length_nil, if_true, asgn, asgns, Nat.zero_add, Nat.reduceAdd, Nat.reduceLT, Nat.reduceLeDiff, reduceIte, reduceCtorEq, Bool.false_eq_true, Int.reduceNeg, sizeLine_val, and_self, true_and, and_true, b_m7, b_m86400, b_m1000000000, b_m60, b_m600, b_d7, b_d86400, b_d1000, b_p10_5, b_p10_9, b_p10_12, b_p10_15]
      refine T.so rfl ?_
      simp only [okR_bind, okR_map, okR_some, evS, ee_var, ee_cst, ee_fnv, ee_bin, ee_neg, ee_fz, ee_cmp, ee_chain, ee_isN, ee_notN, ee_and, ee_or, ee_not, ee_ite, ee_call, ee_callv, ee_bi, ee_isi1, ee_isi2, ee_mt0, ee_mt1, ee_ix, ee_dget, ee_din, ee_get1, ee_get2, ee_sl, ee_tup, ee_lst, evEs, evZ, evO, evI, evT, evTo, evX, rd_d, fz_d, b_add, b_sub, b_mul, b_div, b_mod, b_p18, b_p8, b_p7, b_p6, c_lt, c_le, c_gt, c_ge, c_eq, c_ne, c_eqs, c_nes, c_nes0, c_nes1, c_eqs0, c_eqs1, l_t, l_l, bi_i, bi_max, bi_min, bi_tl, bi_tt, ix_l, ix_t, m_nil, m_cons, at0, at1, at2, flatD, seqOf, isNonW, nx_nx, nx_rt, nx_bk, nx_ct, nx_xc, next_nx, next_ct, next_bk, next_rt, Option.bind_some, Option.map_some, List.getElem?_cons_zero, List.getElem?_cons_succ, List.set_cons_zero, List.set_cons_succ, List.length_cons, List.length_nil, if_true, asgn, asgns, Nat.zero_add, Nat.reduceAdd, Nat.reduceLT, Nat.reduceLeDiff, reduceIte, reduceCtorEq, Bool.false_eq_true, Int.reduceNeg, sizeLine_val, and_self, true_and, and_true, b_m7, b_m86400, b_m1000000000, b_m60, b_m600, b_d7, b_d86400, b_d1000, b_p10_5, b_p10_9, b_p10_12, b_p10_15, Bool.not_true]
      refine ss_done ?_
      simp only [okR_bind, okR_map, okR_some, evS, ee_var, ee_cst, ee_fnv, ee_bin, ee_neg, ee_fz, ee_cmp, ee_chain, ee_isN, ee_notN, ee_and, ee_or, ee_not, ee_ite, ee_call, ee_callv, ee_bi, ee_isi1, ee_isi2, ee_mt0, ee_mt1, ee_ix, ee_dget, ee_din, ee_get1, ee_get2, ee_sl, ee_tup, ee_lst, evEs, evZ, evO, evI, evT, evTo, evX, rd_d, fz_d, b_add, b_sub, b_mul, b_div, b_mod, b_p18, b_p8, b_p7, b_p6, c_lt, c_le, c_gt, c_ge, c_eq, c_ne, c_eqs, c_nes, c_nes0, c_nes1, c_eqs0, c_eqs1, l_t, l_l, bi_i, bi_max, bi_min, bi_tl, bi_tt, ix_l, ix_t, m_nil, m_cons, at0, at1, at2, flatD, seqOf, isNonW, nx_nx, nx_rt, nx_bk, nx_ct, nx_xc, next_nx, next_ct, next_bk, next_rt, Option.bind_some, Option.map_some, List.getElem?_cons_zero, List.getElem?_cons_succ, List.set_cons_zero, List.set_cons_succ, List.length_cons, List.length_nil, if_true, asgn, asgns, Nat.zero_add, Nat.reduceAdd, Nat.reduceLT, Nat.reduceLeDiff, reduceIte, reduceCtorEq, Bool.false_eq_true, Int.reduceNeg, sizeLine_val, and_self, true_and, and_true, b_m7, b_m86400, b_m1000000000, b_m60, b_m600, b_d7, b_d86400, b_d1000, b_p10_5, b_p10_9, b_p10_12, b_p10_15]
      exact ss_done ⟨_, _, _, _, _, _, _, _, _, _, rfl, rfl, hjb⟩
    · rintro ρ S ⟨v3, v4, v5, v6, v7, v8, v9, v10, j, ms, rfl, rfl, hj⟩
      simp only [nx_nx]
      have e41 : bRun .mul (.tup [.int 1]) (.int 41) = some (.tup (List.replicate 41 [D.int 1]).flatten) := by simp [bRun]
      refine ss_step ?_
      simp only [okR_bind, okR_map, okR_some, evS, ee_var, ee_cst, ee_fnv, ee_bin, ee_neg, ee_fz, ee_cmp, ee_chain, ee_isN, ee_notN, ee_and, ee_or, ee_not, ee_ite, ee_call, ee_callv, ee_bi, ee_isi1, ee_isi2, ee_mt0, ee_mt1, ee_ix, ee_dget, ee_din, ee_get1, ee_get2, ee_sl, ee_tup, ee_lst, evEs, evZ, evO, evI, evT, evTo, evX, rd_d, fz_d, b_add, b_sub, b_mul, b_div, b_mod, b_p18, b_p8, b_p7, b_p6, c_lt, c_le, c_gt, c_ge, c_eq, c_ne, c_eqs, c_nes, c_nes0, c_nes1, c_eqs0, c_eqs1, l_t, l_l, bi_i, bi_max, bi_min, bi_tl, bi_tt, ix_l, ix_t, m_nil, m_cons, at0, at1, at2, flatD, seqOf, isNonW, nx_nx, nx_rt, nx_bk, nx_ct, nx_xc, next_nx, next_ct, next_bk, next_rt, Option.bind_some, Option.map_some, List.getElem?_cons_zero, List.getElem?_cons_succ, List.set_cons_zero, List.set_cons_succ, List.length_cons, List.length_nil, if_true, asgn, asgns, Nat.zero_add, Nat.reduceAdd, Nat.reduceLT, Nat.reduceLeDiff, reduceIte, reduceCtorEq, Bool.false_eq_true, Int.reduceNeg, sizeLine_val, and_self, true_and, and_true, b_m7, b_m86400, b_m1000000000, b_m60, b_m600, b_d7, b_d86400, b_d1000, b_p10_5, b_p10_9, b_p10_12, b_p10_15]
      refine T.lx.pickL (k := 37) hr hj (fun z => nomatch z) fun b j1 hb hj1 => ?_
      have hbad : okV b = true ∧ isW 0 1000000000000000 b = false := by
        simp only [List.mem_cons, List.not_mem_nil, or_false] at hb
        rcases hb with rfl | rfl | rfl | rfl | rfl <;> exact ⟨rfl, by decide⟩
      simp only [okR_bind, okR_map, okR_some, evS, ee_var, ee_cst, ee_fnv, ee_bin, ee_neg, ee_fz, ee_cmp, ee_chain, ee_isN, ee_notN, ee_and, ee_or, ee_not, ee_ite, ee_call, ee_callv, ee_bi, ee_isi1, ee_isi2, ee_mt0, ee_mt1, ee_ix, ee_dget, ee_din, ee_get1, ee_get2, ee_sl, ee_tup, ee_lst, evEs, evZ, evO, evI, evT, evTo, evX, rd_d, fz_d, b_add, b_sub, b_mul, b_div, b_mod, b_p18, b_p8, b_p7, b_p6, c_lt, c_le, c_gt, c_ge, c_eq, c_ne, c_eqs, c_nes, c_nes0, c_nes1, c_eqs0, c_eqs1, l_t, l_l, bi_i, bi_max, bi_min, bi_tl, bi_tt, ix_l, ix_t, m_nil, m_cons, at0, at1, at2, flatD, seqOf, isNonW, nx_nx, nx_rt, nx_bk, nx_ct, nx_xc, next_nx, next_ct, next_bk, next_rt, Option.bind_some, Option.map_some, List.getElem?_cons_zero, List.getElem?_cons_succ, List.set_cons_zero, List.set_cons_succ, List.length_cons, List.length_nil, if_true, asgn, asgns, Nat.zero_add, Nat.reduceAdd, Nat.reduceLT, Nat.reduceLeDiff, reduceIte, reduceCtorEq, Bool.false_eq_true, Int.reduceNeg, sizeLine_val, and_self, true_and, and_true, b_m7, b_m86400, b_m1000000000, b_m60, b_m600, b_d7, b_d86400, b_d1000, b_p10_5, b_p10_9, b_p10_12, b_p10_15]
      refine ss_step ?_
      simp only [okR_bind, okR_map, okR_some, evS, ee_var, ee_cst, ee_fnv, ee_bin, ee_neg, ee_fz, ee_cmp, ee_chain, ee_isN, ee_notN, ee_and, ee_or, ee_not, ee_ite, ee_call, ee_callv, ee_bi, ee_isi1, ee_isi2, ee_mt0, ee_mt1, ee_ix, ee_dget, ee_din, ee_get1, ee_get2, ee_sl, ee_tup, ee_lst, evEs, evZ, evO, evI, evT, evTo, evX, rd_d, fz_d, b_add, b_sub, b_mul, b_div, b_mod, b_p18, b_p8, b_p7, b_p6, c_lt, c_le, c_gt, c_ge, c_eq, c_ne, c_eqs, c_nes, c_nes0, c_nes1, c_eqs0, c_eqs1, l_t, l_l, bi_i, bi_max, bi_min, bi_tl, bi_tt, ix_l, ix_t, m_nil, m_cons, at0, at1, at2, flatD, seqOf, isNonW, nx_nx, nx_rt, nx_bk, nx_ct, nx_xc, next_nx, next_ct, next_bk, next_rt, Option.bind_some, Option.map_some, List.getElem?_cons_zero, List.getElem?_cons_succ, List.set_cons_zero, List.set_cons_succ, List.length_cons, List.length_nil, if_true, asgn, asgns, Nat.zero_add, Nat.reduceAdd, Nat.reduceLT, Nat.reduceLeDiff, reduceIte, reduceCtorEq, Bool.false_eq_true, Int.reduceNeg, sizeLine_val, and_self, true_and, and_true, b_m7, b_m86400, b_m1000000000, b_m60, b_m600, b_d7, b_d86400, b_d1000, b_p10_5, b_p10_9, b_p10_12, b_p10_15, e41]
      refine T.lx.pickL (k := 37) hr hj1 (fun z => nomatch z) fun q j2 hq hj2 => ?_
      have hnone : Vt 2 q = true ∧ (rowsW q = false ∨ biRun .sum [q] = some (.int 0)) := by
        simp only [List.mem_cons, List.not_mem_nil, or_false] at hq
        rcases hq with rfl | rfl | rfl | rfl | rfl | rfl | rfl | rfl | rfl | rfl
        · exact ⟨rfl, .inl rfl⟩
        · exact ⟨rfl, .inl rfl⟩
        · exact ⟨by decide, .inr rfl⟩
        · exact ⟨by decide, .inr rfl⟩
        · exact ⟨by decide, .inl (by decide)⟩
        · exact ⟨by decide, .inl (by decide)⟩
        · exact ⟨by decide, .inl (by decide)⟩
        · exact ⟨by decide, .inl (by decide)⟩
        · exact ⟨rfl, .inl rfl⟩
        · exact ⟨by decide, .inl rfl⟩
      simp only [okR_bind, okR_map, okR_some, evS, ee_var, ee_cst, ee_fnv, ee_bin, ee_neg, ee_fz, ee_cmp, ee_chain, ee_isN, ee_notN, ee_and, ee_or, ee_not, ee_ite, ee_call, ee_callv, ee_bi, ee_isi1, ee_isi2, ee_mt0, ee_mt1, ee_ix, ee_dget, ee_din, ee_get1, ee_get2, ee_sl, ee_tup, ee_lst, evEs, evZ, evO, evI, evT, evTo, evX, rd_d, fz_d, b_add, b_sub, b_mul, b_div, b_mod, b_p18, b_p8, b_p7, b_p6, c_lt, c_le, c_gt, c_ge, c_eq, c_ne, c_eqs, c_nes, c_nes0, c_nes1, c_eqs0, c_eqs1, l_t, l_l, bi_i, bi_max, bi_min, bi_tl, bi_tt, ix_l, ix_t, m_nil, m_cons, at0, at1, at2, flatD, seqOf, isNonW, nx_nx, nx_rt, nx_bk, nx_ct, nx_xc, next_nx, next_ct, next_bk, next_rt, Option.bind_some, Option.map_some, List.getElem?_cons_zero, List.getElem?_cons_succ, List.set_cons_zero, List.set_cons_succ, List.length_cons, List.length_nil, if_true, asgn, asgns, Nat.zero_add, Nat.reduceAdd, Nat.reduceLT, Nat.reduceLeDiff, reduceIte, reduceCtorEq, Bool.false_eq_true, Int.reduceNeg, sizeLine_val, and_self, true_and, and_true, b_m7, b_m86400, b_m1000000000, b_m60, b_m600, b_d7, b_d86400, b_d1000, b_p10_5, b_p10_9, b_p10_12, b_p10_15]
      refine ss_step (ifs_ok ?_)
      simp only [okR_bind, okR_map, okR_some, evS, ee_var, ee_cst, ee_fnv, ee_bin, ee_neg, ee_fz, ee_cmp, ee_chain, ee_isN, ee_notN, ee_and, ee_or, ee_not, ee_ite, ee_call, ee_callv, ee_bi, ee_isi1, ee_isi2, ee_mt0, ee_mt1, ee_ix, ee_dget, ee_din, ee_get1, ee_get2, ee_sl, ee_tup, ee_lst, evEs, evZ, evO, evI, evT, evTo, evX, rd_d, fz_d, b_add, b_sub, b_mul, b_div, b_mod, b_p18, b_p8, b_p7, b_p6, c_lt, c_le, c_gt, c_ge, c_eq, c_ne, c_eqs, c_nes, c_nes0, c_nes1, c_eqs0, c_eqs1, l_t, l_l, bi_i, bi_max, bi_min, bi_tl, bi_tt, ix_l, ix_t, m_nil, m_cons, at0, at1, at2, flatD, seqOf, isNonW, nx_nx, nx_rt, nx_bk, nx_ct, nx_xc, next_nx, next_ct, next_bk, next_rt, Option.bind_some, Option.map_some, List.getElem?_cons_zero, List.getElem?_cons_succ, List.set_cons_zero, List.set_cons_succ, List.length_cons, List.length_nil, if_true, asgn, asgns, Nat.zero_add, Nat.reduceAdd, Nat.reduceLT, Nat.reduceLeDiff, reduceIte, reduceCtorEq, Bool.false_eq_true, Int.reduceNeg, sizeLine_val, and_self, true_and, and_true, b_m7, b_m86400, b_m1000000000, b_m60, b_m600, b_d7, b_d86400, b_d1000, b_p10_5, b_p10_9, b_p10_12, b_p10_15]
      refine told15s (k := 39) T.p22 (shares0 (k := 33) T.sh hbad.1 hbad.2) ⟨rfl, ?_⟩
      simp only [okR_bind, okR_map, okR_some, evS, ee_var, ee_cst, ee_fnv, ee_bin, ee_neg, ee_fz, ee_cmp, ee_chain, ee_isN, ee_notN, ee_and, ee_or, ee_not, ee_ite, ee_call, ee_callv, ee_bi, ee_isi1, ee_isi2, ee_mt0, ee_mt1, ee_ix, ee_dget, ee_din, ee_get1, ee_get2, ee_sl, ee_tup, ee_lst, evEs, evZ, evO, evI, evT, evTo, evX, rd_d, fz_d, b_add, b_sub, b_mul, b_div, b_mod, b_p18, b_p8, b_p7, b_p6, c_lt, c_le, c_gt, c_ge, c_eq, c_ne, c_eqs, c_nes, c_nes0, c_nes1, c_eqs0, c_eqs1, l_t, l_l, bi_i, bi_max, bi_min, bi_tl, bi_tt, ix_l, ix_t, m_nil, m_cons, at0, at1, at2, flatD, seqOf, isNonW, nx_nx, nx_rt, nx_bk, nx_ct, nx_xc, next_nx, next_ct, next_bk, next_rt, Option.bind_some, Option.map_some, List.getElem?_cons_zero, List.getElem?_cons_succ, List.set_cons_zero, List.set_cons_succ, List.length_cons, List.length_nil, if_true, asgn, asgns, Nat.zero_add, Nat.reduceAdd, Nat.reduceLT, Nat.reduceLeDiff, reduceIte, reduceCtorEq, Bool.false_eq_true, Int.reduceNeg, sizeLine_val, and_self, true_and, and_true, b_m7, b_m86400, b_m1000000000, b_m60, b_m600, b_d7, b_d86400, b_d1000, b_p10_5, b_p10_9, b_p10_12, b_p10_15]
      refine T.so (T05.bad 0) ?_
      simp only [okR_bind, okR_map, okR_some, evS, ee_var, ee_cst, ee_fnv, ee_bin, ee_neg, ee_fz, ee_cmp, ee_chain, ee_isN, ee_notN, ee_and, ee_or, ee_not, ee_ite, ee_call, ee_callv, ee_bi, ee_isi1, ee_isi2, ee_mt0, ee_mt1, ee_ix, ee_dget, ee_din, ee_get1, ee_get2, ee_sl, ee_tup, ee_lst, evEs, evZ, evO, evI, evT, evTo, evX, rd_d, fz_d, b_add, b_sub, b_mul, b_div, b_mod, b_p18, b_p8, b_p7, b_p6, c_lt, c_le, c_gt, c_ge, c_eq, c_ne, c_eqs, c_nes, c_nes0, c_nes1, c_eqs0, c_eqs1, l_t, l_l, bi_i, bi_max, bi_min, bi_tl, bi_tt, ix_l, ix_t, m_nil, m_cons, at0, at1, at2, flatD, seqOf, isNonW, nx_nx, nx_rt, nx_bk, nx_ct, nx_xc, next_nx, next_ct, next_bk, next_rt, Option.bind_some, Option.map_some, List.getElem?_cons_zero, List.getElem?_cons_succ, List.set_cons_zero, List.set_cons_succ, List.length_cons, List.length_nil, if_true, asgn, asgns, Nat.zero_add, Nat.reduceAdd, Nat.reduceLT, Nat.reduceLeDiff, reduceIte, reduceCtorEq, Bool.false_eq_true, Int.reduceNeg, sizeLine_val, and_self, true_and, and_true, b_m7, b_m86400, b_m1000000000, b_m60, b_m600, b_d7, b_d86400, b_d1000, b_p10_5, b_p10_9, b_p10_12, b_p10_15, Bool.not_true]
      refine told15s (k := 39) T.p22 (shares1 (k := 33) T.sh (by decide) (by decide) hnone.1 hnone.2) ⟨rfl, ?_⟩
      simp only [okR_bind, okR_map, okR_some, evS, ee_var, ee_cst, ee_fnv, ee_bin, ee_neg, ee_fz, ee_cmp, ee_chain, ee_isN, ee_notN, ee_and, ee_or, ee_not, ee_ite, ee_call, ee_callv, ee_bi, ee_isi1, ee_isi2, ee_mt0, ee_mt1, ee_ix, ee_dget, ee_din, ee_get1, ee_get2, ee_sl, ee_tup, ee_lst, evEs, evZ, evO, evI, evT, evTo, evX, rd_d, fz_d, b_add, b_sub, b_mul, b_div, b_mod, b_p18, b_p8, b_p7, b_p6, c_lt, c_le, c_gt, c_ge, c_eq, c_ne, c_eqs, c_nes, c_nes0, c_nes1, c_eqs0, c_eqs1, l_t, l_l, bi_i, bi_max, bi_min, bi_tl, bi_tt, ix_l, ix_t, m_nil, m_cons, at0, at1, at2, flatD, seqOf, isNonW, nx_nx, nx_rt, nx_bk, nx_ct, nx_xc, next_nx, next_ct, next_bk, next_rt, Option.bind_some, Option.map_some, List.getElem?_cons_zero, List.getElem?_cons_succ, List.set_cons_zero, List.set_cons_succ, List.length_cons, List.length_nil, if_true, asgn, asgns, Nat.zero_add, Nat.reduceAdd, Nat.reduceLT, Nat.reduceLeDiff, reduceIte, reduceCtorEq, Bool.false_eq_true, Int.reduceNeg, sizeLine_val, and_self, true_and, and_true, b_m7, b_m86400, b_m1000000000, b_m60, b_m600, b_d7, b_d86400, b_d1000, b_p10_5, b_p10_9, b_p10_12, b_p10_15]
      refine T.so (T05.bad 1) ?_
      simp only [okR_bind, okR_map, okR_some, evS, ee_var, ee_cst, ee_fnv, ee_bin, ee_neg, ee_fz, ee_cmp, ee_chain, ee_isN, ee_notN, ee_and, ee_or, ee_not, ee_ite, ee_call, ee_callv, ee_bi, ee_isi1, ee_isi2, ee_mt0, ee_mt1, ee_ix, ee_dget, ee_din, ee_get1, ee_get2, ee_sl, ee_tup, ee_lst, evEs, evZ, evO, evI, evT, evTo, evX, rd_d, fz_d, b_add, b_sub, b_mul, b_div, b_mod, b_p18, b_p8, b_p7, b_p6, c_lt, c_le, c_gt, c_ge, c_eq, c_ne, c_eqs, c_nes, c_nes0, c_nes1, c_eqs0, c_eqs1, l_t, l_l, bi_i, bi_max, bi_min, bi_tl, bi_tt, ix_l, ix_t, m_nil, m_cons, at0, at1, at2, flatD, seqOf, isNonW, nx_nx, nx_rt, nx_bk, nx_ct, nx_xc, next_nx, next_ct, next_bk, next_rt, Option.bind_some, Option.map_some, List.getElem?_cons_zero, List.getElem?_cons_succ, List.set_cons_zero, List.set_cons_succ, List.length_cons, List.length_nil, if_true, asgn, asgns, Nat.zero_add, Nat.reduceAdd, Nat.reduceLT, Nat.reduceLeDiff, reduceIte, reduceCtorEq, Bool.false_eq_true, Int.reduceNeg, sizeLine_val, and_self, true_and, and_true, b_m7, b_m86400, b_m1000000000, b_m60, b_m600, b_d7, b_d86400, b_d1000, b_p10_5, b_p10_9, b_p10_12, b_p10_15, Bool.not_true]
      refine ss_done ?_
      simp only [okR_bind, okR_map, okR_some, evS, ee_var, ee_cst, ee_fnv, ee_bin, ee_neg, ee_fz, ee_cmp, ee_chain, ee_isN, ee_notN, ee_and, ee_or, ee_not, ee_ite, ee_call, ee_callv, ee_bi, ee_isi1, ee_isi2, ee_mt0, ee_mt1, ee_ix, ee_dget, ee_din, ee_get1, ee_get2, ee_sl, ee_tup, ee_lst, evEs, evZ, evO, evI, evT, evTo, evX, rd_d, fz_d, b_add, b_sub, b_mul, b_div, b_mod, b_p18, b_p8, b_p7, b_p6, c_lt, c_le, c_gt, c_ge, c_eq, c_ne, c_eqs, c_nes, c_nes0, c_nes1, c_eqs0, c_eqs1, l_t, l_l, bi_i, bi_max, bi_min, bi_tl, bi_tt, ix_l, ix_t, m_nil, m_cons, at0, at1, at2, flatD, seqOf, isNonW, nx_nx, nx_rt, nx_bk, nx_ct, nx_xc, next_nx, next_ct, next_bk, next_rt, Option.bind_some, Option.map_some, List.getElem?_cons_zero, List.getElem?_cons_succ, List.set_cons_zero, List.set_cons_succ, List.length_cons, List.length_nil, if_true, asgn, asgns, Nat.zero_add, Nat.reduceAdd, Nat.reduceLT, Nat.reduceLeDiff, reduceIte, reduceCtorEq, Bool.false_eq_true, Int.reduceNeg, sizeLine_val, and_self, true_and, and_true, b_m7, b_m86400, b_m1000000000, b_m60, b_m600, b_d7, b_d86400, b_d1000, b_p10_5, b_p10_9, b_p10_12, b_p10_15]
      refine ss_step ?_
      simp only [okR_bind, okR_map, okR_some, evS, ee_var, ee_cst, ee_fnv, ee_bin, ee_neg, ee_fz, ee_cmp, ee_chain, ee_isN, ee_notN, ee_and, ee_or, ee_not, ee_ite, ee_call, ee_callv, ee_bi, ee_isi1, ee_isi2, ee_mt0, ee_mt1, ee_ix, ee_dget, ee_din, ee_get1, ee_get2, ee_sl, ee_tup, ee_lst, evEs, evZ, evO, evI, evT, evTo, evX, rd_d, fz_d, b_add, b_sub, b_mul, b_div, b_mod, b_p18, b_p8, b_p7, b_p6, c_lt, c_le, c_gt, c_ge, c_eq, c_ne, c_eqs, c_nes, c_nes0, c_nes1, c_eqs0, c_eqs1, l_t, l_l, bi_i, bi_max, bi_min, bi_tl, bi_tt, ix_l, ix_t, m_nil, m_cons, at0, at1, at2, flatD, seqOf, isNonW, nx_nx, nx_rt, nx_bk, nx_ct, nx_xc, next_nx, next_ct, next_bk, next_rt, Option.bind_some, Option.map_some, List.getElem?_cons_zero, List.getElem?_cons_succ, List.set_cons_zero, List.set_cons_succ, List.length_cons, List.length_nil, if_true, asgn, asgns, Nat.zero_add, Nat.reduceAdd, Nat.reduceLT, Nat.reduceLeDiff, reduceIte, reduceCtorEq, Bool.false_eq_true, Int.reduceNeg, sizeLine_val, and_self, true_and, and_true, b_m7, b_m86400, b_m1000000000, b_m60, b_m600, b_d7, b_d86400, b_d1000, b_p10_5, b_p10_9, b_p10_12, b_p10_15]
      refine T.lx.pickL (k := 37) hr hj2 (fun z => nomatch z) fun o j3 ho hj3 => ?_
      have hoff : okV o = true ∧ isW 0 1000 o = false := by
        simp only [List.mem_cons, List.not_mem_nil, or_false] at ho
        rcases ho with rfl | rfl | rfl | rfl <;> exact ⟨rfl, by decide⟩
      simp only [okR_bind, okR_map, okR_some, evS, ee_var, ee_cst, ee_fnv, ee_bin, ee_neg, ee_fz, ee_cmp, ee_chain, ee_isN, ee_notN, ee_and, ee_or, ee_not, ee_ite, ee_call, ee_callv, ee_bi, ee_isi1, ee_isi2, ee_mt0, ee_mt1, ee_ix, ee_dget, ee_din, ee_get1, ee_get2, ee_sl, ee_tup, ee_lst, evEs, evZ, evO, evI, evT, evTo, evX, rd_d, fz_d, b_add, b_sub, b_mul, b_div, b_mod, b_p18, b_p8, b_p7, b_p6, c_lt, c_le, c_gt, c_ge, c_eq, c_ne, c_eqs, c_nes, c_nes0, c_nes1, c_eqs0, c_eqs1, l_t, l_l, bi_i, bi_max, bi_min, bi_tl, bi_tt, ix_l, ix_t, m_nil, m_cons, at0, at1, at2, flatD, seqOf, isNonW, nx_nx, nx_rt, nx_bk, nx_ct, nx_xc, next_nx, next_ct, next_bk, next_rt, Option.bind_some, Option.map_some, List.getElem?_cons_zero, List.getElem?_cons_succ, List.set_cons_zero, List.set_cons_succ, List.length_cons, List.length_nil, if_true, asgn, asgns, Nat.zero_add, Nat.reduceAdd, Nat.reduceLT, Nat.reduceLeDiff, reduceIte, reduceCtorEq, Bool.false_eq_true, Int.reduceNeg, sizeLine_val, and_self, true_and, and_true, b_m7, b_m86400, b_m1000000000, b_m60, b_m600, b_d7, b_d86400, b_d1000, b_p10_5, b_p10_9, b_p10_12, b_p10_15]
      refine ss_step ?_
      simp only [okR_bind, okR_map, okR_some, evS, ee_var, ee_cst, ee_fnv, ee_bin, ee_neg, ee_fz, ee_cmp, ee_chain, ee_isN, ee_notN, ee_and, ee_or, ee_not, ee_ite, ee_call, ee_callv, ee_bi, ee_isi1, ee_isi2, ee_mt0, ee_mt1, ee_ix, ee_dget, ee_din, ee_get1, ee_get2, ee_sl, ee_tup, ee_lst, evEs, evZ, evO, evI, evT, evTo, evX, rd_d, fz_d, b_add, b_sub, b_mul, b_div, b_mod, b_p18, b_p8, b_p7, b_p6, c_lt, c_le, c_gt, c_ge, c_eq, c_ne, c_eqs, c_nes, c_nes0, c_nes1, c_eqs0, c_eqs1, l_t, l_l, bi_i, bi_max, bi_min, bi_tl, bi_tt, ix_l, ix_t, m_nil, m_cons, at0, at1, at2, flatD, seqOf, isNonW, nx_nx, nx_rt, nx_bk, nx_ct, nx_xc, next_nx, next_ct, next_bk, next_rt, Option.bind_some, Option.map_some, List.getElem?_cons_zero, List.getElem?_cons_succ, List.set_cons_zero, List.set_cons_succ, List.length_cons, List.length_nil, if_true, asgn, asgns, Nat.zero_add, Nat.reduceAdd, Nat.reduceLT, Nat.reduceLeDiff, reduceIte, reduceCtorEq, Bool.false_eq_true, Int.reduceNeg, sizeLine_val, and_self, true_and, and_true, b_m7, b_m86400, b_m1000000000, b_m60, b_m600, b_d7, b_d86400, b_d1000, b_p10_5, b_p10_9, b_p10_12, b_p10_15]
      refine told15t (k := 39) T.p22 (tax0 (k := 36) T.sh hbad.1 hbad.2) ⟨rfl, ?_⟩
      simp only [okR_bind, okR_map, okR_some, evS, ee_var, ee_cst, ee_fnv, ee_bin, ee_neg, ee_fz, ee_cmp, ee_chain, ee_isN, ee_notN, ee_and, ee_or, ee_not, ee_ite, ee_call, ee_callv, ee_bi, ee_isi1, ee_isi2, ee_mt0, ee_mt1, ee_ix, ee_dget, ee_din, ee_get1, ee_get2, ee_sl, ee_tup, ee_lst, evEs, evZ, evO, evI, evT, evTo, evX, rd_d, fz_d, b_add, b_sub, b_mul, b_div, b_mod, b_p18, b_p8, b_p7, b_p6, c_lt, c_le, c_gt, c_ge, c_eq, c_ne, c_eqs, c_nes, c_nes0, c_nes1, c_eqs0, c_eqs1, l_t, l_l, bi_i, bi_max, bi_min, bi_tl, bi_tt, ix_l, ix_t, m_nil, m_cons, at0, at1, at2, flatD, seqOf, isNonW, nx_nx, nx_rt, nx_bk, nx_ct, nx_xc, next_nx, next_ct, next_bk, next_rt, Option.bind_some, Option.map_some, List.getElem?_cons_zero, List.getElem?_cons_succ, List.set_cons_zero, List.set_cons_succ, List.length_cons, List.length_nil, if_true, asgn, asgns, Nat.zero_add, Nat.reduceAdd, Nat.reduceLT, Nat.reduceLeDiff, reduceIte, reduceCtorEq, Bool.false_eq_true, Int.reduceNeg, sizeLine_val, and_self, true_and, and_true, b_m7, b_m86400, b_m1000000000, b_m60, b_m600, b_d7, b_d86400, b_d1000, b_p10_5, b_p10_9, b_p10_12, b_p10_15]
      refine T.so (T05.bad 0) ?_
      simp only [okR_bind, okR_map, okR_some, evS, ee_var, ee_cst, ee_fnv, ee_bin, ee_neg, ee_fz, ee_cmp, ee_chain, ee_isN, ee_notN, ee_and, ee_or, ee_not, ee_ite, ee_call, ee_callv, ee_bi, ee_isi1, ee_isi2, ee_mt0, ee_mt1, ee_ix, ee_dget, ee_din, ee_get1, ee_get2, ee_sl, ee_tup, ee_lst, evEs, evZ, evO, evI, evT, evTo, evX, rd_d, fz_d, b_add, b_sub, b_mul, b_div, b_mod, b_p18, b_p8, b_p7, b_p6, c_lt, c_le, c_gt, c_ge, c_eq, c_ne, c_eqs, c_nes, c_nes0, c_nes1, c_eqs0, c_eqs1, l_t, l_l, bi_i, bi_max, bi_min, bi_tl, bi_tt, ix_l, ix_t, m_nil, m_cons, at0, at1, at2, flatD, seqOf, isNonW, nx_nx, nx_rt, nx_bk, nx_ct, nx_xc, next_nx, next_ct, next_bk, next_rt, Option.bind_some, Option.map_some, List.getElem?_cons_zero, List.getElem?_cons_succ, List.set_cons_zero, List.set_cons_succ, List.length_cons, List.length_nil, if_true, asgn, asgns, Nat.zero_add, Nat.reduceAdd, Nat.reduceLT, Nat.reduceLeDiff, reduceIte, reduceCtorEq, Bool.false_eq_true, Int.reduceNeg, sizeLine_val, and_self, true_and, and_true, b_m7, b_m86400, b_m1000000000, b_m60, b_m600, b_d7, b_d86400, b_d1000, b_p10_5, b_p10_9, b_p10_12, b_p10_15]
      refine told15t (k := 39) T.p22 (tax1 (k := 36) T.sh (by decide) (by decide) hoff.1 hoff.2) ⟨rfl, ?_⟩
      simp only [okR_bind, okR_map, okR_some, evS, ee_var, ee_cst, ee_fnv, ee_bin, ee_neg, ee_fz, ee_cmp, ee_chain, ee_isN, ee_notN, ee_and, ee_or, ee_not, ee_ite, ee_call, ee_callv, ee_bi, ee_isi1, ee_isi2, ee_mt0, ee_mt1, ee_ix, ee_dget, ee_din, ee_get1, ee_get2, ee_sl, ee_tup, ee_lst, evEs, evZ, evO, evI, evT, evTo, evX, rd_d, fz_d, b_add, b_sub, b_mul, b_div, b_mod, b_p18, b_p8, b_p7, b_p6, c_lt, c_le, c_gt, c_ge, c_eq, c_ne, c_eqs, c_nes, c_nes0, c_nes1, c_eqs0, c_eqs1, l_t, l_l, bi_i, bi_max, bi_min, bi_tl, bi_tt, ix_l, ix_t, m_nil, m_cons, at0, at1, at2, flatD, seqOf, isNonW, nx_nx, nx_rt, nx_bk, nx_ct, nx_xc, next_nx, next_ct, next_bk, next_rt, Option.bind_some, Option.map_some, List.getElem?_cons_zero, List.getElem?_cons_succ, List.set_cons_zero, List.set_cons_succ, List.length_cons, List.length_nil, if_true, asgn, asgns, Nat.zero_add, Nat.reduceAdd, Nat.reduceLT, Nat.reduceLeDiff, reduceIte, reduceCtorEq, Bool.false_eq_true, Int.reduceNeg, sizeLine_val, and_self, true_and, and_true, b_m7, b_m86400, b_m1000000000, b_m60, b_m600, b_d7, b_d86400, b_d1000, b_p10_5, b_p10_9, b_p10_12, b_p10_15]
      refine T.so (T05.bad 1) ?_
      simp only [okR_bind, okR_map, okR_some, evS, ee_var, ee_cst, ee_fnv, ee_bin, ee_neg, ee_fz, ee_cmp, ee_chain, ee_isN, ee_notN, ee_and, ee_or, ee_not, ee_ite, ee_call, ee_callv, ee_bi, ee_isi1, ee_isi2, ee_mt0, ee_mt1, ee_ix, ee_dget, ee_din, ee_get1, ee_get2, ee_sl, ee_tup, ee_lst, evEs, evZ, evO, evI, evT, evTo, evX, rd_d, fz_d, b_add, b_sub, b_mul, b_div, b_mod, b_p18, b_p8, b_p7, b_p6, c_lt, c_le, c_gt, c_ge, c_eq, c_ne, c_eqs, c_nes, c_nes0, c_nes1, c_eqs0, c_eqs1, l_t, l_l, bi_i, bi_max, bi_min, bi_tl, bi_tt, ix_l, ix_t, m_nil, m_cons, at0, at1, at2, flatD, seqOf, isNonW, nx_nx, nx_rt, nx_bk, nx_ct, nx_xc, next_nx, next_ct, next_bk, next_rt, Option.bind_some, Option.map_some, List.getElem?_cons_zero, List.getElem?_cons_succ, List.set_cons_zero, List.set_cons_succ, List.length_cons, List.length_nil, if_true, asgn, asgns, Nat.zero_add, Nat.reduceAdd, Nat.reduceLT, Nat.reduceLeDiff, reduceIte, reduceCtorEq, Bool.false_eq_true, Int.reduceNeg, sizeLine_val, and_self, true_and, and_true, b_m7, b_m86400, b_m1000000000, b_m60, b_m600, b_d7, b_d86400, b_d1000, b_p10_5, b_p10_9, b_p10_12, b_p10_15]
      exact fin_rt rfl
  obtain ⟨⟨d, S⟩, e, h⟩ := key
  simp only at h
  subst h
  exact ⟨S, e⟩
end
end Pv

set_option Elab.async false
set_option linter.all false
set_option maxRecDepth 100000
namespace L2
open PySem PySem.Spec PyProof.Rows
structure FunC (K : PySem.W.Frag) (x qual : Str) (st : Stmt) (f : Addr) (fd : FuncData) (cdv : Value) : Prop where
  ex : ∃ (oc : Value) (od : Option Addr) (kV doc pm : Value) (an : Option Addr) (ct : Value) (osl : Array (Option Value)),
    fd = PySem.W.fnOf x qual (defArgs st) (defBody st) (defScope st) .none kV doc pm an cdv ct ∧ K.lookup f = some ⟨oc, od, .func fd, osl⟩ ∧ PySem.W.codeIn K cdv qual = true
  kp : PySem.W.keepIn K (.ref f) = true
section
variable {P : Program} {w : World} {K : PySem.W.Frag} {mg : Str → Option Value} {base : Heap}
theorem FunC.toFun {x qual : Str} {st : Stmt} {f : Addr} {fd : FuncData} {cdv : Value} (F : FunC K x qual st f fd cdv) : Fun K x qual st f fd := by
  obtain ⟨⟨oc, od, kV, doc, pm, an, ct, osl, e, lk, hcd⟩, kp⟩ := F
  exact ⟨⟨oc, od, kV, doc, pm, an, cdv, ct, osl, e, lk, hcd⟩, kp⟩
theorem FunC.okX {x qual : Str} {st : Stmt} {f : Addr} {fd : FuncData} {cdv : Value} {N ps : List Str} {k : Nat} {sp : Sp} (F : FunC K x qual st f fd cdv) (S : FnScope N ps (defScope st)) (len : ∀ vs H Q E, sp vs H Q E → vs.length = ps.length)
    (hbody : ∀ (A : Around) (outer : List Env) (s : Shared) (H : Hp) (vs : List V) (Q : VK) (E : XK), Room k (A.deeper (envOfC qual (defScope st) s.heap.objs.size f cdv)) → sp vs H Q E →
      ∃ t, PSs (cxOf (L2.CX P w) P w K mg base N qual (defScope st) f cdv A outer s H E) (defBody st) t ∧ t { nx := fun _ H' => Q .non H', rt := Q } (start N vs) H) : FnOk P w K mg base (L2.CX P w) (k + 1) f fd ps sp := by
  obtain ⟨oc, od, kV, doc, pm, an, ct, osl, rfl, lk, hcd⟩ := F.ex
  exact fn_of lk hcd S len fun A outer s H vs Q E hr hsp => hbody A outer s H vs Q E hr hsp
end
end L2

set_option Elab.async false
set_option linter.all false
set_option maxRecDepth 100000
set_option maxHeartbeats 4000000
namespace Pg
open PySem L2 Pv
def top (i : Nat) : Stmt := PySem.Challenge.pw_eachsecond_k15_shares_and_taxes.main.body.getD i (.Pass ⟨0, 0, 0, 0⟩)
abbrev stE : Stmt := inClass (top 2) 0
abbrev st0 : Stmt := top 4
def b0 : Ss := .cons (.ifs (.not (.val (.var 0))) (.cons (.rais (.var 1)) (.nil)) (.nil)) (.nil)
abbrev N0 : List Str := ["good", "at"]
abbrev ps0 : List Str := ["good", "at"]
abbrev st1 : Stmt := top 5
def b1 : Ss := .cons (.ret (.and (.isi1 (.var 0) "int") (.not (.isi1 (.var 0) "bool")))) (.nil)
abbrev N1 : List Str := ["value"]
abbrev ps1 : List Str := ["value"]
abbrev st2 : Stmt := top 6
def b2 : Ss := .cons (.ret (.and (.call 1 (.cons (.var 0) (.nil))) (.chain .le .le (.var 1) (.var 0) (.var 2)))) (.nil)
abbrev N2 : List Str := ["value", "low", "high"]
abbrev ps2 : List Str := ["value", "low", "high"]
abbrev st3 : Stmt := top 7
def b3 : Ss := .cons (.ret (.and (.isi2 (.var 0) "list" "tuple") (.chain .le .le (.var 1) (.bi .len (.cons (.var 0) (.nil))) (.var 2)))) (.nil)
abbrev N3 : List Str := ["value", "low", "high"]
abbrev ps3 : List Str := ["value", "low", "high"]
abbrev st4 : Stmt := top 8
def b4 : Ss := .cons (.ret (.and (.call 3 (.cons (.var 0) (.cons (.var 1) (.cons (.var 2) (.nil))))) (.bi .all (.cons (.comp [4] (.name 4) (.seq (.var 0)) (.none) (.callv 3 (.cons (.var 4) (.nil)))) (.nil))))) (.nil)
abbrev N4 : List Str := ["value", "low", "high", "is_member", "member"]
abbrev ps4 : List Str := ["value", "low", "high", "is_member"]
abbrev st5 : Stmt := top 11
def b5 : Ss := .cons (.ret (.call 2 (.cons (.var 0) (.cons (.cst (.int 0)) (.cons (.cst (.int 1000000000000000)) (.nil)))))) (.nil)
abbrev N5 : List Str := ["value"]
abbrev ps5 : List Str := ["value"]
abbrev st6 : Stmt := top 12
def b6 : Ss := .cons (.ret (.and (.call 4 (.cons (.var 0) (.cons (.cst (.int 1)) (.cons (.cst (.int 40)) (.cons (.fnv 5) (.nil)))))) (.cmp .gt (.bi .sum (.cons (.var 0) (.nil))) (.cst (.int 0))))) (.nil)
abbrev N6 : List Str := ["value"]
abbrev ps6 : List Str := ["value"]
abbrev st7 : Stmt := top 13
def b7 : Ss := .cons (.asg (.name 2) (.bi .sum (.cons (.var 1) (.nil)))) (.cons (.newC 3 [7] (.name 7) (.seq (.var 1)) (.none) (.bin .div (.bin .mul (.var 0) (.var 7)) (.var 2))) (.cons (.asg (.name 4) (.comp [7] (.name 7) (.seq (.var 1)) (.none) (.bin .mod (.bin .mul (.var 0) (.var 7)) (.var 2)))) (.cons (.asg (.name 5) (.sortR 4)) (.cons (.forS (.name 6) (.seq (.sl (.var 5) (.none) (.some (.bin .sub (.var 0) (.bi .sum (.cons (.var 3) (.nil))))))) (.cons (.augL 3 (.var 6) (.cst (.int 1))) (.nil))) (.cons (.ret (.bi .tuple (.cons (.var 3) (.nil)))) (.nil))))))
abbrev N7 : List Str := ["whole", "weights", "total", "parts", "rests", "places", "at", "weight"]
abbrev ps7 : List Str := ["whole", "weights"]
abbrev st8 : Stmt := top 14
def b8 : Ss := .cons (.dropX (.call 0 (.cons (.call 2 (.cons (.var 0) (.cons (.cst (.int 0)) (.cons (.cst (.int 1000000000000000)) (.nil))))) (.cons (.cst (.int 0)) (.nil))))) (.cons (.dropX (.call 0 (.cons (.call 6 (.cons (.var 1) (.nil))) (.cons (.cst (.int 1)) (.nil))))) (.cons (.ret (.call 7 (.cons (.var 0) (.cons (.var 1) (.nil))))) (.nil)))
abbrev N8 : List Str := ["whole", "weights"]
abbrev ps8 : List Str := ["whole", "weights"]
abbrev st9 : Stmt := top 15
def b9 : Ss := .cons (.ret (.bin .div (.bin .add (.bin .mul (.var 0) (.var 1)) (.cst (.int 500))) (.cst (.int 1000)))) (.nil)
abbrev N9 : List Str := ["amount", "rate"]
abbrev ps9 : List Str := ["amount", "rate"]
abbrev st10 : Stmt := top 16
def b10 : Ss := .cons (.dropX (.call 0 (.cons (.call 2 (.cons (.var 0) (.cons (.cst (.int 0)) (.cons (.cst (.int 1000000000000000)) (.nil))))) (.cons (.cst (.int 0)) (.nil))))) (.cons (.dropX (.call 0 (.cons (.call 2 (.cons (.var 1) (.cons (.cst (.int 0)) (.cons (.cst (.int 1000)) (.nil))))) (.cons (.cst (.int 1)) (.nil))))) (.cons (.ret (.call 9 (.cons (.var 0) (.cons (.var 1) (.nil))))) (.nil)))
abbrev N10 : List Str := ["amount", "rate"]
abbrev ps10 : List Str := ["amount", "rate"]
abbrev st11 : Stmt := top 18
def b11 : Ss := .cons (.ifs (.val (.isN (.var 1))) (.cons (.ret (.isN (.var 0))) (.nil)) (.nil)) (.cons (.ifs (.val (.isi1 (.var 1) "tuple")) (.cons (.ifs (.or (.not (.val (.isi1 (.var 0) "tuple"))) (.val (.cmp .ne (.bi .len (.cons (.var 0) (.nil))) (.bi .len (.cons (.var 1) (.nil)))))) (.cons (.ret (.cst (.bl false))) (.nil)) (.nil)) (.cons (.forS (.name 2) (.r1 (.bi .len (.cons (.var 1) (.nil)))) (.cons (.ifs (.not (.val (.call 11 (.cons (.ix (.var 0) (.var 2)) (.cons (.ix (.var 1) (.var 2)) (.nil)))))) (.cons (.ret (.cst (.bl false))) (.nil)) (.nil)) (.nil))) (.cons (.ret (.cst (.bl true))) (.nil)))) (.nil)) (.cons (.ifs (.or (.val (.isi1 (.var 1) "bool")) (.val (.isi1 (.var 0) "bool"))) (.cons (.ret (.and (.isi1 (.var 1) "bool") (.and (.isi1 (.var 0) "bool") (.cmp .eq (.var 0) (.var 1))))) (.nil)) (.nil)) (.cons (.ifs (.val (.isi1 (.var 1) "int")) (.cons (.ret (.and (.isi1 (.var 0) "int") (.cmp .eq (.var 0) (.var 1)))) (.nil)) (.nil)) (.cons (.ret (.and (.isi1 (.var 1) "str") (.and (.isi1 (.var 0) "str") (.cmp .eq (.var 0) (.var 1))))) (.nil)))))
abbrev N11 : List Str := ["found", "meant", "k"]
abbrev ps11 : List Str := ["found", "meant"]
abbrev st12 : Stmt := top 19
def b12 : Ss := .cons (.newL 1 (.nil)) (.cons (.forS (.name 2) (.seq (.sl (.var 0) (.none) (.some (.cst (.int 63))))) (.cons (.ifs (.val (.cmp .ge (.var 2) (.bin .pow (.cst (.int 10)) (.cst (.int 18))))) (.cons (.asg (.name 3) (.var 2)) (.cons (.forS (.name 4) (.r1 (.cst (.int 60))) (.cons (.ifs (.val (.cmp .eq (.var 3) (.cst (.int 0)))) (.cons (.brk) (.nil)) (.nil)) (.cons (.app 1 (.bin .mod (.bi .int (.cons (.var 3) (.nil))) (.cst (.int 997)))) (.cons (.asg (.name 3) (.bin .div (.var 3) (.cst (.int 997)))) (.nil))))) (.nil))) (.cons (.forS (.name 4) (.r1 (.cst (.int 4))) (.cons (.asg (.name 5) (.bin .mod (.bi .int (.cons (.bin .add (.bin .add (.bin .mul (.var 2) (.cst (.int 48271))) (.bin .mul (.var 4) (.cst (.int 69621)))) (.cst (.int 11))) (.nil))) (.cst (.int 2147483647)))) (.cons (.app 1 (.bin .mod (.bi .int (.cons (.bin .add (.bin .mul (.var 5) (.cst (.int 16807))) (.var 4)) (.nil))) (.cst (.int 2147483629)))) (.nil)))) (.nil))) (.nil))) (.cons (.ifs (.val (.cmp .eq (.bi .len (.cons (.var 1) (.nil))) (.cst (.int 0)))) (.cons (.app 1 (.cst (.int 0))) (.nil)) (.nil)) (.cons (.ret (.var 1)) (.nil))))
abbrev N12 : List Str := ["script", "row", "cell", "left", "k", "mixed"]
abbrev ps12 : List Str := ["script"]
abbrev st13 : Stmt := top 20
def b13 : Ss := .cons (.ifs (.val (.cmp .lt (.var 1) (.bi .len (.cons (.var 0) (.nil))))) (.cons (.ret (.bin .mod (.bi .int (.cons (.ix (.var 0) (.var 1)) (.nil))) (.var 2))) (.nil)) (.nil)) (.cons (.asg (.name 3) (.bin .mod (.bi .int (.cons (.bin .add (.bin .add (.bin .mul (.ix (.var 0) (.bin .mod (.bi .int (.cons (.var 1) (.nil))) (.bi .len (.cons (.var 0) (.nil))))) (.cst (.int 40692))) (.bin .mul (.var 1) (.cst (.int 7919)))) (.cst (.int 3))) (.nil))) (.cst (.int 2147483399)))) (.cons (.ret (.bin .mod (.bi .int (.cons (.bin .mod (.bi .int (.cons (.bin .add (.bin .mul (.var 3) (.cst (.int 48271))) (.var 1)) (.nil))) (.cst (.int 2147483647))) (.nil))) (.var 2))) (.nil)))
abbrev N13 : List Str := ["row", "at", "limit", "mixed"]
abbrev ps13 : List Str := ["row", "at", "limit"]
abbrev st14 : Stmt := top 21
def b14 : Ss := .cons (.setL 1 (.cst (.int 0)) (.bin .add (.ix (.var 1) (.cst (.int 0))) (.cst (.int 1)))) (.cons (.ret (.call 13 (.cons (.var 0) (.cons (.bin .sub (.ix (.var 1) (.cst (.int 0))) (.cst (.int 1))) (.cons (.var 2) (.nil)))))) (.nil))
abbrev N14 : List Str := ["row", "spot", "limit"]
abbrev ps14 : List Str := ["row", "spot", "limit"]
abbrev st15 : Stmt := top 22
def b15 : Ss := .cons (.asg (.name 3) (.call 14 (.cons (.var 0) (.cons (.var 1) (.cons (.cst (.int 997)) (.nil)))))) (.cons (.asg (.name 4) (.call 14 (.cons (.var 0) (.cons (.var 1) (.cons (.cst (.int 997)) (.nil)))))) (.cons (.asg (.name 5) (.call 14 (.cons (.var 0) (.cons (.var 1) (.cons (.cst (.int 997)) (.nil)))))) (.cons (.ret (.bin .mod (.bi .int (.cons (.bin .add (.bin .add (.bin .mul (.var 3) (.cst (.int 994009))) (.bin .mul (.var 4) (.cst (.int 997)))) (.var 5)) (.nil))) (.var 2))) (.nil))))
abbrev N15 : List Str := ["row", "spot", "limit", "first", "second", "third"]
abbrev ps15 : List Str := ["row", "spot", "limit"]
abbrev st16 : Stmt := top 23
def b16 : Ss := .cons (.ifs (.val (.isi1 (.var 0) "tuple")) (.cons (.ret (.comp [1] (.name 1) (.seq (.var 0)) (.none) (.call 16 (.cons (.var 1) (.nil))))) (.nil)) (.nil)) (.cons (.ret (.var 0)) (.nil))
abbrev N16 : List Str := ["value", "one"]
abbrev ps16 : List Str := ["value"]
abbrev st17 : Stmt := top 24
def b17 : Ss := .cons (.ifs (.val (.isi1 (.var 2) "tuple")) (.cons (.asg (.name 3) (.comp [4] (.name 4) (.seq (.var 2)) (.none) (.call 17 (.cons (.var 0) (.cons (.var 1) (.cons (.var 4) (.nil))))))) (.cons (.ret (.ite (.val (.cmp .eq (.call 14 (.cons (.var 0) (.cons (.var 1) (.cons (.cst (.int 2)) (.nil))))) (.cst (.int 0)))) (.var 3) (.bi .tuple (.cons (.var 3) (.nil))))) (.nil))) (.nil)) (.cons (.ret (.var 2)) (.nil))
abbrev N17 : List Str := ["row", "spot", "value", "parts", "one"]
abbrev ps17 : List Str := ["row", "spot", "value"]
abbrev st18 : Stmt := top 25
def b18 : Ss := .cons (.asg (.name 3) (.call 14 (.cons (.var 0) (.cons (.var 1) (.cons (.cst (.int 3)) (.nil)))))) (.cons (.ifs (.val (.cmp .eq (.var 3) (.cst (.int 2)))) (.cons (.ret (.call 17 (.cons (.var 0) (.cons (.var 1) (.cons (.var 2) (.nil)))))) (.nil)) (.nil)) (.cons (.ret (.ite (.val (.cmp .eq (.var 3) (.cst (.int 0)))) (.call 16 (.cons (.var 2) (.nil))) (.var 2))) (.nil)))
abbrev N18 : List Str := ["row", "spot", "value", "kind"]
abbrev ps18 : List Str := ["row", "spot", "value"]
abbrev st19 : Stmt := top 26
def b19 : Ss := .cons (.ret (.ix (.var 2) (.call 14 (.cons (.var 0) (.cons (.var 1) (.cons (.bi .len (.cons (.var 2) (.nil))) (.nil))))))) (.nil)
abbrev N19 : List Str := ["row", "spot", "things"]
abbrev ps19 : List Str := ["row", "spot", "things"]
abbrev st20 : Stmt := top 27
def b20 : Ss := .cons (.asg (.name 2) (.bi .sum (.cons (.var 1) (.nil)))) (.cons (.newC 3 [7] (.name 7) (.seq (.var 1)) (.none) (.bin .div (.bin .mul (.var 0) (.var 7)) (.var 2))) (.cons (.asg (.name 4) (.comp [6] (.name 6) (.r1 (.bi .len (.cons (.var 1) (.nil)))) (.none) (.tup (.cons (.bin .sub (.bin .mul (.bin .div (.bin .mul (.var 0) (.ix (.var 1) (.var 6))) (.var 2)) (.var 2)) (.bin .mul (.var 0) (.ix (.var 1) (.var 6)))) (.cons (.var 6) (.nil)))))) (.cons (.forS (.tup (.tcons (.name 5) (.tcons (.name 6) (.tnil)))) (.seq (.sl (.bi .sorted (.cons (.var 4) (.nil))) (.none) (.some (.bin .sub (.var 0) (.bi .sum (.cons (.var 3) (.nil))))))) (.cons (.setL 3 (.var 6) (.bin .add (.ix (.var 3) (.var 6)) (.cst (.int 1)))) (.nil))) (.cons (.ret (.bi .tuple (.cons (.var 3) (.nil)))) (.nil)))))
abbrev N20 : List Str := ["whole", "weights", "total", "made", "rests", "rest", "k", "one"]
abbrev ps20 : List Str := ["whole", "weights"]
abbrev st21 : Stmt := top 28
def b21 : Ss := .cons (.ret (.bin .div (.bin .add (.bin .mul (.var 0) (.var 1)) (.cst (.int 500))) (.cst (.int 1000)))) (.nil)
abbrev N21 : List Str := ["amount", "rate"]
abbrev ps21 : List Str := ["amount", "rate"]
abbrev st22 : Stmt := top 29
def b22 : Ss := .cons (.tryR (.ite (.val (.cmp .eq (.var 0) (.cst (.int 0)))) (.call 8 (.cons (.var 1) (.cons (.var 2) (.nil)))) (.call 10 (.cons (.var 1) (.cons (.var 2) (.nil))))) 3 "bad") (.nil)
abbrev N22 : List Str := ["at", "one", "other", "wrong"]
abbrev ps22 : List Str := ["at", "one", "other"]
abbrev st23 : Stmt := top 30
def b23 : Ss := .cons (.asg (.name 1) (.call 12 (.cons (.var 0) (.nil)))) (.cons (.newL 2 (.cons (.cst (.int 0)) (.nil))) (.cons (.forS (.name 3) (.r1 (.cst (.int 6))) (.cons (.asg (.name 4) (.call 19 (.cons (.var 1) (.cons (.var 2) (.cons (.lst (.cons (.cst (.int 3)) (.cons (.cst (.int 30)) (.cons (.cst (.int 997)) (.nil))))) (.nil)))))) (.cons (.asg (.name 5) (.bin .add (.cst (.int 1)) (.call 14 (.cons (.var 1) (.cons (.var 2) (.cons (.ix (.lst (.cons (.cst (.int 4)) (.cons (.cst (.int 40)) (.nil)))) (.call 14 (.cons (.var 1) (.cons (.var 2) (.cons (.cst (.int 2)) (.nil)))))) (.nil))))))) (.cons (.newC 6 [14] (.name 14) (.r1 (.var 5)) (.none) (.bin .mul (.call 14 (.cons (.var 1) (.cons (.var 2) (.cons (.var 4) (.nil))))) (.call 19 (.cons (.var 1) (.cons (.var 2) (.cons (.lst (.cons (.cst (.int 1)) (.cons (.cst (.int 1)) (.cons (.bin .pow (.cst (.int 10)) (.cst (.int 9))) (.nil))))) (.nil))))))) (.cons (.ifs (.val (.cmp .eq (.bi .sum (.cons (.var 6) (.nil))) (.cst (.int 0)))) (.cons (.setL 6 (.cst (.int 0)) (.cst (.int 1))) (.nil)) (.nil)) (.cons (.asg (.name 7) (.bi .min2 (.cons (.bin .pow (.cst (.int 10)) (.cst (.int 15))) (.cons (.bin .add (.bin .mul (.call 15 (.cons (.var 1) (.cons (.var 2) (.cons (.bin .pow (.cst (.int 10)) (.cst (.int 6))) (.nil))))) (.bin .pow (.cst (.int 10)) (.cst (.int 9)))) (.call 15 (.cons (.var 1) (.cons (.var 2) (.cons (.bin .pow (.cst (.int 10)) (.cst (.int 9))) (.nil)))))) (.nil))))) (.cons (.asg (.name 8) (.call 19 (.cons (.var 1) (.cons (.var 2) (.cons (.lst (.cons (.cst (.int 0)) (.cons (.cst (.int 1)) (.cons (.call 14 (.cons (.var 1) (.cons (.var 2) (.cons (.cst (.int 997)) (.nil))))) (.cons (.var 7) (.cons (.var 7) (.cons (.bin .pow (.cst (.int 10)) (.cst (.int 15))) (.nil)))))))) (.nil)))))) (.cons (.asg (.name 9) (.call 22 (.cons (.cst (.int 0)) (.cons (.var 8) (.cons (.call 18 (.cons (.var 1) (.cons (.var 2) (.cons (.bi .tuple (.cons (.var 6) (.nil))) (.nil))))) (.nil)))))) (.cons (.ifs (.or (.not (.val (.call 11 (.cons (.var 9) (.cons (.call 20 (.cons (.var 8) (.cons (.fz (.var 6)) (.nil)))) (.nil)))))) (.val (.cmp .ne (.bi .sum (.cons (.var 9) (.nil))) (.var 8)))) (.cons (.ret (.cst (.bl false))) (.nil)) (.nil)) (.cons (.asg (.name 10) (.call 19 (.cons (.var 1) (.cons (.var 2) (.cons (.lst (.cons (.cst (.int 0)) (.cons (.cst (.int 1)) (.cons (.cst (.int 500)) (.cons (.cst (.int 1000)) (.cons (.call 14 (.cons (.var 1) (.cons (.var 2) (.cons (.cst (.int 997)) (.nil))))) (.nil))))))) (.nil)))))) (.cons (.ifs (.not (.val (.call 11 (.cons (.call 22 (.cons (.cst (.int 1)) (.cons (.var 8) (.cons (.var 10) (.nil))))) (.cons (.call 21 (.cons (.var 8) (.cons (.var 10) (.nil)))) (.nil)))))) (.cons (.ret (.cst (.bl false))) (.nil)) (.nil)) (.nil)))))))))))) (.cons (.asg (.name 11) (.call 19 (.cons (.var 1) (.cons (.var 2) (.cons (.lst (.cons (.cst .non) (.cons (.neg (.cst (.int 1))) (.cons (.bin .add (.bin .pow (.cst (.int 10)) (.cst (.int 15))) (.cst (.int 1))) (.cons (.cst (.str "1")) (.cons (.cst (.bl true)) (.nil))))))) (.nil)))))) (.cons (.asg (.name 12) (.call 19 (.cons (.var 1) (.cons (.var 2) (.cons (.lst (.cons (.cst .non) (.cons (.tup (.nil)) (.cons (.tup (.cons (.cst (.int 0)) (.nil))) (.cons (.tup (.cons (.cst (.int 0)) (.cons (.cst (.int 0)) (.nil)))) (.cons (.tup (.cons (.neg (.cst (.int 1))) (.cons (.cst (.int 2)) (.nil)))) (.cons (.tup (.cons (.cst (.bl true)) (.nil))) (.cons (.tup (.cons (.bin .add (.bin .pow (.cst (.int 10)) (.cst (.int 15))) (.cst (.int 1))) (.nil))) (.cons (.bin .mul (.tup (.cons (.cst (.int 1)) (.nil))) (.cst (.int 41))) (.cons (.cst (.int 7)) (.cons (.cst (.str "12")) (.nil)))))))))))) (.nil)))))) (.cons (.ifs (.or (.not (.val (.call 11 (.cons (.call 22 (.cons (.cst (.int 0)) (.cons (.var 11) (.cons (.var 12) (.nil))))) (.cons (.tup (.cons (.cst (.str "bad")) (.cons (.cst (.int 0)) (.nil)))) (.nil)))))) (.not (.val (.call 11 (.cons (.call 22 (.cons (.cst (.int 0)) (.cons (.cst (.int 1)) (.cons (.var 12) (.nil))))) (.cons (.tup (.cons (.cst (.str "bad")) (.cons (.cst (.int 1)) (.nil)))) (.nil))))))) (.cons (.ret (.cst (.bl false))) (.nil)) (.nil)) (.cons (.asg (.name 13) (.call 19 (.cons (.var 1) (.cons (.var 2) (.cons (.lst (.cons (.cst .non) (.cons (.neg (.cst (.int 1))) (.cons (.cst (.int 1001)) (.cons (.cst (.bl true)) (.nil)))))) (.nil)))))) (.cons (.ret (.and (.call 11 (.cons (.call 22 (.cons (.cst (.int 1)) (.cons (.var 11) (.cons (.var 13) (.nil))))) (.cons (.tup (.cons (.cst (.str "bad")) (.cons (.cst (.int 0)) (.nil)))) (.nil)))) (.call 11 (.cons (.call 22 (.cons (.cst (.int 1)) (.cons (.cst (.int 1)) (.cons (.var 13) (.nil))))) (.cons (.tup (.cons (.cst (.str "bad")) (.cons (.cst (.int 1)) (.nil)))) (.nil)))))) (.nil))))))))
abbrev N23 : List Str := ["script", "row", "spot", "again", "top", "many", "weights", "great", "whole", "told", "rate", "bad", "none", "off", "k"]
abbrev ps23 : List Str := ["script"]
def fns : List Fn := [⟨2, 2, b0⟩, ⟨1, 1, b1⟩, ⟨3, 3, b2⟩, ⟨3, 3, b3⟩, ⟨4, 5, b4⟩, ⟨1, 1, b5⟩, ⟨1, 1, b6⟩, ⟨2, 8, b7⟩, ⟨2, 2, b8⟩, ⟨2, 2, b9⟩, ⟨2, 2, b10⟩, ⟨2, 3, b11⟩, ⟨1, 6, b12⟩, ⟨3, 4, b13⟩, ⟨3, 3, b14⟩, ⟨3, 6, b15⟩, ⟨1, 2, b16⟩, ⟨3, 5, b17⟩, ⟨3, 4, b18⟩, ⟨3, 3, b19⟩, ⟨2, 8, b20⟩, ⟨2, 2, b21⟩, ⟨3, 4, b22⟩, ⟨1, 15, b23⟩]
abbrev prog : Nat → Option Fn := fun f => fns[f]?
abbrev tb : Nat → Prop := fun f => f < 24
def nms : List Str := [("need" : Str), ("is_integer" : Str), ("is_within" : Str), ("is_rows" : Str), ("is_rows_of" : Str), ("is_weight" : Str), ("is_weights" : Str), ("shares_of" : Str), ("shares" : Str), ("tax_of" : Str), ("tax" : Str), ("_law_so" : Str), ("_law_numbers" : Str), ("_law_draw" : Str), ("_law_take" : Str), ("_law_wide" : Str), ("_law_listed" : Str), ("_law_either" : Str), ("_law_handed" : Str), ("_law_pick" : Str), ("_law_shares" : Str), ("_law_tax" : Str), ("_law_told" : Str), ("law" : Str)]
abbrev nm : Nat → Str := fun f => nms.getD f ""
def pns : List (List Str) := [([("good" : Str), ("at" : Str)] : List Str), ([("value" : Str)] : List Str), ([("value" : Str), ("low" : Str), ("high" : Str)] : List Str), ([("value" : Str), ("low" : Str), ("high" : Str)] : List Str), ([("value" : Str), ("low" : Str), ("high" : Str), ("is_member" : Str)] : List Str), ([("value" : Str)] : List Str), ([("value" : Str)] : List Str), ([("whole" : Str), ("weights" : Str)] : List Str), ([("whole" : Str), ("weights" : Str)] : List Str), ([("amount" : Str), ("rate" : Str)] : List Str), ([("amount" : Str), ("rate" : Str)] : List Str), ([("found" : Str), ("meant" : Str)] : List Str), ([("script" : Str)] : List Str), ([("row" : Str), ("at" : Str), ("limit" : Str)] : List Str), ([("row" : Str), ("spot" : Str), ("limit" : Str)] : List Str), ([("row" : Str), ("spot" : Str), ("limit" : Str)] : List Str), ([("value" : Str)] : List Str), ([("row" : Str), ("spot" : Str), ("value" : Str)] : List Str), ([("row" : Str), ("spot" : Str), ("value" : Str)] : List Str), ([("row" : Str), ("spot" : Str), ("things" : Str)] : List Str), ([("whole" : Str), ("weights" : Str)] : List Str), ([("amount" : Str), ("rate" : Str)] : List Str), ([("at" : Str), ("one" : Str), ("other" : Str)] : List Str), ([("script" : Str)] : List Str)]
abbrev pn : Nat → List Str := fun f => pns.getD f []
structure Cst (mg : Str → Option Value) : Prop where
  mk_ ::
  MOST_WHOLE : ∃ t, mg "MOST_WHOLE" = some (.int 1000000000000000 t)
theorem prog_tb {k f : Nat} {ws : List W} {S : Store} {r : D × Store} (h : callF prog k f ws S = some r) : tb f := by
  cases k with
  | zero => cases h
  | succ k =>
    simp only [callF] at h
    obtain ⟨q, e, _⟩ := Option.bind_eq_some_iff.mp h
    exact (List.getElem?_eq_some_iff.mp e).1
section
variable {P : Program} {w : World} {K : PySem.W.Frag} {mg : Str → Option Value} {base : Heap} {k : Nat} {fa : FA} {C : Addr}
theorem scE : FnScope ["self", "at"] ["self", "at"] (defScope stE) := ⟨rfl, rfl, rfl, by decide +kernel, rfl, by decide +kernel, by decide +kernel⟩
theorem okE {fI B : Addr} {fd : FuncData} (F : Fun K "__init__" "BadValue.__init__" stE fI fd) (T : ErrC K mg "BadValue" "SecondError" "at" C B) : FnOk P w K mg base (L2.CX P w) 1 fI fd ["self", "at"] (spI C) :=
  F.okX scE (fun vs H Q E h => by obtain ⟨a, i, rfl, _⟩ := h; rfl) fun cdv A outer s H vs Q E hr h => ⟨tErB C "the argument " " is not as described", pss_cons (ps_expr (pe_erI T rfl (pa_cons (pv 0) (pa_cons (pe_joined (.cons pe_str (.cons (pe_fmt (pv 1)) (.cons pe_str .nil)))) pa_nil)))) (pss_one (ps_erF T (pv 0) (pv 1))), pure_init (by decide) (by decide) h⟩
theorem sc0 : FnScope N0 ps0 (defScope st0) := ⟨rfl, rfl, rfl, by decide +kernel, rfl, by decide +kernel, by decide +kernel⟩
theorem der0 {sp : Nat → Sp} {f : Addr} {cdv : Value} {A : Around} {outer : List Env} {s : Shared} {H : Hp} {E : XK} (h : Okx (cxOf (L2.CX P w) P w K mg base N0 "need" (defScope st0) f cdv A outer s H E) (k + 2) fa sp tb nm pn) (re : ErrOk P w K mg base C) (tk : Takes (cxOf (L2.CX P w) P w K mg base N0 "need" (defScope st0) f cdv A outer s H E) (fun cls d _ H => E cls d H)) (hp : PassesOwn (model (cxOf (L2.CX P w) P w K mg base N0 "need" (defScope st0) f cdv A outer s H E).prog (cxOf (L2.CX P w) P w K mg base N0 "need" (defScope st0) f cdv A outer s H E).w) (cxOf (L2.CX P w) P w K mg base N0 "need" (defScope st0) f cdv A outer s H E).A (cxOf (L2.CX P w) P w K mg base N0 "need" (defScope st0) f cdv A outer s H E).env (cxOf (L2.CX P w) P w K mg base N0 "need" (defScope st0) f cdv A outer s H E).xe) (hc : Cst mg) :
    PSs (cxOf (L2.CX P w) P w K mg base N0 "need" (defScope st0) f cdv A outer s H E) (defBody st0) (tSs K fa sp tb C (fun cls d _ H => E cls d H) b0) :=
  s_cons (s_if (d_tnot (d_val (pv 0))) (s_cons (s_rais h re tk (pv 1)) (s_nil)) (s_nil)) (s_nil)
theorem ok0 {fd : FuncData} (F : Fun K "need" "need" st0 (fa 0) fd) (T : Tbl P w K mg base (k + 2) fa (spC K fa C (callF prog k)) tb nm pn) (re : ErrOk P w K mg base C) (bt : Bt mg) (hc : Cst mg) : FnOk P w K mg base (L2.CX P w) (k + 3) (fa 0) fd ps0 (spC K fa C (callF prog (k + 1)) 0) :=
  F.okX sc0 (fun vs H Q E z => len_ok (q := ⟨2, 2, b0⟩) rfl z) fun cdv A outer s H vs Q E hr z => ⟨_, der0 ⟨rfl, hr, sc0.nd, T, bt⟩ re (takes_of rfl rfl rfl rfl) (passes_of rfl) hc, body_ok (q := ⟨2, 2, b0⟩) rfl rfl (fun _ => re.te) (fun _ _ _ _ => prog_tb) z⟩
theorem sc1 : FnScope N1 ps1 (defScope st1) := ⟨rfl, rfl, rfl, by decide +kernel, rfl, by decide +kernel, by decide +kernel⟩
theorem der1 {sp : Nat → Sp} {f : Addr} {cdv : Value} {A : Around} {outer : List Env} {s : Shared} {H : Hp} {E : XK} (h : Okx (cxOf (L2.CX P w) P w K mg base N1 "is_integer" (defScope st1) f cdv A outer s H E) (k + 2) fa sp tb nm pn) (re : ErrOk P w K mg base C) (tk : Takes (cxOf (L2.CX P w) P w K mg base N1 "is_integer" (defScope st1) f cdv A outer s H E) (fun cls d _ H => E cls d H)) (hp : PassesOwn (model (cxOf (L2.CX P w) P w K mg base N1 "is_integer" (defScope st1) f cdv A outer s H E).prog (cxOf (L2.CX P w) P w K mg base N1 "is_integer" (defScope st1) f cdv A outer s H E).w) (cxOf (L2.CX P w) P w K mg base N1 "is_integer" (defScope st1) f cdv A outer s H E).A (cxOf (L2.CX P w) P w K mg base N1 "is_integer" (defScope st1) f cdv A outer s H E).env (cxOf (L2.CX P w) P w K mg base N1 "is_integer" (defScope st1) f cdv A outer s H E).xe) (hc : Cst mg) :
    PSs (cxOf (L2.CX P w) P w K mg base N1 "is_integer" (defScope st1) f cdv A outer s H E) (defBody st1) (tSs K fa sp tb C (fun cls d _ H => E cls d H) b1) :=
  s_cons (s_ret (d_and (d_isi1 h (pv 0) h.bt.int (by decide +kernel)) (d_one (d_not (d_isi1 h (pv 0) h.bt.bool (by decide +kernel)))))) (s_nil)
theorem ok1 {fd : FuncData} (F : Fun K "is_integer" "is_integer" st1 (fa 1) fd) (T : Tbl P w K mg base (k + 2) fa (spC K fa C (callF prog k)) tb nm pn) (re : ErrOk P w K mg base C) (bt : Bt mg) (hc : Cst mg) : FnOk P w K mg base (L2.CX P w) (k + 3) (fa 1) fd ps1 (spC K fa C (callF prog (k + 1)) 1) :=
  F.okX sc1 (fun vs H Q E z => len_ok (q := ⟨1, 1, b1⟩) rfl z) fun cdv A outer s H vs Q E hr z => ⟨_, der1 ⟨rfl, hr, sc1.nd, T, bt⟩ re (takes_of rfl rfl rfl rfl) (passes_of rfl) hc, body_ok (q := ⟨1, 1, b1⟩) rfl rfl (fun _ => re.te) (fun _ _ _ _ => prog_tb) z⟩
theorem sc2 : FnScope N2 ps2 (defScope st2) := ⟨rfl, rfl, rfl, by decide +kernel, rfl, by decide +kernel, by decide +kernel⟩
theorem der2 {sp : Nat → Sp} {f : Addr} {cdv : Value} {A : Around} {outer : List Env} {s : Shared} {H : Hp} {E : XK} (h : Okx (cxOf (L2.CX P w) P w K mg base N2 "is_within" (defScope st2) f cdv A outer s H E) (k + 2) fa sp tb nm pn) (re : ErrOk P w K mg base C) (tk : Takes (cxOf (L2.CX P w) P w K mg base N2 "is_within" (defScope st2) f cdv A outer s H E) (fun cls d _ H => E cls d H)) (hp : PassesOwn (model (cxOf (L2.CX P w) P w K mg base N2 "is_within" (defScope st2) f cdv A outer s H E).prog (cxOf (L2.CX P w) P w K mg base N2 "is_within" (defScope st2) f cdv A outer s H E).w) (cxOf (L2.CX P w) P w K mg base N2 "is_within" (defScope st2) f cdv A outer s H E).A (cxOf (L2.CX P w) P w K mg base N2 "is_within" (defScope st2) f cdv A outer s H E).env (cxOf (L2.CX P w) P w K mg base N2 "is_within" (defScope st2) f cdv A outer s H E).xe) (hc : Cst mg) :
    PSs (cxOf (L2.CX P w) P w K mg base N2 "is_within" (defScope st2) f cdv A outer s H E) (defBody st2) (tSs K fa sp tb C (fun cls d _ H => E cls d H) b2) :=
  s_cons (s_ret (d_and (d_call h 1 (by decide) (d_cons (pv 0) (d_nil))) (d_one (d_chain h .le .le (pv 1) (pv 0) (pv 2))))) (s_nil)
theorem ok2 {fd : FuncData} (F : Fun K "is_within" "is_within" st2 (fa 2) fd) (T : Tbl P w K mg base (k + 2) fa (spC K fa C (callF prog k)) tb nm pn) (re : ErrOk P w K mg base C) (bt : Bt mg) (hc : Cst mg) : FnOk P w K mg base (L2.CX P w) (k + 3) (fa 2) fd ps2 (spC K fa C (callF prog (k + 1)) 2) :=
  F.okX sc2 (fun vs H Q E z => len_ok (q := ⟨3, 3, b2⟩) rfl z) fun cdv A outer s H vs Q E hr z => ⟨_, der2 ⟨rfl, hr, sc2.nd, T, bt⟩ re (takes_of rfl rfl rfl rfl) (passes_of rfl) hc, body_ok (q := ⟨3, 3, b2⟩) rfl rfl (fun _ => re.te) (fun _ _ _ _ => prog_tb) z⟩
theorem sc3 : FnScope N3 ps3 (defScope st3) := ⟨rfl, rfl, rfl, by decide +kernel, rfl, by decide +kernel, by decide +kernel⟩
theorem der3 {sp : Nat → Sp} {f : Addr} {cdv : Value} {A : Around} {outer : List Env} {s : Shared} {H : Hp} {E : XK} (h : Okx (cxOf (L2.CX P w) P w K mg base N3 "is_rows" (defScope st3) f cdv A outer s H E) (k + 2) fa sp tb nm pn) (re : ErrOk P w K mg base C) (tk : Takes (cxOf (L2.CX P w) P w K mg base N3 "is_rows" (defScope st3) f cdv A outer s H E) (fun cls d _ H => E cls d H)) (hp : PassesOwn (model (cxOf (L2.CX P w) P w K mg base N3 "is_rows" (defScope st3) f cdv A outer s H E).prog (cxOf (L2.CX P w) P w K mg base N3 "is_rows" (defScope st3) f cdv A outer s H E).w) (cxOf (L2.CX P w) P w K mg base N3 "is_rows" (defScope st3) f cdv A outer s H E).A (cxOf (L2.CX P w) P w K mg base N3 "is_rows" (defScope st3) f cdv A outer s H E).env (cxOf (L2.CX P w) P w K mg base N3 "is_rows" (defScope st3) f cdv A outer s H E).xe) (hc : Cst mg) :
    PSs (cxOf (L2.CX P w) P w K mg base N3 "is_rows" (defScope st3) f cdv A outer s H E) (defBody st3) (tSs K fa sp tb C (fun cls d _ H => E cls d H) b3) :=
  s_cons (s_ret (d_and (d_isi2 h (pv 0) h.bt.list (by decide +kernel) h.bt.tuple (by decide +kernel)) (d_one (d_chain h .le .le (pv 1) (d_len h (d_cons (pv 0) (d_nil))) (pv 2))))) (s_nil)
theorem ok3 {fd : FuncData} (F : Fun K "is_rows" "is_rows" st3 (fa 3) fd) (T : Tbl P w K mg base (k + 2) fa (spC K fa C (callF prog k)) tb nm pn) (re : ErrOk P w K mg base C) (bt : Bt mg) (hc : Cst mg) : FnOk P w K mg base (L2.CX P w) (k + 3) (fa 3) fd ps3 (spC K fa C (callF prog (k + 1)) 3) :=
  F.okX sc3 (fun vs H Q E z => len_ok (q := ⟨3, 3, b3⟩) rfl z) fun cdv A outer s H vs Q E hr z => ⟨_, der3 ⟨rfl, hr, sc3.nd, T, bt⟩ re (takes_of rfl rfl rfl rfl) (passes_of rfl) hc, body_ok (q := ⟨3, 3, b3⟩) rfl rfl (fun _ => re.te) (fun _ _ _ _ => prog_tb) z⟩
theorem sc4 : FnScope N4 ps4 (defScope st4) := ⟨rfl, rfl, rfl, by decide +kernel, rfl, by decide +kernel, by decide +kernel⟩
theorem der4 {sp : Nat → Sp} {f : Addr} {cdv : Value} {A : Around} {outer : List Env} {s : Shared} {H : Hp} {E : XK} (h : Okx (cxOf (L2.CX P w) P w K mg base N4 "is_rows_of" (defScope st4) f cdv A outer s H E) (k + 2) fa sp tb nm pn) (re : ErrOk P w K mg base C) (tk : Takes (cxOf (L2.CX P w) P w K mg base N4 "is_rows_of" (defScope st4) f cdv A outer s H E) (fun cls d _ H => E cls d H)) (hp : PassesOwn (model (cxOf (L2.CX P w) P w K mg base N4 "is_rows_of" (defScope st4) f cdv A outer s H E).prog (cxOf (L2.CX P w) P w K mg base N4 "is_rows_of" (defScope st4) f cdv A outer s H E).w) (cxOf (L2.CX P w) P w K mg base N4 "is_rows_of" (defScope st4) f cdv A outer s H E).A (cxOf (L2.CX P w) P w K mg base N4 "is_rows_of" (defScope st4) f cdv A outer s H E).env (cxOf (L2.CX P w) P w K mg base N4 "is_rows_of" (defScope st4) f cdv A outer s H E).xe) (hc : Cst mg) :
    PSs (cxOf (L2.CX P w) P w K mg base N4 "is_rows_of" (defScope st4) f cdv A outer s H E) (defBody st4) (tSs K fa sp tb C (fun cls d _ H => E cls d H) b4) :=
  s_cons (s_ret (d_and (d_call h 3 (by decide) (d_cons (pv 0) (d_cons (pv 1) (d_cons (pv 2) (d_nil))))) (d_one (d_all h (d_cons (d_comp h [("member", 4)] (d_seq (pv 0)) (blkOk_by (N := N4) (sc := defScope st4) (by decide +kernel)) (fun _ _ _ _ _ => d_gn h.blk) (fun _ _ _ _ _ => d_tn) (fun _ _ _ _ _ => d_callv h.blk (d_cons (pv 4) (d_nil)))) (d_nil)))))) (s_nil)
theorem ok4 {fd : FuncData} (F : Fun K "is_rows_of" "is_rows_of" st4 (fa 4) fd) (T : Tbl P w K mg base (k + 2) fa (spC K fa C (callF prog k)) tb nm pn) (re : ErrOk P w K mg base C) (bt : Bt mg) (hc : Cst mg) : FnOk P w K mg base (L2.CX P w) (k + 3) (fa 4) fd ps4 (spC K fa C (callF prog (k + 1)) 4) :=
  F.okX sc4 (fun vs H Q E z => len_ok (q := ⟨4, 5, b4⟩) rfl z) fun cdv A outer s H vs Q E hr z => ⟨_, der4 ⟨rfl, hr, sc4.nd, T, bt⟩ re (takes_of rfl rfl rfl rfl) (passes_of rfl) hc, body_ok (q := ⟨4, 5, b4⟩) rfl rfl (fun _ => re.te) (fun _ _ _ _ => prog_tb) z⟩
theorem sc5 : FnScope N5 ps5 (defScope st5) := ⟨rfl, rfl, rfl, by decide +kernel, rfl, by decide +kernel, by decide +kernel⟩
theorem der5 {sp : Nat → Sp} {f : Addr} {cdv : Value} {A : Around} {outer : List Env} {s : Shared} {H : Hp} {E : XK} (h : Okx (cxOf (L2.CX P w) P w K mg base N5 "is_weight" (defScope st5) f cdv A outer s H E) (k + 2) fa sp tb nm pn) (re : ErrOk P w K mg base C) (tk : Takes (cxOf (L2.CX P w) P w K mg base N5 "is_weight" (defScope st5) f cdv A outer s H E) (fun cls d _ H => E cls d H)) (hp : PassesOwn (model (cxOf (L2.CX P w) P w K mg base N5 "is_weight" (defScope st5) f cdv A outer s H E).prog (cxOf (L2.CX P w) P w K mg base N5 "is_weight" (defScope st5) f cdv A outer s H E).w) (cxOf (L2.CX P w) P w K mg base N5 "is_weight" (defScope st5) f cdv A outer s H E).A (cxOf (L2.CX P w) P w K mg base N5 "is_weight" (defScope st5) f cdv A outer s H E).env (cxOf (L2.CX P w) P w K mg base N5 "is_weight" (defScope st5) f cdv A outer s H E).xe) (hc : Cst mg) :
    PSs (cxOf (L2.CX P w) P w K mg base N5 "is_weight" (defScope st5) f cdv A outer s H E) (defBody st5) (tSs K fa sp tb C (fun cls d _ H => E cls d H) b5) :=
  s_cons (s_ret (d_call h 2 (by decide) (d_cons (pv 0) (d_cons (d_int) (d_cons (d_glob hc.MOST_WHOLE) (d_nil)))))) (s_nil)
theorem ok5 {fd : FuncData} (F : Fun K "is_weight" "is_weight" st5 (fa 5) fd) (T : Tbl P w K mg base (k + 2) fa (spC K fa C (callF prog k)) tb nm pn) (re : ErrOk P w K mg base C) (bt : Bt mg) (hc : Cst mg) : FnOk P w K mg base (L2.CX P w) (k + 3) (fa 5) fd ps5 (spC K fa C (callF prog (k + 1)) 5) :=
  F.okX sc5 (fun vs H Q E z => len_ok (q := ⟨1, 1, b5⟩) rfl z) fun cdv A outer s H vs Q E hr z => ⟨_, der5 ⟨rfl, hr, sc5.nd, T, bt⟩ re (takes_of rfl rfl rfl rfl) (passes_of rfl) hc, body_ok (q := ⟨1, 1, b5⟩) rfl rfl (fun _ => re.te) (fun _ _ _ _ => prog_tb) z⟩
theorem sc6 : FnScope N6 ps6 (defScope st6) := ⟨rfl, rfl, rfl, by decide +kernel, rfl, by decide +kernel, by decide +kernel⟩
theorem der6 {sp : Nat → Sp} {f : Addr} {cdv : Value} {A : Around} {outer : List Env} {s : Shared} {H : Hp} {E : XK} (h : Okx (cxOf (L2.CX P w) P w K mg base N6 "is_weights" (defScope st6) f cdv A outer s H E) (k + 2) fa sp tb nm pn) (re : ErrOk P w K mg base C) (tk : Takes (cxOf (L2.CX P w) P w K mg base N6 "is_weights" (defScope st6) f cdv A outer s H E) (fun cls d _ H => E cls d H)) (hp : PassesOwn (model (cxOf (L2.CX P w) P w K mg base N6 "is_weights" (defScope st6) f cdv A outer s H E).prog (cxOf (L2.CX P w) P w K mg base N6 "is_weights" (defScope st6) f cdv A outer s H E).w) (cxOf (L2.CX P w) P w K mg base N6 "is_weights" (defScope st6) f cdv A outer s H E).A (cxOf (L2.CX P w) P w K mg base N6 "is_weights" (defScope st6) f cdv A outer s H E).env (cxOf (L2.CX P w) P w K mg base N6 "is_weights" (defScope st6) f cdv A outer s H E).xe) (hc : Cst mg) :
    PSs (cxOf (L2.CX P w) P w K mg base N6 "is_weights" (defScope st6) f cdv A outer s H E) (defBody st6) (tSs K fa sp tb C (fun cls d _ H => E cls d H) b6) :=
  s_cons (s_ret (d_and (d_call h 4 (by decide) (d_cons (pv 0) (d_cons (d_int) (d_cons (d_int) (d_cons (d_fn h 5 (by decide)) (d_nil)))))) (d_one (d_cmp h .gt (d_sum h (d_cons (pv 0) (d_nil))) (d_int))))) (s_nil)
theorem ok6 {fd : FuncData} (F : Fun K "is_weights" "is_weights" st6 (fa 6) fd) (T : Tbl P w K mg base (k + 2) fa (spC K fa C (callF prog k)) tb nm pn) (re : ErrOk P w K mg base C) (bt : Bt mg) (hc : Cst mg) : FnOk P w K mg base (L2.CX P w) (k + 3) (fa 6) fd ps6 (spC K fa C (callF prog (k + 1)) 6) :=
  F.okX sc6 (fun vs H Q E z => len_ok (q := ⟨1, 1, b6⟩) rfl z) fun cdv A outer s H vs Q E hr z => ⟨_, der6 ⟨rfl, hr, sc6.nd, T, bt⟩ re (takes_of rfl rfl rfl rfl) (passes_of rfl) hc, body_ok (q := ⟨1, 1, b6⟩) rfl rfl (fun _ => re.te) (fun _ _ _ _ => prog_tb) z⟩
theorem sc7 : FnScope N7 ps7 (defScope st7) := ⟨rfl, rfl, rfl, by decide +kernel, rfl, by decide +kernel, by decide +kernel⟩
theorem der7 {sp : Nat → Sp} {f : Addr} {cdv : Value} {A : Around} {outer : List Env} {s : Shared} {H : Hp} {E : XK} (h : Okx (cxOf (L2.CX P w) P w K mg base N7 "shares_of" (defScope st7) f cdv A outer s H E) (k + 2) fa sp tb nm pn) (re : ErrOk P w K mg base C) (tk : Takes (cxOf (L2.CX P w) P w K mg base N7 "shares_of" (defScope st7) f cdv A outer s H E) (fun cls d _ H => E cls d H)) (hp : PassesOwn (model (cxOf (L2.CX P w) P w K mg base N7 "shares_of" (defScope st7) f cdv A outer s H E).prog (cxOf (L2.CX P w) P w K mg base N7 "shares_of" (defScope st7) f cdv A outer s H E).w) (cxOf (L2.CX P w) P w K mg base N7 "shares_of" (defScope st7) f cdv A outer s H E).A (cxOf (L2.CX P w) P w K mg base N7 "shares_of" (defScope st7) f cdv A outer s H E).env (cxOf (L2.CX P w) P w K mg base N7 "shares_of" (defScope st7) f cdv A outer s H E).xe) (hc : Cst mg) (L : LamOk (cxOf (L2.CX P w) P w K mg base N7 "shares_of" (defScope st7) f cdv A outer s H E).mg (cxOf (L2.CX P w) P w K mg base N7 "shares_of" (defScope st7) f cdv A outer s H E).base fa (cxOf (L2.CX P w) P w K mg base N7 "shares_of" (defScope st7) f cdv A outer s H E).env.code (cxOf (L2.CX P w) P w K mg base N7 "shares_of" (defScope st7) f cdv A outer s H E).env.qual) :
    PSs (cxOf (L2.CX P w) P w K mg base N7 "shares_of" (defScope st7) f cdv A outer s H E) (defBody st7) (tSs K fa sp tb C (fun cls d _ H => E cls d H) b7) :=
  s_cons (s_set h (d_sum h (d_cons (pv 1) (d_nil)))) (s_cons (s_setLc h [("weight", 7)] (d_seq (pv 1)) (blkOk_by (N := N7) (sc := defScope st7) (by decide +kernel)) (fun _ _ _ _ _ => d_gn h.blk) (fun _ _ _ _ _ => d_tn) (fun _ _ _ _ _ => d_div (d_mul (pv 0) (pv 7)) (pv 2)) (sw_true rfl rfl rfl (by decide +kernel))) (s_cons (s_set h (d_comp h [("weight", 7)] (d_seq (pv 1)) (blkOk_by (N := N7) (sc := defScope st7) (by decide +kernel)) (fun _ _ _ _ _ => d_gn h.blk) (fun _ _ _ _ _ => d_tn) (fun _ _ _ _ _ => d_mod (d_mul (pv 0) (pv 7)) (pv 2)))) (s_cons (s_set h (d_sortR h L)) (s_cons (s_for h hp (d_seq (d_sl (pv 5) (d_on) (d_os (d_sub (pv 0) (d_sum h (d_cons (pv 3) (d_nil))))))) (d_gn h) (s_cons (s_augL (pv 6) (d_int)) (s_nil))) (s_cons (s_ret (d_tuplef h (d_cons (pv 3) (d_nil)))) (s_nil))))))
theorem ok7 {fd : FuncData} {cdv : Value} (F : FunC K "shares_of" "shares_of" st7 (fa 7) fd cdv) (L : LamOk mg base fa cdv "shares_of.<locals>.") (T : Tbl P w K mg base (k + 2) fa (spC K fa C (callF prog k)) tb nm pn) (re : ErrOk P w K mg base C) (bt : Bt mg) (hc : Cst mg) : FnOk P w K mg base (L2.CX P w) (k + 3) (fa 7) fd ps7 (spC K fa C (callF prog (k + 1)) 7) :=
  F.okX sc7 (fun vs H Q E z => len_ok (q := ⟨2, 8, b7⟩) rfl z) fun A outer s H vs Q E hr z => ⟨_, der7 ⟨rfl, hr, sc7.nd, T, bt⟩ re (takes_of rfl rfl rfl rfl) (passes_of rfl) hc L, body_ok (q := ⟨2, 8, b7⟩) rfl rfl (fun _ => re.te) (fun _ _ _ _ => prog_tb) z⟩
theorem sc8 : FnScope N8 ps8 (defScope st8) := ⟨rfl, rfl, rfl, by decide +kernel, rfl, by decide +kernel, by decide +kernel⟩
theorem der8 {sp : Nat → Sp} {f : Addr} {cdv : Value} {A : Around} {outer : List Env} {s : Shared} {H : Hp} {E : XK} (h : Okx (cxOf (L2.CX P w) P w K mg base N8 "shares" (defScope st8) f cdv A outer s H E) (k + 2) fa sp tb nm pn) (re : ErrOk P w K mg base C) (tk : Takes (cxOf (L2.CX P w) P w K mg base N8 "shares" (defScope st8) f cdv A outer s H E) (fun cls d _ H => E cls d H)) (hp : PassesOwn (model (cxOf (L2.CX P w) P w K mg base N8 "shares" (defScope st8) f cdv A outer s H E).prog (cxOf (L2.CX P w) P w K mg base N8 "shares" (defScope st8) f cdv A outer s H E).w) (cxOf (L2.CX P w) P w K mg base N8 "shares" (defScope st8) f cdv A outer s H E).A (cxOf (L2.CX P w) P w K mg base N8 "shares" (defScope st8) f cdv A outer s H E).env (cxOf (L2.CX P w) P w K mg base N8 "shares" (defScope st8) f cdv A outer s H E).xe) (hc : Cst mg) :
    PSs (cxOf (L2.CX P w) P w K mg base N8 "shares" (defScope st8) f cdv A outer s H E) (defBody st8) (tSs K fa sp tb C (fun cls d _ H => E cls d H) b8) :=
  s_cons (s_dropX (x_call h tk 0 (by decide) (d_cons (d_call h 2 (by decide) (d_cons (pv 0) (d_cons (d_int) (d_cons (d_glob hc.MOST_WHOLE) (d_nil))))) (d_cons (d_int) (d_nil))))) (s_cons (s_dropX (x_call h tk 0 (by decide) (d_cons (d_call h 6 (by decide) (d_cons (pv 1) (d_nil))) (d_cons (d_int) (d_nil))))) (s_cons (s_ret (d_call h 7 (by decide) (d_cons (pv 0) (d_cons (pv 1) (d_nil))))) (s_nil)))
theorem ok8 {fd : FuncData} (F : Fun K "shares" "shares" st8 (fa 8) fd) (T : Tbl P w K mg base (k + 2) fa (spC K fa C (callF prog k)) tb nm pn) (re : ErrOk P w K mg base C) (bt : Bt mg) (hc : Cst mg) : FnOk P w K mg base (L2.CX P w) (k + 3) (fa 8) fd ps8 (spC K fa C (callF prog (k + 1)) 8) :=
  F.okX sc8 (fun vs H Q E z => len_ok (q := ⟨2, 2, b8⟩) rfl z) fun cdv A outer s H vs Q E hr z => ⟨_, der8 ⟨rfl, hr, sc8.nd, T, bt⟩ re (takes_of rfl rfl rfl rfl) (passes_of rfl) hc, body_ok (q := ⟨2, 2, b8⟩) rfl rfl (fun _ => re.te) (fun _ _ _ _ => prog_tb) z⟩
theorem sc9 : FnScope N9 ps9 (defScope st9) := ⟨rfl, rfl, rfl, by decide +kernel, rfl, by decide +kernel, by decide +kernel⟩
theorem der9 {sp : Nat → Sp} {f : Addr} {cdv : Value} {A : Around} {outer : List Env} {s : Shared} {H : Hp} {E : XK} (h : Okx (cxOf (L2.CX P w) P w K mg base N9 "tax_of" (defScope st9) f cdv A outer s H E) (k + 2) fa sp tb nm pn) (re : ErrOk P w K mg base C) (tk : Takes (cxOf (L2.CX P w) P w K mg base N9 "tax_of" (defScope st9) f cdv A outer s H E) (fun cls d _ H => E cls d H)) (hp : PassesOwn (model (cxOf (L2.CX P w) P w K mg base N9 "tax_of" (defScope st9) f cdv A outer s H E).prog (cxOf (L2.CX P w) P w K mg base N9 "tax_of" (defScope st9) f cdv A outer s H E).w) (cxOf (L2.CX P w) P w K mg base N9 "tax_of" (defScope st9) f cdv A outer s H E).A (cxOf (L2.CX P w) P w K mg base N9 "tax_of" (defScope st9) f cdv A outer s H E).env (cxOf (L2.CX P w) P w K mg base N9 "tax_of" (defScope st9) f cdv A outer s H E).xe) (hc : Cst mg) :
    PSs (cxOf (L2.CX P w) P w K mg base N9 "tax_of" (defScope st9) f cdv A outer s H E) (defBody st9) (tSs K fa sp tb C (fun cls d _ H => E cls d H) b9) :=
  s_cons (s_ret (d_div (d_add (d_mul (pv 0) (pv 1)) (d_int)) (d_int))) (s_nil)
theorem ok9 {fd : FuncData} (F : Fun K "tax_of" "tax_of" st9 (fa 9) fd) (T : Tbl P w K mg base (k + 2) fa (spC K fa C (callF prog k)) tb nm pn) (re : ErrOk P w K mg base C) (bt : Bt mg) (hc : Cst mg) : FnOk P w K mg base (L2.CX P w) (k + 3) (fa 9) fd ps9 (spC K fa C (callF prog (k + 1)) 9) :=
  F.okX sc9 (fun vs H Q E z => len_ok (q := ⟨2, 2, b9⟩) rfl z) fun cdv A outer s H vs Q E hr z => ⟨_, der9 ⟨rfl, hr, sc9.nd, T, bt⟩ re (takes_of rfl rfl rfl rfl) (passes_of rfl) hc, body_ok (q := ⟨2, 2, b9⟩) rfl rfl (fun _ => re.te) (fun _ _ _ _ => prog_tb) z⟩
theorem sc10 : FnScope N10 ps10 (defScope st10) := ⟨rfl, rfl, rfl, by decide +kernel, rfl, by decide +kernel, by decide +kernel⟩
theorem der10 {sp : Nat → Sp} {f : Addr} {cdv : Value} {A : Around} {outer : List Env} {s : Shared} {H : Hp} {E : XK} (h : Okx (cxOf (L2.CX P w) P w K mg base N10 "tax" (defScope st10) f cdv A outer s H E) (k + 2) fa sp tb nm pn) (re : ErrOk P w K mg base C) (tk : Takes (cxOf (L2.CX P w) P w K mg base N10 "tax" (defScope st10) f cdv A outer s H E) (fun cls d _ H => E cls d H)) (hp : PassesOwn (model (cxOf (L2.CX P w) P w K mg base N10 "tax" (defScope st10) f cdv A outer s H E).prog (cxOf (L2.CX P w) P w K mg base N10 "tax" (defScope st10) f cdv A outer s H E).w) (cxOf (L2.CX P w) P w K mg base N10 "tax" (defScope st10) f cdv A outer s H E).A (cxOf (L2.CX P w) P w K mg base N10 "tax" (defScope st10) f cdv A outer s H E).env (cxOf (L2.CX P w) P w K mg base N10 "tax" (defScope st10) f cdv A outer s H E).xe) (hc : Cst mg) :
    PSs (cxOf (L2.CX P w) P w K mg base N10 "tax" (defScope st10) f cdv A outer s H E) (defBody st10) (tSs K fa sp tb C (fun cls d _ H => E cls d H) b10) :=
  s_cons (s_dropX (x_call h tk 0 (by decide) (d_cons (d_call h 2 (by decide) (d_cons (pv 0) (d_cons (d_int) (d_cons (d_glob hc.MOST_WHOLE) (d_nil))))) (d_cons (d_int) (d_nil))))) (s_cons (s_dropX (x_call h tk 0 (by decide) (d_cons (d_call h 2 (by decide) (d_cons (pv 1) (d_cons (d_int) (d_cons (d_int) (d_nil))))) (d_cons (d_int) (d_nil))))) (s_cons (s_ret (d_call h 9 (by decide) (d_cons (pv 0) (d_cons (pv 1) (d_nil))))) (s_nil)))
theorem ok10 {fd : FuncData} (F : Fun K "tax" "tax" st10 (fa 10) fd) (T : Tbl P w K mg base (k + 2) fa (spC K fa C (callF prog k)) tb nm pn) (re : ErrOk P w K mg base C) (bt : Bt mg) (hc : Cst mg) : FnOk P w K mg base (L2.CX P w) (k + 3) (fa 10) fd ps10 (spC K fa C (callF prog (k + 1)) 10) :=
  F.okX sc10 (fun vs H Q E z => len_ok (q := ⟨2, 2, b10⟩) rfl z) fun cdv A outer s H vs Q E hr z => ⟨_, der10 ⟨rfl, hr, sc10.nd, T, bt⟩ re (takes_of rfl rfl rfl rfl) (passes_of rfl) hc, body_ok (q := ⟨2, 2, b10⟩) rfl rfl (fun _ => re.te) (fun _ _ _ _ => prog_tb) z⟩
theorem sc11 : FnScope N11 ps11 (defScope st11) := ⟨rfl, rfl, rfl, by decide +kernel, rfl, by decide +kernel, by decide +kernel⟩
theorem der11 {sp : Nat → Sp} {f : Addr} {cdv : Value} {A : Around} {outer : List Env} {s : Shared} {H : Hp} {E : XK} (h : Okx (cxOf (L2.CX P w) P w K mg base N11 "_law_so" (defScope st11) f cdv A outer s H E) (k + 2) fa sp tb nm pn) (re : ErrOk P w K mg base C) (tk : Takes (cxOf (L2.CX P w) P w K mg base N11 "_law_so" (defScope st11) f cdv A outer s H E) (fun cls d _ H => E cls d H)) (hp : PassesOwn (model (cxOf (L2.CX P w) P w K mg base N11 "_law_so" (defScope st11) f cdv A outer s H E).prog (cxOf (L2.CX P w) P w K mg base N11 "_law_so" (defScope st11) f cdv A outer s H E).w) (cxOf (L2.CX P w) P w K mg base N11 "_law_so" (defScope st11) f cdv A outer s H E).A (cxOf (L2.CX P w) P w K mg base N11 "_law_so" (defScope st11) f cdv A outer s H E).env (cxOf (L2.CX P w) P w K mg base N11 "_law_so" (defScope st11) f cdv A outer s H E).xe) (hc : Cst mg) :
    PSs (cxOf (L2.CX P w) P w K mg base N11 "_law_so" (defScope st11) f cdv A outer s H E) (defBody st11) (tSs K fa sp tb C (fun cls d _ H => E cls d H) b11) :=
  s_cons (s_if (d_tisN (pv 1)) (s_cons (s_ret (d_isN (pv 0))) (s_nil)) (s_nil)) (s_cons (s_if (d_val (d_isi1 h (pv 1) h.bt.tuple (by decide +kernel))) (s_cons (s_if (d_w (d_wor (d_tnot (d_val (d_isi1 h (pv 0) h.bt.tuple (by decide +kernel)))) (d_wor1 (d_tcmp h .ne (d_len h (d_cons (pv 0) (d_nil))) (d_len h (d_cons (pv 1) (d_nil))))))) (s_cons (s_ret (d_bl)) (s_nil)) (s_nil)) (s_cons (s_for h hp (d_r1 h (d_len h (d_cons (pv 1) (d_nil)))) (d_gn h) (s_cons (s_if (d_tnot (d_val (d_call h 11 (by decide) (d_cons (d_ix (pv 0) (pv 2)) (d_cons (d_ix (pv 1) (pv 2)) (d_nil)))))) (s_cons (s_ret (d_bl)) (s_nil)) (s_nil)) (s_nil))) (s_cons (s_ret (d_bl)) (s_nil)))) (s_nil)) (s_cons (s_if (d_w (d_wor (d_val (d_isi1 h (pv 1) h.bt.bool (by decide +kernel))) (d_wor1 (d_val (d_isi1 h (pv 0) h.bt.bool (by decide +kernel)))))) (s_cons (s_ret (d_and (d_isi1 h (pv 1) h.bt.bool (by decide +kernel)) (d_and (d_isi1 h (pv 0) h.bt.bool (by decide +kernel)) (d_one (d_cmp h .eq (pv 0) (pv 1)))))) (s_nil)) (s_nil)) (s_cons (s_if (d_val (d_isi1 h (pv 1) h.bt.int (by decide +kernel))) (s_cons (s_ret (d_and (d_isi1 h (pv 0) h.bt.int (by decide +kernel)) (d_one (d_cmp h .eq (pv 0) (pv 1))))) (s_nil)) (s_nil)) (s_cons (s_ret (d_and (d_isi1 h (pv 1) h.bt.str (by decide +kernel)) (d_and (d_isi1 h (pv 0) h.bt.str (by decide +kernel)) (d_one (d_cmp h .eq (pv 0) (pv 1)))))) (s_nil)))))
theorem ok11 {fd : FuncData} (F : Fun K "_law_so" "_law_so" st11 (fa 11) fd) (T : Tbl P w K mg base (k + 2) fa (spC K fa C (callF prog k)) tb nm pn) (re : ErrOk P w K mg base C) (bt : Bt mg) (hc : Cst mg) : FnOk P w K mg base (L2.CX P w) (k + 3) (fa 11) fd ps11 (spC K fa C (callF prog (k + 1)) 11) :=
  F.okX sc11 (fun vs H Q E z => len_ok (q := ⟨2, 3, b11⟩) rfl z) fun cdv A outer s H vs Q E hr z => ⟨_, der11 ⟨rfl, hr, sc11.nd, T, bt⟩ re (takes_of rfl rfl rfl rfl) (passes_of rfl) hc, body_ok (q := ⟨2, 3, b11⟩) rfl rfl (fun _ => re.te) (fun _ _ _ _ => prog_tb) z⟩
theorem sc12 : FnScope N12 ps12 (defScope st12) := ⟨rfl, rfl, rfl, by decide +kernel, rfl, by decide +kernel, by decide +kernel⟩
theorem der12 {sp : Nat → Sp} {f : Addr} {cdv : Value} {A : Around} {outer : List Env} {s : Shared} {H : Hp} {E : XK} (h : Okx (cxOf (L2.CX P w) P w K mg base N12 "_law_numbers" (defScope st12) f cdv A outer s H E) (k + 2) fa sp tb nm pn) (re : ErrOk P w K mg base C) (tk : Takes (cxOf (L2.CX P w) P w K mg base N12 "_law_numbers" (defScope st12) f cdv A outer s H E) (fun cls d _ H => E cls d H)) (hp : PassesOwn (model (cxOf (L2.CX P w) P w K mg base N12 "_law_numbers" (defScope st12) f cdv A outer s H E).prog (cxOf (L2.CX P w) P w K mg base N12 "_law_numbers" (defScope st12) f cdv A outer s H E).w) (cxOf (L2.CX P w) P w K mg base N12 "_law_numbers" (defScope st12) f cdv A outer s H E).A (cxOf (L2.CX P w) P w K mg base N12 "_law_numbers" (defScope st12) f cdv A outer s H E).env (cxOf (L2.CX P w) P w K mg base N12 "_law_numbers" (defScope st12) f cdv A outer s H E).xe) (hc : Cst mg) :
    PSs (cxOf (L2.CX P w) P w K mg base N12 "_law_numbers" (defScope st12) f cdv A outer s H E) (defBody st12) (tSs K fa sp tb C (fun cls d _ H => E cls d H) b12) :=
  s_cons (s_newL h (d_nil)) (s_cons (s_for h hp (d_seq (d_sl (pv 0) (d_on) (d_os (d_int)))) (d_gn h) (s_cons (s_if (d_tcmp h .ge (pv 2) (d_pow (d_int) (d_int))) (s_cons (s_set h (pv 2)) (s_cons (s_for h hp (d_r1 h (d_int)) (d_gn h) (s_cons (s_if (d_tcmp h .eq (pv 3) (d_int)) (s_cons (s_brk) (s_nil)) (s_nil)) (s_cons (s_app (d_mod (d_intf h (d_cons (pv 3) (d_nil))) (d_int))) (s_cons (s_set h (d_div (pv 3) (d_int))) (s_nil))))) (s_nil))) (s_cons (s_for h hp (d_r1 h (d_int)) (d_gn h) (s_cons (s_set h (d_mod (d_intf h (d_cons (d_add (d_add (d_mul (pv 2) (d_int)) (d_mul (pv 4) (d_int))) (d_int)) (d_nil))) (d_int))) (s_cons (s_app (d_mod (d_intf h (d_cons (d_add (d_mul (pv 5) (d_int)) (pv 4)) (d_nil))) (d_int))) (s_nil)))) (s_nil))) (s_nil))) (s_cons (s_if (d_tcmp h .eq (d_len h (d_cons (pv 1) (d_nil))) (d_int)) (s_cons (s_app (d_int)) (s_nil)) (s_nil)) (s_cons (s_ret (pv 1)) (s_nil))))
theorem ok12 {fd : FuncData} (F : Fun K "_law_numbers" "_law_numbers" st12 (fa 12) fd) (T : Tbl P w K mg base (k + 2) fa (spC K fa C (callF prog k)) tb nm pn) (re : ErrOk P w K mg base C) (bt : Bt mg) (hc : Cst mg) : FnOk P w K mg base (L2.CX P w) (k + 3) (fa 12) fd ps12 (spC K fa C (callF prog (k + 1)) 12) :=
  F.okX sc12 (fun vs H Q E z => len_ok (q := ⟨1, 6, b12⟩) rfl z) fun cdv A outer s H vs Q E hr z => ⟨_, der12 ⟨rfl, hr, sc12.nd, T, bt⟩ re (takes_of rfl rfl rfl rfl) (passes_of rfl) hc, body_ok (q := ⟨1, 6, b12⟩) rfl rfl (fun _ => re.te) (fun _ _ _ _ => prog_tb) z⟩
theorem sc13 : FnScope N13 ps13 (defScope st13) := ⟨rfl, rfl, rfl, by decide +kernel, rfl, by decide +kernel, by decide +kernel⟩
theorem der13 {sp : Nat → Sp} {f : Addr} {cdv : Value} {A : Around} {outer : List Env} {s : Shared} {H : Hp} {E : XK} (h : Okx (cxOf (L2.CX P w) P w K mg base N13 "_law_draw" (defScope st13) f cdv A outer s H E) (k + 2) fa sp tb nm pn) (re : ErrOk P w K mg base C) (tk : Takes (cxOf (L2.CX P w) P w K mg base N13 "_law_draw" (defScope st13) f cdv A outer s H E) (fun cls d _ H => E cls d H)) (hp : PassesOwn (model (cxOf (L2.CX P w) P w K mg base N13 "_law_draw" (defScope st13) f cdv A outer s H E).prog (cxOf (L2.CX P w) P w K mg base N13 "_law_draw" (defScope st13) f cdv A outer s H E).w) (cxOf (L2.CX P w) P w K mg base N13 "_law_draw" (defScope st13) f cdv A outer s H E).A (cxOf (L2.CX P w) P w K mg base N13 "_law_draw" (defScope st13) f cdv A outer s H E).env (cxOf (L2.CX P w) P w K mg base N13 "_law_draw" (defScope st13) f cdv A outer s H E).xe) (hc : Cst mg) :
    PSs (cxOf (L2.CX P w) P w K mg base N13 "_law_draw" (defScope st13) f cdv A outer s H E) (defBody st13) (tSs K fa sp tb C (fun cls d _ H => E cls d H) b13) :=
  s_cons (s_if (d_tcmp h .lt (pv 1) (d_len h (d_cons (pv 0) (d_nil)))) (s_cons (s_ret (d_mod (d_intf h (d_cons (d_ix (pv 0) (pv 1)) (d_nil))) (pv 2))) (s_nil)) (s_nil)) (s_cons (s_set h (d_mod (d_intf h (d_cons (d_add (d_add (d_mul (d_ix (pv 0) (d_mod (d_intf h (d_cons (pv 1) (d_nil))) (d_len h (d_cons (pv 0) (d_nil))))) (d_int)) (d_mul (pv 1) (d_int))) (d_int)) (d_nil))) (d_int))) (s_cons (s_ret (d_mod (d_intf h (d_cons (d_mod (d_intf h (d_cons (d_add (d_mul (pv 3) (d_int)) (pv 1)) (d_nil))) (d_int)) (d_nil))) (pv 2))) (s_nil)))
theorem ok13 {fd : FuncData} (F : Fun K "_law_draw" "_law_draw" st13 (fa 13) fd) (T : Tbl P w K mg base (k + 2) fa (spC K fa C (callF prog k)) tb nm pn) (re : ErrOk P w K mg base C) (bt : Bt mg) (hc : Cst mg) : FnOk P w K mg base (L2.CX P w) (k + 3) (fa 13) fd ps13 (spC K fa C (callF prog (k + 1)) 13) :=
  F.okX sc13 (fun vs H Q E z => len_ok (q := ⟨3, 4, b13⟩) rfl z) fun cdv A outer s H vs Q E hr z => ⟨_, der13 ⟨rfl, hr, sc13.nd, T, bt⟩ re (takes_of rfl rfl rfl rfl) (passes_of rfl) hc, body_ok (q := ⟨3, 4, b13⟩) rfl rfl (fun _ => re.te) (fun _ _ _ _ => prog_tb) z⟩
theorem sc14 : FnScope N14 ps14 (defScope st14) := ⟨rfl, rfl, rfl, by decide +kernel, rfl, by decide +kernel, by decide +kernel⟩
theorem der14 {sp : Nat → Sp} {f : Addr} {cdv : Value} {A : Around} {outer : List Env} {s : Shared} {H : Hp} {E : XK} (h : Okx (cxOf (L2.CX P w) P w K mg base N14 "_law_take" (defScope st14) f cdv A outer s H E) (k + 2) fa sp tb nm pn) (re : ErrOk P w K mg base C) (tk : Takes (cxOf (L2.CX P w) P w K mg base N14 "_law_take" (defScope st14) f cdv A outer s H E) (fun cls d _ H => E cls d H)) (hp : PassesOwn (model (cxOf (L2.CX P w) P w K mg base N14 "_law_take" (defScope st14) f cdv A outer s H E).prog (cxOf (L2.CX P w) P w K mg base N14 "_law_take" (defScope st14) f cdv A outer s H E).w) (cxOf (L2.CX P w) P w K mg base N14 "_law_take" (defScope st14) f cdv A outer s H E).A (cxOf (L2.CX P w) P w K mg base N14 "_law_take" (defScope st14) f cdv A outer s H E).env (cxOf (L2.CX P w) P w K mg base N14 "_law_take" (defScope st14) f cdv A outer s H E).xe) (hc : Cst mg) :
    PSs (cxOf (L2.CX P w) P w K mg base N14 "_law_take" (defScope st14) f cdv A outer s H E) (defBody st14) (tSs K fa sp tb C (fun cls d _ H => E cls d H) b14) :=
  s_cons (s_setL (d_int) (d_add (d_ix (pv 1) (d_int)) (d_int))) (s_cons (s_ret (d_call h 13 (by decide) (d_cons (pv 0) (d_cons (d_sub (d_ix (pv 1) (d_int)) (d_int)) (d_cons (pv 2) (d_nil)))))) (s_nil))
theorem ok14 {fd : FuncData} (F : Fun K "_law_take" "_law_take" st14 (fa 14) fd) (T : Tbl P w K mg base (k + 2) fa (spC K fa C (callF prog k)) tb nm pn) (re : ErrOk P w K mg base C) (bt : Bt mg) (hc : Cst mg) : FnOk P w K mg base (L2.CX P w) (k + 3) (fa 14) fd ps14 (spC K fa C (callF prog (k + 1)) 14) :=
  F.okX sc14 (fun vs H Q E z => len_ok (q := ⟨3, 3, b14⟩) rfl z) fun cdv A outer s H vs Q E hr z => ⟨_, der14 ⟨rfl, hr, sc14.nd, T, bt⟩ re (takes_of rfl rfl rfl rfl) (passes_of rfl) hc, body_ok (q := ⟨3, 3, b14⟩) rfl rfl (fun _ => re.te) (fun _ _ _ _ => prog_tb) z⟩
theorem sc15 : FnScope N15 ps15 (defScope st15) := ⟨rfl, rfl, rfl, by decide +kernel, rfl, by decide +kernel, by decide +kernel⟩
theorem der15 {sp : Nat → Sp} {f : Addr} {cdv : Value} {A : Around} {outer : List Env} {s : Shared} {H : Hp} {E : XK} (h : Okx (cxOf (L2.CX P w) P w K mg base N15 "_law_wide" (defScope st15) f cdv A outer s H E) (k + 2) fa sp tb nm pn) (re : ErrOk P w K mg base C) (tk : Takes (cxOf (L2.CX P w) P w K mg base N15 "_law_wide" (defScope st15) f cdv A outer s H E) (fun cls d _ H => E cls d H)) (hp : PassesOwn (model (cxOf (L2.CX P w) P w K mg base N15 "_law_wide" (defScope st15) f cdv A outer s H E).prog (cxOf (L2.CX P w) P w K mg base N15 "_law_wide" (defScope st15) f cdv A outer s H E).w) (cxOf (L2.CX P w) P w K mg base N15 "_law_wide" (defScope st15) f cdv A outer s H E).A (cxOf (L2.CX P w) P w K mg base N15 "_law_wide" (defScope st15) f cdv A outer s H E).env (cxOf (L2.CX P w) P w K mg base N15 "_law_wide" (defScope st15) f cdv A outer s H E).xe) (hc : Cst mg) :
    PSs (cxOf (L2.CX P w) P w K mg base N15 "_law_wide" (defScope st15) f cdv A outer s H E) (defBody st15) (tSs K fa sp tb C (fun cls d _ H => E cls d H) b15) :=
  s_cons (s_set h (d_call h 14 (by decide) (d_cons (pv 0) (d_cons (pv 1) (d_cons (d_int) (d_nil)))))) (s_cons (s_set h (d_call h 14 (by decide) (d_cons (pv 0) (d_cons (pv 1) (d_cons (d_int) (d_nil)))))) (s_cons (s_set h (d_call h 14 (by decide) (d_cons (pv 0) (d_cons (pv 1) (d_cons (d_int) (d_nil)))))) (s_cons (s_ret (d_mod (d_intf h (d_cons (d_add (d_add (d_mul (pv 3) (d_int)) (d_mul (pv 4) (d_int))) (pv 5)) (d_nil))) (pv 2))) (s_nil))))
theorem ok15 {fd : FuncData} (F : Fun K "_law_wide" "_law_wide" st15 (fa 15) fd) (T : Tbl P w K mg base (k + 2) fa (spC K fa C (callF prog k)) tb nm pn) (re : ErrOk P w K mg base C) (bt : Bt mg) (hc : Cst mg) : FnOk P w K mg base (L2.CX P w) (k + 3) (fa 15) fd ps15 (spC K fa C (callF prog (k + 1)) 15) :=
  F.okX sc15 (fun vs H Q E z => len_ok (q := ⟨3, 6, b15⟩) rfl z) fun cdv A outer s H vs Q E hr z => ⟨_, der15 ⟨rfl, hr, sc15.nd, T, bt⟩ re (takes_of rfl rfl rfl rfl) (passes_of rfl) hc, body_ok (q := ⟨3, 6, b15⟩) rfl rfl (fun _ => re.te) (fun _ _ _ _ => prog_tb) z⟩
theorem sc16 : FnScope N16 ps16 (defScope st16) := ⟨rfl, rfl, rfl, by decide +kernel, rfl, by decide +kernel, by decide +kernel⟩
theorem der16 {sp : Nat → Sp} {f : Addr} {cdv : Value} {A : Around} {outer : List Env} {s : Shared} {H : Hp} {E : XK} (h : Okx (cxOf (L2.CX P w) P w K mg base N16 "_law_listed" (defScope st16) f cdv A outer s H E) (k + 2) fa sp tb nm pn) (re : ErrOk P w K mg base C) (tk : Takes (cxOf (L2.CX P w) P w K mg base N16 "_law_listed" (defScope st16) f cdv A outer s H E) (fun cls d _ H => E cls d H)) (hp : PassesOwn (model (cxOf (L2.CX P w) P w K mg base N16 "_law_listed" (defScope st16) f cdv A outer s H E).prog (cxOf (L2.CX P w) P w K mg base N16 "_law_listed" (defScope st16) f cdv A outer s H E).w) (cxOf (L2.CX P w) P w K mg base N16 "_law_listed" (defScope st16) f cdv A outer s H E).A (cxOf (L2.CX P w) P w K mg base N16 "_law_listed" (defScope st16) f cdv A outer s H E).env (cxOf (L2.CX P w) P w K mg base N16 "_law_listed" (defScope st16) f cdv A outer s H E).xe) (hc : Cst mg) :
    PSs (cxOf (L2.CX P w) P w K mg base N16 "_law_listed" (defScope st16) f cdv A outer s H E) (defBody st16) (tSs K fa sp tb C (fun cls d _ H => E cls d H) b16) :=
  s_cons (s_if (d_val (d_isi1 h (pv 0) h.bt.tuple (by decide +kernel))) (s_cons (s_ret (d_comp h [("one", 1)] (d_seq (pv 0)) (blkOk_by (N := N16) (sc := defScope st16) (by decide +kernel)) (fun _ _ _ _ _ => d_gn h.blk) (fun _ _ _ _ _ => d_tn) (fun _ _ _ _ _ => d_call h.blk 16 (by decide) (d_cons (pv 1) (d_nil))))) (s_nil)) (s_nil)) (s_cons (s_ret (pv 0)) (s_nil))
theorem ok16 {fd : FuncData} (F : Fun K "_law_listed" "_law_listed" st16 (fa 16) fd) (T : Tbl P w K mg base (k + 2) fa (spC K fa C (callF prog k)) tb nm pn) (re : ErrOk P w K mg base C) (bt : Bt mg) (hc : Cst mg) : FnOk P w K mg base (L2.CX P w) (k + 3) (fa 16) fd ps16 (spC K fa C (callF prog (k + 1)) 16) :=
  F.okX sc16 (fun vs H Q E z => len_ok (q := ⟨1, 2, b16⟩) rfl z) fun cdv A outer s H vs Q E hr z => ⟨_, der16 ⟨rfl, hr, sc16.nd, T, bt⟩ re (takes_of rfl rfl rfl rfl) (passes_of rfl) hc, body_ok (q := ⟨1, 2, b16⟩) rfl rfl (fun _ => re.te) (fun _ _ _ _ => prog_tb) z⟩
theorem sc17 : FnScope N17 ps17 (defScope st17) := ⟨rfl, rfl, rfl, by decide +kernel, rfl, by decide +kernel, by decide +kernel⟩
theorem der17 {sp : Nat → Sp} {f : Addr} {cdv : Value} {A : Around} {outer : List Env} {s : Shared} {H : Hp} {E : XK} (h : Okx (cxOf (L2.CX P w) P w K mg base N17 "_law_either" (defScope st17) f cdv A outer s H E) (k + 2) fa sp tb nm pn) (re : ErrOk P w K mg base C) (tk : Takes (cxOf (L2.CX P w) P w K mg base N17 "_law_either" (defScope st17) f cdv A outer s H E) (fun cls d _ H => E cls d H)) (hp : PassesOwn (model (cxOf (L2.CX P w) P w K mg base N17 "_law_either" (defScope st17) f cdv A outer s H E).prog (cxOf (L2.CX P w) P w K mg base N17 "_law_either" (defScope st17) f cdv A outer s H E).w) (cxOf (L2.CX P w) P w K mg base N17 "_law_either" (defScope st17) f cdv A outer s H E).A (cxOf (L2.CX P w) P w K mg base N17 "_law_either" (defScope st17) f cdv A outer s H E).env (cxOf (L2.CX P w) P w K mg base N17 "_law_either" (defScope st17) f cdv A outer s H E).xe) (hc : Cst mg) :
    PSs (cxOf (L2.CX P w) P w K mg base N17 "_law_either" (defScope st17) f cdv A outer s H E) (defBody st17) (tSs K fa sp tb C (fun cls d _ H => E cls d H) b17) :=
  s_cons (s_if (d_val (d_isi1 h (pv 2) h.bt.tuple (by decide +kernel))) (s_cons (s_setLc h [("one", 4)] (d_seq (pv 2)) (blkOk_by (N := N17) (sc := defScope st17) (by decide +kernel)) (fun _ _ _ _ _ => d_gn h.blk) (fun _ _ _ _ _ => d_tn) (fun _ _ _ _ _ => d_call h.blk 17 (by decide) (d_cons (pv 0) (d_cons (pv 1) (d_cons (pv 4) (d_nil))))) (sw_true rfl rfl rfl (by decide +kernel))) (s_cons (s_ret (d_ite (d_tcmp h .eq (d_call h 14 (by decide) (d_cons (pv 0) (d_cons (pv 1) (d_cons (d_int) (d_nil))))) (d_int)) (pv 3) (d_tuplef h (d_cons (pv 3) (d_nil))))) (s_nil))) (s_nil)) (s_cons (s_ret (pv 2)) (s_nil))
theorem ok17 {fd : FuncData} (F : Fun K "_law_either" "_law_either" st17 (fa 17) fd) (T : Tbl P w K mg base (k + 2) fa (spC K fa C (callF prog k)) tb nm pn) (re : ErrOk P w K mg base C) (bt : Bt mg) (hc : Cst mg) : FnOk P w K mg base (L2.CX P w) (k + 3) (fa 17) fd ps17 (spC K fa C (callF prog (k + 1)) 17) :=
  F.okX sc17 (fun vs H Q E z => len_ok (q := ⟨3, 5, b17⟩) rfl z) fun cdv A outer s H vs Q E hr z => ⟨_, der17 ⟨rfl, hr, sc17.nd, T, bt⟩ re (takes_of rfl rfl rfl rfl) (passes_of rfl) hc, body_ok (q := ⟨3, 5, b17⟩) rfl rfl (fun _ => re.te) (fun _ _ _ _ => prog_tb) z⟩
theorem sc18 : FnScope N18 ps18 (defScope st18) := ⟨rfl, rfl, rfl, by decide +kernel, rfl, by decide +kernel, by decide +kernel⟩
theorem der18 {sp : Nat → Sp} {f : Addr} {cdv : Value} {A : Around} {outer : List Env} {s : Shared} {H : Hp} {E : XK} (h : Okx (cxOf (L2.CX P w) P w K mg base N18 "_law_handed" (defScope st18) f cdv A outer s H E) (k + 2) fa sp tb nm pn) (re : ErrOk P w K mg base C) (tk : Takes (cxOf (L2.CX P w) P w K mg base N18 "_law_handed" (defScope st18) f cdv A outer s H E) (fun cls d _ H => E cls d H)) (hp : PassesOwn (model (cxOf (L2.CX P w) P w K mg base N18 "_law_handed" (defScope st18) f cdv A outer s H E).prog (cxOf (L2.CX P w) P w K mg base N18 "_law_handed" (defScope st18) f cdv A outer s H E).w) (cxOf (L2.CX P w) P w K mg base N18 "_law_handed" (defScope st18) f cdv A outer s H E).A (cxOf (L2.CX P w) P w K mg base N18 "_law_handed" (defScope st18) f cdv A outer s H E).env (cxOf (L2.CX P w) P w K mg base N18 "_law_handed" (defScope st18) f cdv A outer s H E).xe) (hc : Cst mg) :
    PSs (cxOf (L2.CX P w) P w K mg base N18 "_law_handed" (defScope st18) f cdv A outer s H E) (defBody st18) (tSs K fa sp tb C (fun cls d _ H => E cls d H) b18) :=
  s_cons (s_set h (d_call h 14 (by decide) (d_cons (pv 0) (d_cons (pv 1) (d_cons (d_int) (d_nil)))))) (s_cons (s_if (d_tcmp h .eq (pv 3) (d_int)) (s_cons (s_ret (d_call h 17 (by decide) (d_cons (pv 0) (d_cons (pv 1) (d_cons (pv 2) (d_nil)))))) (s_nil)) (s_nil)) (s_cons (s_ret (d_ite (d_tcmp h .eq (pv 3) (d_int)) (d_call h 16 (by decide) (d_cons (pv 2) (d_nil))) (pv 2))) (s_nil)))
theorem ok18 {fd : FuncData} (F : Fun K "_law_handed" "_law_handed" st18 (fa 18) fd) (T : Tbl P w K mg base (k + 2) fa (spC K fa C (callF prog k)) tb nm pn) (re : ErrOk P w K mg base C) (bt : Bt mg) (hc : Cst mg) : FnOk P w K mg base (L2.CX P w) (k + 3) (fa 18) fd ps18 (spC K fa C (callF prog (k + 1)) 18) :=
  F.okX sc18 (fun vs H Q E z => len_ok (q := ⟨3, 4, b18⟩) rfl z) fun cdv A outer s H vs Q E hr z => ⟨_, der18 ⟨rfl, hr, sc18.nd, T, bt⟩ re (takes_of rfl rfl rfl rfl) (passes_of rfl) hc, body_ok (q := ⟨3, 4, b18⟩) rfl rfl (fun _ => re.te) (fun _ _ _ _ => prog_tb) z⟩
theorem sc19 : FnScope N19 ps19 (defScope st19) := ⟨rfl, rfl, rfl, by decide +kernel, rfl, by decide +kernel, by decide +kernel⟩
theorem der19 {sp : Nat → Sp} {f : Addr} {cdv : Value} {A : Around} {outer : List Env} {s : Shared} {H : Hp} {E : XK} (h : Okx (cxOf (L2.CX P w) P w K mg base N19 "_law_pick" (defScope st19) f cdv A outer s H E) (k + 2) fa sp tb nm pn) (re : ErrOk P w K mg base C) (tk : Takes (cxOf (L2.CX P w) P w K mg base N19 "_law_pick" (defScope st19) f cdv A outer s H E) (fun cls d _ H => E cls d H)) (hp : PassesOwn (model (cxOf (L2.CX P w) P w K mg base N19 "_law_pick" (defScope st19) f cdv A outer s H E).prog (cxOf (L2.CX P w) P w K mg base N19 "_law_pick" (defScope st19) f cdv A outer s H E).w) (cxOf (L2.CX P w) P w K mg base N19 "_law_pick" (defScope st19) f cdv A outer s H E).A (cxOf (L2.CX P w) P w K mg base N19 "_law_pick" (defScope st19) f cdv A outer s H E).env (cxOf (L2.CX P w) P w K mg base N19 "_law_pick" (defScope st19) f cdv A outer s H E).xe) (hc : Cst mg) :
    PSs (cxOf (L2.CX P w) P w K mg base N19 "_law_pick" (defScope st19) f cdv A outer s H E) (defBody st19) (tSs K fa sp tb C (fun cls d _ H => E cls d H) b19) :=
  s_cons (s_ret (d_ix (pv 2) (d_call h 14 (by decide) (d_cons (pv 0) (d_cons (pv 1) (d_cons (d_len h (d_cons (pv 2) (d_nil))) (d_nil))))))) (s_nil)
theorem ok19 {fd : FuncData} (F : Fun K "_law_pick" "_law_pick" st19 (fa 19) fd) (T : Tbl P w K mg base (k + 2) fa (spC K fa C (callF prog k)) tb nm pn) (re : ErrOk P w K mg base C) (bt : Bt mg) (hc : Cst mg) : FnOk P w K mg base (L2.CX P w) (k + 3) (fa 19) fd ps19 (spC K fa C (callF prog (k + 1)) 19) :=
  F.okX sc19 (fun vs H Q E z => len_ok (q := ⟨3, 3, b19⟩) rfl z) fun cdv A outer s H vs Q E hr z => ⟨_, der19 ⟨rfl, hr, sc19.nd, T, bt⟩ re (takes_of rfl rfl rfl rfl) (passes_of rfl) hc, body_ok (q := ⟨3, 3, b19⟩) rfl rfl (fun _ => re.te) (fun _ _ _ _ => prog_tb) z⟩
theorem sc20 : FnScope N20 ps20 (defScope st20) := ⟨rfl, rfl, rfl, by decide +kernel, rfl, by decide +kernel, by decide +kernel⟩
theorem der20 {sp : Nat → Sp} {f : Addr} {cdv : Value} {A : Around} {outer : List Env} {s : Shared} {H : Hp} {E : XK} (h : Okx (cxOf (L2.CX P w) P w K mg base N20 "_law_shares" (defScope st20) f cdv A outer s H E) (k + 2) fa sp tb nm pn) (re : ErrOk P w K mg base C) (tk : Takes (cxOf (L2.CX P w) P w K mg base N20 "_law_shares" (defScope st20) f cdv A outer s H E) (fun cls d _ H => E cls d H)) (hp : PassesOwn (model (cxOf (L2.CX P w) P w K mg base N20 "_law_shares" (defScope st20) f cdv A outer s H E).prog (cxOf (L2.CX P w) P w K mg base N20 "_law_shares" (defScope st20) f cdv A outer s H E).w) (cxOf (L2.CX P w) P w K mg base N20 "_law_shares" (defScope st20) f cdv A outer s H E).A (cxOf (L2.CX P w) P w K mg base N20 "_law_shares" (defScope st20) f cdv A outer s H E).env (cxOf (L2.CX P w) P w K mg base N20 "_law_shares" (defScope st20) f cdv A outer s H E).xe) (hc : Cst mg) :
    PSs (cxOf (L2.CX P w) P w K mg base N20 "_law_shares" (defScope st20) f cdv A outer s H E) (defBody st20) (tSs K fa sp tb C (fun cls d _ H => E cls d H) b20) :=
  s_cons (s_set h (d_sum h (d_cons (pv 1) (d_nil)))) (s_cons (s_setLc h [("one", 7)] (d_seq (pv 1)) (blkOk_by (N := N20) (sc := defScope st20) (by decide +kernel)) (fun _ _ _ _ _ => d_gn h.blk) (fun _ _ _ _ _ => d_tn) (fun _ _ _ _ _ => d_div (d_mul (pv 0) (pv 7)) (pv 2)) (sw_true rfl rfl rfl (by decide +kernel))) (s_cons (s_setLc h [("k", 6)] (d_r1 h (d_len h (d_cons (pv 1) (d_nil)))) (blkOk_by (N := N20) (sc := defScope st20) (by decide +kernel)) (fun _ _ _ _ _ => d_gn h.blk) (fun _ _ _ _ _ => d_tn) (fun _ _ _ _ _ => d_tup (d_cons (d_sub (d_mul (d_div (d_mul (pv 0) (d_ix (pv 1) (pv 6))) (pv 2)) (pv 2)) (d_mul (pv 0) (d_ix (pv 1) (pv 6)))) (d_cons (pv 6) (d_nil)))) (sw_true rfl rfl rfl (by decide +kernel))) (s_cons (s_for h hp (d_seq (d_sl (d_sorted h (d_cons (pv 4) (d_nil))) (d_on) (d_os (d_sub (pv 0) (d_sum h (d_cons (pv 3) (d_nil))))))) (d_gt h (d_gs (d_gn h) (d_gs (d_gn h) (d_gs0)))) (s_cons (s_setL (pv 6) (d_add (d_ix (pv 3) (pv 6)) (d_int))) (s_nil))) (s_cons (s_ret (d_tuplef h (d_cons (pv 3) (d_nil)))) (s_nil)))))
theorem ok20 {fd : FuncData} (F : Fun K "_law_shares" "_law_shares" st20 (fa 20) fd) (T : Tbl P w K mg base (k + 2) fa (spC K fa C (callF prog k)) tb nm pn) (re : ErrOk P w K mg base C) (bt : Bt mg) (hc : Cst mg) : FnOk P w K mg base (L2.CX P w) (k + 3) (fa 20) fd ps20 (spC K fa C (callF prog (k + 1)) 20) :=
  F.okX sc20 (fun vs H Q E z => len_ok (q := ⟨2, 8, b20⟩) rfl z) fun cdv A outer s H vs Q E hr z => ⟨_, der20 ⟨rfl, hr, sc20.nd, T, bt⟩ re (takes_of rfl rfl rfl rfl) (passes_of rfl) hc, body_ok (q := ⟨2, 8, b20⟩) rfl rfl (fun _ => re.te) (fun _ _ _ _ => prog_tb) z⟩
theorem sc21 : FnScope N21 ps21 (defScope st21) := ⟨rfl, rfl, rfl, by decide +kernel, rfl, by decide +kernel, by decide +kernel⟩
theorem der21 {sp : Nat → Sp} {f : Addr} {cdv : Value} {A : Around} {outer : List Env} {s : Shared} {H : Hp} {E : XK} (h : Okx (cxOf (L2.CX P w) P w K mg base N21 "_law_tax" (defScope st21) f cdv A outer s H E) (k + 2) fa sp tb nm pn) (re : ErrOk P w K mg base C) (tk : Takes (cxOf (L2.CX P w) P w K mg base N21 "_law_tax" (defScope st21) f cdv A outer s H E) (fun cls d _ H => E cls d H)) (hp : PassesOwn (model (cxOf (L2.CX P w) P w K mg base N21 "_law_tax" (defScope st21) f cdv A outer s H E).prog (cxOf (L2.CX P w) P w K mg base N21 "_law_tax" (defScope st21) f cdv A outer s H E).w) (cxOf (L2.CX P w) P w K mg base N21 "_law_tax" (defScope st21) f cdv A outer s H E).A (cxOf (L2.CX P w) P w K mg base N21 "_law_tax" (defScope st21) f cdv A outer s H E).env (cxOf (L2.CX P w) P w K mg base N21 "_law_tax" (defScope st21) f cdv A outer s H E).xe) (hc : Cst mg) :
    PSs (cxOf (L2.CX P w) P w K mg base N21 "_law_tax" (defScope st21) f cdv A outer s H E) (defBody st21) (tSs K fa sp tb C (fun cls d _ H => E cls d H) b21) :=
  s_cons (s_ret (d_div (d_add (d_mul (pv 0) (pv 1)) (d_int)) (d_int))) (s_nil)
theorem ok21 {fd : FuncData} (F : Fun K "_law_tax" "_law_tax" st21 (fa 21) fd) (T : Tbl P w K mg base (k + 2) fa (spC K fa C (callF prog k)) tb nm pn) (re : ErrOk P w K mg base C) (bt : Bt mg) (hc : Cst mg) : FnOk P w K mg base (L2.CX P w) (k + 3) (fa 21) fd ps21 (spC K fa C (callF prog (k + 1)) 21) :=
  F.okX sc21 (fun vs H Q E z => len_ok (q := ⟨2, 2, b21⟩) rfl z) fun cdv A outer s H vs Q E hr z => ⟨_, der21 ⟨rfl, hr, sc21.nd, T, bt⟩ re (takes_of rfl rfl rfl rfl) (passes_of rfl) hc, body_ok (q := ⟨2, 2, b21⟩) rfl rfl (fun _ => re.te) (fun _ _ _ _ => prog_tb) z⟩
theorem sc22 : FnScope N22 ps22 (defScope st22) := ⟨rfl, rfl, rfl, by decide +kernel, rfl, by decide +kernel, by decide +kernel⟩
theorem der22 {sp : Nat → Sp} {f : Addr} {cdv : Value} {A : Around} {outer : List Env} {s : Shared} {H : Hp} {E : XK} (h : Okx (cxOf (L2.CX P w) P w K mg base N22 "_law_told" (defScope st22) f cdv A outer s H E) (k + 2) fa sp tb nm pn) (re : ErrOk P w K mg base C) (tk : Takes (cxOf (L2.CX P w) P w K mg base N22 "_law_told" (defScope st22) f cdv A outer s H E) (fun cls d _ H => E cls d H)) (hp : PassesOwn (model (cxOf (L2.CX P w) P w K mg base N22 "_law_told" (defScope st22) f cdv A outer s H E).prog (cxOf (L2.CX P w) P w K mg base N22 "_law_told" (defScope st22) f cdv A outer s H E).w) (cxOf (L2.CX P w) P w K mg base N22 "_law_told" (defScope st22) f cdv A outer s H E).A (cxOf (L2.CX P w) P w K mg base N22 "_law_told" (defScope st22) f cdv A outer s H E).env (cxOf (L2.CX P w) P w K mg base N22 "_law_told" (defScope st22) f cdv A outer s H E).xe) (hc : Cst mg) :
    PSs (cxOf (L2.CX P w) P w K mg base N22 "_law_told" (defScope st22) f cdv A outer s H E) (defBody st22) (tSs K fa sp tb C (fun cls d _ H => E cls d H) b22) :=
  s_cons (s_tryR h re (fun _ _ _ tw => x_ite (d_tcmp h.tr .eq (pv 0) (d_int)) (x_callK h.tr tw 8 (by decide) (k_cons (pv 1) (k_cons (pv 2) (k_nil)))) (x_callK h.tr tw 10 (by decide) (k_cons (pv 1) (k_cons (pv 2) (k_nil)))))) (s_nil)
theorem ok22 {fd : FuncData} (F : Fun K "_law_told" "_law_told" st22 (fa 22) fd) (T : Tbl P w K mg base (k + 2) fa (spC K fa C (callF prog k)) tb nm pn) (re : ErrOk P w K mg base C) (bt : Bt mg) (hc : Cst mg) : FnOk P w K mg base (L2.CX P w) (k + 3) (fa 22) fd ps22 (spC K fa C (callF prog (k + 1)) 22) :=
  F.okX sc22 (fun vs H Q E z => len_ok (q := ⟨3, 4, b22⟩) rfl z) fun cdv A outer s H vs Q E hr z => ⟨_, der22 ⟨rfl, hr, sc22.nd, T, bt⟩ re (takes_of rfl rfl rfl rfl) (passes_of rfl) hc, body_ok (q := ⟨3, 4, b22⟩) rfl rfl (fun _ => re.te) (fun _ _ _ _ => prog_tb) z⟩
theorem sc23 : FnScope N23 ps23 (defScope st23) := ⟨rfl, rfl, rfl, by decide +kernel, rfl, by decide +kernel, by decide +kernel⟩
theorem der23 {sp : Nat → Sp} {f : Addr} {cdv : Value} {A : Around} {outer : List Env} {s : Shared} {H : Hp} {E : XK} (h : Okx (cxOf (L2.CX P w) P w K mg base N23 "law" (defScope st23) f cdv A outer s H E) (k + 2) fa sp tb nm pn) (re : ErrOk P w K mg base C) (tk : Takes (cxOf (L2.CX P w) P w K mg base N23 "law" (defScope st23) f cdv A outer s H E) (fun cls d _ H => E cls d H)) (hp : PassesOwn (model (cxOf (L2.CX P w) P w K mg base N23 "law" (defScope st23) f cdv A outer s H E).prog (cxOf (L2.CX P w) P w K mg base N23 "law" (defScope st23) f cdv A outer s H E).w) (cxOf (L2.CX P w) P w K mg base N23 "law" (defScope st23) f cdv A outer s H E).A (cxOf (L2.CX P w) P w K mg base N23 "law" (defScope st23) f cdv A outer s H E).env (cxOf (L2.CX P w) P w K mg base N23 "law" (defScope st23) f cdv A outer s H E).xe) (hc : Cst mg) :
    PSs (cxOf (L2.CX P w) P w K mg base N23 "law" (defScope st23) f cdv A outer s H E) (defBody st23) (tSs K fa sp tb C (fun cls d _ H => E cls d H) b23) :=
  s_cons (s_set h (d_call h 12 (by decide) (d_cons (pv 0) (d_nil)))) (s_cons (s_newL h (d_cons (d_int) (d_nil))) (s_cons (s_for h hp (d_r1 h (d_int)) (d_gn h) (s_cons (s_set h (d_call h 19 (by decide) (d_cons (pv 1) (d_cons (pv 2) (d_cons (d_lst (d_cons (d_int) (d_cons (d_int) (d_cons (d_int) (d_nil))))) (d_nil)))))) (s_cons (s_set h (d_add (d_int) (d_call h 14 (by decide) (d_cons (pv 1) (d_cons (pv 2) (d_cons (d_ix (d_lst (d_cons (d_int) (d_cons (d_int) (d_nil)))) (d_call h 14 (by decide) (d_cons (pv 1) (d_cons (pv 2) (d_cons (d_int) (d_nil)))))) (d_nil))))))) (s_cons (s_setLc h [("k", 14)] (d_r1 h (pv 5)) (blkOk_by (N := N23) (sc := defScope st23) (by decide +kernel)) (fun _ _ _ _ _ => d_gn h.blk) (fun _ _ _ _ _ => d_tn) (fun _ _ _ _ _ => d_mul (d_call h.blk 14 (by decide) (d_cons (pv 1) (d_cons (pv 2) (d_cons (pv 4) (d_nil))))) (d_call h.blk 19 (by decide) (d_cons (pv 1) (d_cons (pv 2) (d_cons (d_lst (d_cons (d_int) (d_cons (d_int) (d_cons (d_pow (d_int) (d_int)) (d_nil))))) (d_nil)))))) (sw_true rfl rfl rfl (by decide +kernel))) (s_cons (s_if (d_tcmp h .eq (d_sum h (d_cons (pv 6) (d_nil))) (d_int)) (s_cons (s_setL (d_int) (d_int)) (s_nil)) (s_nil)) (s_cons (s_set h (d_min2 h (d_cons (d_pow (d_int) (d_int)) (d_cons (d_add (d_mul (d_call h 15 (by decide) (d_cons (pv 1) (d_cons (pv 2) (d_cons (d_pow (d_int) (d_int)) (d_nil))))) (d_pow (d_int) (d_int))) (d_call h 15 (by decide) (d_cons (pv 1) (d_cons (pv 2) (d_cons (d_pow (d_int) (d_int)) (d_nil)))))) (d_nil))))) (s_cons (s_set h (d_call h 19 (by decide) (d_cons (pv 1) (d_cons (pv 2) (d_cons (d_lst (d_cons (d_int) (d_cons (d_int) (d_cons (d_call h 14 (by decide) (d_cons (pv 1) (d_cons (pv 2) (d_cons (d_int) (d_nil))))) (d_cons (pv 7) (d_cons (pv 7) (d_cons (d_pow (d_int) (d_int)) (d_nil)))))))) (d_nil)))))) (s_cons (s_set h (d_call h 22 (by decide) (d_cons (d_int) (d_cons (pv 8) (d_cons (d_call h 18 (by decide) (d_cons (pv 1) (d_cons (pv 2) (d_cons (d_tuplef h (d_cons (pv 6) (d_nil))) (d_nil))))) (d_nil)))))) (s_cons (s_if (d_w (d_wor (d_tnot (d_val (d_call h 11 (by decide) (d_cons (pv 9) (d_cons (d_call h 20 (by decide) (d_cons (pv 8) (d_cons (d_fz (pv 6)) (d_nil)))) (d_nil)))))) (d_wor1 (d_tcmp h .ne (d_sum h (d_cons (pv 9) (d_nil))) (pv 8))))) (s_cons (s_ret (d_bl)) (s_nil)) (s_nil)) (s_cons (s_set h (d_call h 19 (by decide) (d_cons (pv 1) (d_cons (pv 2) (d_cons (d_lst (d_cons (d_int) (d_cons (d_int) (d_cons (d_int) (d_cons (d_int) (d_cons (d_call h 14 (by decide) (d_cons (pv 1) (d_cons (pv 2) (d_cons (d_int) (d_nil))))) (d_nil))))))) (d_nil)))))) (s_cons (s_if (d_tnot (d_val (d_call h 11 (by decide) (d_cons (d_call h 22 (by decide) (d_cons (d_int) (d_cons (pv 8) (d_cons (pv 10) (d_nil))))) (d_cons (d_call h 21 (by decide) (d_cons (pv 8) (d_cons (pv 10) (d_nil)))) (d_nil)))))) (s_cons (s_ret (d_bl)) (s_nil)) (s_nil)) (s_nil)))))))))))) (s_cons (s_set h (d_call h 19 (by decide) (d_cons (pv 1) (d_cons (pv 2) (d_cons (d_lst (d_cons (d_non) (d_cons (d_neg (d_int)) (d_cons (d_add (d_pow (d_int) (d_int)) (d_int)) (d_cons (d_str) (d_cons (d_bl) (d_nil))))))) (d_nil)))))) (s_cons (s_set h (d_call h 19 (by decide) (d_cons (pv 1) (d_cons (pv 2) (d_cons (d_lst (d_cons (d_non) (d_cons (d_tup (d_nil)) (d_cons (d_tup (d_cons (d_int) (d_nil))) (d_cons (d_tup (d_cons (d_int) (d_cons (d_int) (d_nil)))) (d_cons (d_tup (d_cons (d_neg (d_int)) (d_cons (d_int) (d_nil)))) (d_cons (d_tup (d_cons (d_bl) (d_nil))) (d_cons (d_tup (d_cons (d_add (d_pow (d_int) (d_int)) (d_int)) (d_nil))) (d_cons (d_mul (d_tup (d_cons (d_int) (d_nil))) (d_int)) (d_cons (d_int) (d_cons (d_str) (d_nil)))))))))))) (d_nil)))))) (s_cons (s_if (d_w (d_wor (d_tnot (d_val (d_call h 11 (by decide) (d_cons (d_call h 22 (by decide) (d_cons (d_int) (d_cons (pv 11) (d_cons (pv 12) (d_nil))))) (d_cons (d_tup (d_cons (d_str) (d_cons (d_int) (d_nil)))) (d_nil)))))) (d_wor1 (d_tnot (d_val (d_call h 11 (by decide) (d_cons (d_call h 22 (by decide) (d_cons (d_int) (d_cons (d_int) (d_cons (pv 12) (d_nil))))) (d_cons (d_tup (d_cons (d_str) (d_cons (d_int) (d_nil)))) (d_nil))))))))) (s_cons (s_ret (d_bl)) (s_nil)) (s_nil)) (s_cons (s_set h (d_call h 19 (by decide) (d_cons (pv 1) (d_cons (pv 2) (d_cons (d_lst (d_cons (d_non) (d_cons (d_neg (d_int)) (d_cons (d_int) (d_cons (d_bl) (d_nil)))))) (d_nil)))))) (s_cons (s_ret (d_and (d_call h 11 (by decide) (d_cons (d_call h 22 (by decide) (d_cons (d_int) (d_cons (pv 11) (d_cons (pv 13) (d_nil))))) (d_cons (d_tup (d_cons (d_str) (d_cons (d_int) (d_nil)))) (d_nil)))) (d_one (d_call h 11 (by decide) (d_cons (d_call h 22 (by decide) (d_cons (d_int) (d_cons (d_int) (d_cons (pv 13) (d_nil))))) (d_cons (d_tup (d_cons (d_str) (d_cons (d_int) (d_nil)))) (d_nil))))))) (s_nil))))))))
theorem ok23 {fd : FuncData} (F : Fun K "law" "law" st23 (fa 23) fd) (T : Tbl P w K mg base (k + 2) fa (spC K fa C (callF prog k)) tb nm pn) (re : ErrOk P w K mg base C) (bt : Bt mg) (hc : Cst mg) : FnOk P w K mg base (L2.CX P w) (k + 3) (fa 23) fd ps23 (spC K fa C (callF prog (k + 1)) 23) :=
  F.okX sc23 (fun vs H Q E z => len_ok (q := ⟨1, 15, b23⟩) rfl z) fun cdv A outer s H vs Q E hr z => ⟨_, der23 ⟨rfl, hr, sc23.nd, T, bt⟩ re (takes_of rfl rfl rfl rfl) (passes_of rfl) hc, body_ok (q := ⟨1, 15, b23⟩) rfl rfl (fun _ => re.te) (fun _ _ _ _ => prog_tb) z⟩
end
section
variable {P : Program} {w : World} {K : PySem.W.Frag} {mg : Str → Option Value} {base : Heap} {fa : FA} {C : Addr}
theorem lev (re : ErrOk P w K mg base C) (bt : Bt mg) (hc : Cst mg) (eP : fa.P = P) (ew : fa.w = w) {fd0 : FuncData} (F0 : Fun K "need" "need" st0 (fa 0) fd0) (m0 : mg "need" = some (.ref (fa 0))) {fd1 : FuncData} (F1 : Fun K "is_integer" "is_integer" st1 (fa 1) fd1) (m1 : mg "is_integer" = some (.ref (fa 1))) {fd2 : FuncData} (F2 : Fun K "is_within" "is_within" st2 (fa 2) fd2) (m2 : mg "is_within" = some (.ref (fa 2))) {fd3 : FuncData} (F3 : Fun K "is_rows" "is_rows" st3 (fa 3) fd3) (m3 : mg "is_rows" = some (.ref (fa 3))) {fd4 : FuncData} (F4 : Fun K "is_rows_of" "is_rows_of" st4 (fa 4) fd4) (m4 : mg "is_rows_of" = some (.ref (fa 4))) {fd5 : FuncData} (F5 : Fun K "is_weight" "is_weight" st5 (fa 5) fd5) (m5 : mg "is_weight" = some (.ref (fa 5))) {fd6 : FuncData} (F6 : Fun K "is_weights" "is_weights" st6 (fa 6) fd6) (m6 : mg "is_weights" = some (.ref (fa 6))) {fd7 : FuncData} {cd7 : Value} (F7 : FunC K "shares_of" "shares_of" st7 (fa 7) fd7 cd7) (m7 : mg "shares_of" = some (.ref (fa 7))) {fd8 : FuncData} (F8 : Fun K "shares" "shares" st8 (fa 8) fd8) (m8 : mg "shares" = some (.ref (fa 8))) {fd9 : FuncData} (F9 : Fun K "tax_of" "tax_of" st9 (fa 9) fd9) (m9 : mg "tax_of" = some (.ref (fa 9))) {fd10 : FuncData} (F10 : Fun K "tax" "tax" st10 (fa 10) fd10) (m10 : mg "tax" = some (.ref (fa 10))) {fd11 : FuncData} (F11 : Fun K "_law_so" "_law_so" st11 (fa 11) fd11) (m11 : mg "_law_so" = some (.ref (fa 11))) {fd12 : FuncData} (F12 : Fun K "_law_numbers" "_law_numbers" st12 (fa 12) fd12) (m12 : mg "_law_numbers" = some (.ref (fa 12))) {fd13 : FuncData} (F13 : Fun K "_law_draw" "_law_draw" st13 (fa 13) fd13) (m13 : mg "_law_draw" = some (.ref (fa 13))) {fd14 : FuncData} (F14 : Fun K "_law_take" "_law_take" st14 (fa 14) fd14) (m14 : mg "_law_take" = some (.ref (fa 14))) {fd15 : FuncData} (F15 : Fun K "_law_wide" "_law_wide" st15 (fa 15) fd15) (m15 : mg "_law_wide" = some (.ref (fa 15))) {fd16 : FuncData} (F16 : Fun K "_law_listed" "_law_listed" st16 (fa 16) fd16) (m16 : mg "_law_listed" = some (.ref (fa 16))) {fd17 : FuncData} (F17 : Fun K "_law_either" "_law_either" st17 (fa 17) fd17) (m17 : mg "_law_either" = some (.ref (fa 17))) {fd18 : FuncData} (F18 : Fun K "_law_handed" "_law_handed" st18 (fa 18) fd18) (m18 : mg "_law_handed" = some (.ref (fa 18))) {fd19 : FuncData} (F19 : Fun K "_law_pick" "_law_pick" st19 (fa 19) fd19) (m19 : mg "_law_pick" = some (.ref (fa 19))) {fd20 : FuncData} (F20 : Fun K "_law_shares" "_law_shares" st20 (fa 20) fd20) (m20 : mg "_law_shares" = some (.ref (fa 20))) {fd21 : FuncData} (F21 : Fun K "_law_tax" "_law_tax" st21 (fa 21) fd21) (m21 : mg "_law_tax" = some (.ref (fa 21))) {fd22 : FuncData} (F22 : Fun K "_law_told" "_law_told" st22 (fa 22) fd22) (m22 : mg "_law_told" = some (.ref (fa 22))) {fd23 : FuncData} (F23 : Fun K "law" "law" st23 (fa 23) fd23) (m23 : mg "law" = some (.ref (fa 23))) (B0 : Binds K fd0 ps0 [] ∧ KBd K fd0 ps0) (B1 : Binds K fd1 ps1 [] ∧ KBd K fd1 ps1) (B2 : Binds K fd2 ps2 [] ∧ KBd K fd2 ps2) (B3 : Binds K fd3 ps3 [] ∧ KBd K fd3 ps3) (B4 : Binds K fd4 ps4 [] ∧ KBd K fd4 ps4) (B5 : Binds K fd5 ps5 [] ∧ KBd K fd5 ps5) (B6 : Binds K fd6 ps6 [] ∧ KBd K fd6 ps6) (B7 : Binds K fd7 ps7 [] ∧ KBd K fd7 ps7) (B8 : Binds K fd8 ps8 [] ∧ KBd K fd8 ps8) (B9 : Binds K fd9 ps9 [] ∧ KBd K fd9 ps9) (B10 : Binds K fd10 ps10 [] ∧ KBd K fd10 ps10) (B11 : Binds K fd11 ps11 [] ∧ KBd K fd11 ps11) (B12 : Binds K fd12 ps12 [] ∧ KBd K fd12 ps12) (B13 : Binds K fd13 ps13 [] ∧ KBd K fd13 ps13) (B14 : Binds K fd14 ps14 [] ∧ KBd K fd14 ps14) (B15 : Binds K fd15 ps15 [] ∧ KBd K fd15 ps15) (B16 : Binds K fd16 ps16 [] ∧ KBd K fd16 ps16) (B17 : Binds K fd17 ps17 [] ∧ KBd K fd17 ps17) (B18 : Binds K fd18 ps18 [] ∧ KBd K fd18 ps18) (B19 : Binds K fd19 ps19 [] ∧ KBd K fd19 ps19) (B20 : Binds K fd20 ps20 [] ∧ KBd K fd20 ps20) (B21 : Binds K fd21 ps21 [] ∧ KBd K fd21 ps21) (B22 : Binds K fd22 ps22 [] ∧ KBd K fd22 ps22) (B23 : Binds K fd23 ps23 [] ∧ KBd K fd23 ps23) (L7 : LamOk mg base fa cd7 "shares_of.<locals>.") : ∀ k, Tbl P w K mg base (k + 2) fa (spC K fa C (callF prog k)) tb nm pn := by
  intro k
  induction k with
  | zero =>
    refine ⟨eP, ew, fun f hf => ?_⟩
    match f, hf with
    | 0, _ => exact ⟨fd0, fn_zero, F0.kp, B0.1, m0, B0.2⟩
    | 1, _ => exact ⟨fd1, fn_zero, F1.kp, B1.1, m1, B1.2⟩
    | 2, _ => exact ⟨fd2, fn_zero, F2.kp, B2.1, m2, B2.2⟩
    | 3, _ => exact ⟨fd3, fn_zero, F3.kp, B3.1, m3, B3.2⟩
    | 4, _ => exact ⟨fd4, fn_zero, F4.kp, B4.1, m4, B4.2⟩
    | 5, _ => exact ⟨fd5, fn_zero, F5.kp, B5.1, m5, B5.2⟩
    | 6, _ => exact ⟨fd6, fn_zero, F6.kp, B6.1, m6, B6.2⟩
    | 7, _ => exact ⟨fd7, fn_zero, F7.kp, B7.1, m7, B7.2⟩
    | 8, _ => exact ⟨fd8, fn_zero, F8.kp, B8.1, m8, B8.2⟩
    | 9, _ => exact ⟨fd9, fn_zero, F9.kp, B9.1, m9, B9.2⟩
    | 10, _ => exact ⟨fd10, fn_zero, F10.kp, B10.1, m10, B10.2⟩
    | 11, _ => exact ⟨fd11, fn_zero, F11.kp, B11.1, m11, B11.2⟩
    | 12, _ => exact ⟨fd12, fn_zero, F12.kp, B12.1, m12, B12.2⟩
    | 13, _ => exact ⟨fd13, fn_zero, F13.kp, B13.1, m13, B13.2⟩
    | 14, _ => exact ⟨fd14, fn_zero, F14.kp, B14.1, m14, B14.2⟩
    | 15, _ => exact ⟨fd15, fn_zero, F15.kp, B15.1, m15, B15.2⟩
    | 16, _ => exact ⟨fd16, fn_zero, F16.kp, B16.1, m16, B16.2⟩
    | 17, _ => exact ⟨fd17, fn_zero, F17.kp, B17.1, m17, B17.2⟩
    | 18, _ => exact ⟨fd18, fn_zero, F18.kp, B18.1, m18, B18.2⟩
    | 19, _ => exact ⟨fd19, fn_zero, F19.kp, B19.1, m19, B19.2⟩
    | 20, _ => exact ⟨fd20, fn_zero, F20.kp, B20.1, m20, B20.2⟩
    | 21, _ => exact ⟨fd21, fn_zero, F21.kp, B21.1, m21, B21.2⟩
    | 22, _ => exact ⟨fd22, fn_zero, F22.kp, B22.1, m22, B22.2⟩
    | 23, _ => exact ⟨fd23, fn_zero, F23.kp, B23.1, m23, B23.2⟩
    | n + 24, hf => exact absurd hf (Nat.not_lt.mpr (Nat.le_add_left _ _))
  | succ k T =>
    refine ⟨eP, ew, fun f hf => ?_⟩
    match f, hf with
    | 0, _ => exact ⟨fd0, ok0 F0 T re bt hc, F0.kp, B0.1, m0, B0.2⟩
    | 1, _ => exact ⟨fd1, ok1 F1 T re bt hc, F1.kp, B1.1, m1, B1.2⟩
    | 2, _ => exact ⟨fd2, ok2 F2 T re bt hc, F2.kp, B2.1, m2, B2.2⟩
    | 3, _ => exact ⟨fd3, ok3 F3 T re bt hc, F3.kp, B3.1, m3, B3.2⟩
    | 4, _ => exact ⟨fd4, ok4 F4 T re bt hc, F4.kp, B4.1, m4, B4.2⟩
    | 5, _ => exact ⟨fd5, ok5 F5 T re bt hc, F5.kp, B5.1, m5, B5.2⟩
    | 6, _ => exact ⟨fd6, ok6 F6 T re bt hc, F6.kp, B6.1, m6, B6.2⟩
    | 7, _ => exact ⟨fd7, ok7 F7 L7 T re bt hc, F7.kp, B7.1, m7, B7.2⟩
    | 8, _ => exact ⟨fd8, ok8 F8 T re bt hc, F8.kp, B8.1, m8, B8.2⟩
    | 9, _ => exact ⟨fd9, ok9 F9 T re bt hc, F9.kp, B9.1, m9, B9.2⟩
    | 10, _ => exact ⟨fd10, ok10 F10 T re bt hc, F10.kp, B10.1, m10, B10.2⟩
    | 11, _ => exact ⟨fd11, ok11 F11 T re bt hc, F11.kp, B11.1, m11, B11.2⟩
    | 12, _ => exact ⟨fd12, ok12 F12 T re bt hc, F12.kp, B12.1, m12, B12.2⟩
    | 13, _ => exact ⟨fd13, ok13 F13 T re bt hc, F13.kp, B13.1, m13, B13.2⟩
    | 14, _ => exact ⟨fd14, ok14 F14 T re bt hc, F14.kp, B14.1, m14, B14.2⟩
    | 15, _ => exact ⟨fd15, ok15 F15 T re bt hc, F15.kp, B15.1, m15, B15.2⟩
    | 16, _ => exact ⟨fd16, ok16 F16 T re bt hc, F16.kp, B16.1, m16, B16.2⟩
    | 17, _ => exact ⟨fd17, ok17 F17 T re bt hc, F17.kp, B17.1, m17, B17.2⟩
    | 18, _ => exact ⟨fd18, ok18 F18 T re bt hc, F18.kp, B18.1, m18, B18.2⟩
    | 19, _ => exact ⟨fd19, ok19 F19 T re bt hc, F19.kp, B19.1, m19, B19.2⟩
    | 20, _ => exact ⟨fd20, ok20 F20 T re bt hc, F20.kp, B20.1, m20, B20.2⟩
    | 21, _ => exact ⟨fd21, ok21 F21 T re bt hc, F21.kp, B21.1, m21, B21.2⟩
    | 22, _ => exact ⟨fd22, ok22 F22 T re bt hc, F22.kp, B22.1, m22, B22.2⟩
    | 23, _ => exact ⟨fd23, ok23 F23 T re bt hc, F23.kp, B23.1, m23, B23.2⟩
    | n + 24, hf => exact absurd hf (Nat.not_lt.mpr (Nat.le_add_left _ _))
end
abbrev fas (P : Program) (w : World) (f0 f1 f2 f3 f4 f5 f6 f7 f8 f9 f10 f11 f12 f13 f14 f15 f16 f17 f18 f19 f20 f21 f22 f23 P7 : Addr) : FA := ⟨fun f => [f0, f1, f2, f3, f4, f5, f6, f7, f8, f9, f10, f11, f12, f13, f14, f15, f16, f17, f18, f19, f20, f21, f22, f23].getD f 0, P, w, [(P7, ("shares_of.<locals>." : Str) ++ ("<lambda>" : Str))]⟩
abbrev Meant (lv : Nat) : Prop := ∀ ns : List Int, ns.length ≤ 63 → ∃ S, callF prog lv 23 [.d (.scr ns)] [] = some (.bl true, S)
theorem sp_law {lv : Nat} (M : Meant lv) {K : PySem.W.Frag} {fa : FA} {C : Addr} {H : Hp} {a : Addr} {ns : List Int} (h0 : LamX.Tabs fa.tabs H) (hl : ns.length ≤ 63) (hS : SqL K H a (ns.map V.int)) {Q : VK} {E : XK} (h : ∀ H, Q (.bl true) H) : spC K fa C (callF prog lv) 23 [.ref a] H Q E :=
  spLaw_of h0 (M ns hl) hS h
theorem all_mk {l : PySem.W.OpenLaw} {w : World} {K : PySem.W.Frag} {h : Heap} {mg : Str → Option Value} {fa0 C B fI f0 f1 f2 f3 f4 f5 f6 f7 f8 f9 f10 f11 f12 f13 f14 f15 f16 f17 f18 f19 f20 f21 f22 f23 c_7 P7 : Addr} (X : K.In h) (G : h.Ns mainGlobals mg) (hfa : mg "law" = some (.ref fa0)) {lv : Nat} (M : Meant (lv + 1))
    {od0 an0 od1 an1 od2 an2 od3 an3 od4 an4 od5 an5 od6 an6 od7 an7 od8 an8 od9 an9 od10 an10 od11 an11 od12 an12 od13 an13 od14 an14 od15 an15 od16 an16 od17 an17 od18 an18 od19 an19 od20 an20 od21 an21 od22 an22 od23 an23 odI anI : Option Addr} {sl0 sl1 sl2 sl3 sl4 sl5 sl6 sl7 sl8 sl9 sl10 sl11 sl12 sl13 sl14 sl15 sl16 sl17 sl18 sl19 sl20 sl21 sl22 sl23 slI : Array (Option Value)} {oc0 kV0 dc0 pm0 cd0 ct0 oc1 kV1 dc1 pm1 cd1 ct1 oc2 kV2 dc2 pm2 cd2 ct2 oc3 kV3 dc3 pm3 cd3 ct3 oc4 kV4 dc4 pm4 cd4 ct4 oc5 kV5 dc5 pm5 cd5 ct5 oc6 kV6 dc6 pm6 cd6 ct6 oc7 kV7 dc7 pm7 ct7 oc8 kV8 dc8 pm8 cd8 ct8 oc9 kV9 dc9 pm9 cd9 ct9 oc10 kV10 dc10 pm10 cd10 ct10 oc11 kV11 dc11 pm11 cd11 ct11 oc12 kV12 dc12 pm12 cd12 ct12 oc13 kV13 dc13 pm13 cd13 ct13 oc14 kV14 dc14 pm14 cd14 ct14 oc15 kV15 dc15 pm15 cd15 ct15 oc16 kV16 dc16 pm16 cd16 ct16 oc17 kV17 dc17 pm17 cd17 ct17 oc18 kV18 dc18 pm18 cd18 ct18 oc19 kV19 dc19 pm19 cd19 ct19 oc20 kV20 dc20 pm20 cd20 ct20 oc21 kV21 dc21 pm21 cd21 ct21 oc22 kV22 dc22 pm22 cd22 ct22 oc23 kV23 dc23 pm23 cd23 ct23 ocI kVI dcI pmI cdI ctI : Value} {t_MOST_WHOLE : Tok}
    {nmE qE : Str} {NE : Addr} {bsE : List Value} {snE : List Str} {subE : List Value} {abE : Bool} {colE : Option Bool} {ddE : Option Addr} {mE0 mE1 mE2 mE3 mE5 : Option Value}
    (a0 : PySem.W.nsIn K mainGlobals "need" = some (some (.ref f0))) (l0 : K.lookup f0 = some ⟨oc0, od0, .func (PySem.W.fnOf "need" "need" (defArgs st0) (defBody st0) (defScope st0) .none kV0 dc0 pm0 an0 cd0 ct0), sl0⟩) (c0 : PySem.W.codeIn K cd0 "need" = true) (k0 : PySem.W.keepIn K (.ref f0) = true)
    (a1 : PySem.W.nsIn K mainGlobals "is_integer" = some (some (.ref f1))) (l1 : K.lookup f1 = some ⟨oc1, od1, .func (PySem.W.fnOf "is_integer" "is_integer" (defArgs st1) (defBody st1) (defScope st1) .none kV1 dc1 pm1 an1 cd1 ct1), sl1⟩) (c1 : PySem.W.codeIn K cd1 "is_integer" = true) (k1 : PySem.W.keepIn K (.ref f1) = true)
    (a2 : PySem.W.nsIn K mainGlobals "is_within" = some (some (.ref f2))) (l2 : K.lookup f2 = some ⟨oc2, od2, .func (PySem.W.fnOf "is_within" "is_within" (defArgs st2) (defBody st2) (defScope st2) .none kV2 dc2 pm2 an2 cd2 ct2), sl2⟩) (c2 : PySem.W.codeIn K cd2 "is_within" = true) (k2 : PySem.W.keepIn K (.ref f2) = true)
    (a3 : PySem.W.nsIn K mainGlobals "is_rows" = some (some (.ref f3))) (l3 : K.lookup f3 = some ⟨oc3, od3, .func (PySem.W.fnOf "is_rows" "is_rows" (defArgs st3) (defBody st3) (defScope st3) .none kV3 dc3 pm3 an3 cd3 ct3), sl3⟩) (c3 : PySem.W.codeIn K cd3 "is_rows" = true) (k3 : PySem.W.keepIn K (.ref f3) = true)
    (a4 : PySem.W.nsIn K mainGlobals "is_rows_of" = some (some (.ref f4))) (l4 : K.lookup f4 = some ⟨oc4, od4, .func (PySem.W.fnOf "is_rows_of" "is_rows_of" (defArgs st4) (defBody st4) (defScope st4) .none kV4 dc4 pm4 an4 cd4 ct4), sl4⟩) (c4 : PySem.W.codeIn K cd4 "is_rows_of" = true) (k4 : PySem.W.keepIn K (.ref f4) = true)
    (a5 : PySem.W.nsIn K mainGlobals "is_weight" = some (some (.ref f5))) (l5 : K.lookup f5 = some ⟨oc5, od5, .func (PySem.W.fnOf "is_weight" "is_weight" (defArgs st5) (defBody st5) (defScope st5) .none kV5 dc5 pm5 an5 cd5 ct5), sl5⟩) (c5 : PySem.W.codeIn K cd5 "is_weight" = true) (k5 : PySem.W.keepIn K (.ref f5) = true)
    (a6 : PySem.W.nsIn K mainGlobals "is_weights" = some (some (.ref f6))) (l6 : K.lookup f6 = some ⟨oc6, od6, .func (PySem.W.fnOf "is_weights" "is_weights" (defArgs st6) (defBody st6) (defScope st6) .none kV6 dc6 pm6 an6 cd6 ct6), sl6⟩) (c6 : PySem.W.codeIn K cd6 "is_weights" = true) (k6 : PySem.W.keepIn K (.ref f6) = true)
    (a7 : PySem.W.nsIn K mainGlobals "shares_of" = some (some (.ref f7))) (l7 : K.lookup f7 = some ⟨oc7, od7, .func (PySem.W.fnOf "shares_of" "shares_of" (defArgs st7) (defBody st7) (defScope st7) .none kV7 dc7 pm7 an7 (.ref c_7) ct7), sl7⟩) (c7 : PySem.W.codeIn K (.ref c_7) "shares_of" = true) (k7 : PySem.W.keepIn K (.ref f7) = true)
    (a8 : PySem.W.nsIn K mainGlobals "shares" = some (some (.ref f8))) (l8 : K.lookup f8 = some ⟨oc8, od8, .func (PySem.W.fnOf "shares" "shares" (defArgs st8) (defBody st8) (defScope st8) .none kV8 dc8 pm8 an8 cd8 ct8), sl8⟩) (c8 : PySem.W.codeIn K cd8 "shares" = true) (k8 : PySem.W.keepIn K (.ref f8) = true)
    (a9 : PySem.W.nsIn K mainGlobals "tax_of" = some (some (.ref f9))) (l9 : K.lookup f9 = some ⟨oc9, od9, .func (PySem.W.fnOf "tax_of" "tax_of" (defArgs st9) (defBody st9) (defScope st9) .none kV9 dc9 pm9 an9 cd9 ct9), sl9⟩) (c9 : PySem.W.codeIn K cd9 "tax_of" = true) (k9 : PySem.W.keepIn K (.ref f9) = true)
    (a10 : PySem.W.nsIn K mainGlobals "tax" = some (some (.ref f10))) (l10 : K.lookup f10 = some ⟨oc10, od10, .func (PySem.W.fnOf "tax" "tax" (defArgs st10) (defBody st10) (defScope st10) .none kV10 dc10 pm10 an10 cd10 ct10), sl10⟩) (c10 : PySem.W.codeIn K cd10 "tax" = true) (k10 : PySem.W.keepIn K (.ref f10) = true)
    (a11 : PySem.W.nsIn K mainGlobals "_law_so" = some (some (.ref f11))) (l11 : K.lookup f11 = some ⟨oc11, od11, .func (PySem.W.fnOf "_law_so" "_law_so" (defArgs st11) (defBody st11) (defScope st11) .none kV11 dc11 pm11 an11 cd11 ct11), sl11⟩) (c11 : PySem.W.codeIn K cd11 "_law_so" = true) (k11 : PySem.W.keepIn K (.ref f11) = true)
    (a12 : PySem.W.nsIn K mainGlobals "_law_numbers" = some (some (.ref f12))) (l12 : K.lookup f12 = some ⟨oc12, od12, .func (PySem.W.fnOf "_law_numbers" "_law_numbers" (defArgs st12) (defBody st12) (defScope st12) .none kV12 dc12 pm12 an12 cd12 ct12), sl12⟩) (c12 : PySem.W.codeIn K cd12 "_law_numbers" = true) (k12 : PySem.W.keepIn K (.ref f12) = true)
    (a13 : PySem.W.nsIn K mainGlobals "_law_draw" = some (some (.ref f13))) (l13 : K.lookup f13 = some ⟨oc13, od13, .func (PySem.W.fnOf "_law_draw" "_law_draw" (defArgs st13) (defBody st13) (defScope st13) .none kV13 dc13 pm13 an13 cd13 ct13), sl13⟩) (c13 : PySem.W.codeIn K cd13 "_law_draw" = true) (k13 : PySem.W.keepIn K (.ref f13) = true)
    (a14 : PySem.W.nsIn K mainGlobals "_law_take" = some (some (.ref f14))) (l14 : K.lookup f14 = some ⟨oc14, od14, .func (PySem.W.fnOf "_law_take" "_law_take" (defArgs st14) (defBody st14) (defScope st14) .none kV14 dc14 pm14 an14 cd14 ct14), sl14⟩) (c14 : PySem.W.codeIn K cd14 "_law_take" = true) (k14 : PySem.W.keepIn K (.ref f14) = true)
    (a15 : PySem.W.nsIn K mainGlobals "_law_wide" = some (some (.ref f15))) (l15 : K.lookup f15 = some ⟨oc15, od15, .func (PySem.W.fnOf "_law_wide" "_law_wide" (defArgs st15) (defBody st15) (defScope st15) .none kV15 dc15 pm15 an15 cd15 ct15), sl15⟩) (c15 : PySem.W.codeIn K cd15 "_law_wide" = true) (k15 : PySem.W.keepIn K (.ref f15) = true)
    (a16 : PySem.W.nsIn K mainGlobals "_law_listed" = some (some (.ref f16))) (l16 : K.lookup f16 = some ⟨oc16, od16, .func (PySem.W.fnOf "_law_listed" "_law_listed" (defArgs st16) (defBody st16) (defScope st16) .none kV16 dc16 pm16 an16 cd16 ct16), sl16⟩) (c16 : PySem.W.codeIn K cd16 "_law_listed" = true) (k16 : PySem.W.keepIn K (.ref f16) = true)
    (a17 : PySem.W.nsIn K mainGlobals "_law_either" = some (some (.ref f17))) (l17 : K.lookup f17 = some ⟨oc17, od17, .func (PySem.W.fnOf "_law_either" "_law_either" (defArgs st17) (defBody st17) (defScope st17) .none kV17 dc17 pm17 an17 cd17 ct17), sl17⟩) (c17 : PySem.W.codeIn K cd17 "_law_either" = true) (k17 : PySem.W.keepIn K (.ref f17) = true)
    (a18 : PySem.W.nsIn K mainGlobals "_law_handed" = some (some (.ref f18))) (l18 : K.lookup f18 = some ⟨oc18, od18, .func (PySem.W.fnOf "_law_handed" "_law_handed" (defArgs st18) (defBody st18) (defScope st18) .none kV18 dc18 pm18 an18 cd18 ct18), sl18⟩) (c18 : PySem.W.codeIn K cd18 "_law_handed" = true) (k18 : PySem.W.keepIn K (.ref f18) = true)
    (a19 : PySem.W.nsIn K mainGlobals "_law_pick" = some (some (.ref f19))) (l19 : K.lookup f19 = some ⟨oc19, od19, .func (PySem.W.fnOf "_law_pick" "_law_pick" (defArgs st19) (defBody st19) (defScope st19) .none kV19 dc19 pm19 an19 cd19 ct19), sl19⟩) (c19 : PySem.W.codeIn K cd19 "_law_pick" = true) (k19 : PySem.W.keepIn K (.ref f19) = true)
    (a20 : PySem.W.nsIn K mainGlobals "_law_shares" = some (some (.ref f20))) (l20 : K.lookup f20 = some ⟨oc20, od20, .func (PySem.W.fnOf "_law_shares" "_law_shares" (defArgs st20) (defBody st20) (defScope st20) .none kV20 dc20 pm20 an20 cd20 ct20), sl20⟩) (c20 : PySem.W.codeIn K cd20 "_law_shares" = true) (k20 : PySem.W.keepIn K (.ref f20) = true)
    (a21 : PySem.W.nsIn K mainGlobals "_law_tax" = some (some (.ref f21))) (l21 : K.lookup f21 = some ⟨oc21, od21, .func (PySem.W.fnOf "_law_tax" "_law_tax" (defArgs st21) (defBody st21) (defScope st21) .none kV21 dc21 pm21 an21 cd21 ct21), sl21⟩) (c21 : PySem.W.codeIn K cd21 "_law_tax" = true) (k21 : PySem.W.keepIn K (.ref f21) = true)
    (a22 : PySem.W.nsIn K mainGlobals "_law_told" = some (some (.ref f22))) (l22 : K.lookup f22 = some ⟨oc22, od22, .func (PySem.W.fnOf "_law_told" "_law_told" (defArgs st22) (defBody st22) (defScope st22) .none kV22 dc22 pm22 an22 cd22 ct22), sl22⟩) (c22 : PySem.W.codeIn K cd22 "_law_told" = true) (k22 : PySem.W.keepIn K (.ref f22) = true)
    (a23 : PySem.W.nsIn K mainGlobals "law" = some (some (.ref f23))) (l23 : K.lookup f23 = some ⟨oc23, od23, .func (PySem.W.fnOf "law" "law" (defArgs st23) (defBody st23) (defScope st23) .none kV23 dc23 pm23 an23 cd23 ct23), sl23⟩) (c23 : PySem.W.codeIn K cd23 "law" = true) (k23 : PySem.W.keepIn K (.ref f23) = true)
    (z_len : PySem.W.nsIn K mainGlobals "len" = some none)
    (z_int : PySem.W.nsIn K mainGlobals "int" = some none)
    (z_isinstance : PySem.W.nsIn K mainGlobals "isinstance" = some none)
    (z_range : PySem.W.nsIn K mainGlobals "range" = some none)
    (z_all : PySem.W.nsIn K mainGlobals "all" = some none)
    (z_any : PySem.W.nsIn K mainGlobals "any" = some none)
    (z_sum : PySem.W.nsIn K mainGlobals "sum" = some none)
    (z_max : PySem.W.nsIn K mainGlobals "max" = some none)
    (z_min : PySem.W.nsIn K mainGlobals "min" = some none)
    (z_str : PySem.W.nsIn K mainGlobals "str" = some none)
    (z_tuple : PySem.W.nsIn K mainGlobals "tuple" = some none)
    (z_list : PySem.W.nsIn K mainGlobals "list" = some none)
    (z_sorted : PySem.W.nsIn K mainGlobals "sorted" = some none)
    (z_zip : PySem.W.nsIn K mainGlobals "zip" = some none)
    (z_bool : PySem.W.nsIn K mainGlobals "bool" = some none)
    (z_dict : PySem.W.nsIn K mainGlobals "dict" = some none)
    (z_set : PySem.W.nsIn K mainGlobals "set" = some none)
    (n_MOST_WHOLE : PySem.W.nsIn K mainGlobals "MOST_WHOLE" = some (some (.int 1000000000000000 t_MOST_WHOLE)))
    (eC : PySem.W.nsIn K mainGlobals "BadValue" = some (some (.ref C)))
    (eB : PySem.W.nsIn K mainGlobals "SecondError" = some (some (.ref B)))
    (xL : K.lookup C = some (excClassObj nmE qE C NE bsE [.ref B, .type "Exception", .type "BaseException", .type "object"] true snE subE abE colE ddE mE0 mE1 mE2 mE3 mE5 "Exception.__new__"))
    (e_sa : PySem.W.findIn K (.ref C) "__setattr__" = some (some (.builtin "object.__setattr__")))
    (e_ga : PySem.W.findIn K (.ref C) "__getattribute__" = some (some (.builtin "BaseException.__getattribute__")))
    (e_gg : PySem.W.findIn K (.ref C) "__getattr__" = some none)
    (e_nf : PySem.W.findIn K (.ref C) "at" = some none)
    (e_kC : PySem.W.keepIn K (.ref C) = true)
    (e_ex : PySem.W.subIn K (.ref C) (.type "BaseException") = some true)
    (e_ty : PySem.W.typeIn K (.ref C) = some (.type "type"))
    (e_hd : PySem.W.hasDictIn K C = true)
    (e_is : PySem.W.isClsIn K C = true)
    (e_se : PySem.W.subIn K (.ref C) (.ref C) = some true)
    (e_tb : PySem.W.typeIn K (.ref B) = some (.type "type"))
    (e_sp : PySem.W.specialIn K (.ref B) "__getattribute__" = some (some (.builtin "type.__getattribute__")))
    (e_rd : PySem.W.readsIn K B (.type "type") = true)
    (e_fi : PySem.W.findCls K (.ref B) (.type "type") "__init__" = some (.val (.builtin "Exception.__init__")))
    (e_in : PySem.W.findIn K (.ref C) "__init__" = some (some (.ref fI)))
    (e_ti : PySem.W.typeIn K (.ref fI) = some (.type "function"))
    (lI : K.lookup fI = some ⟨ocI, odI, .func (PySem.W.fnOf "__init__" "BadValue.__init__" (defArgs stE) (defBody stE) (defScope stE) .none kVI dcI pmI anI cdI ctI), slI⟩)
    (cI : PySem.W.codeIn K cdI "BadValue.__init__" = true)
    (kI : PySem.W.keepIn K (.ref fI) = true)
    (hP7 : h.get? P7 = some { cls := .none, data := .fields #[] }) (nP7 : K.lookup P7 = none) (hC7 : PySem.W.CodeHd h c_7 P7) :
    LamX.LawAtS l w K CX0 (lv + 3) 63 "script" mg fa0 h := by
  have e := hfa.symm.trans (PySem.W.mg_of X G a23)
  cases e
  have bt : Bt mg := ⟨PySem.W.mg_none_of X G z_len, PySem.W.mg_none_of X G z_int, PySem.W.mg_none_of X G z_isinstance, PySem.W.mg_none_of X G z_range, PySem.W.mg_none_of X G z_all, PySem.W.mg_none_of X G z_any, PySem.W.mg_none_of X G z_sum, PySem.W.mg_none_of X G z_max, PySem.W.mg_none_of X G z_min, PySem.W.mg_none_of X G z_str, PySem.W.mg_none_of X G z_tuple, PySem.W.mg_none_of X G z_list, PySem.W.mg_none_of X G z_sorted, PySem.W.mg_none_of X G z_zip, PySem.W.mg_none_of X G z_bool, PySem.W.mg_none_of X G z_dict, PySem.W.mg_none_of X G z_set⟩
  have hc : Cst mg := ⟨⟨_, PySem.W.mg_of X G n_MOST_WHOLE⟩⟩
  have TE : ErrC K mg "BadValue" "SecondError" "at" C B := ⟨PySem.W.mg_of X G eC, ⟨_, _, _, _, _, _, _, _, _, _, _, _, _, _, xL⟩, e_sa, e_ga, e_gg, e_nf, e_kC, e_ex, e_ty, e_hd, e_is, e_se, PySem.W.mg_of X G eB, e_tb, e_sp, e_rd, e_fi⟩
  have FI := fun_mk (st := stE) lI cI kI
  have BI := FI.binds (ps := ["self", "at"]) fun _ _ _ _ _ _ us hl => match us, hl with | [_, _], _ => rfl
  have F0 := fun_mk (st := st0) l0 c0 k0
  have B0 := And.intro (F0.binds (ps := ps0) fun _ _ _ _ _ _ us hl => match us, hl with | [_, _], _ => rfl) (kbd_of F0 (ps := ps0) fun _ _ _ _ _ _ us hl => match us, hl with | [_, _], _ => rfl)
  have F1 := fun_mk (st := st1) l1 c1 k1
  have B1 := And.intro (F1.binds (ps := ps1) fun _ _ _ _ _ _ us hl => match us, hl with | [_], _ => rfl) (kbd_of F1 (ps := ps1) fun _ _ _ _ _ _ us hl => match us, hl with | [_], _ => rfl)
  have F2 := fun_mk (st := st2) l2 c2 k2
  have B2 := And.intro (F2.binds (ps := ps2) fun _ _ _ _ _ _ us hl => match us, hl with | [_, _, _], _ => rfl) (kbd_of F2 (ps := ps2) fun _ _ _ _ _ _ us hl => match us, hl with | [_, _, _], _ => rfl)
  have F3 := fun_mk (st := st3) l3 c3 k3
  have B3 := And.intro (F3.binds (ps := ps3) fun _ _ _ _ _ _ us hl => match us, hl with | [_, _, _], _ => rfl) (kbd_of F3 (ps := ps3) fun _ _ _ _ _ _ us hl => match us, hl with | [_, _, _], _ => rfl)
  have F4 := fun_mk (st := st4) l4 c4 k4
  have B4 := And.intro (F4.binds (ps := ps4) fun _ _ _ _ _ _ us hl => match us, hl with | [_, _, _, _], _ => rfl) (kbd_of F4 (ps := ps4) fun _ _ _ _ _ _ us hl => match us, hl with | [_, _, _, _], _ => rfl)
  have F5 := fun_mk (st := st5) l5 c5 k5
  have B5 := And.intro (F5.binds (ps := ps5) fun _ _ _ _ _ _ us hl => match us, hl with | [_], _ => rfl) (kbd_of F5 (ps := ps5) fun _ _ _ _ _ _ us hl => match us, hl with | [_], _ => rfl)
  have F6 := fun_mk (st := st6) l6 c6 k6
  have B6 := And.intro (F6.binds (ps := ps6) fun _ _ _ _ _ _ us hl => match us, hl with | [_], _ => rfl) (kbd_of F6 (ps := ps6) fun _ _ _ _ _ _ us hl => match us, hl with | [_], _ => rfl)
  have F7 : FunC K "shares_of" "shares_of" st7 f7 _ (.ref c_7) := ⟨⟨_, _, _, _, _, _, _, _, rfl, l7, c7⟩, k7⟩
  have B7 := And.intro (F7.toFun.binds (ps := ps7) fun _ _ _ _ _ _ us hl => match us, hl with | [_, _], _ => rfl) (kbd_of F7.toFun (ps := ps7) fun _ _ _ _ _ _ us hl => match us, hl with | [_, _], _ => rfl)
  have F8 := fun_mk (st := st8) l8 c8 k8
  have B8 := And.intro (F8.binds (ps := ps8) fun _ _ _ _ _ _ us hl => match us, hl with | [_, _], _ => rfl) (kbd_of F8 (ps := ps8) fun _ _ _ _ _ _ us hl => match us, hl with | [_, _], _ => rfl)
  have F9 := fun_mk (st := st9) l9 c9 k9
  have B9 := And.intro (F9.binds (ps := ps9) fun _ _ _ _ _ _ us hl => match us, hl with | [_, _], _ => rfl) (kbd_of F9 (ps := ps9) fun _ _ _ _ _ _ us hl => match us, hl with | [_, _], _ => rfl)
  have F10 := fun_mk (st := st10) l10 c10 k10
  have B10 := And.intro (F10.binds (ps := ps10) fun _ _ _ _ _ _ us hl => match us, hl with | [_, _], _ => rfl) (kbd_of F10 (ps := ps10) fun _ _ _ _ _ _ us hl => match us, hl with | [_, _], _ => rfl)
  have F11 := fun_mk (st := st11) l11 c11 k11
  have B11 := And.intro (F11.binds (ps := ps11) fun _ _ _ _ _ _ us hl => match us, hl with | [_, _], _ => rfl) (kbd_of F11 (ps := ps11) fun _ _ _ _ _ _ us hl => match us, hl with | [_, _], _ => rfl)
  have F12 := fun_mk (st := st12) l12 c12 k12
  have B12 := And.intro (F12.binds (ps := ps12) fun _ _ _ _ _ _ us hl => match us, hl with | [_], _ => rfl) (kbd_of F12 (ps := ps12) fun _ _ _ _ _ _ us hl => match us, hl with | [_], _ => rfl)
  have F13 := fun_mk (st := st13) l13 c13 k13
  have B13 := And.intro (F13.binds (ps := ps13) fun _ _ _ _ _ _ us hl => match us, hl with | [_, _, _], _ => rfl) (kbd_of F13 (ps := ps13) fun _ _ _ _ _ _ us hl => match us, hl with | [_, _, _], _ => rfl)
  have F14 := fun_mk (st := st14) l14 c14 k14
  have B14 := And.intro (F14.binds (ps := ps14) fun _ _ _ _ _ _ us hl => match us, hl with | [_, _, _], _ => rfl) (kbd_of F14 (ps := ps14) fun _ _ _ _ _ _ us hl => match us, hl with | [_, _, _], _ => rfl)
  have F15 := fun_mk (st := st15) l15 c15 k15
  have B15 := And.intro (F15.binds (ps := ps15) fun _ _ _ _ _ _ us hl => match us, hl with | [_, _, _], _ => rfl) (kbd_of F15 (ps := ps15) fun _ _ _ _ _ _ us hl => match us, hl with | [_, _, _], _ => rfl)
  have F16 := fun_mk (st := st16) l16 c16 k16
  have B16 := And.intro (F16.binds (ps := ps16) fun _ _ _ _ _ _ us hl => match us, hl with | [_], _ => rfl) (kbd_of F16 (ps := ps16) fun _ _ _ _ _ _ us hl => match us, hl with | [_], _ => rfl)
  have F17 := fun_mk (st := st17) l17 c17 k17
  have B17 := And.intro (F17.binds (ps := ps17) fun _ _ _ _ _ _ us hl => match us, hl with | [_, _, _], _ => rfl) (kbd_of F17 (ps := ps17) fun _ _ _ _ _ _ us hl => match us, hl with | [_, _, _], _ => rfl)
  have F18 := fun_mk (st := st18) l18 c18 k18
  have B18 := And.intro (F18.binds (ps := ps18) fun _ _ _ _ _ _ us hl => match us, hl with | [_, _, _], _ => rfl) (kbd_of F18 (ps := ps18) fun _ _ _ _ _ _ us hl => match us, hl with | [_, _, _], _ => rfl)
  have F19 := fun_mk (st := st19) l19 c19 k19
  have B19 := And.intro (F19.binds (ps := ps19) fun _ _ _ _ _ _ us hl => match us, hl with | [_, _, _], _ => rfl) (kbd_of F19 (ps := ps19) fun _ _ _ _ _ _ us hl => match us, hl with | [_, _, _], _ => rfl)
  have F20 := fun_mk (st := st20) l20 c20 k20
  have B20 := And.intro (F20.binds (ps := ps20) fun _ _ _ _ _ _ us hl => match us, hl with | [_, _], _ => rfl) (kbd_of F20 (ps := ps20) fun _ _ _ _ _ _ us hl => match us, hl with | [_, _], _ => rfl)
  have F21 := fun_mk (st := st21) l21 c21 k21
  have B21 := And.intro (F21.binds (ps := ps21) fun _ _ _ _ _ _ us hl => match us, hl with | [_, _], _ => rfl) (kbd_of F21 (ps := ps21) fun _ _ _ _ _ _ us hl => match us, hl with | [_, _], _ => rfl)
  have F22 := fun_mk (st := st22) l22 c22 k22
  have B22 := And.intro (F22.binds (ps := ps22) fun _ _ _ _ _ _ us hl => match us, hl with | [_, _, _], _ => rfl) (kbd_of F22 (ps := ps22) fun _ _ _ _ _ _ us hl => match us, hl with | [_, _, _], _ => rfl)
  have F23 := fun_mk (st := st23) l23 c23 k23
  have B23 := And.intro (F23.binds (ps := ps23) fun _ _ _ _ _ _ us hl => match us, hl with | [_], _ => rfl) (kbd_of F23 (ps := ps23) fun _ _ _ _ _ _ us hl => match us, hl with | [_], _ => rfl)
  refine ⟨PySem.W.fnOf "law" "law" (defArgs st23) (defBody st23) (defScope st23) .none kV23 dc23 pm23 an23 cd23 ct23, [(c_7, P7)], fun vs H Q E => spLawP K vs H Q E ∧ H P7 = some (.tbl #[]), fun p hp => by rw [List.mem_singleton.mp hp]; exact hP7, fun p hp => by rw [List.mem_singleton.mp hp]; exact nP7, fun p hp => by rw [List.mem_singleton.mp hp]; exact hC7, fun s v => .of_eq rfl, fun H a ns hl _ hT hS => ⟨⟨a, ns, rfl, hS, hl, fun _ => rfl⟩, hT _ (.head _)⟩, fun base _ _ hTB => ?_⟩
  have L7 : LamOk mg base (fas l.prog w f0 f1 f2 f3 f4 f5 f6 f7 f8 f9 f10 f11 f12 f13 f14 f15 f16 f17 f18 f19 f20 f21 f22 fa0 P7) (.ref c_7) "shares_of.<locals>." := ⟨⟨c_7, P7, rfl, hTB _ (.head _), .head _, fun p hp _ => by rw [List.mem_singleton.mp hp]⟩⟩
  have re : ErrOk l.prog w K mg base C := ⟨⟨B, fI, _, TE, e_in, e_ti, okE FI TE, BI⟩⟩
  have T : Tbl l.prog w K mg base (lv + 2) (fas l.prog w f0 f1 f2 f3 f4 f5 f6 f7 f8 f9 f10 f11 f12 f13 f14 f15 f16 f17 f18 f19 f20 f21 f22 fa0 P7) (spC K (fas l.prog w f0 f1 f2 f3 f4 f5 f6 f7 f8 f9 f10 f11 f12 f13 f14 f15 f16 f17 f18 f19 f20 f21 f22 fa0 P7) C (callF prog lv)) tb nm pn := lev re bt hc rfl rfl F0 (PySem.W.mg_of X G a0) F1 (PySem.W.mg_of X G a1) F2 (PySem.W.mg_of X G a2) F3 (PySem.W.mg_of X G a3) F4 (PySem.W.mg_of X G a4) F5 (PySem.W.mg_of X G a5) F6 (PySem.W.mg_of X G a6) F7 (PySem.W.mg_of X G a7) F8 (PySem.W.mg_of X G a8) F9 (PySem.W.mg_of X G a9) F10 (PySem.W.mg_of X G a10) F11 (PySem.W.mg_of X G a11) F12 (PySem.W.mg_of X G a12) F13 (PySem.W.mg_of X G a13) F14 (PySem.W.mg_of X G a14) F15 (PySem.W.mg_of X G a15) F16 (PySem.W.mg_of X G a16) F17 (PySem.W.mg_of X G a17) F18 (PySem.W.mg_of X G a18) F19 (PySem.W.mg_of X G a19) F20 (PySem.W.mg_of X G a20) F21 (PySem.W.mg_of X G a21) F22 (PySem.W.mg_of X G a22) F23 (PySem.W.mg_of X G a23) B0 B1 B2 B3 B4 B5 B6 B7 B8 B9 B10 B11 B12 B13 B14 B15 B16 B17 B18 B19 B20 B21 B22 B23 L7 lv
  exact fn_noX ((ok23 F23 T re bt hc).imp fun vs H Q E ⟨⟨a, ns, e, hS, hl, q⟩, hT⟩ => by
    subst e
    exact sp_law M (fun p hp => by rw [List.mem_singleton.mp hp]; exact LamX.TabS.nil hT) hl hS q) fun _ _ _ _ z => z
theorem walk {l : PySem.W.OpenLaw} {q : Program} {loose : List Str} {XP : (Str → Option Value) → Heap → Prop} {YP : World → Heap → Prop} {d : DefRec} {K : Params → PySem.W.Frag} {lv : Nat} (hr : Room (lv + 3) callerA) (hn : l.most = some 63) (hdf : d.params.defaults = [])
    (hY : ∀ (w : World) (h : Heap), YP w h → (K w.params).In h)
    (F : ∀ (w : World) (mg : Str → Option Value) (fa0 : Addr) (h : Heap), YP w h → (K w.params).In h → h.Ns mainGlobals mg → mg d.name = some (.ref fa0) →
      LamX.LawAtS l w (K w.params) CX0 (lv + 3) 63 "script" mg fa0 h) :
    PySem.W.WalkO q loose XP YP l.row.toRowW d [] (fun f vs => PySem.call f vs) :=
  LamX.walk_ofTs (n := 63) (CX := fun _ => CX0) hn (by decide) hdf hr hY F fun _ _ _ _ _ z => z
end Pg

set_option Elab.async false
set_option maxRecDepth 100000
namespace Pg
open Pv
theorem t : T15 prog where
  lx := ⟨rfl, rfl, rfl, rfl, rfl, rfl, rfl, rfl, rfl⟩
  sh := ⟨rfl, rfl, rfl, rfl, rfl, rfl, rfl, rfl, rfl, rfl, rfl⟩
  p20 := rfl
  p21 := rfl
  p22 := rfl
  p23 := rfl
theorem meant : Meant 41 := fun _ _ => law15 t
end Pg

set_option Elab.async false
open PySem PySem.W PyProof.Rows
set_option maxRecDepth 100000 in
set_option maxHeartbeats 0 in
theorem PySem.Challenge.cw_eachsecond_k15_shares_and_taxes_holds : PySem.Challenge.rw_eachsecond_k15_shares_and_taxes.Holds := by
  w_on; o_law; k_head; (case hw => w_witness2)
  k_fill
  refine Pg.walk (l := PySem.Challenge.rw_eachsecond_k15_shares_and_taxes) (lv := 40) ⟨rfl, by decide, by decide⟩ rfl rfl (fun w h Y => PySem.W.km_in_of Y) ?F
  case F =>
    intro w mg fa h Y KX G hmg
    refine' Pg.all_mk KX G hmg Pg.meant ?a0 ?l0 ?c0 ?k0 ?a1 ?l1 ?c1 ?k1 ?a2 ?l2 ?c2 ?k2 ?a3 ?l3 ?c3 ?k3 ?a4 ?l4 ?c4 ?k4 ?a5 ?l5 ?c5 ?k5 ?a6 ?l6 ?c6 ?k6 ?a7 ?l7 ?c7 ?k7 ?a8 ?l8 ?c8 ?k8 ?a9 ?l9 ?c9 ?k9 ?a10 ?l10 ?c10 ?k10 ?a11 ?l11 ?c11 ?k11 ?a12 ?l12 ?c12 ?k12 ?a13 ?l13 ?c13 ?k13 ?a14 ?l14 ?c14 ?k14 ?a15 ?l15 ?c15 ?k15 ?a16 ?l16 ?c16 ?k16 ?a17 ?l17 ?c17 ?k17 ?a18 ?l18 ?c18 ?k18 ?a19 ?l19 ?c19 ?k19 ?a20 ?l20 ?c20 ?k20 ?a21 ?l21 ?c21 ?k21 ?a22 ?l22 ?c22 ?k22 ?a23 ?l23 ?c23 ?k23 ?z_len ?z_int ?z_isinstance ?z_range ?z_all ?z_any ?z_sum ?z_max ?z_min ?z_str ?z_tuple ?z_list ?z_sorted ?z_zip ?z_bool ?z_dict ?z_set ?n_MOST_WHOLE ?eC ?eB ?xL ?e_sa ?e_ga ?e_gg ?e_nf ?e_kC ?e_ex ?e_ty ?e_hd ?e_is ?e_se ?e_tb ?e_sp ?e_rd ?e_fi ?e_in ?e_ti ?lI ?cI ?kI ?hP7 ?nP7 ?hC7
    (case a0 => k_is); (case l0 => k_is); (case c0 => k_is); (case k0 => k_is)
    (case a1 => k_is); (case l1 => k_is); (case c1 => k_is); (case k1 => k_is)
    (case a2 => k_is); (case l2 => k_is); (case c2 => k_is); (case k2 => k_is)
    (case a3 => k_is); (case l3 => k_is); (case c3 => k_is); (case k3 => k_is)
    (case a4 => k_is); (case l4 => k_is); (case c4 => k_is); (case k4 => k_is)
    (case a5 => k_is); (case l5 => k_is); (case c5 => k_is); (case k5 => k_is)
    (case a6 => k_is); (case l6 => k_is); (case c6 => k_is); (case k6 => k_is)
    (case a7 => k_is); (case l7 => k_is); (case c7 => k_is); (case k7 => k_is)
    (case a8 => k_is); (case l8 => k_is); (case c8 => k_is); (case k8 => k_is)
    (case a9 => k_is); (case l9 => k_is); (case c9 => k_is); (case k9 => k_is)
    (case a10 => k_is); (case l10 => k_is); (case c10 => k_is); (case k10 => k_is)
    (case a11 => k_is); (case l11 => k_is); (case c11 => k_is); (case k11 => k_is)
    (case a12 => k_is); (case l12 => k_is); (case c12 => k_is); (case k12 => k_is)
    (case a13 => k_is); (case l13 => k_is); (case c13 => k_is); (case k13 => k_is)
    (case a14 => k_is); (case l14 => k_is); (case c14 => k_is); (case k14 => k_is)
    (case a15 => k_is); (case l15 => k_is); (case c15 => k_is); (case k15 => k_is)
    (case a16 => k_is); (case l16 => k_is); (case c16 => k_is); (case k16 => k_is)
    (case a17 => k_is); (case l17 => k_is); (case c17 => k_is); (case k17 => k_is)
    (case a18 => k_is); (case l18 => k_is); (case c18 => k_is); (case k18 => k_is)
    (case a19 => k_is); (case l19 => k_is); (case c19 => k_is); (case k19 => k_is)
    (case a20 => k_is); (case l20 => k_is); (case c20 => k_is); (case k20 => k_is)
    (case a21 => k_is); (case l21 => k_is); (case c21 => k_is); (case k21 => k_is)
    (case a22 => k_is); (case l22 => k_is); (case c22 => k_is); (case k22 => k_is)
    (case a23 => k_is); (case l23 => k_is); (case c23 => k_is); (case k23 => k_is)
    (case z_len => k_is)
    (case z_int => k_is)
    (case z_isinstance => k_is)
    (case z_range => k_is)
    (case z_all => k_is)
    (case z_any => k_is)
    (case z_sum => k_is)
    (case z_max => k_is)
    (case z_min => k_is)
    (case z_str => k_is)
    (case z_tuple => k_is)
    (case z_list => k_is)
    (case z_sorted => k_is)
    (case z_zip => k_is)
    (case z_bool => k_is)
    (case z_dict => k_is)
    (case z_set => k_is)
    (case n_MOST_WHOLE => k_is)
    (case eC => k_is)
    (case eB => k_is)
    (case xL => k_is)
    (case e_sa => k_is)
    (case e_ga => k_is)
    (case e_gg => k_is)
    (case e_nf => k_is)
    (case e_kC => k_is)
    (case e_ex => k_is)
    (case e_ty => k_is)
    (case e_hd => k_is)
    (case e_is => k_is)
    (case e_se => first | rfl | k_is)
    (case e_tb => k_is)
    (case e_sp => k_is)
    (case e_rd => k_is)
    (case e_fi => k_is)
    (case e_in => k_is)
    (case e_ti => k_is)
    (case lI => k_is)
    (case cI => k_is)
    (case kI => k_is)
    (case hP7 => exact PySem.W.km_tabs_of Y _ (.head _)); (case nP7 => kernel_rfl); (case hC7 => exact PySem.W.codeHd_of_K KX (by kernel_rfl))
#print axioms PySem.Challenge.cw_eachsecond_k15_shares_and_taxes_holds

