import PyProof.Rows.All
import Wide.All
import OpenK.AllK
import Wide.FinOn
import HandS.ForMost
import HandS.Set
import HandS.TupSets
import KE.SortData
import HandS.Strs
import HandS.Walk
import HandS.IsInst
import HandS.Zip
import HandS.Defaults
import HandS.TupAny
import HandS.Text
import KE.GoesMore
import KE.GoesEnum
import HandS.Iter
import HandS.TupMul
import HandS.Rev
import HandS.RevTup
import HandS.Style
import KE.DatumOrd
import HandS.SetFor
import KE.KRevSl
import KE.GoesZip
import KE.KTurns
import HandS.Ends
import HandS.Words
import HandS.WordsExc
import HandS.Head0
import HandS.Head1
import HandS.Head2
import HandS.HeadEnd
import HandS.HeadHook1
import HandS.HeadHook2
import PySem.Challenge.RW_leanbundle_k05_layouts
set_option Elab.async false
set_option linter.all false
set_option maxRecDepth 100000
set_option maxHeartbeats 4000000
/-! sets and sorted lists of at most four pairs (number, name) -/
namespace Lb
open PySem PySem.Spec PyProof.Rows L2
/-- a pair as a key -/
abbrev Nm := Int × Str
def kk (p : Nm) : List Key := [Sum.inl p.1, Sum.inr p.2]
theorem kk_inj {p q : Nm} (h : kk p = kk q) : p = q := by
  unfold kk at h
  injection h with h1 h2
  injection h2 with h2 _
  injection h1 with h1
  injection h2 with h2
  exact Prod.ext h1 h2
def PrAt (P : Program) (w : World) (h : Heap) (p : Nm) (a : Addr) : Prop := IsTupleKey (mixKind P w) h (kk p) a
def hsh (P : Program) (w : World) (p : Nm) : Int := tupleKeyHash (mixKind P w) (kk p)
section
variable {P : Program} {w : World} {A : Around} {E : Value → Shared → Prop} {s : Shared}
/-- the two values of such a pair -/
theorem two_items {p : Nm} {vs : List Value} (h : ItemsAre (mixKind P w) (kk p) vs) : ∃ t u, vs = [Value.int p.1 t, Value.str p.2 u] := by
  unfold kk at h
  cases h with
  | cons h1 h2 =>
    cases h2 with
    | cons h3 h4 =>
      cases h4
      have g1 : keyIs (Sum.inl p.1) _ = true := h1
      have g3 : keyIs (Sum.inr p.2) _ = true := h3
      rcases keyIs_shape g1 with ⟨i, t, e, rfl⟩ | ⟨x, t, e, rfl⟩
      · rcases keyIs_shape g3 with ⟨j, u, e', rfl⟩ | ⟨y, u, e', rfl⟩
        · exact nomatch e'
        · injection e with e
          injection e' with e'
          subst e
          subst e'
          exact ⟨t, u, rfl⟩
      · exact nomatch e
theorem noClass {p : Nm} {b : Addr} {Q : Bool → Shared → Prop} (hp : PrAt P w s.heap p b) (q : Q false s) : wpAny (model P w) A (ofAClassStatement 8 (.ref b)) Q E s := by
  have ty := IsTupleKey.typeIs hp
  obtain ⟨ob, its, cap, hget, _, hdat, hits⟩ := hp
  unfold ofAClassStatement
  refine wpAny_bind (wpAny_typeOf ty ?_)
  dsimp only
  have e1 : (("tuple" : String) == "tuple") = true := by decide
  simp only [e1, if_true, Bool.not_true, Bool.false_eq_true, if_false]
  try refine wpAny_bind (wpAny_pure ?_)
  try simp only [Bool.not_true, Bool.false_eq_true, if_false]
  show wpAny _ _ (seqItems? (.ref b) >>= _) _ _ s
  refine wpAny_bind (wpAny_seqItems hget hdat ?_)
  dsimp only
  refine wpAny_bind ?_
  show wpAny _ _ (forIn its _ _) _ _ s
  rw [← Array.forIn_toList]
  refine wpAny_forIn_list _ (fun left st now => st.1 = none ∧ now = s ∧ ∀ v ∈ left, ∀ n, ofAClassStatement n v = pure false) _ ?_ ?_ _ _ ⟨rfl, rfl, fun v hv n => ?_⟩
  · rintro v left st now ⟨e2, rfl, each⟩
    rw [each v List.mem_cons_self]
    refine wpAny_bind (wpAny_pure ?_)
    simp only [Bool.false_eq_true, if_false]
    exact wpAny_pure ⟨rfl, rfl, fun u hu => each u (List.mem_cons_of_mem _ hu)⟩
  · rintro ⟨st1, st2⟩ now ⟨e2, rfl, _⟩
    simp only at e2
    subst e2
    exact wpAny_pure q
  · obtain ⟨t, u, e⟩ := two_items hits
    rw [e] at hv
    rcases List.mem_cons.mp hv with z | z
    · rw [z]
      cases n <;> rfl
    · rw [List.mem_singleton.mp z]
      cases n <;> rfl
theorem byVal {p : Nm} {b : Addr} {Q : Bool → Shared → Prop} (hp : PrAt P w s.heap p b) (q : Q false s) : wpAny (model P w) A (hashByValue 8 (.ref b)) Q E s := by
  have ty := IsTupleKey.typeIs hp
  obtain ⟨ob, its, cap, hget, _, hdat, hits⟩ := hp
  obtain ⟨t, u, e⟩ := two_items hits
  unfold hashByValue
  refine wpAny_bind (wpAny_specialOf ty F.slot_tuple_hash.lookup ?_)
  show wpAny _ _ (seqItems? (.ref b) >>= _) _ _ s
  refine wpAny_bind (wpAny_seqItems hget hdat ?_)
  refine wpAny_bind ?_
  show wpAny _ _ (forIn its _ _) _ _ s
  rw [← Array.forIn_toList, e, List.forIn_cons]
  refine wpAny_bind ?_
  rw [show hashByValue 7 (Value.int p.1 t) = pure true from rfl]
  refine wpAny_bind (wpAny_pure ?_)
  simp only [Bool.not_true, Bool.false_eq_true, if_false]
  refine wpAny_pure ?_
  dsimp only
  rw [List.forIn_cons]
  refine wpAny_bind ?_
  rw [show hashByValue 7 (Value.str p.2 u) = pure false from rfl]
  refine wpAny_bind (wpAny_pure ?_)
  simp only [Bool.not_false, if_true]
  refine wpAny_pure ?_
  dsimp only
  refine wpAny_pure ?_
  dsimp only
  exact wpAny_pure q
/-- a search among such pairs cannot be seen -/
theorem unseen {p : Nm} {b : Addr} {Q : Bool → Shared → Prop} (hp : PrAt P w s.heap p b) {ys : List Value} (hy : ∀ y ∈ ys, ∃ p' c, y = Value.ref c ∧ PrAt P w s.heap p' c) (q : Q false s) :
    wpAny (model P w) A (searchCouldBeSeen (.ref b) ys) Q E s := by
  unfold searchCouldBeSeen
  refine wpAny_bind ?_
  refine wpAny_forIn_list _ (fun left st now => st.1 = none ∧ now = s ∧ ∀ y ∈ left, ∃ p' c, y = Value.ref c ∧ PrAt P w s.heap p' c) _ ?_ ?_ _ _ ⟨rfl, rfl, hy⟩
  · rintro v left st now ⟨e2, rfl, each⟩
    obtain ⟨p', c, rfl, hc⟩ := each v List.mem_cons_self
    have more : ∀ y ∈ left, ∃ p' c, y = Value.ref c ∧ PrAt P w now.heap p' c := fun u hu => each u (List.mem_cons_of_mem _ hu)
    dsimp only
    by_cases same : (b == c || (carriedByValue (.ref b) && carriedByValue (.ref c))) = true
    · refine wp_if_pos same ?_
      exact wpAny_pure ⟨rfl, rfl, more⟩
    · refine wp_if_neg same ?_
      refine wpAny_bind (wpAny_eqIsQuiet_tuple hp ?_)
      simp only [Bool.not_true, Bool.false_eq_true, if_false]
      refine wpAny_bind (wpAny_eqIsQuiet_tuple hc ?_)
      simp only [Bool.not_true, Bool.false_eq_true, if_false]
      refine wpAny_bind (noClass hp ?_)
      simp only [Bool.false_eq_true, if_false]
      refine wpAny_bind (noClass hc ?_)
      simp only [Bool.false_eq_true, if_false]
      exact wpAny_pure ⟨rfl, rfl, more⟩
  · rintro ⟨st1, st2⟩ now ⟨e2, rfl, _⟩
    simp only at e2
    subst e2
    exact wpAny_pure q

/-! the set at a: its members l (their places and pairs), its rows, its table -/
def rowsP (P : Program) (w : World) (l : List (Addr × Nm)) : List (Int × Value) := l.map fun q => (hsh P w q.2, Value.ref q.1)
structure PSet (P : Program) (w : World) (h : Heap) (a : Addr) (l : List (Addr × Nm)) (rs : Array (Int × Value)) (ep : Nat) (t : SetTable) : Prop where
  obj : ∃ o, h.get? a = some o ∧ o.ExactSet ∧ o.data = .set rs ep t
  rows : rs.toList = rowsP P w l
  tab : TabOk t (l.map fun q => hsh P w q.2)
  uniq : (l.map Prod.snd).Nodup
  prs : ∀ q ∈ l, PrAt P w h q.2 q.1
  led : w.params.followText "set-order" = true ∨ t.led = true
  mask : t.mask = 7
  four : l.length ≤ 4
variable {a : Addr} {l : List (Addr × Nm)} {rs : Array (Int × Value)} {ep : Nat} {t : SetTable}
theorem PSet.count (S : PSet P w s.heap a l rs ep t) : rs.size = l.length := by
  have q := congrArg List.length S.rows
  rwa [rowsP, Array.length_toList, List.length_map] at q
theorem PSet.placed (S : PSet P w s.heap a l rs ep t) : t.place.size = l.length := by
  have q := S.tab.sz
  rwa [List.length_map] at q
theorem PSet.fits (S : PSet P w s.heap a l rs ep t) : t.fits rs.size = true := by
  have q1 := S.placed
  have q2 := S.count
  have q3 := S.four
  unfold SetTable.fits SetTable.fill
  rw [S.tab.dm, Bool.and_eq_true, beq_iff_eq, decide_eq_true_eq, S.mask]
  show t.place.size = rs.size ∧ t.place.size + 0 ≤ 7
  omega
theorem PSet.row (S : PSet P w s.heap a l rs ep t) {i : Nat} {q : Addr × Nm} (h : l[i]? = some q) : rs[i]? = some (hsh P w q.2, Value.ref q.1) := by
  rw [← Array.getElem?_toList, S.rows, rowsP, List.getElem?_map, h]
  rfl
theorem PSet.whole (S : PSet P w s.heap a l rs ep t) : ¬ t.gaveWay = true := by
  unfold SetTable.gaveWay
  rw [S.mask]
  decide
theorem probe_go (t : SetTable) (g : Nat → Int) (h : Int) (p : SetTable.Probe) : t.probe g h p = SetTable.probe.go t g h (10 * SetTable.turns t.mask) p := by
  unfold SetTable.probe
  exact Eq.refl _
/-- one look along the way of the pair p, from its c-th step on; the K-th is the first free one -/
theorem seek (S : PSet P w s.heap a l rs ep t) {x : Addr} {p : Nm} (hx : PrAt P w s.heap p x) (hu : A.units < cLine) {K : Nat} (kf : K < 10 * SetTable.turns t.mask)
    (free : way t.mask (hsh P w p) K ∉ t.place.toList) (taken : ∀ c, c < K → way t.mask (hsh P w p) c ∈ t.place.toList) {Q : SetFound → Shared → Prop}
    (yes : p ∈ l.map Prod.snd → Q (.there none) s) (no : p ∉ l.map Prod.snd → Q (.free (way t.mask (hsh P w p) K) false) s) :
    ∀ (f c : Nat) (from_ : Option SetTable.Probe), from_.getD (t.probeStart (hsh P w p)) = nth t.mask (runAt t.mask (SetTable.bits (hsh P w p) % (t.mask + 1)) (SetTable.bits (hsh P w p))) c → c ≤ K → K - c < f →
      (∀ (i : Nat) q, l[i]? = some q → q.2 = p → ∃ d, c ≤ d ∧ d < K ∧ t.place.toList[i]? = some (way t.mask (hsh P w p) d)) →
      wpAny (model P w) A (setSearchFrom a (.ref x) (hsh P w p) true f from_) Q E s := by
  intro f
  induction f with
  | zero => intro c _ _ _ z _; exact absurd z (Nat.not_lt_zero _)
  | succ f again =>
    intro c from_ hfrom ck cf ahead
    obtain ⟨o, ho, ex, dat⟩ := S.obj
    rw [setSearchFrom_succ]
    refine wpAny_bind (wpAny_setState_of ho dat S.fits ?_)
    dsimp only
    refine wp_if_neg S.whole ?_
    try refine wpAny_bind (wpAny_pure ?_)
    let st := runAt t.mask (SetTable.bits (hsh P w p) % (t.mask + 1)) (SetTable.bits (hsh P w p))
    have plainProbe : ∀ (n : Nat) (g : SetTable.Probe), g.dummy = none → (nth t.mask g n).dummy = none := by
      intro n
      induction n with
      | zero => intro g q; exact q
      | succ n ih =>
        intro g q
        refine ih (adv t.mask g) ?_
        unfold adv
        split <;> exact q
    have far : ∀ n, nth t.mask (nth t.mask st c) n = nth t.mask st (c + n) := fun n => (nth_add t.mask c st n).symm
    have farJ : ∀ n, (nth t.mask (nth t.mask st c) n).j = way t.mask (hsh P w p) (c + n) := fun n => congrArg SetTable.Probe.j (far n)
    have ckK : c + (K - c) = K := by omega
    have told := go_spec t S.tab.ris S.tab.dm (fun i => (rs[i]?.map (·.1)).getD 0) (hsh P w p) (10 * SetTable.turns t.mask) (K - c) (nth t.mask st c) (plainProbe c st rfl) (by omega)
      (fun n hn => by rw [farJ]; exact taken _ (by omega)) (by rw [farJ, ckK]; exact free)
    have hashOf : ∀ (i : Nat) q, l[i]? = some q → (rs[i]?.map (·.1)).getD 0 = hsh P w q.2 := fun i q e => by
      rw [S.row e, Option.map_some, Option.getD_some]
    rw [hfrom, probe_go]
    rcases told with ⟨n, i, nK, at_i, heq, before, res⟩ | ⟨before, res⟩
    · rw [res]
      dsimp only
      rw [farJ] at at_i
      have il : i < l.length := by
        have z := (List.getElem?_eq_some_iff.mp at_i).1
        have z2 := S.placed
        rw [Array.length_toList] at z
        omega
      obtain ⟨q, hq⟩ : ∃ q, l[i]? = some q := ⟨_, List.getElem?_eq_getElem il⟩
      have qm := List.mem_of_getElem? hq
      have hqp := S.prs q qm
      rw [farJ, far]
      have main : wpAny (model P w) A (searchRest a (.ref x) (hsh P w p) true f rs t (way t.mask (hsh P w p) (c + n)) i (nth t.mask st (c + (n + 1)))) Q E s := by
        unfold searchRest
        rw [S.row hq]
        dsimp only
        refine wpAny_bind (wpAny_holding (wpAny_eqBool_tuple hu hqp hx ?_))
        refine wpAny_bind (wpAny_setState_of ho dat S.fits ?_)
        dsimp only
        by_cases eqp : q.2 = p
        · refine wp_if_pos (by simp [eqp]) ?_
          exact wpAny_pure (yes (List.mem_map.mpr ⟨q, qm, eqp⟩))
        · have nek : ¬ kk q.2 = kk p := fun z => eqp (kk_inj z)
          refine wp_if_neg (by simp [nek]) ?_
          try refine wpAny_bind (wpAny_pure ?_)
          rw [sameMem]
          dsimp only
          have live := slot_live S.tab.ris at_i
          simp only [if_true, live, S.row hq]
          refine wpAny_bind (wpAny_isSame_ref_self (wpAny_bind (wpAny_pure ?_)))
          simp only [if_true]
          refine wp_if_neg (by simp [nek]) ?_
          refine again (c + (n + 1)) _ (Option.getD_some ..) (by omega) (by omega) fun i0 q0 h0 e0 => ?_
          obtain ⟨d, d1, d2, d3⟩ := ahead i0 q0 h0 e0
          refine ⟨d, ?_, d2, d3⟩
          have sameHash := (hashOf i0 q0 h0).trans (congrArg (hsh P w) e0)
          by_cases lt : d < c + n
          · refine absurd sameHash (before (d - c) i0 (by omega) ?_)
            rw [farJ, show c + (d - c) = d by omega]
            exact d3
          · by_cases gt : c + n < d
            · omega
            · have ed : d = c + n := by omega
              rw [ed] at d3
              have live2 := slot_live S.tab.ris d3
              rw [live] at live2
              injection live2 with live2
              rw [← live2, hq] at h0
              exact absurd ((congrArg Prod.snd (Option.some.inj h0)).trans e0) eqp
      by_cases ld : t.led = true
      · refine wp_if_neg (by simp [ld]) ?_
        try refine wpAny_bind (wpAny_pure ?_)
        exact main
      · refine wp_if_pos (by simp [ld]) ?_
        refine wpAny_bind (unseen hx (fun y hy => ?_) ?_)
        · obtain ⟨r, hr, er⟩ := List.mem_map.mp hy
          have r2 : r ∈ rs.toList := by
            have z : r ∈ rs ∧ r.1 = hsh P w p := by simpa using hr
            simpa using z.1
          rw [S.rows] at r2
          obtain ⟨q2, m2, e2⟩ := List.mem_map.mp r2
          exact ⟨q2.2, q2.1, by rw [← er, ← e2], S.prs q2 m2⟩
        · refine wp_if_neg (by decide) ?_
          try refine wpAny_bind (wpAny_pure ?_)
          exact main
    · rw [res, farJ, ckK]
      dsimp only
      refine wpAny_pure (no fun z => ?_)
      obtain ⟨q0, m0, e0⟩ := List.mem_map.mp z
      obtain ⟨i0, l0, g0⟩ := List.getElem_of_mem m0
      have h0 : l[i0]? = some q0 := by rw [List.getElem?_eq_getElem l0, g0]
      obtain ⟨d, d1, d2, d3⟩ := ahead i0 q0 h0 e0
      refine before (d - c) i0 (by omega) ?_ ((hashOf i0 q0 h0).trans (congrArg (hsh P w) e0))
      rw [farJ, show c + (d - c) = d by omega]
      exact d3
/-- adding looks along the whole way -/
theorem seekAll (S : PSet P w s.heap a l rs ep t) {x : Addr} {p : Nm} (hx : PrAt P w s.heap p x) (hu : A.units < cLine) {Q : SetFound → Shared → Prop} (yes : p ∈ l.map Prod.snd → Q (.there none) s)
    (no : ∀ K, p ∉ l.map Prod.snd → way t.mask (hsh P w p) K ∉ t.place.toList → (∀ c, c < K → way t.mask (hsh P w p) c ∈ t.place.toList) → Q (.free (way t.mask (hsh P w p) K) false) s) :
    wpAny (model P w) A (setSearch a (.ref x) (hsh P w p) true) Q E s := by
  obtain ⟨K, k1, k2, k3⟩ := S.tab.first (by rw [List.length_map, S.mask]; have := S.four; omega) (hsh P w p)
  have small : 10 * SetTable.turns t.mask ≤ 99999 := by
    rw [S.mask]
    decide
  unfold setSearch
  refine seek S hx hu k1 k2 k3 yes (fun z => no K z k2 k3) 100000 0 none (Option.getD_none ..) (Nat.zero_le _) (by omega) fun i q hq e => ?_
  have hh : (l.map fun q => hsh P w q.2)[i]? = some (hsh P w p) := by rw [List.getElem?_map, hq, Option.map_some, e]
  have il : i < t.place.toList.length := by
    have z := (List.getElem?_eq_some_iff.mp hq).1
    rw [Array.length_toList, S.placed]
    exact z
  obtain ⟨d, d1, d2⟩ := S.tab.before k2 hh (List.getElem?_eq_getElem il)
  exact ⟨d, Nat.zero_le _, d1, by rw [List.getElem?_eq_getElem il, d2]⟩
/-- a pair is not the set -/
theorem PrAt.past {h h' : Heap} {p : Nm} {b c : Addr} {o : Obj} (hp : PrAt P w h p b) (ho : h.get? c = some o) (dat : o.data = .set rs ep t) (same : Heap.SameBut c h h') : PrAt P w h' p b := by
  obtain ⟨ob, its, cap, g1, g2, g3, g4⟩ := hp
  refine ⟨ob, its, cap, (same.2 b fun z => ?_).trans g1, g2, g3, g4⟩
  rw [z, ho] at g1
  rw [← Option.some.inj g1, dat] at g3
  exact nomatch g3
theorem PrAt.kept {h h' : Heap} {p : Nm} {b : Addr} (hp : PrAt P w h p b) (k : ∀ c o, h.get? c = some o → h'.get? c = some o) : PrAt P w h' p b := by
  obtain ⟨ob, its, cap, g1, g⟩ := hp
  exact ⟨ob, its, cap, k _ _ g1, g⟩
theorem put_rows (l : List (Addr × Nm)) (n : Nat) (x : Addr) (p : Nm) : rowsP P w (l.take n ++ (x, p) :: l.drop n) = (rowsP P w l).take n ++ (hsh P w p, Value.ref x) :: (rowsP P w l).drop n := by
  simp only [rowsP, List.map_append, List.map_cons, List.map_take, List.map_drop]
/-- ADDING one more pair to at most three -/
theorem putIn (S : PSet P w s.heap a l rs ep t) {x : Addr} {p : Nm} (hx : PrAt P w s.heap p x) (hu : A.units < cLine) (three : l.length ≤ 3) {Q : Bool → Shared → Prop}
    (done : ∀ b h' l' rs' ep' t', Heap.SameBut a s.heap h' → PSet P w h' a l' rs' ep' t' → (p ∈ l.map Prod.snd → l' = l) → (p ∉ l.map Prod.snd → l'.Perm ((x, p) :: l)) → Q b { s with heap := h' }) :
    wpAny (model P w) A (setAddHashed a (.ref x) (hsh P w p)) Q E s := by
  obtain ⟨o, ho, ex, dat⟩ := S.obj
  unfold setAddHashed
  refine wpAny_holding ?_
  rw [show (100000 : Nat) = 99999 + 1 from rfl, setAddHashedIn_succ]
  refine wpAny_bind (wpAny_setState_of ho dat S.fits ?_)
  dsimp only
  refine wp_if_neg (by simp [byScan, Value.scannable]) ?_
  try refine wpAny_bind (wpAny_pure ?_)
  refine wpAny_bind (seekAll S hx hu (fun m => ?_) fun K m k2 k3 => ?_)
  · dsimp only
    exact wpAny_pure (done false s.heap l rs ep t (Heap.SameBut.refl a s.heap) S (fun _ => rfl) fun z => absurd m z)
  · dsimp only
    refine wpAny_bind (wpAny_setState_of ho dat S.fits ?_)
    dsimp only
    obtain ⟨q1, q2, q3, q4, q5, q6, q7, q8, q9⟩ := S.tab.put k2 k3
    generalize hpt : t.put (way t.mask (hsh P w p) K) = pt at q1 q3 q4 q5 q6 q7 q8 q9 ⊢
    obtain ⟨t1, n⟩ := pt
    dsimp only at q1 q3 q4 q5 q6 q7 q8 q9 ⊢
    subst q1
    generalize hn : SetTable.below t.place (way t.mask (hsh P w p) K) = n at q2 q3 ⊢
    have prm : (l.take n ++ (x, p) :: l.drop n).Perm ((x, p) :: l) := by
      have z : (l.take n ++ (x, p) :: l.drop n).Perm ((x, p) :: (l.take n ++ l.drop n)) := List.perm_middle
      rwa [List.take_append_drop] at z
    have rowsNew : (SetTable.insertAt rs n (hsh P w p, Value.ref x)).toList = rowsP P w (l.take n ++ (x, p) :: l.drop n) := by
      rw [SetTable.toList_insertAt, S.rows, put_rows]
    have hashesNew : (l.take n ++ (x, p) :: l.drop n).map (fun q => hsh P w q.2) = (l.map fun q => hsh P w q.2).take n ++ hsh P w p :: (l.map fun q => hsh P w q.2).drop n := by
      simp only [List.map_append, List.map_cons, List.map_take, List.map_drop]
    rw [← hashesNew] at q3
    generalize SetTable.insertAt rs n (hsh P w p, Value.ref x) = rs1 at rowsNew ⊢
    generalize l.take n ++ (x, p) :: l.drop n = l1 at prm q3 rowsNew
    have len1 : l1.length = l.length + 1 := prm.length_eq
    have size1 : rs1.size = l.length + 1 := by
      have z := congrArg List.length rowsNew
      rwa [rowsP, Array.length_toList, List.length_map, len1] at z
    have uniq1 : (l1.map Prod.snd).Nodup := by
      refine (prm.map Prod.snd).nodup_iff.mpr ?_
      rw [List.map_cons]
      exact List.nodup_cons.mpr ⟨m, S.uniq⟩
    -- the table, once it is known that a name is no number
    have rest : ∀ t2 : SetTable, t2 = t1 ∨ t2 = { t1 with plain := false } →
        wpAny (model P w) A (do
          storeSet a rs1 t2
          if !false && t2.tooFull then setRelay a (SetTable.grown (rs.size + 1))
          return true : Sem Bool) Q E s := fun t2 e2 => by
      have m2 : t2.mask = 7 := by
        rcases e2 with e | e
        · rw [e, q4, S.mask]
        · rw [e]
          show t1.mask = 7
          rw [q4, S.mask]
      have pl2 : t2.place = t1.place := by
        rcases e2 with e | e <;> rw [e]
      have dm2 : t2.dummies = t1.dummies := by
        rcases e2 with e | e <;> rw [e]
      have ld2 : t2.led = t1.led := by
        rcases e2 with e | e <;> rw [e]
      have mk2 : t2.mask = t1.mask := by
        rcases e2 with e | e <;> rw [e]
      have fill2 : t2.tooFull = false := by
        unfold SetTable.tooFull SetTable.fill
        rw [dm2, pl2, q3.dm, m2, q3.sz, List.length_map, len1]
        refine decide_eq_false fun z => ?_
        have z2 : (l.length + 1 + 0) * 5 ≥ 7 * 3 := z
        omega
      have tab2 : TabOk t2 (l1.map fun q => hsh P w q.2) := by
        obtain ⟨c1, c2, c3, c4, c5, c6⟩ := q3
        refine ⟨by rw [pl2]; exact c1, by rw [dm2]; exact c2, by rw [pl2]; exact c3, by rw [mk2]; exact c4, by rw [pl2, mk2]; exact c5, ?_⟩
        rw [pl2, mk2]
        exact c6
      refine wpAny_bind (wpAny_storeSet_of ho dat ?_ (by rw [size1, sizeLine_eq]; omega))
      have same : Heap.SameBut a s.heap (s.heap.update a (Obj.putSet rs1 t2)) := Heap.SameBut.update ..
      have ho1 := store_at (es' := rs1) (t' := t2) ho dat
      generalize s.heap.update a (Obj.putSet rs1 t2) = h1 at same ho1 ⊢
      have fin : Q true { s with heap := h1 } := done true h1 l1 rs1 (ep + 1) t2 same
        ⟨⟨_, ho1, ⟨ex.1, ex.2.1, ex.2.2⟩, rfl⟩, rowsNew, tab2, uniq1, fun q hq => by
          rcases List.mem_cons.mp (prm.mem_iff.mp hq) with e | hq
          · rw [e]
            exact hx.past ho dat same
          · exact (S.prs q hq).past ho dat same, by rw [ld2, q5]; exact S.led, m2, by omega⟩ (fun z => absurd z m) fun _ => prm
      first
        | (refine wp_if_neg (by simp [fill2]) ?_; exact wpAny_pure fin)
        | (refine wpAny_bind ?_; refine wp_if_neg (by simp [fill2]) ?_; refine wpAny_pure ?_; exact wpAny_pure fin)
    by_cases pl : t1.plain = true
    · first
        | (refine wpAny_bind ?_; refine wp_if_pos pl ?_; refine byVal hx ?_)
        | refine wp_if_pos pl (wpAny_bind (byVal hx ?_))
      simp only [Bool.false_eq_true, if_false]
      exact rest _ (.inr rfl)
    · first
        | (refine wpAny_bind ?_; refine wp_if_neg pl ?_; refine wpAny_pure ?_)
        | refine wp_if_neg pl ?_
      try simp only [if_true]
      exact rest _ (.inl rfl)

/-- the set l has the pairs of the first i items of ks, and no other -/
structure Took (ks : List (Addr × Nm)) (i : Nat) (l : List (Addr × Nm)) : Prop where
  from_ : ∀ q ∈ l, q ∈ ks.take i
  all : ∀ q ∈ ks.take i, q.2 ∈ l.map Prod.snd
  few : l.length ≤ i
theorem take_one {α : Type} {l : List α} {i : Nat} {x : α} (h : l[i]? = some x) : l.take (i + 1) = l.take i ++ [x] := by
  rw [List.take_succ, h]
  rfl
theorem Took.step {ks l l' : List (Addr × Nm)} {i : Nat} {x : Addr × Nm} (g : Took ks i l) (h : ks[i]? = some x) (c1 : x.2 ∈ l.map Prod.snd → l' = l) (c2 : x.2 ∉ l.map Prod.snd → l'.Perm (x :: l)) : Took ks (i + 1) l' := by
  by_cases m : x.2 ∈ l.map Prod.snd
  · rw [c1 m]
    refine ⟨fun q hq => ?_, fun q hq => ?_, Nat.le_succ_of_le g.few⟩
    · rw [take_one h]
      exact List.mem_append_left _ (g.from_ q hq)
    · rw [take_one h] at hq
      rcases List.mem_append.mp hq with z | z
      · exact g.all q z
      · rw [List.mem_singleton.mp z]
        exact m
  · have pm := c2 m
    refine ⟨fun q hq => ?_, fun q hq => ?_, ?_⟩
    · rw [take_one h]
      rcases List.mem_cons.mp (pm.mem_iff.mp hq) with z | z
      · rw [z]
        exact List.mem_append_right _ (List.mem_singleton.mpr rfl)
      · exact List.mem_append_left _ (g.from_ q z)
    · refine (pm.map Prod.snd).mem_iff.mpr ?_
      rw [List.map_cons]
      rw [take_one h] at hq
      rcases List.mem_append.mp hq with z | z
      · exact List.mem_cons_of_mem _ (g.all q z)
      · rw [List.mem_singleton.mp z]
        exact List.mem_cons_self
    · have := pm.length_eq
      have := g.few
      simp only [List.length_cons] at *
      omega
theorem PSet.onto {h h' : Heap} (S : PSet P w h a l rs ep t) (ha : ∀ o, h.get? a = some o → h'.get? a = some o) (hp : ∀ q ∈ l, PrAt P w h' q.2 q.1) : PSet P w h' a l rs ep t := by
  obtain ⟨o, ho, r⟩ := S.obj
  exact ⟨⟨o, ha o ho, r⟩, S.rows, S.tab, S.uniq, hp, S.led, S.mask, S.four⟩
theorem PSet.empty {h : Heap} (ho : h.get? a = some { cls := .type "set", dict := none, data := .set #[] 0 (.fresh 0 0 (!w.params.followText "set-order")) }) : PSet P w h a [] #[] 0 (.fresh 0 0 (!w.params.followText "set-order")) where
  obj := ⟨_, ho, ⟨rfl, rfl, rfl⟩, rfl⟩
  rows := rfl
  tab := ⟨.nil, rfl, rfl, .inl rfl, fun _ z => (by cases z), fun i _ _ z => (by simp at z)⟩
  uniq := List.nodup_nil
  prs := fun _ z => nomatch z
  led := by
    show _ ∨ (!w.params.followText "set-order") = true
    cases w.params.followText "set-order" with
    | true => exact .inl rfl
    | false => exact .inr rfl
  mask := rfl
  four := Nat.zero_le _
/-- the loop that fills the set at S from the walk I -/
theorem fillLoop {I : Addr} {fp wr : List Addr} {G : Array GenState → Array GenState → Prop} {n : Nat} {Pv : Nat → Value → Prop} {St : Nat → Shared → Prop} {R : Result → Shared → Prop}
    (W : WalksS P w A.in1 I fp wr G n Pv St) (S : Addr) (sfp : S ∉ fp) (ks : List (Addr × Nm)) (nks : n = ks.length) (n4 : ks.length ≤ 4) (val : ∀ i v, Pv i v → ∃ q, ks[i]? = some q ∧ v = .ref q.1)
    (g : Heap) (prs : ∀ q ∈ ks, PrAt P w g q.2 q.1) (noS : g.get? S = none) (noW : ∀ b ∈ wr, g.get? b = none) (hu : A.in1.units < cLine)
    (out : ∀ s' l rs ep t, Moved (S :: wr) G s s' → True → PSet P w s'.heap S l rs ep t → Took ks n l → (∀ b o, g.get? b = some o → s'.heap.get? b = some o) → R (.ok (.ret .none)) s') :
    ∀ (m i : Nat) (now : Shared), n - i = m → i ≤ n → St i now → Moved (S :: wr) G s now → (∀ b o, g.get? b = some o → now.heap.get? b = some o) → (∃ l rs ep t, PSet P w now.heap S l rs ep t ∧ Took ks i l) →
      codeAny (model P w) A (.builtin "set.update.loop" ⟨[.ref S, .ref I], []⟩) R now := by
  have swr : S ∉ wr := fun z => sfp (W.sub _ z)
  have wider : ∀ b ∈ wr, b ∈ S :: wr := fun b hb => List.mem_cons_of_mem _ hb
  have past : ∀ {u u' : Shared}, Moved wr G u u' → (∀ b o, g.get? b = some o → u.heap.get? b = some o) → ∀ b o, g.get? b = some o → u'.heap.get? b = some o := fun mv k b o e =>
    mv.heap b o (fun hb => by rw [noW b hb] at e; cases e) (k b o e)
  intro m
  induction m with
  | zero =>
    intro i now hm hi hst mv k ⟨l, rs, ep, t, hS, tk⟩
    obtain rfl : i = n := by omega
    refine codeAny_builtin F.entry_set_update_loop ?_
    rw [Around.under_plainId F.plain_set_update_loop _]
    show wpAny _ A.in1 (pyNext (.ref I) >>= _) _ _ now
    refine wpAny_bind (W.done now _ _ hst fun now' mv' => ?_)
    show wpAny _ A.in1 (ret Value.none) _ _ now'
    have k' := past mv' k
    refine wpAny_pure (out now' l rs ep t (Moved.trans W.gtrans mv (mv'.mono wider)) trivial (hS.onto (fun o e => mv'.heap S o swr e) fun q hq => ?_) tk k')
    exact (prs q (List.mem_of_mem_take (tk.from_ q hq))).kept k'
  | succ m more =>
    intro i now hm hi hst mv k ⟨l, rs, ep, t, hS, tk⟩
    refine codeAny_builtin F.entry_set_update_loop ?_
    rw [Around.under_plainId F.plain_set_update_loop _]
    show wpAny _ A.in1 (pyNext (.ref I) >>= _) _ _ now
    refine wpAny_bind (W.item i now _ _ (by omega) hst fun v now' hv hst' mv' => ?_)
    obtain ⟨q, hq, rfl⟩ := val i v hv
    have k' := past mv' k
    have hS' : PSet P w now'.heap S l rs ep t := hS.onto (fun o e => mv'.heap S o swr e) fun r hr => (prs r (List.mem_of_mem_take (tk.from_ r hr))).kept k'
    have hx : PrAt P w now'.heap q.2 q.1 := (prs q (List.mem_of_getElem? hq)).kept k'
    have i3 : i < ks.length := (List.getElem?_eq_some_iff.mp hq).1
    show wpAny _ A.in1 (holding [Value.ref q.1] (setAdd S (.ref q.1)) >>= _) _ _ now'
    refine wpAny_bind (wpAny_holding ?_)
    unfold setAdd
    refine wpAny_holding ?_
    refine wpAny_bind (wpAny_pyHash_tuple hu hx ?_)
    refine putIn (s := { now' with toks := now'.toks + ((kk q.2).length + 1) }) hS' hx hu (by have := tk.few; omega) fun b h' l' rs' ep' t' same hS2 c1 c2 => ?_
    have k2 : ∀ b o, g.get? b = some o → h'.get? b = some o := fun b o e => (same.2 b fun z => by rw [z, noS] at e; cases e).trans (k' b o e)
    refine wpAny_pure ⟨plainId_quiet F.plain_set_update_loop _, more (i + 1) _ (by omega) (by omega) (W.frame _ now' _ _ hst' (Nat.le_add_right _ _) fun b hb o e => ?_) ?_ k2 ⟨l', rs', ep', t', hS2, tk.step hq c1 c2⟩⟩
    · rw [same.2 b fun z => sfp (by rw [← z]; exact hb)]
      exact e
    · refine Moved.trans W.gtrans mv ((mv'.mono wider).then_heap (Nat.le_add_right _ _) fun b o hb e => ?_)
      rw [same.2 b fun z => hb (by rw [z]; exact List.mem_cons_self)]
      exact e

/-- set(xs) of a list, whatever fills it: Good is what the filled set has -/
theorem setFrom {b : Addr} {items : Array Value} (Good : Heap → Prop) {Q : Value → Shared → Prop} (quiet : A.handled = none) (hl : s.heap.IsList b items)
    (fill : ∀ (I : Addr) (A1 : Around) (now : Shared) (R : Result → Shared → Prop), A1.in1.handled = none → A1.in1.units ≤ A.units + 3 → b ≠ I → s.heap.objs.size ∉ [I, b] → s.heap.get? s.heap.objs.size = none → s.heap.get? I = none →
      now.heap.IsListIter I b 0 → now.heap.IsList b items → now.heap.get? s.heap.objs.size = some { cls := .type "set", dict := none, data := .set #[] 0 (.fresh 0 0 (!w.params.followText "set-order")) } →
      Moved (s.heap.objs.size :: [I]) (fun a b => b = a) s now → (∀ c o, s.heap.get? c = some o → now.heap.get? c = some o) →
      (∀ s', Moved (s.heap.objs.size :: [I]) (fun a b => b = a) s s' → Good s'.heap → (∀ c o, s.heap.get? c = some o → s'.heap.get? c = some o) → R (.ok (.ret .none)) s') →
      codeAny (model P w) A1 (.builtin "set.update.loop" ⟨[.ref s.heap.objs.size, .ref I], []⟩) R now)
    (fin : ∀ (h' : Heap) (tk : Nat), Good h' → (∀ c o, s.heap.get? c = some o → h'.get? c = some o) → Q (.ref s.heap.objs.size) { s with heap := h', toks := tk }) :
    wpAny (model P w) A (call (.type "set") [.ref b]) Q E s := by
  obtain ⟨c, tl, hmro⟩ := F.called_set.mro
  have hmade := F.called_set.made
  have hsub := F.called_set.sub
  have h1 := F.called_set.notType
  have h2 := F.called_set.canCreate
  have hct := F.typeCall_set_1 (.ref b)
  refine wpAny_call (codeAny_of_tree ?_)
  show wpAny _ _ (callAny (.type "set") _) _ _ _
  refine wpAny_pure ⟨Code.quiet_builtin _ (by decide +kernel), codeAny_builtin F.entry_type_call ?_⟩
  rw [Around.under_plain (weight_type_call_type "set" [.ref b] []) rfl]
  repeat (any_goals (first | assumption | wp_step))
  let fresh : Obj := { cls := .type "set", dict := none, data := .set #[] 0 (.fresh 0 0 (!w.params.followText "set-order")) }
  refine codeAny_mono (code_set_led1 (.ref b) (E := E) (Q₁ := fun ob now => ob = .ref s.heap.objs.size ∧ now = { s with heap := s.heap.push fresh }) ⟨rfl, rfl⟩) fun r now hr => ?_
  match r, hr with
  | .error e, hr => exact hr
  | .ok (.next), hr => exact hr.elim
  | .ok (.brk), hr => exact hr.elim
  | .ok (.cont), hr => exact hr.elim
  | .ok (.ret ob), hr =>
    obtain ⟨rfl, rfl⟩ := hr
    have atS : (s.heap.push fresh).get? s.heap.objs.size = some fresh := Heap.get?_push_size _ rfl
    have ty : Shared.TypeIs { s with heap := s.heap.push fresh } (.ref s.heap.objs.size) "set" := ⟨_, atS, rfl⟩
    have hli := F.called_set.init.lookup
    have hbi := F.called_set.init.bind (.ref s.heap.objs.size)
    repeat (any_goals (first | assumption | wp_step))
    refine codeAny_mono (codeAny_call_builtin (R := wants (fun r now => r = .none ∧ ∃ h' tk, now = { s with heap := h', toks := tk } ∧ Good h' ∧
      (∀ c o, s.heap.get? c = some o → h'.get? c = some o)) E) F.called_set.init.plain F.entry_set_init (check_set_init_1 ty ?_)) fun r2 now2 hr2 => ?_
    · obtain ⟨ob, obAt, obCls, cap, obDat⟩ := hl
      obtain ⟨c0, d0, dat0, sl0⟩ := ob
      simp only at obCls obDat
      subst obCls
      subst obDat
      have obAt2 : (s.heap.push fresh).get? b = some { cls := .type "list", dict := d0, data := .seq items cap, slots := sl0 } := Heap.get?_push_of_some _ obAt
      have f1 := F.sub_list_set
      have f2 := F.sub_list_frozenset
      have f3 : (Value.type "list" == Value.type "dict") = false := by decide
      have lst : (s.heap.push fresh).IsList b items := ⟨_, obAt2, rfl, cap, rfl⟩
      unfold Builtin.«set.__init__» noKeywords Builtin.Frozenset.updateFrom
      generalize hPI : pyIter = PI
      wp_walk
      subst hPI
      refine wpAny_pyIter_list lst ?_
      refine wpAny_bind (wpAny_runValue ?_)
      have low : b < s.heap.objs.size := Heap.lt_size obAt
      have q3 : A.in1.in1.in1.handled = none := by simp [quiet]
      have sz : (s.heap.push fresh).objs.size = s.heap.objs.size + 1 := Heap.size_push ..
      have bI : b ≠ (s.heap.push fresh).objs.size := by
        rw [sz]
        exact Nat.ne_of_lt (Nat.lt_succ_of_lt low)
      have sI : s.heap.objs.size ∉ [(s.heap.push fresh).objs.size, b] := by
        rw [sz]
        intro z
        rcases List.mem_cons.mp z with e | z
        · exact Nat.ne_of_lt (Nat.lt_succ_self _) e
        · exact Nat.ne_of_gt low (List.mem_singleton.mp z)
      have nothing : ∀ d, s.heap.objs.size ≤ d → s.heap.get? d = none := fun d hd => by
        cases e : s.heap.get? d with
        | none => rfl
        | some o => exact absurd (Heap.lt_size e) (Nat.not_lt.mpr hd)
      refine fill _ _ _ _ q3 (by first | omega | (simp only [Around.units, Around.in1]; omega) | simp) bI sI (nothing _ (Nat.le_refl _)) (nothing _ (by rw [sz]; exact Nat.le_succ _)) ⟨_, Heap.get?_push_size _ rfl, rfl, rfl⟩ (lst.push _) (Heap.get?_push_of_some _ atS) ?m0 (fun c o e => Heap.get?_push_of_some _ (Heap.get?_push_of_some _ e)) ?ends
      case m0 => exact ⟨fun _ _ _ e => Heap.get?_push_of_some _ (Heap.get?_push_of_some _ e), rfl, rfl, rfl, by first | exact Nat.le_refl _ | exact Nat.le_add_right _ _⟩
      case ends =>
        intro now' mv hS k
        obtain ⟨h', g', d', tk', os'⟩ := now'
        obtain rfl : g' = s.gens := mv.gens
        obtain rfl : d' = s.drawn := mv.drawn
        obtain rfl : os' = s.os := mv.os
        show wpAny _ _ _ _ _ _
        refine wpAny_pure ?_
        show wpAny _ _ (ret Value.none) _ _ _
        exact wpAny_pure ⟨rfl, h', tk', rfl, hS, k⟩
    · match r2, hr2 with
      | .error e, hr2 => exact hr2
      | .ok (.next), hr2 => exact hr2.elim
      | .ok (.brk), hr2 => exact hr2.elim
      | .ok (.cont), hr2 => exact hr2.elim
      | .ok (.ret u), hr2 =>
        obtain ⟨rfl, h', tk, rfl, hS, k⟩ := hr2
        repeat (any_goals (first | assumption | wp_step))
        exact fin _ _ hS k
/-- set(xs), xs a list of at most four such pairs -/
theorem setOf {b : Addr} {items : Array Value} (ks : List (Addr × Nm)) {Q : Value → Shared → Prop} (quiet : A.handled = none) (hl : s.heap.IsList b items) (its : items.toList = ks.map fun q => Value.ref q.1)
    (prs : ∀ q ∈ ks, PrAt P w s.heap q.2 q.1) (n4 : ks.length ≤ 4) (hu : A.units + 3 < cLine)
    (fin : ∀ (h' : Heap) (tk : Nat) l rs ep t, PSet P w h' s.heap.objs.size l rs ep t → Took ks ks.length l → (∀ c o, s.heap.get? c = some o → h'.get? c = some o) → Q (.ref s.heap.objs.size) { s with heap := h', toks := tk }) :
    wpAny (model P w) A (call (.type "set") [.ref b]) Q E s := by
  have many : items.size = ks.length := by
    have q := congrArg List.length its
    rwa [Array.length_toList, List.length_map] at q
  have val : ∀ (i : Nat) (v : Value), items[i]? = some v → ∃ q, ks[i]? = some q ∧ v = .ref q.1 := fun i v e => by
    rw [← Array.getElem?_toList, its, List.getElem?_map] at e
    obtain ⟨q, hq, e2⟩ := Option.map_eq_some_iff.mp e
    exact ⟨q, hq, e2.symm⟩
  refine setFrom (fun h' => ∃ l rs ep t, PSet P w h' s.heap.objs.size l rs ep t ∧ Took ks ks.length l) quiet hl (fun I A1 now R q3 qu bI sI noS noI it lst atS mv kp out => ?_) (fun h' tk ⟨l, rs, ep, t, hS, took⟩ k => fin h' tk l rs ep t hS took k)
  refine fillLoop (s := s) ((Walks.list q3 I b bI items).toS) s.heap.objs.size sI ks many n4 val s.heap prs noS (fun d hd => by rw [List.mem_singleton.mp hd]; exact noI) (by omega) (fun s' l rs ep t m _ hS took k => ?_) items.size 0 now (by omega) (Nat.zero_le _) ⟨it, lst⟩ mv kp ⟨[], #[], 0, _, PSet.empty atS, ⟨fun _ z => (by cases z), fun _ z => (by simp at z), Nat.le_refl _⟩⟩
  rw [many] at took
  exact out s' m ⟨l, rs, ep, t, hS, took⟩ k
/-- set(xs), xs a list of numbers -/
theorem setOfInts {b : Addr} {items : Array Value} (ns : List Int) {Q : Value → Shared → Prop} (quiet : A.handled = none) (hl : s.heap.IsList b items) (hi : IntsAre items.toList ns) (hb : ns.length + 1 < scanBound)
    (fin : ∀ (h' : Heap) (tk c : Nat), SetR w h' s.heap.objs.size (fun j => decide (j ∈ ns)) c → c ≤ ns.length → (∀ c o, s.heap.get? c = some o → h'.get? c = some o) → Q (.ref s.heap.objs.size) { s with heap := h', toks := tk }) :
    wpAny (model P w) A (call (.type "set") [.ref b]) Q E s := by
  have many : items.size = ns.length := by
    rw [← Array.length_toList]
    exact hi.length
  refine setFrom (fun h' => ∃ c, SetR w h' s.heap.objs.size (fun j => decide (j ∈ ns)) c ∧ c ≤ ns.length) quiet hl (fun I A1 now R q3 qu bI sI noS noI it lst atS mv kp out => ?_) (fun h' tk ⟨c, hS, hc⟩ k => fin h' tk c hS hc k)
  refine set_update_ints ((Walks.list q3 I b bI items).toS) s.heap.objs.size sI ns many hb (fun i v e => ?_) items.size 0 now (by omega) (Nat.zero_le _) ⟨it, lst⟩ ⟨0, Nat.le_refl _, setR_new_at atS⟩ fun s' c m hc hS => ?_
  · rw [← Array.getElem?_toList] at e
    obtain ⟨n, t, e1, e2⟩ := PyProof.Rows.IntsAre.at hi i v e
    exact ⟨n, t, e2, e1⟩
  · have m2 := Moved.trans (fun _ _ _ p q => q.trans p) mv m
    refine out s' m2 ⟨c, hS, by omega⟩ fun d o e => m2.heap d o (fun z => ?_) e
    rcases List.mem_cons.mp z with z | z
    · rw [z, noS] at e
      exact nomatch e
    · rw [List.mem_singleton.mp z, noI] at e
      exact nomatch e
end
end Lb

set_option Elab.async false
set_option linter.all false
set_option maxRecDepth 100000
set_option maxHeartbeats 4000000
namespace Lb
open PySem PySem.Spec PyProof.Rows L2
/-- the order of pairs -/
def nmLt (p q : Nm) : Bool := decide (p.1 < q.1 ∨ (p.1 = q.1 ∧ p.2.cps.toList < q.2.cps.toList))
def nmD (p : Nm) : PyData := .tuple [.int p.1, .str p.2]
theorem nm_alike (p q : Nm) : PySem.W.alike (nmD p) (nmD q) = true := by simp [nmD, PySem.W.alike, PySem.W.alikeAll]
theorem nmD_lt (p q : Nm) : PySem.W.dataLt (nmD p) (nmD q) = nmLt p q := by
  unfold nmD nmLt
  rw [PySem.W.dataLt_pair (by simp [PySem.W.alike]) (by simp [PySem.W.alike]), PySem.W.dataLt_int, PySem.W.dataLt_str]
  simp only [PyData.eqv]
  by_cases h1 : p.1 = q.1
  · simp only [h1, beq_self_eq_true, if_true, Int.lt_irrefl, false_or, true_and]
    by_cases h2 : p.2 = q.2
    · rw [h2]
      simp [List.lt_irrefl]
    · simp [h2]
  · simp [h1]
theorem nmLt_total {p q : Nm} (h1 : nmLt q p = false) (ne : p ≠ q) : nmLt p q = true := by
  unfold nmLt at *
  simp only [decide_eq_false_iff_not, decide_eq_true_eq] at *
  rcases Int.lt_trichotomy p.1 q.1 with c | c | c
  · exact .inl c
  · refine .inr ⟨c, ?_⟩
    rcases Classical.em (p.2.cps.toList < q.2.cps.toList) with d | d
    · exact d
    · have d2 : ¬ q.2.cps.toList < p.2.cps.toList := fun z => h1 (.inr ⟨c.symm, z⟩)
      have e : p.2.cps.toList = q.2.cps.toList := List.le_antisymm (List.not_lt.mp d2) (List.not_lt.mp d)
      exact absurd (Prod.ext c (PySem.W.str_of_cps e)) ne
  · exact absurd (.inl c) h1
section
variable {P : Program} {w : World} {A : Around} {E : Value → Shared → Prop} {s : Shared} {a : Addr} {l : List (Addr × Nm)} {rs : Array (Int × Value)} {ep : Nat} {t : SetTable}
theorem PrAt.reads {h : Heap} {p : Nm} {b : Addr} (x : PrAt P w h p b) : Reads h (.ref b) (nmD p) [] := by
  obtain ⟨o, its, cap, h1, h2, h3, h4⟩ := x
  obtain ⟨t, u, e⟩ := two_items h4
  have r : ReadsAll h its.toList [.int p.1, .str p.2] ([] ++ ([] ++ [])) := by
    rw [e]
    exact .cons (.int ..) (.cons (.str ..) .nil)
  exact .tuple h1 h2 h3 r
theorem PrAt.one {h : Heap} {p q : Nm} {b : Addr} (x : PrAt P w h p b) (y : PrAt P w h q b) : p = q := kk_inj (IsTupleKey.inj x y)
/-- sorted(s), s such a set -/
theorem sortedOf {Q : Value → Shared → Prop} (S : PSet P w s.heap a l rs ep t) (quiet : A.handled = none) (hu : A.units + 8 < cLine)
    (fin : ∀ now p (out : Array Value) (c : Nat) (l' : List (Addr × Nm)), (∀ b o, s.heap.get? b = some o → now.heap.get? b = some o) → now.gens = s.gens → now.os = s.os → s.heap.objs.size ≤ p →
      now.heap.get? p = some (seqObj "list" out c) → out.toList = l'.map (fun q => Value.ref q.1) → l'.Perm l → l'.Pairwise (fun q r => nmLt q.2 r.2 = true) → Q (.ref p) now) :
    wpAny (model P w) A (call (.builtin "sorted") [.ref a]) Q E s := by
  obtain ⟨o, ho, ex, dat⟩ := S.obj
  have n1 := S.count
  have n2 := S.four
  refine Calls.call_function_entry kind_sorted plain_sorted entry_sorted (args_sorted1 _) ?_
  unfold Builtin.«sorted»
  refine wpAny_bind (m := checkCount "sorted" 1 1 _) (wpAny_pure ?_)
  refine wpAny_bind (collect_set (A := A.in1) quiet ⟨o, ho, ex.1, dat⟩ S.fits (by unfold scanBound; omega) S.tab.ris S.led fun s1 vs k1 hz g1 o1 pm => ?_)
  have asRefs : rs.toList.map (·.2) = l.map fun q => Value.ref q.1 := by
    rw [S.rows, rowsP, List.map_map]
    rfl
  rw [asRefs] at pm
  -- the values, each with its pair
  have back : ∀ vs : List Value, (∀ v ∈ vs, ∃ q ∈ l, v = Value.ref q.1) → ∃ m : List (Addr × Nm), vs = m.map (fun q => Value.ref q.1) ∧ ∀ q ∈ m, q ∈ l := by
    intro vs
    induction vs with
    | nil => exact fun _ => ⟨[], rfl, fun _ z => nomatch z⟩
    | cons v vs ih =>
      intro each
      obtain ⟨q, hq, e⟩ := each v List.mem_cons_self
      obtain ⟨m, e2, sub⟩ := ih fun u hu => each u (List.mem_cons_of_mem _ hu)
      refine ⟨q :: m, by rw [List.map_cons, e, e2], fun r hr => ?_⟩
      rcases List.mem_cons.mp hr with z | z
      · rw [z]
        exact hq
      · exact sub r z
  have single : ∀ q ∈ l, ∀ r ∈ l, q.1 = r.1 → q = r := fun q hq r hr e => by
    have x := S.prs q hq
    rw [e] at x
    exact Prod.ext e (x.one (S.prs r hr))
  have dist : l.Nodup := List.Pairwise.of_map Prod.snd (fun _ _ ne e => ne (congrArg Prod.snd e)) S.uniq
  have permOf : ∀ m : List (Addr × Nm), (∀ q ∈ m, q ∈ l) → (m.map fun q => Value.ref q.1).Perm (l.map fun q => Value.ref q.1) → m.Perm l := by
    intro m sub pr
    have dr : (l.map fun q => Value.ref q.1).Nodup := by
      refine List.pairwise_map.mpr (List.Pairwise.imp_of_mem (fun {q r} hq hr ne e => ?_) dist)
      injection e with e
      exact ne (single q hq r hr e)
    have dm : m.Nodup := List.Pairwise.of_map (fun q => Value.ref q.1) (fun _ _ ne e => ne (congrArg (fun q : Addr × Nm => Value.ref q.1) e)) (pr.nodup_iff.mpr dr)
    refine (List.perm_ext_iff_of_nodup dm dist).mpr fun q => ⟨sub q, fun hq => ?_⟩
    obtain ⟨r, hr, e⟩ := List.mem_map.mp (pr.mem_iff.mpr (List.mem_map.mpr ⟨q, hq, rfl⟩))
    injection e with e
    rw [← single r (sub r hr) q hq e]
    exact hr
  obtain ⟨m, rfl, sub⟩ := back vs fun v hv => by
    obtain ⟨q, hq, e⟩ := List.mem_map.mp (pm.mem_iff.mp hv)
    exact ⟨q, hq, e.symm⟩
  have pml := permOf m sub pm
  have m4 : m.length ≤ 4 := by
    rw [pml.length_eq]
    exact n2
  refine wpAny_bind (wpAny_newList ?_ (by rw [List.length_map, sizeLine_eq]; omega))
  generalize hh : s1.heap.push (seqObj "list" (m.map fun q => Value.ref q.1).toArray 0) = h2
  have atL : h2.get? s1.heap.objs.size = some (seqObj "list" (m.map fun q => Value.ref q.1).toArray 0) := by
    rw [← hh]
    exact Heap.get?_push_size _ rfl
  have k2 : ∀ b o, s1.heap.get? b = some o → h2.get? b = some o := fun b o e => by
    rw [← hh]
    exact Heap.get?_push_of_some _ e
  have prs2 : ∀ q ∈ m, PrAt P w h2 q.2 q.1 := fun q hq => (S.prs q (sub q hq)).kept fun c o e => k2 c o (k1 c o e)
  have each : ∀ m' : List (Addr × Nm), (∀ q ∈ m', q ∈ m) → PySem.W.EachIs (fun v (q : Addr × Nm) => v = Value.ref q.1) (m'.map fun q => Value.ref q.1) m' ∧
      PySem.W.EachIs (fun v (q : Addr × Nm) => ∃ as, Reads h2 v (nmD q.2) as ∧ s1.heap.objs.size ∉ as) (m'.map fun q => Value.ref q.1) m' := by
    intro m'
    induction m' with
    | nil => exact fun _ => ⟨.nil, .nil⟩
    | cons q m' ih =>
      intro sb
      obtain ⟨i1, i2⟩ := ih fun r hr => sb r (List.mem_cons_of_mem _ hr)
      exact ⟨.cons rfl i1, .cons ⟨[], (prs2 q (sb q List.mem_cons_self)).reads, fun z => nomatch z⟩ i2⟩
  obtain ⟨e1, e2⟩ := each m fun _ z => z
  refine wpAny_bind (wpAny_holding (PySem.W.list_sort_data (s := { s1 with heap := h2 }) (bs := m) (enc := fun q => nmD q.2) (R := fun v q => v = Value.ref q.1) atL e1 e2 (.of fun b b' => nm_alike _ _)
    (.tuples fun b => ⟨_, _, rfl⟩) (by rw [sizeLine_eq]; omega) (fun b _ => ?_) fun out ol oe => ?_))
  · show A.in1.units + 1 + (nmD b.2).depth < cLine
    have d : (nmD b.2).depth ≤ 2 := by simp [nmD, PyData.depth, PyData.depthAll]
    have : A.in1.units ≤ A.units + 4 := by simp
    omega
  · obtain ⟨c, hc⟩ := PyProof.Rows.sortedHeap_at (vs := m.map fun q => Value.ref q.1) (out := out.toArray) atL
    have eo : out = (m.mergeSort (PySem.W.dataLe false fun q => nmD q.2)).map fun q => Value.ref q.1 := by
      have key : ∀ {o : List Value} {m' : List (Addr × Nm)}, PySem.W.EachIs (fun v (q : Addr × Nm) => v = Value.ref q.1) o m' → o = m'.map fun q => Value.ref q.1 := by
        intro o m' z
        induction z with
        | nil => rfl
        | cons h _ ih => rw [h, ih, List.map_cons]
      exact key oe
    have ps := List.mergeSort_perm m (PySem.W.dataLe false fun q => nmD q.2)
    have sorted := PySem.W.sort_pairwise (le := PySem.W.dataLe false fun q : Addr × Nm => nmD q.2) (PySem.W.sortLe_total (listOrd itemOrd) false fun q : Addr × Nm => PySem.W.keyToks (nmD q.2)) m
    refine wpAny_pure ⟨_, rfl, fin _ s1.heap.objs.size out.toArray c (m.mergeSort (PySem.W.dataLe false fun q => nmD q.2)) (fun b u e => ?_) g1 o1 hz hc (by rw [List.toList_toArray]; exact eo) (ps.trans pml) ?_⟩
    · have q := k1 b u e
      have lt := Heap.lt_size q
      show (sortedHeap h2 s1.heap.objs.size (m.map fun q => Value.ref q.1) out.toArray).get? b = some u
      rw [sortedHeap_old (Nat.ne_of_lt lt) (by rw [← hh, size_push']; exact Nat.lt_succ_of_lt lt)]
      exact k2 _ _ q
    · have un : ((m.mergeSort (PySem.W.dataLe false fun q => nmD q.2)).map Prod.snd).Nodup := (((ps.trans pml).map Prod.snd).nodup_iff).mpr S.uniq
      refine List.Pairwise.imp₂ (R := fun q r : Addr × Nm => PySem.W.dataLe false (fun q => nmD q.2) q r = true) (S := fun q r => q.2 ≠ r.2) (fun q r h ne => ?_) sorted (List.pairwise_map.mp un)
      refine nmLt_total ?_ ne
      have z : (!PySem.W.dataLt (nmD r.2) (nmD q.2)) = true := h
      rw [nmD_lt] at z
      simpa using z
/-! the two as rules of the layer -/
def PSet0 (P : Program) (w : World) (h : Heap) (a : Addr) (l : List (Addr × Nm)) : Prop := ∃ (rs : Array (Int × Value)) (ep : Nat) (t : SetTable), (∃ o, h.get? a = some o ∧ o.ExactSet ∧ o.data = .set rs ep t) ∧
  rs.toList = rowsP P w l ∧ TabOk t (l.map fun q => hsh P w q.2) ∧ (l.map Prod.snd).Nodup ∧ (w.params.followText "set-order" = true ∨ t.led = true) ∧ t.mask = 7 ∧ l.length ≤ 4
def PSetO (P : Program) (w : World) (a : Addr) (l : List (Addr × Nm)) : HO := .ext fun h => PSet0 P w h a l
theorem PSet.bare {h : Heap} (S : PSet P w h a l rs ep t) : PSet0 P w h a l := ⟨rs, ep, t, S.obj, S.rows, S.tab, S.uniq, S.led, S.mask, S.four⟩
theorem psetO_ok {H : Hp} {h : Heap} (S : PSet0 P w h a l) : ObjOk P w H h a (PSetO P w a l) := by
  have ⟨rs, ep, t, ⟨o, ho, r⟩, q⟩ := S
  refine ⟨S, ⟨o, ho⟩, fun h1 h2 p k => ?_⟩
  have ⟨rs', ep', t', ⟨o', ho', r'⟩, q'⟩ := p
  exact ⟨rs', ep', t', ⟨o', k o' ho', r'⟩, q'⟩
end
/-- the pair p stands at b as a tuple -/
def NmT (K : PySem.W.Frag) (H : Hp) (q : Addr × Nm) : Prop := SqT K H q.1 [V.int q.2.1, V.str q.2.2]
theorem refs_vals : ∀ {ks : List (Addr × Nm)} {us : List Value}, Vals (ks.map fun q => V.ref q.1) us → us = ks.map fun q => Value.ref q.1
  | [], _, .nil => rfl
  | q :: ks, _, .cons r t => by
    cases r
    rw [refs_vals t, List.map_cons]
theorem vals_refs : ∀ (ks : List (Addr × Nm)), Vals (ks.map fun q => V.ref q.1) (ks.map fun q => Value.ref q.1)
  | [] => .nil
  | q :: ks => .cons rfl (vals_refs ks)
section
variable {X : Cx}
theorem nmT_at {pins : List (Addr × Obj)} {σ : L2.St} {H : Hp} {s : Shared} {q : Addr × Nm} (I : L2.Inv X pins σ H s) (h : NmT X.K H q) : PrAt X.prog X.w s.heap q.2 q.1 := by
  obtain ⟨its, r, ⟨o, ho, hc, n, hd⟩, _⟩ := I.tuple h
  cases r with
  | cons r1 r2 =>
    cases r2 with
    | cons r3 r4 =>
      cases r4
      obtain ⟨t, rfl⟩ := r1
      obtain ⟨u, rfl⟩ := r3
      exact ⟨o, _, n, ho, hc, hd, .cons (mixKind_int _ _ _ t) (.cons (mixKind_str _ _ _ u) .nil)⟩
def rSetNm (K : PySem.W.Frag) (P : Program) (w : World) : List V → Hp → VK → Prop := fun xs H Q => ∃ (b : Addr) (ks : List (Addr × Nm)), xs = [V.ref b] ∧ SqL K H b (ks.map fun q => V.ref q.1) ∧ (∀ q ∈ ks, NmT K H q) ∧ ks.length ≤ 4 ∧
  ∀ a l, H a = none → (∀ q ∈ l, q ∈ ks) → (∀ q ∈ ks, q.2 ∈ l.map Prod.snd) → Q (.ref a) (upd H a (PSetO P w a l))
theorem cr_setNm (hc : X.calm = true) (hu : X.A.units + 64 < cLine) : CallR X (.type "set") (rSetNm X.K X.prog X.w) := by
  intro pins s σ H xs us Q I r h
  obtain ⟨b, ks, rfl, hl, hk, n4, q⟩ := h
  rw [Vals.ref1 r]
  obtain ⟨its, rv, pl, _⟩ := I.list hl
  have new : H s.heap.objs.size = none := I.hok.fresh (Nat.le_refl _)
  refine setOf (P := X.prog) (w := X.w) ks (I.ok.hd hc) pl.isList (by rw [List.toList_toArray]; exact refs_vals rv) (fun p hp => nmT_at I (hk p hp)) n4 (by omega) fun h' tk l rs ep t S took k => ?_
  refine ⟨.ref s.heap.objs.size, upd H s.heap.objs.size (PSetO X.prog X.w s.heap.objs.size l), I.laid (t' := tk) k (Nat.le_refl _) (psetO_ok S.bare), rfl, q _ l new (fun p hp => List.mem_of_mem_take (took.from_ p hp)) fun p hp => took.all p (by rw [List.take_length]; exact hp)⟩
def rSortNm (K : PySem.W.Frag) (P : Program) (w : World) : List V → Hp → VK → Prop := fun xs H Q => ∃ (a : Addr) (l : List (Addr × Nm)), xs = [V.ref a] ∧ H a = some (PSetO P w a l) ∧ (∀ q ∈ l, NmT K H q) ∧
  ∀ (l' : List (Addr × Nm)) (p : Addr), l'.Perm l → l'.Pairwise (fun q r => nmLt q.2 r.2 = true) → l'.length ≤ 4 → H p = none → Q (.ref p) (upd H p (.lst (l'.map fun q => V.ref q.1)))
theorem cr_sortNm (hc : X.calm = true) (hu : X.A.units + 64 < cLine) : CallR X (.builtin "sorted") (rSortNm X.K X.prog X.w) := by
  intro pins s σ H xs us Q I r h
  obtain ⟨a, l, rfl, ha, hk, q⟩ := h
  obtain ⟨rs, ep, t, c1, c2, c3, c4, c5, c6, c7⟩ : PSet0 X.prog X.w s.heap a l := (I.hok a _ ha).1
  have S : PSet X.prog X.w s.heap a l rs ep t := ⟨c1, c2, c3, c4, fun p hp => nmT_at I (hk p hp), c5, c6, c7⟩
  rw [Vals.ref1 r]
  refine sortedOf S (I.ok.hd hc) (by omega) fun now p out c l' k g o hp hg eo pm pw => ?_
  have l4 : l'.length ≤ 4 := by
    rw [pm.length_eq]
    exact c7
  have fits : (l'.map fun q => V.ref q.1).length ≤ sizeLine := by
    rw [List.length_map, sizeLine_eq]
    omega
  have new : H p = none := I.hok.fresh hp
  have vals : Vals (l'.map fun q => V.ref q.1) out.toList := by
    rw [eo]
    exact vals_refs l'
  obtain ⟨h', g', d', tk', os'⟩ := now
  obtain rfl : g' = s.gens := g
  obtain rfl : os' = s.os := o
  have J : L2.Inv X pins σ (upd H p (.lst (l'.map fun q => V.ref q.1))) { s with heap := h', gens := s.gens, drawn := d', toks := tk' } := I.call (ch := []) (Un.laid k hp new) (I.hok.laid k hp ⟨fits, out.toList, c, vals, hg⟩) I.bare (fun _ z => nomatch z)
  exact ⟨.ref p, _, J, rfl, q l' p pm pw l4 new⟩
/-- set(xs), xs a list of numbers -/
def rSetI (K : PySem.W.Frag) (w : World) : List V → Hp → VK → Prop := fun xs H Q => ∃ (b : Addr) (ns : List Int), xs = [V.ref b] ∧ SqL K H b (ns.map V.int) ∧ ns.length < 60 ∧ ∀ a c, H a = none → c ≤ ns.length → Q (.ref a) (upd H a (SetO w a (fun j => decide (j ∈ ns)) c))
theorem cr_setI (hc : X.calm = true) : CallR X (.type "set") (rSetI X.K X.w) := by
  intro pins s σ H xs us Q I r h
  obtain ⟨b, ns, rfl, hl, n60, q⟩ := h
  rw [Vals.ref1 r]
  obtain ⟨its, rv, pl, _⟩ := I.list hl
  have new : H s.heap.objs.size = none := I.hok.fresh (Nat.le_refl _)
  refine setOfInts (P := X.prog) (w := X.w) ns (I.ok.hd hc) pl.isList (by rw [List.toList_toArray]; exact rv.ints) (by unfold scanBound; omega) fun h' tk c S cn k => ?_
  exact ⟨.ref s.heap.objs.size, upd H s.heap.objs.size (SetO X.w s.heap.objs.size (fun j => decide (j ∈ ns)) c), I.laid (t' := tk) k (Nat.le_refl _) (setO_new S), rfl, q _ c new cn⟩
end
end Lb

set_option Elab.async false
set_option linter.all false
set_option maxRecDepth 100000
set_option maxHeartbeats 4000000
/-! values as data, in a heap of which one place (st) may change -/
namespace Lb
open PySem PySem.Spec PyProof.Rows L2
/-- all that stood stands, but for the places st -/
def But (st : List Addr) (H H' : Hp) : Prop := ∀ b o, b ∉ st → H b = some o → H' b = some o
theorem But.of {st : List Addr} {H H' : Hp} (s : Same H H') : But st H H' := fun b o _ e => s b o e
theorem But.refl {st : List Addr} {H : Hp} : But st H H := fun _ _ _ e => e
theorem But.trans {st : List Addr} {H H1 H2 : Hp} (a : But st H H1) (b : But st H1 H2) : But st H H2 := fun c o n e => b c o n (a c o n e)
theorem But.mono {st st' : List Addr} {H H' : Hp} (a : But st H H') (h : ∀ x ∈ st, x ∈ st') : But st' H H' := fun b o n e => a b o (fun z => n (h b z)) e
theorem But.upd {st : List Addr} {H H' : Hp} {x : Addr} {o : HO} (a : But st H H') (h : x ∈ st) : But st H (upd H' x o) := fun b u n e => by
  rw [upd_ne fun z => n (by rw [z]; exact h)]
  exact a b u n e
theorem But.new {st : List Addr} {H H' : Hp} {x : Addr} {o : HO} (a : But st H H') (h : H' x = none) : But st H (L2.upd H' x o) := a.trans (.of fun b u e => by rw [upd_ne (ne_of_none e h)]; exact e)
theorem But.at1 {x : Addr} {H H' : Hp} {b : Addr} {o : HO} (a : But [x] H H') (e : H b = some o) (n : b ≠ x) : H' b = some o := a b o (fun z => n (List.mem_singleton.mp z)) e
theorem same_new {H : Hp} {p : Addr} {o : HO} (np : H p = none) : Same H (upd H p o) := fun b u e => by rw [upd_ne (ne_of_none e np)]; exact e
theorem Same.to {H H1 : Hp} {p : Addr} {o : HO} (s : Same H H1) (np : H1 p = none) : Same H (upd H1 p o) := s.trans (same_new np)
theorem But.drop {st : List Addr} {H H' : Hp} {x : Addr} {o : HO} (a : But (x :: st) (L2.upd H x o) H') (h : H x = none) : But st H H' := fun b u n e =>
  a b u (fun z => (List.mem_cons.mp z).elim (ne_of_none e h) n) (by rw [upd_ne (ne_of_none e h)]; exact e)
mutual
/-- the value v reads as the data d; no list of it stands at st -/
inductive Rep (st : List Addr) (H : Hp) : V → PyData → Prop
  | non : Rep st H .non .none
  | bl (b : Bool) : Rep st H (.bl b) (.bool b)
  | int (i : Int) : Rep st H (.int i) (.int i)
  | str (x : Str) : Rep st H (.str x) (.str x)
  | tup {a : Addr} {xs : List V} {ds : List PyData} : H a = some (.tup xs) → a ∉ st → Reps st H xs ds → Rep st H (.ref a) (.tuple ds)
  | lst {a : Addr} {xs : List V} {ds : List PyData} : H a = some (.lst xs) → a ∉ st → Reps st H xs ds → Rep st H (.ref a) (.list ds)
  | dct {a : Addr} {kvs : List (Key × V)} : H a = some (.dK kvs) → a ∉ st → Rep st H (.ref a) (.dict [])
inductive Reps (st : List Addr) (H : Hp) : List V → List PyData → Prop
  | nil : Reps st H [] []
  | cons {v : V} {vs : List V} {d : PyData} {ds : List PyData} : Rep st H v d → Reps st H vs ds → Reps st H (v :: vs) (d :: ds)
end
mutual
theorem Rep.but {st : List Addr} {H H' : Hp} (k : But st H H') : ∀ (d : PyData) (v : V), Rep st H v d → Rep st H' v d
  | .none, _, .non => .non
  | .bool _, _, .bl b => .bl b
  | .int _, _, .int i => .int i
  | .str _, _, .str x => .str x
  | .tuple ds, _, .tup (xs := xs) h n r => .tup (k _ _ n h) n (Reps.but k ds xs r)
  | .list ds, _, .lst (xs := xs) h n r => .lst (k _ _ n h) n (Reps.but k ds xs r)
  | .dict _, _, .dct h n => .dct (k _ _ n h) n
theorem Reps.but {st : List Addr} {H H' : Hp} (k : But st H H') : ∀ (ds : List PyData) (vs : List V), Reps st H vs ds → Reps st H' vs ds
  | [], _, .nil => .nil
  | d :: ds, _, .cons r rs => .cons (Rep.but k d _ r) (Reps.but k ds _ rs)
end
section
variable {st : List Addr} {H H' : Hp} {v : V} {vs : List V} {d : PyData} {ds : List PyData}
theorem Rep.mv (r : Rep st H v d) (k : But st H H') : Rep st H' v d := Rep.but k d v r
theorem Reps.mv (r : Reps st H vs ds) (k : But st H H') : Reps st H' vs ds := Reps.but k ds vs r
theorem Rep.sm (r : Rep st H v d) (k : Same H H') : Rep st H' v d := r.mv (.of k)
theorem Reps.sm (r : Reps st H vs ds) (k : Same H H') : Reps st H' vs ds := r.mv (.of k)
theorem Reps.length : ∀ {vs : List V} {ds : List PyData}, Reps st H vs ds → vs.length = ds.length
  | _, _, .nil => rfl
  | _, _, .cons _ r => by rw [List.length_cons, List.length_cons, Reps.length r]
theorem Reps.get : ∀ {vs : List V} {ds : List PyData} {i : Nat} {x : V}, Reps st H vs ds → vs[i]? = some x → ∃ d, ds[i]? = some d ∧ Rep st H x d
  | _, _, _, _, .nil, e => by simp at e
  | _, _, 0, _, .cons r _, e => by simp at e; subst e; exact ⟨_, rfl, r⟩
  | _, _, i + 1, x, .cons _ t, e => by
    obtain ⟨u, h1, h2⟩ := Reps.get (i := i) (x := x) t (by simpa using e)
    exact ⟨u, by simpa using h1, h2⟩
theorem Reps.at_ : ∀ {vs : List V} {ds : List PyData} {i : Nat} {d : PyData}, Reps st H vs ds → ds[i]? = some d → ∃ x, vs[i]? = some x ∧ Rep st H x d
  | _, _, _, _, .nil, e => by simp at e
  | _, _, 0, _, .cons r _, e => by simp at e; subst e; exact ⟨_, rfl, r⟩
  | _, _, i + 1, x, .cons _ t, e => by
    obtain ⟨u, h1, h2⟩ := Reps.at_ (i := i) t (by simpa using e)
    exact ⟨u, by simpa using h1, h2⟩
theorem Reps.app : ∀ {vs ws : List V} {ds es : List PyData}, Reps st H vs ds → Reps st H ws es → Reps st H (vs ++ ws) (ds ++ es)
  | _, _, _, _, .nil, r => r
  | _, _, _, _, .cons a b, r => .cons a (Reps.app b r)
theorem Reps.one (r : Rep st H v d) : Reps st H [v] [d] := .cons r .nil
theorem Reps.cut : ∀ {vs : List V} {ds : List PyData} (n : Nat), Reps st H vs ds → Reps st H (vs.take n) (ds.take n)
  | _, _, 0, _ => .nil
  | _, _, _ + 1, .nil => .nil
  | _, _, n + 1, .cons r t => .cons r (Reps.cut n t)
theorem Reps.skip : ∀ {vs : List V} {ds : List PyData} (n : Nat), Reps st H vs ds → Reps st H (vs.drop n) (ds.drop n)
  | _, _, 0, r => r
  | _, _, _ + 1, .nil => .nil
  | _, _, n + 1, .cons _ t => Reps.skip n t
theorem Rep.tupI {a : Addr} (r : Rep st H (.ref a) (.tuple ds)) : ∃ xs, H a = some (.tup xs) ∧ a ∉ st ∧ Reps st H xs ds := by
  cases r with
  | tup h n r => exact ⟨_, h, n, r⟩
theorem Rep.tupV (r : Rep st H v (.tuple ds)) : ∃ a xs, v = .ref a ∧ H a = some (.tup xs) ∧ a ∉ st ∧ Reps st H xs ds := by
  cases r with
  | tup h n r => exact ⟨_, _, rfl, h, n, r⟩
theorem Rep.lstV (r : Rep st H v (.list ds)) : ∃ a xs, v = .ref a ∧ H a = some (.lst xs) ∧ a ∉ st ∧ Reps st H xs ds := by
  cases r with
  | lst h n r => exact ⟨_, _, rfl, h, n, r⟩
theorem Rep.intV {i : Int} (r : Rep st H v (.int i)) : v = .int i := by cases r; rfl
theorem Rep.strV {i : Str} (r : Rep st H v (.str i)) : v = .str i := by cases r; rfl
theorem Rep.blV {i : Bool} (r : Rep st H v (.bool i)) : v = .bl i := by cases r; rfl
theorem Rep.nonV (r : Rep st H v .none) : v = .non := by cases r; rfl
end
mutual
theorem Rep.more {st : List Addr} {H : Hp} {x : Addr} (nx : H x = none) : ∀ (d : PyData) (v : V), Rep st H v d → Rep (x :: st) H v d
  | .none, _, .non => .non
  | .bool _, _, .bl b => .bl b
  | .int _, _, .int i => .int i
  | .str _, _, .str x => .str x
  | .tuple ds, _, .tup (xs := xs) h n r => .tup h (fun z => (List.mem_cons.mp z).elim (ne_of_none h nx) n) (Reps.more nx ds xs r)
  | .list ds, _, .lst (xs := xs) h n r => .lst h (fun z => (List.mem_cons.mp z).elim (ne_of_none h nx) n) (Reps.more nx ds xs r)
  | .dict _, _, .dct h n => .dct h (fun z => (List.mem_cons.mp z).elim (ne_of_none h nx) n)
theorem Reps.more {st : List Addr} {H : Hp} {x : Addr} (nx : H x = none) : ∀ (ds : List PyData) (vs : List V), Reps st H vs ds → Reps (x :: st) H vs ds
  | [], _, .nil => .nil
  | d :: ds, _, .cons r rs => .cons (Rep.more nx d _ r) (Reps.more nx ds _ rs)
end
mutual
theorem Rep.less {st st' : List Addr} {H : Hp} (k : ∀ a ∈ st', a ∈ st) : ∀ (d : PyData) (v : V), Rep st H v d → Rep st' H v d
  | .none, _, .non => .non
  | .bool _, _, .bl b => .bl b
  | .int _, _, .int i => .int i
  | .str _, _, .str x => .str x
  | .tuple ds, _, .tup (xs := xs) h n r => .tup h (fun z => n (k _ z)) (Reps.less k ds xs r)
  | .list ds, _, .lst (xs := xs) h n r => .lst h (fun z => n (k _ z)) (Reps.less k ds xs r)
  | .dict _, _, .dct h n => .dct h (fun z => n (k _ z))
theorem Reps.less {st st' : List Addr} {H : Hp} (k : ∀ a ∈ st', a ∈ st) : ∀ (ds : List PyData) (vs : List V), Reps st H vs ds → Reps st' H vs ds
  | [], _, .nil => .nil
  | d :: ds, _, .cons r rs => .cons (Rep.less k d _ r) (Reps.less k ds _ rs)
end
theorem But.own {st : List Addr} {H H' : Hp} {x : Addr} {o : HO} (a : But st H H') (h : H x = none) : But st H (L2.upd H' x o) := fun b u n e => by
  rw [upd_ne (ne_of_none e h)]
  exact a b u n e
mutual
/-- no list and no dict in it -/
def noLst : PyData → Bool
  | .list _ => false
  | .dict _ => false
  | .tuple ds => noLsts ds
  | _ => true
def noLsts : List PyData → Bool
  | [] => true
  | d :: ds => noLst d && noLsts ds
end
mutual
theorem Rep.avoid {st : List Addr} {H : Hp} {x : Addr} {xs : List V} (hx : H x = some (.lst xs)) : ∀ (d : PyData) (v : V), noLst d = true → Rep st H v d → Rep (x :: st) H v d
  | .none, _, _, .non => .non
  | .bool _, _, _, .bl b => .bl b
  | .int _, _, _, .int i => .int i
  | .str _, _, _, .str x => .str x
  | .tuple ds, _, z, .tup (xs := ys) h n r => .tup h (fun m => (List.mem_cons.mp m).elim (ne_of h hx (fun q => nomatch q)) n) (Reps.avoid hx ds ys z r)
  | .list ds, _, z, .lst h n r => nomatch z
  | .dict _, _, z, .dct h n => nomatch z
theorem Reps.avoid {st : List Addr} {H : Hp} {x : Addr} {xs : List V} (hx : H x = some (.lst xs)) : ∀ (ds : List PyData) (vs : List V), noLsts ds = true → Reps st H vs ds → Reps (x :: st) H vs ds
  | [], _, _, .nil => .nil
  | d :: ds, _, z, .cons r rs => .cons (Rep.avoid hx d _ (Bool.and_eq_true_iff.mp z).1 r) (Reps.avoid hx ds _ (Bool.and_eq_true_iff.mp z).2 rs)
end
/-- the built-in class of what reads so -/
def tyN : PyData → String
  | .none => "NoneType" | .bool _ => "bool" | .int _ => "int" | .str _ => "str" | .tuple _ => "tuple" | .list _ => "list" | .dict _ => "dict"
theorem Rep.ty {K : PySem.W.Frag} {st : List Addr} {H : Hp} {v : V} {d : PyData} (r : Rep st H v d) : TyX K H v (.type (tyN d)) := by
  cases r with
  | non => exact .base .non
  | bl b => exact .base (.bl b)
  | int i => exact .base (.int i)
  | str x => exact .base (.str x)
  | tup h _ _ => exact .base (.tup h)
  | lst h _ _ => exact .base (.lst h)
  | dct h _ => exact .base (.dK h)
def isTup : PyData → Bool
  | .tuple _ => true
  | _ => false
def isInt : PyData → Bool
  | .int _ => true
  | .bool _ => true
  | _ => false
def isBl : PyData → Bool
  | .bool _ => true
  | _ => false
def isStr : PyData → Bool
  | .str _ => true
  | _ => false
def isLst : PyData → Bool
  | .list _ => true
  | _ => false
theorem kit_tup (d : PyData) : kitB (tyN d) "tuple" = some (isTup d) := by cases d <;> (dsimp only [tyN, isTup]; decide +kernel)
theorem kit_int (d : PyData) : kitB (tyN d) "int" = some (isInt d) := by cases d <;> (dsimp only [tyN, isInt]; decide +kernel)
theorem kit_bool (d : PyData) : kitB (tyN d) "bool" = some (isBl d) := by cases d <;> (dsimp only [tyN, isBl]; decide +kernel)
theorem kit_str (d : PyData) : kitB (tyN d) "str" = some (isStr d) := by cases d <;> (dsimp only [tyN, isStr]; decide +kernel)
theorem kit_list (d : PyData) : kitB (tyN d) "list" = some (isLst d) := by cases d <;> (dsimp only [tyN, isLst]; decide +kernel)
section
variable {X : Cx}
/-- isinstance(x, T), x any such value, T a built-in class -/
def rIsD : List V → Hp → VK → Prop := fun xs H Q => ∃ (v : V) (T : String) (st : List Addr) (d : PyData) (b : Bool), xs = [v, .ty T] ∧ Rep st H v d ∧ kitB (tyN d) T = some b ∧ Q (.bl b) H
theorem call_isiD : CallR X (.builtin "isinstance") rIsD := by
  intro pins s σ H xs us Q I r h
  obtain ⟨v, T, st, d, b, rfl, hr, hk, q⟩ := h
  exact call_isi pins s σ H _ us Q I r ⟨v, .ty T, _, _, _, rfl, .ty T, hr.ty, kit_ty hk, q⟩
end
mutual
/-- such data without dicts and any reading of it -/
def noDict : PyData → Bool
  | .dict _ => false
  | .tuple ds => noDicts ds
  | .list ds => noDicts ds
  | _ => true
def noDicts : List PyData → Bool
  | [] => true
  | d :: ds => noDict d && noDicts ds
end
mutual
theorem Rep.dp {K : PySem.W.Frag} {st : List Addr} {H : Hp} : ∀ (d : PyData) (v : V), noDict d = true → Rep st H v d → Dp K H v d
  | .none, _, _, .non => .non
  | .bool _, _, _, .bl b => .bl b
  | .int _, _, _, .int i => .int i
  | .str _, _, _, .str x => .str x
  | .tuple ds, _, z, .tup (xs := xs) h _ r => .tup (SqT.of h) (Reps.dp ds xs (z) r)
  | .list ds, _, z, .lst (xs := xs) h _ r => .lst (SqL.of h) (Reps.dp ds xs (z) r)
  | .dict _, _, z, .dct h n => absurd z (by simp [noDict])
theorem Reps.dp {K : PySem.W.Frag} {st : List Addr} {H : Hp} : ∀ (ds : List PyData) (vs : List V), noDicts ds = true → Reps st H vs ds → DpAll K H vs ds
  | [], _, _, .nil => .nil
  | d :: ds, _, z, .cons r rs => by
    have z2 : noDict d = true ∧ noDicts ds = true := by simpa [noDicts] using z
    exact .cons (Rep.dp d _ z2.1 r) (Reps.dp ds _ z2.2 rs)
end
section
variable {X : Cx}
/-- a < b for alike data -/
def rLtD (K : PySem.W.Frag) : R2 := fun x y H Q => ∃ d e, Dp K H x d ∧ Dp K H y e ∧ PySem.W.alike d e = true ∧ d ≠ .none ∧ d.depth ≤ 64 ∧ Q (.bl (PySem.W.dataLt d e)) H
theorem op_ltD (hu : X.A.units + 64 < cLine) : OpR X (compareOp .Lt) (rLtD X.K) := by
  intro pins s σ H x y v u Q I rx ry h
  obtain ⟨d, e, hd, he, al, nn, dep, q⟩ := h
  obtain ⟨as, r1⟩ := Dp.reads I d x v hd rx
  obtain ⟨bs, r2⟩ := Dp.reads I e y u he ry
  exact PySem.W.rcLt_alike d e X.A s v u as bs r1 r2 al nn (by omega) X.prog X.w _ _ ⟨.bl _, H, I, rfl, q⟩
end
/-- zip of two tuples, walked -/
theorem walk_zipT {K : PySem.W.Frag} {a b : Addr} {xs ys : List V} {n : Nat} (hn : n = min xs.length ys.length) : Walk (RZ.ItzT K a b) n (fun H => SqT K H a xs ∧ SqT K H b ys) (YPair (fun i => xs[i]?) (fun i => ys[i]?)) := by
  subst hn
  refine ⟨fun i _ hi q => ?_, fun _ q => ⟨xs, ys, q.1, q.2, by omega⟩, fun i H v H' _ q y => ?_⟩
  · have c1 : i < xs.length := by omega
    have c2 : i < ys.length := by omega
    exact ⟨xs, ys, xs[i], ys[i], q.1, q.2, List.getElem?_eq_getElem c1, List.getElem?_eq_getElem c2⟩
  · obtain ⟨T, x, z, h1, h2, h3, h4, h5⟩ := y
    exact ⟨T, x, z, h1, h2, h3, h4 xs q.1, h5 ys q.2⟩
/-- a comprehension whose turns change nothing that stands: y i is what turn i gives -/
theorem lc_pure {J : It} {n : Nat} {G : Hp → Prop} {Y : Nat → Hp → V → Hp → Prop} (w : Walk J n G Y) {g : TG} {te : TE} {vs : List Nat} {σ : L2.St} {H1 : Hp} {D : Addr} {Qd : Hp → Prop} (nD : H1 D = none) (y : Nat → V) (few : n < sizeLine)
    (hG : ∀ H', Same H1 H' → G H') (hs : ∀ i x H' H'' (F : V → Hp → Prop), i < n → Same H1 H' → Y i H' x H'' → (∀ H3, Same H' H3 → F (y i) H3) → g x (wipe σ vs) H'' fun σ2 H2 => wipe σ2 vs = wipe σ vs ∧ te σ2 H2 F)
    (hd : ∀ H', Same H1 H' → H' D = some (.lst ((List.range n).map y)) → Qd H') :
    ∃ W : Nat → Nat → Hp → Prop, (∃ m, W 0 m (upd H1 D (.lst []))) ∧ ∀ i m H, W i m H →
      (J.stop i H ∧ Qd H) ∨ (J.go i H ∧ ∃ Nx : Hp → Prop, (∀ H', Nx H' → ∃ m', m' < m ∧ W (i + 1) m' H') ∧ ∀ x H', J.yld i H x H' → g x (wipe σ vs) H' fun σ2 H2 => wipe σ2 vs = wipe σ vs ∧ tYes σ2 H2 fun b H3 =>
        if b = true then te σ2 H3 fun y H4 => ∃ acc, H4 D = some (.lst acc) ∧ acc.length < sizeLine ∧ Nx (upd H4 D (.lst (acc ++ [y]))) else Nx H3) := by
  refine lc_it w (fun i H' => Same H1 H' ∧ H' D = some (.lst ((List.range i).map y))) ⟨same_new nD, upd_same⟩ (fun i H' _ p => hG H' p.1) (fun i x H' H'' hi p hy => ?_) (fun H' p => hd H' p.1 p.2)
  obtain ⟨s1, d1⟩ := p
  refine hs i x H' H'' _ hi s1 hy fun H3 s3 => ⟨_, s3 _ _ d1, ?_, ?_, ?_⟩
  · rw [List.length_map, List.length_range]
    omega
  · intro b o e
    have nb : b ≠ D := fun z => by rw [z, nD] at e; cases e
    rw [upd_ne nb]
    exact s3 _ _ (s1 _ _ e)
  · rw [upd_same, List.range_succ, List.map_append, List.map_singleton]
end Lb
namespace Lb
open PySem PySem.Spec PyProof.Rows L2
/-! rules whose reading names the written part by itself (they stand within comprehensions) -/
def rLen2 (K : PySem.W.Frag) : List V → Hp → VK → Prop := fun xs H Q => ∃ p ys, xs = [V.ref p] ∧ (SqL K H p ys ∨ SqT K H p ys) ∧ Q (.int ys.length) H
theorem len_k {X : Cx} : CallR X (.builtin "len") (rLen2 X.K) := call_len_seq
end Lb
namespace Lb
open PySem PySem.Spec PyProof.Rows L2
/-! two clauses in one comprehension -/
theorem lc2_in {J1 : It} {n1 : Nat} {G1 : Hp → Prop} {Y1 : Nat → Hp → V → Hp → Prop} (w1 : Walk J1 n1 G1 Y1) {g1 : TG} {tt1 : TT} {te : TE} {vs1 : List Nat} {σ2 : L2.St} {H4 : Hp} {D : Addr} {N : Hp → Prop} (P1 : Nat → Hp → Prop) (h0 : P1 0 H4) (hG : ∀ j H, j ≤ n1 → P1 j H → G1 H)
    (hs : ∀ j x H H', j < n1 → P1 j H → Y1 j H x H' → g1 x (wipe σ2 vs1) H' fun σ3 H5 => wipe σ3 vs1 = wipe σ2 vs1 ∧ tt1 σ3 H5 fun b H6 =>
      if b = true then te σ3 H6 fun y H7 => ∃ acc, H7 D = some (.lst acc) ∧ acc.length < sizeLine ∧ P1 (j + 1) (upd H7 D (.lst (acc ++ [y]))) else P1 (j + 1) H6) (hd : ∀ H, P1 n1 H → N H) :
    ∃ W1 : Nat → Nat → Hp → Prop, (∃ m, W1 0 m H4) ∧ ∀ j k H, W1 j k H →
      (J1.stop j H ∧ N H) ∨ (J1.go j H ∧ ∃ Nx1 : Hp → Prop, (∀ H', Nx1 H' → ∃ k', k' < k ∧ W1 (j + 1) k' H') ∧ ∀ x H', J1.yld j H x H' → g1 x (wipe σ2 vs1) H' fun σ3 H5 => wipe σ3 vs1 = wipe σ2 vs1 ∧ tt1 σ3 H5 fun b H6 =>
        if b = true then te σ3 H6 fun y H7 => ∃ acc, H7 D = some (.lst acc) ∧ acc.length < sizeLine ∧ Nx1 (upd H7 D (.lst (acc ++ [y]))) else Nx1 H6) := by
  refine ⟨fun j m H => m = n1 - j ∧ j ≤ n1 ∧ P1 j H, ⟨n1, by omega, Nat.zero_le _, h0⟩, fun j m H p => ?_⟩
  obtain ⟨rfl, hj, p⟩ := p
  have q := hG j H hj p
  rcases Nat.lt_or_ge j n1 with lt | ge
  · exact .inr ⟨w1.goes j H lt q, P1 (j + 1), fun H' p' => ⟨n1 - (j + 1), by omega, rfl, lt, p'⟩, fun x H' y => hs j x H H' lt p (w1.yields j H x H' lt q y)⟩
  · obtain rfl : j = n1 := Nat.le_antisymm hj ge
    exact .inl ⟨w1.stops H q, hd H p⟩
theorem lc2_out {J : It} {n : Nat} {G : Hp → Prop} {Y : Nat → Hp → V → Hp → Prop} (w : Walk J n G Y) {g g1 : TG} {tt tt1 : TT} {wi1 : TI} {te : TE} {vs vs1 : List Nat} {σ : L2.St} {H1 : Hp} {D : Addr} {Qd : Hp → Prop} (Pv : Nat → Hp → Prop) (h0 : Pv 0 (upd H1 D (.lst []))) (hG : ∀ i H, i ≤ n → Pv i H → G H)
    (hs : ∀ i x H H', i < n → Pv i H → Y i H x H' → g x (wipe σ vs) H' fun σ2 H2 => wipe σ2 vs = wipe σ vs ∧ tt σ2 H2 fun b H3 =>
      if b = true then wi1 σ2 H3 fun J1 H4 => ∃ W1 : Nat → Nat → Hp → Prop, (∃ m, W1 0 m H4) ∧ ∀ j k H, W1 j k H →
        (J1.stop j H ∧ Pv (i + 1) H) ∨ (J1.go j H ∧ ∃ Nx1 : Hp → Prop, (∀ H', Nx1 H' → ∃ k', k' < k ∧ W1 (j + 1) k' H') ∧ ∀ x H', J1.yld j H x H' → g1 x (wipe σ2 vs1) H' fun σ3 H5 => wipe σ3 vs1 = wipe σ2 vs1 ∧ tt1 σ3 H5 fun b H6 =>
          if b = true then te σ3 H6 fun y H7 => ∃ acc, H7 D = some (.lst acc) ∧ acc.length < sizeLine ∧ Nx1 (upd H7 D (.lst (acc ++ [y]))) else Nx1 H6)
      else Pv (i + 1) H3) (hd : ∀ H, Pv n H → Qd H) :
    ∃ W : Nat → Nat → Hp → Prop, (∃ m, W 0 m (upd H1 D (.lst []))) ∧ ∀ i m H, W i m H →
      (J.stop i H ∧ Qd H) ∨ (J.go i H ∧ ∃ Nx : Hp → Prop, (∀ H', Nx H' → ∃ m', m' < m ∧ W (i + 1) m' H') ∧ ∀ x H', J.yld i H x H' → g x (wipe σ vs) H' fun σ2 H2 => wipe σ2 vs = wipe σ vs ∧ tt σ2 H2 fun b H3 =>
        if b = true then wi1 σ2 H3 fun J1 H4 => ∃ W1 : Nat → Nat → Hp → Prop, (∃ m, W1 0 m H4) ∧ ∀ j k H, W1 j k H →
          (J1.stop j H ∧ Nx H) ∨ (J1.go j H ∧ ∃ Nx1 : Hp → Prop, (∀ H', Nx1 H' → ∃ k', k' < k ∧ W1 (j + 1) k' H') ∧ ∀ x H', J1.yld j H x H' → g1 x (wipe σ2 vs1) H' fun σ3 H5 => wipe σ3 vs1 = wipe σ2 vs1 ∧ tt1 σ3 H5 fun b H6 =>
            if b = true then te σ3 H6 fun y H7 => ∃ acc, H7 D = some (.lst acc) ∧ acc.length < sizeLine ∧ Nx1 (upd H7 D (.lst (acc ++ [y]))) else Nx1 H6)
        else Nx H3) := by
  refine ⟨fun i m H => m = n - i ∧ i ≤ n ∧ Pv i H, ⟨n, by omega, Nat.zero_le _, h0⟩, fun i m H p => ?_⟩
  obtain ⟨rfl, hi, p⟩ := p
  have q := hG i H hi p
  rcases Nat.lt_or_ge i n with lt | ge
  · exact .inr ⟨w.goes i H lt q, Pv (i + 1), fun H' p' => ⟨n - (i + 1), by omega, rfl, lt, p'⟩, fun x H' y => hs i x H H' lt p (w.yields i H x H' lt q y)⟩
  · obtain rfl : i = n := Nat.le_antisymm hi ge
    exact .inl ⟨w.stops H q, hd H p⟩
end Lb

set_option Elab.async false
set_option linter.all false
set_option maxRecDepth 100000
set_option maxHeartbeats 4000000
/-! the data of the programs that the laws draw: names, needs, rows -/
namespace Lb
open PySem PySem.Spec PyProof.Rows L2
def letters : List Str := ["a", "b", "c", "d"]
/-- a name of a program of c parts -/
def nmOk (c : Int) (p : Nm) : Prop := 0 ≤ p.1 ∧ p.1 < c ∧ p.2 ∈ letters
theorem letter_at {v : Int} (h0 : 0 ≤ v) (h1 : v < 4) : ∃ c, atI ("abcd" : Str).cps.toList v = some c ∧ (⟨#[c]⟩ : Str) ∈ letters := by
  rcases (by omega : v = 0 ∨ v = 1 ∨ v = 2 ∨ v = 3) with e | e | e | e <;> subst e
  · exact ⟨97, by decide +kernel, by decide +kernel⟩
  · exact ⟨98, by decide +kernel, by decide +kernel⟩
  · exact ⟨99, by decide +kernel, by decide +kernel⟩
  · exact ⟨100, by decide +kernel, by decide +kernel⟩
def isNms (c : Int) (ds : List PyData) (ps : List Nm) : Prop := ds = ps.map nmD ∧ ∀ p ∈ ps, nmOk c p
theorem isNms.at_ {c : Int} {ds : List PyData} {ps : List Nm} (h : isNms c ds ps) {i : Nat} {d : PyData} (e : ds[i]? = some d) : ∃ p, ps[i]? = some p ∧ d = nmD p ∧ nmOk c p := by
  rw [h.1, List.getElem?_map] at e
  obtain ⟨p, hp, e2⟩ := Option.map_eq_some_iff.mp e
  exact ⟨p, hp, e2.symm, h.2 p (List.mem_of_getElem? hp)⟩
def needsD (ps : List Nm) : PyData := .tuple (ps.map nmD)
def needsOk (c : Int) (m : Nat) (ps : List Nm) : Prop := ps.length ≤ m ∧ ∀ p ∈ ps, nmOk c p
/-- the rows -/
inductive Row where
  | load (p : Int) | give (n : Str) (ns : List Nm) (r : Bool) | pass (n : Str) (p : Int) (o : Str) | show_ (ns : List Nm) (r : Bool) | out | late (n : Str) (p : Int) (ns : List Nm)
def Row.word : Row → Str
  | .load _ => "load" | .give .. => "give" | .pass .. => "pass" | .show_ .. => "show" | .out => "out" | .late .. => "late"
def Row.d : Row → PyData
  | .load p => .tuple [.str "load", .int p]
  | .give n ns r => .tuple [.str "give", .str n, needsD ns, .bool r]
  | .pass n p o => .tuple [.str "pass", .str n, .int p, .str o]
  | .show_ ns r => .tuple [.str "show", needsD ns, .bool r]
  | .out => .tuple [.str "out"]
  | .late n p ns => .tuple [.str "late", .str n, .int p, needsD ns]
def Row.ok (c : Int) : Row → Prop
  | .load p => 0 ≤ p ∧ p < c
  | .give n ns _ => n ∈ letters ∧ needsOk c 1 ns
  | .pass n p o => n ∈ letters ∧ (0 ≤ p ∧ p < c) ∧ o ∈ letters
  | .show_ ns _ => needsOk c 2 ns
  | .out => True
  | .late n p ns => n ∈ letters ∧ (-1 ≤ p ∧ p < c) ∧ needsOk c 2 ns
def wordsOf : List Str := ["give", "show", "load", "pass", "late", "out"]
/-- a plan of a row -/
structure Plan where
  (w n : Str) (p : Int) (o : Str)
def Plan.d (x : Plan) : PyData := .tuple [.str x.w, .str x.n, .int x.p, .str x.o]
def Plan.ok (c : Int) (x : Plan) : Prop := x.w ∈ wordsOf ∧ x.n ∈ letters ∧ (0 ≤ x.p ∧ x.p < c) ∧ x.o ∈ letters
end Lb
namespace Lb
open PySem PySem.Spec PyProof.Rows L2
/-! the plans of all parts -/
theorem names_cut {v : Int} (h0 : 0 ≤ v) (h1 : v < 4) : ∃ z : Str, cutS ("abcd" : Str) none (some (1 + v)) = z ∧ (z.length : Int) = 1 + v ∧ ∀ u : Int, 0 ≤ u → u < 1 + v → ∃ c, atI z.cps.toList u = some c ∧ (⟨#[c]⟩ : Str) ∈ letters := by
  rcases (by omega : v = 0 ∨ v = 1 ∨ v = 2 ∨ v = 3) with e | e | e | e <;> subst e
  · refine ⟨"a", by decide +kernel, by decide +kernel, fun u u0 u1 => ?_⟩
    rcases (by omega : u = 0) with e
    subst e
    exact ⟨97, by decide +kernel, by decide +kernel⟩
  · refine ⟨"ab", by decide +kernel, by decide +kernel, fun u u0 u1 => ?_⟩
    rcases (by omega : u = 0 ∨ u = 1) with e | e <;> subst e
    · exact ⟨97, by decide +kernel, by decide +kernel⟩
    · exact ⟨98, by decide +kernel, by decide +kernel⟩
  · refine ⟨"abc", by decide +kernel, by decide +kernel, fun u u0 u1 => ?_⟩
    rcases (by omega : u = 0 ∨ u = 1 ∨ u = 2) with e | e | e <;> subst e
    · exact ⟨97, by decide +kernel, by decide +kernel⟩
    · exact ⟨98, by decide +kernel, by decide +kernel⟩
    · exact ⟨99, by decide +kernel, by decide +kernel⟩
  · refine ⟨"abcd", by decide +kernel, by decide +kernel, fun u u0 u1 => ?_⟩
    rcases (by omega : u = 0 ∨ u = 1 ∨ u = 2 ∨ u = 3) with e | e | e | e <;> subst e
    · exact ⟨97, by decide +kernel, by decide +kernel⟩
    · exact ⟨98, by decide +kernel, by decide +kernel⟩
    · exact ⟨99, by decide +kernel, by decide +kernel⟩
    · exact ⟨100, by decide +kernel, by decide +kernel⟩
def lineD (xs : List Plan) : PyData := .list (xs.map Plan.d)
def words17 : List Str := ["give", "show", "load", "pass", "late", "out", "give", "show", "load", "pass", "late", "out", "give", "show", "load", "pass", "give"]
theorem word_at {v : Int} (h0 : 0 ≤ v) (h1 : v < 17) : ∃ x, atI (words17.map V.str) v = some (.str x) ∧ x ∈ wordsOf := by
  have lt : v.toNat < words17.length := by
    show v.toNat < 17
    omega
  have e := atI_nat (xs := words17.map V.str) (j := v.toNat) (v := .str words17[v.toNat]) (by rw [List.getElem?_map, List.getElem?_eq_getElem lt]; rfl)
  rw [Int.toNat_of_nonneg h0] at e
  refine ⟨_, e, ?_⟩
  have all : ∀ x ∈ words17, x ∈ wordsOf := by decide +kernel
  exact all _ (List.getElem_mem lt)
def isOut (x : Plan) : Bool := decide (x.w = "out")
def outsIn (xs : List Plan) : Nat := xs.countP isOut
def totalOf (ls : List (List Plan)) : Nat := ls.flatten.length
def outsOf (ls : List (List Plan)) : Nat := outsIn ls.flatten
structure LinesOk (c : Int) (ls : List (List Plan)) : Prop where
  five : ∀ l ∈ ls, l.length ≤ 5
  ok : ∀ l ∈ ls, ∀ x ∈ l, x.ok c
  total : totalOf ls ≤ 12
  outs : outsOf ls ≤ 2
theorem total_snoc (ls : List (List Plan)) (l : List Plan) : totalOf (ls ++ [l]) = totalOf ls + l.length := by simp [totalOf]
theorem outs_snoc (ls : List (List Plan)) (l : List Plan) : outsOf (ls ++ [l]) = outsOf ls + outsIn l := by simp [outsOf, outsIn]
theorem outsIn_snoc (l : List Plan) (x : Plan) : outsIn (l ++ [x]) = outsIn l + (if x.w = "out" then 1 else 0) := by
  simp only [outsIn, List.countP_append, List.countP_singleton, isOut, decide_eq_true_eq]
end Lb
namespace Lb
open PySem PySem.Spec PyProof.Rows L2
/-! whole programs -/
theorem nms_keys {S : List Addr} {H : Hp} : ∀ {vs : List V} {ps : List Nm}, Reps S H vs (ps.map nmD) → ∃ ks : List (Addr × Nm), vs = ks.map (fun q => V.ref q.1) ∧ ks.map Prod.snd = ps ∧ ∀ q ∈ ks, H q.1 = some (.tup [.int q.2.1, .str q.2.2]) ∧ q.1 ∉ S
  | _, [], .nil => ⟨[], rfl, rfl, fun _ z => nomatch z⟩
  | _, p :: ps, .cons r rs => by
    obtain ⟨ks, e1, e2, h⟩ := nms_keys rs
    obtain ⟨a, xs, rfl, ha, na, ra⟩ := Rep.tupV r
    have exs : xs = [.int p.1, .str p.2] := by
      cases ra with
      | cons r1 ra => cases ra with
        | cons r2 ra => cases ra; rw [r1.intV, r2.strV]
    subst exs
    refine ⟨(a, p) :: ks, by rw [e1, List.map_cons], by rw [List.map_cons, e2], fun q hq => ?_⟩
    rcases List.mem_cons.mp hq with z | z
    · rw [z]
      exact ⟨ha, na⟩
    · exact h q z
theorem keys_nms {S : List Addr} {H : Hp} : ∀ (ks : List (Addr × Nm)), (∀ q ∈ ks, H q.1 = some (.tup [.int q.2.1, .str q.2.2]) ∧ q.1 ∉ S) → Reps S H (ks.map fun q => V.ref q.1) ((ks.map Prod.snd).map nmD)
  | [], _ => .nil
  | q :: ks, h => .cons (.tup (h q List.mem_cons_self).1 (h q List.mem_cons_self).2 (.cons (.int _) (.cons (.str _) .nil))) (keys_nms ks fun r hr => h r (List.mem_cons_of_mem _ hr))
theorem bls_rep {S : List Addr} {H : Hp} : ∀ bs : List Bool, Reps S H (bs.map V.bl) (bs.map .bool)
  | [] => .nil
  | b :: bs => .cons (.bl b) (bls_rep bs)
theorem ints_rep {S : List Addr} {H : Hp} : ∀ ns : List Int, Reps S H (ns.map V.int) (ns.map .int)
  | [] => .nil
  | n :: ns => .cons (.int n) (ints_rep ns)
def rowsD (rs : List Row) : PyData := .tuple (rs.map Row.d)
structure Prog where
  parts : List (List Row)
  marks : List Bool
  entries : List Int
  opens : List Nm
def Prog.d (P : Prog) : PyData := .tuple [.tuple (P.parts.map rowsD), .tuple (P.marks.map .bool), .tuple (P.entries.map .int), needsD P.opens]
def Prog.c (P : Prog) : Int := P.parts.length
structure Prog.Ok (P : Prog) : Prop where
  one : 1 ≤ P.parts.length
  four : P.parts.length ≤ 4
  five : ∀ rs ∈ P.parts, rs.length ≤ 5
  twelve : P.parts.flatten.length ≤ 12
  outs : (P.parts.flatten.map Row.word).countP (fun w : Str => decide (w = ("out" : Str))) ≤ 2
  rows : ∀ rs ∈ P.parts, ∀ r ∈ rs, r.ok P.c
  marks : P.marks.length = P.parts.length
  ent1 : 1 ≤ P.entries.length
  ent3 : P.entries.length ≤ 3
  entIn : ∀ e ∈ P.entries, 0 ≤ e ∧ e < P.c
  entUp : P.entries.Pairwise (· < ·)
  op4 : P.opens.length ≤ 4
  opIn : ∀ p ∈ P.opens, nmOk P.c p
  opUp : P.opens.Pairwise (fun p q => nmLt p q = true)
theorem noLst_nms (ps : List Nm) : noLsts (ps.map nmD) = true := by
  induction ps with
  | nil => rfl
  | cons p ps ih => rw [List.map_cons, noLsts, ih]; rfl
theorem noLst_row (r : Row) : noLst r.d = true := by
  cases r <;> simp [Row.d, noLst, noLsts, needsD, noLst_nms]
theorem noLst_rows (rs : List Row) : noLsts (rs.map Row.d) = true := by
  induction rs with
  | nil => rfl
  | cons r rs ih => rw [List.map_cons, noLsts, ih, noLst_row]; rfl
end Lb
namespace Lb
open PySem PySem.Spec PyProof.Rows L2
theorem prog_shape {c : Int} {prs : List (List Row)} {ls : List (List Plan)} (pw : prs.map (List.map Row.word) = ls.map (List.map Plan.w)) (lok : LinesOk c ls) :
    prs.length = ls.length ∧ (∀ rs ∈ prs, rs.length ≤ 5) ∧ prs.flatten.length ≤ 12 ∧ (prs.flatten.map Row.word).countP (fun w : Str => decide (w = ("out" : Str))) ≤ 2 := by
  have e : prs.flatten.map Row.word = ls.flatten.map Plan.w := by rw [List.map_flatten, List.map_flatten, pw]
  refine ⟨?_, fun rs hrs => ?_, ?_, ?_⟩
  · have z := congrArg List.length pw
    rwa [List.length_map, List.length_map] at z
  · have m : rs.map Row.word ∈ ls.map (List.map Plan.w) := by
      rw [← pw]
      exact List.mem_map.mpr ⟨rs, hrs, rfl⟩
    obtain ⟨xs, hxs, ex⟩ := List.mem_map.mp m
    have z := congrArg List.length ex
    rw [List.length_map, List.length_map] at z
    have := lok.five xs hxs
    omega
  · have z := congrArg List.length e
    rw [List.length_map, List.length_map] at z
    have := lok.total
    unfold totalOf at this
    omega
  · rw [e, List.countP_map]
    exact lok.outs
end Lb

set_option Elab.async false
set_option linter.all false
set_option maxRecDepth 100000
set_option maxHeartbeats 4000000
/-! what is a program: the program's own questions, as functions of data -/
namespace Lb
open PySem PySem.Spec PyProof.Rows L2
def intB (d : PyData) : Bool := isInt d && !isBl d
def valI : PyData → Int
  | .int i => i
  | _ => 0
def itemsD : PyData → List PyData
  | .tuple ds => ds
  | _ => []
def strOf : PyData → Str
  | .str s => s
  | _ => Str.empty
def nthD (d : PyData) (i : Nat) : PyData := (itemsD d).getD i .none
def numB (d : PyData) (n : Int) : Bool := intB d && (decide (0 ≤ valI d) && decide (valI d < n))
def nameB (d : PyData) : Bool := isStr d && decide (strOf d ∈ letters)
def tupB (d : PyData) (lo hi : Int) : Bool := isTup d && (decide (lo ≤ ((itemsD d).length : Int)) && decide (((itemsD d).length : Int) ≤ hi))
def needB (d : PyData) (n : Int) : Bool := tupB d 2 2 && (numB (nthD d 0) n && nameB (nthD d 1))
def needsB (d : PyData) (n most : Int) : Bool := tupB d 0 most && (itemsD d).all fun x => needB x n
def wordB (d : PyData) : Bool := isTup d && (decide (0 < ((itemsD d).length : Int)) && isStr (nthD d 0))
def lenIs (d : PyData) (n : Int) : Bool := decide (((itemsD d).length : Int) = n)
def giveB (d : PyData) (n : Int) : Bool := lenIs d 4 && (nameB (nthD d 1) && (needsB (nthD d 2) n 1 && isBl (nthD d 3)))
def lateB (d : PyData) (n : Int) : Bool := lenIs d 4 && (nameB (nthD d 1) && (intB (nthD d 2) && ((decide (valI (nthD d 2) = -1) || numB (nthD d 2) n) && needsB (nthD d 3) n 2)))
def rowB (d : PyData) (n : Int) : Bool := wordB d &&
  (if strOf (nthD d 0) = "load" then lenIs d 2 && numB (nthD d 1) n
   else if strOf (nthD d 0) = "give" then giveB d n
   else if strOf (nthD d 0) = "pass" then lenIs d 4 && ((numB (nthD d 2) n && nameB (nthD d 1)) && nameB (nthD d 3))
   else if strOf (nthD d 0) = "show" then lenIs d 3 && (needsB (nthD d 1) n 2 && isBl (nthD d 2))
   else if strOf (nthD d 0) = "late" then lateB d n
   else decide (strOf (nthD d 0) = "out") && lenIs d 1)
def rowsOfD (d : PyData) : List PyData := (itemsD d).flatMap itemsD
def partsB (d : PyData) : Bool := tupB d 1 4 && ((itemsD d).all (fun p => tupB p 0 5) && (decide (((rowsOfD d).length : Int) ≤ 12) && ((rowsOfD d).all (fun r => rowB r ((itemsD d).length : Int)) &&
  decide ((((rowsOfD d).filter fun r => decide (strOf (nthD r 0) = "out")).length : Int) ≤ 2))))
def marksB (d : PyData) (n : Int) : Bool := tupB d n n && (itemsD d).all isBl
def ascB : List PyData → Bool
  | a :: b :: r => PySem.W.dataLt a b && ascB (b :: r)
  | _ => true
def entriesB (d : PyData) (n : Int) : Bool := tupB d 1 3 && ((itemsD d).all (fun x => numB x n) && ascB (itemsD d))
def opensB (d : PyData) (n : Int) : Bool := needsB d n 4 && ascB (itemsD d)
def progB (d : PyData) : Bool := tupB d 4 4 && (partsB (nthD d 0) && (marksB (nthD d 1) ((itemsD (nthD d 0)).length : Int) && (entriesB (nthD d 2) ((itemsD (nthD d 0)).length : Int) && opensB (nthD d 3) ((itemsD (nthD d 0)).length : Int))))
/-! helpers -/
theorem tup_of {d : PyData} (h : isTup d = true) : ∃ ds, d = .tuple ds := by
  cases d with
  | tuple ds => exact ⟨ds, rfl⟩
  | _ => exact absurd h (by simp [isTup])
theorem int_of {d : PyData} (h : intB d = true) : ∃ i, d = .int i := by
  cases d with
  | int i => exact ⟨i, rfl⟩
  | _ => exact absurd h (by simp [intB, isInt, isBl])
theorem str_of {d : PyData} (h : isStr d = true) : ∃ i, d = .str i := by
  cases d with
  | str i => exact ⟨i, rfl⟩
  | _ => exact absurd h (by simp [isStr])
theorem in_letters (s : Str) : inV (.str s) [V.str "a", V.str "b", V.str "c", V.str "d"] = decide (s ∈ letters) := by
  have e : ∀ x y : Str, eqV (.str x) (.str y) = decide (y = x) := fun x y => by
    show (x == y) = _
    rw [Bool.eq_iff_iff, beq_iff_eq, decide_eq_true_eq]
    exact eq_comm
  show ([V.str "a", V.str "b", V.str "c", V.str "d"].any fun y => eqV y (.str s)) = _
  rw [show ([V.str "a", V.str "b", V.str "c", V.str "d"] : List V) = letters.map V.str from rfl, List.any_map, Bool.eq_iff_iff, List.any_eq_true, decide_eq_true_eq]
  constructor
  · rintro ⟨x, hx, z⟩
    have z2 : eqV (.str x) (.str s) = true := z
    rw [e, decide_eq_true_eq] at z2
    rw [z2]
    exact hx
  · intro hs
    refine ⟨s, hs, ?_⟩
    show eqV (.str s) (.str s) = true
    rw [e]
    exact decide_eq_true rfl
theorem range_all (g : PyData → Bool) (ds : List PyData) : ((List.range ds.length).map fun i => g (ds.getD i .none)).all id = ds.all g := by
  rw [List.all_map]
  rw [Bool.eq_iff_iff, List.all_eq_true, List.all_eq_true]
  constructor
  · intro h x hx
    obtain ⟨i, hi, e⟩ := List.getElem_of_mem hx
    have z := h i (List.mem_range.mpr hi)
    simp only [Function.comp, id] at z
    rwa [List.getD_eq_getElem?_getD, List.getElem?_eq_getElem hi, Option.getD_some, e] at z
  · intro h i hi
    have hi := List.mem_range.mp hi
    simp only [Function.comp, id]
    rw [List.getD_eq_getElem?_getD, List.getElem?_eq_getElem hi, Option.getD_some]
    exact h _ (List.getElem_mem hi)
theorem getD_of {ds : List PyData} {i : Nat} {d : PyData} (h : ds[i]? = some d) : ds.getD i .none = d := by
  rw [List.getD_eq_getElem?_getD, h, Option.getD_some]
theorem bl_map (f : Nat → Bool) (n : Nat) : (List.range n).map (fun i => V.bl (f i)) = ((List.range n).map f).map V.bl := by
  rw [List.map_map]
  rfl
end Lb
namespace Lb
open PySem PySem.Spec PyProof.Rows L2
theorem sIx_one (n d : Nat) : HT.sIx n d (some 1) = min 1 n := HT.sIx_nat n d 1
theorem cut_one (xs : List V) : cutV xs (some 1) none = xs.drop 1 := by
  unfold cutV
  rw [sIx_one]
  show (xs.drop (min 1 xs.length)).take (xs.length - min 1 xs.length) = xs.drop 1
  cases xs with
  | nil => rfl
  | cons x r =>
    have e : min 1 (x :: r).length = 1 := by simp only [List.length_cons]; omega
    rw [e]
    apply List.take_of_length_le
    simp
theorem whole_one {xs : List V} (h : HT.sIx xs.length 0 (some 1) = 0) : xs = [] := by
  rw [sIx_one] at h
  cases xs with
  | nil => rfl
  | cons x r => simp only [List.length_cons] at h; omega
theorem asc_range : ∀ ds : List PyData, ascB ds = ((List.range (ds.length - 1)).map fun i => PySem.W.dataLt (ds.getD i .none) (ds.getD (i + 1) .none)).all id
  | [] => rfl
  | [_] => rfl
  | a :: b :: r => by
    have ih := asc_range (b :: r)
    rw [ascB, ih]
    have e1 : (a :: b :: r).length - 1 = r.length + 1 := rfl
    have e2 : (b :: r).length - 1 = r.length := rfl
    rw [e1, e2, List.range_succ_eq_map, List.map_cons, List.all_cons, List.map_map]
    rfl
end Lb
namespace Lb
open PySem PySem.Spec PyProof.Rows L2
theorem tupB_len {d : PyData} {lo hi : Int} (h : tupB d lo hi = true) : ∃ ds, d = .tuple ds ∧ lo ≤ (ds.length : Int) ∧ (ds.length : Int) ≤ hi := by
  unfold tupB at h
  rw [Bool.and_eq_true, Bool.and_eq_true, decide_eq_true_eq, decide_eq_true_eq] at h
  obtain ⟨ds, rfl⟩ := tup_of h.1
  exact ⟨ds, rfl, h.2.1, h.2.2⟩
theorem len2 {ds : List PyData} (h1 : (2 : Int) ≤ ds.length) (h2 : (ds.length : Int) ≤ 2) : ∃ x y, ds = [x, y] := by
  match ds with
  | [x, y] => exact ⟨x, y, rfl⟩
  | [] => simp at h1
  | [_] => simp at h1
  | _ :: _ :: _ :: _ => simp only [List.length_cons] at h2; omega
theorem len4 {ds : List PyData} (h : (ds.length : Int) = 4) : ∃ x y z u, ds = [x, y, z, u] := by
  match ds with
  | [x, y, z, u] => exact ⟨x, y, z, u, rfl⟩
  | [] => simp at h
  | [_] => simp at h
  | [_, _] => simp at h
  | [_, _, _] => simp at h
  | _ :: _ :: _ :: _ :: _ :: _ => simp only [List.length_cons] at h; omega
theorem len3 {ds : List PyData} (h : (ds.length : Int) = 3) : ∃ x y z, ds = [x, y, z] := by
  match ds with
  | [x, y, z] => exact ⟨x, y, z, rfl⟩
  | [] => simp at h
  | [_] => simp at h
  | [_, _] => simp at h
  | _ :: _ :: _ :: _ :: _ => simp only [List.length_cons] at h; omega
theorem len2' {ds : List PyData} (h : (ds.length : Int) = 2) : ∃ x y, ds = [x, y] := len2 (by omega) (by omega)
section
variable {S : List Addr} {H : Hp} {v : V} {x y z u : PyData}
theorem Rep.two (r : Rep S H v (.tuple [x, y])) : ∃ a p q, v = .ref a ∧ H a = some (.tup [p, q]) ∧ Rep S H p x ∧ Rep S H q y := by
  obtain ⟨a, xs, rfl, ha, _, rs⟩ := r.tupV
  cases rs with
  | cons r1 rs => cases rs with
    | cons r2 rs => cases rs; exact ⟨a, _, _, rfl, ha, r1, r2⟩
theorem Rep.three (r : Rep S H v (.tuple [x, y, z])) : ∃ a p q s, v = .ref a ∧ H a = some (.tup [p, q, s]) ∧ Rep S H p x ∧ Rep S H q y ∧ Rep S H s z := by
  obtain ⟨a, xs, rfl, ha, _, rs⟩ := r.tupV
  cases rs with
  | cons r1 rs => cases rs with
    | cons r2 rs => cases rs with
      | cons r3 rs => cases rs; exact ⟨a, _, _, _, rfl, ha, r1, r2, r3⟩
theorem Rep.four (r : Rep S H v (.tuple [x, y, z, u])) : ∃ a p q s t, v = .ref a ∧ H a = some (.tup [p, q, s, t]) ∧ Rep S H p x ∧ Rep S H q y ∧ Rep S H s z ∧ Rep S H t u := by
  obtain ⟨a, xs, rfl, ha, _, rs⟩ := r.tupV
  cases rs with
  | cons r1 rs => cases rs with
    | cons r2 rs => cases rs with
      | cons r3 rs => cases rs with
        | cons r4 rs => cases rs; exact ⟨a, _, _, _, _, rfl, ha, r1, r2, r3, r4⟩
end
end Lb
namespace Lb
theorem nbF {b : Bool} (h : (!b) = true) : b = false := by simpa using h
theorem nbT {b : Bool} (h : ¬ (!b) = true) : b = true := by simpa using h
theorem bF {b : Bool} (h : ¬ b = true) : b = false := by simpa using h
end Lb

set_option Elab.async false
set_option linter.all false
set_option maxRecDepth 100000
set_option maxHeartbeats 4000000
/-! the doors of a program, as data -/
namespace Lb
open PySem PySem.Spec PyProof.Rows L2
theorem none_back {H H' : Hp} {p : Addr} (s : Same H H') (n : H' p = none) : H p = none := by
  rcases Classical.em (H p = none) with e | e
  · exact e
  · obtain ⟨o, ho⟩ := Option.ne_none_iff_exists'.mp e
    rw [s _ _ ho] at n
    exact nomatch n
def lateV (r : PyData) : Int := valI (nthD r 2)
def goB (r : PyData) : Bool := decide (strOf (nthD r 0) = "late") && !decide (lateV r = -1)
def doorsD (d : PyData) : List Int := (itemsD (nthD d 2)).map valI ++ ((rowsOfD (nthD d 0)).filter goB).map lateV
theorem asc_eq : ∀ {xs ys : List Int}, xs.Pairwise (· < ·) → ys.Pairwise (· < ·) → (∀ k, k ∈ xs ↔ k ∈ ys) → xs = ys
  | [], [], _, _, _ => rfl
  | [], b :: ys, _, _, h => nomatch (h b).mpr List.mem_cons_self
  | a :: xs, [], _, _, h => nomatch (h a).mp List.mem_cons_self
  | a :: xs, b :: ys, h1, h2, h => by
    rw [List.pairwise_cons] at h1 h2
    have e : a = b := by
      rcases List.mem_cons.mp ((h a).mp List.mem_cons_self) with z | z
      · exact z
      · rcases List.mem_cons.mp ((h b).mpr List.mem_cons_self) with y | y
        · exact y.symm
        · have := h2.1 a z
          have := h1.1 b y
          omega
    subst e
    congr 1
    refine asc_eq h1.2 h2.2 fun k => ⟨fun m => ?_, fun m => ?_⟩
    · rcases List.mem_cons.mp ((h k).mp (List.mem_cons_of_mem _ m)) with z | z
      · have := h1.1 k m
        omega
      · exact z
    · rcases List.mem_cons.mp ((h k).mpr (List.mem_cons_of_mem _ m)) with z | z
      · have := h2.1 k m
        omega
      · exact z
theorem late_shape {r : PyData} {n : Int} (h : rowB r n = true) : ∃ w rest, r = .tuple (.str w :: rest) ∧ (w = "late" → ∃ nm p ns, rest = [nm, .int p, ns] ∧ -1 ≤ p) := by
  unfold rowB at h
  rw [Bool.and_eq_true] at h
  obtain ⟨hw, h⟩ := h
  unfold wordB at hw
  rw [Bool.and_eq_true, Bool.and_eq_true, decide_eq_true_eq] at hw
  obtain ⟨ht, hl, hs⟩ := hw
  obtain ⟨ws, rfl⟩ := tup_of ht
  match ws, hl with
  | x :: rest, _ =>
    obtain ⟨w, e⟩ := str_of hs
    have ex : x = .str w := e
    subst ex
    refine ⟨w, rest, rfl, fun ew => ?_⟩
    subst ew
    have e0 : strOf (nthD (.tuple (.str "late" :: rest)) 0) = "late" := rfl
    rw [e0, if_neg (by decide +kernel), if_neg (by decide +kernel), if_neg (by decide +kernel), if_neg (by decide +kernel), if_pos rfl] at h
    unfold lateB at h
    rw [Bool.and_eq_true] at h
    obtain ⟨x, y, z, u, e⟩ := len4 (of_decide_eq_true h.1)
    have e2 : rest = [y, z, u] := by injection e
    subst e2
    have h2 := h.2
    rw [Bool.and_eq_true, Bool.and_eq_true, Bool.and_eq_true] at h2
    obtain ⟨p, hp⟩ := int_of h2.2.1
    have ez : z = .int p := hp
    subst ez
    refine ⟨y, p, u, rfl, ?_⟩
    have h3 : (decide (p = -1) || numB (.int p) n) = true := h2.2.2.1
    rw [Bool.or_eq_true, decide_eq_true_eq] at h3
    rcases h3 with z | z
    · omega
    · unfold numB at z
      rw [Bool.and_eq_true, Bool.and_eq_true, decide_eq_true_eq] at z
      have : 0 ≤ p := z.2.1
      omega
structure ProgF (ps es : List PyData) : Prop where
  four : ps.length ≤ 4
  five : ∀ p ∈ ps, ∃ rows, p = .tuple rows ∧ rows.length ≤ 5
  rows : ∀ r ∈ ps.flatMap itemsD, rowB r ps.length = true
  twelve : (ps.flatMap itemsD).length ≤ 12
  three : es.length ≤ 3
  allI : ∀ e ∈ es, ∃ i, e = .int i
theorem prog_of {d : PyData} (h : progB d = true) : ∃ ps m es o, d = .tuple [.tuple ps, m, .tuple es, o] ∧ ProgF ps es := by
  unfold progB at h
  rw [Bool.and_eq_true] at h
  obtain ⟨h0, h⟩ := h
  obtain ⟨ds, rfl, h1, h2⟩ := tupB_len h0
  obtain ⟨x, y, z, u, rfl⟩ := len4 (by omega : (ds.length : Int) = 4)
  rw [Bool.and_eq_true, Bool.and_eq_true, Bool.and_eq_true] at h
  have hx : partsB x = true := h.1
  have hz : entriesB z ((itemsD x).length : Int) = true := h.2.2.1
  unfold partsB at hx
  rw [Bool.and_eq_true, Bool.and_eq_true, Bool.and_eq_true, Bool.and_eq_true, decide_eq_true_eq] at hx
  obtain ⟨ps, rfl, _, p4⟩ := tupB_len hx.1
  unfold entriesB at hz
  rw [Bool.and_eq_true, Bool.and_eq_true] at hz
  obtain ⟨es, rfl, _, e3⟩ := tupB_len hz.1
  refine ⟨ps, y, es, u, rfl, by omega, fun p hp => ?_, fun r hr => List.all_eq_true.mp hx.2.2.2.1 r hr, by have z : ((ps.flatMap itemsD).length : Int) ≤ 12 := hx.2.2.1; omega, by omega, fun e he => ?_⟩
  · obtain ⟨rows, e, _, h5⟩ := tupB_len (List.all_eq_true.mp hx.2.1 p hp)
    exact ⟨rows, e, by omega⟩
  · have z := List.all_eq_true.mp hz.2.1 e he
    exact int_of (Bool.and_eq_true_iff.mp z).1
theorem Reps.asInts {S : List Addr} {H : Hp} : ∀ {vs : List V} {ds : List PyData}, Reps S H vs ds → (∀ e ∈ ds, ∃ i, e = .int i) → vs = (ds.map valI).map V.int
  | _, _, .nil, _ => rfl
  | _, _, .cons r rs, h => by
    obtain ⟨i, rfl⟩ := h _ List.mem_cons_self
    rw [r.intV, Reps.asInts rs fun e m => h e (List.mem_cons_of_mem _ m)]
    rfl
theorem filter_few {ps : List PyData} {i : Nat} {l : List PyData} (hl : (ps.flatMap itemsD).length ≤ 12) : ((((ps.take i).flatMap itemsD) ).filter goB).length ≤ 12 := by
  refine Nat.le_trans (List.length_filter_le _ _) ?_
  refine Nat.le_trans ?_ hl
  have e : ps.flatMap itemsD = (ps.take i).flatMap itemsD ++ (ps.drop i).flatMap itemsD := by rw [← List.flatMap_append, List.take_append_drop]
  rw [e, List.length_append]
  omega
theorem flat_snoc {ps : List PyData} {i : Nat} {rows : List PyData} (hp : ps[i]? = some (.tuple rows)) : (ps.take (i + 1)).flatMap itemsD = (ps.take i).flatMap itemsD ++ rows := by
  rw [List.take_succ, hp, List.flatMap_append]
  simp [itemsD]
theorem flat_mem {ps : List PyData} {i : Nat} {rows : List PyData} (hp : ps[i]? = some (.tuple rows)) {r : PyData} (hr : r ∈ rows) : r ∈ ps.flatMap itemsD :=
  List.mem_flatMap.mpr ⟨_, List.mem_of_getElem? hp, hr⟩
theorem flat_few {ps : List PyData} {i j : Nat} {rows : List PyData} (hp : ps[i]? = some (.tuple rows)) (hl : (ps.flatMap itemsD).length ≤ 12) : (((ps.take i).flatMap itemsD ++ rows.take j).filter goB).length ≤ 12 := by
  refine Nat.le_trans (List.length_filter_le _ _) ?_
  refine Nat.le_trans ?_ hl
  have e : ps.flatMap itemsD = (ps.take (i + 1)).flatMap itemsD ++ (ps.drop (i + 1)).flatMap itemsD := by rw [← List.flatMap_append, List.take_append_drop]
  rw [e, flat_snoc hp, List.length_append, List.length_append, List.length_append, List.length_take]
  omega
/-- the kept doors so far -/
def goV (l : List PyData) : List V := (l.filter goB).map fun r => V.int (lateV r)
theorem goV_len (l : List PyData) : (goV l).length = (l.filter goB).length := by unfold goV; rw [List.length_map]
theorem goV_yes {l : List PyData} {r : PyData} (h : goB r = true) : goV (l ++ [r]) = goV l ++ [.int (lateV r)] := by
  unfold goV
  rw [List.filter_append, List.filter_cons_of_pos h, List.filter_nil, List.map_append]
  rfl
theorem goV_no {l : List PyData} {r : PyData} (h : ¬ goB r = true) : goV (l ++ [r]) = goV l := by
  unfold goV
  rw [List.filter_append, List.filter_cons_of_neg h, List.filter_nil, List.append_nil]
theorem doors_goV (ps es : List PyData) (m o : PyData) : (doorsD (.tuple [.tuple ps, m, .tuple es, o])).map V.int = (es.map valI).map V.int ++ goV (ps.flatMap itemsD) := by
  show ((es.map valI) ++ ((ps.flatMap itemsD).filter goB).map lateV).map V.int = _
  rw [List.map_append, List.map_map (f := lateV)]
  rfl
theorem doors_len {ps es : List PyData} (m o : PyData) (F : ProgF ps es) : (doorsD (.tuple [.tuple ps, m, .tuple es, o])).length ≤ 15 := by
  have z := congrArg List.length (doors_goV ps es m o)
  rw [List.length_map, List.length_append, List.length_map, List.length_map, goV_len] at z
  have := List.length_filter_le goB (ps.flatMap itemsD)
  have := F.twelve
  have := F.three
  omega
end Lb
namespace Lb
open PySem PySem.Spec PyProof.Rows L2
/-! rows made late -/
def lateD (q : Str × Int) : PyData := .tuple [.str "late", .str q.1, .int q.2, .tuple []]
def linesD (l : List (Str × Int)) : PyData := .tuple (l.map lateD)
theorem noLst_late (q : Str × Int) : noLst (lateD q) = true := rfl
theorem noLst_lates (l : List (Str × Int)) : noLsts (l.map lateD) = true := by
  induction l with
  | nil => rfl
  | cons r rs ih => rw [List.map_cons, noLsts, ih, noLst_late]; rfl
theorem late_row {q : Str × Int} {n : Int} (h1 : q.1 ∈ letters) (h2 : -1 ≤ q.2) (h3 : q.2 < n) : rowB (lateD q) n = true := by
  unfold rowB
  have e0 : strOf (nthD (lateD q) 0) = "late" := rfl
  rw [e0, if_neg (by decide +kernel), if_neg (by decide +kernel), if_neg (by decide +kernel), if_neg (by decide +kernel), if_pos rfl]
  show (true && (true && ((true && decide (q.1 ∈ letters)) && (true && ((decide (q.2 = -1) || (true && (decide (0 ≤ q.2) && decide (q.2 < n)))) && true))))) = true
  rw [decide_eq_true h1, decide_eq_true h3]
  by_cases e : q.2 = -1
  · rw [decide_eq_true e]
    rfl
  · rw [decide_eq_false e, decide_eq_true (by omega : 0 ≤ q.2)]
    rfl
theorem lates_prog {ps es : List PyData} {m o : PyData} {lines : List (List (Str × Int))} (h : progB (.tuple [.tuple ps, m, .tuple es, o]) = true)
    (hl : lines.map List.length = ps.map (fun p => (itemsD p).length)) (ok : ∀ l ∈ lines, ∀ q ∈ l, q.1 ∈ letters ∧ -1 ≤ q.2 ∧ q.2 < (ps.length : Int)) : progB (.tuple [.tuple (lines.map linesD), m, .tuple es, o]) = true := by
  have len : lines.length = ps.length := by
    have z := congrArg List.length hl
    rwa [List.length_map, List.length_map] at z
  unfold progB at h ⊢
  rw [Bool.and_eq_true, Bool.and_eq_true] at h ⊢
  obtain ⟨h0, hp, hr⟩ := h
  have e1 : nthD (.tuple [.tuple (lines.map linesD), m, .tuple es, o]) 0 = .tuple (lines.map linesD) := rfl
  have e2 : nthD (.tuple [.tuple ps, m, .tuple es, o]) 0 = .tuple ps := rfl
  rw [e1]
  rw [e2] at hp hr
  refine ⟨rfl, ?_, ?_⟩
  · unfold partsB at hp ⊢
    rw [Bool.and_eq_true, Bool.and_eq_true, Bool.and_eq_true, Bool.and_eq_true, decide_eq_true_eq] at hp ⊢
    obtain ⟨a1, a2, a3, a4, a5⟩ := hp
    have rows : rowsOfD (.tuple (lines.map linesD)) = lines.flatten.map lateD := by
      show (lines.map linesD).flatMap itemsD = _
      rw [List.flatMap_map, List.map_flatten, List.flatMap_def]
      rfl
    have rl : (rowsOfD (.tuple (lines.map linesD))).length = (rowsOfD (.tuple ps)).length := by
      show ((lines.map linesD).flatMap itemsD).length = (ps.flatMap itemsD).length
      rw [List.length_flatMap, List.length_flatMap, ← hl, List.map_map]
      congr 1
      apply List.map_congr_left
      intro l _
      show (l.map lateD).length = _
      rw [List.length_map]
    have il : (itemsD (.tuple (lines.map linesD))).length = ps.length := by
      show (lines.map linesD).length = _
      rw [List.length_map, len]
    refine ⟨?_, ?_, by rw [rl]; exact a3, ?_, ?_⟩
    · unfold tupB
      rw [il]
      exact a1
    · rw [List.all_eq_true]
      intro p hp
      obtain ⟨l, hlm, rfl⟩ := List.mem_map.mp hp
      have lm : l.length ∈ ps.map (fun p => (itemsD p).length) := by rw [← hl]; exact List.mem_map.mpr ⟨l, hlm, rfl⟩
      obtain ⟨p', hp', e⟩ := List.mem_map.mp lm
      obtain ⟨rows', rfl, _, h5⟩ := tupB_len (List.all_eq_true.mp a2 p' hp')
      have e' : rows'.length = l.length := e
      show (true && (decide ((0 : Int) ≤ ((l.map lateD).length : Int)) && decide (((l.map lateD).length : Int) ≤ 5))) = true
      rw [List.length_map, ← e', decide_eq_true h5, decide_eq_true (by omega)]
      rfl
    · rw [rows, il, List.all_eq_true]
      intro r hr
      obtain ⟨q, hq, rfl⟩ := List.mem_map.mp hr
      obtain ⟨l, hl1, hl2⟩ := List.mem_flatten.mp hq
      obtain ⟨k1, k2, k3⟩ := ok l hl1 q hl2
      exact late_row k1 k2 k3
    · have e0 : (rowsOfD (.tuple (lines.map linesD))).filter (fun r => decide (strOf (nthD r 0) = "out")) = [] := by
        rw [rows, List.filter_eq_nil_iff]
        intro r hr
        obtain ⟨q, hq, rfl⟩ := List.mem_map.mp hr
        have e0 : strOf (nthD (lateD q) 0) = "late" := rfl
        rw [e0]
        decide +kernel
      rw [e0]
      rfl
  · have e3 : (itemsD (.tuple (lines.map linesD))).length = (itemsD (.tuple ps)).length := by
      show (lines.map linesD).length = ps.length
      rw [List.length_map, len]
    rw [e3]
    exact hr
end Lb

set_option Elab.async false
set_option linter.all false
set_option maxRecDepth 100000
set_option maxHeartbeats 4000000
/-! a drawn program is a program -/
namespace Lb
open PySem PySem.Spec PyProof.Rows L2
theorem numB_ok {p n : Int} (h0 : 0 ≤ p) (h1 : p < n) : numB (.int p) n = true := by
  show (true && (decide (0 ≤ p) && decide (p < n))) = true
  rw [decide_eq_true h0, decide_eq_true h1]
  rfl
theorem nameB_ok {s : Str} (h : s ∈ letters) : nameB (.str s) = true := by
  show (true && decide (s ∈ letters)) = true
  rw [decide_eq_true h]
  rfl
theorem needB_ok {c : Int} {p : Nm} (h : nmOk c p) : needB (nmD p) c = true := by
  show (true && (numB (.int p.1) c && nameB (.str p.2))) = true
  rw [numB_ok h.1 h.2.1, nameB_ok h.2.2]
  rfl
theorem tupB_ok {ds : List PyData} {lo hi : Int} (h0 : lo ≤ (ds.length : Int)) (h1 : (ds.length : Int) ≤ hi) : tupB (.tuple ds) lo hi = true := by
  show (true && (decide (lo ≤ (ds.length : Int)) && decide ((ds.length : Int) ≤ hi))) = true
  rw [decide_eq_true h0, decide_eq_true h1]
  rfl
theorem needsB_ok {c : Int} {ps : List Nm} {m : Int} (h : (ps.length : Int) ≤ m) (ok : ∀ p ∈ ps, nmOk c p) : needsB (needsD ps) c m = true := by
  show (tupB (.tuple (ps.map nmD)) 0 m && (ps.map nmD).all fun x => needB x c) = true
  rw [tupB_ok (by omega) (by rw [List.length_map]; exact h), Bool.true_and, List.all_eq_true]
  intro x hx
  obtain ⟨p, hp, rfl⟩ := List.mem_map.mp hx
  exact needB_ok (ok p hp)
theorem rowB_ok {c : Int} {r : Row} (h : r.ok c) : rowB r.d c = true := by
  have t : ∀ x : Bool, x = true → (true && x) = true := fun x e => by rw [e]; rfl
  cases r with
  | load p =>
    unfold rowB
    have e0 : strOf (nthD (Row.d (.load p)) 0) = "load" := rfl
    rw [e0, if_pos rfl]
    exact t _ (t _ (numB_ok h.1 h.2))
  | give n ns rk =>
    unfold rowB
    have e0 : strOf (nthD (Row.d (.give n ns rk)) 0) = "give" := rfl
    rw [e0, if_neg (by decide +kernel), if_pos rfl]
    refine t _ (t _ ?_)
    show (nameB (.str n) && (needsB (needsD ns) c 1 && true)) = true
    rw [nameB_ok h.1, needsB_ok (by have := h.2.1; omega) h.2.2]
    rfl
  | pass n p o =>
    unfold rowB
    have e0 : strOf (nthD (Row.d (.pass n p o)) 0) = "pass" := rfl
    rw [e0, if_neg (by decide +kernel), if_neg (by decide +kernel), if_pos rfl]
    refine t _ (t _ ?_)
    show ((numB (.int p) c && nameB (.str n)) && nameB (.str o)) = true
    rw [numB_ok h.2.1.1 h.2.1.2, nameB_ok h.1, nameB_ok h.2.2]
    rfl
  | show_ ns rk =>
    unfold rowB
    have e0 : strOf (nthD (Row.d (.show_ ns rk)) 0) = "show" := rfl
    rw [e0, if_neg (by decide +kernel), if_neg (by decide +kernel), if_neg (by decide +kernel), if_pos rfl]
    refine t _ (t _ ?_)
    show (needsB (needsD ns) c 2 && true) = true
    rw [needsB_ok (by have := h.1; omega) h.2]
    rfl
  | out =>
    unfold rowB
    have e0 : strOf (nthD (Row.d .out) 0) = "out" := rfl
    rw [e0, if_neg (by decide +kernel), if_neg (by decide +kernel), if_neg (by decide +kernel), if_neg (by decide +kernel), if_neg (by decide +kernel)]
    decide +kernel
  | late n p ns =>
    unfold rowB
    have e0 : strOf (nthD (Row.d (.late n p ns)) 0) = "late" := rfl
    rw [e0, if_neg (by decide +kernel), if_neg (by decide +kernel), if_neg (by decide +kernel), if_neg (by decide +kernel), if_pos rfl]
    refine t _ (t _ ?_)
    show (nameB (.str n) && (true && ((decide (p = -1) || numB (.int p) c) && needsB (needsD ns) c 2))) = true
    rw [nameB_ok h.1, needsB_ok (by have := h.2.2.1; omega) h.2.2.2]
    by_cases e : p = -1
    · rw [decide_eq_true e]
      rfl
    · have lo := h.2.1.1
      rw [numB_ok (by omega) h.2.1.2, Bool.or_true]
      rfl
theorem ascB_of (D : α → PyData) (R : α → α → Prop) (h : ∀ a b, R a b → PySem.W.dataLt (D a) (D b) = true) : ∀ l : List α, l.Pairwise R → ascB (l.map D) = true
  | [], _ => rfl
  | [_], _ => rfl
  | a :: b :: r, p => by
    rw [List.pairwise_cons] at p
    show (PySem.W.dataLt (D a) (D b) && ascB ((b :: r).map D)) = true
    rw [h a b (p.1 b List.mem_cons_self), ascB_of D R h (b :: r) p.2]
    rfl
theorem prog_ok {P : Prog} (h : P.Ok) : progB P.d = true := by
  have i0 : itemsD (.tuple (P.parts.map rowsD)) = P.parts.map rowsD := rfl
  have len : ((itemsD (nthD P.d 0)).length : Int) = P.c := by
    show ((P.parts.map rowsD).length : Int) = P.parts.length
    rw [List.length_map]
  have rows : rowsOfD (.tuple (P.parts.map rowsD)) = P.parts.flatten.map Row.d := by
    show (P.parts.map rowsD).flatMap itemsD = _
    rw [List.flatMap_map, List.map_flatten, List.flatMap_def]
    rfl
  unfold progB
  rw [len]
  have h1 := h.one
  have h4 := h.four
  rw [Bool.and_eq_true, Bool.and_eq_true, Bool.and_eq_true, Bool.and_eq_true]
  refine ⟨rfl, ?_, ?_, ?_, ?_⟩
  · show partsB (.tuple (P.parts.map rowsD)) = true
    unfold partsB
    rw [Bool.and_eq_true, Bool.and_eq_true, Bool.and_eq_true, Bool.and_eq_true, decide_eq_true_eq, decide_eq_true_eq, rows, i0]
    refine ⟨tupB_ok (by rw [List.length_map]; omega) (by rw [List.length_map]; omega), ?_, ?_, ?_, ?_⟩
    · rw [List.all_eq_true]
      intro p hp
      obtain ⟨rs, hrs, rfl⟩ := List.mem_map.mp hp
      have := h.five rs hrs
      exact tupB_ok (by omega) (by rw [List.length_map]; omega)
    · rw [List.length_map]
      have := h.twelve
      omega
    · rw [List.all_eq_true, List.length_map]
      intro p hp
      obtain ⟨r, hr, rfl⟩ := List.mem_map.mp hp
      obtain ⟨rs, hrs, hr2⟩ := List.mem_flatten.mp hr
      exact rowB_ok (h.rows rs hrs r hr2)
    · rw [List.filter_map, List.length_map]
      have e : ((fun r => decide (strOf (nthD r 0) = "out")) ∘ Row.d) = fun r : Row => decide (r.word = "out") := by
        funext r
        cases r <;> rfl
      rw [e]
      have z := h.outs
      rw [List.countP_map] at z
      rw [← List.countP_eq_length_filter]
      have z2 : List.countP (fun r : Row => decide (r.word = "out")) P.parts.flatten ≤ 2 := z
      omega
  · show marksB (.tuple (P.marks.map .bool)) P.c = true
    unfold marksB
    have z := h.marks
    rw [tupB_ok (by rw [List.length_map, z]; exact Int.le_refl _) (by rw [List.length_map, z]; exact Int.le_refl _), Bool.true_and, List.all_eq_true]
    intro x hx
    obtain ⟨b, _, rfl⟩ := List.mem_map.mp hx
    rfl
  · show entriesB (.tuple (P.entries.map .int)) P.c = true
    unfold entriesB
    have e1 := h.ent1
    have e3 := h.ent3
    rw [tupB_ok (by rw [List.length_map]; omega) (by rw [List.length_map]; omega), Bool.true_and, Bool.and_eq_true, List.all_eq_true]
    refine ⟨fun x hx => ?_, ?_⟩
    · obtain ⟨b, hb, rfl⟩ := List.mem_map.mp hx
      have z := h.entIn b hb
      exact numB_ok z.1 z.2
    · exact ascB_of (fun i => PyData.int i) (· < ·) (fun a b lt => by
        rw [PySem.W.dataLt_int]
        exact decide_eq_true lt) _ h.entUp
  · show opensB (needsD P.opens) P.c = true
    unfold opensB
    have o4 := h.op4
    rw [needsB_ok (by omega) h.opIn, Bool.true_and]
    exact ascB_of nmD (fun p q => nmLt p q = true) (fun a b lt => by rw [nmD_lt]; exact lt) _ h.opUp
end Lb

set_option Elab.async false
set_option linter.all false
set_option maxRecDepth 100000
set_option maxHeartbeats 4000000
/-! enumerate over a tuple, walked -/
namespace Lb
open PySem PySem.Spec PyProof.Rows L2
/-- enumerate, of one argument: any that begins -/
theorem enum_one {v : Value} {o : Obj} {B : Heap → Prop} (b : Begins v o B) :
    Meets (Builtin.«enumerate.__new__» ⟨[.type "enumerate", v], []⟩) (fun _ R s => B s.heap ∧
      R (.ok (.ret (.ref (s.heap.push o).objs.size))) { s with heap := (s.heap.push o).push { cls := .type "enumerate", data := .fields #[.none, .bool false, .ref s.heap.objs.size, rawInt 0, .none, .none] } }) :=
  .of_wp fun prog w A R s h => by
    obtain ⟨hp, g, d, tk, os⟩ := s
    obtain ⟨h1, h⟩ := h
    have under := sub_enumerate
    have begins : ∀ {A' : Around} {E : Value → Shared → Prop} {Q : Value → Shared → Prop}, Q (.ref hp.objs.size) ⟨hp.push o, g, d, tk, os⟩ → wpAny (model prog w) A' (pyIter v) Q E ⟨hp, g, d, tk, os⟩ :=
      fun q => b.iter prog w _ _ ⟨hp, g, d, tk, os⟩ _ h1 q
    wp_walk using begins
    refine wpAny_stack_any fun st => wpAny_pure ?_
    split
    · rename_i c _ _ _ _ _
      cases (c == Value.type "enumerate") <;> (wp_walk using begins; exact ⟨_, rfl, h⟩)
    · wp_walk using begins
      exact ⟨_, rfl, h⟩
theorem enum_tup {prog : Program} {w : World} {A : Around} {E : Value → Shared → Prop} {s : Shared} {t : Addr} {items : Array Value} {Q : Value → Shared → Prop} (ht : s.heap.IsTuple t items)
    (h : ∀ h', IsEnum h' (s.heap.objs.size + 1) s.heap.objs.size 0 .none → h'.IsTupleIter s.heap.objs.size t 0 → h'.objs.size = s.heap.objs.size + 2 →
      (∀ b o, s.heap.get? b = some o → h'.get? b = some o) → Q (.ref (s.heap.objs.size + 1)) { s with heap := h' }) :
    wpAny (model prog w) A (call (.type "enumerate") [.ref t]) Q E s := by
  have B := begins_tuple t items
  refine callType_new F.called_enumerate (by decide) (F.typeCall_enumerate_1 _) (F.newCall_enumerate_1 _) (fun obj => F.args_object_init_2 obj _) F.entry_enumerate_new (enum_one B) ⟨ht, ?_⟩
  have hz : (s.heap.push { cls := .type "tuple_iterator", data := .fields #[.ref t, .int 0 0] }).objs.size = s.heap.objs.size + 1 := Heap.size_push ..
  show _ ∧ _
  rw [hz]
  have he : IsEnum ((s.heap.push { cls := .type "tuple_iterator", data := .fields #[.ref t, .int 0 0] }).push { cls := .type "enumerate", data := .fields #[.none, .bool false, .ref s.heap.objs.size, rawInt 0, .none, .none] }) (s.heap.objs.size + 1) s.heap.objs.size 0 .none := by
    have z := Heap.get?_push_size (s.heap.push { cls := .type "tuple_iterator", data := .fields #[.ref t, .int 0 0] }) (o := { cls := .type "enumerate", data := .fields #[.none, .bool false, .ref s.heap.objs.size, rawInt 0, .none, .none] }) rfl
    rw [hz] at z
    exact z
  exact ⟨⟨_, he, rfl⟩, h _ he ⟨_, Heap.get?_push_of_some _ (Heap.get?_push_size _ rfl), rfl, rfl⟩ (by rw [Heap.size_push, hz]) fun b o x => Heap.get?_push_of_some _ (Heap.get?_push_of_some _ x)⟩
/-- the tuple at a as it stands at each turn, each item in a new pair -/
def IteT (K : PySem.W.Frag) (a : Addr) : It :=
  ⟨fun i H => ∃ (xs : List V) (x : V), SqT K H a xs ∧ xs[i]? = some x, fun i H v H' => ∃ T x, v = .ref T ∧ H T = none ∧ H' = upd H T (.tup [.int (i : Nat), x]) ∧ ∀ xs, SqT K H a xs → xs[i]? = some x,
    fun i H => ∃ xs : List V, SqT K H a xs ∧ xs.length ≤ i⟩
theorem turn_enumT {P : Program} {w : World} {K : PySem.W.Frag} {elts : List Expr} {kk : Nat} {tpos : Pos} (a e it : Addr) :
    Turn P w K (.Tuple elts kk tpos) (IteT K a) [e, it] e (fun i h => (∃ old, IsEnum h e it ((i : Nat) : Int) old) ∧ h.IsTupleIter it a i ∧ e ≠ it) where
  mem := List.mem_cons_self
  obj := fun i h st b hb => by
    obtain ⟨⟨old, he⟩, ⟨o, ho, hc, hd⟩, _⟩ := st
    rcases List.mem_cons.mp hb with z | z
    · rw [z]
      exact ⟨_, he, fun v q => nomatch q⟩
    · rw [List.mem_singleton.mp z]
      exact ⟨o, ho, fun v q => by rw [hd] at q; cases q⟩
  keep := fun i h h' st k => by
    obtain ⟨⟨old, he⟩, hi, ne⟩ := st
    exact ⟨⟨old, k e List.mem_cons_self _ he⟩, hi.at fun o q => k it (List.mem_cons_of_mem _ List.mem_cons_self) o q, ne⟩
  item := by
    intro X hP hw hK hc i pins s σ H E I hf st hg
    subst hP hw hK
    obtain ⟨⟨old, he⟩, hit, hne⟩ := st
    obtain ⟨xs, x, hq, hx⟩ := hg
    obtain ⟨its, rv, p, hz⟩ := I.tuple hq
    obtain ⟨u, hu, ru⟩ := rv.get hx
    have pt : s.heap.IsTuple a its.toArray := p
    have hel : e < s.heap.objs.size := Heap.lt_size he
    have hil : it < s.heap.objs.size := by
      obtain ⟨_, q, _⟩ := hit
      exact Heap.lt_size q
    have hai : a ≠ it := fun z => by
      obtain ⟨o1, q1, c1, _⟩ := hit
      obtain ⟨o2, q2, c2, _⟩ := pt
      rw [z, q1] at q2
      obtain rfl := Option.some.inj q2
      rw [c1] at c2
      exact absurd c2 (by decide)
    have hae : a ≠ e := fun z => by
      obtain ⟨o2, q2, c2, _⟩ := pt
      rw [z, he] at q2
      obtain rfl := Option.some.inj q2
      exact absurd (show Value.type "enumerate" = Value.type "tuple" from c2) (by decide)
    have D : Draws X.prog X.w X.A.in1 it [it, a] its.toArray.size (fun i v => its.toArray[i]? = some v) (fun i h => h.IsTupleIter it a i ∧ h.IsTuple a its.toArray) := Draws.tuple (show X.A.in1.handled = none from I.ok.hd hc) it a hai its.toArray
    have ilt : i < its.toArray.size := by
      have z := (List.getElem?_eq_some_iff.mp hu).1
      simpa using z
    refine wpAny_pyNext_enum_itemD D he ⟨hit, pt⟩ ilt hne (fun z => ?_) fun y h' tk hy ho st' hT hsz hk => ?_
    · rcases List.mem_cons.mp z with z | z
      · exact hne z
      · exact hae (List.mem_singleton.mp z).symm
    have hyu : y = u := by
      have hy2 : its.toArray[i]? = some y := hy
      rw [List.getElem?_toArray, hu] at hy2
      exact (Option.some.inj hy2).symm
    subst hyu
    refine ⟨_, rfl, wpAny_letOwnedTupleGo_enum (s := { s with heap := h', toks := tk + 1 }) ho fun h'' he' sb => ?_⟩
    have hT2 : h''.get? s.heap.objs.size = some { cls := .type "tuple", data := .seq #[.int i tk, y] } := (sb.2 _ (Nat.ne_of_gt hel)).trans hT
    have new : ObjOk X.prog X.w (upd H s.heap.objs.size (.tup [.int (i : Nat), x])) h'' s.heap.objs.size (.tup [.int (i : Nat), x]) :=
      ⟨by show 2 ≤ sizeLine; decide, [.int i tk, y], .cons ⟨_, rfl⟩ (.cons ru .nil), ⟨_, hT2, rfl, _, rfl⟩⟩
    have I1 : Inv X pins σ (upd H s.heap.objs.size (.tup [.int (i : Nat), x])) { s with heap := h'', toks := tk + 1 } :=
      I.turnedNew (ch := [e, it]) (fun b ob hb q => (sb.2 b (fun z => hb (by simp [z]))).trans (hk b ob (fun z => hb (by simp [z])) (fun z => hb (by simp [z])) q)) hf (Nat.le_refl _) new
    refine ⟨.ref s.heap.objs.size, _, I1, rfl, ⟨_, x, rfl, I.hok.fresh (Nat.le_refl _), rfl, fun ys hys => by rw [I.tuple_inj hys hq]; exact hx⟩, ⟨⟨y, ?_⟩, st'.1.at fun o q => (sb.2 it (Ne.symm hne)).trans q, hne⟩, fun b hb => ?_⟩
    · have e1 : ((i + 1 : Nat) : Int) = (i : Int) + 1 := by omega
      rw [e1]
      exact he'
    · have hb' : b < s.heap.objs.size := by
        rcases List.mem_cons.mp hb with z | z
        · rw [z]
          exact hel
        · rw [List.mem_singleton.mp z]
          exact hil
      rw [upd_ne (Nat.ne_of_lt hb')]
      exact (hf b hb).1
  done := by
    intro X hP hw hK hc i pins s σ H E I hf st hg
    subst hP hw hK
    obtain ⟨⟨old, he⟩, hit, hne⟩ := st
    obtain ⟨xs, hq, hx⟩ := hg
    obtain ⟨its, rv, p, hz⟩ := I.tuple hq
    have pt : s.heap.IsTuple a its.toArray := p
    have none_ : its.toArray[i]? = none := by
      have hl := rv.length
      rw [List.getElem?_toArray]
      exact List.getElem?_eq_none (by omega)
    obtain ⟨f0, f1, f2, f3, f4, f5⟩ := hf it (List.mem_cons_of_mem _ List.mem_cons_self)
    have ty : s.TypeIs (.ref e) "enumerate" := ⟨_, he, rfl⟩
    unfold pyNext
    refine wpAny_bind (wpAny_attempt (wpAny_callSpecial?_slot (name := Str.ofString "__next__") ty F.slot_enumerate_next
      (wpAny_call_entry F.slot_enumerate_next ty F.entry_enumerate_next ?_ (F.args_enumerate_next_1 _))))
    show wpAny _ _ (field (.ref e) 2 >>= fun _ => _) _ _ _
    refine wpAny_bind (wpAny_field he rfl (x := .ref it) rfl ?_)
    refine wpAny_bind (wpAny_nextOf_tuple_end (show X.A.in1.handled = none from I.ok.hd hc) hit pt none_ fun h' x eb hx' => ?_)
    obtain ⟨o, ho, hcl⟩ := hx'
    refine wpAny_bind (wpAny_isInstance (T := "StopIteration") (b := true) ⟨o, ho, hcl⟩ isSubtype_stop ?_)
    exact wpAny_pure ⟨rfl, I.turned (t' := s.toks) (fun b o hb q => eb b o hb q) f0 f1 f3 f4 f5⟩
  self := fun A i s Q E st h => by
    obtain ⟨⟨_, he⟩, _⟩ := st
    exact wpAny_pyIter_enum he h
def iEnumT (K : PySem.W.Frag) (ta : TA) : TI := fun σ H R => ta σ H fun vs H1 => ∃ a xs, vs = [.ref a] ∧ SqT K H1 a xs ∧ R (IteT K a) H1
theorem pi_enumT {X : Cx} {e : Expr} {ta : TA} {p pos tpos : Pos} {elts : List Expr} {kk : Nat} (hg : Gl X "enumerate") (hm : X.mg "enumerate" = none) (ha : PA X [e] ta) (hs : starEach [e] X.env = [(false, eval e X.env)] := by rfl) :
    PI X (.Tuple elts kk tpos) (.Call (.Name "enumerate" p) [e] [] pos) (iEnumT X.K ta) := by
  refine ⟨fun pins s σ H R I h => ?_⟩
  refine Call_ (ld_blt I hg hm boot_enumerate (PyProof.Rows.callWith_type1 (thn (ha.run pos pins s σ H _ I h) fun us s1 ⟨vs, H1, I1, r1, q1⟩ => ?_) hs rfl))
  obtain ⟨a, xs, ex, hq, q⟩ := q1
  subst ex
  cases r1 with
  | cons r rr =>
    cases rr
    cases r
    obtain ⟨its, rv, pt, hz⟩ := I1.tuple hq
    refine enum_tup (show s1.heap.IsTuple a its.toArray from pt) fun h' he hit hsz hk => wpAny_pyIter_enum he ?_
    have I2 : Inv X pins σ H1 { s1 with heap := h' } := I1.kept (t' := s1.toks) hk
    refine ⟨s1.heap.objs.size + 1, [s1.heap.objs.size + 1, s1.heap.objs.size], _, _, H1, rfl, I2, turn_enumT a (s1.heap.objs.size + 1) s1.heap.objs.size, ⟨⟨.none, he⟩, hit, Nat.succ_ne_self _⟩, fun b hb => ?_, q⟩
    have le : s1.heap.objs.size ≤ b := by
      rcases List.mem_cons.mp hb with z | z
      · rw [z]
        exact Nat.le_add_right _ _
      · rw [List.mem_singleton.mp z]
        exact Nat.le_refl _
    exact I1.fpOk le (I1.hok.fresh le)
theorem walk_enumT {K : PySem.W.Frag} {a : Addr} {xs : List V} : Walk (IteT K a) xs.length (fun H => SqT K H a xs) (YPair (fun i => some (.int (i : Nat))) (fun i => xs[i]?)) := by
  refine ⟨fun i _ hi q => ⟨xs, xs[i], q, List.getElem?_eq_getElem hi⟩, fun _ q => ⟨xs, q, Nat.le_refl _⟩, fun i H v H' _ q y => ?_⟩
  obtain ⟨T, x, h1, h2, h3, h4⟩ := y
  exact ⟨T, .int (i : Nat), x, h1, h2, h3, rfl, h4 xs q⟩
end Lb

set_option Elab.async false
set_option linter.all false
set_option maxRecDepth 100000
set_option maxHeartbeats 4000000
/-! the places of a program's rows, as data -/
namespace Lb
open PySem PySem.Spec PyProof.Rows L2
def placeD (i j : Nat) : PyData := .tuple [.int i, .int j]
def inPart (i n : Nat) : List PyData := (List.range n).map (placeD i)
def upTo (ps : List PyData) (i : Nat) : List PyData := (List.range i).flatMap fun k => inPart k (itemsD (ps.getD k .none)).length
def placesD (d : PyData) : List PyData := upTo (itemsD (nthD d 0)) (itemsD (nthD d 0)).length
theorem inPart_snoc (i n : Nat) : inPart i (n + 1) = inPart i n ++ [placeD i n] := by
  unfold inPart
  rw [List.range_succ, List.map_append]
  rfl
theorem upTo_snoc {ps : List PyData} {i : Nat} {rows : List PyData} (h : ps[i]? = some (.tuple rows)) : upTo ps (i + 1) = upTo ps i ++ inPart i rows.length := by
  unfold upTo
  rw [List.range_succ, List.flatMap_append, List.flatMap_cons, List.flatMap_nil, List.append_nil, getD_of h]
  rfl
theorem upTo_len {ps : List PyData} (h : ∀ p ∈ ps, ∃ rows, p = .tuple rows ∧ rows.length ≤ 5) : ∀ i : Nat, (upTo ps i).length ≤ 5 * i
  | 0 => Nat.le_refl _
  | i + 1 => by
    have ih := upTo_len h i
    unfold upTo at ih ⊢
    rw [List.range_succ, List.flatMap_append, List.flatMap_cons, List.flatMap_nil, List.append_nil, List.length_append]
    have e : (inPart i (itemsD (ps.getD i .none)).length).length ≤ 5 := by
      unfold inPart
      rw [List.length_map, List.length_range, List.getD_eq_getElem?_getD]
      cases q : ps[i]? with
      | none => exact Nat.zero_le _
      | some p =>
        obtain ⟨rows, rfl, h5⟩ := h p (List.mem_of_getElem? q)
        exact h5
    omega
theorem inPart_len (i n : Nat) : (inPart i n).length = n := by
  unfold inPart
  rw [List.length_map, List.length_range]
theorem places_mem {ps : List PyData} {i : Nat} {d : PyData} (h : d ∈ upTo ps i) : ∃ a b : Nat, d = placeD a b := by
  unfold upTo at h
  obtain ⟨k, _, h⟩ := List.mem_flatMap.mp h
  unfold inPart at h
  obtain ⟨j, _, rfl⟩ := List.mem_map.mp h
  exact ⟨k, j, rfl⟩
theorem noLst_all {ds : List PyData} (h : ∀ d ∈ ds, noLst d = true) : noLsts ds = true := by
  induction ds with
  | nil => rfl
  | cons d ds ih => rw [noLsts, h d List.mem_cons_self, ih fun e m => h e (List.mem_cons_of_mem _ m)]; rfl
theorem noLst_places (ps : List PyData) (i : Nat) : noLsts (upTo ps i) = true := noLst_all fun d hd => by
  obtain ⟨a, b, rfl⟩ := places_mem hd
  rfl
end Lb

set_option Elab.async false
set_option linter.all false
set_option maxRecDepth 100000
set_option maxHeartbeats 4000000
/-! written data: what an expression of constants, tuples and lists gives -/
namespace Lb
open PySem PySem.Spec PyProof.Rows L2
def Occ (S : List Addr) (H : Hp) : Prop := ∀ a ∈ S, ∃ o, H a = some o
theorem Occ.sm {S : List Addr} {H H' : Hp} (o : Occ S H) (s : Same H H') : Occ S H' := fun a m => (o a m).elim fun u e => ⟨u, s _ _ e⟩
theorem Occ.new {S : List Addr} {H : Hp} {p : Addr} (o : Occ S H) (np : H p = none) : p ∉ S := fun m => by
  obtain ⟨u, e⟩ := o p m
  rw [np] at e
  exact nomatch e
/-- from H0 on, te gives (in new places) a value that reads as d -/
def Lit (S : List Addr) (σ : L2.St) (H0 : Hp) (te : TE) (d : PyData) : Prop := ∀ (H : Hp) (F : V → Hp → Prop), Same H0 H → (∀ H' v, Same H H' → Rep S H' v d → F v H') → te σ H F
def Lits (S : List Addr) (σ : L2.St) (H0 : Hp) (ta : TA) (ds : List PyData) : Prop := ∀ (H : Hp) (F : List V → Hp → Prop), Same H0 H → (∀ H' vs, Same H H' → Reps S H' vs ds → F vs H') → ta σ H F
section
variable {S : List Addr} {σ : L2.St} {H0 : Hp} {te tb : TE} {ta : TA} {d : PyData} {ds es : List PyData}
theorem lit_int (n : Int) : Lit S σ H0 (tC (.int n)) (.int n) := fun H F _ k => k H _ (.refl _) (.int n)
theorem lit_str (x : Str) : Lit S σ H0 (tC (.str x)) (.str x) := fun H F _ k => k H _ (.refl _) (.str x)
theorem lit_bl (b : Bool) : Lit S σ H0 (tC (.bl b)) (.bool b) := fun H F _ k => k H _ (.refl _) (.bl b)
theorem lit_non : Lit S σ H0 (tC .non) .none := fun H F _ k => k H _ (.refl _) .non
theorem lit_var {i : Nat} {v : V} (h : σ[i]? = some (some v)) (r : Rep S H0 v d) : Lit S σ H0 (tVar i) d := fun H F s k => ⟨v, h, k H v (.refl _) (r.sm s)⟩
theorem lits_nil : Lits S σ H0 tNil [] := fun H F _ k => k H [] (.refl _) .nil
theorem lits_cons (h : Lit S σ H0 te d) (hs : Lits S σ H0 ta ds) : Lits S σ H0 (tCons te ta) (d :: ds) := fun H F s k =>
  h H _ s fun H1 v s1 r => hs H1 _ (s.trans s1) fun H2 vs s2 rs => k H2 _ (s1.trans s2) (.cons (r.sm s2) rs)
theorem lit_tup (oc : Occ S H0) (hs : Lits S σ H0 ta ds) (few : ds.length ≤ sizeLine) : Lit S σ H0 (tTup ta) (.tuple ds) := fun H F s k =>
  hs H _ s fun H1 vs s1 rs => ⟨by rw [rs.length]; exact few, fun p np => k _ _ (s1.trans (same_new np)) (.tup upd_same ((oc.sm (s.trans s1)).new np) (rs.sm (same_new np)))⟩
theorem lit_lst (oc : Occ S H0) (hs : Lits S σ H0 ta ds) (few : ds.length ≤ sizeLine) : Lit S σ H0 (tLst ta) (.list ds) := fun H F s k =>
  hs H _ s fun H1 vs s1 rs => ⟨by rw [rs.length]; exact few, fun p np => k _ _ (s1.trans (same_new np)) (.lst upd_same ((oc.sm (s.trans s1)).new np) (rs.sm (same_new np)))⟩
theorem lit_cat (oc : Occ S H0) (hx : Lit S σ H0 te (.list ds)) (hy : Lit S σ H0 tb (.list es)) (few : (ds ++ es).length ≤ sizeLine) : Lit S σ H0 (tOp rCat te tb) (.list (ds ++ es)) := fun H F s k =>
  hx H _ s fun H1 v s1 r => hy H1 _ (s.trans s1) fun H2 u s2 q => by
    obtain ⟨a, xs, rfl, ha, _, rs⟩ := (r.sm s2).lstV
    obtain ⟨b, ys, rfl, hb, _, qs⟩ := q.lstV
    refine ⟨a, b, xs, ys, rfl, rfl, ha, hb, by rw [rs.length, qs.length, ← List.length_append]; exact few, fun p np => ?_⟩
    exact k _ _ ((s1.trans s2).trans (same_new np)) (.lst upd_same ((oc.sm ((s.trans s1).trans s2)).new np) ((rs.app qs).sm (same_new np)))
theorem lit_catT {K : PySem.W.Frag} (oc : Occ S H0) (hx : Lit S σ H0 te (.tuple ds)) (hy : Lit S σ H0 tb (.tuple es)) (nn : ds ≠ []) (few : (ds ++ es).length ≤ sizeLine) : Lit S σ H0 (tOp (rCatT K) te tb) (.tuple (ds ++ es)) := fun H F s k =>
  hx H _ s fun H1 v s1 r => hy H1 _ (s.trans s1) fun H2 u s2 q => by
    obtain ⟨a, xs, rfl, ha, na, rs⟩ := (r.sm s2).tupV
    obtain ⟨b, ys, rfl, hb, _, qs⟩ := q.tupV
    have l1 := rs.length
    have l2 := qs.length
    have xn : xs ≠ [] := fun z => nn (by rw [z] at l1; exact List.length_eq_zero_iff.mp l1.symm)
    refine ⟨a, b, xs, ys, rfl, rfl, SqT.of ha, SqT.of hb, xn, by rw [l1, l2, ← List.length_append]; exact few, fun e => ?_, fun _ p np => ?_⟩
    · have e2 : es = [] := List.length_eq_zero_iff.mp (by rw [← l2, e]; rfl)
      rw [e2, List.append_nil] at k
      exact k _ _ (s1.trans s2) (.tup ha na rs)
    · exact k _ _ ((s1.trans s2).trans (same_new np)) (.tup upd_same ((oc.sm ((s.trans s1).trans s2)).new np) ((rs.app qs).sm (same_new np)))
theorem lit_neg {n : Int} (h : Lit S σ H0 te (.int n)) : Lit S σ H0 (tUn (rU fun i => .int (-i)) te) (.int (-n)) := fun H F s k =>
  h H _ s fun H1 v s1 r => ⟨n, r.intV, k H1 _ s1 (.int _)⟩
theorem Lit.set {u : TS} {D : Ends} {i : Nat} {H : Hp} (h : Lit S σ H0 te d) (s : Same H0 H) (k : ∀ H' v, Same H H' → Rep S H' v d → u D (σ.set i (some v)) H') : tSeq (tAsg te (gName i)) u D σ H := h H _ s k
theorem Lit.at_ {H : Hp} (h : Lit S σ H0 te d) (s : Same H0 H) (H2 : Hp) (s2 : Same H H2) : Lit S σ H te d := fun H' F s' k => h H' F (s.trans s') k
theorem repl_reps {st : List Addr} {H : Hp} {xs : List V} {ds : List PyData} (r : Reps st H xs ds) : ∀ n : Nat, Reps st H (List.replicate n xs).flatten (List.replicate n ds).flatten
  | 0 => .nil
  | n + 1 => by
    rw [List.replicate_succ, List.replicate_succ, List.flatten_cons, List.flatten_cons]
    exact r.app (repl_reps r n)
theorem lit_mul {K : PySem.W.Frag} (oc : Occ S H0) (hx : Lit S σ H0 te (.tuple ds)) (n : Nat) (nn : ds ≠ []) (h2 : 2 ≤ n) (h5 : n ≤ 100) (few : ds.length ≤ 100) : Lit S σ H0 (tOp (rRepT K) te (tC (.int (n : Nat)))) (.tuple (List.replicate n ds).flatten) := fun H F s k =>
  hx H _ s fun H1 v s1 r => by
    obtain ⟨a, xs, rfl, ha, na, rs⟩ := r.tupV
    have l1 := rs.length
    have xn : xs ≠ [] := fun z => nn (by rw [z] at l1; exact List.length_eq_zero_iff.mp l1.symm)
    refine ⟨a, (n : Int), xs, rfl, rfl, SqT.of ha, xn, by omega, by omega, by omega, fun p np => ?_⟩
    rw [Int.toNat_natCast]
    exact k _ _ (s1.trans (same_new np)) (.tup upd_same ((oc.sm (s.trans s1)).new np) ((repl_reps rs n).sm (same_new np)))
end
end Lb

set_option Elab.async false
set_option linter.all false
set_option maxRecDepth 100000
set_option maxHeartbeats 4000000
/-! tuple(reversed(tuple)) -/
namespace RT
open PySem PySem.Spec PyProof.Rows
theorem nolen_rt : typeLookup (.type "reversed") "__len__" = pure none := by rw [typeLookup_type, builtinLookup_eq_fast]; kernel_rfl
theorem hint_rt : typeLookup (.type "reversed") "__length_hint__" = pure (some (.builtin "reversed.__length_hint__")) := by rw [typeLookup_type, builtinLookup_eq_fast]; kernel_rfl
theorem slot_rt_hint : Slot "reversed" "__length_hint__" "reversed.__length_hint__" :=
  .of (owner := "reversed") (n := "__length_hint__") (by rw [typeLookup_type, builtinLookup_eq_fast]; kernel_rfl) (by decide +kernel) (by decide +kernel) (by decide +kernel)
    (by first | exact .inl (by decide +kernel) | exact .inr (by decide +kernel)) (by rw [isSubtype_type]; kernel_rfl)
theorem entry_rt_hint : entryFor table "reversed.__length_hint__" = some Builtin.«reversed.__length_hint__» := entryFor_of_tree (by kernel_rfl)
theorem args_rt_hint (a : Value) : argsOk "reversed.__length_hint__" ⟨[a], []⟩ := by
  unfold argsOk; rw [signature?_of (id := "reversed.__length_hint__") (n := ['_', '_', 't', 'n', 'i', 'h', '_', 'h', 't', 'g', 'n', 'e', 'l', '_', '_']) (o := ['d', 'e', 's', 'r', 'e', 'v', 'e', 'r']) (by kernel_rfl) owner_rt]; kernel_rfl
theorem bind_rt_hint (self : Value) : bindSpecial (.builtin "reversed.__length_hint__") self = pure (.builtin "reversed.__length_hint__", [self]) := by
  kernel_rfl
section
variable {prog : Program} {w : World} {A : Around} {E : Value → Shared → Prop} {s : Shared}
theorem Walks.rt (hh : A.handled = none) (it l : Addr) (hne : l ≠ it) (items : Array Value) (hsz : items.size ≤ sizeLine) :
    Walks prog w A it [it, l] [it] items.size (fun i v => items[items.size - 1 - i]? = some v) (fun i h => i ≤ items.size ∧ IsRt h it l ((items.size : Int) - 1 - (i : Int)) ∧ IsTup h l items) where
  sub := fun b hb => by simp at hb; simp [hb]
  frame := fun _ _ _ x hk => ⟨x.1, x.2.1.at fun o e => hk it (by simp) o e, by
    obtain ⟨o, ho, r⟩ := x.2.2
    exact ⟨o, hk l (by simp) o ho, r⟩⟩
  item := fun i s Q E hi x hQ => by
    have e : (items.size : Int) - 1 - (i : Int) = ((items.size - 1 - i : Nat) : Int) := by omega
    have hit := x.2.1
    rw [e] at hit
    have hx : items[items.size - 1 - i]? = some (items[items.size - 1 - i]'(by omega)) := Array.getElem?_eq_getElem (by omega)
    refine next_rt_item hit x.2.2 hx hsz fun h' hit' hs' => ?_
    have e2 : ((items.size - 1 - i : Nat) : Int) - 1 = (items.size : Int) - 1 - ((i + 1 : Nat) : Int) := by omega
    rw [e2] at hit'
    refine hQ _ h' _ hx ⟨hi, hit', ?_⟩ fun b o hb eo => (hs'.2 b (fun h => hb (by simp [h]))).trans eo
    obtain ⟨o, ho, r⟩ := x.2.2
    exact ⟨o, (hs'.2 l hne).trans ho, r⟩
  done := fun s Q E x hQ => by
    have e : (items.size : Int) - 1 - (items.size : Int) = -1 := by omega
    have hit := x.2.1
    rw [e] at hit
    exact next_rt_end hh hit fun h' eb => hQ h' s.toks fun b o hb eo => eb b o (fun h => hb (by simp [h])) eo
  self := fun i s Q E x h => iter_rt x.2.1 h
theorem hint_run {it t : Addr} {items : Array Value} {Q : Value → Shared → Prop} (hit : IsRt s.heap it t ((items.size : Int) - 1))
    (hlen : ∀ (A : Around) (E : Value → Shared → Prop) (Q : Value → Shared → Prop), Q (.int items.size (s.toks + 1)) { s with toks := s.toks + 1 + 1 } → wpAny (model prog w) A (call (.builtin "len") [.ref t]) Q E s)
    (h : ∀ tk tok, Q (.int items.size tok) { s with toks := tk }) : wpAny (model prog w) A (call (.builtin "reversed.__length_hint__") [.ref it]) Q E s := by
  obtain ⟨o, ho, hc, hd⟩ := id hit
  refine wpAny_call_entry slot_rt_hint hit.typeIs entry_rt_hint ?_ (args_rt_hint _)
  unfold Builtin.«reversed.__length_hint__»
  refine wpAny_bind (wpAny_of_eq (a := Value.ref it) rfl ?_)
  try dsimp only
  refine wpAny_bind (wpAny_field ho hd (x := .ref t) rfl ?_)
  try dsimp only
  try rw [if_neg (by decide)]
  try dsimp only
  refine wpAny_bind (hlen _ _ _ ?_)
  refine wpAny_bind (wpAny_of_eq (a := some ((items.size : Nat) : Int)) rfl ?_)
  try dsimp only
  refine wpAny_bind (wpAny_field (s := { s with toks := s.toks + 1 + 1 }) ho hd (x := rawInt ((items.size : Int) - 1)) rfl ?_)
  try dsimp only
  rw [show rawInt ((items.size : Int) - 1) = Value.int ((items.size : Int) - 1) 0 from rfl]
  dsimp only
  rw [if_neg (by omega)]
  show wpAny _ _ (retInt _) _ _ _
  unfold retInt
  refine wpAny_bind (wpAny_mkInt ?_)
  refine wpAny_pure ⟨_, rfl, ?_⟩
  have e : (items.size : Int) - 1 + 1 = items.size := by omega
  rw [e]
  exact h _ _
theorem hint_len {it l : Addr} {items : Array Value} {Q : Bool → Shared → Prop} (hit : IsRt s.heap it l ((items.size : Int) - 1)) (hn : items.size ≤ sizeLine)
    (hlen : ∀ (A : Around) (E : Value → Shared → Prop) (Q : Value → Shared → Prop), Q (.int items.size (s.toks + 1)) { s with toks := s.toks + 1 + 1 } → wpAny (model prog w) A (call (.builtin "len") [.ref l]) Q E s)
    (h0 : 0 < items.size) (hQ : ∀ (tk : Nat), Q true { s with toks := tk }) : wpAny (model prog w) A (Builtin.List.listLengthHint (.ref it)) Q E s := by
  unfold Builtin.List.listLengthHint
  refine wpAny_bind (wpAny_specialOf hit.typeIs nolen_rt ?_)
  show wpAny _ A (specialOf (Value.ref it) (Str.ofString "__length_hint__") >>= _) _ _ _
  refine wpAny_bind (wpAny_specialOf hit.typeIs hint_rt ?_)
  generalize hid : ("reversed.__length_hint__" : String) = id0
  wp_delta
  rw [show splitId id0 = some ("reversed", "__length_hint__") from by subst hid; decide +kernel]
  subst hid
  refine wpAny_bind (wpAny_isInstance (b := true) hit.typeIs (by rw [isSubtype_type]; kernel_rfl) ?_)
  rw [if_neg (by decide)]
  dsimp only
  rw [if_neg (by decide +kernel)]
  refine wpAny_bind (wpAny_rule ?_)
  refine wpAny_bind (wpAny_of_eq (bind_rt_hint _) ?_)
  dsimp only
  refine wpAny_bind (wpAny_attempt (hint_run hit hlen fun tk tok => ?_))
  dsimp only
  have ea : asInt? (Value.int ((items.size : Nat) : Int) tok) = pure (some ((items.size : Nat) : Int)) := rfl
  simp only [ea, pure_bind]
  rw [sizeLine_eq] at hn
  have f1 : Builtin.List.listFitsIndex ((items.size : Nat) : Int) = true := by
    unfold Builtin.List.listFitsIndex
    rw [Bool.and_eq_true]
    exact ⟨decide_eq_true (by omega), decide_eq_true (by omega)⟩
  have f2 : Builtin.List.listTooLong ((items.size : Nat) : Int).toNat = false := by
    unfold Builtin.List.listTooLong
    rw [Int.toNat_natCast, sizeLine_eq]
    exact decide_eq_false (by omega)
  rw [f1, f2, if_neg (by decide), if_neg (by omega), if_neg (by decide)]
  rw [show (((items.size : Nat) : Int) != 0) = true from by rw [bne_iff_ne]; omega]
  exact wpAny_pure (hQ tk)
theorem collect_rt {it l : Addr} {items : Array Value} {Q : List Value → Shared → Prop} (hh : A.handled = none) (hit : IsRt s.heap it l ((items.size : Int) - 1)) (hl : IsTup s.heap l items) (hne : l ≠ it) (hn : items.size ≤ sizeLine) (h0 : 0 < items.size)
    (hlen : ∀ (s : Shared), IsTup s.heap l items → ∀ (A : Around) (E : Value → Shared → Prop) (Q : Value → Shared → Prop), Q (.int items.size (s.toks + 1)) { s with toks := s.toks + 1 + 1 } → wpAny (model prog w) A (call (.builtin "len") [.ref l]) Q E s)
    (hQ : ∀ (h' : Heap) (tk : Nat) (acc : Array Value), (∀ b o, b ≠ it → s.heap.get? b = some o → h'.get? b = some o) → ItemsOf (fun i v => items[items.size - 1 - i]? = some v) acc items.size → Q acc.toList { s with heap := h', toks := tk }) :
    wpAny (model prog w) A (collect (.ref it)) Q E s := by
  have W := (Walks.rt (prog := prog) (w := w) (A := A.in1) hh it l hne items hn).toS
  obtain ⟨oi, hoi, _⟩ := id hit
  obtain ⟨ol, hol, _⟩ := id hl
  have hSi : s.heap.objs.size ≠ it := Nat.ne_of_gt (Heap.lt_size hoi)
  have hSl : s.heap.objs.size ≠ l := Nat.ne_of_gt (Heap.lt_size hol)
  have hSf : s.heap.objs.size ∉ [it, l] := by simp only [List.mem_cons, List.not_mem_nil, or_false, not_or]; exact ⟨hSi, hSl⟩
  unfold collect
  refine wpAny_bind (wpAny_runValue (codeAny_builtin F.entry_proto_collect ?_))
  rw [Around.under_plainId F.plain_proto_collect _]
  show wpAny _ A.in1 (newList [] >>= fun l' => again (.builtin "list.__iadd__" ⟨[l', .ref it], []⟩)) _ _ s
  refine wpAny_bind (wpAny_newObj_type ?_)
  refine wpAny_pure ⟨plainId_quiet F.plain_list_iadd _, codeAny_builtin F.entry_list_iadd ?_⟩
  rw [Around.under_plainId F.plain_list_iadd _]
  have hS₁ : (s.heap.push { cls := .type "list", data := .seq ([] : List Value).toArray }).get? s.heap.objs.size = some { cls := .type "list", data := .seq ([] : List Value).toArray } := Heap.get?_push_size _ rfl
  have hit1 : IsRt (s.heap.push { cls := .type "list", data := .seq ([] : List Value).toArray }) it l ((items.size : Int) - 1) := hit.at fun o e => Heap.get?_push_of_some _ e
  have hl1 : IsTup (s.heap.push { cls := .type "list", data := .seq ([] : List Value).toArray }) l items := by
    obtain ⟨o, ho, r⟩ := hl
    exact ⟨o, Heap.get?_push_of_some _ ho, r⟩
  have hT : ({ s with heap := s.heap.push { cls := .type "list", data := .seq ([] : List Value).toArray } } : Shared).TypeIs (.ref it) "reversed" := IsRt.typeIs (s := { s with heap := s.heap.push { cls := .type "list", data := .seq ([] : List Value).toArray } }) hit1
  have h1 : Builtin.List.listSameRef (.ref s.heap.objs.size) (.ref it) = false := by simp [Builtin.List.listSameRef, hSi]
  show wpAny _ A.in1 (Builtin.List.listExtendWith (.ref s.heap.objs.size) (.ref it) (.ref s.heap.objs.size)) _ _ _
  unfold Builtin.List.listExtendWith
  refine wpAny_bind (wpAny_typeOf hT ?_)
  rw [if_neg (by rw [h1]; decide)]
  refine wpAny_bind (iter_rt (s := { s with heap := s.heap.push { cls := .type "list", data := .seq ([] : List Value).toArray } }) hit1 ?_)
  refine wpAny_bind (wpAny_holding (hint_len (s := { s with heap := s.heap.push { cls := .type "list", data := .seq ([] : List Value).toArray } }) hit1 hn (hlen { s with heap := s.heap.push { cls := .type "list", data := .seq ([] : List Value).toArray } } hl1) h0 fun tk => ?_))
  show wpAny _ A.in1 (rule "list.extend.makes-room" >>= fun _ => Builtin.List.listTouch (.ref s.heap.objs.size) >>= fun _ =>
    again (.builtin "list.extend.loop" ⟨[.ref s.heap.objs.size, .ref it, .ref s.heap.objs.size], []⟩)) _ _ _
  refine wpAny_bind (wpAny_rule ?_)
  refine wpAny_bind ?_
  show wpAny _ A.in1 (updateSeq s.heap.objs.size (·.push .none) >>= fun _ => updateSeq s.heap.objs.size (·.pop)) _ _ _
  refine wpAny_bind (wpAny_updateSeq hS₁ rfl ?_)
  have hS₂ := Heap.get?_update_self (Obj.mapSeq (·.push Value.none)) hS₁ rfl
  refine wpAny_updateSeq hS₂ rfl ?_
  have hS₃ := Heap.get?_update_self (Obj.mapSeq (·.pop)) hS₂ rfl
  have oth : ∀ b o, b ≠ s.heap.objs.size → (s.heap.push { cls := .type "list", data := .seq ([] : List Value).toArray }).get? b = some o →
      (((s.heap.push { cls := .type "list", data := .seq ([] : List Value).toArray }).update s.heap.objs.size (Obj.mapSeq (·.push Value.none))).update s.heap.objs.size (Obj.mapSeq (·.pop))).get? b = some o :=
    fun b o hb e => (Heap.get?_update_other _ _ (Ne.symm hb)).trans ((Heap.get?_update_other _ _ (Ne.symm hb)).trans e)
  have e0 : ((items.size : Nat) : Int) - 1 - ((0 : Nat) : Int) = (items.size : Int) - 1 := by omega
  have hl2 : IsTup (((s.heap.push { cls := .type "list", data := .seq ([] : List Value).toArray }).update s.heap.objs.size (Obj.mapSeq (·.push Value.none))).update s.heap.objs.size (Obj.mapSeq (·.pop))) l items := by
    obtain ⟨o, ho, r⟩ := hl1
    exact ⟨o, oth _ _ hSl.symm ho, r⟩
  refine wpAny_pure ⟨plainId_quiet F.plain_extend_loop _, codeAny_extend_loopS W hn _ hSf _ items.size 0 _ _ _ rfl (Nat.zero_le _)
    ⟨Nat.zero_le _, by rw [e0]; exact hit1.at fun o e => oth _ _ hSi.symm e, hl2⟩ hS₃ (ItemsOf.nil _) fun s' acc' c' hm hS' hacc => ?_⟩
  show wpAny _ A (load s.heap.objs.size >>= _) _ _ s'
  refine wpAny_bind (wpAny_load hS' ?_)
  refine wpAny_pure ?_
  rw [Moved.eq_with hm]
  refine hQ s'.heap s'.toks acc' (fun b o hb e => ?_) hacc
  have nb : b ≠ s.heap.objs.size := fun e' => absurd (Heap.lt_size e) (by rw [e']; exact Nat.lt_irrefl _)
  refine hm.heap b o (fun hmem => ?_) (oth _ _ nb (Heap.get?_push_of_some _ e))
  rcases List.mem_cons.mp hmem with e' | hmem
  · exact nb e'
  · exact hb (List.mem_singleton.mp hmem)
theorem code_tuple_new_rt {it l : Addr} {items : Array Value} {Q₁ : Value → Shared → Prop} (hh : A.handled = none) (hit : IsRt s.heap it l ((items.size : Int) - 1)) (hl : IsTup s.heap l items) (hne : l ≠ it) (hn : items.size ≤ sizeLine) (h0 : 0 < items.size)
    (hlen : ∀ (s : Shared), IsTup s.heap l items → ∀ (A : Around) (E : Value → Shared → Prop) (Q : Value → Shared → Prop), Q (.int items.size (s.toks + 1)) { s with toks := s.toks + 1 + 1 } → wpAny (model prog w) A (call (.builtin "len") [.ref l]) Q E s)
    (h : ∀ (h' : Heap) (tk : Nat) (acc : Array Value), (∀ b o, b ≠ it → s.heap.get? b = some o → h'.get? b = some o) → ItemsOf (fun i v => items[items.size - 1 - i]? = some v) acc items.size →
      Q₁ (.ref h'.objs.size) { s with heap := h'.push { cls := .type "tuple", data := .seq acc }, toks := tk }) :
    codeAny (model prog w) A (.call (.builtin "tuple.__new__") ⟨[.type "tuple", .ref it], []⟩) (wants Q₁ E) s := by
  refine codeAny_of_tree ?_
  show wpAny _ A.in1 (do checkBuiltinCall "tuple.__new__" ⟨[.type "tuple", .ref it], []⟩; again (.builtin "tuple.__new__" ⟨[.type "tuple", .ref it], []⟩)) _ _ s
  refine wpAny_bind (wpAny_of_eq (F.newCall_tuple_1 _) (wpAny_pure ⟨plainId_quiet F.plain_tuple_new _, codeAny_builtin F.entry_tuple_new ?_⟩))
  rw [Around.under_plainId F.plain_tuple_new _]
  have hsub := sub_tuple_self
  have hinit := init_tuple_lookup
  have hmh := madeHere_tuple
  have hTI : s.TypeIs (.ref it) "reversed" := hit.typeIs
  have hh1 : A.in1.handled = none := hh
  wp_walk using wpAny_typeOf hTI, collect_rt (A := A.in1) hh1 hit hl hne hn h0 hlen
  intro h' tk acc hk hacc
  show wpAny _ _ (Builtin.Tuple.tupleExact acc.toList.toArray >>= fun v => ret v) _ _ _
  unfold Builtin.Tuple.tupleExact
  refine wpAny_bind (wpAny_newObj_type ?_ (by show acc.toList.toArray.size ≤ sizeLine; simp only [Array.toArray_toList]; rw [hacc.1]; exact hn))
  refine wpAny_pure ?_
  have e : acc.toList.toArray = acc := by simp
  rw [e]
  exact h h' tk acc hk hacc
theorem call_tuple_rt {it l : Addr} {items : Array Value} {Q : Value → Shared → Prop} (hh : A.handled = none) (hit : IsRt s.heap it l ((items.size : Int) - 1)) (hl : IsTup s.heap l items) (hne : l ≠ it) (hn : items.size ≤ sizeLine) (h0 : 0 < items.size)
    (hlen : ∀ (s : Shared), IsTup s.heap l items → ∀ (A : Around) (E : Value → Shared → Prop) (Q : Value → Shared → Prop), Q (.int items.size (s.toks + 1)) { s with toks := s.toks + 1 + 1 } → wpAny (model prog w) A (call (.builtin "len") [.ref l]) Q E s)
    (hQ : ∀ (h' : Heap) (tk : Nat) (acc : Array Value), (∀ b o, b ≠ it → s.heap.get? b = some o → h'.get? b = some o) → ItemsOf (fun i v => items[items.size - 1 - i]? = some v) acc items.size →
      Q (.ref h'.objs.size) { s with heap := h'.push { cls := .type "tuple", data := .seq acc }, toks := tk }) :
    wpAny (model prog w) A (call (.type "tuple") [.ref it]) Q E s := by
  refine callType_codes (Q₁ := fun obj s₁ => s₁.TypeIs obj "tuple" ∧ Q obj s₁) F.called_tuple (F.typeCall_tuple_1 _) F.entry_object_init
    (code_tuple_new_rt (A := A.in1) hh hit hl hne hn h0 hlen fun h' tk acc hk hacc => ⟨⟨_, Heap.get?_push_size _ rfl, rfl⟩, hQ h' tk acc hk hacc⟩) fun obj s₁ h₁ => ?_
  exact ⟨h₁.1, F.args_object_init_2 obj _, object_init_meets F.called_tuple.init.lookup F.called_tuple.made (by decide) prog w A.in1 _ s₁ ⟨h₁.1, rfl, h₁.2⟩⟩
end
end RT
namespace RT
open PySem PySem.Spec PyProof.Rows L2
/-- tuple(reversed(x)), x a tuple with an item at least: a new tuple -/
def tTupRevT (K : PySem.W.Frag) (te : TE) : TE := fun σ H Q => te σ H fun v H1 => ∃ (a : Addr) (xs : List V), v = .ref a ∧ SqT K H1 a xs ∧ xs ≠ [] ∧ ∀ q, H1 q = none → Q (.ref q) (upd H1 q (.tup xs.reverse))
section
variable {X : Cx}
theorem pe_tupRevT {e : Expr} {te : TE} {p p2 pos pos2 : Pos} (hc : X.calm = true) (hg : Gl X "tuple") (hm : X.mg "tuple" = none) (hg2 : Gl X "reversed") (hm2 : X.mg "reversed" = none) (he : PE X e te)
    (hs : starEach [e] X.env = (false, eval e X.env) :: starEach [] X.env := by rfl)
    (hs2 : starEach [.Call (.Name "reversed" p2) [e] [] pos2] X.env = (false, eval (.Call (.Name "reversed" p2) [e] [] pos2) X.env) :: starEach [] X.env := by rfl) :
    PE X (.Call (.Name "tuple" p) [.Call (.Name "reversed" p2) [e] [] pos2] [] pos) (tTupRevT X.K te) := by
  refine ⟨fun pins s σ H Q I h => ?_⟩
  refine Call_ (ld_blt I hg hm boot_tuple (PyProof.Rows.callWith_type1 (args_cons (Call_ (ld_blt I hg2 hm2 PyProof.Rows.boot_reversed (PyProof.Rows.callWith_type1 (args_cons (thn (he.run pins s σ H _ I h) fun u s1 ⟨v, H1, I1, r1, q1⟩ => args_nil ?_) hs) hs rfl))) hs2) hs2 rfl))
  obtain ⟨a, xs, ev, hq, xn, q⟩ := q1
  subst ev
  obtain rfl : u = Value.ref a := r1
  obtain ⟨its, rv, p', hz⟩ := I1.tuple hq
  have hn63 := line63
  have hlen0 : its.toArray.size = its.length := List.size_toArray
  have hn : its.toArray.size ≤ sizeLine := by rw [List.size_toArray, ← rv.length]; exact hz
  have h0 : 0 < its.toArray.size := by
    rw [hlen0, ← rv.length]
    exact List.length_pos_iff.mpr xn
  have hl2 := rv.length
  refine call_reversed_tup p' (fun A E Q k => len_tuple p' (by simp only [List.size_toArray] <;> omega) k) (args_nil ?_)
  have k0 : ∀ b o, s1.heap.get? b = some o → (s1.heap.push (rtObj a ((its.toArray.size : Int) - 1))).get? b = some o := fun b o e => Heap.get?_push_of_some _ e
  have I2 : Inv X pins σ H1 { s1 with heap := s1.heap.push (rtObj a ((its.toArray.size : Int) - 1)), toks := s1.toks + 1 + 1 } := I1.kept (t' := s1.toks + 1 + 1) k0
  obtain ⟨f0, f1, f2, f3, f4, f5⟩ := I1.fpOk (H' := H1) (b := s1.heap.objs.size) (Nat.le_refl _) (I1.hok.fresh (Nat.le_refl _))
  obtain ⟨ol, hol, hol2⟩ := id p'
  have hne : a ≠ s1.heap.objs.size := Nat.ne_of_lt (Heap.lt_size hol)
  refine call_tuple_rt (s := { s1 with heap := s1.heap.push (rtObj a ((its.toArray.size : Int) - 1)), toks := s1.toks + 1 + 1 }) (I1.ok.hd hc) ⟨_, Heap.get?_push_size _ rfl, rfl, rfl⟩ ⟨ol, k0 _ _ hol, hol2⟩ hne hn h0 (fun s ht A E Q k => len_tuple ht (by simp only [List.size_toArray] <;> omega) k) fun h' tk acc hk hi => ?_
  have I3 : Inv X pins σ H1 { s1 with heap := h', toks := tk } := I2.turned (t' := tk) (fun b o hb e => hk b o hb e) f0 f1 f3 f4 f5
  refine ⟨.ref h'.objs.size, upd H1 h'.objs.size (.tup xs.reverse), I3.laid (t' := tk) (fun c o e => Heap.get?_push_of_some _ e) (Nat.le_refl _) (show ObjOk X.prog X.w _ _ _ (.tup xs.reverse) from ⟨by rw [List.length_reverse]; exact hz, acc.toList, vals_rev rv hi, ?_⟩), rfl, q _ (I3.hok.fresh (Nat.le_refl _))⟩
  rw [Array.toArray_toList]
  exact IsTup.new _ _
end
end RT

set_option Elab.async false
set_option linter.all false
set_option maxRecDepth 100000
set_option maxHeartbeats 4000000
/-! written data, more: slices, items, sums of tuples, list(), tuple(), len -/
namespace Lb
open PySem PySem.Spec PyProof.Rows L2
theorem noLst_all' {ds : List PyData} (h : ∀ d ∈ ds, noLst d = true) : noLsts ds = true := by
  induction ds with
  | nil => rfl
  | cons d ds ih => rw [noLsts, h d List.mem_cons_self, ih fun e m => h e (List.mem_cons_of_mem _ m)]; rfl
theorem seq_by {t u : TS} {D : Ends} {σ : L2.St} {H : Hp} (R : L2.St → Hp → Prop) (h2 : ∀ σ H, R σ H → u D σ H) (h1 : (∀ σ H, R σ H → u D σ H) → t { D with nx := u D } σ H) : tSeq t u D σ H := h1 h2
theorem Lits.setL {S : List Addr} {σ : L2.St} {H0 : Hp} {ta : TA} {ds : List PyData} {u : TS} {D : Ends} {i : Nat} {H : Hp} (h : Lits S σ H0 ta ds) (s : Same H0 H) (few : ds.length ≤ sizeLine) (k : ∀ H' vs p, Same H H' → Reps S H' vs ds → H' p = none → u D (σ.set i (some (.ref p))) (upd H' p (.lst vs))) : tSeq (tAsg (tLst ta) (gName i)) u D σ H :=
  h H _ s fun H1 vs s1 rs => ⟨by rw [rs.length]; exact few, fun p np => k _ vs p s1 rs np⟩
theorem noLst_prog (P : Prog) : noLst P.d = true := by
  have h1 : noLsts (P.parts.map rowsD) = true := noLst_all' fun d hd => by
    obtain ⟨rs, _, rfl⟩ := List.mem_map.mp hd
    exact noLst_rows rs
  have h2 : noLsts (P.marks.map PyData.bool) = true := noLst_all' fun d hd => by
    obtain ⟨rs, _, rfl⟩ := List.mem_map.mp hd
    rfl
  have h3 : noLsts (P.entries.map PyData.int) = true := noLst_all' fun d hd => by
    obtain ⟨rs, _, rfl⟩ := List.mem_map.mp hd
    rfl
  show (noLsts (P.parts.map rowsD) && (noLsts (P.marks.map PyData.bool) && (noLsts (P.entries.map PyData.int) && (noLsts (P.opens.map nmD) && true)))) = true
  rw [h1, h2, h3, noLst_nms]
  rfl
def rLst2 (K : PySem.W.Frag) : List V → Hp → VK → Prop := fun xs H Q => ∃ p ys, xs = [V.ref p] ∧ (SqL K H p ys ∨ SqT K H p ys) ∧ ∀ l, H l = none → Q (.ref l) (upd H l (.lst ys))
theorem lst_k {X : Cx} : CallR X (.type "list") (rLst2 X.K) := call_list_of
def rTup2 (K : PySem.W.Frag) : List V → Hp → VK → Prop := fun xs H Q => ∃ p ys, xs = [V.ref p] ∧ ((SqL K H p ys ∧ ∀ l, H l = none → Q (.ref l) (upd H l (.tup ys))) ∨ SqT K H p ys ∧ Q (.ref p) H)
theorem tup_k {X : Cx} : CallR X (.type "tuple") (rTup2 X.K) := call_tuple_of
theorem Reps.set {st : List Addr} {H : Hp} {x : V} {d : PyData} : ∀ {vs : List V} {ds : List PyData} (j : Nat), Reps st H vs ds → Rep st H x d → Reps st H (vs.set j x) (ds.set j d)
  | _, _, _, .nil, _ => .nil
  | _, _, 0, .cons r rs, q => .cons q rs
  | _, _, j + 1, .cons r rs, q => .cons r (Reps.set j rs q)
theorem set_mem {α : Type} {l : List α} {j : Nat} (h : j < l.length) (x : α) : x ∈ l.set j x := List.mem_iff_getElem?.mpr ⟨j, by rw [List.getElem?_set_self h]⟩
theorem ixN_at {n : Nat} {w : Int} (h0 : 0 ≤ w) (h1 : w < n) : ixN n w = some w.toNat := by
  unfold ixN
  rw [if_pos h0, if_pos h1]

theorem Reps.rev {st : List Addr} {H : Hp} : ∀ {vs : List V} {ds : List PyData}, Reps st H vs ds → Reps st H vs.reverse ds.reverse
  | _, _, .nil => .nil
  | _, _, .cons r rs => by
    rw [List.reverse_cons, List.reverse_cons]
    exact (Reps.rev rs).app (.one r)
/-- a slice's bound -/
def LitO (S : List Addr) (σ : L2.St) (H0 : Hp) (to : TO) (o : Option Int) : Prop := ∀ (H : Hp) (F : Option Int → Hp → Prop), Same H0 H → (∀ H', Same H H' → F o H') → to σ H F
section
variable {S : List Addr} {σ : L2.St} {H0 : Hp} {te : TE} {tl th : TO} {ds : List PyData} {lo hi : Option Int}
theorem lito_no : LitO S σ H0 tNoPart none := fun H F _ k => k H (.refl _)
theorem lito_int {n : Int} (h : Lit S σ H0 te (.int n)) : LitO S σ H0 (tPart te) (some n) := fun H F s k => h H _ s fun H1 v s1 r => ⟨n, r.intV, k H1 s1⟩
def cutD (ds : List PyData) (lo hi : Option Int) : List PyData := (ds.drop (HT.sIx ds.length 0 lo)).take (HT.sIx ds.length ds.length hi - HT.sIx ds.length 0 lo)
theorem Reps.sub {st : List Addr} {H : Hp} {xs : List V} {ds : List PyData} (r : Reps st H xs ds) : Reps st H (cutV xs lo hi) (cutD ds lo hi) := by
  unfold cutV cutD
  rw [← r.length]
  exact (r.skip _).cut _
theorem lit_sl {K : PySem.W.Frag} (oc : Occ S H0) (hx : Lit S σ H0 te (.tuple ds)) (hl : LitO S σ H0 tl lo) (hh : LitO S σ H0 th hi) : Lit S σ H0 (tSl (rSlA K) te tl th) (.tuple (cutD ds lo hi)) := fun H F s k =>
  hx H _ s fun H1 v s1 r => hl H1 _ (s.trans s1) fun H2 s2 => hh H2 _ ((s.trans s1).trans s2) fun H3 s3 => by
    obtain ⟨a, xs, rfl, ha, na, rs⟩ := (r.sm (s2.trans s3)).tupV
    have sA := s1.trans (s2.trans s3)
    refine ⟨a, xs, rfl, SqT.of ha, fun w => ?_, fun _ p np => ?_⟩
    · have e : cutD ds lo hi = ds := by
        unfold cutD
        rw [← rs.length, w.1, w.2, List.drop_zero, Nat.sub_zero]
        exact List.take_of_length_le (by rw [rs.length]; exact Nat.le_refl _)
      rw [e] at k
      exact k _ _ sA (.tup ha na rs)
    · exact k _ _ (sA.trans (same_new np)) (.tup upd_same ((oc.sm (s.trans sA)).new np) (rs.sub.sm (same_new np)))
theorem lit_lof {K : PySem.W.Frag} (oc : Occ S H0) (hx : Lit S σ H0 te (.tuple ds)) : Lit S σ H0 (tCB (rLst2 K) (tCons te tNil)) (.list ds) := fun H F s k =>
  hx H _ s fun H1 v s1 r => by
    obtain ⟨a, xs, rfl, ha, na, rs⟩ := r.tupV
    exact ⟨a, xs, rfl, .inr (SqT.of ha), fun p np => k _ _ (s1.trans (same_new np)) (.lst upd_same ((oc.sm (s.trans s1)).new np) (rs.sm (same_new np)))⟩
end
section
variable {S : List Addr} {σ : L2.St} {H0 : Hp} {te tb : TE} {ds es : List PyData} {d : PyData}
def rInt2 : List V → Hp → VK → Prop := fun xs H Q => (∃ i, xs = [.int i] ∧ Q (.int i) H) ∨ ∃ k, xs = [.bl k] ∧ Q (.int (if k then 1 else 0)) H
theorem int_k {X : Cx} : CallR X (.type "int") rInt2 := call_int1
theorem Reps.atI {st : List Addr} {H : Hp} {xs : List V} (r : Reps st H xs ds) {i : Int} (h : atI ds i = some d) : ∃ x, L2.atI xs i = some x ∧ Rep st H x d := by
  unfold L2.atI at h ⊢
  rw [r.length]
  cases e : ixN ds.length i with
  | none =>
    rw [e] at h
    exact nomatch h
  | some j =>
    rw [e] at h
    exact r.at_ h
theorem lit_ix {K : PySem.W.Frag} {i : Int} (hx : Lit S σ H0 te (.tuple ds)) (hi : Lit S σ H0 tb (.int i)) (h : atI ds i = some d) : Lit S σ H0 (tOp (rIxT K) te tb) d := fun H F s k =>
  hx H _ s fun H1 v s1 r => hi H1 _ (s.trans s1) fun H2 u s2 q => by
    obtain ⟨a, xs, rfl, ha, _, rs⟩ := (r.sm s2).tupV
    obtain ⟨x, hx, rx⟩ := rs.atI h
    exact ⟨a, xs, i, x, rfl, q.intV, SqT.of ha, hx, k _ _ (s1.trans s2) rx⟩
theorem lit_ixL {K : PySem.W.Frag} {i : Int} (hx : Lit S σ H0 te (.list ds)) (hi : Lit S σ H0 tb (.int i)) (h : atI ds i = some d) : Lit S σ H0 (tOp (rIxL K) te tb) d := fun H F s k =>
  hx H _ s fun H1 v s1 r => hi H1 _ (s.trans s1) fun H2 u s2 q => by
    obtain ⟨a, xs, rfl, ha, _, rs⟩ := (r.sm s2).lstV
    obtain ⟨x, hx, rx⟩ := rs.atI h
    exact ⟨a, xs, i, x, rfl, q.intV, SqL.of ha, hx, k _ _ (s1.trans s2) rx⟩
theorem lit_catA {K : PySem.W.Frag} (oc : Occ S H0) (hx : Lit S σ H0 te (.tuple ds)) (hy : Lit S σ H0 tb (.tuple es)) (few : (ds ++ es).length ≤ sizeLine) : Lit S σ H0 (tOp (rCatA K) te tb) (.tuple (ds ++ es)) := fun H F s k =>
  hx H _ s fun H1 v s1 r => hy H1 _ (s.trans s1) fun H2 u s2 q => by
    obtain ⟨a, xs, rfl, ha, na, rs⟩ := (r.sm s2).tupV
    obtain ⟨b, ys, rfl, hb, nb, qs⟩ := q.tupV
    have l1 := rs.length
    have l2 := qs.length
    refine ⟨a, b, xs, ys, rfl, rfl, SqT.of ha, SqT.of hb, by rw [l1, l2, ← List.length_append]; exact few, fun e => ?_, fun _ e => ?_, fun _ _ p np => ?_⟩
    · have e2 : ds = [] := List.length_eq_zero_iff.mp (by rw [← l1, e]; rfl)
      rw [e2, List.nil_append] at k
      exact k _ _ (s1.trans s2) (.tup hb nb qs)
    · have e2 : es = [] := List.length_eq_zero_iff.mp (by rw [← l2, e]; rfl)
      rw [e2, List.append_nil] at k
      exact k _ _ (s1.trans s2) (.tup ha na rs)
    · exact k _ _ ((s1.trans s2).trans (same_new np)) (.tup upd_same ((oc.sm ((s.trans s1).trans s2)).new np) ((rs.app qs).sm (same_new np)))
theorem lit_ofB {b : Bool} (h : Lit S σ H0 te (.bool b)) : Lit S σ H0 (tCB rInt2 (tCons te tNil)) (.int (if b then 1 else 0)) := fun H F s k =>
  h H _ s fun H1 v s1 r => .inr ⟨b, by rw [r.blV], k _ _ s1 (.int _)⟩
theorem lit_eqI {i j : Int} (h : Lit S σ H0 te (.int i)) : Lit S σ H0 (tOp rEq te (tC (.int j))) (.bool (decide (V.int i = V.int j))) := fun H F s k =>
  h H _ s fun H1 v s1 r => by
    rw [r.intV]
    exact ⟨rfl, k _ _ s1 (.bl _)⟩
theorem lit_plus {i j : Int} (h : Lit S σ H0 te (.int i)) : Lit S σ H0 (tOp (rI0 fun i j => .int (i + j)) te (tC (.int j))) (.int (i + j)) := fun H F s k =>
  h H _ s fun H1 v s1 r => ⟨i, j, r.intV, rfl, k _ _ s1 (.int _)⟩
end
section
variable {S : List Addr} {σ : L2.St} {H0 : Hp} {te tb : TE} {ds es : List PyData} {d : PyData}
theorem lit_revT {K : PySem.W.Frag} (oc : Occ S H0) (hx : Lit S σ H0 te (.tuple ds)) (nn : ds ≠ []) : Lit S σ H0 (RT.tTupRevT K te) (.tuple ds.reverse) := fun H F s k =>
  hx H _ s fun H1 v s1 r => by
    obtain ⟨a, xs, rfl, ha, na, rs⟩ := r.tupV
    have l1 := rs.length
    refine ⟨a, xs, rfl, SqT.of ha, fun z => nn (by rw [z] at l1; exact List.length_eq_zero_iff.mp l1.symm), fun p np => ?_⟩
    exact k _ _ (s1.trans (same_new np)) (.tup upd_same ((oc.sm (s.trans s1)).new np) (rs.rev.sm (same_new np)))
theorem lit_lenT {K : PySem.W.Frag} (hx : Lit S σ H0 te (.tuple ds)) : Lit S σ H0 (tCB (rLen2 K) (tCons te tNil)) (.int ds.length) := fun H F s k =>
  hx H _ s fun H1 v s1 r => by
    obtain ⟨a, xs, rfl, ha, na, rs⟩ := r.tupV
    refine ⟨a, xs, rfl, .inr (SqT.of ha), ?_⟩
    rw [rs.length]
    exact k _ _ s1 (.int _)
theorem lit_neg1 {n : Int} : Lit S σ H0 (tUn (rU fun i => .int (-i)) (tC (.int n))) (.int (-n)) := lit_neg (lit_int n)
end
end Lb

set_option Elab.async false
set_option linter.all false
set_option maxRecDepth 100000
set_option maxHeartbeats 4000000
/-! places and lots of a program, as data -/
namespace Lb
open PySem PySem.Spec PyProof.Rows L2
def partD (P : PyData) (i : Nat) : PyData := (itemsD (nthD P 0)).getD i .none
def placeB (P d : PyData) : Bool := tupB d 2 2 && (numB (nthD d 0) ((itemsD (nthD P 0)).length : Int) && numB (nthD d 1) ((itemsD (partD P (valI (nthD d 0)).toNat)).length : Int))
def lotB (P d : PyData) : Bool := isTup d && ((itemsD d).all (fun x => placeB P x) && ascB (itemsD d))
theorem numB_iff {d : PyData} {n : Int} : numB d n = true ↔ ∃ i : Int, d = .int i ∧ 0 ≤ i ∧ i < n := by
  constructor
  · intro h
    unfold numB at h
    rw [Bool.and_eq_true, Bool.and_eq_true, decide_eq_true_eq, decide_eq_true_eq] at h
    obtain ⟨i, rfl⟩ := int_of h.1
    exact ⟨i, rfl, h.2.1, h.2.2⟩
  · rintro ⟨i, rfl, h0, h1⟩
    exact numB_ok h0 h1
theorem placeB_iff {P d : PyData} : placeB P d = true ↔ ∃ i j : Nat, d = placeD i j ∧ i < (itemsD (nthD P 0)).length ∧ j < (itemsD (partD P i)).length := by
  constructor
  · intro h
    unfold placeB at h
    rw [Bool.and_eq_true, Bool.and_eq_true] at h
    obtain ⟨ds, rfl, l1, l2⟩ := tupB_len h.1
    obtain ⟨x, y, rfl⟩ := len2 l1 l2
    obtain ⟨i, ei, i0, i1⟩ := numB_iff.mp h.2.1
    obtain ⟨j, ej, j0, j1⟩ := numB_iff.mp h.2.2
    have ex : x = .int i := ei
    have ey : y = .int j := ej
    subst ex ey
    have e1 : valI (nthD (.tuple [.int i, .int j]) 0) = i := rfl
    rw [e1] at j1
    refine ⟨i.toNat, j.toNat, ?_, by omega, by omega⟩
    unfold placeD
    rw [Int.toNat_of_nonneg i0, Int.toNat_of_nonneg j0]
  · rintro ⟨i, j, rfl, hi, hj⟩
    unfold placeB placeD
    have e1 : valI (nthD (.tuple [.int i, .int j]) 0) = (i : Int) := rfl
    rw [e1, Int.toNat_natCast]
    show (true && (numB (.int i) _ && numB (.int j) _)) = true
    rw [numB_ok (by omega) (by omega), numB_ok (by omega) (by omega)]
    rfl
/-- the places as pairs -/
def pairsIn (i n : Nat) : List (Nat × Nat) := (List.range n).map fun j => (i, j)
def pairsTo (ps : List PyData) (n : Nat) : List (Nat × Nat) := (List.range n).flatMap fun k => pairsIn k (itemsD (ps.getD k .none)).length
def pD (q : Nat × Nat) : PyData := placeD q.1 q.2
def pLt (q r : Nat × Nat) : Prop := q.1 < r.1 ∨ (q.1 = r.1 ∧ q.2 < r.2)
theorem upTo_pairs (ps : List PyData) (n : Nat) : upTo ps n = (pairsTo ps n).map pD := by
  unfold upTo pairsTo
  rw [List.map_flatMap]
  congr 1
  funext k
  unfold inPart pairsIn
  rw [List.map_map]
  rfl
theorem pairs_mem {ps : List PyData} {n : Nat} {q : Nat × Nat} : q ∈ pairsTo ps n ↔ q.1 < n ∧ q.2 < (itemsD (ps.getD q.1 .none)).length := by
  unfold pairsTo pairsIn
  rw [List.mem_flatMap]
  constructor
  · rintro ⟨k, hk, hq⟩
    obtain ⟨j, hj, rfl⟩ := List.mem_map.mp hq
    exact ⟨List.mem_range.mp hk, List.mem_range.mp hj⟩
  · rintro ⟨h1, h2⟩
    exact ⟨q.1, List.mem_range.mpr h1, List.mem_map.mpr ⟨q.2, List.mem_range.mpr h2, rfl⟩⟩
theorem pairs_up (ps : List PyData) : ∀ n : Nat, (pairsTo ps n).Pairwise pLt
  | 0 => .nil
  | n + 1 => by
    have ih := pairs_up ps n
    have e : pairsTo ps (n + 1) = pairsTo ps n ++ pairsIn n (itemsD (ps.getD n .none)).length := by
      unfold pairsTo
      rw [List.range_succ, List.flatMap_append, List.flatMap_cons, List.flatMap_nil, List.append_nil]
    rw [e, List.pairwise_append]
    refine ⟨ih, ?_, fun q hq r hr => ?_⟩
    · unfold pairsIn
      rw [List.pairwise_map]
      exact (List.pairwise_lt_range).imp fun h => .inr ⟨rfl, h⟩
    · have h1 := (pairs_mem.mp hq).1
      obtain ⟨j, _, rfl⟩ := List.mem_map.mp hr
      exact .inl h1
theorem pD_lt (q r : Nat × Nat) : PySem.W.dataLt (pD q) (pD r) = true ↔ pLt q r := by
  unfold pD placeD
  rw [PySem.W.dataLt_pair (by rfl) (by rfl)]
  have e : ∀ a b : Nat, PyData.eqv (.int (a : Int)) (.int (b : Int)) = decide (a = b) := fun a b => by
    rw [Bool.eq_iff_iff, decide_eq_true_eq]
    simp [PyData.eqv] <;> omega
  rw [e, e, PySem.W.dataLt_int, PySem.W.dataLt_int]
  unfold pLt
  by_cases h1 : q.1 = r.1
  · rw [if_pos (decide_eq_true h1)]
    by_cases h2 : q.2 = r.2
    · rw [if_pos (decide_eq_true h2)]
      constructor
      · intro z
        exact nomatch z
      · omega
    · rw [if_neg (by simpa using h2), decide_eq_true_eq]
      omega
  · rw [if_neg (by simpa using h1), decide_eq_true_eq]
    omega
theorem asc_up : ∀ {l : List (Nat × Nat)}, l.Pairwise pLt → ascB (l.map pD) = true := fun h => ascB_of pD pLt (fun a b z => (pD_lt a b).mpr z) _ h
theorem ascB_mid : ∀ (l : List PyData) {a b : PyData} {r : List PyData}, ascB (l ++ a :: b :: r) = true → PySem.W.dataLt a b = true
  | [], _, _, _, h => (Bool.and_eq_true_iff.mp h).1
  | [x], a, b, r, h => ascB_mid [] (show ascB (a :: b :: r) = true from (Bool.and_eq_true_iff.mp (show (PySem.W.dataLt x a && ascB (a :: b :: r)) = true from h)).2)
  | x :: y :: l, a, b, r, h => ascB_mid (y :: l) (show ascB ((y :: l) ++ a :: b :: r) = true from (Bool.and_eq_true_iff.mp (show (PySem.W.dataLt x y && ascB ((y :: l) ++ a :: b :: r)) = true from h)).2)
section
variable {P : PyData} {ps : List PyData}
theorem place_all (hP : nthD P 0 = .tuple ps) {l : List (Nat × Nat)} (h : ∀ q ∈ l, q ∈ pairsTo ps ps.length) : (l.map pD).all (fun x => placeB P x) = true := by
  rw [List.all_map, List.all_eq_true]
  intro q hq
  have z := pairs_mem.mp (h q hq)
  refine placeB_iff.mpr ⟨q.1, q.2, rfl, ?_, ?_⟩
  · rw [hP]
    exact z.1
  · unfold partD
    rw [hP]
    exact z.2
theorem lot_ok (hP : nthD P 0 = .tuple ps) {l : List (Nat × Nat)} (h : ∀ q ∈ l, q ∈ pairsTo ps ps.length) (up : l.Pairwise pLt) : lotB P (.tuple (l.map pD)) = true := by
  show (true && ((l.map pD).all (fun x => placeB P x) && ascB (l.map pD))) = true
  rw [place_all hP h, asc_up up]
  rfl
theorem lot_turned (hP : nthD P 0 = .tuple ps) {n : Nat} (hn : n < (pairsTo ps ps.length).length) : lotB P (.tuple (((pairsTo ps ps.length).drop n ++ (pairsTo ps ps.length).take n).map pD)) = decide (n = 0) := by
  have up := pairs_up ps ps.length
  by_cases h0 : n = 0
  · subst h0
    rw [List.drop_zero, List.take_zero, List.append_nil, decide_eq_true rfl]
    exact lot_ok hP (fun q hq => hq) up
  · rw [decide_eq_false h0]
    generalize pairsTo ps ps.length = l at *
    have e := List.take_append_drop n l
    have ht : 0 < (l.take n).length := by rw [List.length_take]; omega
    have hd : 0 < (l.drop n).length := by rw [List.length_drop]; omega
    obtain ⟨y, v, hy⟩ := List.exists_cons_of_length_pos ht
    obtain ⟨u, x, hx⟩ : ∃ u x, l.drop n = u ++ [x] := ⟨(l.drop n).dropLast, (l.drop n).getLast (List.ne_nil_of_length_pos hd), (List.dropLast_concat_getLast _).symm⟩
    rw [hy, hx] at e ⊢
    rw [← e, List.pairwise_append] at up
    have lt : pLt y x := up.2.2 y List.mem_cons_self x (List.mem_append.mpr (.inr List.mem_cons_self))
    rw [Bool.eq_false_iff]
    intro z
    have z2 : (true && (_ && ascB ((u ++ [x] ++ y :: v).map pD))) = true := z
    rw [Bool.true_and, Bool.and_eq_true] at z2
    have z3 := z2.2
    rw [List.append_assoc, List.map_append] at z3
    have lt2 := (pD_lt x y).mp (ascB_mid (u.map pD) z3)
    unfold pLt at lt lt2
    omega
theorem lot_with {ds : List PyData} {x : PyData} (hx : x ∈ ds) (h : placeB P x = false) : lotB P (.tuple ds) = false := by
  show (true && (ds.all (fun x => placeB P x) && ascB ds)) = false
  have e : ds.all (fun x => placeB P x) = false := by
    rw [List.all_eq_false]
    exact ⟨x, hx, by rw [h]; exact fun z => nomatch z⟩
  rw [e]
  rfl
theorem lot_twice {l r : List PyData} {x : PyData} : lotB P (.tuple (l ++ x :: x :: r)) = false := by
  rw [Bool.eq_false_iff]
  intro z
  have z2 : (true && (_ && ascB (l ++ x :: x :: r))) = true := z
  rw [Bool.true_and, Bool.and_eq_true] at z2
  have z3 := ascB_mid l z2.2
  rw [PySem.W.dataLt_self] at z3
  exact nomatch z3
theorem place_no {d : PyData} (h : ∀ i j : Nat, d = placeD i j → i < (itemsD (nthD P 0)).length → j < (itemsD (partD P i)).length → False) : placeB P d = false := by
  rw [Bool.eq_false_iff]
  intro z
  obtain ⟨i, j, e, h1, h2⟩ := placeB_iff.mp z
  exact h i j e h1 h2
theorem ints_eq {a b : Int} {i j : Nat} (h : PyData.tuple [.int a, .int b] = placeD i j) : a = i ∧ b = j := by
  unfold placeD at h
  injection h with h
  injection h with h1 h2
  injection h2 with h2 _
  injection h1 with h1
  injection h2 with h2
  exact ⟨h1, h2⟩
def lots0 (gs rs : List PyData) (i j c n : Int) : List PyData := [.list (gs ++ [.tuple [.int i, .int j]]), .tuple (rs ++ [.tuple [.int i, .int j], .tuple [.int i, .int j]]), .tuple (List.reverse (rs ++ [PyData.tuple [.int c, .int 0], .tuple [.int i, .int j]]))]
def lots1 (gs rs : List PyData) (i j c n : Int) : List PyData := [.tuple (rs ++ [.tuple [.int i, .int n]]), .tuple ([.tuple [.int (-1), .int 0]] ++ rs), .tuple ([.tuple [.int 0, .int (-1)]] ++ rs)]
def lots2 (gs rs : List PyData) (i j c n : Int) : List PyData := [.tuple (rs ++ [.tuple [.int c, .int 0]]), .tuple (rs ++ [.tuple [.int i, .int j, .int 0]]), .tuple (rs ++ [.tuple [.int i]]), .tuple (rs ++ [.list [.int i, .int j]])]
def lots3 (gs rs : List PyData) (i j c n : Int) : List PyData := [.tuple [.tuple [.bool false, .int 0]], .tuple [.tuple [.int 0, .bool false]], .tuple [.int i, .int j], .none]
theorem lots_bad {gs rs : List PyData} {i j c n : Int} {d : PyData} (hc : c = ((itemsD (nthD P 0)).length : Int)) (i0 : 0 ≤ i) (hn : n = ((itemsD (partD P i.toNat)).length : Int))
    (h : d ∈ ((lots0 gs rs i j c n ++ lots1 gs rs i j c n) ++ lots2 gs rs i j c n) ++ lots3 gs rs i j c n) : lotB P d = false := by
  have pc : placeB P (.tuple [.int c, .int 0]) = false := place_no fun a b e h1 h2 => by
    have := (ints_eq e).1
    omega
  simp only [lots0, lots1, lots2, lots3, List.mem_append, List.mem_cons, List.not_mem_nil, or_false, or_assoc] at h
  rcases h with h | h | h | h | h | h | h | h | h | h | h | h | h | h <;> rw [h]
  · rfl
  · exact lot_twice
  · exact lot_with (List.mem_reverse.mpr (List.mem_append.mpr (.inr List.mem_cons_self))) pc
  · refine lot_with (List.mem_append.mpr (.inr List.mem_cons_self)) (place_no fun a b e h1 h2 => ?_)
    have e1 := (ints_eq e).1
    have e2 := (ints_eq e).2
    have e3 : i.toNat = a := by omega
    rw [e3] at hn
    omega
  · refine lot_with (List.mem_append.mpr (.inl List.mem_cons_self)) (place_no fun a b e h1 h2 => ?_)
    have := (ints_eq e).1
    omega
  · refine lot_with (List.mem_append.mpr (.inl List.mem_cons_self)) (place_no fun a b e h1 h2 => ?_)
    have := (ints_eq e).2
    omega
  · exact lot_with (List.mem_append.mpr (.inr List.mem_cons_self)) pc
  · exact lot_with (List.mem_append.mpr (.inr List.mem_cons_self)) rfl
  · exact lot_with (List.mem_append.mpr (.inr List.mem_cons_self)) rfl
  · exact lot_with (List.mem_append.mpr (.inr List.mem_cons_self)) rfl
  · exact lot_with List.mem_cons_self rfl
  · refine lot_with List.mem_cons_self ?_
    show (true && (_ && false)) = false
    simp
  · exact lot_with List.mem_cons_self rfl
  · rfl
end
def oneD : PyData := .tuple [.tuple [.tuple [.tuple [.str "out"]]], .tuple [.bool true], .tuple [.int 0], .tuple []]
theorem one_ok : progB oneD = true := by decide +kernel
theorem one_places : placesD oneD = [placeD 0 0] := rfl
end Lb
namespace Lb
open PySem PySem.Spec PyProof.Rows L2
def pairsOf (d : PyData) : List (Nat × Nat) := pairsTo (itemsD (nthD d 0)) (itemsD (nthD d 0)).length
theorem places_pairs (d : PyData) : placesD d = (pairsOf d).map pD := upTo_pairs _ _
theorem lots_len {gs rs : List PyData} {i j c n : Int} {d : PyData} (hg : gs.length ≤ 20) (hr : rs.length ≤ 20)
    (h : d ∈ ((lots0 gs rs i j c n ++ lots1 gs rs i j c n) ++ lots2 gs rs i j c n) ++ lots3 gs rs i j c n) : (itemsD d).length ≤ 100 := by
  simp only [lots0, lots1, lots2, lots3, List.mem_append, List.mem_cons, List.not_mem_nil, or_false, or_assoc] at h
  rcases h with h | h | h | h | h | h | h | h | h | h | h | h | h | h <;> rw [h] <;> simp [itemsD] <;> omega
theorem cut_from {xs : List V} {n : Nat} (h : n ≤ xs.length) : cutV xs (some (n : Int)) none = xs.drop n := by
  unfold cutV
  rw [HT.sIx_nat, Nat.min_eq_left h]
  show (xs.drop n).take (xs.length - n) = xs.drop n
  apply List.take_of_length_le
  rw [List.length_drop]
  omega
theorem cut_to {xs : List V} {n : Nat} (h : n ≤ xs.length) : cutV xs none (some (n : Int)) = xs.take n := by
  unfold cutV
  rw [HT.sIx_nat, Nat.min_eq_left h]
  show (xs.drop 0).take (n - 0) = xs.take n
  rw [List.drop_zero, Nat.sub_zero]
end Lb

set_option Elab.async false
set_option linter.all false
set_option maxRecDepth 100000
set_option maxHeartbeats 4000000
/-! len(set(xs)) of lists of tuples of numbers and of tuples of numbers; t[::-1] of a tuple -/
namespace SL
open PySem PySem.Spec PyProof.Rows L2
section
variable {X : Cx}
/-- len(set(xs)), xs a list of tuples of numbers -/
def tLenSetT (K : PySem.W.Frag) (ta : TE) : TE := fun σ H Q => ta σ H fun x H1 => ∃ (l : Addr) (ks : List (Addr × List Int)), x = V.ref l ∧ SqL K H1 l (ks.map fun p => V.ref p.1) ∧ (∀ p ∈ ks, SqT K H1 p.1 (p.2.map V.int)) ∧ ks.length < 64 ∧
  ∀ L : List (Addr × List Int), (L.map (·.2)).Nodup → (∀ p ∈ L, p ∈ ks) → (∀ p ∈ ks, p.2 ∈ L.map (·.2)) → Q (.int (L.length : Nat)) H1
theorem pe_lenSetT {a : Expr} {ta : TE} {p p2 q pos : Pos} (hc : X.calm = true) (hu : X.A.units + 64 < cLine) (hg : Gl X "len") (hm : X.mg "len" = none) (hg2 : Gl X "set") (hm2 : X.mg "set" = none) (ha : PE X a ta)
    (na : starEach [a] X.env = (false, eval a X.env) :: starEach [] X.env := by rfl) : PE X (.Call (.Name "len" p) [.Call (.Name "set" p2) [a] [] q] [] pos) (tLenSetT X.K ta) := by
  refine ⟨fun pins s σ H Q I h => ?_⟩
  refine Call_ (ld_blt I hg hm PySem.boot_len ?_)
  refine PyProof.Rows.callWith_builtin1 (PyProof.Rows.args_cons ?_ rfl) rfl rfl
  refine Call_ (ld_blt I hg2 hm2 PyProof.Rows.boot_set ?_)
  refine PyProof.Rows.callWith_type1 (PyProof.Rows.args_cons (thn (ha.run pins s σ H _ I h) fun v s1 ⟨x, H1, I1, r1, q1⟩ => PyProof.Rows.args_nil ?_) na) na rfl
  obtain ⟨l, ks, rfl, hq, hk, hf, q1⟩ := q1
  cases r1
  obtain ⟨its, r, pl, hz⟩ := I1.list hq
  refine call_set_tups (P := X.prog) (w := X.w) ks (I1.ok.hd hc) pl.isList (by simpa using refs_of_vals r) (fun p hp => I1.isT (hk p hp)) hf (by omega) fun h' tk L es ep t R g k => ?_
  refine PyProof.Rows.args_nil ?_
  obtain ⟨o, ho, hex, hd⟩ := R.ob
  have sz : es.size = L.length := by
    have h := congrArg List.length R.rows
    unfold rowsOf at h
    rw [Array.length_toList, List.length_map] at h
    exact h
  have few := R.few
  have room := R.room
  have I2 : Inv X pins σ H1 { s1 with heap := h', toks := tk } := I1.kept fun b o e => k b o e
  have fits : t.fits es.size = true := SetTR.fits (s := { s1 with heap := h', toks := tk }) R
  refine call_len_set ho hex hd fits (by rw [sz] <;> omega) ⟨.int L.length, H1, I2.tok _, ⟨_, by rw [sz]⟩, q1 L R.nd (fun p hp => List.mem_of_mem_take (g.sub p hp)) fun p hp => g.all p (by rw [List.take_length]; exact hp)⟩
/-- len(set(t)), t a tuple of numbers -/
def tLenSetTI (K : PySem.W.Frag) (ta : TE) : TE := fun σ H Q => ta σ H fun x H1 => ∃ (l : Addr) (ns : List Int), x = V.ref l ∧ SqT K H1 l (ns.map V.int) ∧ ns.length < 60 ∧ ∀ L : List Int, L.Nodup → (∀ j, j ∈ L ↔ j ∈ ns) → Q (.int (L.length : Nat)) H1
theorem pe_lenSetTI {a : Expr} {ta : TE} {p p2 q pos : Pos} (hc : X.calm = true) (hg : Gl X "len") (hm : X.mg "len" = none) (hg2 : Gl X "set") (hm2 : X.mg "set" = none) (ha : PE X a ta)
    (na : starEach [a] X.env = (false, eval a X.env) :: starEach [] X.env := by rfl) : PE X (.Call (.Name "len" p) [.Call (.Name "set" p2) [a] [] q] [] pos) (tLenSetTI X.K ta) := by
  refine ⟨fun pins s σ H Q I h => ?_⟩
  refine Call_ (ld_blt I hg hm PySem.boot_len ?_)
  refine PyProof.Rows.callWith_builtin1 (PyProof.Rows.args_cons ?_ rfl) rfl rfl
  refine Call_ (ld_blt I hg2 hm2 PyProof.Rows.boot_set ?_)
  refine PyProof.Rows.callWith_type1 (PyProof.Rows.args_cons (thn (ha.run pins s σ H _ I h) fun v s1 ⟨x, H1, I1, r1, q1⟩ => PyProof.Rows.args_nil ?_) na) na rfl
  obtain ⟨l, ns, rfl, hq, hf, q1⟩ := q1
  cases r1
  obtain ⟨its, r, pl, hz⟩ := I1.tuple hq
  refine call_set_tupI (P := X.prog) (w := X.w) ns (I1.ok.hd hc) pl (by simpa using r.ints) (by unfold scanBound; omega) fun h' tk c S cn k => ?_
  refine PyProof.Rows.args_nil ?_
  obtain ⟨o, es, ep, t, ho, hex, hd, _, nd, mem, _, fits, sz, _⟩ := S
  have I2 : Inv X pins σ H1 { s1 with heap := h', toks := tk } := I1.kept fun b o e => k b o e
  have lz : (es.toList.map keyOf).length = es.size := by rw [List.length_map, Array.length_toList]
  have q2 := q1 (es.toList.map keyOf) nd (fun j => (mem j).symm.trans (by simp))
  rw [lz] at q2
  exact call_len_set ho hex hd fits (by omega) ⟨.int es.size, H1, I2.tok _, ⟨_, rfl⟩, q2⟩
end
end SL
namespace HT
open PySem PySem.Spec PyProof.Rows L2
section
variable {prog : Program} {w : World} {A : Around} {E : Value → Shared → Prop} {s : Shared}
theorem back_adjust (n : Nat) : Builtin.Slice.sliceAdjust none none (-1) (n : Int) = ((n : Int) - 1, -1) := by
  unfold Builtin.Slice.sliceAdjust
  simp
theorem back_places (n : Nat) : Builtin.Slice.slicePlaces ((n : Int) - 1) (-1) (-1) = n := by
  unfold Builtin.Slice.slicePlaces
  simp
  omega
theorem back_applied {sl : Addr} {vs : Value} {n : Nat} {Q : Int × Int × Nat → Shared → Prop} (hs : s.heap.IsSliceOf sl .none .none vs) (ps : IsPart vs (some (-1))) (h : Q ((n : Int) - 1, -1, n) s) : wpAny (model prog w) A (Builtin.Slice.sliceApplied (.ref sl) (pure (n : Int))) Q E s := by
  obtain ⟨os, hos, hcs, hds⟩ := id hs
  unfold Builtin.Slice.sliceApplied Builtin.Slice.sliceFields
  refine wpAny_bind (wpAny_bind (wpAny_field hos hds (x := .none) rfl (wpAny_bind (wpAny_field hos hds (x := .none) rfl (wpAny_bind (wpAny_field hos hds (x := vs) rfl (wpAny_pure ?_)))))))
  refine wpAny_bind (slicePart_ ps ?_)
  show wpAny _ _ (if ((-1 : Int) == 0) = true then _ else _) _ _ s
  rw [if_neg (by decide)]
  refine wpAny_bind (slicePart_ .none (wpAny_bind (slicePart_ .none (wpAny_bind (wpAny_pure ?_)))))
  show wpAny _ _ (match Builtin.Slice.sliceAdjust none none (-1) (n : Int) with | (lo, hi) => pure (lo, (-1 : Int), Builtin.Slice.slicePlaces lo hi (-1))) _ _ s
  rw [back_adjust]
  show wpAny _ _ (pure ((n : Int) - 1, (-1 : Int), Builtin.Slice.slicePlaces ((n : Int) - 1) (-1) (-1))) _ _ s
  rw [back_places]
  exact wpAny_pure h
theorem fm_congr {α β : Type} {f g : α → Option β} : ∀ {l : List α}, (∀ x ∈ l, f x = g x) → l.filterMap f = l.filterMap g
  | [], _ => rfl
  | x :: l, h => by
    rw [List.filterMap_cons, List.filterMap_cons, h x List.mem_cons_self, fm_congr fun y hy => h y (List.mem_cons_of_mem _ hy)]
theorem back_pick (xs : Array Value) : ((List.range xs.size).filterMap fun (m : Nat) => xs[(((xs.size : Nat) : Int) - 1 + (m : Int) * (-1)).toNat]?).toArray = xs.toList.reverse.toArray := by
  have h : ((List.range xs.size).map fun k => xs.size - 1 - k).filterMap (xs[·]?) = xs.toList.reverse := by
    rw [PySem.W.krv_range, List.filterMap_reverse, PySem.W.krv_all]
  rw [List.filterMap_map] at h
  have e : (List.range xs.size).filterMap (fun (m : Nat) => xs[(((xs.size : Nat) : Int) - 1 + (m : Int) * (-1)).toNat]?) = (List.range xs.size).filterMap ((xs[·]?) ∘ fun k => xs.size - 1 - k) := by
    apply fm_congr
    intro k hk
    have lt := List.mem_range.mp hk
    have e2 : (((xs.size : Nat) : Int) - 1 + (k : Int) * (-1)).toNat = xs.size - 1 - k := by omega
    rw [e2]
    rfl
  rw [e, h]
theorem getItem_tuple_back {t sl : Addr} {items : Array Value} {vs : Value} {Q : Value → Shared → Prop} (ht : IsTup s.heap t items) (hs : s.heap.IsSliceOf sl .none .none vs) (ps : IsPart vs (some (-1)))
    (h : Q (.ref s.heap.objs.size) { s with heap := s.heap.push { cls := .type "tuple", data := .seq items.toList.reverse.toArray } })
    (hsz : items.size ≤ sizeLine) : wpAny (model prog w) A (getItem (.ref t) (.ref sl)) Q E s := by
  have htake : sizeOk (.seq items.toList.reverse.toArray) := by
    show items.toList.reverse.toArray.size ≤ sizeLine
    rw [List.size_toArray, List.length_reverse, Array.length_toList]
    exact hsz
  obtain ⟨os, hos, hcs, hds⟩ := id hs
  have hTs : s.TypeIs (.ref sl) "slice" := ⟨os, hos, hcs⟩
  unfold getItem
  try with_reducible refine wpAny_holding ?_
  first | refine wpAny_bind (wpAny_pure ?_) | skip
  refine wpAny_bind (wpAny_sequenceKey ht.typeIs (by decide) ?_)
  refine wpAny_bind (wpAny_callSpecial?_slot (name := Str.ofString "__getitem__") ht.typeIs PyProof.Rows.slot_tuple_getitem
    (wpAny_call_entry PyProof.Rows.slot_tuple_getitem ht.typeIs entry_tuple_getitem ?_ (args_tuple_getitem _ _)))
  show wpAny _ _ (Builtin.Tuple.tupleItemsOf (.ref t) >>= _) _ _ s
  refine wpAny_bind (tupleItemsOf_ ht ?_)
  refine wpAny_bind (wpAny_typeOf hTs ?_)
  rw [if_pos (by decide)]
  refine wpAny_bind (back_applied hs ps ?_)
  have hno : ¬ ((((items.size : Nat) : Int) - 1 == 0 && (-1 : Int) == 1 && items.size == items.size) = true) := by
    intro q
    rw [Bool.and_eq_true, Bool.and_eq_true] at q
    exact absurd q.1.2 (by decide)
  show wpAny _ _ (if (((items.size : Nat) : Int) - 1 == 0 && (-1 : Int) == 1 && items.size == items.size) = true then _ else _) _ _ s
  rw [if_neg hno, back_pick]
  first
    | exact wpAny_bind (m := Builtin.Tuple.tupleExact _) (wpAny_newObj_type (wpAny_pure ⟨_, rfl, wpAny_pure h⟩) htake)
    | exact wpAny_bind (m := Builtin.Tuple.tupleExact _) (wpAny_newObj_type (wpAny_bind (wpAny_pure (wpAny_pure ⟨_, rfl, wpAny_pure h⟩))) htake)
end
end HT
namespace SL
open PySem PySem.Spec PyProof.Rows L2
/-- t[::-1], t a tuple: a new tuple -/
def tRevT (K : PySem.W.Frag) (te : TE) : TE := fun σ H Q => te σ H fun x H1 => ∃ a xs, x = .ref a ∧ SqT K H1 a xs ∧ ∀ p, H1 p = none → Q (.ref p) (upd H1 p (.tup xs.reverse))
section
variable {X : Cx}
theorem pe_revT {e : Expr} {te : TE} {k : Nat} {p1 p2 p3 pos : Pos} (he : PE X e te) : PE X (.Subscript e (.Slice none none (some (.UnaryOp .USub (.Constant (.int 1) k p1) p2)) p3) pos) (tRevT X.K te) := by
  refine ⟨fun pins s σ H Q I h => ?_⟩
  refine Subscript_ (thn (he.run pins s σ H _ I h) fun v s1 ⟨x, H1, I1, r1, q1⟩ => ?_)
  obtain ⟨a, xs, ex, hx, q⟩ := q1
  subst ex
  cases r1
  have hst : PO X (some (.UnaryOp .USub (.Constant (.int 1) k p1) p2)) (tPart (tUn (rU fun i => .int (-i)) (tC (.int 1)))) := po_some (pe_un un_neg pe_int)
  refine wpAny_Slice (thn (po_none.run pins s1 σ H1 (fun o H2 => o = none ∧ H2 = H1) I1 ⟨rfl, rfl⟩) fun vl s2 ⟨l, H2, I2, pl, el, e2⟩ => ?_)
  subst el e2
  refine thn (po_none.run pins s2 σ H2 (fun o H3 => o = none ∧ H3 = H2) I2 ⟨rfl, rfl⟩) fun vu s3 ⟨u, H3, I3, pu, eu, e3⟩ => ?_
  subst eu e3
  refine thn (hst.run pins s3 σ H3 (fun o H4 => o = some (-1) ∧ H4 = H3) I3 ⟨1, rfl, -1, rfl, rfl, rfl⟩) fun vs s4 ⟨o, H4, I4, ps, eo, e4⟩ => ?_
  subst eo e4
  have I5 : Inv X pins σ H4 { s4 with heap := s4.heap.push { cls := .type "slice", data := .fields #[vl, vu, vs] } } := I4.kept (t' := s4.toks) fun b ob q => Heap.get?_push_of_some _ q
  obtain ⟨its, r, ht, hz⟩ := I5.tuple hx
  have hlen := r.length
  show wpAny (model X.prog X.w) X.A (subscriptTail e (.Slice none none (some (.UnaryOp .USub (.Constant (.int 1) k p1) p2)) p3) (.ref a) (.ref s4.heap.objs.size)) (EP X pins σ Q) X.xe { s4 with heap := s4.heap.push { cls := .type "slice", data := .fields #[vl, vu, vs] } }
  refine tail_any (ops := [.ref a, .ref s4.heap.objs.size]) ht.typeIs PyProof.Rows.slot_tuple_getitem.lookup ?_ (by with_unfolding_all rfl)
  cases pl
  cases pu
  refine HT.getItem_tuple_back ht (Heap.IsSliceOf.new _ .none .none vs) ps ?_ (by rw [List.size_toArray]; omega)
  refine ⟨.ref _, _, I5.laid (t' := s4.toks) (o := .tup xs.reverse) (fun b ob q => Heap.get?_push_of_some _ q) (Nat.le_refl _) ?_, rfl, q _ (I5.hok.fresh (Nat.le_refl _))⟩
  exact ⟨by rw [List.length_reverse]; exact hz, its.reverse, r.reverse, IsTup.new _ _⟩
end
end SL

set_option Elab.async false
set_option linter.all false
set_option maxRecDepth 100000
set_option maxHeartbeats 4000000
/-! zip of a tuple and a list -/
namespace ZL
open PySem PySem.Spec PyProof.Rows L2
/-- the tuple at a and the list at b, in new pairs -/
def ItzM (K : PySem.W.Frag) (a b : Addr) : It where
  go := fun i H => ∃ (xs ys : List V) (x y : V), SqT K H a xs ∧ SqL K H b ys ∧ xs[i]? = some x ∧ ys[i]? = some y
  yld := fun i H v H' => ∃ T x y, v = .ref T ∧ H T = none ∧ H' = upd H T (.tup [x, y]) ∧ (∀ xs, SqT K H a xs → xs[i]? = some x) ∧ ∀ ys, SqL K H b ys → ys[i]? = some y
  stop := fun i H => ∃ xs ys : List V, SqT K H a xs ∧ SqL K H b ys ∧ i ≤ xs.length ∧ i ≤ ys.length ∧ (i = xs.length ∨ i = ys.length)
theorem sepM {a b z TI TO i1 i2 : Addr} (D : ZipApart z TI TO i1 i2 a b) : ZipSep2 z TI TO i1 i2 [i1, a] [i2, b] where
  TIz := D.TIz
  TOz := D.TOz
  TITO := D.TITO
  TIi1 := D.TIi1
  mem1 := List.mem_cons_self
  zf1 := by simp [D.i1z.symm, D.l1z.symm]
  Tf1 := by simp [D.TOi1, D.l1TO.symm]
  TIi2 := D.TIi2
  mem2 := List.mem_cons_self
  zf2 := by simp [D.i2z.symm, D.l2z.symm]
  Tf2 := by simp [D.TOi2, D.l2TO.symm]
  sep1_2 := by simp [D.i12, D.l2i1.symm]
  sep2_1 := by simp [D.i12.symm, D.l1i2.symm]
def ZSt (z TI TO i1 i2 a b : Addr) (i : Nat) (h : Heap) : Prop := IsZip h z TI TO .none ∧ IsPair h TI (.ref i1) (.ref i2) ∧ (∃ x y, IsPair h TO x y) ∧ h.IsTupleIter i1 a i ∧ h.IsListIter i2 b i
theorem five {z TI TO i1 i2 c : Addr} (h : c ∈ [z, TI, TO, i1, i2]) : c = z ∨ c = TI ∨ c = TO ∨ c = i1 ∨ c = i2 := by simpa using h
theorem turnM {P : Program} {w : World} {K : PySem.W.Frag} {elts : List Expr} {kk : Nat} {tpos : Pos} {a b z TI TO i1 i2 : Addr} (D : ZipApart z TI TO i1 i2 a b) :
    Turn P w K (.Tuple elts kk tpos) (ItzM K a b) [z, TI, TO, i1, i2] z (ZSt z TI TO i1 i2 a b) where
  mem := List.mem_cons_self
  obj := fun i h st c hc => by
    have ⟨hz, hTI, ⟨x, y, hTO⟩, ⟨o1, e1, _, d1⟩, ⟨o2, e2, _, d2⟩⟩ := st
    rcases five hc with q | q | q | q | q <;> subst q
    · exact ⟨_, hz, fun v q => nomatch q⟩
    · exact ⟨_, hTI, fun v q => nomatch q⟩
    · exact ⟨_, hTO, fun v q => nomatch q⟩
    · exact ⟨o1, e1, fun v q => by rw [d1] at q; exact nomatch q⟩
    · exact ⟨o2, e2, fun v q => by rw [d2] at q; exact nomatch q⟩
  keep := fun i h h' st k => by
    have ⟨hz, hTI, ⟨x, y, hTO⟩, h1, h2⟩ := st
    exact ⟨k _ (by simp) _ hz, k _ (by simp) _ hTI, ⟨x, y, k _ (by simp) _ hTO⟩, h1.at fun o q => k _ (by simp) o q, h2.at fun o q => k _ (by simp) o q⟩
  item := by
    intro X hP hw hK hc i pins s σ H E I hf st hg
    subst hP hw hK
    have ⟨hz, hTI, ⟨x0, y0, hTO⟩, h1, h2⟩ := st
    have ⟨xs, ys, x, y, hqx, hqy, hx, hy⟩ := hg
    have ⟨its, rv, p, _⟩ := I.tuple hqx
    have ⟨its2, rv2, p2, _⟩ := I.list hqy
    have ⟨u, hu, ru⟩ := rv.get hx
    have ⟨u2, hu2, ru2⟩ := rv2.get hy
    have hh := I.ok.hd hc
    have lt1 : i < its.toArray.size := by
      rw [List.size_toArray]
      exact (List.getElem?_eq_some_iff.mp hu).1
    have lt2 : i < its2.toArray.size := by
      rw [List.size_toArray]
      exact (List.getElem?_eq_some_iff.mp hu2).1
    refine wpAny_pyNext_zipD2_item (sepM D) (Draws.tuple (A := X.A.in1) hh i1 a D.l1i1 its.toArray) (Draws.list (A := X.A.in1) hh i2 b D.l2i2 its2.toArray) hz hTI hTO ⟨h1, p⟩ ⟨h2, p2.isList⟩ lt1 lt2 fun x1 x2 h' tk e1 e2 z' TO' st1 st2 hT hsz hk => ?_
    obtain rfl : u = x1 := by
      have e : its.toArray[i]? = some x1 := e1
      rw [List.getElem?_toArray, hu] at e
      exact Option.some.inj e
    obtain rfl : u2 = x2 := by
      have e : its2.toArray[i]? = some x2 := e2
      rw [List.getElem?_toArray, hu2] at e
      exact Option.some.inj e
    refine ⟨_, rfl, wpAny_letOwnedTupleGo_zip (s := { s with heap := h', toks := tk }) z' fun h'' z'' sb => ?_⟩
    have ge : ∀ {c o}, s.heap.get? c = some o → s.heap.objs.size ≠ c := fun e => Nat.ne_of_gt (Heap.lt_size e)
    have hT2 : h''.get? s.heap.objs.size = some { cls := .type "tuple", data := .seq #[u, u2] } := (sb.2 _ (ge hz)).trans hT
    have new : ObjOk X.prog X.w (upd H s.heap.objs.size (.tup [x, y])) h'' s.heap.objs.size (.tup [x, y]) :=
      ⟨by show 2 ≤ sizeLine; decide, [u, u2], .cons ru (.cons ru2 .nil), ⟨_, hT2, rfl, _, rfl⟩⟩
    have old : ∀ c o, c ∉ [z, TI, TO, i1, i2] → s.heap.get? c = some o → h''.get? c = some o := fun c o hb q => by
      have n : c ≠ z ∧ c ≠ TI ∧ c ≠ TO ∧ c ≠ i1 ∧ c ≠ i2 := by simpa using hb
      exact (sb.2 c n.1).trans (hk c o n.1 n.2.2.1 n.2.2.2.1 n.2.2.2.2 q)
    have I1 : Inv X pins σ (upd H s.heap.objs.size (.tup [x, y])) { s with heap := h'', toks := tk } := I.turnedNew (t' := tk) (ch := [z, TI, TO, i1, i2]) old hf (Nat.le_refl _) new
    refine ⟨.ref s.heap.objs.size, _, I1, rfl, ⟨_, x, y, rfl, I.hok.fresh (Nat.le_refl _), rfl, fun l hl => by rw [I.tuple_inj hl hqx]; exact hx, fun l hl => by rw [I.list_inj hl hqy]; exact hy⟩, ⟨z'', (sb.2 _ D.TIz).trans (hk _ _ D.TIz D.TITO D.TIi1 D.TIi2 hTI), ⟨u, u2, (sb.2 _ D.TOz).trans TO'⟩, st1.1.at fun o q => (sb.2 _ D.i1z).trans q, st2.1.at fun o q => (sb.2 _ D.i2z).trans q⟩, fun c hcm => ?_⟩
    have hlt : s.heap.objs.size ≠ c := by
      rcases five hcm with q | q | q | q | q <;> subst q
      · exact ge hz
      · exact ge hTI
      · exact ge hTO
      · obtain ⟨_, e1, _⟩ := h1
        exact ge e1
      · obtain ⟨_, e2, _⟩ := h2
        exact ge e2
    rw [upd_ne hlt.symm]
    exact (hf c hcm).1
  done := by
    intro X hP hw hK hc i pins s σ H E I hf st hg
    subst hP hw hK
    have ⟨hz, hTI, ⟨x0, y0, hTO⟩, h1, h2⟩ := st
    have ⟨xs, ys, hqx, hqy, le1, le2, hend⟩ := hg
    have ⟨its, rv, p, _⟩ := I.tuple hqx
    have ⟨its2, rv2, p2, _⟩ := I.list hqy
    have n1 : its.toArray.size = xs.length := by rw [List.size_toArray]; exact rv.length.symm
    have n2 : its2.toArray.size = ys.length := by rw [List.size_toArray]; exact rv2.length.symm
    have hh := I.ok.hd hc
    refine wpAny_pyNext_zipD2_end (sepM D) (Draws.tuple (A := X.A.in1) hh i1 a D.l1i1 its.toArray) (Draws.list (A := X.A.in1) hh i2 b D.l2i2 its2.toArray) hz hTI hTO ⟨h1, p⟩ ⟨h2, p2.isList⟩ (by rw [n1]; exact le1) (by rw [n2]; exact le2) (by rw [n1, n2]; exact hend) fun h' tk hk => ?_
    refine ⟨rfl, I.turnedL (t' := tk) (ch := [z, TI, TO, i1, i2]) (fun c o hb q => ?_) hf⟩
    have n : c ≠ z ∧ c ≠ TI ∧ c ≠ TO ∧ c ≠ i1 ∧ c ≠ i2 := by simpa using hb
    exact hk c o n.1 n.2.2.1 n.2.2.2.1 n.2.2.2.2 q
  self := fun A i s Q E st h => wpAny_pyIter_zip st.1 h
/-! the call -/
def g1 (h : Heap) (a : Addr) : Heap := h.push { cls := .type "tuple_iterator", data := .fields #[.ref a, .int 0 0] }
def g2 (h : Heap) (a b : Addr) : Heap := (g1 h a).push { cls := .type "list_iterator", data := .fields #[.ref b, .int 0 0] }
def g3 (h : Heap) (a b : Addr) : Heap := (g2 h a b).push { cls := .type "tuple", data := .seq #[.ref h.objs.size, .ref (g1 h a).objs.size] }
def g4 (h : Heap) (a b : Addr) : Heap := (g3 h a b).push { cls := .type "tuple", data := .seq #[.none, .none] }
def g5 (h : Heap) (a b : Addr) : Heap := (g4 h a b).push { cls := .type "zip", data := .fields #[.none, .bool false, .bool false, .ref (g2 h a b).objs.size, .ref (g3 h a b).objs.size] }
theorem meetsM (a b : Addr) (xs ys : Array Value) :
    Meets (Builtin.«zip.__new__» ⟨[.type "zip", .ref a, .ref b], []⟩) (fun _ R s => s.heap.IsTuple a xs ∧ s.heap.IsList b ys ∧ R (.ok (.ret (.ref (g4 s.heap a b).objs.size))) { s with heap := g5 s.heap a b }) :=
  .of_wp fun prog w A R s h => by
    obtain ⟨hp, g, d, tk, os⟩ := s
    obtain ⟨hl1, hl2, h⟩ := h
    have hsub := sub_zip
    have hL1 : Heap.IsTuple (Shared.heap ⟨hp, g, d, tk, os⟩) a xs := hl1
    have hL2 : Heap.IsList (Shared.heap ⟨hp.push { cls := .type "tuple_iterator", data := .fields #[.ref a, .int 0 0] }, g, d, tk, os⟩) b ys := hl2.push _
    wp_walk using wpAny_pyIter_tuple hL1, wpAny_pyIter_list hL2
    exact ⟨_, rfl, h⟩
theorem push5 {h : Heap} {a b c : Addr} {o : Obj} (x : h.get? c = some o) : (g5 h a b).get? c = some o := Heap.get?_push_of_some _ (Heap.get?_push_of_some _ (Heap.get?_push_of_some _ (Heap.get?_push_of_some _ (Heap.get?_push_of_some _ x))))
section
variable {prog : Program} {w : World} {A : Around} {E : Value → Shared → Prop} {s : Shared}
theorem callM {a b : Addr} {xs ys : Array Value} {Q : Value → Shared → Prop} (hl1 : s.heap.IsTuple a xs) (hl2 : s.heap.IsList b ys)
    (h : ∀ h', ZSt (s.heap.objs.size + 4) (s.heap.objs.size + 2) (s.heap.objs.size + 3) s.heap.objs.size (s.heap.objs.size + 1) a b 0 h' →
      (∀ c o, s.heap.get? c = some o → h'.get? c = some o) → Q (.ref (s.heap.objs.size + 4)) { s with heap := h' }) :
    wpAny (model prog w) A (call (.type "zip") [.ref a, .ref b]) Q E s := by
  refine callType_new F.called_zip (by decide) (F.typeCall_zip_2 _ _) (F.newCall_zip_2 _ _) (fun obj => F.args_object_init_3 obj _ _) F.entry_zip_new (meetsM a b xs ys) ⟨hl1, hl2, ?_⟩
  have z1 : (g1 s.heap a).objs.size = s.heap.objs.size + 1 := Heap.size_push ..
  have z2 : (g2 s.heap a b).objs.size = s.heap.objs.size + 2 := by unfold g2; rw [Heap.size_push, z1]
  have z3 : (g3 s.heap a b).objs.size = s.heap.objs.size + 3 := by unfold g3; rw [Heap.size_push, z2]
  have z4 : (g4 s.heap a b).objs.size = s.heap.objs.size + 4 := by unfold g4; rw [Heap.size_push, z3]
  have a5 : (g5 s.heap a b).get? (g4 s.heap a b).objs.size = some _ := Heap.get?_push_size _ rfl
  have a4 : (g5 s.heap a b).get? (g3 s.heap a b).objs.size = some _ := Heap.get?_push_of_some _ (Heap.get?_push_size _ rfl)
  have a3 : (g5 s.heap a b).get? (g2 s.heap a b).objs.size = some _ := Heap.get?_push_of_some _ (Heap.get?_push_of_some _ (Heap.get?_push_size _ rfl))
  have a2 : (g5 s.heap a b).get? (g1 s.heap a).objs.size = some _ := Heap.get?_push_of_some _ (Heap.get?_push_of_some _ (Heap.get?_push_of_some _ (Heap.get?_push_size _ rfl)))
  have a1 : (g5 s.heap a b).get? s.heap.objs.size = some _ := Heap.get?_push_of_some _ (Heap.get?_push_of_some _ (Heap.get?_push_of_some _ (Heap.get?_push_of_some _ (Heap.get?_push_size _ rfl))))
  show _ ∧ _
  rw [z2, z3, z4] at a5
  rw [z1, z2] at a3
  rw [z3] at a4
  rw [z1] at a2
  rw [z4]
  exact ⟨⟨_, a5, rfl⟩, h _ ⟨a5, a3, ⟨_, _, a4⟩, ⟨_, a1, rfl, rfl⟩, ⟨_, a2, rfl, rfl⟩⟩ fun c o x => push5 x⟩
end
/-- zip(t, xs), t a tuple, xs a list -/
def iZipM (K : PySem.W.Frag) (ta : TA) : TI := fun σ H R => ta σ H fun vs H1 => ∃ a b xs ys, vs = [.ref a, .ref b] ∧ SqT K H1 a xs ∧ SqL K H1 b ys ∧ R (ItzM K a b) H1
theorem pi_zipM {X : Cx} {e e2 : Expr} {ta : TA} {p pos tpos : Pos} {elts : List Expr} {kk : Nat} (hg : Gl X "zip") (hm : X.mg "zip" = none) (ha : PA X [e, e2] ta)
    (hs : starEach [e, e2] X.env = (false, eval e X.env) :: starEach [e2] X.env := by rfl) (hpl : (backTo pos (starEach [e2] X.env)).any (·.1) = false := by rfl) :
    PI X (.Tuple elts kk tpos) (.Call (.Name "zip" p) [e, e2] [] pos) (iZipM X.K ta) := by
  refine ⟨fun pins s σ H R I h => ?_⟩
  refine Call_ (ld_blt I hg hm PyProof.Rows.boot_zip (PyProof.Rows.callWith_type1 (thn (ha.run pos pins s σ H _ I h) fun us s1 ⟨vs, H1, I1, r1, q1⟩ => ?_) hs hpl))
  obtain ⟨a, b, xs, ys, ex, hqx, hqy, q⟩ := q1
  subst ex
  cases r1 with
  | cons r rr =>
    cases rr with
    | cons r' rr =>
      cases rr
      cases r
      cases r'
      have fresh : ∀ c, c ∈ [s1.heap.objs.size + 4, s1.heap.objs.size + 2, s1.heap.objs.size + 3, s1.heap.objs.size, s1.heap.objs.size + 1] → FpOk X pins H1 c := fun c hcm => by
        have hle : s1.heap.objs.size ≤ c := by
          rcases five hcm with z | z | z | z | z <;> rw [z]
          · exact Nat.le_add_right _ _
          · exact Nat.le_add_right _ _
          · exact Nat.le_add_right _ _
          · exact Nat.le_refl _
          · exact Nat.le_add_right _ _
        exact I1.fpOk hle (I1.hok.fresh hle)
      obtain ⟨its, rv, p1, _⟩ := I1.tuple hqx
      obtain ⟨its2, rv2, p2, _⟩ := I1.list hqy
      obtain ⟨o1, ho1, _⟩ := id p1
      refine callM (show s1.heap.IsTuple a its.toArray from p1) p2.isList fun h' st hk => wpAny_pyIter_zip st.1 ?_
      have I2 : Inv X pins σ H1 { s1 with heap := h' } := I1.kept (t' := s1.toks) hk
      exact ⟨s1.heap.objs.size + 4, [s1.heap.objs.size + 4, s1.heap.objs.size + 2, s1.heap.objs.size + 3, s1.heap.objs.size, s1.heap.objs.size + 1], _, _, H1, rfl, I2, turnM (PySem.W.ktu_apart s1.heap.objs.size a b (Heap.lt_size ho1) p2.lt), st, fresh, q⟩
/-- its walk -/
theorem walkM {K : PySem.W.Frag} {a b : Addr} {xs ys : List V} {n : Nat} (hn : n = min xs.length ys.length) : Walk (ItzM K a b) n (fun H => SqT K H a xs ∧ SqL K H b ys) (YPair (fun i => xs[i]?) (fun i => ys[i]?)) := by
  subst hn
  refine ⟨fun i _ hi q => ?_, fun _ q => ⟨xs, ys, q.1, q.2, by omega, by omega, by omega⟩, fun i H v H' _ q y => ?_⟩
  · have c1 : i < xs.length := by omega
    have c2 : i < ys.length := by omega
    exact ⟨xs, ys, xs[i], ys[i], q.1, q.2, List.getElem?_eq_getElem c1, List.getElem?_eq_getElem c2⟩
  · obtain ⟨T, x, z, h1, h2, h3, h4, h5⟩ := y
    exact ⟨T, x, z, h1, h2, h3, h4 xs q.1, h5 ys q.2⟩
end ZL

set_option Elab.async false
set_option linter.all false
set_option maxRecDepth 100000
set_option maxHeartbeats 4000000
/-! layouts of a program, as data -/
namespace Lb
open PySem PySem.Spec PyProof.Rows L2
theorem card_iff {α : Type} [DecidableEq α] : ∀ {ns L : List α}, L.Nodup → (∀ j, j ∈ L ↔ j ∈ ns) → (L.length = ns.length ↔ ns.Nodup)
  | [], L, _, m => by
    have e : L = [] := List.eq_nil_iff_forall_not_mem.mpr fun x h => nomatch (m x).mp h
    rw [e]
    exact ⟨fun _ => .nil, fun _ => rfl⟩
  | y :: t, L, nd, m => by
    have yL : y ∈ L := (m y).mpr List.mem_cons_self
    have pos : 0 < L.length := List.length_pos_of_mem yL
    have le : (L.erase y).length = L.length - 1 := List.length_erase_of_mem yL
    by_cases yt : y ∈ t
    · constructor
      · intro e
        exfalso
        have few : ∀ {L M : List α}, L.Nodup → (∀ x ∈ L, x ∈ M) → L.length ≤ M.length := fun {L} => by
          induction L with
          | nil => intro M _ _; exact Nat.zero_le _
          | cons x L ih =>
            intro M nd h
            rw [List.nodup_cons] at nd
            have xm := h x List.mem_cons_self
            have z := ih (M := M.erase x) nd.2 fun z hz => (List.mem_erase_of_ne fun e => nd.1 (by rw [← e]; exact hz)).mpr (h z (List.mem_cons_of_mem _ hz))
            rw [List.length_erase_of_mem xm] at z
            have := List.length_pos_of_mem xm
            show L.length + 1 ≤ M.length
            omega
        have z := few nd (M := t) fun x hx => by
          rcases List.mem_cons.mp ((m x).mp hx) with q | q
          · rw [q]
            exact yt
          · exact q
        rw [e, List.length_cons] at z
        omega
      · intro h
        exact absurd yt (List.nodup_cons.mp h).1
    · have ih := card_iff (ns := t) (L := L.erase y) (nd.erase y) fun j => by
        rw [nd.mem_erase_iff]
        constructor
        · rintro ⟨ne, h⟩
          exact (List.mem_cons.mp ((m j).mp h)).resolve_left ne
        · intro h
          exact ⟨fun e => yt (by rw [← e]; exact h), (m j).mpr (List.mem_cons_of_mem _ h)⟩
      rw [List.nodup_cons, List.length_cons]
      constructor
      · intro e
        exact ⟨yt, ih.mp (by omega)⟩
      · intro h
        have := ih.mpr h.2
        omega
def plQ (x : PyData) : Nat × Nat := ((valI (nthD x 0)).toNat, (valI (nthD x 1)).toNat)
theorem plQ_pD (q : Nat × Nat) : plQ (pD q) = q := by
  show (((q.1 : Int).toNat), ((q.2 : Int).toNat)) = q
  rw [Int.toNat_natCast, Int.toNat_natCast]
theorem plQ_map (qs : List (Nat × Nat)) : (qs.map pD).map plQ = qs := by
  rw [List.map_map]
  have e : plQ ∘ pD = id := funext plQ_pD
  rw [e, List.map_id]
def packsB (P d : PyData) : Bool := tupB d 0 8 && ((itemsD d).all isTup && ((rowsOfD d).all (fun x => placeB P x) && decide ((rowsOfD d).map plQ).Nodup))
def laidB (d : PyData) (door many : Int) : Bool := tupB d 2 2 && (intB (nthD d 0) && (decide (valI (nthD d 0) = door) && (isTup (nthD d 1) && ((itemsD (nthD d 1)).all (fun x => numB x many) && decide ((itemsD (nthD d 1)).map valI).Nodup))))
def laidsB (d : PyData) (ns : List Int) (many : Int) : Bool := tupB d ns.length ns.length && ((List.range ns.length).map fun i => laidB ((itemsD d).getD i .none) (ns.getD i 0) many).all id
def layB (P : PyData) (ns : List Int) (d : PyData) : Bool := tupB d 2 2 && (packsB P (nthD d 0) && laidsB (nthD d 1) ns ((itemsD (nthD d 0)).length : Int))
theorem places_of {P : PyData} {l : List PyData} (h : l.all (fun x => placeB P x) = true) : l = (l.map plQ).map pD := by
  rw [List.map_map]
  conv => lhs; rw [← List.map_id l]
  apply List.map_congr_left
  intro x hx
  obtain ⟨i, j, rfl, _⟩ := placeB_iff.mp (List.all_eq_true.mp h x hx)
  show placeD i j = pD (plQ (pD (i, j)))
  rw [plQ_pD]
  rfl
/-- a drawn layout -/
structure Lay where
  packs : List (List (Nat × Nat))
  nums : List (Int × List Int)
def packD (qs : List (Nat × Nat)) : PyData := .tuple (qs.map pD)
def doorD (p : Int × List Int) : PyData := .tuple [.int p.1, .tuple (p.2.map .int)]
def Lay.d (L : Lay) : PyData := .tuple [.tuple (L.packs.map packD), .tuple (L.nums.map doorD)]
structure Lay.Ok (P : PyData) (ns : List Int) (L : Lay) : Prop where
  eight : L.packs.length ≤ 8
  once : L.packs.flatten.Nodup
  places : ∀ q ∈ L.packs.flatten, q ∈ pairsOf P
  doors : L.nums.map Prod.fst = ns
  nums : ∀ p ∈ L.nums, p.2.Nodup ∧ ∀ k ∈ p.2, 0 ≤ k ∧ k < (L.packs.length : Int)
theorem rows_packs (ps : List (List (Nat × Nat))) : rowsOfD (.tuple (ps.map packD)) = ps.flatten.map pD := by
  show (ps.map packD).flatMap itemsD = _
  rw [List.flatMap_map, List.map_flatten, List.flatMap_def]
  rfl
theorem packs_ok {P : PyData} {ps : List (List (Nat × Nat))} {qs : List PyData} (hP : nthD P 0 = .tuple qs) (h8 : ps.length ≤ 8) (nd : ps.flatten.Nodup) (pl : ∀ q ∈ ps.flatten, q ∈ pairsOf P) : packsB P (.tuple (ps.map packD)) = true := by
  unfold packsB
  rw [rows_packs, plQ_map, decide_eq_true nd]
  have e : pairsOf P = pairsTo qs qs.length := by unfold pairsOf; rw [hP]; rfl
  rw [place_all hP (fun q hq => by rw [← e]; exact pl q hq), tupB_ok (by omega) (by rw [List.length_map]; omega)]
  have z : (itemsD (.tuple (ps.map packD))).all isTup = true := by
    rw [List.all_eq_true]
    intro x hx
    obtain ⟨q, _, rfl⟩ := List.mem_map.mp hx
    rfl
  rw [z]
  rfl
theorem laid_ok {door many : Int} {ks : List Int} (nd : ks.Nodup) (h : ∀ k ∈ ks, 0 ≤ k ∧ k < many) : laidB (doorD (door, ks)) door many = true := by
  unfold laidB doorD
  have e1 : (itemsD (nthD (PyData.tuple [.int door, .tuple (ks.map .int)]) 1)).map valI = ks := by
    show (ks.map PyData.int).map valI = ks
    rw [List.map_map]
    have e : valI ∘ PyData.int = id := funext fun _ => rfl
    rw [e, List.map_id]
  rw [e1, decide_eq_true nd]
  have e2 : (itemsD (nthD (PyData.tuple [.int door, .tuple (ks.map .int)]) 1)).all (fun x => numB x many) = true := by
    show (ks.map PyData.int).all (fun x => numB x many) = true
    rw [List.all_map, List.all_eq_true]
    intro k hk
    exact numB_ok (h k hk).1 (h k hk).2
  rw [e2]
  show (true && (true && (decide (door = door) && (true && (true && true))))) = true
  rw [decide_eq_true rfl]
  rfl
theorem laids_ok {ns : List Int} {many : Int} {l : List (Int × List Int)} (hf : l.map Prod.fst = ns) (h : ∀ p ∈ l, p.2.Nodup ∧ ∀ k ∈ p.2, 0 ≤ k ∧ k < many) : laidsB (.tuple (l.map doorD)) ns many = true := by
  unfold laidsB
  have ln : l.length = ns.length := by rw [← hf, List.length_map]
  rw [tupB_ok (by rw [List.length_map, ln]; exact Int.le_refl _) (by rw [List.length_map, ln]; exact Int.le_refl _), Bool.true_and, List.all_map, List.all_eq_true]
  intro i hi
  have lt : i < l.length := by rw [ln]; exact List.mem_range.mp hi
  have e1 : (itemsD (PyData.tuple (l.map doorD))).getD i .none = doorD l[i] := getD_of (by rw [show itemsD (PyData.tuple (l.map doorD)) = l.map doorD from rfl, List.getElem?_map, List.getElem?_eq_getElem lt]; rfl)
  have e2 : ns.getD i 0 = l[i].1 := by
    rw [← hf, List.getD_eq_getElem?_getD, List.getElem?_map, List.getElem?_eq_getElem lt]
    rfl
  show laidB _ _ _ = true
  rw [e1, e2]
  have z := h _ (List.getElem_mem lt)
  exact laid_ok z.1 z.2
theorem lay_ok {P : PyData} {ns : List Int} {qs : List PyData} {L : Lay} (hP : nthD P 0 = .tuple qs) (h : L.Ok P ns) : layB P ns L.d = true := by
  unfold layB
  show (true && (packsB P (.tuple (L.packs.map packD)) && laidsB (.tuple (L.nums.map doorD)) ns ((L.packs.map packD).length : Int))) = true
  rw [packs_ok hP h.eight h.once h.places, List.length_map, laids_ok h.doors h.nums]
  rfl
/-! spoilt ones -/
section
variable {P x y : PyData} {ns : List Int}
theorem bad_two {ds : List PyData} (h : ds.length ≠ 2) : layB P ns (.tuple ds) = false := by
  have e : tupB (.tuple ds) 2 2 = false := by
    show (true && (decide (2 ≤ (ds.length : Int)) && decide ((ds.length : Int) ≤ 2))) = false
    by_cases c : 2 ≤ (ds.length : Int)
    · rw [decide_eq_false (p := (ds.length : Int) ≤ 2) (by omega)]
      simp
    · rw [decide_eq_false c]
      rfl
  unfold layB
  rw [e]
  rfl
theorem bad_packs (h : packsB P x = false) : layB P ns (.tuple [x, y]) = false := by
  show (true && (packsB P x && _)) = false
  rw [h]
  rfl
theorem bad_laids {many : Int} (hm : ((itemsD x).length : Int) = many) (h : laidsB y ns many = false) : layB P ns (.tuple [x, y]) = false := by
  show (true && (packsB P x && laidsB y ns ((itemsD x).length : Int))) = false
  rw [hm, h]
  simp
theorem packs_dup {ps : List PyData} {p : PyData} (h : ∃ i j : Nat, i < j ∧ (ps.flatMap itemsD)[i]? = some p ∧ (ps.flatMap itemsD)[j]? = some p) : packsB P (.tuple ps) = false := by
  obtain ⟨i, j, lt, hi, hj⟩ := h
  have e : decide ((rowsOfD (.tuple ps)).map plQ).Nodup = false := by
    apply decide_eq_false
    intro nd
    have nd2 : ((ps.flatMap itemsD).map plQ).Nodup := nd
    have ei : ((ps.flatMap itemsD).map plQ)[i]? = some (plQ p) := by rw [List.getElem?_map, hi]; rfl
    have ej : ((ps.flatMap itemsD).map plQ)[j]? = some (plQ p) := by rw [List.getElem?_map, hj]; rfl
    have := (List.getElem?_inj (List.getElem?_eq_some_iff.mp ei).1 nd2).mp (ei.trans ej.symm)
    omega
  unfold packsB
  rw [e]
  simp
theorem packs_no {ps : List PyData} {p : PyData} (hp : p ∈ ps.flatMap itemsD) (h : placeB P p = false) : packsB P (.tuple ps) = false := by
  have e : (rowsOfD (.tuple ps)).all (fun x => placeB P x) = false := by
    rw [List.all_eq_false]
    exact ⟨p, hp, by rw [h]; exact fun z => nomatch z⟩
  unfold packsB
  rw [e]
  simp
theorem packs_list {ps : List PyData} {p : PyData} (hp : p ∈ ps) (h : isTup p = false) : packsB P (.tuple ps) = false := by
  have e : (itemsD (.tuple ps)).all isTup = false := by
    rw [List.all_eq_false]
    exact ⟨p, hp, by rw [h]; exact fun z => nomatch z⟩
  unfold packsB
  rw [e]
  simp
theorem laids_len {many : Int} {ds : List PyData} (h : ds.length ≠ ns.length) : laidsB (.tuple ds) ns many = false := by
  have e : tupB (.tuple ds) ns.length ns.length = false := by
    show (true && (decide ((ns.length : Int) ≤ (ds.length : Int)) && decide ((ds.length : Int) ≤ (ns.length : Int)))) = false
    by_cases c : (ns.length : Int) ≤ (ds.length : Int)
    · rw [decide_eq_false (p := (ds.length : Int) ≤ (ns.length : Int)) (by omega)]
      simp
    · rw [decide_eq_false c]
      rfl
  unfold laidsB
  rw [e]
  rfl
theorem laids_at {many : Int} {ds : List PyData} {i : Nat} {d : PyData} (hi : i < ns.length) (hd : ds[i]? = some d) (h : laidB d (ns.getD i 0) many = false) : laidsB (.tuple ds) ns many = false := by
  have e : ((List.range ns.length).map fun i => laidB ((itemsD (PyData.tuple ds)).getD i .none) (ns.getD i 0) many).all id = false := by
    rw [List.all_map, List.all_eq_false]
    refine ⟨i, List.mem_range.mpr hi, ?_⟩
    show ¬ laidB (ds.getD i .none) (ns.getD i 0) many = true
    rw [getD_of hd, h]
    exact fun z => nomatch z
  unfold laidsB
  rw [e]
  simp
theorem laid_nums {door k many : Int} {ks : List PyData} (hk : PyData.int k ∈ ks) (h : ¬ (0 ≤ k ∧ k < many)) (d : Int) : laidB (.tuple [.int d, .tuple ks]) door many = false := by
  have e : ks.all (fun x => numB x many) = false := by
    rw [List.all_eq_false]
    refine ⟨_, hk, fun z => ?_⟩
    obtain ⟨i, e, h0, h1⟩ := numB_iff.mp z
    injection e with e
    exact h ⟨by omega, by omega⟩
  show (true && (true && (_ && (true && (ks.all (fun x => numB x many) && _))))) = false
  rw [e]
  simp
theorem laid_other {door many d : Int} {y : PyData} (h : d ≠ door) : laidB (.tuple [.int d, y]) door many = false := by
  show (true && (true && (decide (d = door) && _))) = false
  rw [decide_eq_false h]
  rfl
end
end Lb
namespace Lb
open PySem PySem.Spec PyProof.Rows L2
def pNs (q : Nat × Nat) : List Int := [(q.1 : Int), (q.2 : Int)]
theorem pNs_inj {p q : Nat × Nat} (h : pNs p = pNs q) : p = q := by
  unfold pNs at h
  injection h with h1 h
  injection h with h2 _
  exact Prod.ext (by omega) (by omega)
theorem pairs_nodup {qs : List (Nat × Nat)} : (qs.map pNs).Nodup ↔ qs.Nodup := by
  constructor
  · intro h
    exact List.Pairwise.of_map pNs (fun a b ne e => ne (by rw [e])) h
  · intro h
    refine List.pairwise_map.mpr (h.imp fun ne e => ne (pNs_inj e))
theorem places_keys {S : List Addr} {H : Hp} : ∀ {vs : List V} {qs : List (Nat × Nat)}, Reps S H vs (qs.map pD) → ∃ ks : List (Addr × List Int), vs = ks.map (fun p => V.ref p.1) ∧ ks.map Prod.snd = qs.map pNs ∧ ∀ p ∈ ks, H p.1 = some (.tup (p.2.map V.int))
  | _, [], .nil => ⟨[], rfl, rfl, fun _ z => nomatch z⟩
  | _, q :: qs, .cons r rs => by
    obtain ⟨ks, e1, e2, h⟩ := places_keys rs
    obtain ⟨a, x, y, rfl, ha, rx, ry⟩ := Rep.two r
    obtain rfl := rx.intV
    obtain rfl := ry.intV
    refine ⟨(a, pNs q) :: ks, by rw [e1, List.map_cons], by rw [List.map_cons, e2, List.map_cons], fun p hp => ?_⟩
    rcases List.mem_cons.mp hp with z | z
    · rw [z]
      exact ha
    · exact h p z
end Lb
namespace Lb
open PySem PySem.Spec PyProof.Rows L2
/-! lists that change, and what stands in them -/
theorem Rep.avoids {H : Hp} {v : V} {d : PyData} (no : noLst d = true) (r : Rep [] H v d) : ∀ S : List Addr, (∀ z ∈ S, ∃ zs, H z = some (.lst zs)) → Rep S H v d
  | [], _ => r
  | z :: S, h => by
    obtain ⟨zs, hz⟩ := h z List.mem_cons_self
    exact Rep.avoid hz d v no (Rep.avoids no r S fun y hy => h y (List.mem_cons_of_mem _ hy))
theorem Reps.avoids {H : Hp} {vs : List V} {ds : List PyData} (no : noLsts ds = true) (r : Reps [] H vs ds) : ∀ S : List Addr, (∀ z ∈ S, ∃ zs, H z = some (.lst zs)) → Reps S H vs ds
  | [], _ => r
  | z :: S, h => by
    obtain ⟨zs, hz⟩ := h z List.mem_cons_self
    exact Reps.avoid hz ds vs no (Reps.avoids no r S fun y hy => h y (List.mem_cons_of_mem _ hy))
theorem Reps.bare {S : List Addr} {H : Hp} {vs : List V} {ds : List PyData} (r : Reps S H vs ds) : Reps [] H vs ds := r.less fun a z => absurd z List.not_mem_nil
theorem Rep.bare {S : List Addr} {H : Hp} {v : V} {d : PyData} (r : Rep S H v d) : Rep [] H v d := Rep.less (fun a z => absurd z List.not_mem_nil) _ _ r
theorem Reps.past {S : List Addr} {H H' : Hp} {vs : List V} {ds : List PyData} (no : noLsts ds = true) (r : Reps [] H vs ds) (h : ∀ z ∈ S, ∃ zs, H z = some (.lst zs)) (b : But S H H') : Reps [] H' vs ds := ((r.avoids no S h).mv b).bare
theorem Rep.past {S : List Addr} {H H' : Hp} {v : V} {d : PyData} (no : noLst d = true) (r : Rep [] H v d) (h : ∀ z ∈ S, ∃ zs, H z = some (.lst zs)) (b : But S H H') : Rep [] H' v d := ((r.avoids no S h).mv b).bare
theorem But.thin {S T : List Addr} {H H' : Hp} (a : But S H H') (h : ∀ x ∈ S, x ∉ T → H x = none) : But T H H' := fun b o nb e => by
  refine a b o (fun m => ?_) e
  have z := h b m nb
  rw [e] at z
  exact nomatch z
theorem noLst_pairs (qs : List (Nat × Nat)) : noLsts (qs.map pD) = true := noLst_all fun x hx => by
  obtain ⟨y, _, rfl⟩ := List.mem_map.mp hx
  rfl
theorem noLst_ints (ks : List Int) : noLsts (ks.map PyData.int) = true := noLst_all fun x hx => by
  obtain ⟨y, _, rfl⟩ := List.mem_map.mp hx
  rfl
theorem noLst_door (p : Int × List Int) : noLst (doorD p) = true := by
  show (noLst (.int p.1) && (noLst (.tuple (p.2.map .int)) && true)) = true
  rw [show noLst (PyData.tuple (p.2.map .int)) = noLsts (p.2.map .int) from rfl, noLst_ints]
  rfl
theorem noLst_doors (l : List (Int × List Int)) : noLsts (l.map doorD) = true := noLst_all fun x hx => by
  obtain ⟨y, _, rfl⟩ := List.mem_map.mp hx
  exact noLst_door y
theorem noLst_pack (qs : List (Nat × Nat)) : noLst (packD qs) = true := noLst_pairs qs
theorem noLst_packs (l : List (List (Nat × Nat))) : noLsts (l.map packD) = true := noLst_all fun x hx => by
  obtain ⟨y, _, rfl⟩ := List.mem_map.mp hx
  exact noLst_pack y
/-- the lists ls hold these places -/
def PksAt (H : Hp) (ls : List Addr) (qss : List (List (Nat × Nat))) : Prop := ls.length = qss.length ∧ ∀ (j : Nat) (x : Addr), ls[j]? = some x → ∃ vs qs, H x = some (.lst vs) ∧ qss[j]? = some qs ∧ Reps [] H vs (qs.map pD)
theorem PksAt.past {S : List Addr} {H H' : Hp} {ls : List Addr} {qss : List (List (Nat × Nat))} (p : PksAt H ls qss) (h : ∀ z ∈ S, ∃ zs, H z = some (.lst zs)) (b : But S H H') (ap : ∀ x ∈ ls, x ∉ S) : PksAt H' ls qss := by
  refine ⟨p.1, fun j x hj => ?_⟩
  obtain ⟨vs, qs, h1, h2, h3⟩ := p.2 j x hj
  exact ⟨vs, qs, b x _ (ap x (List.mem_of_getElem? hj)) h1, h2, Reps.past (noLst_pairs qs) h3 h b⟩
theorem PksAt.sm {H H' : Hp} {ls : List Addr} {qss : List (List (Nat × Nat))} (p : PksAt H ls qss) (s : Same H H') : PksAt H' ls qss :=
  p.past (S := []) (fun _ z => absurd z List.not_mem_nil) (.of s) fun _ _ => List.not_mem_nil
theorem PksAt.lists {H : Hp} {ls : List Addr} {qss : List (List (Nat × Nat))} (p : PksAt H ls qss) : ∀ z ∈ ls, ∃ zs, H z = some (.lst zs) := fun z hz => by
  obtain ⟨j, hj⟩ := List.mem_iff_getElem?.mp hz
  obtain ⟨vs, _, h, _⟩ := p.2 j z hj
  exact ⟨vs, h⟩
theorem PksAt.put {H : Hp} {ls : List Addr} {qss : List (List (Nat × Nat))} (p : PksAt H ls qss) (nd : ls.Nodup) {a : Nat} {x : Addr} {vs' : List V} {qs' : List (Nat × Nat)} (hx : ls[a]? = some x) (r : Reps [] H vs' (qs'.map pD)) :
    PksAt (upd H x (.lst vs')) ls (qss.set a qs') := by
  obtain ⟨vs0, qs0, h0, hq0, _⟩ := p.2 a x hx
  have b : But [x] H (upd H x (.lst vs')) := But.refl.upd List.mem_cons_self
  have hz : ∀ z ∈ [x], ∃ zs, H z = some (.lst zs) := fun z hz => by rw [List.mem_singleton.mp hz]; exact ⟨_, h0⟩
  refine ⟨by rw [List.length_set]; exact p.1, fun j y hj => ?_⟩
  by_cases e : j = a
  · subst e
    obtain rfl : x = y := Option.some.inj (hx.symm.trans hj)
    exact ⟨vs', qs', upd_same, by rw [List.getElem?_set_self (List.getElem?_eq_some_iff.mp hq0).1], Reps.past (noLst_pairs _) r hz b⟩
  · have yx : y ≠ x := fun z => e ((List.getElem?_inj (List.getElem?_eq_some_iff.mp hj).1 nd).mp (by rw [hj, hx, z]))
    obtain ⟨vs, qs, h1, h2, h3⟩ := p.2 j y hj
    exact ⟨vs, qs, by rw [upd_ne yx]; exact h1, by rw [List.getElem?_set_ne (Ne.symm e)]; exact h2, Reps.past (noLst_pairs _) h3 hz b⟩
theorem flat_put {α : Type} {qs : List α} (u : Nat) (q : α) : ∀ {qss : List (List α)} {a : Nat}, qss[a]? = some qs → (qss.set a (qs.take u ++ [q] ++ qs.drop u)).flatten.Perm (q :: qss.flatten)
  | [], _, h => by simp at h
  | x :: xs, 0, h => by
    obtain rfl : x = qs := by simpa using h
    have e : (x.take u ++ [q] ++ x.drop u).Perm (q :: x) := by
      have z := List.perm_middle (a := q) (l₁ := x.take u) (l₂ := x.drop u)
      rw [List.take_append_drop] at z
      rw [List.append_assoc]
      exact z
    exact e.append_right xs.flatten
  | x :: xs, a + 1, h => by
    have ih := flat_put u q (qss := xs) (a := a) (by simpa using h)
    exact (ih.append_left x).trans List.perm_middle
theorem many_at {u : Int} (h0 : 0 ≤ u) (h1 : u < 6) : ∃ m : Nat, atI [V.int 1, .int 2, .int 3, .int 4, .int 0, .int 8] u = some (.int (m : Nat)) ∧ m ≤ 8 := by
  rcases (by omega : u = 0 ∨ u = 1 ∨ u = 2 ∨ u = 3 ∨ u = 4 ∨ u = 5) with e | e | e | e | e | e <;> subst e
  · exact ⟨1, rfl, by decide⟩
  · exact ⟨2, rfl, by decide⟩
  · exact ⟨3, rfl, by decide⟩
  · exact ⟨4, rfl, by decide⟩
  · exact ⟨0, rfl, by decide⟩
  · exact ⟨8, rfl, by decide⟩
theorem ins_perm {α : Type} (ks : List α) (u : Nat) (q : α) : (ks.take u ++ [q] ++ ks.drop u).Perm (q :: ks) := by
  have z := List.perm_middle (a := q) (l₁ := ks.take u) (l₂ := ks.drop u)
  rw [List.take_append_drop] at z
  rw [List.append_assoc]
  exact z
end Lb
namespace Lb
open PySem PySem.Spec PyProof.Rows L2
theorem flat_rep {α : Type} : ∀ m : Nat, (List.replicate m ([] : List α)).flatten = []
  | 0 => rfl
  | m + 1 => by
    rw [List.replicate_succ, List.flatten_cons, flat_rep m]
    rfl
theorem pairs_len {d : PyData} (h : progB d = true) : (pairsOf d).length ≤ 20 := by
  obtain ⟨ps, m, es, o, rfl, F⟩ := prog_of h
  have z := upTo_len F.five ps.length
  have four := F.four
  have e : (placesD (.tuple [.tuple ps, m, .tuple es, o])).length = (pairsOf (.tuple [.tuple ps, m, .tuple es, o])).length := by rw [places_pairs, List.length_map]
  have e2 : (placesD (.tuple [.tuple ps, m, .tuple es, o])).length ≤ 5 * ps.length := z
  omega
end Lb
namespace Lb
theorem card_le {α : Type} [DecidableEq α] : ∀ {L M : List α}, L.Nodup → (∀ x ∈ L, x ∈ M) → L.length ≤ M.length
  | [], _, _, _ => Nat.zero_le _
  | x :: L, M, nd, h => by
    rw [List.nodup_cons] at nd
    have xm := h x List.mem_cons_self
    have z := card_le (M := M.erase x) nd.2 fun z hz => (List.mem_erase_of_ne fun e => nd.1 (by rw [← e]; exact hz)).mpr (h z (List.mem_cons_of_mem _ hz))
    rw [List.length_erase_of_mem xm] at z
    have := List.length_pos_of_mem xm
    show L.length + 1 ≤ M.length
    omega
end Lb

set_option Elab.async false
set_option linter.all false
set_option maxRecDepth 100000
set_option maxHeartbeats 4000000
/-! layouts spoilt, as data -/
namespace Lb
open PySem PySem.Spec PyProof.Rows L2
section
variable (ps ld ah be ks : List PyData) (pl rv : PyData) (dr c : Int)
def lays0 : List PyData := [.list [.tuple ps, .tuple ld], .tuple [.list ps, .tuple ld], .tuple [.tuple ps, .list ld], .tuple [.tuple ps], .tuple [.tuple ps, .tuple ld, .tuple []]]
def lays1 : List PyData := [.tuple [.tuple (ps ++ [.tuple [pl], .tuple [pl]]), .tuple ld], .tuple [.tuple (ps ++ [.tuple [pl, pl]]), .tuple ld]]
def lays2 : List PyData := [.tuple [.tuple (ps ++ [.tuple [.tuple [.int dr, .int 9]]]), .tuple ld], .tuple [.tuple (ps ++ [.list []]), .tuple ld], .tuple [.tuple ps, .tuple (ah ++ be)]]
def lays3 : List PyData := [.tuple [.tuple ps, .tuple ((ah ++ [.tuple [.int dr, .tuple ks], .tuple [.int dr, .tuple ks]]) ++ be)], .tuple [.tuple (List.replicate 9 [PyData.tuple []]).flatten, .tuple ld]]
def lays4 : List PyData := [.tuple [.tuple ps, .tuple ((ah ++ [.tuple [.int dr, .tuple [.int c]]]) ++ be)], .tuple [.tuple ps, .tuple ((ah ++ [.tuple [.int dr, .tuple [.int (-1)]]]) ++ be)]]
def lays5 : List PyData := [.tuple [.tuple (ps ++ [.tuple []]), .tuple ((ah ++ [.tuple [.int dr, .tuple [.int c, .int c]]]) ++ be)], .none]
def lays6 : List PyData := [.tuple [.tuple ps, .tuple ((ah ++ [.tuple [.int dr, .list ks]]) ++ be)], .tuple [.tuple (List.replicate 2 [PyData.tuple []]).flatten, .tuple ((ah ++ [.tuple [.int dr, .tuple [.bool true]]]) ++ be)]]
def lays7 : List PyData := [.tuple [.tuple ps, .tuple ((ah ++ [.tuple [.bool (decide (V.int dr = V.int 1)), .tuple ks]]) ++ be)]]
def lays8 : List PyData := [rv]
def laysD : List PyData := (((((((lays0 ps ld ++ lays1 ps ld pl) ++ lays2 ps ld ah be dr) ++ lays3 ps ld ah be ks dr) ++ lays4 ps ah be dr c) ++ lays5 ps ah be dr c) ++ lays6 ps ah be ks dr) ++ lays7 ps ah be ks dr) ++ lays8 rv
end
def Small (sd : PyData) : Prop := (rowsOfD (nthD sd 0)).length ≤ 60 ∧ ∀ x ∈ itemsD (nthD sd 1), (itemsD (nthD x 1)).length ≤ 50
theorem small_two {x y : PyData} (hx : (rowsOfD x).length ≤ 60) (hy : ∀ z ∈ itemsD y, (itemsD (nthD z 1)).length ≤ 50) : Small (.tuple [x, y]) := ⟨hx, hy⟩
theorem rows_app (ps qs : List PyData) : rowsOfD (.tuple (ps ++ qs)) = rowsOfD (.tuple ps) ++ rowsOfD (.tuple qs) := List.flatMap_append
theorem mid_at {ah be : List PyData} {x : PyData} {n : Nat} (h : ah.length = n) : ((ah ++ [x]) ++ be)[n]? = some x := by
  rw [List.append_assoc, List.getElem?_append_right (by omega), h, Nat.sub_self]
  rfl
structure BadF (P : PyData) (ns : List Int) (ps ld ah be ks : List PyData) (pl rv : PyData) (dr c : Int) (n : Nat) : Prop where
  prog : progB P = true
  lt : n < ns.length
  n15 : ns.length ≤ 15
  len : ld.length = ns.length
  dr_ : ns.getD n 0 = dr
  ah_ : ah.length = n
  be_ : be.length + n + 1 = ns.length
  c_ : c = (ps.length : Int)
  f20 : (rowsOfD (.tuple ps)).length ≤ 20
  ldS : ∀ z ∈ ld, (itemsD (nthD z 1)).length ≤ 50
  ahS : ∀ z ∈ ah, z ∈ ld
  beS : ∀ z ∈ be, z ∈ ld
  ksS : ks.length ≤ 50
  rv_ : rv = .int 5 ∨ ∃ e, rv = .tuple [.tuple ps, .tuple ld.reverse] ∧ ld.reverse[0]? = some e ∧ laidB e (ns.getD 0 0) c = false
theorem lays_bad {P : PyData} {ns : List Int} {ps ld ah be ks : List PyData} {pl rv : PyData} {dr c : Int} {n : Nat} (F : BadF P ns ps ld ah be ks pl rv dr c n) {d : PyData} (h : d ∈ laysD ps ld ah be ks pl rv dr c) : layB P ns d = false ∧ Small d := by
  have lt := F.lt
  have len := F.len
  have cnt : ((itemsD (.tuple ps)).length : Int) = c := F.c_.symm
  have mid : ∀ {x : PyData}, ((ah ++ [x]) ++ be)[n]? = some x := mid_at F.ah_
  have f60 : (rowsOfD (.tuple ps)).length ≤ 60 := by have := F.f20; omega
  have fx : ∀ {qs : List PyData}, (rowsOfD (.tuple qs)).length ≤ 40 → (rowsOfD (.tuple (ps ++ qs))).length ≤ 60 := fun {qs} h => by
    rw [rows_app, List.length_append]
    have := F.f20
    omega
  have aS : ∀ z ∈ ah, (itemsD (nthD z 1)).length ≤ 50 := fun z hz => F.ldS z (F.ahS z hz)
  have bS : ∀ z ∈ be, (itemsD (nthD z 1)).length ≤ 50 := fun z hz => F.ldS z (F.beS z hz)
  have mS : ∀ {x : PyData}, (itemsD (nthD x 1)).length ≤ 50 → ∀ z ∈ (ah ++ [x]) ++ be, (itemsD (nthD z 1)).length ≤ 50 := fun {x} hx z hz => by
    rcases List.mem_append.mp hz with y | y
    · rcases List.mem_append.mp y with y | y
      · exact aS z y
      · rw [List.mem_singleton.mp y]
        exact hx
    · exact bS z y
  have atn : ∀ {x : PyData} {many : Int}, laidB x (ns.getD n 0) many = false → laidsB (.tuple ((ah ++ [x]) ++ be)) ns many = false := fun h => laids_at lt mid h
  have dr0 := F.dr_
  simp only [laysD, lays0, lays1, lays2, lays3, lays4, lays5, lays6, lays7, lays8, List.mem_append, List.mem_cons, List.not_mem_nil, or_false, or_assoc] at h
  rcases h with h | h | h | h | h | h | h | h | h | h | h | h | h | h | h | h | h | h | h | h <;> rw [h]
  · exact ⟨rfl, Nat.zero_le _, fun _ z => absurd z List.not_mem_nil⟩
  · exact ⟨bad_packs rfl, small_two (Nat.zero_le _) F.ldS⟩
  · exact ⟨bad_laids cnt (by unfold laidsB; rfl), small_two f60 fun _ z => absurd z List.not_mem_nil⟩
  · exact ⟨bad_two (by simp), f60, fun _ z => absurd z List.not_mem_nil⟩
  · exact ⟨bad_two (by simp), f60, F.ldS⟩
  · refine ⟨bad_packs (packs_dup (p := pl) ⟨(ps.flatMap itemsD).length, (ps.flatMap itemsD).length + 1, by omega, ?_, ?_⟩), small_two (fx (by show 2 ≤ 40; decide)) F.ldS⟩
    · rw [List.flatMap_append, List.getElem?_append_right (Nat.le_refl _), Nat.sub_self]
      rfl
    · rw [List.flatMap_append, List.getElem?_append_right (by omega), Nat.add_sub_cancel_left]
      rfl
  · refine ⟨bad_packs (packs_dup (p := pl) ⟨(ps.flatMap itemsD).length, (ps.flatMap itemsD).length + 1, by omega, ?_, ?_⟩), small_two (fx (by show 2 ≤ 40; decide)) F.ldS⟩
    · rw [List.flatMap_append, List.getElem?_append_right (Nat.le_refl _), Nat.sub_self]
      rfl
    · rw [List.flatMap_append, List.getElem?_append_right (by omega), Nat.add_sub_cancel_left]
      rfl
  · refine ⟨bad_packs (packs_no (p := .tuple [.int dr, .int 9]) (by rw [List.flatMap_append]; exact List.mem_append.mpr (.inr List.mem_cons_self)) (place_no fun a b e h1 h2 => ?_)), small_two (fx (by show 1 ≤ 40; decide)) F.ldS⟩
    obtain ⟨qs, m, es, o, rfl, G⟩ := prog_of F.prog
    have e2 := (ints_eq e).2
    have h1' : a < qs.length := h1
    obtain ⟨rows, er, l5⟩ := G.five _ (List.getElem_mem h1')
    have ep : partD (.tuple [.tuple qs, m, .tuple es, o]) a = .tuple rows := getD_of (by rw [show itemsD (nthD (PyData.tuple [.tuple qs, m, .tuple es, o]) 0) = qs from rfl, List.getElem?_eq_getElem h1', er])
    rw [ep] at h2
    have h3 : b < rows.length := h2
    omega
  · exact ⟨bad_packs (packs_list (List.mem_append.mpr (.inr List.mem_cons_self)) rfl), small_two (fx (Nat.zero_le _)) F.ldS⟩
  · refine ⟨bad_laids cnt (laids_len ?_), small_two f60 fun z hz => (List.mem_append.mp hz).elim (aS z) (bS z)⟩
    rw [List.length_append, F.ah_]
    have := F.be_
    omega
  · refine ⟨bad_laids cnt (laids_len ?_), small_two f60 fun z hz => ?_⟩
    · rw [List.length_append, List.length_append, F.ah_]
      have := F.be_
      show n + 2 + be.length ≠ _
      omega
    · rcases List.mem_append.mp hz with y | y
      · rcases List.mem_append.mp y with y | y
        · exact aS z y
        · rcases List.mem_cons.mp y with y | y
          · rw [y]
            exact F.ksS
          · rw [List.mem_singleton.mp y]
            exact F.ksS
      · exact bS z y
  · exact ⟨bad_packs rfl, small_two (Nat.zero_le _) F.ldS⟩
  · exact ⟨bad_laids cnt (atn (laid_nums (k := c) List.mem_cons_self (by omega) dr)), small_two f60 (mS (by show 1 ≤ 50; decide))⟩
  · exact ⟨bad_laids cnt (atn (laid_nums (k := -1) List.mem_cons_self (by omega) dr)), small_two f60 (mS (by show 1 ≤ 50; decide))⟩
  · refine ⟨bad_laids rfl (atn ?_), small_two (fx (Nat.zero_le _)) (mS (by show 2 ≤ 50; decide))⟩
    have e : decide (([PyData.int c, .int c].map valI).Nodup) = false := by
      apply decide_eq_false
      intro z
      have z2 : [c, c].Nodup := z
      simp at z2
    show (true && (true && (_ && (true && (_ && decide (([PyData.int c, .int c].map valI).Nodup))))))= false
    rw [e]
    simp
  · exact ⟨rfl, Nat.zero_le _, fun _ z => absurd z List.not_mem_nil⟩
  · refine ⟨bad_laids cnt (atn ?_), small_two f60 (mS (Nat.zero_le _))⟩
    show (true && (true && (_ && (false && _)))) = false
    simp
  · refine ⟨bad_laids rfl (atn ?_), small_two (Nat.zero_le _) (mS (by show 1 ≤ 50; decide))⟩
    show (true && (true && (_ && (true && (([PyData.bool true].all fun x => numB x _) && _))))) = false
    have e : ∀ k, ([PyData.bool true].all fun x => numB x k) = false := fun k => rfl
    rw [e]
    simp
  · refine ⟨bad_laids cnt (atn ?_), small_two f60 (mS F.ksS)⟩
    show (true && (false && _)) = false
    rfl
  · rcases F.rv_ with e | ⟨e, er, h0, hl⟩
    · rw [e]
      exact ⟨rfl, Nat.zero_le _, fun _ z => absurd z List.not_mem_nil⟩
    · rw [er]
      exact ⟨bad_laids cnt (laids_at (i := 0) (by omega) h0 hl), small_two f60 fun z hz => F.ldS z (List.mem_reverse.mp hz)⟩
end Lb
namespace Lb
open PySem PySem.Spec PyProof.Rows L2
theorem lit_revS {K : PySem.W.Frag} {S : List Addr} {σ : L2.St} {H0 : Hp} {te : TE} {ds : List PyData} (oc : Occ S H0) (hx : Lit S σ H0 te (.tuple ds)) : Lit S σ H0 (SL.tRevT K te) (.tuple ds.reverse) := fun H F s k =>
  hx H _ s fun H1 v s1 r => by
    obtain ⟨a, xs, rfl, ha, na, rs⟩ := r.tupV
    refine ⟨a, xs, rfl, SqT.of ha, fun p np => ?_⟩
    exact k _ _ (s1.trans (same_new np)) (.tup upd_same ((oc.sm (s.trans s1)).new np) (rs.rev.sm (same_new np)))
theorem cutD_to {ds : List PyData} {n : Nat} (h : n ≤ ds.length) : cutD ds none (some (n : Int)) = ds.take n := by
  unfold cutD
  rw [HT.sIx_nat, Nat.min_eq_left h]
  show (ds.drop 0).take (n - 0) = ds.take n
  rw [List.drop_zero, Nat.sub_zero]
theorem cutD_from {ds : List PyData} {n : Nat} (h : n ≤ ds.length) : cutD ds (some (n : Int)) none = ds.drop n := by
  unfold cutD
  rw [HT.sIx_nat, Nat.min_eq_left h]
  show (ds.drop n).take (ds.length - n) = ds.drop n
  apply List.take_of_length_le
  rw [List.length_drop]
  omega
theorem few_nums {ks : List Int} {m : Nat} (nd : ks.Nodup) (h : ∀ k ∈ ks, 0 ≤ k ∧ k < (m : Int)) : ks.length ≤ m := by
  have nd2 : (ks.map Int.toNat).Nodup := by
    refine List.pairwise_map.mpr (List.Pairwise.imp_of_mem (fun {a b} ha hb ne e => ?_) nd)
    have := h a ha
    have := h b hb
    exact ne (by omega)
  have z := L2.nat_nodup_len (ks.map Int.toNat) (List.range m) nd2 fun x hx => by
    obtain ⟨k, hk, rfl⟩ := List.mem_map.mp hx
    have := h k hk
    exact List.mem_range.mpr (by omega)
  rwa [List.length_map, List.length_range] at z
theorem rev_first {ns : List Int} {nums : List (Int × List Int)} (hf : nums.map Prod.fst = ns) (up : ns.Pairwise (· < ·)) (h2 : 2 ≤ ns.length) (c : Int) : ∃ e, (nums.map doorD).reverse[0]? = some e ∧ laidB e (ns.getD 0 0) c = false := by
  have ln : nums.length = ns.length := by rw [← hf, List.length_map]
  have lt : nums.length - 1 < nums.length := by omega
  refine ⟨doorD nums[nums.length - 1], ?_, ?_⟩
  · rw [List.getElem?_reverse (by rw [List.length_map]; omega), List.length_map, List.getElem?_map, Nat.sub_zero, List.getElem?_eq_getElem lt]
    rfl
  · refine laid_other ?_
    have e0 : ns.getD 0 0 = ns[0]'(by omega) := by rw [List.getD_eq_getElem?_getD, List.getElem?_eq_getElem (by omega)]; rfl
    have e1 : nums[nums.length - 1].1 = ns[ns.length - 1]'(by omega) := by
      have z : ns[ns.length - 1]? = some nums[nums.length - 1].1 := by
        rw [← hf, List.getElem?_map, List.length_map, List.getElem?_eq_getElem lt]
        rfl
      rw [List.getElem?_eq_getElem (by omega)] at z
      exact (Option.some.inj z).symm
    rw [e0, e1]
    have z := List.pairwise_iff_getElem.mp up 0 (ns.length - 1) (by omega) (by omega) (by omega)
    omega
theorem packs_few {P : PyData} {ns : List Int} {Y : Lay} (okp : (pairsOf P).length ≤ 20) (h : Y.Ok P ns) : (rowsOfD (.tuple (Y.packs.map packD))).length ≤ 20 := by
  rw [rows_packs, List.length_map]
  have z : Y.packs.flatten.length ≤ (pairsOf P).length := by
    have e := card_le h.once h.places
    exact e
  omega
end Lb
namespace Lb
open PySem PySem.Spec PyProof.Rows L2
theorem put_up {x : Int} : ∀ {ns : List Int}, ns.Pairwise (· < ·) → ∃ ms : List Int, ms.Pairwise (· < ·) ∧ ∀ k, k ∈ ms ↔ k = x ∨ k ∈ ns
  | [], _ => ⟨[x], by simp, fun k => by simp⟩
  | y :: ns, h => by
    rw [List.pairwise_cons] at h
    obtain ⟨ms, up, mem⟩ := put_up (x := x) h.2
    rcases Int.lt_trichotomy x y with c | c | c
    · refine ⟨x :: y :: ns, ?_, fun k => by simp⟩
      refine List.pairwise_cons.mpr ⟨fun z hz => ?_, List.pairwise_cons.mpr h⟩
      rcases List.mem_cons.mp hz with e | e
      · rw [e]
        exact c
      · have := h.1 z e
        omega
    · refine ⟨y :: ns, List.pairwise_cons.mpr h, fun k => ?_⟩
      rw [c]
      simp
    · refine ⟨y :: ms, List.pairwise_cons.mpr ⟨fun z hz => ?_, up⟩, fun k => ?_⟩
      · rcases (mem z).mp hz with e | e
        · omega
        · exact h.1 z e
      · rw [List.mem_cons, mem, List.mem_cons]
        constructor
        · rintro (a | a | a)
          · exact .inr (.inl a)
          · exact .inl a
          · exact .inr (.inr a)
        · rintro (a | a | a)
          · exact .inr (.inl a)
          · exact .inl a
          · exact .inr (.inr a)
theorem sorted_of : ∀ L : List Int, ∃ ns : List Int, ns.Pairwise (· < ·) ∧ ∀ k, k ∈ ns ↔ k ∈ L
  | [] => ⟨[], .nil, fun k => Iff.rfl⟩
  | x :: L => by
    obtain ⟨ns, up, mem⟩ := sorted_of L
    obtain ⟨ms, up2, mem2⟩ := put_up (x := x) up
    exact ⟨ms, up2, fun k => by rw [mem2, mem, List.mem_cons]⟩
theorem doors_few {d : PyData} (h : progB d = true) {ns : List Int} (up : ns.Pairwise (· < ·)) (mem : ∀ k, k ∈ ns ↔ k ∈ doorsD d) : ns.length ≤ 15 ∧ ns ≠ [] := by
  obtain ⟨ps, m, es, o, rfl, F⟩ := prog_of h
  have ml : (doorsD (.tuple [.tuple ps, m, .tuple es, o])).length ≤ 15 := by
    show (es.map valI ++ (((ps.flatMap itemsD)).filter goB).map lateV).length ≤ 15
    rw [List.length_append, List.length_map, List.length_map]
    have := List.length_filter_le goB (ps.flatMap itemsD)
    have := F.three
    have := F.twelve
    omega
  refine ⟨Nat.le_trans (card_le (up.imp fun h e => by omega) fun x hx => (mem x).mp hx) ml, fun e => ?_⟩
  have ent : entriesB (.tuple es) ((itemsD (.tuple ps)).length : Int) = true := by
    unfold progB at h
    rw [Bool.and_eq_true, Bool.and_eq_true, Bool.and_eq_true, Bool.and_eq_true] at h
    exact h.2.2.2.1
  unfold entriesB at ent
  rw [Bool.and_eq_true] at ent
  obtain ⟨ds, e1, l1, _⟩ := tupB_len ent.1
  injection e1 with e1
  subst e1
  match es, l1 with
  | x :: r, _ =>
    have z := (mem (valI x)).mpr (List.mem_append.mpr (.inl List.mem_cons_self))
    rw [e] at z
    exact absurd z List.not_mem_nil
def bareD (ns : List Int) : PyData := .tuple ((ns.map fun k => (k, ([] : List Int))).map doorD)
theorem bare_ok {d : PyData} {ns : List Int} {ps : List (List (Nat × Nat))} (h8 : ps.length ≤ 8) (e : ps.flatten = []) : Lay.Ok d ns ⟨ps, ns.map fun k => (k, [])⟩ where
  eight := h8
  once := by rw [e]; exact .nil
  places := by rw [e]; exact fun _ z => absurd z List.not_mem_nil
  doors := by
    rw [List.map_map]
    exact List.map_id ns
  nums := fun p hp => by
    obtain ⟨k, _, rfl⟩ := List.mem_map.mp hp
    exact ⟨.nil, fun _ z => absurd z List.not_mem_nil⟩
theorem lay_of {d : PyData} {ns : List Int} {Y : Lay} (h : progB d = true) (ok : Y.Ok d ns) : layB d ns Y.d = true := by
  obtain ⟨ps, m, es, o, rfl, F⟩ := prog_of h
  exact lay_ok (qs := ps) rfl ok
theorem lay_small {d : PyData} {ns : List Int} {Y : Lay} (h : progB d = true) (ok : Y.Ok d ns) : Small Y.d := by
  refine ⟨Nat.le_trans (packs_few (pairs_len h) ok) (by decide), fun x hx => ?_⟩
  obtain ⟨p, hp, rfl⟩ := List.mem_map.mp (show x ∈ Y.nums.map doorD from hx)
  have z := ok.nums p hp
  have q := few_nums z.1 z.2
  show (p.2.map PyData.int).length ≤ 50
  rw [List.length_map]
  have := ok.eight
  omega
end Lb

set_option Elab.async false
set_option linter.all false
set_option maxRecDepth 100000
set_option maxHeartbeats 4000000
namespace Lb
open PySem PySem.Spec PyProof.Rows L2
def top (i : Nat) : Stmt := PySem.Challenge.pw_leanbundle_k05_layouts.main.body.getD i (.Pass ⟨0, 0, 0, 0⟩)
abbrev s_law_stream : Stmt := top 39
abbrev N_law_stream : List Str := ["script", "mixed", "cell"]
theorem sc_law_stream : FnScope N_law_stream ["script"] (defScope s_law_stream) := ⟨rfl, rfl, rfl, by decide +kernel, rfl, by decide +kernel, by decide +kernel⟩
abbrev s_law_mixed : Stmt := top 40
abbrev N_law_mixed : List Str := ["number", "turn", "first", "second"]
theorem sc_law_mixed : FnScope N_law_mixed ["number", "turn"] (defScope s_law_mixed) := ⟨rfl, rfl, rfl, by decide +kernel, rfl, by decide +kernel, by decide +kernel⟩
abbrev s_law_draw : Stmt := top 41
abbrev N_law_draw : List Str := ["stream", "limit", "cell", "drawn"]
theorem sc_law_draw : FnScope N_law_draw ["stream", "limit"] (defScope s_law_draw) := ⟨rfl, rfl, rfl, by decide +kernel, rfl, by decide +kernel, by decide +kernel⟩
abbrev s_law_name : Stmt := top 42
abbrev N_law_name : List Str := ["stream", "given", "count"]
theorem sc_law_name : FnScope N_law_name ["stream", "given", "count"] (defScope s_law_name) := ⟨rfl, rfl, rfl, by decide +kernel, rfl, by decide +kernel, by decide +kernel⟩
abbrev s_law_needs : Stmt := top 43
abbrev N_law_needs : List Str := ["stream", "most", "given", "count", "k"]
theorem sc_law_needs : FnScope N_law_needs ["stream", "most", "given", "count"] (defScope s_law_needs) := ⟨rfl, rfl, rfl, by decide +kernel, rfl, by decide +kernel, by decide +kernel⟩
abbrev s_law_row : Stmt := top 44
abbrev N_law_row : List Str := ["stream", "plan", "given", "count", "word", "name", "part", "other", "risky"]
theorem sc_law_row : FnScope N_law_row ["stream", "plan", "given", "count"] (defScope s_law_row) := ⟨rfl, rfl, rfl, by decide +kernel, rfl, by decide +kernel, by decide +kernel⟩
abbrev s_law_plans : Stmt := top 45
abbrev N_law_plans : List Str := ["stream", "count", "names", "words", "plans", "left", "outs", "part", "line", "k", "word", "name", "target"]
theorem sc_law_plans : FnScope N_law_plans ["stream", "count"] (defScope s_law_plans) := ⟨rfl, rfl, rfl, by decide +kernel, rfl, by decide +kernel, by decide +kernel⟩
abbrev s_law_program : Stmt := top 46
abbrev N_law_program : List Str := ["stream", "count", "plans", "given", "part", "plan", "parts", "line", "marks", "entries", "opens", "k"]
theorem sc_law_program : FnScope N_law_program ["stream"] (defScope s_law_program) := ⟨rfl, rfl, rfl, by decide +kernel, rfl, by decide +kernel, by decide +kernel⟩
abbrev s_is_integer : Stmt := top 15
abbrev N_is_integer : List Str := ["thing"]
theorem sc_is_integer : FnScope N_is_integer ["thing"] (defScope s_is_integer) := ⟨rfl, rfl, rfl, by decide +kernel, rfl, by decide +kernel, by decide +kernel⟩
abbrev s_is_number : Stmt := top 16
abbrev N_is_number : List Str := ["thing", "many"]
theorem sc_is_number : FnScope N_is_number ["thing", "many"] (defScope s_is_number) := ⟨rfl, rfl, rfl, by decide +kernel, rfl, by decide +kernel, by decide +kernel⟩
abbrev s_is_name : Stmt := top 17
abbrev N_is_name : List Str := ["thing"]
theorem sc_is_name : FnScope N_is_name ["thing"] (defScope s_is_name) := ⟨rfl, rfl, rfl, by decide +kernel, rfl, by decide +kernel, by decide +kernel⟩
abbrev s_is_tuple : Stmt := top 18
abbrev N_is_tuple : List Str := ["thing", "least", "most"]
theorem sc_is_tuple : FnScope N_is_tuple ["thing", "least", "most"] (defScope s_is_tuple) := ⟨rfl, rfl, rfl, by decide +kernel, rfl, by decide +kernel, by decide +kernel⟩
abbrev s_is_ascending : Stmt := top 19
abbrev N_is_ascending : List Str := ["things", "low", "high"]
theorem sc_is_ascending : FnScope N_is_ascending ["things"] (defScope s_is_ascending) := ⟨rfl, rfl, rfl, by decide +kernel, rfl, by decide +kernel, by decide +kernel⟩
abbrev s_is_need : Stmt := top 20
abbrev N_is_need : List Str := ["thing", "many_parts"]
theorem sc_is_need : FnScope N_is_need ["thing", "many_parts"] (defScope s_is_need) := ⟨rfl, rfl, rfl, by decide +kernel, rfl, by decide +kernel, by decide +kernel⟩
abbrev s_are_needs : Stmt := top 21
abbrev N_are_needs : List Str := ["thing", "many_parts", "most", "need"]
theorem sc_are_needs : FnScope N_are_needs ["thing", "many_parts", "most"] (defScope s_are_needs) := ⟨rfl, rfl, rfl, by decide +kernel, rfl, by decide +kernel, by decide +kernel⟩
abbrev s_starts_with_word : Stmt := top 22
abbrev N_starts_with_word : List Str := ["thing"]
theorem sc_starts_with_word : FnScope N_starts_with_word ["thing"] (defScope s_starts_with_word) := ⟨rfl, rfl, rfl, by decide +kernel, rfl, by decide +kernel, by decide +kernel⟩
abbrev s_is_give : Stmt := top 24
abbrev N_is_give : List Str := ["row", "many_parts"]
theorem sc_is_give : FnScope N_is_give ["row", "many_parts"] (defScope s_is_give) := ⟨rfl, rfl, rfl, by decide +kernel, rfl, by decide +kernel, by decide +kernel⟩
abbrev s_is_late : Stmt := top 25
abbrev N_is_late : List Str := ["row", "many_parts"]
theorem sc_is_late : FnScope N_is_late ["row", "many_parts"] (defScope s_is_late) := ⟨rfl, rfl, rfl, by decide +kernel, rfl, by decide +kernel, by decide +kernel⟩
abbrev s_is_row : Stmt := top 23
abbrev N_is_row : List Str := ["thing", "many_parts", "word"]
theorem sc_is_row : FnScope N_is_row ["thing", "many_parts"] (defScope s_is_row) := ⟨rfl, rfl, rfl, by decide +kernel, rfl, by decide +kernel, by decide +kernel⟩
abbrev s_are_parts : Stmt := top 26
abbrev N_are_parts : List Str := ["thing", "rows", "part", "row"]
theorem sc_are_parts : FnScope N_are_parts ["thing"] (defScope s_are_parts) := ⟨rfl, rfl, rfl, by decide +kernel, rfl, by decide +kernel, by decide +kernel⟩
abbrev s_are_marks : Stmt := top 27
abbrev N_are_marks : List Str := ["thing", "many_parts", "mark"]
theorem sc_are_marks : FnScope N_are_marks ["thing", "many_parts"] (defScope s_are_marks) := ⟨rfl, rfl, rfl, by decide +kernel, rfl, by decide +kernel, by decide +kernel⟩
abbrev s_are_entries : Stmt := top 28
abbrev N_are_entries : List Str := ["thing", "many_parts", "part"]
theorem sc_are_entries : FnScope N_are_entries ["thing", "many_parts"] (defScope s_are_entries) := ⟨rfl, rfl, rfl, by decide +kernel, rfl, by decide +kernel, by decide +kernel⟩
abbrev s_are_opens : Stmt := top 29
abbrev N_are_opens : List Str := ["thing", "many_parts"]
theorem sc_are_opens : FnScope N_are_opens ["thing", "many_parts"] (defScope s_are_opens) := ⟨rfl, rfl, rfl, by decide +kernel, rfl, by decide +kernel, by decide +kernel⟩
abbrev s_is_program : Stmt := top 30
abbrev N_is_program : List Str := ["thing", "many_parts"]
theorem sc_is_program : FnScope N_is_program ["thing"] (defScope s_is_program) := ⟨rfl, rfl, rfl, by decide +kernel, rfl, by decide +kernel, by decide +kernel⟩
abbrev s_demand_program : Stmt := top 31
abbrev N_demand_program : List Str := ["thing"]
theorem sc_demand_program : FnScope N_demand_program ["thing"] (defScope s_demand_program) := ⟨rfl, rfl, rfl, by decide +kernel, rfl, by decide +kernel, by decide +kernel⟩
abbrev s_is_place : Stmt := top 32
abbrev N_is_place : List Str := ["program", "thing", "parts"]
theorem sc_is_place : FnScope N_is_place ["program", "thing"] (defScope s_is_place) := ⟨rfl, rfl, rfl, by decide +kernel, rfl, by decide +kernel, by decide +kernel⟩
abbrev s_is_laid_door : Stmt := top 36
abbrev N_is_laid_door : List Str := ["thing", "door", "many_packs", "numbers", "number"]
theorem sc_is_laid_door : FnScope N_is_laid_door ["thing", "door", "many_packs"] (defScope s_is_laid_door) := ⟨rfl, rfl, rfl, by decide +kernel, rfl, by decide +kernel, by decide +kernel⟩
abbrev s_are_laid_doors : Stmt := top 35
abbrev N_are_laid_doors : List Str := ["thing", "doors", "many_packs", "laid", "door"]
theorem sc_are_laid_doors : FnScope N_are_laid_doors ["thing", "doors", "many_packs"] (defScope s_are_laid_doors) := ⟨rfl, rfl, rfl, by decide +kernel, rfl, by decide +kernel, by decide +kernel⟩
abbrev s_are_packs : Stmt := top 34
abbrev N_are_packs : List Str := ["program", "thing", "places", "pack", "place"]
theorem sc_are_packs : FnScope N_are_packs ["program", "thing"] (defScope s_are_packs) := ⟨rfl, rfl, rfl, by decide +kernel, rfl, by decide +kernel, by decide +kernel⟩
abbrev s_doors_of : Stmt := top 37
abbrev N_doors_of : List Str := ["program", "named", "rows", "row"]
theorem sc_doors_of : FnScope N_doors_of ["program"] (defScope s_doors_of) := ⟨rfl, rfl, rfl, by decide +kernel, rfl, by decide +kernel, by decide +kernel⟩
abbrev s_is_layout : Stmt := top 33
abbrev N_is_layout : List Str := ["program", "thing"]
theorem sc_is_layout : FnScope N_is_layout ["program", "thing"] (defScope s_is_layout) := ⟨rfl, rfl, rfl, by decide +kernel, rfl, by decide +kernel, by decide +kernel⟩
abbrev s_law_places : Stmt := top 47
abbrev N_law_places : List Str := ["program", "places", "part", "index"]
theorem sc_law_places : FnScope N_law_places ["program"] (defScope s_law_places) := ⟨rfl, rfl, rfl, by decide +kernel, rfl, by decide +kernel, by decide +kernel⟩
abbrev s_law_doors : Stmt := top 48
abbrev N_law_doors : List Str := ["program", "entered", "rows", "row"]
theorem sc_law_doors : FnScope N_law_doors ["program"] (defScope s_law_doors) := ⟨rfl, rfl, rfl, by decide +kernel, rfl, by decide +kernel, by decide +kernel⟩
abbrev s_law_layout : Stmt := top 49
abbrev N_law_layout : List Str := ["stream", "program", "many", "packs", "place", "at", "pack", "listed", "door", "numbers", "k"]
theorem sc_law_layout : FnScope N_law_layout ["stream", "program"] (defScope s_law_layout) := ⟨rfl, rfl, rfl, by decide +kernel, rfl, by decide +kernel, by decide +kernel⟩
abbrev s_law_spoilt : Stmt := top 50
abbrev N_law_spoilt : List Str := ["stream", "program", "laid", "packs", "listed", "places", "place", "at", "door", "numbers", "ahead", "behind", "count", "bad"]
theorem sc_law_spoilt : FnScope N_law_spoilt ["stream", "program", "laid"] (defScope s_law_spoilt) := ⟨rfl, rfl, rfl, by decide +kernel, rfl, by decide +kernel, by decide +kernel⟩
abbrev s_law : Stmt := top 51
abbrev N_law : List Str := ["script", "stream", "program", "laid", "spoilt", "bare", "door"]
theorem sc_law : FnScope N_law ["script"] (defScope s_law) := ⟨rfl, rfl, rfl, by decide +kernel, rfl, by decide +kernel, by decide +kernel⟩
structure Ad where
  (f_law_stream f_law_mixed f_law_draw f_law_name f_law_needs f_law_row f_law_plans f_law_program f_is_integer f_is_number f_is_name f_is_tuple f_is_ascending f_is_need f_are_needs f_starts_with_word f_is_give f_is_late f_is_row f_are_parts f_are_marks f_are_entries f_are_opens f_is_program f_demand_program f_is_place f_is_laid_door f_are_laid_doors f_are_packs f_doors_of f_is_layout f_law_places f_law_doors f_law_layout f_law_spoilt f_law o_NAMES : Addr)
  (d_law_stream d_law_mixed d_law_draw d_law_name d_law_needs d_law_row d_law_plans d_law_program d_is_integer d_is_number d_is_name d_is_tuple d_is_ascending d_is_need d_are_needs d_starts_with_word d_is_give d_is_late d_is_row d_are_parts d_are_marks d_are_entries d_are_opens d_is_program d_demand_program d_is_place d_is_laid_door d_are_laid_doors d_are_packs d_doors_of d_is_layout d_law_places d_law_doors d_law_layout d_law_spoilt d_law : FuncData)
abbrev FnP (K : PySem.W.Frag) (x : Str) (st : Stmt) (f : Addr) (fd : FuncData) : Prop := FunD K x x (defArgs st) (defBody st) (defScope st) [] [] f fd
structure Txt (K : PySem.W.Frag) (mg : Str → Option Value) (A : Ad) : Prop where
  m_law_stream : mg "_law_stream" = some (.ref A.f_law_stream)
  F_law_stream : FnP K "_law_stream" s_law_stream A.f_law_stream A.d_law_stream
  m_law_mixed : mg "_law_mixed" = some (.ref A.f_law_mixed)
  F_law_mixed : FnP K "_law_mixed" s_law_mixed A.f_law_mixed A.d_law_mixed
  m_law_draw : mg "_law_draw" = some (.ref A.f_law_draw)
  F_law_draw : FnP K "_law_draw" s_law_draw A.f_law_draw A.d_law_draw
  m_law_name : mg "_law_name" = some (.ref A.f_law_name)
  F_law_name : FnP K "_law_name" s_law_name A.f_law_name A.d_law_name
  m_law_needs : mg "_law_needs" = some (.ref A.f_law_needs)
  F_law_needs : FnP K "_law_needs" s_law_needs A.f_law_needs A.d_law_needs
  m_law_row : mg "_law_row" = some (.ref A.f_law_row)
  F_law_row : FnP K "_law_row" s_law_row A.f_law_row A.d_law_row
  m_law_plans : mg "_law_plans" = some (.ref A.f_law_plans)
  F_law_plans : FnP K "_law_plans" s_law_plans A.f_law_plans A.d_law_plans
  m_law_program : mg "_law_program" = some (.ref A.f_law_program)
  F_law_program : FnP K "_law_program" s_law_program A.f_law_program A.d_law_program
  m_is_integer : mg "is_integer" = some (.ref A.f_is_integer)
  F_is_integer : FnP K "is_integer" s_is_integer A.f_is_integer A.d_is_integer
  m_is_number : mg "is_number" = some (.ref A.f_is_number)
  F_is_number : FnP K "is_number" s_is_number A.f_is_number A.d_is_number
  m_is_name : mg "is_name" = some (.ref A.f_is_name)
  F_is_name : FnP K "is_name" s_is_name A.f_is_name A.d_is_name
  m_is_tuple : mg "is_tuple" = some (.ref A.f_is_tuple)
  F_is_tuple : FnP K "is_tuple" s_is_tuple A.f_is_tuple A.d_is_tuple
  m_is_ascending : mg "is_ascending" = some (.ref A.f_is_ascending)
  F_is_ascending : FnP K "is_ascending" s_is_ascending A.f_is_ascending A.d_is_ascending
  m_is_need : mg "is_need" = some (.ref A.f_is_need)
  F_is_need : FnP K "is_need" s_is_need A.f_is_need A.d_is_need
  m_are_needs : mg "are_needs" = some (.ref A.f_are_needs)
  F_are_needs : FnP K "are_needs" s_are_needs A.f_are_needs A.d_are_needs
  m_starts_with_word : mg "starts_with_word" = some (.ref A.f_starts_with_word)
  F_starts_with_word : FnP K "starts_with_word" s_starts_with_word A.f_starts_with_word A.d_starts_with_word
  m_is_give : mg "is_give" = some (.ref A.f_is_give)
  F_is_give : FnP K "is_give" s_is_give A.f_is_give A.d_is_give
  m_is_late : mg "is_late" = some (.ref A.f_is_late)
  F_is_late : FnP K "is_late" s_is_late A.f_is_late A.d_is_late
  m_is_row : mg "is_row" = some (.ref A.f_is_row)
  F_is_row : FnP K "is_row" s_is_row A.f_is_row A.d_is_row
  m_are_parts : mg "are_parts" = some (.ref A.f_are_parts)
  F_are_parts : FnP K "are_parts" s_are_parts A.f_are_parts A.d_are_parts
  m_are_marks : mg "are_marks" = some (.ref A.f_are_marks)
  F_are_marks : FnP K "are_marks" s_are_marks A.f_are_marks A.d_are_marks
  m_are_entries : mg "are_entries" = some (.ref A.f_are_entries)
  F_are_entries : FnP K "are_entries" s_are_entries A.f_are_entries A.d_are_entries
  m_are_opens : mg "are_opens" = some (.ref A.f_are_opens)
  F_are_opens : FnP K "are_opens" s_are_opens A.f_are_opens A.d_are_opens
  m_is_program : mg "is_program" = some (.ref A.f_is_program)
  F_is_program : FnP K "is_program" s_is_program A.f_is_program A.d_is_program
  m_demand_program : mg "demand_program" = some (.ref A.f_demand_program)
  F_demand_program : FnP K "demand_program" s_demand_program A.f_demand_program A.d_demand_program
  m_is_place : mg "is_place" = some (.ref A.f_is_place)
  F_is_place : FnP K "is_place" s_is_place A.f_is_place A.d_is_place
  m_is_laid_door : mg "is_laid_door" = some (.ref A.f_is_laid_door)
  F_is_laid_door : FnP K "is_laid_door" s_is_laid_door A.f_is_laid_door A.d_is_laid_door
  m_are_laid_doors : mg "are_laid_doors" = some (.ref A.f_are_laid_doors)
  F_are_laid_doors : FnP K "are_laid_doors" s_are_laid_doors A.f_are_laid_doors A.d_are_laid_doors
  m_are_packs : mg "are_packs" = some (.ref A.f_are_packs)
  F_are_packs : FnP K "are_packs" s_are_packs A.f_are_packs A.d_are_packs
  m_doors_of : mg "doors_of" = some (.ref A.f_doors_of)
  F_doors_of : FnP K "doors_of" s_doors_of A.f_doors_of A.d_doors_of
  m_is_layout : mg "is_layout" = some (.ref A.f_is_layout)
  F_is_layout : FnP K "is_layout" s_is_layout A.f_is_layout A.d_is_layout
  m_law_places : mg "_law_places" = some (.ref A.f_law_places)
  F_law_places : FnP K "_law_places" s_law_places A.f_law_places A.d_law_places
  m_law_doors : mg "_law_doors" = some (.ref A.f_law_doors)
  F_law_doors : FnP K "_law_doors" s_law_doors A.f_law_doors A.d_law_doors
  m_law_layout : mg "_law_layout" = some (.ref A.f_law_layout)
  F_law_layout : FnP K "_law_layout" s_law_layout A.f_law_layout A.d_law_layout
  m_law_spoilt : mg "_law_spoilt" = some (.ref A.f_law_spoilt)
  F_law_spoilt : FnP K "_law_spoilt" s_law_spoilt A.f_law_spoilt A.d_law_spoilt
  m_law : mg "law" = some (.ref A.f_law)
  F_law : FnP K "law" s_law A.f_law A.d_law
  zlen : mg "len" = none
  zint : mg "int" = none
  zabs : mg "abs" = none
  zisinstance : mg "isinstance" = none
  zrange : mg "range" = none
  zlist : mg "list" = none
  ztuple : mg "tuple" = none
  zsorted : mg "sorted" = none
  zset : mg "set" = none
  zmin : mg "min" = none
  zall : mg "all" = none
  zzip : mg "zip" = none
  zenumerate : mg "enumerate" = none
  zbool : mg "bool" = none
  zstr : mg "str" = none
  zreversed : mg "reversed" = none
  i_MOST_ENTRIES : ∃ t, mg "MOST_ENTRIES" = some (.int (3) t)
  i_MOST_NEEDS : ∃ t, mg "MOST_NEEDS" = some (.int (2) t)
  i_MOST_NEEDS_OF_GIVE : ∃ t, mg "MOST_NEEDS_OF_GIVE" = some (.int (1) t)
  i_MOST_OPENS : ∃ t, mg "MOST_OPENS" = some (.int (4) t)
  i_MOST_OUTS : ∃ t, mg "MOST_OUTS" = some (.int (2) t)
  i_MOST_PACKS : ∃ t, mg "MOST_PACKS" = some (.int (8) t)
  i_MOST_PARTS : ∃ t, mg "MOST_PARTS" = some (.int (4) t)
  i_MOST_ROWS : ∃ t, mg "MOST_ROWS" = some (.int (12) t)
  i_MOST_ROWS_OF_PART : ∃ t, mg "MOST_ROWS_OF_PART" = some (.int (5) t)
  m_NAMES : mg "NAMES" = some (.ref A.o_NAMES)
  t_NAMES : ∀ H : Hp, SqT K H A.o_NAMES [V.str "a", V.str "b", V.str "c", V.str "d"]
  i_NO_PART : ∃ t, mg "NO_PART" = some (.int (-1) t)
section
variable {P : Program} {w : World} {K : PySem.W.Frag} {mg : Str → Option Value} {base : Heap} {A : Ad}
theorem b_law_stream (T : Txt K mg A) : Binds K A.d_law_stream ["script"] [] := T.F_law_stream.bindsN fun _ _ _ _ _ _ us hl => match us, hl with | [_], _ => rfl
theorem b_law_mixed (T : Txt K mg A) : Binds K A.d_law_mixed ["number", "turn"] [] := T.F_law_mixed.bindsN fun _ _ _ _ _ _ us hl => match us, hl with | [_, _], _ => rfl
theorem b_law_draw (T : Txt K mg A) : Binds K A.d_law_draw ["stream", "limit"] [] := T.F_law_draw.bindsN fun _ _ _ _ _ _ us hl => match us, hl with | [_, _], _ => rfl
theorem b_law_name (T : Txt K mg A) : Binds K A.d_law_name ["stream", "given", "count"] [] := T.F_law_name.bindsN fun _ _ _ _ _ _ us hl => match us, hl with | [_, _, _], _ => rfl
theorem b_law_needs (T : Txt K mg A) : Binds K A.d_law_needs ["stream", "most", "given", "count"] [] := T.F_law_needs.bindsN fun _ _ _ _ _ _ us hl => match us, hl with | [_, _, _, _], _ => rfl
theorem b_law_row (T : Txt K mg A) : Binds K A.d_law_row ["stream", "plan", "given", "count"] [] := T.F_law_row.bindsN fun _ _ _ _ _ _ us hl => match us, hl with | [_, _, _, _], _ => rfl
theorem b_law_plans (T : Txt K mg A) : Binds K A.d_law_plans ["stream", "count"] [] := T.F_law_plans.bindsN fun _ _ _ _ _ _ us hl => match us, hl with | [_, _], _ => rfl
theorem b_law_program (T : Txt K mg A) : Binds K A.d_law_program ["stream"] [] := T.F_law_program.bindsN fun _ _ _ _ _ _ us hl => match us, hl with | [_], _ => rfl
theorem b_is_integer (T : Txt K mg A) : Binds K A.d_is_integer ["thing"] [] := T.F_is_integer.bindsN fun _ _ _ _ _ _ us hl => match us, hl with | [_], _ => rfl
theorem b_is_number (T : Txt K mg A) : Binds K A.d_is_number ["thing", "many"] [] := T.F_is_number.bindsN fun _ _ _ _ _ _ us hl => match us, hl with | [_, _], _ => rfl
theorem b_is_name (T : Txt K mg A) : Binds K A.d_is_name ["thing"] [] := T.F_is_name.bindsN fun _ _ _ _ _ _ us hl => match us, hl with | [_], _ => rfl
theorem b_is_tuple (T : Txt K mg A) : Binds K A.d_is_tuple ["thing", "least", "most"] [] := T.F_is_tuple.bindsN fun _ _ _ _ _ _ us hl => match us, hl with | [_, _, _], _ => rfl
theorem b_is_ascending (T : Txt K mg A) : Binds K A.d_is_ascending ["things"] [] := T.F_is_ascending.bindsN fun _ _ _ _ _ _ us hl => match us, hl with | [_], _ => rfl
theorem b_is_need (T : Txt K mg A) : Binds K A.d_is_need ["thing", "many_parts"] [] := T.F_is_need.bindsN fun _ _ _ _ _ _ us hl => match us, hl with | [_, _], _ => rfl
theorem b_are_needs (T : Txt K mg A) : Binds K A.d_are_needs ["thing", "many_parts", "most"] [] := T.F_are_needs.bindsN fun _ _ _ _ _ _ us hl => match us, hl with | [_, _, _], _ => rfl
theorem b_starts_with_word (T : Txt K mg A) : Binds K A.d_starts_with_word ["thing"] [] := T.F_starts_with_word.bindsN fun _ _ _ _ _ _ us hl => match us, hl with | [_], _ => rfl
theorem b_is_give (T : Txt K mg A) : Binds K A.d_is_give ["row", "many_parts"] [] := T.F_is_give.bindsN fun _ _ _ _ _ _ us hl => match us, hl with | [_, _], _ => rfl
theorem b_is_late (T : Txt K mg A) : Binds K A.d_is_late ["row", "many_parts"] [] := T.F_is_late.bindsN fun _ _ _ _ _ _ us hl => match us, hl with | [_, _], _ => rfl
theorem b_is_row (T : Txt K mg A) : Binds K A.d_is_row ["thing", "many_parts"] [] := T.F_is_row.bindsN fun _ _ _ _ _ _ us hl => match us, hl with | [_, _], _ => rfl
theorem b_are_parts (T : Txt K mg A) : Binds K A.d_are_parts ["thing"] [] := T.F_are_parts.bindsN fun _ _ _ _ _ _ us hl => match us, hl with | [_], _ => rfl
theorem b_are_marks (T : Txt K mg A) : Binds K A.d_are_marks ["thing", "many_parts"] [] := T.F_are_marks.bindsN fun _ _ _ _ _ _ us hl => match us, hl with | [_, _], _ => rfl
theorem b_are_entries (T : Txt K mg A) : Binds K A.d_are_entries ["thing", "many_parts"] [] := T.F_are_entries.bindsN fun _ _ _ _ _ _ us hl => match us, hl with | [_, _], _ => rfl
theorem b_are_opens (T : Txt K mg A) : Binds K A.d_are_opens ["thing", "many_parts"] [] := T.F_are_opens.bindsN fun _ _ _ _ _ _ us hl => match us, hl with | [_, _], _ => rfl
theorem b_is_program (T : Txt K mg A) : Binds K A.d_is_program ["thing"] [] := T.F_is_program.bindsN fun _ _ _ _ _ _ us hl => match us, hl with | [_], _ => rfl
theorem b_demand_program (T : Txt K mg A) : Binds K A.d_demand_program ["thing"] [] := T.F_demand_program.bindsN fun _ _ _ _ _ _ us hl => match us, hl with | [_], _ => rfl
theorem b_is_place (T : Txt K mg A) : Binds K A.d_is_place ["program", "thing"] [] := T.F_is_place.bindsN fun _ _ _ _ _ _ us hl => match us, hl with | [_, _], _ => rfl
theorem b_is_laid_door (T : Txt K mg A) : Binds K A.d_is_laid_door ["thing", "door", "many_packs"] [] := T.F_is_laid_door.bindsN fun _ _ _ _ _ _ us hl => match us, hl with | [_, _, _], _ => rfl
theorem b_are_laid_doors (T : Txt K mg A) : Binds K A.d_are_laid_doors ["thing", "doors", "many_packs"] [] := T.F_are_laid_doors.bindsN fun _ _ _ _ _ _ us hl => match us, hl with | [_, _, _], _ => rfl
theorem b_are_packs (T : Txt K mg A) : Binds K A.d_are_packs ["program", "thing"] [] := T.F_are_packs.bindsN fun _ _ _ _ _ _ us hl => match us, hl with | [_, _], _ => rfl
theorem b_doors_of (T : Txt K mg A) : Binds K A.d_doors_of ["program"] [] := T.F_doors_of.bindsN fun _ _ _ _ _ _ us hl => match us, hl with | [_], _ => rfl
theorem b_is_layout (T : Txt K mg A) : Binds K A.d_is_layout ["program", "thing"] [] := T.F_is_layout.bindsN fun _ _ _ _ _ _ us hl => match us, hl with | [_, _], _ => rfl
theorem b_law_places (T : Txt K mg A) : Binds K A.d_law_places ["program"] [] := T.F_law_places.bindsN fun _ _ _ _ _ _ us hl => match us, hl with | [_], _ => rfl
theorem b_law_doors (T : Txt K mg A) : Binds K A.d_law_doors ["program"] [] := T.F_law_doors.bindsN fun _ _ _ _ _ _ us hl => match us, hl with | [_], _ => rfl
theorem b_law_layout (T : Txt K mg A) : Binds K A.d_law_layout ["stream", "program"] [] := T.F_law_layout.bindsN fun _ _ _ _ _ _ us hl => match us, hl with | [_, _], _ => rfl
theorem b_law_spoilt (T : Txt K mg A) : Binds K A.d_law_spoilt ["stream", "program", "laid"] [] := T.F_law_spoilt.bindsN fun _ _ _ _ _ _ us hl => match us, hl with | [_, _, _], _ => rfl
theorem b_law (T : Txt K mg A) : Binds K A.d_law ["script"] [] := T.F_law.bindsN fun _ _ _ _ _ _ us hl => match us, hl with | [_], _ => rfl
end

local macro_rules | `(tactic| walk_at "rd") => `(tactic| simp only [tSeq, tAsg, tRet, tRetN, tDrop, tNext, tIfS, tTest, tB, tVar, tC, tOp, tUn, tCB, tCons, tNil, tCall, tAnd, tOr, tNot, tAndV, tOrV, tNotV, tIf, tTup, tLst, tChain, gName, gCons, gNil, gTup, rI0, rI, rU, rEq, rNe, scal, List.append_nil, List.getElem?_cons_zero, List.getElem?_cons_succ, List.set_cons_zero, List.set_cons_succ, Option.some.injEq, V.int.injEq, V.bl.injEq, V.ref.injEq, V.str.injEq, List.cons.injEq, and_true, true_and, exists_eq_left', exists_eq_left, exists_and_left, exists_eq', exists_eq])

section
variable {P : Program} {w : World} {K : PySem.W.Frag} {mg : Str → Option Value} {base : Heap} {A : Ad}
/-- the stream of a script stands at st -/
def Strm (st l : Addr) (H : Hp) : Prop := ∃ (ns : List Int) (p b m t : Int), H st = some (.lst [.ref l, .int p, .int b, .int m, .int t]) ∧ H l = some (.lst (ns.map V.int)) ∧ l ≠ st ∧ ns.length ≤ 63 ∧ 0 ≤ p ∧ p ≤ ns.length ∧ 0 ≤ b ∧ 0 ≤ m ∧ m < 2147483629
theorem int_at {ns : List Int} {i : Nat} {y : V} (h : (ns.map V.int)[i]? = some y) : ∃ z, y = V.int z := by
  rw [List.getElem?_map] at h
  obtain ⟨z, _, e⟩ := Option.map_eq_some_iff.mp h
  exact ⟨z, e.symm⟩
def sp_law_stream (K : PySem.W.Frag) : Sp := fun vs H Q _ => ∃ (a : Addr) (ns : List Int), vs = [.ref a] ∧ SqL K H a (ns.map V.int) ∧ ns.length ≤ 63 ∧ ∀ H' st l, Same H H' → H st = none → H l = none → Strm st l H' → Q (.ref st) H'
theorem ok_law_stream (T : Txt K mg A) : FnOk P w K mg base CX0 1 A.f_law_stream A.d_law_stream ["script"] (sp_law_stream K) := by
  refine T.F_law_stream.ok sc_law_stream (fun vs H Q E h => ?_) (fun cdv Ar outer s H vs Q E hr h => ?_)
  · obtain ⟨a, ns, rfl, hS, few, k⟩ := h
    rfl
  · obtain ⟨a, ns, rfl, hS, few, k⟩ := h
    refine ⟨_, PSs.nox ((pss_cons (ps_set (i := 1) sc_law_stream.nd rfl (Or.inl rfl) pe_int)
 (pss_cons (ps_for PassesOwn.never rfl (pi_list (pv 0)) (pg_name (i := 2) sc_law_stream.nd rfl (Or.inl rfl)) (pss_one (ps_set (i := 1) sc_law_stream.nd rfl (Or.inl rfl) (pe_op op_mod (pe_callTy call_int1 (by rfl) T.zint (by decide +kernel) (pa_cons (pe_op op_add (pe_op op_add (pe_op op_mul (pv 1) pe_int) (pe_op op_mod (pe_callTy call_int1 (by rfl) T.zint (by decide +kernel) (pa_cons (pv 2) pa_nil)) pe_int)) pe_int) pa_nil)) pe_int))))
 (pss_one (ps_ret (pe_lst (pa_cons (pe_callTy call_list_of (by rfl) T.zlist (by decide +kernel) (pa_cons (pv 0) pa_nil)) (pa_cons pe_int (pa_cons pe_int (pa_cons (pv 1) (pa_cons pe_int pa_nil))))))))))), ?_⟩
    rw [show start N_law_stream [.ref a] = [some (.ref a), none, none] from rfl]
    refine ⟨_, rfl, a, rfl, ⟨_, hS⟩, for_list (K := K) (a := a) (xs := ns.map V.int) (fun i σ H' => H' = H ∧ ∃ (m : Int) (v : Option V), σ = [some (.ref a), some (.int m), v] ∧ 0 ≤ m ∧ m < 2147483629)
      ⟨rfl, 1, none, rfl, by decide, by decide⟩ (fun i σ H' _ p => by rw [p.1]; exact hS) ?_ ?_⟩
    · rintro i y σ H' hi ⟨rfl, m, v, rfl, m0, m1⟩
      obtain ⟨z, rfl⟩ := int_at hi
      refine ⟨_, rfl, _, _, rfl, rfl, .inl ⟨by omega, by omega⟩, _, rfl, .inl ⟨_, rfl, _, _, rfl, rfl, (by show (0 : Int) < _; decide), _, _, rfl, rfl, _, _, rfl, rfl, .inl ⟨_, rfl, _, _, rfl, rfl, (by show (0 : Int) < _; decide), ?_⟩⟩⟩
      exact ⟨rfl, _, _, rfl, Int.emod_nonneg _ (by decide), Int.emod_lt_of_pos _ (by decide)⟩
    · rintro σ H' ⟨rfl, m, v, rfl, m0, m1⟩
      refine ⟨_, rfl, a, _, rfl, .inl hS, fun l nl => ⟨_, rfl, (by show 5 ≤ sizeLine; decide), fun st ns' => ?_⟩⟩
      have lst : l ≠ st := ne_of_none upd_same ns'
      refine k _ st l ((same_new nl).trans (same_new ns')) ?_ nl ⟨ns, 0, 0, m, 0, upd_same, by rw [upd_ne lst]; exact upd_same, lst, few, by omega, by omega, by omega, m0, m1⟩
      by_cases e : H' st = none
      · exact e
      · obtain ⟨o, ho⟩ := Option.ne_none_iff_exists'.mp e
        rw [upd_ne lst.symm, ho] at ns'
        exact nomatch ns'
def sp_law_mixed : Sp := fun vs H Q _ => ∃ (x t : Int), vs = [.int x, .int t] ∧ ∀ r : Int, 0 ≤ r → Q (.int r) H
theorem ok_law_mixed (T : Txt K mg A) : FnOk P w K mg base CX0 1 A.f_law_mixed A.d_law_mixed ["number", "turn"] (sp_law_mixed) := by
  refine T.F_law_mixed.ok sc_law_mixed (fun vs H Q E h => ?_) (fun cdv Ar outer s H vs Q E hr h => ?_)
  · obtain ⟨x, t, rfl, k⟩ := h
    rfl
  · obtain ⟨x, t, rfl, k⟩ := h
    refine ⟨_, PSs.nox ((pss_cons (ps_set (i := 2) sc_law_mixed.nd rfl (Or.inl rfl) (pe_op op_mod (pe_callTy call_int1 (by rfl) T.zint (by decide +kernel) (pa_cons (pe_op op_add (pe_op op_add (pe_op op_mul (pv 0) pe_int) (pe_op op_mul (pv 1) pe_int)) pe_int) pa_nil)) pe_int))
 (pss_cons (ps_set (i := 3) sc_law_mixed.nd rfl (Or.inl rfl) (pe_op op_mod (pe_callTy call_int1 (by rfl) T.zint (by decide +kernel) (pa_cons (pe_op op_add (pe_op op_add (pe_op op_mul (pv 2) (pv 2)) (pe_op op_mul (pv 1) pe_int)) (pe_op op_fdiv (pv 2) pe_int)) pa_nil)) pe_int))
 (pss_one (ps_ret (pe_op op_fdiv (pv 3) pe_int)))))), ?_⟩
    rw [show start N_law_mixed [.int x, .int t] = [some (.int x), some (.int t), none, none] from rfl]
    refine ⟨_, rfl, _, _, rfl, rfl, .inr ⟨by omega, by omega⟩, _, rfl, _, _, rfl, rfl, .inr ⟨by omega, by omega⟩, _, _, rfl, rfl, _, _, rfl, rfl, .inl ⟨_, rfl, _, _, rfl, rfl, (by show (0 : Int) < _; decide), ?_⟩⟩
    generalize e : (x * 48271 + t * 7919 + 11) % 2147483629 = f
    have f0 : 0 ≤ f := by rw [← e]; exact Int.emod_nonneg _ (by decide)
    have f1 : f < 2147483629 := by rw [← e]; exact Int.emod_lt_of_pos _ (by decide)
    refine ⟨_, rfl, _, rfl, _, _, rfl, rfl, .inl ⟨by omega, by omega⟩, _, rfl, _, _, rfl, rfl, .inr ⟨by omega, by omega⟩, _, _, rfl, rfl, _, rfl, _, _, rfl, rfl, ⟨by decide, by decide⟩, _, _, rfl, rfl, .inl ⟨_, rfl, _, _, rfl, rfl, (by show (0 : Int) < _; decide), ?_⟩⟩
    refine ⟨_, rfl, _, _, rfl, rfl, ⟨by decide, by decide⟩, k _ ?_⟩
    exact Int.ediv_nonneg (Int.emod_nonneg _ (by decide)) (by decide)
theorem Strm.new {st l : Addr} {H : Hp} {x : Addr} {o : HO} (s : Strm st l H) (nx : H x = none) : Strm st l (upd H x o) := by
  obtain ⟨ns, p, b, m, t, h1, h2, r⟩ := s
  exact ⟨ns, p, b, m, t, by rw [upd_ne (ne_of_none h1 nx)]; exact h1, by rw [upd_ne (ne_of_none h2 nx)]; exact h2, r⟩
theorem Strm.there {st l : Addr} {H : Hp} (s : Strm st l H) : ∃ xs, H st = some (.lst xs) := by
  obtain ⟨ns, p, b, m, t, h1, _⟩ := s
  exact ⟨_, h1⟩
theorem Strm.same {st l : Addr} {H H' : Hp} (s : Strm st l H) (k : Same H H') : Strm st l H' := by
  obtain ⟨ns, p, b, m, t, h1, h2, r⟩ := s
  exact ⟨ns, p, b, m, t, k _ _ h1, k _ _ h2, r⟩
theorem Strm.ne {st l : Addr} {H : Hp} {x : Addr} (s : Strm st l H) (nx : H x = none) : x ≠ st := fun z => by
  obtain ⟨xs, h⟩ := s.there
  rw [z, h] at nx
  exact nomatch nx
theorem Strm.ne2 {st l : Addr} {H : Hp} {x : Addr} (s : Strm st l H) (nx : H x = none) : x ≠ l := fun z => by
  obtain ⟨ns, p, b, m, t, _, h2, _⟩ := s
  rw [z, h2] at nx
  exact nomatch nx
theorem Strm.away {st l : Addr} {H : Hp} {x : Addr} {o : HO} (s : Strm st l H) (n1 : x ≠ st) (n2 : x ≠ l) : Strm st l (upd H x o) := by
  obtain ⟨ns, p, b, m, t, h1, h2, r⟩ := s
  exact ⟨ns, p, b, m, t, by rw [upd_ne n1.symm]; exact h1, by rw [upd_ne n2.symm]; exact h2, r⟩
def sp_law_draw : Sp := fun vs H Q _ => ∃ (st l : Addr) (n : Int), vs = [.ref st, .int n] ∧ Strm st l H ∧ 0 < n ∧ n < 1073741824 ∧ ∀ (H' : Hp) (v : Int), But [st] H H' → Strm st l H' → 0 ≤ v → v < n → Q (.int v) H'
theorem ok_law_draw (T : Txt K mg A) : FnOk P w K mg base CX0 2 A.f_law_draw A.d_law_draw ["stream", "limit"] (sp_law_draw) := by
  refine T.F_law_draw.ok sc_law_draw (fun vs H Q E h => ?_) (fun cdv Ar outer s H vs Q E hr h => ?_)
  · obtain ⟨st, l, n, rfl, hst, n0, n1, k⟩ := h
    rfl
  · obtain ⟨st, l, n, rfl, hst, n0, n1, k⟩ := h
    refine ⟨_, PSs.nox ((pss_cons (ps_asg (pe_op op_add (pe_ix ix_list (pv 0) pe_int (fun _ _ => rfl)) pe_int) (pg_sub (pv 0) pe_int set_list))
 (pss_cons (ps_if (PW.pt (pw_and (pt_cmpR op_eq (pe_ix ix_list (pv 0) pe_int (fun _ _ => rfl)) pe_int (nomark _)) (pw_and1 (pt_cmpR op_lt (pe_ix ix_list (pv 0) pe_int (fun _ _ => rfl)) (pe_callB call_len_seq (by rfl) T.zlen (by decide +kernel) (pa_cons (pe_ix ix_list (pv 0) pe_int (fun _ _ => rfl)) pa_nil)) (nomark _))))) (pss_cons (ps_set (i := 2) sc_law_draw.nd rfl (Or.inl rfl) (pe_callTy call_int1 (by rfl) T.zint (by decide +kernel) (pa_cons (pe_ix ix_list (pe_ix ix_list (pv 0) pe_int (fun _ _ => rfl)) (pe_ix ix_list (pv 0) pe_int (fun _ _ => rfl)) (fun _ _ => rfl)) pa_nil)))
 (pss_cons (ps_asg (pe_op op_add (pe_ix ix_list (pv 0) pe_int (fun _ _ => rfl)) pe_int) (pg_sub (pv 0) pe_int set_list))
 (pss_cons (ps_if (PW.pt (pw_and (pt_cmpR op_gt (pv 2) (pe_un un_neg (pe_op op_pow pe_int pe_int)) (nomark _)) (pw_and1 (pt_cmpR op_lt (pv 2) (pe_op op_pow pe_int pe_int) (nomark _))))) (pss_one (ps_ret (pe_op op_mod (pe_callTy call_int1 (by rfl) T.zint (by decide +kernel) (pa_cons (pe_call (ok_law_mixed T) hr rfl T.m_law_mixed T.F_law_mixed.kp (b_law_mixed T) .nil pass0 (pa_cons (pv 2) (pa_cons (pe_ix ix_list (pv 0) pe_int (fun _ _ => rfl)) pa_nil))) pa_nil)) (pv 1)))) pss_nil)
 (pss_one (ps_asg (pe_callB call_abs (by rfl) T.zabs (by decide +kernel) (pa_cons (pv 2) pa_nil)) (pg_sub (pv 0) pe_int set_list)))))) pss_nil)
 (pss_cons (ps_if (pt_cmpR op_gt (pe_ix ix_list (pv 0) pe_int (fun _ _ => rfl)) pe_int (nomark _)) (pss_cons (ps_set (i := 3) sc_law_draw.nd rfl (Or.inl rfl) (pe_op op_mod (pe_callTy call_int1 (by rfl) T.zint (by decide +kernel) (pa_cons (pe_ix ix_list (pv 0) pe_int (fun _ _ => rfl)) pa_nil)) (pv 1)))
 (pss_cons (ps_asg (pe_op op_fdiv (pe_ix ix_list (pv 0) pe_int (fun _ _ => rfl)) (pv 1)) (pg_sub (pv 0) pe_int set_list))
 (pss_one (ps_ret (pv 3))))) pss_nil)
 (pss_one (ps_ret (pe_op op_mod (pe_callTy call_int1 (by rfl) T.zint (by decide +kernel) (pa_cons (pe_call (ok_law_mixed T) hr rfl T.m_law_mixed T.F_law_mixed.kp (b_law_mixed T) .nil pass0 (pa_cons (pe_ix ix_list (pv 0) pe_int (fun _ _ => rfl)) (pa_cons (pe_ix ix_list (pv 0) pe_int (fun _ _ => rfl)) pa_nil))) pa_nil)) (pv 1)))))))), ?_⟩
    rw [show start N_law_draw [.ref st, .int n] = [some (.ref st), some (.int n), none, none] from rfl]
    obtain ⟨ns, p, b, m, t, hs, hl, ls, few, p0, p1, b0, m0, m1⟩ := hst
    refine ⟨_, rfl, st, _, _, _, rfl, rfl, SqL.of hs, atI_nat (j := 4) rfl, _, _, rfl, rfl, _, rfl, st, _, 4, 4, rfl, rfl, hs, rfl, ?_⟩
    replace hl : upd H st (.lst [.ref l, .int p, .int b, .int m, .int (t + 1)]) l = some (.lst (ns.map V.int)) := by rw [upd_ne ls]; exact hl
    have bt : But [st] H (upd H st (.lst [.ref l, .int p, .int b, .int m, .int (t + 1)])) := fun d o nd e => by rw [upd_ne fun z => nd (List.mem_singleton.mpr z)]; exact e
    replace hs : upd H st (.lst [.ref l, .int p, .int b, .int m, .int (t + 1)]) st = some (.lst [.ref l, .int p, .int b, .int m, .int (t + 1)]) := upd_same
    show tSeq _ _ _ _ (upd H st (.lst [.ref l, .int p, .int b, .int m, .int (t + 1)]))
    dsimp only [List.set]
    generalize upd H st (.lst [.ref l, .int p, .int b, .int m, .int (t + 1)]) = H1 at hl bt hs ⊢
    generalize t + 1 = t at hs
    refine ⟨_, rfl, st, _, _, _, rfl, rfl, SqL.of hs, atI_nat (j := 2) rfl, rfl, _, rfl, ?_⟩
    refine ite2 (fun c => ?_) (fun c => iteF ?_)
    · have b00 : b = 0 := by simpa using c
      subst b00
      refine ⟨_, rfl, st, _, _, _, rfl, rfl, SqL.of hs, atI_nat (j := 1) rfl, _, rfl, st, _, _, _, rfl, rfl, SqL.of hs, atI_nat (j := 0) rfl, l, _, rfl, .inl (SqL.of hl), _, _, rfl, rfl, _, rfl, ?_⟩
      refine ite2 (fun c2 => ?_) (fun c2 => ?_)
      · have pl : p < (ns.map V.int).length := of_decide_eq_true c2
        rw [List.length_map] at pl
        obtain ⟨z, hz⟩ : ∃ z, ns[p.toNat]? = some z := ⟨_, List.getElem?_eq_getElem (by omega)⟩
        have at_p : atI (ns.map V.int) p = some (.int z) := by
          have e := atI_nat (xs := ns.map V.int) (j := p.toNat) (v := .int z) (by rw [List.getElem?_map, hz]; rfl)
          rwa [Int.toNat_of_nonneg p0] at e
        refine ⟨_, rfl, st, _, _, _, rfl, rfl, SqL.of hs, atI_nat (j := 0) rfl, _, rfl, st, _, _, _, rfl, rfl, SqL.of hs, atI_nat (j := 1) rfl, l, _, _, _, rfl, rfl, SqL.of hl, at_p, .inl ⟨_, rfl, ?_⟩⟩
        refine ⟨_, rfl, st, _, _, _, rfl, rfl, SqL.of hs, atI_nat (j := 1) rfl, _, _, rfl, rfl, _, rfl, st, _, 1, 1, rfl, rfl, hs, rfl, ?_⟩
        replace hl : upd H1 st (.lst [.ref l, .int (p + 1), .int 0, .int m, .int t]) l = some (.lst (ns.map V.int)) := by rw [upd_ne ls]; exact hl
        replace bt : But [st] H (upd H1 st (.lst [.ref l, .int (p + 1), .int 0, .int m, .int t])) := fun d o nd e => by rw [upd_ne fun z => nd (List.mem_singleton.mpr z)]; exact bt d o nd e
        replace hs : upd H1 st (.lst [.ref l, .int (p + 1), .int 0, .int m, .int t]) st = some (.lst [.ref l, .int (p + 1), .int 0, .int m, .int t]) := upd_same
        dsimp only [List.set]
        generalize upd H1 st (.lst [.ref l, .int (p + 1), .int 0, .int m, .int t]) = H2 at hl bt hs ⊢
        have done1 : ∀ r : Int, 0 ≤ r % n ∧ r % n < n := fun r => ⟨Int.emod_nonneg _ (by omega), Int.emod_lt_of_pos _ n0⟩
        have pw : CPow 10 18 := ⟨by decide, by decide, by decide⟩
        refine ⟨_, rfl, _, _, rfl, rfl, pw, _, rfl, _, _, rfl, rfl, _, rfl, ?_⟩
        refine ite2 (fun c3 => ?_) (fun c3 => iteF ?_)
        · refine ⟨_, rfl, _, _, rfl, rfl, pw, _, _, rfl, rfl, _, rfl, ?_⟩
          refine ite2 (fun c4 => ?_) (fun c4 => ?_)
          · refine ⟨_, rfl, _, rfl, st, _, _, _, rfl, rfl, SqL.of hs, atI_nat (j := 4) rfl, _, _, rfl, fun r r0 => .inl ⟨_, rfl, _, rfl, _, _, rfl, rfl, n0, ?_⟩⟩
            exact k _ _ bt ⟨ns, p + 1, 0, m, t, hs, hl, ls, few, by omega, by omega, by omega, m0, m1⟩ (done1 r).1 (done1 r).2
          · refine ⟨_, rfl, _, rfl, _, rfl, st, _, 2, 2, rfl, rfl, hs, rfl, ?_⟩
            have b0 : 0 ≤ (if z < 0 then -z else z) := by split <;> omega
            generalize (if z < 0 then -z else z) = b at b0 ⊢
            replace hl : upd H2 st (.lst [.ref l, .int (p + 1), .int b, .int m, .int t]) l = some (.lst (ns.map V.int)) := by rw [upd_ne ls]; exact hl
            replace bt : But [st] H (upd H2 st (.lst [.ref l, .int (p + 1), .int b, .int m, .int t])) := fun d o nd e => by rw [upd_ne fun z => nd (List.mem_singleton.mpr z)]; exact bt d o nd e
            replace hs : upd H2 st (.lst [.ref l, .int (p + 1), .int b, .int m, .int t]) st = some (.lst [.ref l, .int (p + 1), .int b, .int m, .int t]) := upd_same
            dsimp only [List.set]
            generalize upd H2 st (.lst [.ref l, .int (p + 1), .int b, .int m, .int t]) = H3 at hl bt hs ⊢
            replace p1 : p + 1 ≤ ns.length := by omega
            replace p0 : 0 ≤ p + 1 := by omega
            generalize p + 1 = p at hs p0 p1
    
            refine ⟨_, rfl, st, _, _, _, rfl, rfl, SqL.of hs, atI_nat (j := 2) rfl, _, _, rfl, rfl, _, rfl, ?_⟩
            refine ite2 (fun c => ?_) (fun c => ?_)
            · have c2 : 0 < b := of_decide_eq_true c
              refine ⟨_, rfl, st, _, _, _, rfl, rfl, SqL.of hs, atI_nat (j := 2) rfl, .inl ⟨_, rfl, _, rfl, _, _, rfl, rfl, n0, ?_⟩⟩
              refine ⟨_, rfl, st, _, _, _, rfl, rfl, SqL.of hs, atI_nat (j := 2) rfl, _, rfl, _, _, rfl, rfl, ⟨n0, n1⟩, _, rfl, st, _, 2, 2, rfl, rfl, hs, rfl, ?_⟩
              refine ⟨_, rfl, k _ _ (fun d o nd e => by rw [upd_ne fun z => nd (List.mem_singleton.mpr z)]; exact bt d o nd e) ⟨ns, p, b / n, m, t, upd_same, by rw [upd_ne ls]; exact hl, ls, few, p0, p1, Int.ediv_nonneg b0 (by omega), m0, m1⟩ (Int.emod_nonneg _ (by omega)) (Int.emod_lt_of_pos _ n0)⟩
            · refine ⟨_, rfl, st, _, _, _, rfl, rfl, SqL.of hs, atI_nat (j := 3) rfl, _, rfl, st, _, _, _, rfl, rfl, SqL.of hs, atI_nat (j := 4) rfl, _, _, rfl, fun r r0 => .inl ⟨_, rfl, _, rfl, _, _, rfl, rfl, n0, ?_⟩⟩
              exact k _ _ bt ⟨ns, p, b, m, t, hs, hl, ls, few, p0, p1, b0, m0, m1⟩ (Int.emod_nonneg _ (by omega)) (Int.emod_lt_of_pos _ n0)
        · refine ⟨_, rfl, _, rfl, _, rfl, st, _, 2, 2, rfl, rfl, hs, rfl, ?_⟩
          have b0 : 0 ≤ (if z < 0 then -z else z) := by split <;> omega
          generalize (if z < 0 then -z else z) = b at b0 ⊢
          replace hl : upd H2 st (.lst [.ref l, .int (p + 1), .int b, .int m, .int t]) l = some (.lst (ns.map V.int)) := by rw [upd_ne ls]; exact hl
          replace bt : But [st] H (upd H2 st (.lst [.ref l, .int (p + 1), .int b, .int m, .int t])) := fun d o nd e => by rw [upd_ne fun z => nd (List.mem_singleton.mpr z)]; exact bt d o nd e
          replace hs : upd H2 st (.lst [.ref l, .int (p + 1), .int b, .int m, .int t]) st = some (.lst [.ref l, .int (p + 1), .int b, .int m, .int t]) := upd_same
          dsimp only [List.set]
          generalize upd H2 st (.lst [.ref l, .int (p + 1), .int b, .int m, .int t]) = H3 at hl bt hs ⊢
          replace p1 : p + 1 ≤ ns.length := by omega
          replace p0 : 0 ≤ p + 1 := by omega
          generalize p + 1 = p at hs p0 p1
    
          refine ⟨_, rfl, st, _, _, _, rfl, rfl, SqL.of hs, atI_nat (j := 2) rfl, _, _, rfl, rfl, _, rfl, ?_⟩
          refine ite2 (fun c => ?_) (fun c => ?_)
          · have c2 : 0 < b := of_decide_eq_true c
            refine ⟨_, rfl, st, _, _, _, rfl, rfl, SqL.of hs, atI_nat (j := 2) rfl, .inl ⟨_, rfl, _, rfl, _, _, rfl, rfl, n0, ?_⟩⟩
            refine ⟨_, rfl, st, _, _, _, rfl, rfl, SqL.of hs, atI_nat (j := 2) rfl, _, rfl, _, _, rfl, rfl, ⟨n0, n1⟩, _, rfl, st, _, 2, 2, rfl, rfl, hs, rfl, ?_⟩
            refine ⟨_, rfl, k _ _ (fun d o nd e => by rw [upd_ne fun z => nd (List.mem_singleton.mpr z)]; exact bt d o nd e) ⟨ns, p, b / n, m, t, upd_same, by rw [upd_ne ls]; exact hl, ls, few, p0, p1, Int.ediv_nonneg b0 (by omega), m0, m1⟩ (Int.emod_nonneg _ (by omega)) (Int.emod_lt_of_pos _ n0)⟩
          · refine ⟨_, rfl, st, _, _, _, rfl, rfl, SqL.of hs, atI_nat (j := 3) rfl, _, rfl, st, _, _, _, rfl, rfl, SqL.of hs, atI_nat (j := 4) rfl, _, _, rfl, fun r r0 => .inl ⟨_, rfl, _, rfl, _, _, rfl, rfl, n0, ?_⟩⟩
            exact k _ _ bt ⟨ns, p, b, m, t, hs, hl, ls, few, p0, p1, b0, m0, m1⟩ (Int.emod_nonneg _ (by omega)) (Int.emod_lt_of_pos _ n0)
      · have b0 : (0 : Int) ≤ 0 := by decide
        refine ⟨_, rfl, st, _, _, _, rfl, rfl, SqL.of hs, atI_nat (j := 2) rfl, _, _, rfl, rfl, _, rfl, ?_⟩
        refine ite2 (fun c => ?_) (fun c => ?_)
        · have c2 : 0 < (0 : Int) := of_decide_eq_true c
          refine ⟨_, rfl, st, _, _, _, rfl, rfl, SqL.of hs, atI_nat (j := 2) rfl, .inl ⟨_, rfl, _, rfl, _, _, rfl, rfl, n0, ?_⟩⟩
          refine ⟨_, rfl, st, _, _, _, rfl, rfl, SqL.of hs, atI_nat (j := 2) rfl, _, rfl, _, _, rfl, rfl, ⟨n0, n1⟩, _, rfl, st, _, 2, 2, rfl, rfl, hs, rfl, ?_⟩
          refine ⟨_, rfl, k _ _ (fun d o nd e => by rw [upd_ne fun z => nd (List.mem_singleton.mpr z)]; exact bt d o nd e) ⟨ns, p, (0 : Int) / n, m, t, upd_same, by rw [upd_ne ls]; exact hl, ls, few, p0, p1, Int.ediv_nonneg b0 (by omega), m0, m1⟩ (Int.emod_nonneg _ (by omega)) (Int.emod_lt_of_pos _ n0)⟩
        · refine ⟨_, rfl, st, _, _, _, rfl, rfl, SqL.of hs, atI_nat (j := 3) rfl, _, rfl, st, _, _, _, rfl, rfl, SqL.of hs, atI_nat (j := 4) rfl, _, _, rfl, fun r r0 => .inl ⟨_, rfl, _, rfl, _, _, rfl, rfl, n0, ?_⟩⟩
          exact k _ _ bt ⟨ns, p, (0 : Int), m, t, hs, hl, ls, few, p0, p1, b0, m0, m1⟩ (Int.emod_nonneg _ (by omega)) (Int.emod_lt_of_pos _ n0)
    · have b0' := b0
      refine ⟨_, rfl, st, _, _, _, rfl, rfl, SqL.of hs, atI_nat (j := 2) rfl, _, _, rfl, rfl, _, rfl, ?_⟩
      refine ite2 (fun c => ?_) (fun c => ?_)
      · have c2 : 0 < b := of_decide_eq_true c
        refine ⟨_, rfl, st, _, _, _, rfl, rfl, SqL.of hs, atI_nat (j := 2) rfl, .inl ⟨_, rfl, _, rfl, _, _, rfl, rfl, n0, ?_⟩⟩
        refine ⟨_, rfl, st, _, _, _, rfl, rfl, SqL.of hs, atI_nat (j := 2) rfl, _, rfl, _, _, rfl, rfl, ⟨n0, n1⟩, _, rfl, st, _, 2, 2, rfl, rfl, hs, rfl, ?_⟩
        refine ⟨_, rfl, k _ _ (fun d o nd e => by rw [upd_ne fun z => nd (List.mem_singleton.mpr z)]; exact bt d o nd e) ⟨ns, p, b / n, m, t, upd_same, by rw [upd_ne ls]; exact hl, ls, few, p0, p1, Int.ediv_nonneg b0 (by omega), m0, m1⟩ (Int.emod_nonneg _ (by omega)) (Int.emod_lt_of_pos _ n0)⟩
      · refine ⟨_, rfl, st, _, _, _, rfl, rfl, SqL.of hs, atI_nat (j := 3) rfl, _, rfl, st, _, _, _, rfl, rfl, SqL.of hs, atI_nat (j := 4) rfl, _, _, rfl, fun r r0 => .inl ⟨_, rfl, _, rfl, _, _, rfl, rfl, n0, ?_⟩⟩
        exact k _ _ bt ⟨ns, p, b, m, t, hs, hl, ls, few, p0, p1, b0, m0, m1⟩ (Int.emod_nonneg _ (by omega)) (Int.emod_lt_of_pos _ n0)
def sp_law_name : Sp := fun vs H Q _ => ∃ (st l g : Addr) (c : Int) (gs : List V) (ds : List PyData) (ps : List Nm), vs = [.ref st, .ref g, .int c] ∧ Strm st l H ∧ H g = some (.lst gs) ∧ g ≠ st ∧ Reps [st] H gs ds ∧ isNms c ds ps ∧ gs.length ≤ 60 ∧ 0 < c ∧ c ≤ 4 ∧ ∀ (H' : Hp) (v : V) (p : Nm), But [st] H H' → Strm st l H' → Rep [st] H' v (nmD p) → nmOk c p → Q v H'
theorem ok_law_name (T : Txt K mg A) : FnOk P w K mg base CX0 3 A.f_law_name A.d_law_name ["stream", "given", "count"] (sp_law_name) := by
  refine T.F_law_name.ok sc_law_name (fun vs H Q E h => ?_) (fun cdv Ar outer s H vs Q E hr h => ?_)
  · obtain ⟨st, l, g, c, gs, ds, ps, rfl, hst, hg, gst, rg, nms, few, c0, c4, k⟩ := h
    rfl
  · obtain ⟨st, l, g, c, gs, ds, ps, rfl, hst, hg, gst, rg, nms, few, c0, c4, k⟩ := h
    refine ⟨_, PSs.nox ((pss_cons (ps_if (PW.pt (pw_and (pt_cmpR op_gt (pe_callB call_len_seq (by rfl) T.zlen (by decide +kernel) (pa_cons (pv 1) pa_nil)) pe_int (nomark _)) (pw_and1 (pt_cmpR op_gt (pe_call (ok_law_draw T) hr rfl T.m_law_draw T.F_law_draw.kp (b_law_draw T) .nil pass0 (pa_cons (pv 0) (pa_cons pe_int pa_nil))) pe_int (nomark _))))) (pss_one (ps_ret (pe_ix ix_list (pv 1) (pe_call (ok_law_draw T) hr rfl T.m_law_draw T.F_law_draw.kp (b_law_draw T) .nil pass0 (pa_cons (pv 0) (pa_cons (pe_callB call_len_seq (by rfl) T.zlen (by decide +kernel) (pa_cons (pv 1) pa_nil)) pa_nil))) (fun _ _ => rfl)))) pss_nil)
 (pss_one (ps_ret (pe_tup (pa_cons (pe_call (ok_law_draw T) hr rfl T.m_law_draw T.F_law_draw.kp (b_law_draw T) .nil pass0 (pa_cons (pv 0) (pa_cons (pv 2) pa_nil))) (pa_cons (pe_ix ix_str pe_str (pe_call (ok_law_draw T) hr rfl T.m_law_draw T.F_law_draw.kp (b_law_draw T) .nil pass0 (pa_cons (pv 0) (pa_cons pe_int pa_nil))) (fun _ _ => rfl)) pa_nil))))))), ?_⟩
    rw [show start N_law_name [.ref st, .ref g, .int c] = [some (.ref st), some (.ref g), some (.int c)] from rfl]
    refine ⟨_, rfl, g, _, rfl, .inl (SqL.of hg), _, _, rfl, rfl, _, rfl, ?_⟩
    have last : ∀ H1 : Hp, But [st] H H1 → Strm st l H1 → tRet (tTup (tCons (tCall sp_law_draw [] E0 (tCons (tVar 0) (tCons (tVar 2) tNil))) (tCons (tOp rIxS (tC (.str "abcd")) (tCall sp_law_draw [] E0 (tCons (tVar 0) (tCons (tC (.int 4)) tNil)))) tNil)))
        { nx := fun _ H' => Q .non H', rt := Q } [some (.ref st), some (.ref g), some (.int c)] H1 := by
      intro H1 b1 s1
      refine ⟨_, rfl, _, rfl, st, l, c, rfl, s1, c0, by omega, fun H2 v b2 s2 v0 v1 => ⟨_, rfl, st, l, 4, rfl, s2, by decide, by decide, fun H3 u b3 s3 u0 u1 => ?_⟩⟩
      obtain ⟨ch, e, mem⟩ := letter_at u0 u1
      refine ⟨_, _, ch, rfl, rfl, (by decide +kernel), e, (by show 2 ≤ sizeLine; decide), fun p np => ?_⟩
      have pst : p ≠ st := fun z => by
        exact s3.ne np z
      have bn : But [st] H3 (upd H3 p (.tup [.int v, .str ⟨#[ch]⟩])) := .new .refl np
      exact k _ _ (v, ⟨#[ch]⟩) (((b1.trans b2).trans b3).trans bn) (s3.new np) (.tup upd_same (fun z => pst (List.mem_singleton.mp z)) (.cons (.int _) (.cons (.str _) .nil))) ⟨v0, v1, mem⟩
    refine ite2 (fun c1 => ?_) (fun c1 => iteF (last H .refl hst))
    have some_ : 0 < (gs.length : Int) := of_decide_eq_true c1
    refine ⟨_, rfl, st, l, 5, rfl, hst, by decide, by decide, fun H1 v b1 s1 v0 v1 => ⟨_, _, rfl, rfl, _, rfl, ?_⟩⟩
    refine ite2 (fun c2 => ?_) (fun c2 => last H1 b1 s1)
    have hg1 := b1.at1 hg gst
    refine ⟨_, rfl, _, rfl, _, rfl, g, _, rfl, .inl (SqL.of hg1), st, l, _, rfl, s1, some_, (by show (gs.length : Int) < _; omega), fun H2 u b2 s2 u0 u1 => ?_⟩
    have hg2 := b2.at1 hg1 gst
    obtain ⟨x, hx⟩ : ∃ x, gs[u.toNat]? = some x := ⟨_, List.getElem?_eq_getElem (by omega)⟩
    have at_u : atI gs u = some x := by
      have e := atI_nat (xs := gs) (j := u.toNat) hx
      rwa [Int.toNat_of_nonneg u0] at e
    obtain ⟨d, hd, rx⟩ := rg.get hx
    obtain ⟨p, hp, rfl, okp⟩ := nms.at_ hd
    exact ⟨g, gs, u, x, rfl, rfl, SqL.of hg2, at_u, k _ _ p (b1.trans b2) s2 (rx.mv (b1.trans b2)) okp⟩
def sp_law_needs : Sp := fun vs H Q _ => ∃ (st l g : Addr) (m : Nat) (c : Int) (gs : List V) (ds : List PyData) (ps : List Nm), vs = [.ref st, .int (m : Nat), .ref g, .int c] ∧ m ≤ 2 ∧ Strm st l H ∧ H g = some (.lst gs) ∧ g ≠ st ∧ Reps [st] H gs ds ∧ isNms c ds ps ∧ gs.length ≤ 60 ∧ 0 < c ∧ c ≤ 4 ∧ ∀ (H' : Hp) (v : V) (qs : List Nm), But [st] H H' → Strm st l H' → Rep [st] H' v (needsD qs) → needsOk c m qs → Q v H'
theorem ok_law_needs (T : Txt K mg A) : FnOk P w K mg base CX0 4 A.f_law_needs A.d_law_needs ["stream", "most", "given", "count"] (sp_law_needs) := by
  refine T.F_law_needs.ok sc_law_needs (fun vs H Q E h => ?_) (fun cdv Ar outer s H vs Q E hr h => ?_)
  · obtain ⟨st, l, g, m, c, gs, ds, ps, rfl, m2, hst, hg, gst, rg, nms, few, c0, c4, k⟩ := h
    rfl
  · obtain ⟨st, l, g, m, c, gs, ds, ps, rfl, m2, hst, hg, gst, rg, nms, few, c0, c4, k⟩ := h
    refine ⟨_, PSs.nox ((pss_one (ps_ret (pe_callTy call_tuple_of (by rfl) T.ztuple (by decide +kernel) (pa_cons (pe_lc (own := [("k", 4)]) (g := (gName 4)) (tt := tYes) rfl sc_law_needs.nd (pi_range1 (by rfl) T.zrange (pa_cons (pe_call (ok_law_draw T) (hr.mono (by decide)) rfl T.m_law_draw T.F_law_draw.kp (b_law_draw T) .nil pass0 (pa_cons (pv 0) (pa_cons (pe_op op_add (pv 1) pe_int) pa_nil))) pa_nil)) (blkOk_by (N := N_law_needs) (sc := defScope s_law_needs) (by decide +kernel)) (fun _ _ _ _ _ => (pg_name (i := 4) sc_law_needs.nd rfl (Or.inl rfl))) (fun _ _ _ _ _ => pts_nil) (fun _ _ _ _ _ => (pe_call (ok_law_name T) hr rfl T.m_law_name T.F_law_name.kp (b_law_name T) .nil pass0 (pa_cons (pv 0) (pa_cons (pv 2) (pa_cons (pv 3) pa_nil)))))) pa_nil))))), ?_⟩
    rw [show start N_law_needs [.ref st, .int (m : Nat), .ref g, .int c] = [some (.ref st), some (.int (m : Nat)), some (.ref g), some (.int c), none] from rfl]
    refine ⟨_, rfl, _, rfl, _, _, rfl, rfl, st, l, (m : Int) + 1, rfl, hst, by omega, by omega, fun H1 n b1 s1 n0 n1 => ⟨n, rfl, by omega, by omega, fun D nD => ?_⟩⟩
    have Dst : D ≠ st := s1.ne nD
    have Dl : D ≠ l := s1.ne2 nD
    refine lc_range (lo := 0) (n := n.toNat) (fun i H' => But [st] H1 H' ∧ Strm st l H' ∧ ∃ (acc : List V) (qs : List Nm), H' D = some (.lst acc) ∧ Reps [D, st] H' acc (qs.map nmD) ∧ qs.length = i ∧ ∀ q ∈ qs, nmOk c q) ?_ ?_ ?_
    · exact ⟨.new .refl nD, s1.new nD, [], [], upd_same, .nil, rfl, fun _ z => nomatch z⟩
    · rintro i H' hi ⟨b2, s2, acc, qs, hD, ra, ql, qo⟩
      have b := b1.trans b2
      refine ⟨rfl, ?_⟩
      refine ⟨_, rfl, _, rfl, _, rfl, st, l, g, c, gs, ds, ps, rfl, s2, b.at1 hg gst, gst, rg.mv b, nms, few, c0, c4, fun H3 v p b3 s3 rv okp => ?_⟩
      have hD3 := b3.at1 hD Dst
      have lq : acc.length = qs.length := by rw [ra.length, List.length_map]
      have ra3 := ra.mv (b3.mono fun x z => List.mem_cons_of_mem _ z)
      have u3 : But [D, st] H3 (upd H3 D (.lst (acc ++ [v]))) := But.upd .refl List.mem_cons_self
      refine ⟨acc, hD3, by rw [lq, ql, sizeLine_eq]; omega, (b2.trans b3).own nD, s3.away Dst Dl, acc ++ [v], qs ++ [p], upd_same, ?_, by rw [List.length_append, ql]; rfl, fun q hq => ?_⟩
      · rw [List.map_append]
        exact (ra3.app (.one (Rep.avoid hD3 _ _ rfl rv))).mv u3
      · rcases List.mem_append.mp hq with z | z
        · exact qo q z
        · rw [List.mem_singleton.mp z]
          exact okp
    · rintro H' ⟨b2, s2, acc, qs, hD, ra, ql, qo⟩
      refine ⟨D, acc, rfl, .inl ⟨SqL.of hD, fun t nt => ?_⟩⟩
      have bt : But [st] H' (upd H' t (.tup acc)) := .new .refl nt
      refine k _ _ qs ((b1.trans b2).trans bt) (s2.new nt) (.tup upd_same (fun z => s2.ne nt (List.mem_singleton.mp z)) ((ra.less fun a z => List.mem_cons_of_mem _ z).mv bt)) ⟨by omega, qo⟩
def sp_law_row : Sp := fun vs H Q _ => ∃ (st l g : Addr) (pv : V) (x : Plan) (c : Int) (gs : List V) (ds : List PyData) (ps : List Nm), vs = [.ref st, pv, .ref g, .int c] ∧ Rep [st] H pv x.d ∧ x.ok c ∧ Strm st l H ∧ H g = some (.lst gs) ∧ g ≠ st ∧ Reps [st] H gs ds ∧ isNms c ds ps ∧ gs.length ≤ 60 ∧ 0 < c ∧ c ≤ 4 ∧ ∀ (H' : Hp) (v : V) (r : Row), But [st] H H' → Strm st l H' → Rep [st] H' v r.d → r.ok c → r.word = x.w → Q v H'
theorem ok_law_row (T : Txt K mg A) : FnOk P w K mg base CX0 5 A.f_law_row A.d_law_row ["stream", "plan", "given", "count"] (sp_law_row) := by
  refine T.F_law_row.ok sc_law_row (fun vs H Q E h => ?_) (fun cdv Ar outer s H vs Q E hr h => ?_)
  · obtain ⟨st, l, g, pl, x, c, gs, ds, ps, rfl, rp, ⟨xw, hn, hp, ho⟩, hst, hg, gst, rg, nms, few, c0, c4, k⟩ := h
    rfl
  · obtain ⟨st, l, g, pl, x, c, gs, ds, ps, rfl, rp, ⟨xw, hn, hp, ho⟩, hst, hg, gst, rg, nms, few, c0, c4, k⟩ := h
    refine ⟨_, PSs.nox ((pss_cons (ps_asg (pv 1) (pg_tup (by rfl) (pgs_cons (pg_name (i := 4) sc_law_row.nd rfl (Or.inl rfl)) (pgs_cons (pg_name (i := 5) sc_law_row.nd rfl (Or.inl rfl)) (pgs_cons (pg_name (i := 6) sc_law_row.nd rfl (Or.inl rfl)) (pgs_cons (pg_name (i := 7) sc_law_row.nd rfl (Or.inl rfl)) pgs_nil))))))
 (pss_cons (ps_if (pt_cmpR op_eq (pv 4) pe_str (nomark _)) (pss_one (ps_ret (pe_tup (pa_cons pe_str (pa_cons (pv 6) pa_nil))))) pss_nil)
 (pss_cons (ps_if (pt_cmpR op_eq (pv 4) pe_str (nomark _)) (pss_one (ps_ret (pe_tup (pa_cons pe_str pa_nil)))) pss_nil)
 (pss_cons (ps_if (pt_cmpR op_eq (pv 4) pe_str (nomark _)) (pss_one (ps_ret (pe_tup (pa_cons pe_str (pa_cons (pv 5) (pa_cons (pv 6) (pa_cons (pv 7) pa_nil))))))) pss_nil)
 (pss_cons (ps_if (pt_cmpR op_eq (pv 4) pe_str (nomark _)) (pss_cons (ps_if (pt_cmpR op_eq (pe_call (ok_law_draw T) (hr.mono (by decide)) rfl T.m_law_draw T.F_law_draw.kp (b_law_draw T) .nil pass0 (pa_cons (pv 0) (pa_cons pe_int pa_nil))) pe_int (nomark _)) (pss_one (ps_set (i := 6) sc_law_row.nd rfl (Or.inl rfl) (pe_un un_neg pe_int))) pss_nil)
 (pss_one (ps_ret (pe_tup (pa_cons pe_str (pa_cons (pv 5) (pa_cons (pv 6) (pa_cons (pe_call (ok_law_needs T) hr rfl T.m_law_needs T.F_law_needs.kp (b_law_needs T) .nil pass0 (pa_cons (pv 0) (pa_cons pe_int (pa_cons (pv 2) (pa_cons (pv 3) pa_nil))))) pa_nil)))))))) pss_nil)
 (pss_cons (ps_set (i := 8) sc_law_row.nd rfl (Or.inl rfl) (pe_cmpR op_eq (pe_call (ok_law_draw T) (hr.mono (by decide)) rfl T.m_law_draw T.F_law_draw.kp (b_law_draw T) .nil pass0 (pa_cons (pv 0) (pa_cons pe_int pa_nil))) pe_int (nomark _)))
 (pss_cons (ps_if (pt_cmpR op_eq (pv 4) pe_str (nomark _)) (pss_one (ps_ret (pe_tup (pa_cons pe_str (pa_cons (pv 5) (pa_cons (pe_call (ok_law_needs T) hr rfl T.m_law_needs T.F_law_needs.kp (b_law_needs T) .nil pass0 (pa_cons (pv 0) (pa_cons pe_int (pa_cons (pv 2) (pa_cons (pv 3) pa_nil))))) (pa_cons (pv 8) pa_nil))))))) pss_nil)
 (pss_one (ps_ret (pe_tup (pa_cons pe_str (pa_cons (pe_call (ok_law_needs T) hr rfl T.m_law_needs T.F_law_needs.kp (b_law_needs T) .nil pass0 (pa_cons (pv 0) (pa_cons pe_int (pa_cons (pv 2) (pa_cons (pv 3) pa_nil))))) (pa_cons (pv 8) pa_nil)))))))))))))), ?_⟩
    rw [show start N_law_row [.ref st, pl, .ref g, .int c] = [some (.ref st), some (pl), some (.ref g), some (.int c), none, none, none, none, none] from rfl]
    obtain ⟨wd, n, p, o⟩ := x
    obtain ⟨a, xs, rfl, ha, _, rs⟩ := rp.tupV
    have exs : xs = [.str wd, .str n, .int p, .str o] := by
      cases rs with
      | cons r1 rs => cases rs with
        | cons r2 rs => cases rs with
          | cons r3 rs => cases rs with
            | cons r4 rs => cases rs; rw [r1.strV, r2.strV, r3.intV, r4.strV]
    subst exs
    refine ⟨_, rfl, a, _, rfl, SqT.of ha, rfl, _, _, rfl, _, _, rfl, _, _, rfl, _, _, rfl, rfl, ?_⟩
    dsimp only [List.set]
    dsimp only at xw hn hp ho k
    simp only [wordsOf, List.mem_cons, List.not_mem_nil, or_false] at xw
    rcases xw with e | e | e | e | e | e <;> subst e
    · refine ⟨_, rfl, rfl, _, rfl, ?_⟩
      refine ite2 (fun c => absurd c (by decide +kernel)) (fun _ => ?_)
      refine ⟨_, rfl, rfl, _, rfl, ?_⟩
      refine ite2 (fun c => absurd c (by decide +kernel)) (fun _ => ?_)
      refine ⟨_, rfl, rfl, _, rfl, ?_⟩
      refine ite2 (fun c => absurd c (by decide +kernel)) (fun _ => ?_)
      refine ⟨_, rfl, rfl, _, rfl, ?_⟩
      refine ite2 (fun c => absurd c (by decide +kernel)) (fun _ => ?_)
      refine ⟨_, rfl, st, l, 3, rfl, hst, by decide, by decide, fun H1 u b1 s1 u0 u1 => ⟨rfl, ?_⟩⟩
      dsimp only [List.set]
      generalize decide (V.int u = V.int 0) = rk
      refine ⟨_, rfl, rfl, _, rfl, ?_⟩
      refine ite2 (fun _ => ?_) (fun c => absurd (by decide +kernel) c)
      refine ⟨_, rfl, _, rfl, _, rfl, _, rfl, st, l, g, 1, c, gs, ds, ps, rfl, by decide, s1, b1.at1 hg gst, gst, rg.mv b1, nms, few, c0, c4, fun H2 v qs b2 s2 rv oq => ⟨_, rfl, (by show 4 ≤ sizeLine; decide), fun t nt => ?_⟩⟩
      have bt : But [st] H2 (upd H2 t (.tup [.str "give", .str n, v, .bl rk])) := .new .refl nt
      exact k _ _ (.give n qs rk) ((b1.trans b2).trans bt) (s2.new nt) (.tup upd_same (fun z => s2.ne nt (List.mem_singleton.mp z)) (.cons (.str _) (.cons (.str _) (.cons (rv.mv bt) (.cons (.bl _) .nil))))) ⟨hn, oq⟩ rfl
    · refine ⟨_, rfl, rfl, _, rfl, ?_⟩
      refine ite2 (fun c => absurd c (by decide +kernel)) (fun _ => ?_)
      refine ⟨_, rfl, rfl, _, rfl, ?_⟩
      refine ite2 (fun c => absurd c (by decide +kernel)) (fun _ => ?_)
      refine ⟨_, rfl, rfl, _, rfl, ?_⟩
      refine ite2 (fun c => absurd c (by decide +kernel)) (fun _ => ?_)
      refine ⟨_, rfl, rfl, _, rfl, ?_⟩
      refine ite2 (fun c => absurd c (by decide +kernel)) (fun _ => ?_)
      refine ⟨_, rfl, st, l, 3, rfl, hst, by decide, by decide, fun H1 u b1 s1 u0 u1 => ⟨rfl, ?_⟩⟩
      dsimp only [List.set]
      generalize decide (V.int u = V.int 0) = rk
      refine ⟨_, rfl, rfl, _, rfl, ?_⟩
      refine ite2 (fun c => absurd c (by decide +kernel)) (fun _ => ?_)
      refine ⟨_, rfl, _, rfl, _, rfl, st, l, g, 2, c, gs, ds, ps, rfl, by decide, s1, b1.at1 hg gst, gst, rg.mv b1, nms, few, c0, c4, fun H2 v qs b2 s2 rv oq => ⟨_, rfl, (by show 3 ≤ sizeLine; decide), fun t nt => ?_⟩⟩
      have bt : But [st] H2 (upd H2 t (.tup [.str "show", v, .bl rk])) := .new .refl nt
      exact k _ _ (.show_ qs rk) ((b1.trans b2).trans bt) (s2.new nt) (.tup upd_same (fun z => s2.ne nt (List.mem_singleton.mp z)) (.cons (.str _) (.cons (rv.mv bt) (.cons (.bl _) .nil)))) oq rfl
    · refine ⟨_, rfl, rfl, _, rfl, ?_⟩
      refine ite2 (fun _ => ?_) (fun c => absurd (by decide +kernel) c)
      refine ⟨_, rfl, (by show 2 ≤ sizeLine; decide), fun t nt => ?_⟩
      exact k _ _ (.load p) (.new .refl nt) (hst.new nt) (.tup upd_same (fun z => hst.ne nt (List.mem_singleton.mp z)) (.cons (.str _) (.cons (.int _) .nil))) hp rfl
    · refine ⟨_, rfl, rfl, _, rfl, ?_⟩
      refine ite2 (fun c => absurd c (by decide +kernel)) (fun _ => ?_)
      refine ⟨_, rfl, rfl, _, rfl, ?_⟩
      refine ite2 (fun c => absurd c (by decide +kernel)) (fun _ => ?_)
      refine ⟨_, rfl, rfl, _, rfl, ?_⟩
      refine ite2 (fun _ => ?_) (fun c => absurd (by decide +kernel) c)
      refine ⟨_, rfl, _, rfl, _, rfl, (by show 4 ≤ sizeLine; decide), fun t nt => ?_⟩
      exact k _ _ (.pass n p o) (.new .refl nt) (hst.new nt) (.tup upd_same (fun z => hst.ne nt (List.mem_singleton.mp z)) (.cons (.str _) (.cons (.str _) (.cons (.int _) (.cons (.str _) .nil))))) ⟨hn, hp, ho⟩ rfl
    · refine ⟨_, rfl, rfl, _, rfl, ?_⟩
      refine ite2 (fun c => absurd c (by decide +kernel)) (fun _ => ?_)
      refine ⟨_, rfl, rfl, _, rfl, ?_⟩
      refine ite2 (fun c => absurd c (by decide +kernel)) (fun _ => ?_)
      refine ⟨_, rfl, rfl, _, rfl, ?_⟩
      refine ite2 (fun c => absurd c (by decide +kernel)) (fun _ => ?_)
      refine ⟨_, rfl, rfl, _, rfl, ?_⟩
      refine ite2 (fun _ => ?_) (fun c => absurd (by decide +kernel) c)
      refine ⟨_, rfl, st, l, 3, rfl, hst, by decide, by decide, fun H1 u b1 s1 u0 u1 => ⟨rfl, _, rfl, ?_⟩⟩
      have late_ : ∀ pp : Int, -1 ≤ pp ∧ pp < c → tRet (tTup (tCons (tC (.str "late")) (tCons (tVar 5) (tCons (tVar 6) (tCons (tCall sp_law_needs [] E0 (tCons (tVar 0) (tCons (tC (.int 2)) (tCons (tVar 2) (tCons (tVar 3) tNil))))) tNil))))) { nx := fun _ H' => Q .non H', rt := Q } [some (.ref st), some (.ref a), some (.ref g), some (.int c), some (.str "late"), some (.str n), some (.int pp), some (.str o), none] H1 := by
        intro pp hpp
        refine ⟨_, rfl, _, rfl, _, rfl, _, rfl, _, rfl, st, l, g, 2, c, gs, ds, ps, rfl, by decide, s1, b1.at1 hg gst, gst, rg.mv b1, nms, few, c0, c4, fun H2 v qs b2 s2 rv oq => ⟨(by show 4 ≤ sizeLine; decide), fun t nt => ?_⟩⟩
        have bt : But [st] H2 (upd H2 t (.tup [.str "late", .str n, .int pp, v])) := .new .refl nt
        exact k _ _ (.late n pp qs) ((b1.trans b2).trans bt) (s2.new nt) (.tup upd_same (fun z => s2.ne nt (List.mem_singleton.mp z)) (.cons (.str _) (.cons (.str _) (.cons (.int _) (.cons (rv.mv bt) .nil))))) ⟨hn, hpp, oq⟩ rfl
      refine ite2 (fun c => ?_) (fun c => ?_)
      · exact ⟨_, rfl, late_ (-1) ⟨by omega, by omega⟩⟩
      · exact late_ p ⟨by omega, hp.2⟩
    · refine ⟨_, rfl, rfl, _, rfl, ?_⟩
      refine ite2 (fun c => absurd c (by decide +kernel)) (fun _ => ?_)
      refine ⟨_, rfl, rfl, _, rfl, ?_⟩
      refine ite2 (fun _ => ?_) (fun c => absurd (by decide +kernel) c)
      refine ⟨(by show 1 ≤ sizeLine; decide), fun t nt => ?_⟩
      exact k _ _ .out (.new .refl nt) (hst.new nt) (.tup upd_same (fun z => hst.ne nt (List.mem_singleton.mp z)) (.cons (.str _) .nil)) trivial rfl
def sp_law_plans : Sp := fun vs H Q _ => ∃ (st l : Addr) (c : Int), vs = [.ref st, .int c] ∧ Strm st l H ∧ 0 < c ∧ c ≤ 4 ∧ ∀ (H' : Hp) (v : V) (ls : List (List Plan)), But [st] H H' → Strm st l H' → Rep [st] H' v (.list (ls.map lineD)) → LinesOk c ls → (ls.length : Int) = c → Q v H'
theorem ok_law_plans (T : Txt K mg A) : FnOk P w K mg base CX0 3 A.f_law_plans A.d_law_plans ["stream", "count"] (sp_law_plans) := by
  refine T.F_law_plans.ok sc_law_plans (fun vs H Q E h => ?_) (fun cdv Ar outer s H vs Q E hr h => ?_)
  · obtain ⟨st, l, c, rfl, hst, c0, c4, k⟩ := h
    rfl
  · obtain ⟨st, l, c, rfl, hst, c0, c4, k⟩ := h
    refine ⟨_, PSs.nox ((pss_cons (ps_set (i := 2) sc_law_plans.nd rfl (Or.inl rfl) (pe_slice sl_str pe_str po_none (po_some (pe_op op_add pe_int (pe_call (ok_law_draw T) hr rfl T.m_law_draw T.F_law_draw.kp (b_law_draw T) .nil pass0 (pa_cons (pv 0) (pa_cons pe_int pa_nil)))))))
 (pss_cons (ps_set (i := 3) sc_law_plans.nd rfl (Or.inl rfl) (pe_lst (pa_cons pe_str (pa_cons pe_str (pa_cons pe_str (pa_cons pe_str (pa_cons pe_str (pa_cons pe_str (pa_cons pe_str (pa_cons pe_str (pa_cons pe_str pa_nil)))))))))))
 (pss_cons (ps_set (i := 3) sc_law_plans.nd rfl (Or.inl rfl) (pe_op op_cat (pv 3) (pe_lst (pa_cons pe_str (pa_cons pe_str (pa_cons pe_str (pa_cons pe_str (pa_cons pe_str (pa_cons pe_str (pa_cons pe_str (pa_cons pe_str pa_nil)))))))))))
 (pss_cons (ps_set (i := 4) sc_law_plans.nd rfl (Or.inl rfl) (pe_lst pa_nil))
 (pss_cons (ps_set (i := 5) sc_law_plans.nd rfl (Or.inl rfl) pe_int)
 (pss_cons (ps_set (i := 6) sc_law_plans.nd rfl (Or.inl rfl) pe_int)
 (pss_cons (ps_for PassesOwn.never rfl (pi_range1 (by rfl) T.zrange (pa_cons (pv 1) pa_nil)) (pg_name (i := 7) sc_law_plans.nd rfl (Or.inl rfl)) (pss_cons (ps_set (i := 8) sc_law_plans.nd rfl (Or.inl rfl) (pe_lst pa_nil))
 (pss_cons (ps_for PassesOwn.never rfl (pi_range1 (by rfl) T.zrange (pa_cons (pe_callB (call_min2 rfl) (by rfl) T.zmin (by decide +kernel) (pa_cons (pv 5) (pa_cons (pe_call (ok_law_draw T) hr rfl T.m_law_draw T.F_law_draw.kp (b_law_draw T) .nil pass0 (pa_cons (pv 0) (pa_cons pe_int pa_nil))) pa_nil))) pa_nil)) (pg_name (i := 9) sc_law_plans.nd rfl (Or.inl rfl)) (pss_cons (ps_set (i := 10) sc_law_plans.nd rfl (Or.inl rfl) (pe_ix ix_list (pv 3) (pe_call (ok_law_draw T) hr rfl T.m_law_draw T.F_law_draw.kp (b_law_draw T) .nil pass0 (pa_cons (pv 0) (pa_cons pe_int pa_nil))) (fun _ _ => rfl)))
 (pss_cons (ps_if (pt_cmpR op_eq (pv 10) pe_str (nomark _)) (pss_cons (ps_set (i := 6) sc_law_plans.nd rfl (Or.inl rfl) (pe_op op_add (pv 6) pe_int))
 (pss_one (ps_if (pt_cmpR op_gt (pv 6) pe_int (nomark _)) (pss_one (ps_set (i := 10) sc_law_plans.nd rfl (Or.inl rfl) pe_str)) pss_nil))) pss_nil)
 (pss_cons (ps_set (i := 11) sc_law_plans.nd rfl (Or.inl rfl) (pe_ix ix_str (pv 2) (pe_call (ok_law_draw T) hr rfl T.m_law_draw T.F_law_draw.kp (b_law_draw T) .nil pass0 (pa_cons (pv 0) (pa_cons (pe_callB call_len_str (by rfl) T.zlen (by decide +kernel) (pa_cons (pv 2) pa_nil)) pa_nil))) (fun _ _ => rfl)))
 (pss_cons (ps_set (i := 12) sc_law_plans.nd rfl (Or.inl rfl) (pe_call (ok_law_draw T) hr rfl T.m_law_draw T.F_law_draw.kp (b_law_draw T) .nil pass0 (pa_cons (pv 0) (pa_cons (pv 1) pa_nil))))
 (pss_one (ps_expr (pe_bm PySem.F.plainAttrs_list PySem.F.slot_list_append PySem.F.type_list_append mt_append (pv 8) (pa_cons (pe_tup (pa_cons (pv 10) (pa_cons (pv 11) (pa_cons (pv 12) (pa_cons (pe_ix ix_str (pv 2) (pe_call (ok_law_draw T) hr rfl T.m_law_draw T.F_law_draw.kp (b_law_draw T) .nil pass0 (pa_cons (pv 0) (pa_cons (pe_callB call_len_str (by rfl) T.zlen (by decide +kernel) (pa_cons (pv 2) pa_nil)) pa_nil))) (fun _ _ => rfl)) pa_nil))))) pa_nil)))))))))
 (pss_cons (ps_set (i := 5) sc_law_plans.nd rfl (Or.inl rfl) (pe_op op_sub (pv 5) (pe_callB call_len_seq (by rfl) T.zlen (by decide +kernel) (pa_cons (pv 8) pa_nil))))
 (pss_one (ps_expr (pe_bm PySem.F.plainAttrs_list PySem.F.slot_list_append PySem.F.type_list_append mt_append (pv 4) (pa_cons (pv 8) pa_nil))))))))
 (pss_one (ps_ret (pv 4))))))))))), ?_⟩
    rw [show start N_law_plans [.ref st, .int c] = [some (.ref st), some (.int c), none, none, none, none, none, none, none, none, none, none, none] from rfl]
    refine ⟨_, rfl, st, l, 4, rfl, hst, by decide, by decide, fun H1 v b1 s1 v0 v1 => ⟨_, _, rfl, rfl, _, rfl, _, rfl, by decide +kernel, ?_⟩⟩
    obtain ⟨z, ez, zl, zat⟩ := names_cut v0 v1
    have zs : z.length ≤ sizeLine := by rw [sizeLine_eq]; omega
    rw [ez]
    refine ⟨(by show 9 ≤ sizeLine; decide), fun w1 nw1 => ⟨_, rfl, (by show 8 ≤ sizeLine; decide), fun w2 nw2 => ⟨w1, w2, _, _, rfl, rfl, by rw [upd_ne (ne_of_none upd_same nw2)]; exact upd_same, upd_same, (by show 17 ≤ sizeLine; decide), fun w3 nw3 => ⟨Nat.zero_le _, fun pl npl => ?_⟩⟩⟩⟩
    have sW := ((s1.new (o := .lst [.str "give", .str "show", .str "load", .str "pass", .str "late", .str "out", .str "give", .str "show", .str "load"]) nw1).new (o := .lst [.str "pass", .str "late", .str "out", .str "give", .str "show", .str "load", .str "pass", .str "give"]) nw2).new (o := .lst (words17.map V.str)) nw3
    have sP := sW.new (o := .lst []) npl
    have bP : But [st] H1 _ := (((But.refl.new (o := .lst [.str "give", .str "show", .str "load", .str "pass", .str "late", .str "out", .str "give", .str "show", .str "load"]) nw1).new (o := .lst [.str "pass", .str "late", .str "out", .str "give", .str "show", .str "load", .str "pass", .str "give"]) nw2).new (o := .lst (words17.map V.str)) nw3).new (o := .lst []) npl
    have plst : pl ≠ st := sW.ne npl
    have pll : pl ≠ l := sW.ne2 npl
    have npl1 : H1 pl = none := by
      rcases Classical.em (H1 pl = none) with e | e
      · exact e
      · obtain ⟨o, ho⟩ := Option.ne_none_iff_exists'.mp e
        rw [((same_new nw1).trans ((same_new nw2).trans (same_new nw3))) _ _ ho] at npl
        exact nomatch npl
    have wst : w3 ≠ st := ((s1.new nw1).new nw2).ne nw3
    have wpl : w3 ≠ pl := ne_of_none upd_same npl
    refine ⟨_, rfl, c, rfl, by omega, by omega, for_range (lo := 0) (n := c.toNat) (fun i σ H' => ∃ (pls : List V) (ls : List (List Plan)) (outs : Int) (o7 o8 o9 o10 o11 o12 : Option V), σ = [some (.ref st), some (.int c), some (.str z), some (.ref w3), some (.ref pl), some (.int (12 - (totalOf ls : Int))), some (.int outs), o7, o8, o9, o10, o11, o12] ∧
      But [st] H1 H' ∧ Strm st l H' ∧ H' w3 = some (.lst (words17.map V.str)) ∧ H' pl = some (.lst pls) ∧ Reps [pl, st] H' pls (ls.map lineD) ∧ LinesOk c ls ∧ ls.length = i ∧ 0 ≤ outs ∧ ((outs ≤ 2 → (outsOf ls : Int) = outs) ∧ (2 < outs → (outsOf ls : Int) = 2))) ?_ ?_ ?_⟩
    · exact ⟨[], [], 0, _, _, _, _, _, _, rfl, bP, sP, by rw [upd_ne wpl]; exact upd_same, upd_same, .nil, ⟨fun _ m => (nomatch m), fun _ m => (nomatch m), Nat.zero_le _, Nat.zero_le _⟩, rfl, by omega, fun _ => rfl, fun m => by omega⟩
    · rintro i σ H' hi ⟨pls, ls, outs, o7, o8, o9, o10, o11, o12, rfl, b2, s2, hw2, hpl2, pr2, lok, li, o0, oi⟩
      refine ⟨Nat.zero_le _, fun ln nln => ?_⟩
      have lnst := s2.ne nln
      have lnl := s2.ne2 nln
      have lnpl : ln ≠ pl := (ne_of_none hpl2 nln).symm
      have lnw : ln ≠ w3 := (ne_of_none hw2 nln).symm
      have nln1 : H1 ln = none := by
        rcases Classical.em (H1 ln = none) with e | e
        · exact e
        · obtain ⟨o, ho⟩ := Option.ne_none_iff_exists'.mp e
          rw [b2.at1 ho lnst] at nln
          exact nomatch nln
      refine ⟨_, rfl, _, rfl, st, l, 6, rfl, s2.new nln, by decide, by decide, fun H3 u b3 s3 u0 u1 => ⟨_, _, rfl, ?_⟩⟩
      have tot := lok.total
      have mm : ∃ m : Nat, (if u < 12 - (totalOf ls : Int) then u else 12 - (totalOf ls : Int)) = (m : Int) ∧ m ≤ 5 ∧ totalOf ls + m ≤ 12 := by
        by_cases q : u < 12 - (totalOf ls : Int)
        · rw [if_pos q]
          exact ⟨u.toNat, by omega, by omega, by omega⟩
        · rw [if_neg q]
          exact ⟨12 - totalOf ls, by omega, by omega, by omega⟩
      obtain ⟨m, em, m5, m12⟩ := mm
      rw [em]
      have hln3 : H3 ln = some (.lst []) := b3.at1 upd_same lnst
      have hpl3 : H3 pl = some (.lst pls) := b3.at1 (by rw [upd_ne lnpl.symm]; exact hpl2) plst
      have hw3 : H3 w3 = some (.lst (words17.map V.str)) := b3.at1 (by rw [upd_ne lnw.symm]; exact hw2) wst
      have b13 : But [st] H1 H3 := (b2.new nln).trans b3
      have bx : But [pl, st] H' H3 := (But.refl.new nln).trans (b3.mono fun x q => List.mem_cons_of_mem _ q)
      have pr3 : Reps [ln, pl, st] H3 pls (ls.map lineD) := ((Reps.more nln _ _ pr2).mv (.of (same_new nln))).mv (b3.mono fun x q => List.mem_cons_of_mem _ (List.mem_cons_of_mem _ q))
      refine ⟨(m : Int), rfl, by omega, by omega, for_range (lo := 0) (n := ((m : Int)).toNat) (fun j σ H4 => ∃ (acc : List V) (xs : List Plan) (outs : Int) (o9 o10 o11 o12 : Option V), σ = [some (.ref st), some (.int c), some (.str z), some (.ref w3), some (.ref pl), some (.int (12 - (totalOf ls : Int))), some (.int outs), some (.int (0 + (i : Int))), some (.ref ln), o9, o10, o11, o12] ∧
        But [st] H1 H4 ∧ Strm st l H4 ∧ H4 w3 = some (.lst (words17.map V.str)) ∧ H4 pl = some (.lst pls) ∧ Reps [ln, pl, st] H4 pls (ls.map lineD) ∧ H4 ln = some (.lst acc) ∧ Reps [ln, pl, st] H4 acc (xs.map Plan.d) ∧ xs.length = j ∧ (∀ x ∈ xs, x.ok c) ∧ 0 ≤ outs ∧ ((outs ≤ 2 → ((outsOf ls + outsIn xs : Nat) : Int) = outs) ∧ (2 < outs → ((outsOf ls + outsIn xs : Nat) : Int) = 2))) ?_ ?_ ?_⟩
      · exact ⟨[], [], outs, _, _, _, _, rfl, b13, s3, hw3, hpl3, pr3, hln3, .nil, rfl, fun _ q => (nomatch q), o0, oi⟩
      · rintro j σ H4' hj ⟨acc, xs, outs, o9, o10, o11, o12, rfl, b4, s4', hw4', hpl4', pr4', hln4', ra4', xl, xo, oo, ooi⟩
        refine ⟨_, rfl, _, rfl, st, l, 17, rfl, s4', by decide, by decide, fun H4 u4 bb s4 u40 u41 => ?_⟩
        have hw4 := bb.at1 hw4' wst
        have hpl4 := bb.at1 hpl4' plst
        have hln4 := bb.at1 hln4' lnst
        have bbm : But [ln, pl, st] H4' H4 := bb.mono fun x q => List.mem_cons_of_mem _ (List.mem_cons_of_mem _ q)
        have pr4 := pr4'.mv bbm
        have ra4 := ra4'.mv bbm
        have b14 := b4.trans bb
        have lacc : acc.length = xs.length := by rw [ra4.length, List.length_map]
        have j6 : j < 6 := by
          have : j < (m : Int).toNat := hj
          omega
        obtain ⟨wd, atw, wok⟩ := word_at u40 u41
        refine ⟨w3, _, u4, _, rfl, rfl, SqL.of hw4, atw, ?_⟩
        refine ⟨_, rfl, rfl, _, rfl, ?_⟩
        refine ite2 (fun q => ?_) (fun q => ?_)
        · have ew : wd = "out" := by simpa using q
          refine ⟨_, rfl, _, _, rfl, rfl, _, rfl, _, _, rfl, rfl, _, rfl, ?_⟩
          refine ite2 (fun q2 => ?_) (fun q2 => ?_)
          · have big : 2 < outs + 1 := of_decide_eq_true q2
            replace wok : ("load" : Str) ∈ wordsOf := by decide +kernel
            refine ⟨_, rfl, _, rfl, _, rfl, z, rfl, zs, st, l, _, rfl, s4, by omega, (by omega), fun H5 u5 b5 s5 u50 u51 => ?_⟩
            obtain ⟨ch1, at1, mem1⟩ := zat u5 u50 (by omega)
            refine ⟨z, u5, ch1, rfl, rfl, zs, at1, ?_⟩
            refine ⟨_, rfl, _, rfl, st, l, c, rfl, s5, c0, by omega, fun H6 u6 b6 s6 u60 u61 => ?_⟩
            have b46 := b5.trans b6
            have hln6 := b46.at1 hln4 lnst
            refine ⟨_, rfl, .inl ⟨rfl, _, SqL.of hln6⟩, ?_⟩
            refine ⟨_, rfl, _, rfl, _, rfl, _, rfl, _, rfl, _, rfl, z, rfl, zs, st, l, _, rfl, s6, by omega, (by omega), fun H7 u7 b7 s7 u70 u71 => ?_⟩
            obtain ⟨ch2, at2, mem2⟩ := zat u7 u70 (by omega)
            refine ⟨z, u7, ch2, rfl, rfl, zs, at2, (by show 4 ≤ sizeLine; decide), fun t nt => ?_⟩
            have hln7 := b7.at1 hln6 lnst
            have tln : t ≠ ln := (ne_of_none hln7 nt).symm
            refine ⟨ln, acc, .ref t, rfl, rfl, by rw [upd_ne tln.symm]; exact hln7, by rw [lacc, xl, sizeLine_eq]; omega, ?_⟩
            have b47 := b46.trans b7
            have hpl7 := b47.at1 hpl4 plst
            have hw7 := b47.at1 hw4 wst
            have bw : But [ln, pl, st] H4 (upd (upd H7 t (.tup [.str "load", .str ⟨#[ch1]⟩, .int u6, .str ⟨#[ch2]⟩])) ln (.lst (acc ++ [.ref t]))) := ((b47.mono fun x m => List.mem_cons_of_mem _ (List.mem_cons_of_mem _ m)).new nt).upd List.mem_cons_self
            refine ⟨acc ++ [.ref t], xs ++ [⟨"load", ⟨#[ch1]⟩, u6, ⟨#[ch2]⟩⟩], outs + 1, _, _, _, _, rfl, ?_, (s7.new nt).away lnst lnl, ?_, ?_, pr4.mv bw, upd_same, ?_, by rw [List.length_append, xl]; rfl, ?_, by omega, ?_⟩
            · exact (((b14.trans b47).new nt).own nln1)
            · rw [upd_ne lnw.symm, upd_ne (ne_of_none hw7 nt)]
              exact hw7
            · rw [upd_ne lnpl.symm, upd_ne (ne_of_none hpl7 nt)]
              exact hpl7
            · rw [List.map_append]
              refine (ra4.mv bw).app (.one (.tup (by rw [upd_ne tln]; exact upd_same) (fun m => ?_) (.cons (.str _) (.cons (.str _) (.cons (.int _) (.cons (.str _) .nil))))))
              rcases List.mem_cons.mp m with e | m
              · exact tln e
              · rcases List.mem_cons.mp m with e | m
                · exact ne_of_none hpl7 nt e.symm
                · exact s7.ne nt (List.mem_singleton.mp m)
            · intro x hx
              rcases List.mem_append.mp hx with e | e
              · exact xo x e
              · rw [List.mem_singleton.mp e]
                exact ⟨wok, mem1, ⟨u60, u61⟩, mem2⟩
            · rw [outsIn_snoc]
              dsimp only
              rw [if_neg (by decide +kernel)]
              refine ⟨fun f => by omega, fun _ => ?_⟩
              by_cases f : 2 < outs
              · have := ooi.2 f
                omega
              · have := ooi.1 (by omega)
                omega
          · have few : ¬ 2 < outs + 1 := fun f => q2 (decide_eq_true f)
            refine ⟨_, rfl, _, rfl, _, rfl, z, rfl, zs, st, l, _, rfl, s4, by omega, (by omega), fun H5 u5 b5 s5 u50 u51 => ?_⟩
            obtain ⟨ch1, at1, mem1⟩ := zat u5 u50 (by omega)
            refine ⟨z, u5, ch1, rfl, rfl, zs, at1, ?_⟩
            refine ⟨_, rfl, _, rfl, st, l, c, rfl, s5, c0, by omega, fun H6 u6 b6 s6 u60 u61 => ?_⟩
            have b46 := b5.trans b6
            have hln6 := b46.at1 hln4 lnst
            refine ⟨_, rfl, .inl ⟨rfl, _, SqL.of hln6⟩, ?_⟩
            refine ⟨_, rfl, _, rfl, _, rfl, _, rfl, _, rfl, _, rfl, z, rfl, zs, st, l, _, rfl, s6, by omega, (by omega), fun H7 u7 b7 s7 u70 u71 => ?_⟩
            obtain ⟨ch2, at2, mem2⟩ := zat u7 u70 (by omega)
            refine ⟨z, u7, ch2, rfl, rfl, zs, at2, (by show 4 ≤ sizeLine; decide), fun t nt => ?_⟩
            have hln7 := b7.at1 hln6 lnst
            have tln : t ≠ ln := (ne_of_none hln7 nt).symm
            refine ⟨ln, acc, .ref t, rfl, rfl, by rw [upd_ne tln.symm]; exact hln7, by rw [lacc, xl, sizeLine_eq]; omega, ?_⟩
            have b47 := b46.trans b7
            have hpl7 := b47.at1 hpl4 plst
            have hw7 := b47.at1 hw4 wst
            have bw : But [ln, pl, st] H4 (upd (upd H7 t (.tup [.str wd, .str ⟨#[ch1]⟩, .int u6, .str ⟨#[ch2]⟩])) ln (.lst (acc ++ [.ref t]))) := ((b47.mono fun x m => List.mem_cons_of_mem _ (List.mem_cons_of_mem _ m)).new nt).upd List.mem_cons_self
            refine ⟨acc ++ [.ref t], xs ++ [⟨wd, ⟨#[ch1]⟩, u6, ⟨#[ch2]⟩⟩], outs + 1, _, _, _, _, rfl, ?_, (s7.new nt).away lnst lnl, ?_, ?_, pr4.mv bw, upd_same, ?_, by rw [List.length_append, xl]; rfl, ?_, by omega, ?_⟩
            · exact (((b14.trans b47).new nt).own nln1)
            · rw [upd_ne lnw.symm, upd_ne (ne_of_none hw7 nt)]
              exact hw7
            · rw [upd_ne lnpl.symm, upd_ne (ne_of_none hpl7 nt)]
              exact hpl7
            · rw [List.map_append]
              refine (ra4.mv bw).app (.one (.tup (by rw [upd_ne tln]; exact upd_same) (fun m => ?_) (.cons (.str _) (.cons (.str _) (.cons (.int _) (.cons (.str _) .nil))))))
              rcases List.mem_cons.mp m with e | m
              · exact tln e
              · rcases List.mem_cons.mp m with e | m
                · exact ne_of_none hpl7 nt e.symm
                · exact s7.ne nt (List.mem_singleton.mp m)
            · intro x hx
              rcases List.mem_append.mp hx with e | e
              · exact xo x e
              · rw [List.mem_singleton.mp e]
                exact ⟨wok, mem1, ⟨u60, u61⟩, mem2⟩
            · rw [outsIn_snoc]
              dsimp only
              rw [if_pos ew]
              refine ⟨fun f => ?_, fun f => by omega⟩
              have := ooi.1 (by omega)
              omega
        · have ew : ¬ wd = "out" := fun e => q (by simp [e])
          refine ⟨_, rfl, _, rfl, _, rfl, z, rfl, zs, st, l, _, rfl, s4, by omega, (by omega), fun H5 u5 b5 s5 u50 u51 => ?_⟩
          obtain ⟨ch1, at1, mem1⟩ := zat u5 u50 (by omega)
          refine ⟨z, u5, ch1, rfl, rfl, zs, at1, ?_⟩
          refine ⟨_, rfl, _, rfl, st, l, c, rfl, s5, c0, by omega, fun H6 u6 b6 s6 u60 u61 => ?_⟩
          have b46 := b5.trans b6
          have hln6 := b46.at1 hln4 lnst
          refine ⟨_, rfl, .inl ⟨rfl, _, SqL.of hln6⟩, ?_⟩
          refine ⟨_, rfl, _, rfl, _, rfl, _, rfl, _, rfl, _, rfl, z, rfl, zs, st, l, _, rfl, s6, by omega, (by omega), fun H7 u7 b7 s7 u70 u71 => ?_⟩
          obtain ⟨ch2, at2, mem2⟩ := zat u7 u70 (by omega)
          refine ⟨z, u7, ch2, rfl, rfl, zs, at2, (by show 4 ≤ sizeLine; decide), fun t nt => ?_⟩
          have hln7 := b7.at1 hln6 lnst
          have tln : t ≠ ln := (ne_of_none hln7 nt).symm
          refine ⟨ln, acc, .ref t, rfl, rfl, by rw [upd_ne tln.symm]; exact hln7, by rw [lacc, xl, sizeLine_eq]; omega, ?_⟩
          have b47 := b46.trans b7
          have hpl7 := b47.at1 hpl4 plst
          have hw7 := b47.at1 hw4 wst
          have bw : But [ln, pl, st] H4 (upd (upd H7 t (.tup [.str wd, .str ⟨#[ch1]⟩, .int u6, .str ⟨#[ch2]⟩])) ln (.lst (acc ++ [.ref t]))) := ((b47.mono fun x m => List.mem_cons_of_mem _ (List.mem_cons_of_mem _ m)).new nt).upd List.mem_cons_self
          refine ⟨acc ++ [.ref t], xs ++ [⟨wd, ⟨#[ch1]⟩, u6, ⟨#[ch2]⟩⟩], outs, _, _, _, _, rfl, ?_, (s7.new nt).away lnst lnl, ?_, ?_, pr4.mv bw, upd_same, ?_, by rw [List.length_append, xl]; rfl, ?_, by omega, ?_⟩
          · exact (((b14.trans b47).new nt).own nln1)
          · rw [upd_ne lnw.symm, upd_ne (ne_of_none hw7 nt)]
            exact hw7
          · rw [upd_ne lnpl.symm, upd_ne (ne_of_none hpl7 nt)]
            exact hpl7
          · rw [List.map_append]
            refine (ra4.mv bw).app (.one (.tup (by rw [upd_ne tln]; exact upd_same) (fun m => ?_) (.cons (.str _) (.cons (.str _) (.cons (.int _) (.cons (.str _) .nil))))))
            rcases List.mem_cons.mp m with e | m
            · exact tln e
            · rcases List.mem_cons.mp m with e | m
              · exact ne_of_none hpl7 nt e.symm
              · exact s7.ne nt (List.mem_singleton.mp m)
          · intro x hx
            rcases List.mem_append.mp hx with e | e
            · exact xo x e
            · rw [List.mem_singleton.mp e]
              exact ⟨wok, mem1, ⟨u60, u61⟩, mem2⟩
          · rw [outsIn_snoc]
            dsimp only
            rw [if_neg ew]
            exact ooi
      · rintro σ H4 ⟨acc, xs, outs, o9, o10, o11, o12, rfl, b4, s4, hw4, hpl4, pr4, hln4, ra4, xl, xo, oo, ooi⟩
        have xm : xs.length = m := by
          rw [xl]
          exact Int.toNat_natCast m
        have lacc : acc.length = xs.length := by rw [ra4.length, List.length_map]
        have lpls : pls.length = ls.length := by rw [pr4.length, List.length_map]
        refine ⟨_, rfl, _, rfl, ln, acc, rfl, .inl (SqL.of hln4), _, _, rfl, rfl, ?_⟩
        refine ⟨_, rfl, .inl ⟨rfl, _, SqL.of hpl4⟩, _, rfl, pl, pls, _, rfl, rfl, hpl4, by rw [lpls, li, sizeLine_eq]; omega, ?_⟩
        have bw : But [pl, st] H4 (upd H4 pl (.lst (pls ++ [.ref ln]))) := But.refl.upd List.mem_cons_self
        have lt := total_snoc ls xs
        have lo := outs_snoc ls xs
        refine ⟨pls ++ [.ref ln], ls ++ [xs], outs, some (.int (0 + (i : Int))), some (.ref ln), o9, o10, o11, o12, ?_, b4.own npl1, s4.away plst pll, by rw [upd_ne wpl]; exact hw4, upd_same, ?_, ⟨fun y hy => ?_, fun y hy => ?_, by omega, ?_⟩, by rw [List.length_append, li]; rfl, oo, ?_⟩
        · rw [lt]
          dsimp only [List.set]
          rw [show (12 - (totalOf ls : Int)) - (acc.length : Int) = 12 - ((totalOf ls + xs.length : Nat) : Int) by rw [lacc]; omega]
        · rw [List.map_append]
          refine ((pr4.less fun a q => List.mem_cons_of_mem _ q).mv bw).app (.one (.lst (by rw [upd_ne lnpl]; exact hln4) (fun q => ?_) ((ra4.less fun a q => List.mem_cons_of_mem _ q).mv bw)))
          rcases List.mem_cons.mp q with e | q
          · exact lnpl e
          · exact lnst (List.mem_singleton.mp q)
        · rcases List.mem_append.mp hy with e | e
          · exact lok.five y e
          · rw [List.mem_singleton.mp e, xm]
            exact m5
        · rcases List.mem_append.mp hy with e | e
          · exact lok.ok y e
          · rw [List.mem_singleton.mp e]
            exact xo
        · rw [lo]
          by_cases f : 2 < outs
          · have := ooi.2 f
            omega
          · have := ooi.1 (by omega)
            omega
        · rw [lo]
          exact ooi
    · rintro σ H' ⟨pls, ls, outs, o7, o8, o9, o10, o11, o12, rfl, b2, s2, hw2, hpl2, pr2, lok, li, o0, oi⟩
      refine ⟨_, rfl, k _ _ ls (b1.trans b2) s2 (.lst hpl2 (fun q => plst (List.mem_singleton.mp q)) (pr2.less fun a q => List.mem_cons_of_mem _ q)) lok ?_⟩
      rw [li]
      omega
def sp_law_program : Sp := fun vs H Q _ => ∃ (st l : Addr), vs = [.ref st] ∧ Strm st l H ∧ ∀ (H' : Hp) (v : V) (P : Prog), But [st] H H' → Strm st l H' → Rep [st] H' v P.d → P.Ok → Q v H'
theorem ok_law_program (T : Txt K mg A) : FnOk P w K mg base CX0 6 A.f_law_program A.d_law_program ["stream"] (sp_law_program) := by
  refine T.F_law_program.ok sc_law_program (fun vs H Q E h => ?_) (fun cdv Ar outer s H vs Q E hr h => ?_)
  · obtain ⟨st, l, rfl, hst, k⟩ := h
    rfl
  · obtain ⟨st, l, rfl, hst, k⟩ := h
    refine ⟨_, PSs.nox ((pss_cons (ps_set (i := 1) sc_law_program.nd rfl (Or.inr rfl) (pe_op op_add pe_int (pe_call (ok_law_draw T) (hr.mono (by decide)) rfl T.m_law_draw T.F_law_draw.kp (b_law_draw T) .nil pass0 (pa_cons (pv 0) (pa_cons pe_int pa_nil)))))
 (pss_cons (ps_set (i := 2) sc_law_program.nd rfl (Or.inl rfl) (pe_call (ok_law_plans T) (hr.mono (by decide)) rfl T.m_law_plans T.F_law_plans.kp (b_law_plans T) .nil pass0 (pa_cons (pv 0) (pa_cons (pv 1) pa_nil))))
 (pss_cons (ps_set (i := 3) sc_law_program.nd rfl (Or.inr rfl) (pe_lst pa_nil))
 (pss_cons (ps_for PassesOwn.never rfl (pi_range1 (by rfl) T.zrange (pa_cons (pv 1) pa_nil)) (pg_name (i := 4) sc_law_program.nd rfl (Or.inl rfl)) (pss_one (ps_for PassesOwn.never rfl (pi_list (pe_ix ix_list (pv 2) (pv 4) (fun _ _ => rfl))) (pg_name (i := 5) sc_law_program.nd rfl (Or.inl rfl)) (pss_one (ps_if (pt_cmpR op_in_seq (pe_ix ix_tup (pv 5) pe_int (fun _ _ => rfl)) (pe_lst (pa_cons pe_str (pa_cons pe_str (pa_cons pe_str pa_nil)))) rfl) (pss_one (ps_expr (pe_bm PySem.F.plainAttrs_list PySem.F.slot_list_append PySem.F.type_list_append mt_append (pv 3) (pa_cons (pe_tup (pa_cons (pv 4) (pa_cons (pe_ix ix_tup (pv 5) pe_int (fun _ _ => rfl)) pa_nil))) pa_nil)))) pss_nil)))))
 (pss_cons (ps_set (i := 6) sc_law_program.nd rfl (Or.inl rfl) (pe_lst pa_nil))
 (pss_cons (ps_for PassesOwn.never rfl (pi_list (pv 2)) (pg_name (i := 7) sc_law_program.nd rfl (Or.inl rfl)) (pss_one (ps_expr (pe_bm PySem.F.plainAttrs_list PySem.F.slot_list_append PySem.F.type_list_append mt_append (pv 6) (pa_cons (pe_callTy call_tuple_of (by rfl) T.ztuple (by decide +kernel) (pa_cons (pe_lc (own := [("plan", 5)]) (g := (gName 5)) (tt := tYes) rfl sc_law_program.nd (pi_list (pv 7)) (blkOk_by (N := N_law_program) (sc := defScope s_law_program) (by decide +kernel)) (fun _ _ _ _ _ => (pg_name (i := 5) sc_law_program.nd rfl (Or.inl rfl))) (fun _ _ _ _ _ => pts_nil) (fun _ _ _ _ _ => (pe_call (ok_law_row T) hr rfl T.m_law_row T.F_law_row.kp (b_law_row T) .nil pass0 (pa_cons (pv 0) (pa_cons (pv 5) (pa_cons (pv 3) (pa_cons (pv 1) pa_nil))))))) pa_nil)) pa_nil)))))
 (pss_cons (ps_set (i := 8) sc_law_program.nd rfl (Or.inl rfl) (pe_callTy call_tuple_of (by rfl) T.ztuple (by decide +kernel) (pa_cons (pe_lc (own := [("part", 4)]) (g := (gName 4)) (tt := tYes) rfl sc_law_program.nd (pi_range1 (by rfl) T.zrange (pa_cons (pv 1) pa_nil)) (blkOk_by (N := N_law_program) (sc := defScope s_law_program) (by decide +kernel)) (fun _ _ _ _ _ => (pg_name (i := 4) sc_law_program.nd rfl (Or.inl rfl))) (fun _ _ _ _ _ => pts_nil) (fun _ _ _ _ _ => (pe_cmpR op_eq (pe_call (ok_law_draw T) (hr.mono (by decide)) rfl T.m_law_draw T.F_law_draw.kp (b_law_draw T) .nil pass0 (pa_cons (pv 0) (pa_cons pe_int pa_nil))) pe_int (nomark _)))) pa_nil)))
 (pss_cons (ps_setLc (i := 9) (own := [("k", 11)]) (g := (gName 11)) (tt := tYes) rfl sc_law_program.nd rfl rfl (sw_true rfl rfl rfl (by decide +kernel)) (pi_range1 (by rfl) T.zrange (pa_cons (pe_op op_add pe_int (pe_call (ok_law_draw T) (hr.mono (by decide)) rfl T.m_law_draw T.F_law_draw.kp (b_law_draw T) .nil pass0 (pa_cons (pv 0) (pa_cons pe_int pa_nil)))) pa_nil)) (blkOk_by (N := N_law_program) (sc := defScope s_law_program) (by decide +kernel)) (fun _ _ _ _ _ => (pg_name (i := 11) sc_law_program.nd rfl (Or.inl rfl))) (fun _ _ _ _ _ => pts_nil) (fun _ _ _ _ _ => (pe_call (ok_law_draw T) (hr.mono (by decide)) rfl T.m_law_draw T.F_law_draw.kp (b_law_draw T) .nil pass0 (pa_cons (pv 0) (pa_cons (pv 1) pa_nil)))))
 (pss_cons (ps_setLc (i := 10) (own := [("k", 11)]) (g := (gName 11)) (tt := tYes) rfl sc_law_program.nd rfl rfl (sw_true rfl rfl rfl (by decide +kernel)) (pi_range1 (by rfl) T.zrange (pa_cons (pe_call (ok_law_draw T) (hr.mono (by decide)) rfl T.m_law_draw T.F_law_draw.kp (b_law_draw T) .nil pass0 (pa_cons (pv 0) (pa_cons pe_int pa_nil))) pa_nil)) (blkOk_by (N := N_law_program) (sc := defScope s_law_program) (by decide +kernel)) (fun _ _ _ _ _ => (pg_name (i := 11) sc_law_program.nd rfl (Or.inl rfl))) (fun _ _ _ _ _ => pts_nil) (fun _ _ _ _ _ => (pe_call (ok_law_name T) (hr.mono (by decide)) rfl T.m_law_name T.F_law_name.kp (b_law_name T) .nil pass0 (pa_cons (pv 0) (pa_cons (pv 3) (pa_cons (pv 1) pa_nil))))))
 (pss_one (ps_ret (pe_tup (pa_cons (pe_callTy call_tuple_of (by rfl) T.ztuple (by decide +kernel) (pa_cons (pv 6) pa_nil)) (pa_cons (pv 8) (pa_cons (pe_callTy call_tuple_of (by rfl) T.ztuple (by decide +kernel) (pa_cons (pe_callB (cr_sortedSet rfl) (by rfl) T.zsorted (by decide +kernel) (pa_cons (pe_callTy (cr_setI rfl) (by rfl) T.zset (by decide +kernel) (pa_cons (pv 9) pa_nil)) pa_nil)) pa_nil)) (pa_cons (pe_callTy call_tuple_of (by rfl) T.ztuple (by decide +kernel) (pa_cons (pe_callB (cr_sortNm rfl hr.units) (by rfl) T.zsorted (by decide +kernel) (pa_cons (pe_callTy (cr_setNm rfl hr.units) (by rfl) T.zset (by decide +kernel) (pa_cons (pv 10) pa_nil)) pa_nil)) pa_nil)) pa_nil))))))))))))))))), ?_⟩
    rw [show start N_law_program [.ref st] = [some (.ref st), none, none, none, none, none, none, none, none, none, none, none] from rfl]
    refine ⟨_, rfl, st, l, 4, rfl, hst, by decide, by decide, fun H1 v b1 s1 v0 v1 => ⟨_, _, rfl, rfl, ?_⟩⟩
    dsimp only [List.set]
    have c0 : 0 < 1 + v := by omega
    have c4 : 1 + v ≤ 4 := by omega
    generalize 1 + v = c at c0 c4 ⊢
    refine ⟨_, rfl, _, rfl, st, l, c, rfl, s1, c0, c4, fun H2 pv ls b2 s2 rp lok lc => ?_⟩
    have b12 := b1.trans b2
    clear b1 b2 s1 hst
    obtain ⟨pa, pvs, rfl, hpa, pans, rpl⟩ := rp.lstV
    have past : pa ≠ st := fun z => pans (List.mem_singleton.mpr z)
    have lpv : pvs.length = ls.length := by rw [rpl.length, List.length_map]
    refine ⟨Nat.zero_le _, fun g ng => ?_⟩
    have gst : g ≠ st := s2.ne ng
    have gl : g ≠ l := s2.ne2 ng
    have gpa : g ≠ pa := (ne_of_none hpa ng).symm
    refine ⟨_, rfl, c, rfl, by omega, by omega, for_range (lo := 0) (n := c.toNat) (fun i σ H' => ∃ (gs : List V) (ps : List Nm) (o4 o5 : Option V), σ = [some (.ref st), some (.int c), some (.ref pa), some (.ref g), o4, o5, none, none, none, none, none, none] ∧
      But [g, st] (upd H2 g (.lst [])) H' ∧ Strm st l H' ∧ H' g = some (.lst gs) ∧ Reps [g, st] H' gs (ps.map nmD) ∧ (∀ p ∈ ps, nmOk c p) ∧ ps.length ≤ 5 * i) ?_ ?_ ?_⟩
    · exact ⟨[], [], _, _, rfl, .refl, s2.new ng, upd_same, .nil, fun _ z => (nomatch z), Nat.le_refl _⟩
    · rintro i σ H' hi ⟨gs, ps, o4, o5, rfl, b3, s3, hg, rg, gok, glen⟩
      have hpa3 : H' pa = some (.lst pvs) := b3 pa _ (fun z => (List.mem_cons.mp z).elim gpa.symm (fun z => past (List.mem_singleton.mp z))) (by rw [upd_ne gpa.symm]; exact hpa)
      have il : i < ls.length := by omega
      obtain ⟨xs, hxs⟩ : ∃ xs, ls[i]? = some xs := ⟨_, List.getElem?_eq_getElem il⟩
      obtain ⟨lv, hlv, rlv⟩ := rpl.at_ (i := i) (d := lineD xs) (by rw [List.getElem?_map, hxs]; rfl)
      obtain ⟨la, lvs, rfl, hla, lans, rla⟩ := rlv.lstV
      have last_ : la ≠ st := fun z => lans (List.mem_singleton.mpr z)
      have lag : la ≠ g := ne_of_none hla ng
      have keepla : ∀ {H'' : Hp}, But [g, st] (upd H2 g (.lst [])) H'' → H'' la = some (.lst lvs) ∧ Reps [g, st] H'' lvs (xs.map Plan.d) := fun bb => by
        refine ⟨bb la _ (fun z => (List.mem_cons.mp z).elim lag (fun z => last_ (List.mem_singleton.mp z))) (by rw [upd_ne lag]; exact hla), ?_⟩
        exact ((Reps.more ng _ _ rla).mv (.of (same_new ng))).mv bb
      have xm : xs ∈ ls := List.mem_of_getElem? hxs
      have at_i : atI pvs (0 + (i : Int)) = some (.ref la) := by
        rw [Int.zero_add]
        exact atI_nat hlv
      refine ⟨_, rfl, _, rfl, pa, pvs, _, _, rfl, rfl, SqL.of hpa3, at_i, la, rfl, ⟨_, SqL.of (keepla b3).1⟩, for_list (K := K) (a := la) (xs := lvs) (fun j σ H'' => ∃ (gs : List V) (ps : List Nm) (o5 : Option V), σ = [some (.ref st), some (.int c), some (.ref pa), some (.ref g), some (.int (0 + (i : Int))), o5, none, none, none, none, none, none] ∧
        But [g, st] (upd H2 g (.lst [])) H'' ∧ Strm st l H'' ∧ H'' g = some (.lst gs) ∧ Reps [g, st] H'' gs (ps.map nmD) ∧ (∀ p ∈ ps, nmOk c p) ∧ ps.length ≤ 5 * i + j) ?_ (fun j σ H'' _ q => ?_) ?_ ?_⟩
      · exact ⟨gs, ps, _, rfl, b3, s3, hg, rg, gok, glen⟩
      · obtain ⟨_, _, _, _, bb, _⟩ := q
        exact SqL.of (keepla bb).1
      · rintro j y σ H'' hj ⟨gs, ps, o5, rfl, b4, s4, hg4, rg4, gok4, glen4⟩
        obtain ⟨hla4, rla4⟩ := keepla b4
        obtain ⟨d, hd, ry⟩ := rla4.get hj
        rw [List.getElem?_map] at hd
        obtain ⟨x, hx, rfl⟩ := Option.map_eq_some_iff.mp hd
        have xok := lok.ok xs xm x (List.mem_of_getElem? hx)
        have jl : j < xs.length := (List.getElem?_eq_some_iff.mp hx).1
        have five := lok.five xs xm
        obtain ⟨ya, yvs, rfl, hya, yans, rya⟩ := Rep.tupV ry
        have exs : yvs = [.str x.w, .str x.n, .int x.p, .str x.o] := by
          cases rya with
          | cons r1 rs => cases rs with
            | cons r2 rs => cases rs with
              | cons r3 rs => cases rs with
                | cons r4 rs => cases rs; rw [r1.strV, r2.strV, r3.intV, r4.strV]
        subst exs
        refine ⟨_, rfl, ya, _, 0, _, rfl, rfl, SqT.of hya, atI_nat (j := 0) rfl, (by show 3 ≤ sizeLine; decide), fun w nw => ⟨w, _, rfl, .inl (SqL.of upd_same), rfl, rfl, _, rfl, ?_⟩⟩
        have b5 : But [g, st] (upd H2 g (.lst [])) (upd H'' w (.lst [.str "give", .str "pass", .str "late"])) := b4.new nw
        have bw : Same H'' (upd H'' w (.lst [.str "give", .str "pass", .str "late"])) := same_new nw
        have skip_ : ∃ (gs : List V) (ps : List Nm) (o5 : Option V), [some (.ref st), some (.int c), some (.ref pa), some (.ref g), some (.int (0 + (i : Int))), some (.ref ya), none, none, none, none, none, none] = [some (.ref st), some (.int c), some (.ref pa), some (.ref g), some (.int (0 + (i : Int))), o5, none, none, none, none, none, none] ∧
          But [g, st] (upd H2 g (.lst [])) (upd H'' w (.lst [.str "give", .str "pass", .str "late"])) ∧ Strm st l (upd H'' w (.lst [.str "give", .str "pass", .str "late"])) ∧ (upd H'' w (.lst [.str "give", .str "pass", .str "late"])) g = some (.lst gs) ∧ Reps [g, st] (upd H'' w (.lst [.str "give", .str "pass", .str "late"])) gs (ps.map nmD) ∧ (∀ p ∈ ps, nmOk c p) ∧ ps.length ≤ 5 * i + (j + 1) :=
          ⟨gs, ps, _, rfl, b5, s4.new nw, bw _ _ hg4, rg4.sm bw, gok4, by omega⟩
        refine ite2 (fun _ => ?_) (fun _ => skip_)
        refine ⟨_, rfl, .inl ⟨rfl, _, SqL.of (bw _ _ hg4)⟩, _, rfl, _, rfl, ya, _, 1, _, rfl, rfl, SqT.of (bw _ _ hya), atI_nat (j := 1) rfl, (by show 2 ≤ sizeLine; decide), fun t nt => ?_⟩
        have bt := bw.trans (same_new (o := .tup [.int (0 + (i : Int)), .str x.n]) nt)
        have lgs : gs.length = ps.length := by rw [rg4.length, List.length_map]
        have gt : t ≠ g := (ne_of_none (bw _ _ hg4) nt).symm
        have tst : t ≠ st := (s4.new nw).ne nt
        refine ⟨g, gs, .ref t, rfl, rfl, bt _ _ hg4, by rw [lgs, sizeLine_eq]; omega, ?_⟩
        have bu : But [g, st] H'' (upd (upd (upd H'' w (.lst [.str "give", .str "pass", .str "late"])) t (.tup [.int (0 + (i : Int)), .str x.n])) g (.lst (gs ++ [.ref t]))) := (But.of bt).upd List.mem_cons_self
        refine ⟨gs ++ [.ref t], ps ++ [(0 + (i : Int), x.n)], _, rfl, b4.trans bu, ((s4.new nw).new nt).away gst gl, upd_same, ?_, fun p hp => ?_, by rw [List.length_append]; show ps.length + 1 ≤ _; omega⟩
        · rw [List.map_append]
          exact (rg4.mv bu).app (.one (.tup (by rw [upd_ne gt]; exact upd_same) (fun z => (List.mem_cons.mp z).elim gt (fun z => tst (List.mem_singleton.mp z))) (.cons (.int _) (.cons (.str _) .nil))))
        · rcases List.mem_append.mp hp with z | z
          · exact gok4 p z
          · rw [List.mem_singleton.mp z]
            exact ⟨by show 0 ≤ 0 + (i : Int); omega, by show 0 + (i : Int) < c; omega, xok.2.1⟩
      · rintro σ H'' ⟨gs, ps, o5, rfl, b4, s4, hg4, rg4, gok4, glen4⟩
        have := lok.five xs xm
        have lx : lvs.length = xs.length := by rw [rla.length, List.length_map]
        exact ⟨gs, ps, _, _, rfl, b4, s4, hg4, rg4, gok4, by omega⟩
    · rintro σ H3 ⟨gs, ps, o4, o5, rfl, b3, s3, hg, rg, gok, glen⟩
      have b23 : But [st] H2 H3 := b3.drop ng
      have bH3 := b12.trans b23
      have hpa3 : H3 pa = some (.lst pvs) := b23.at1 hpa past
      have rpl3 : Reps [st] H3 pvs (ls.map lineD) := rpl.mv b23
      replace rg : Reps [st] H3 gs (ps.map nmD) := rg.less fun a z => List.mem_cons_of_mem _ z
      have lgs : gs.length = ps.length := by rw [rg.length, List.length_map]
      have few : gs.length ≤ 60 := by omega
      clear b3 b23 rpl hpa ng b12
      refine ⟨Nat.zero_le _, fun pt npt => ?_⟩
      have ptst : pt ≠ st := s3.ne npt
      have ptl : pt ≠ l := s3.ne2 npt
      have ptpa : pt ≠ pa := (ne_of_none hpa3 npt).symm
      have ptg : pt ≠ g := (ne_of_none hg npt).symm
      have in2 : ∀ {x : Addr}, x ≠ pt → x ≠ st → x ∉ [pt, st] := fun n1 n2 z => (List.mem_cons.mp z).elim n1 (fun z => n2 (List.mem_singleton.mp z))
      have hpaP : ∀ {H' : Hp}, But [pt, st] (upd H3 pt (.lst [])) H' → H' pa = some (.lst pvs) := fun bb => bb pa _ (in2 ptpa.symm past) (by rw [upd_ne ptpa.symm]; exact hpa3)
      refine ⟨_, rfl, pa, rfl, ⟨_, SqL.of (hpaP .refl)⟩, for_list (K := K) (a := pa) (xs := pvs) (fun i σ H' => ∃ (tvs : List V) (prs : List (List Row)) (o7 : Option V), σ = [some (.ref st), some (.int c), some (.ref pa), some (.ref g), o4, o5, some (.ref pt), o7, none, none, none, none] ∧
        But [pt, st] (upd H3 pt (.lst [])) H' ∧ Strm st l H' ∧ H' pt = some (.lst tvs) ∧ Reps [pt, st] H' tvs (prs.map rowsD) ∧ prs.map (List.map Row.word) = (ls.take i).map (List.map Plan.w) ∧ ∀ rs ∈ prs, ∀ r ∈ rs, r.ok c) ?_ (fun i σ H' _ q => ?_) ?_ ?_⟩
      · exact ⟨[], [], _, rfl, .refl, s3.new npt, upd_same, .nil, rfl, fun _ z => (nomatch z)⟩
      · obtain ⟨_, _, _, _, bb, _⟩ := q
        exact SqL.of (hpaP bb)
      · rintro i y σ H' hi ⟨tvs, prs, o7, rfl, b4, s4, hpt, rpt, pw, pok⟩
        obtain ⟨d, hd, ry⟩ := rpl3.get hi
        rw [List.getElem?_map] at hd
        obtain ⟨xs, hxs, rfl⟩ := Option.map_eq_some_iff.mp hd
        have xm : xs ∈ ls := List.mem_of_getElem? hxs
        obtain ⟨la, lvs, rfl, hla3, lans, rla3⟩ := ry.lstV
        have last_ : la ≠ st := fun z => lans (List.mem_singleton.mpr z)
        have lapt : la ≠ pt := ne_of_none hla3 npt
        have hla : H' la = some (.lst lvs) := b4 la _ (in2 lapt last_) (by rw [upd_ne lapt]; exact hla3)
        have rla : Reps [st] H' lvs (xs.map Plan.d) := (((Reps.more npt _ _ rla3).mv (.of (same_new npt))).mv b4).less fun a z => List.mem_cons_of_mem _ z
        have hg4 : H' g = some (.lst gs) := b4 g _ (in2 ptg.symm gst) (by rw [upd_ne ptg.symm]; exact hg)
        have rg4 : Reps [st] H' gs (ps.map nmD) := (((Reps.more npt _ _ rg).mv (.of (same_new npt))).mv b4).less fun a z => List.mem_cons_of_mem _ z
        have five := lok.five xs xm
        have lx : lvs.length = xs.length := by rw [rla.length, List.length_map]
        refine ⟨_, rfl, .inl ⟨rfl, _, SqL.of hpt⟩, _, rfl, la, rfl, ⟨_, SqL.of hla⟩, fun D nD => ?_⟩
        have Dst : D ≠ st := s4.ne nD
        have Dl : D ≠ l := s4.ne2 nD
        refine lc_list (K := K) (a := la) (xs := lvs) (fun j H'' => But [st] H' H'' ∧ Strm st l H'' ∧ ∃ (acc : List V) (rs : List Row), H'' D = some (.lst acc) ∧ Reps [D, st] H'' acc (rs.map Row.d) ∧ rs.map Row.word = (xs.take j).map Plan.w ∧ ∀ r ∈ rs, r.ok c) ?_ (fun j H'' _ q => SqL.of (q.1.at1 hla last_)) ?_ ?_
        · exact ⟨.new .refl nD, s4.new nD, [], [], upd_same, .nil, rfl, fun _ z => (nomatch z)⟩
        · rintro j y H'' hj ⟨b5, s5, acc, rs, hD, ra, rw_, ro⟩
          obtain ⟨d, hd, ry⟩ := rla.get hj
          rw [List.getElem?_map] at hd
          obtain ⟨x, hx, rfl⟩ := Option.map_eq_some_iff.mp hd
          refine ⟨rfl, ?_⟩
          refine ⟨_, rfl, _, rfl, _, rfl, _, rfl, st, l, g, y, x, c, gs, ps.map nmD, ps, rfl, ry.mv b5, lok.ok xs xm x (List.mem_of_getElem? hx), s5, b5.at1 hg4 gst, gst, rg4.mv b5, ⟨rfl, gok⟩, few, c0, c4, fun H6 v r b6 s6 rv rok rwd => ?_⟩
          have hD6 := b6.at1 hD Dst
          have lr : rs.length ≤ 5 := by
            have e := congrArg List.length rw_
            rw [List.length_map, List.length_map, List.length_take] at e
            omega
          have lq : acc.length = rs.length := by rw [ra.length, List.length_map]
          have u6 : But [D, st] H6 (upd H6 D (.lst (acc ++ [v]))) := But.upd .refl List.mem_cons_self
          refine ⟨acc, hD6, by rw [lq, sizeLine_eq]; omega, (b5.trans b6).own nD, s6.away Dst Dl, acc ++ [v], rs ++ [r], upd_same, ?_, ?_, fun q hq => ?_⟩
          · rw [List.map_append]
            exact ((ra.mv (b6.mono fun x z => List.mem_cons_of_mem _ z)).app (.one (Rep.avoid hD6 _ _ (noLst_row r) rv))).mv u6
          · rw [List.map_append, rw_, List.take_succ, hx, List.map_append]
            show _ ++ [r.word] = _ ++ [x.w]
            rw [rwd]
          · rcases List.mem_append.mp hq with z | z
            · exact ro q z
            · rw [List.mem_singleton.mp z]
              exact rok
        · rintro H'' ⟨b5, s5, acc, rs, hD, ra, rw_, ro⟩
          rw [lx, List.take_length] at rw_
          have hpt5 := b5.at1 hpt ptst
          refine ⟨D, acc, rfl, .inl ⟨SqL.of hD, fun t nt => ?_⟩⟩
          have tpt : t ≠ pt := (ne_of_none hpt5 nt).symm
          have lt : tvs.length = i := by
            have e := congrArg List.length pw
            rw [List.length_map, List.length_map, List.length_take] at e
            have := rpt.length
            rw [List.length_map] at this
            have : i < pvs.length := (List.getElem?_eq_some_iff.mp hi).1
            omega
          have i4 : i < 4 := by
            have : i < pvs.length := (List.getElem?_eq_some_iff.mp hi).1
            omega
          refine ⟨pt, tvs, .ref t, rfl, rfl, (same_new nt) _ _ hpt5, by rw [lt, sizeLine_eq]; omega, ?_⟩
          have bu : But [pt, st] H' (upd (upd H'' t (.tup acc)) pt (.lst (tvs ++ [.ref t]))) := ((b5.mono fun x z => List.mem_cons_of_mem _ z).new nt).upd List.mem_cons_self
          refine ⟨tvs ++ [.ref t], prs ++ [rs], _, rfl, b4.trans bu, (s5.new nt).away ptst ptl, upd_same, ?_, ?_, fun rs' hrs => ?_⟩
          · rw [List.map_append]
            refine (rpt.mv bu).app (.one (.tup (by rw [upd_ne tpt]; exact upd_same) (in2 tpt (s5.ne nt)) ?_))
            have r1 : Reps [st] (upd H'' t (.tup acc)) acc (rs.map Row.d) := (ra.less fun a z => List.mem_cons_of_mem _ z).sm (same_new nt)
            exact (Reps.avoid ((same_new nt) _ _ hpt5) _ _ (noLst_rows rs) r1).mv (But.refl.upd List.mem_cons_self)
          · rw [List.map_append, pw, List.take_succ, hxs, List.map_append]
            show _ ++ [rs.map Row.word] = _ ++ [xs.map Plan.w]
            rw [rw_]
          · rcases List.mem_append.mp hrs with z | z
            · exact pok rs' z
            · rw [List.mem_singleton.mp z]
              exact ro
      · rintro σ H5 ⟨tvs, prs, o7, rfl, b4, s4, hpt, rpt, pw, pok⟩
        rw [lpv, List.take_length] at pw
        obtain ⟨pl, p5, p12, pout⟩ := prog_shape pw lok
        have bH5 := bH3.trans (b4.drop npt)
        have hg5 : H5 g = some (.lst gs) := b4 g _ (in2 ptg.symm gst) (by rw [upd_ne ptg.symm]; exact hg)
        have rg5 : Reps [st] H5 gs (ps.map nmD) := (((Reps.more npt _ _ rg).mv (.of (same_new npt))).mv b4).less fun a z => List.mem_cons_of_mem _ z
        replace rpt : Reps [st] H5 tvs (prs.map rowsD) := rpt.less fun a z => List.mem_cons_of_mem _ z
        have cl : c = (prs.length : Int) := by omega
        clear b4 bH3 rg hg hpa3 rpl3 hpaP s3 npt
        refine ⟨_, rfl, c, rfl, by omega, by omega, fun D nD => ?_⟩
        have Dst : D ≠ st := s4.ne nD
        have Dl : D ≠ l := s4.ne2 nD
        refine lc_range (lo := 0) (n := c.toNat) (fun i H' => But [st] H5 H' ∧ Strm st l H' ∧ ∃ bs : List Bool, H' D = some (.lst (bs.map V.bl)) ∧ bs.length = i) ?_ ?_ ?_
        · exact ⟨.new .refl nD, s4.new nD, [], upd_same, rfl⟩
        · rintro i H' hi ⟨b5, s5, bs, hD, lb⟩
          refine ⟨rfl, ?_⟩
          refine ⟨_, rfl, st, l, 2, rfl, s5, by decide, by decide, fun H6 u b6 s6 u0 u1 => ⟨rfl, ?_⟩⟩
          have hD6 := b6.at1 hD Dst
          refine ⟨_, hD6, by rw [List.length_map, lb, sizeLine_eq]; omega, (b5.trans b6).own nD, s6.away Dst Dl, bs ++ [decide (V.int u = V.int 1)], by rw [upd_same, List.map_append]; rfl, by rw [List.length_append, lb]; rfl⟩
        · rintro H6' ⟨b6, s6', bs, hD, lb⟩
          refine ⟨D, _, rfl, .inl ⟨SqL.of hD, fun m nm => ?_⟩⟩
          have b56 : But [st] H5 (upd H6' m (.tup (bs.map V.bl))) := b6.new nm
          have s6 : Strm st l (upd H6' m (.tup (bs.map V.bl))) := s6'.new nm
          have hm6 : upd H6' m (.tup (bs.map V.bl)) m = some (.tup (bs.map V.bl)) := upd_same
          have mst : m ≠ st := s6'.ne nm
          dsimp only [List.set]
          generalize upd H6' m (.tup (bs.map V.bl)) = H6 at b56 s6 hm6 ⊢
          clear hD nD b6 s6' nm Dst Dl
          refine ⟨_, rfl, st, l, 3, rfl, s6, by decide, by decide, fun H7 u b7 s7 u0 u1 => ⟨_, _, rfl, rfl, _, rfl, by omega, by omega, fun D nD => ?_⟩⟩
          have Dst : D ≠ st := s7.ne nD
          have Dl : D ≠ l := s7.ne2 nD
          refine lc_range (lo := 0) (n := (1 + u).toNat) (fun i H' => But [st] H7 H' ∧ Strm st l H' ∧ ∃ es : List Int, H' D = some (.lst (es.map V.int)) ∧ es.length = i ∧ ∀ e ∈ es, 0 ≤ e ∧ e < c) ?_ ?_ ?_
          · exact ⟨.new .refl nD, s7.new nD, [], upd_same, rfl, fun _ z => (nomatch z)⟩
          · rintro i H' hi ⟨b8, s8, es, hD, le, eo⟩
            refine ⟨rfl, ?_⟩
            refine ⟨_, rfl, _, rfl, st, l, c, rfl, s8, c0, by omega, fun H9 x b9 s9 x0 x1 => ?_⟩
            have hD9 := b9.at1 hD Dst
            refine ⟨_, hD9, by rw [List.length_map, le, sizeLine_eq]; omega, (b8.trans b9).own nD, s9.away Dst Dl, es ++ [x], by rw [upd_same, List.map_append]; rfl, by rw [List.length_append, le]; rfl, fun e he => ?_⟩
            rcases List.mem_append.mp he with z | z
            · exact eo e z
            · rw [List.mem_singleton.mp z]
              exact ⟨x0, x1⟩
          · rintro H8 ⟨b8, s8, es, hE, le, eo⟩
            have b58 := b56.trans (b7.trans b8)
            have hm8 := (b7.trans b8).at1 hm6 mst
            clear b56 b7 b8 s6 s7 hm6
            refine ⟨_, rfl, st, l, 5, rfl, s8, by decide, by decide, fun H9 x b9 s9 x0 x1 => ⟨_, rfl, by omega, by omega, fun F nF => ?_⟩⟩
            have Fst : F ≠ st := s9.ne nF
            have Fl : F ≠ l := s9.ne2 nF
            refine lc_range (lo := 0) (n := x.toNat) (fun i H' => But [st] H9 H' ∧ Strm st l H' ∧ ∃ (acc : List V) (qs : List Nm), H' F = some (.lst acc) ∧ Reps [F, st] H' acc (qs.map nmD) ∧ qs.length = i ∧ ∀ q ∈ qs, nmOk c q) ?_ ?_ ?_
            · exact ⟨.new .refl nF, s9.new nF, [], [], upd_same, .nil, rfl, fun _ z => (nomatch z)⟩
            · rintro i H' hi ⟨b10, s10, acc, qs, hF, ra, ql, qo⟩
              refine ⟨rfl, ?_⟩
              have bb := b58.trans (b9.trans b10)
              refine ⟨_, rfl, _, rfl, _, rfl, st, l, g, c, gs, ps.map nmD, ps, rfl, s10, bb.at1 hg5 gst, gst, rg5.mv bb, ⟨rfl, gok⟩, few, c0, c4, fun H11 v p b11 s11 rv okp => ?_⟩
              have hF11 := b11.at1 hF Fst
              have lq : acc.length = qs.length := by rw [ra.length, List.length_map]
              have u11 : But [F, st] H11 (upd H11 F (.lst (acc ++ [v]))) := But.upd .refl List.mem_cons_self
              refine ⟨acc, hF11, by rw [lq, ql, sizeLine_eq]; omega, (b10.trans b11).own nF, s11.away Fst Fl, acc ++ [v], qs ++ [p], upd_same, ?_, by rw [List.length_append, ql]; rfl, fun q hq => ?_⟩
              · rw [List.map_append]
                exact ((ra.mv (b11.mono fun x z => List.mem_cons_of_mem _ z)).app (.one (Rep.avoid hF11 _ _ rfl rv))).mv u11
              · rcases List.mem_append.mp hq with z | z
                · exact qo q z
                · rw [List.mem_singleton.mp z]
                  exact okp
            · rintro H10 ⟨b10, s10, acc, qs, hF, ra, ql, qo⟩
              have b5X := b58.trans (b9.trans b10)
              have b8X := b9.trans b10
              have hmX := b8X.at1 hm8 mst
              have hEX := b8X.at1 hE Dst
              have hptX := b5X.at1 hpt ptst
              have rptX := rpt.mv b5X
              replace ra : Reps [st] H10 acc (qs.map nmD) := ra.less fun a z => List.mem_cons_of_mem _ z
              obtain ⟨ks, rfl, ek, hks⟩ := nms_keys ra
              have kl : ks.length ≤ 4 := by
                rw [← List.length_map (f := Prod.snd), ek, ql]
                omega
              refine ⟨_, rfl, pt, tvs, rfl, .inl ⟨SqL.of hptX, fun tp ntp => ⟨_, rfl, ?_⟩⟩⟩
              have q1 : Same H10 (upd H10 tp (.tup tvs)) := same_new ntp
              refine ⟨_, rfl, D, es, rfl, SqL.of (q1 _ _ hEX), by rw [le]; omega, fun a1 c1 na1 hc1 => ⟨a1, _, c1, rfl, upd_same, by omega, fun ns p1 asc mem len np1 => ⟨p1, _, rfl, .inl ⟨SqL.of upd_same, fun t1 nt1 => ?_⟩⟩⟩⟩
              have q2 := q1.trans ((same_new na1).trans ((same_new np1).trans (same_new (o := .tup (ns.map V.int)) nt1)))
              refine ⟨_, rfl, F, ks, rfl, SqL.of (q2 _ _ hF), fun q hq => SqT.of (q2 _ _ (hks q hq).1), kl, fun a2 l2 na2 sub all => ⟨a2, l2, rfl, upd_same, fun q hq => SqT.of ((q2.trans (same_new na2)) _ _ (hks q (sub q hq)).1), fun l3 p2 perm pwise l34 np2 => ⟨p2, _, rfl, .inl ⟨SqL.of upd_same, fun t2 nt2 => ⟨(by show 4 ≤ sizeLine; decide), fun tt ntt => ?_⟩⟩⟩⟩⟩
              have q3 := (same_new na2).trans ((same_new np2).trans ((same_new (o := .tup (l3.map fun q => V.ref q.1)) nt2).trans (same_new (o := .tup [.ref tp, .ref m, .ref t1, .ref t2]) ntt)))
              have q4 := q2.trans q3
              have nn : ∀ {x : Addr}, x ≠ st → x ∉ [st] := fun n z => n (List.mem_singleton.mp z)
              have sX : Strm st l _ := s10.same q4
              refine k _ _ ⟨prs, bs, ns, l3.map Prod.snd⟩ (bH5.trans (b5X.trans (.of q4))) sX (.tup upd_same (nn ?_) (.cons (.tup (((same_new na1).trans ((same_new np1).trans ((same_new (o := .tup (ns.map V.int)) nt1).trans q3))) _ _ upd_same) (nn (s10.ne ntp)) (rptX.sm q4)) (.cons (.tup (q4 _ _ hmX) (nn mst) (bls_rep bs)) (.cons (.tup (q3 _ _ upd_same) (nn ?_) (ints_rep ns)) (.cons (.tup ((same_new (o := .tup [.ref tp, .ref m, .ref t1, .ref t2]) ntt) _ _ upd_same) (nn ?_) (keys_nms l3 fun q hq => ?_)) .nil))))) ?_
              · exact (s10.same (q2.trans ((same_new na2).trans ((same_new np2).trans (same_new (o := .tup (l3.map fun q => V.ref q.1)) nt2))))).ne ntt
              · exact (s10.same (q1.trans ((same_new na1).trans (same_new np1)))).ne nt1
              · exact (s10.same (q2.trans ((same_new na2).trans (same_new np2)))).ne nt2
              · have hq2 := hks q (sub q (perm.mem_iff.mp hq))
                exact ⟨q4 _ _ hq2.1, hq2.2⟩
              · have memE : ∀ e, e ∈ ns ↔ e ∈ es := fun e => by
                  rw [mem e]
                  exact decide_eq_true_iff
                have pc : Prog.c ⟨prs, bs, ns, l3.map Prod.snd⟩ = c := cl.symm
                refine ⟨by show 1 ≤ prs.length; omega, by show prs.length ≤ 4; omega, p5, p12, pout, fun rs hr r h => by rw [pc]; exact pok rs hr r h, by show bs.length = prs.length; omega, ?_, by show ns.length ≤ 3; omega, fun e he => by rw [pc]; exact eo e ((memE e).mp he), asc, by show (l3.map Prod.snd).length ≤ 4; rw [List.length_map]; exact l34, fun p hp => ?_, List.pairwise_map.mpr pwise⟩
                · show 1 ≤ ns.length
                  cases es with
                  | nil =>
                    have : (0 : Nat) = (1 + u).toNat := le
                    omega
                  | cons e es' =>
                    have : e ∈ ns := (memE e).mpr List.mem_cons_self
                    exact List.length_pos_of_mem this
                · rw [pc]
                  obtain ⟨q, hq, rfl⟩ := List.mem_map.mp hp
                  refine qo q.2 ?_
                  rw [← ek]
                  exact List.mem_map.mpr ⟨q, sub q (perm.mem_iff.mp hq), rfl⟩
def sp_is_integer : Sp := fun vs H Q _ => ∃ (v : V) (S : List Addr) (d : PyData), vs = [v] ∧ Rep S H v d ∧ ∀ H', Same H H' → Q (.bl (intB d)) H'
theorem ok_is_integer (T : Txt K mg A) : FnOk P w K mg base CX0 1 A.f_is_integer A.d_is_integer ["thing"] (sp_is_integer) := by
  refine T.F_is_integer.ok sc_is_integer (fun vs H Q E h => ?_) (fun cdv Ar outer s H vs Q E hr h => ?_)
  · obtain ⟨v, S, d, rfl, r, k⟩ := h
    rfl
  · obtain ⟨v, S, d, rfl, r, k⟩ := h
    refine ⟨_, PSs.nox ((pss_one (ps_ret (pe_and (pe_callB call_isiD (by rfl) T.zisinstance (by decide +kernel) (pa_cons (pv 0) (pa_cons (pe_bltn (v := .ty "int") (by rfl) T.zint (by decide +kernel) rfl) pa_nil))) (pe_one (pe_not (pe_callB call_isiD (by rfl) T.zisinstance (by decide +kernel) (pa_cons (pv 0) (pa_cons (pe_bltn (v := .ty "bool") (by rfl) T.zbool (by decide +kernel) rfl) pa_nil))))))))), ?_⟩
    rw [show start N_is_integer [v] = [some (v)] from rfl]
    refine ⟨_, rfl, _, "int", S, d, _, rfl, r, kit_int d, _, rfl, ?_⟩
    refine ite2 (fun c => ?_) (fun c => ?_)
    · refine ⟨_, rfl, _, "bool", S, d, _, rfl, r, kit_bool d, _, rfl, ?_⟩
      have e := k H (Same.refl _)
      rwa [show intB d = !isBl d by simp [intB, c]] at e
    · have e := k H (Same.refl _)
      rwa [show intB d = false by simp [intB, c]] at e
def sp_is_number : Sp := fun vs H Q _ => ∃ (v : V) (S : List Addr) (d : PyData) (n : Int), vs = [v, .int n] ∧ Rep S H v d ∧ ∀ H', Same H H' → Q (.bl (numB d n)) H'
theorem ok_is_number (T : Txt K mg A) : FnOk P w K mg base CX0 2 A.f_is_number A.d_is_number ["thing", "many"] (sp_is_number) := by
  refine T.F_is_number.ok sc_is_number (fun vs H Q E h => ?_) (fun cdv Ar outer s H vs Q E hr h => ?_)
  · obtain ⟨v, S, d, n, rfl, r, k⟩ := h
    rfl
  · obtain ⟨v, S, d, n, rfl, r, k⟩ := h
    refine ⟨_, PSs.nox ((pss_one (ps_ret (pe_and (pe_call (ok_is_integer T) hr rfl T.m_is_integer T.F_is_integer.kp (b_is_integer T) .nil pass0 (pa_cons (pv 0) pa_nil)) (pe_one (pe_chain op_le op_lt pe_int (pv 0) (pv 1))))))), ?_⟩
    rw [show start N_is_number [v, .int n] = [some (v), some (.int n)] from rfl]
    refine ⟨_, rfl, v, S, d, rfl, r, fun H1 s1 => ⟨_, rfl, ?_⟩⟩
    refine ite2 (fun c => ?_) (fun c => ?_)
    · obtain ⟨i, rfl⟩ := int_of c
      obtain rfl := r.intV
      refine ⟨_, rfl, _, _, rfl, rfl, _, rfl, ?_⟩
      refine ite2 (fun c1 => ?_) (fun c1 => ?_)
      · refine ⟨_, rfl, _, _, rfl, rfl, ?_⟩
        have e := k H1 s1
        rwa [show numB (.int i) n = decide (i < n) by simp [numB, c, valI, of_decide_eq_true c1] <;> rfl] at e
      · have e := k H1 s1
        have c2 : ¬ 0 ≤ i := fun z => c1 (decide_eq_true z)
        rwa [show numB (.int i) n = false by simp [numB, c, valI, c2]] at e
    · have e := k H1 s1
      rwa [show numB d n = false by simp [numB, c]] at e
def sp_is_name : Sp := fun vs H Q _ => ∃ (v : V) (S : List Addr) (d : PyData), vs = [v] ∧ Rep S H v d ∧ ∀ H', Same H H' → Q (.bl (nameB d)) H'
theorem ok_is_name (T : Txt K mg A) : FnOk P w K mg base CX0 1 A.f_is_name A.d_is_name ["thing"] (sp_is_name) := by
  refine T.F_is_name.ok sc_is_name (fun vs H Q E h => ?_) (fun cdv Ar outer s H vs Q E hr h => ?_)
  · obtain ⟨v, S, d, rfl, r, k⟩ := h
    rfl
  · obtain ⟨v, S, d, rfl, r, k⟩ := h
    refine ⟨_, PSs.nox ((pss_one (ps_ret (pe_and (pe_callB call_isiD (by rfl) T.zisinstance (by decide +kernel) (pa_cons (pv 0) (pa_cons (pe_bltn (v := .ty "str") (by rfl) T.zstr (by decide +kernel) rfl) pa_nil))) (pe_one (pe_cmpR op_in_seq (pv 0) (pe_glob (v := .ref A.o_NAMES) (by rfl) T.m_NAMES rfl) rfl)))))), ?_⟩
    rw [show start N_is_name [v] = [some (v)] from rfl]
    refine ⟨_, rfl, _, "str", S, d, _, rfl, r, kit_str d, _, rfl, ?_⟩
    refine ite2 (fun c => ?_) (fun c => ?_)
    · obtain ⟨x, rfl⟩ := str_of c
      obtain rfl := r.strV
      refine ⟨_, rfl, A.o_NAMES, _, rfl, .inr (T.t_NAMES H), rfl, rfl, ?_⟩
      have e := k H (Same.refl _)
      rw [show nameB (.str x) = inV (.str x) [V.str "a", V.str "b", V.str "c", V.str "d"] by rw [in_letters]; simp [nameB, isStr, strOf] <;> rfl] at e
      exact e
    · have e := k H (Same.refl _)
      rwa [show nameB d = false by simp [nameB, c]] at e
def sp_is_tuple : Sp := fun vs H Q _ => ∃ (v : V) (S : List Addr) (d : PyData) (lo hi : Int), vs = [v, .int lo, .int hi] ∧ Rep S H v d ∧ ∀ H', Same H H' → Q (.bl (tupB d lo hi)) H'
theorem ok_is_tuple (T : Txt K mg A) : FnOk P w K mg base CX0 1 A.f_is_tuple A.d_is_tuple ["thing", "least", "most"] (sp_is_tuple) := by
  refine T.F_is_tuple.ok sc_is_tuple (fun vs H Q E h => ?_) (fun cdv Ar outer s H vs Q E hr h => ?_)
  · obtain ⟨v, S, d, lo, hi, rfl, r, k⟩ := h
    rfl
  · obtain ⟨v, S, d, lo, hi, rfl, r, k⟩ := h
    refine ⟨_, PSs.nox ((pss_one (ps_ret (pe_and (pe_callB call_isiD (by rfl) T.zisinstance (by decide +kernel) (pa_cons (pv 0) (pa_cons (pe_bltn (v := .ty "tuple") (by rfl) T.ztuple (by decide +kernel) rfl) pa_nil))) (pe_one (pe_chain op_le op_le (pv 1) (pe_callB call_len_seq (by rfl) T.zlen (by decide +kernel) (pa_cons (pv 0) pa_nil)) (pv 2))))))), ?_⟩
    rw [show start N_is_tuple [v, .int lo, .int hi] = [some (v), some (.int lo), some (.int hi)] from rfl]
    refine ⟨_, rfl, _, "tuple", S, d, _, rfl, r, kit_tup d, _, rfl, ?_⟩
    refine ite2 (fun c => ?_) (fun c => ?_)
    · obtain ⟨ds, rfl⟩ := tup_of c
      obtain ⟨a, xs, rfl, ha, _, rs⟩ := r.tupV
      refine ⟨_, rfl, _, rfl, a, xs, rfl, .inr (SqT.of ha), _, _, rfl, rfl, _, rfl, ?_⟩
      rw [rs.length]
      refine ite2 (fun c1 => ?_) (fun c1 => ?_)
      · refine ⟨_, rfl, _, _, rfl, rfl, ?_⟩
        have e := k H (Same.refl _)
        rwa [show tupB (.tuple ds) lo hi = decide ((ds.length : Int) ≤ hi) by simp [tupB, isTup, itemsD, of_decide_eq_true c1] <;> rfl] at e
      · have e := k H (Same.refl _)
        have c2 : ¬ lo ≤ (ds.length : Int) := fun z => c1 (decide_eq_true z)
        rwa [show tupB (.tuple ds) lo hi = false by simp [tupB, isTup, itemsD, c2]] at e
    · have e := k H (Same.refl _)
      rwa [show tupB d lo hi = false by simp [tupB, c]] at e
def sp_is_ascending : Sp := fun vs H Q _ => ∃ (v : V) (S : List Addr) (ds : List PyData), vs = [v] ∧ Rep S H v (.tuple ds) ∧ ds.length ≤ 1000 ∧ (∀ d ∈ ds, ∀ e ∈ ds, PySem.W.alike d e = true) ∧ (∀ d ∈ ds, d ≠ .none ∧ d.depth ≤ 64 ∧ noDict d = true) ∧ ∀ H', Same H H' → Q (.bl (ascB ds)) H'
theorem ok_is_ascending (T : Txt K mg A) : FnOk P w K mg base CX0 1 A.f_is_ascending A.d_is_ascending ["things"] (sp_is_ascending) := by
  refine T.F_is_ascending.ok sc_is_ascending (fun vs H Q E h => ?_) (fun cdv Ar outer s H vs Q E hr h => ?_)
  · obtain ⟨v, S, ds, rfl, r, dl, al, nn, k⟩ := h
    rfl
  · obtain ⟨v, S, ds, rfl, r, dl, al, nn, k⟩ := h
    refine ⟨_, PSs.nox ((pss_one (ps_ret (pe_callB (cr_all rfl) (by rfl) T.zall (by decide +kernel) (pa_cons (pe_lc (own := [("low", 1), ("high", 2)]) (g := (gTup _ 2 (gCons (gName 1) (gCons (gName 2) gNil)))) (tt := tYes) rfl sc_is_ascending.nd (RZ.pi_zipA (by rfl) T.zzip (pa_cons (pv 0) (pa_cons (pe_slice sl_tupA (pv 0) (po_some pe_int) po_none) pa_nil))) (blkOk_by (N := N_is_ascending) (sc := defScope s_is_ascending) (by decide +kernel)) (fun _ _ _ _ _ => (pg_tup (by rfl) (pgs_cons (pg_name (i := 1) sc_is_ascending.nd rfl (Or.inl rfl)) (pgs_cons (pg_name (i := 2) sc_is_ascending.nd rfl (Or.inl rfl)) pgs_nil)))) (fun _ _ _ _ _ => pts_nil) (fun _ _ _ _ _ => (pe_cmpR (show OpR _ (compareOp .Lt) (rLtD K) from op_ltD hr.units) (pv 1) (pv 2) (nomark _)))) pa_nil))))), ?_⟩
    rw [show start N_is_ascending [v] = [some (v), none, none] from rfl]
    obtain ⟨a, xs, rfl, ha, na, rs⟩ := r.tupV
    have ln := rs.length
    have few : ∀ {H1 : Hp}, Same H H1 → H a = some (.tup xs) → xs.length - 1 < sizeLine := fun _ _ => by
      rw [ln, sizeLine_eq]
      omega
    refine ⟨_, rfl, _, rfl, _, rfl, a, xs, rfl, SqT.of ha, fun w => ?_, fun w b nb => ?_⟩
    · have e0 := whole_one w.1
      have ha2 : H a = some (.tup (xs.drop 1)) := by rw [ha, e0]; rfl
      refine ⟨a, a, xs, xs.drop 1, rfl, .inr ⟨SqT.of ((Same.refl H) _ _ ha), SqT.of ((Same.refl H) _ _ ha2), fun D nD => ?_⟩⟩
      refine lc_pure (walk_zipT (xs := xs) (ys := xs.drop 1) (n := xs.length - 1) (by rw [List.length_drop]; omega)) nD (fun i => V.bl (PySem.W.dataLt (ds.getD i .none) (ds.getD (i + 1) .none))) (few (Same.refl H) ha) (fun H' s' => ⟨SqT.of (s' _ _ ((Same.refl H) _ _ ha)), SqT.of (s' _ _ ((Same.refl H) _ _ ha2))⟩) ?_ ?_
      · rintro i x H' H'' F hi s' ⟨t, x1, x2, rfl, nt, rfl, h1, h2⟩ fin
        replace h1 : xs[i]? = some x1 := h1
        replace h2 : xs[1 + i]? = some x2 := by rw [← List.getElem?_drop]; exact h2
        obtain ⟨d1, e1, r1⟩ := rs.get h1
        obtain ⟨d2, e2, r2⟩ := rs.get h2
        have sA := (Same.refl H).trans (s'.trans (same_new (o := .tup [x1, x2]) nt))
        have m1 := List.mem_of_getElem? e1
        have m2 := List.mem_of_getElem? e2
        refine ⟨t, _, rfl, SqT.of upd_same, rfl, _, _, rfl, _, _, rfl, rfl, rfl, ?_⟩
        refine ⟨_, rfl, _, rfl, d1, d2, Rep.dp d1 x1 (nn d1 m1).2.2 (r1.sm sA), Rep.dp d2 x2 (nn d2 m2).2.2 (r2.sm sA), al d1 m1 d2 m2, (nn d1 m1).1, (nn d1 m1).2.1, ?_⟩
        have e := fin _ (same_new (o := .tup [x1, x2]) nt)
        rw [getD_of e1, Nat.add_comm i 1, getD_of e2] at e
        exact e
      · intro H' s' hD
        rw [bl_map] at hD
        refine ⟨D, _, rfl, SqL.of hD, ?_⟩
        have e := k H' ((Same.refl H).trans s')
        rw [asc_range, ← ln] at e
        exact e
    · rw [cut_one]
      have sb : Same H (upd H b (.tup (xs.drop 1))) := same_new nb
      refine ⟨a, b, xs, xs.drop 1, rfl, .inr ⟨SqT.of (sb _ _ ha), SqT.of (upd_same), fun D nD => ?_⟩⟩
      refine lc_pure (walk_zipT (xs := xs) (ys := xs.drop 1) (n := xs.length - 1) (by rw [List.length_drop]; omega)) nD (fun i => V.bl (PySem.W.dataLt (ds.getD i .none) (ds.getD (i + 1) .none))) (few sb ha) (fun H' s' => ⟨SqT.of (s' _ _ (sb _ _ ha)), SqT.of (s' _ _ (upd_same))⟩) ?_ ?_
      · rintro i x H' H'' F hi s' ⟨t, x1, x2, rfl, nt, rfl, h1, h2⟩ fin
        replace h1 : xs[i]? = some x1 := h1
        replace h2 : xs[1 + i]? = some x2 := by rw [← List.getElem?_drop]; exact h2
        obtain ⟨d1, e1, r1⟩ := rs.get h1
        obtain ⟨d2, e2, r2⟩ := rs.get h2
        have sA := (sb).trans (s'.trans (same_new (o := .tup [x1, x2]) nt))
        have m1 := List.mem_of_getElem? e1
        have m2 := List.mem_of_getElem? e2
        refine ⟨t, _, rfl, SqT.of upd_same, rfl, _, _, rfl, _, _, rfl, rfl, rfl, ?_⟩
        refine ⟨_, rfl, _, rfl, d1, d2, Rep.dp d1 x1 (nn d1 m1).2.2 (r1.sm sA), Rep.dp d2 x2 (nn d2 m2).2.2 (r2.sm sA), al d1 m1 d2 m2, (nn d1 m1).1, (nn d1 m1).2.1, ?_⟩
        have e := fin _ (same_new (o := .tup [x1, x2]) nt)
        rw [getD_of e1, Nat.add_comm i 1, getD_of e2] at e
        exact e
      · intro H' s' hD
        rw [bl_map] at hD
        refine ⟨D, _, rfl, SqL.of hD, ?_⟩
        have e := k H' ((sb).trans s')
        rw [asc_range, ← ln] at e
        exact e
def sp_is_need : Sp := fun vs H Q _ => ∃ (v : V) (S : List Addr) (d : PyData) (n : Int), vs = [v, .int n] ∧ Rep S H v d ∧ ∀ H', Same H H' → Q (.bl (needB d n)) H'
theorem ok_is_need (T : Txt K mg A) : FnOk P w K mg base CX0 3 A.f_is_need A.d_is_need ["thing", "many_parts"] (sp_is_need) := by
  refine T.F_is_need.ok sc_is_need (fun vs H Q E h => ?_) (fun cdv Ar outer s H vs Q E hr h => ?_)
  · obtain ⟨v, S, d, n, rfl, r, k⟩ := h
    rfl
  · obtain ⟨v, S, d, n, rfl, r, k⟩ := h
    refine ⟨_, PSs.nox ((pss_one (ps_ret (pe_and (pe_call (ok_is_tuple T) (hr.mono (by decide)) rfl T.m_is_tuple T.F_is_tuple.kp (b_is_tuple T) .nil pass0 (pa_cons (pv 0) (pa_cons pe_int (pa_cons pe_int pa_nil)))) (pe_and (pe_call (ok_is_number T) hr rfl T.m_is_number T.F_is_number.kp (b_is_number T) .nil pass0 (pa_cons (pe_ix ix_tup (pv 0) pe_int (fun _ _ => rfl)) (pa_cons (pv 1) pa_nil))) (pe_one (pe_call (ok_is_name T) (hr.mono (by decide)) rfl T.m_is_name T.F_is_name.kp (b_is_name T) .nil pass0 (pa_cons (pe_ix ix_tup (pv 0) pe_int (fun _ _ => rfl)) pa_nil)))))))), ?_⟩
    rw [show start N_is_need [v, .int n] = [some (v), some (.int n)] from rfl]
    refine ⟨_, rfl, v, S, d, 2, 2, rfl, r, fun H1 s1 => ⟨_, rfl, ?_⟩⟩
    refine ite2 (fun c => ?_) (fun c => ?_)
    · obtain ⟨ds, rfl, h1, h2⟩ := tupB_len c
      obtain ⟨x, y, rfl⟩ := len2 h1 h2
      obtain ⟨a, p, q, rfl, ha, rp, rq⟩ := r.two
      refine ⟨_, rfl, a, _, 0, _, rfl, rfl, SqT.of (s1 _ _ ha), atI_nat (j := 0) rfl, _, rfl, p, S, x, n, rfl, rp.sm s1, fun H2 s2 => ⟨_, rfl, ?_⟩⟩
      refine ite2 (fun c2 => ?_) (fun c2 => ?_)
      · refine ⟨_, rfl, a, _, 1, _, rfl, rfl, SqT.of (s2 _ _ (s1 _ _ ha)), atI_nat (j := 1) rfl, q, S, y, rfl, rq.sm (s1.trans s2), fun H3 s3 => ?_⟩
        have e := k H3 (s1.trans (s2.trans s3))
        rwa [show needB (.tuple [x, y]) n = nameB y by simp [needB, c, nthD, itemsD, c2]] at e
      · have e := k H2 (s1.trans s2)
        rwa [show needB (.tuple [x, y]) n = false by simp [needB, c, nthD, itemsD, c2]] at e
    · have e := k H1 s1
      rwa [show needB d n = false by simp [needB, c]] at e
def sp_are_needs : Sp := fun vs H Q _ => ∃ (v : V) (S : List Addr) (d : PyData) (n m : Int), vs = [v, .int n, .int m] ∧ Rep S H v d ∧ m ≤ 100 ∧ ∀ H', Same H H' → Q (.bl (needsB d n m)) H'
theorem ok_are_needs (T : Txt K mg A) : FnOk P w K mg base CX0 4 A.f_are_needs A.d_are_needs ["thing", "many_parts", "most"] (sp_are_needs) := by
  refine T.F_are_needs.ok sc_are_needs (fun vs H Q E h => ?_) (fun cdv Ar outer s H vs Q E hr h => ?_)
  · obtain ⟨v, S, d, n, m, rfl, r, m100, k⟩ := h
    rfl
  · obtain ⟨v, S, d, n, m, rfl, r, m100, k⟩ := h
    refine ⟨_, PSs.nox ((pss_one (ps_ret (pe_and (pe_call (ok_is_tuple T) (hr.mono (by decide)) rfl T.m_is_tuple T.F_is_tuple.kp (b_is_tuple T) .nil pass0 (pa_cons (pv 0) (pa_cons pe_int (pa_cons (pv 2) pa_nil)))) (pe_one (pe_callB (cr_all rfl) (by rfl) T.zall (by decide +kernel) (pa_cons (pe_lc (own := [("need", 3)]) (g := (gName 3)) (tt := tYes) rfl sc_are_needs.nd (pi_tup (pv 0)) (blkOk_by (N := N_are_needs) (sc := defScope s_are_needs) (by decide +kernel)) (fun _ _ _ _ _ => (pg_name (i := 3) sc_are_needs.nd rfl (Or.inl rfl))) (fun _ _ _ _ _ => pts_nil) (fun _ _ _ _ _ => (pe_call (ok_is_need T) hr rfl T.m_is_need T.F_is_need.kp (b_is_need T) .nil pass0 (pa_cons (pv 3) (pa_cons (pv 1) pa_nil))))) pa_nil))))))), ?_⟩
    rw [show start N_are_needs [v, .int n, .int m] = [some (v), some (.int n), some (.int m), none] from rfl]
    refine ⟨_, rfl, _, rfl, v, S, d, 0, m, rfl, r, fun H1 s1 => ⟨_, rfl, ?_⟩⟩
    refine ite2 (fun c => ?_) (fun c => ?_)
    · obtain ⟨ds, rfl, h1, h2⟩ := tupB_len c
      obtain ⟨a, xs, rfl, ha, _, rs⟩ := r.tupV
      refine ⟨_, rfl, a, rfl, ⟨_, SqT.of (s1 _ _ ha)⟩, fun D nD => ?_⟩
      refine lc_pure (walk_tup (xs := xs)) nD (fun i => V.bl ((fun z => needB z n) (ds.getD i .none))) (by rw [rs.length, sizeLine_eq]; omega) (fun H' s' => SqT.of (s' _ _ (s1 _ _ ha))) ?_ ?_
      · rintro i x H' H'' F hi s' ⟨rfl, hx⟩ fin
        obtain ⟨d1, e1, r0⟩ := rs.get hx
        have r1 := r0.sm (s1.trans s')
        refine ⟨rfl, ?_⟩
        rw [getD_of e1] at fin
        exact ⟨_, rfl, _, rfl, x, S, d1, n, rfl, r1, fun H3 s3 => fin H3 s3⟩
      · intro H' s' hD
        have e2 : (List.range xs.length).map (fun i => V.bl ((fun z => needB z n) (ds.getD i .none))) = ((List.range ds.length).map fun i => (fun z => needB z n) (ds.getD i .none)).map V.bl := by rw [rs.length, bl_map (fun i => (fun z => needB z n) (ds.getD i .none))]
        rw [e2] at hD
        refine ⟨D, _, rfl, SqL.of hD, ?_⟩
        rw [range_all (fun z => (fun z => needB z n) z)]
        have e := k H' (s1.trans s')
        rwa [show needsB (.tuple ds) n m = ds.all (fun z => needB z n) by simp [needsB, c, itemsD]] at e
    · have e := k H1 s1
      rwa [show needsB d n m = false by simp [needsB, c]] at e
def sp_starts_with_word : Sp := fun vs H Q _ => ∃ (v : V) (S : List Addr) (d : PyData), vs = [v] ∧ Rep S H v d ∧ ∀ H', Same H H' → Q (.bl (wordB d)) H'
theorem ok_starts_with_word (T : Txt K mg A) : FnOk P w K mg base CX0 1 A.f_starts_with_word A.d_starts_with_word ["thing"] (sp_starts_with_word) := by
  refine T.F_starts_with_word.ok sc_starts_with_word (fun vs H Q E h => ?_) (fun cdv Ar outer s H vs Q E hr h => ?_)
  · obtain ⟨v, S, d, rfl, r, k⟩ := h
    rfl
  · obtain ⟨v, S, d, rfl, r, k⟩ := h
    refine ⟨_, PSs.nox ((pss_one (ps_ret (pe_and (pe_callB call_isiD (by rfl) T.zisinstance (by decide +kernel) (pa_cons (pv 0) (pa_cons (pe_bltn (v := .ty "tuple") (by rfl) T.ztuple (by decide +kernel) rfl) pa_nil))) (pe_and (pe_cmpR op_gt (pe_callB call_len_seq (by rfl) T.zlen (by decide +kernel) (pa_cons (pv 0) pa_nil)) pe_int (nomark _)) (pe_one (pe_callB call_isiD (by rfl) T.zisinstance (by decide +kernel) (pa_cons (pe_ix ix_tup (pv 0) pe_int (fun _ _ => rfl)) (pa_cons (pe_bltn (v := .ty "str") (by rfl) T.zstr (by decide +kernel) rfl) pa_nil))))))))), ?_⟩
    rw [show start N_starts_with_word [v] = [some (v)] from rfl]
    refine ⟨_, rfl, _, "tuple", S, d, _, rfl, r, kit_tup d, _, rfl, ?_⟩
    refine ite2 (fun c => ?_) (fun c => ?_)
    · obtain ⟨ds, rfl⟩ := tup_of c
      obtain ⟨a, xs, rfl, ha, _, rs⟩ := r.tupV
      refine ⟨_, rfl, a, xs, rfl, .inr (SqT.of ha), _, _, rfl, rfl, _, rfl, ?_⟩
      rw [rs.length]
      refine ite2 (fun c2 => ?_) (fun c2 => ?_)
      · have c3 : 0 < (ds.length : Int) := of_decide_eq_true c2
        obtain ⟨x, hx⟩ : ∃ x, xs[0]? = some x := ⟨_, List.getElem?_eq_getElem (by rw [rs.length]; omega)⟩
        obtain ⟨d1, e1, r1⟩ := rs.get hx
        refine ⟨_, rfl, a, xs, 0, x, rfl, rfl, SqT.of ha, atI_nat (j := 0) hx, _, "str", S, d1, _, rfl, r1, kit_str d1, ?_⟩
        have e := k H (Same.refl _)
        have z : nthD (.tuple ds) 0 = d1 := getD_of e1
        rwa [show wordB (.tuple ds) = isStr d1 by show (true && (decide (0 < (ds.length : Int)) && isStr (nthD (.tuple ds) 0))) = isStr d1; rw [c2, z]; rfl] at e
      · have e := k H (Same.refl _)
        have c3 : decide (0 < (ds.length : Int)) = false := Bool.eq_false_iff.mpr c2
        rwa [show wordB (.tuple ds) = false by show (true && (decide (0 < (ds.length : Int)) && isStr (nthD (.tuple ds) 0))) = false; rw [c3]; rfl] at e
    · have e := k H (Same.refl _)
      rwa [show wordB d = false by simp [wordB, c]] at e
def sp_is_give : Sp := fun vs H Q _ => ∃ (v : V) (S : List Addr) (d : PyData) (n : Int), vs = [v, .int n] ∧ Rep S H v d ∧ isTup d = true ∧ ∀ H', Same H H' → Q (.bl (giveB d n)) H'
theorem ok_is_give (T : Txt K mg A) : FnOk P w K mg base CX0 5 A.f_is_give A.d_is_give ["row", "many_parts"] (sp_is_give) := by
  refine T.F_is_give.ok sc_is_give (fun vs H Q E h => ?_) (fun cdv Ar outer s H vs Q E hr h => ?_)
  · obtain ⟨v, S, d, n, rfl, r, td, k⟩ := h
    rfl
  · obtain ⟨v, S, d, n, rfl, r, td, k⟩ := h
    obtain ⟨t_MOST_NEEDS_OF_GIVE, c_MOST_NEEDS_OF_GIVE⟩ := T.i_MOST_NEEDS_OF_GIVE
    refine ⟨_, PSs.nox ((pss_cons (ps_if (PW.pt (pw_or (pt_cmpR op_ne (pe_callB call_len_seq (by rfl) T.zlen (by decide +kernel) (pa_cons (pv 0) pa_nil)) pe_int (nomark _)) (pw_or1 (pt_not (pt_val (pe_call (ok_is_name T) (hr.mono (by decide)) rfl T.m_is_name T.F_is_name.kp (b_is_name T) .nil pass0 (pa_cons (pe_ix ix_tup (pv 0) pe_int (fun _ _ => rfl)) pa_nil))))))) (pss_one (ps_ret pe_bl)) pss_nil)
 (pss_one (ps_ret (pe_and (pe_call (ok_are_needs T) hr rfl T.m_are_needs T.F_are_needs.kp (b_are_needs T) .nil pass0 (pa_cons (pe_ix ix_tup (pv 0) pe_int (fun _ _ => rfl)) (pa_cons (pv 1) (pa_cons (pe_glob (v := .int (1)) (by rfl) c_MOST_NEEDS_OF_GIVE ⟨_, rfl⟩) pa_nil)))) (pe_one (pe_callB call_isiD (by rfl) T.zisinstance (by decide +kernel) (pa_cons (pe_ix ix_tup (pv 0) pe_int (fun _ _ => rfl)) (pa_cons (pe_bltn (v := .ty "bool") (by rfl) T.zbool (by decide +kernel) rfl) pa_nil))))))))), ?_⟩
    rw [show start N_is_give [v, .int n] = [some (v), some (.int n)] from rfl]
    obtain ⟨ds, rfl⟩ := tup_of td
    obtain ⟨a, xs, rfl, ha, _, rs⟩ := r.tupV
    refine ⟨_, rfl, a, _, rfl, .inr (SqT.of (ha)), rfl, _, rfl, ?_⟩
    rw [rs.length]
    have eq4 : (!decide (V.int (ds.length : Int) = V.int 4)) = !lenIs (.tuple ds) 4 := by
      unfold lenIs
      simp [itemsD] <;> rfl
    refine ite2 (fun c => iteT ?_) (fun c => ?_)
    · rw [eq4] at c
      have e := k H (Same.refl _)
      rwa [show giveB (.tuple ds) n = false by simp only [giveB]; rw [show lenIs (.tuple ds) 4 = false by simpa using c]; rfl] at e
    · rw [eq4] at c
      have c4 : lenIs (.tuple ds) 4 = true := by simpa using c
      obtain ⟨x, y, z, u, rfl⟩ := len4 (of_decide_eq_true c4)
      obtain ⟨a', p, q, s', t, e0, ha', rp, rq, rz, ru⟩ := r.four
      obtain rfl : a = a' := by injection e0
      rw [ha] at ha'
      obtain rfl : xs = [p, q, s', t] := by injection (Option.some.inj ha')
      refine ⟨_, rfl, a, _, 1, _, rfl, rfl, SqT.of (ha), atI_nat (j := 1) rfl, q, S, y, rfl, rq, fun H1 s1 => ⟨_, rfl, ?_⟩⟩
      refine ite2 (fun c1 => ?_) (fun c1 => ?_)
      · have e := k H1 s1
        rwa [show giveB (.tuple [x, y, z, u]) n = false by simp only [giveB, c4]; rw [show nameB (nthD (.tuple [x, y, z, u]) 1) = false from nbF c1]; rfl] at e
      · have c5 : nameB (nthD (.tuple [x, y, z, u]) 1) = true := nbT c1
        refine ⟨_, rfl, a, _, 2, _, rfl, rfl, SqT.of (s1 _ _ ha), atI_nat (j := 2) rfl, _, rfl, s', S, z, n, 1, rfl, rz.sm s1, by decide, fun H2 s2 => ⟨_, rfl, ?_⟩⟩
        refine ite2 (fun c6 => ?_) (fun c6 => ?_)
        · refine ⟨_, rfl, a, _, 3, _, rfl, rfl, SqT.of (s2 _ _ (s1 _ _ ha)), atI_nat (j := 3) rfl, _, "bool", S, u, _, rfl, ru.sm (s1.trans s2), kit_bool u, ?_⟩
          have e := k H2 (s1.trans s2)
          rwa [show giveB (.tuple [x, y, z, u]) n = isBl u by simp only [giveB, c4, c5]; rw [show needsB (nthD (.tuple [x, y, z, u]) 2) n 1 = true from c6]; rfl] at e
        · have e := k H2 (s1.trans s2)
          rwa [show giveB (.tuple [x, y, z, u]) n = false by simp only [giveB, c4, c5]; rw [show needsB (nthD (.tuple [x, y, z, u]) 2) n 1 = false from bF c6]; rfl] at e
def sp_is_late : Sp := fun vs H Q _ => ∃ (v : V) (S : List Addr) (d : PyData) (n : Int), vs = [v, .int n] ∧ Rep S H v d ∧ isTup d = true ∧ ∀ H', Same H H' → Q (.bl (lateB d n)) H'
theorem ok_is_late (T : Txt K mg A) : FnOk P w K mg base CX0 5 A.f_is_late A.d_is_late ["row", "many_parts"] (sp_is_late) := by
  refine T.F_is_late.ok sc_is_late (fun vs H Q E h => ?_) (fun cdv Ar outer s H vs Q E hr h => ?_)
  · obtain ⟨v, S, d, n, rfl, r, td, k⟩ := h
    rfl
  · obtain ⟨v, S, d, n, rfl, r, td, k⟩ := h
    obtain ⟨t_MOST_NEEDS, c_MOST_NEEDS⟩ := T.i_MOST_NEEDS
    obtain ⟨t_NO_PART, c_NO_PART⟩ := T.i_NO_PART
    refine ⟨_, PSs.nox ((pss_cons (ps_if (PW.pt (pw_or (pt_cmpR op_ne (pe_callB call_len_seq (by rfl) T.zlen (by decide +kernel) (pa_cons (pv 0) pa_nil)) pe_int (nomark _)) (pw_or (pt_not (pt_val (pe_call (ok_is_name T) (hr.mono (by decide)) rfl T.m_is_name T.F_is_name.kp (b_is_name T) .nil pass0 (pa_cons (pe_ix ix_tup (pv 0) pe_int (fun _ _ => rfl)) pa_nil)))) (pw_or1 (pt_not (pt_val (pe_call (ok_is_integer T) (hr.mono (by decide)) rfl T.m_is_integer T.F_is_integer.kp (b_is_integer T) .nil pass0 (pa_cons (pe_ix ix_tup (pv 0) pe_int (fun _ _ => rfl)) pa_nil)))))))) (pss_one (ps_ret pe_bl)) pss_nil)
 (pss_one (ps_ret (pe_and (pe_or (pe_cmpR op_eq (pe_ix ix_tup (pv 0) pe_int (fun _ _ => rfl)) (pe_glob (v := .int (-1)) (by rfl) c_NO_PART ⟨_, rfl⟩) (nomark _)) (pe_one (pe_call (ok_is_number T) (hr.mono (by decide)) rfl T.m_is_number T.F_is_number.kp (b_is_number T) .nil pass0 (pa_cons (pe_ix ix_tup (pv 0) pe_int (fun _ _ => rfl)) (pa_cons (pv 1) pa_nil))))) (pe_one (pe_call (ok_are_needs T) hr rfl T.m_are_needs T.F_are_needs.kp (b_are_needs T) .nil pass0 (pa_cons (pe_ix ix_tup (pv 0) pe_int (fun _ _ => rfl)) (pa_cons (pv 1) (pa_cons (pe_glob (v := .int (2)) (by rfl) c_MOST_NEEDS ⟨_, rfl⟩) pa_nil)))))))))), ?_⟩
    rw [show start N_is_late [v, .int n] = [some (v), some (.int n)] from rfl]
    obtain ⟨ds, rfl⟩ := tup_of td
    obtain ⟨a, xs, rfl, ha, _, rs⟩ := r.tupV
    refine ⟨_, rfl, a, _, rfl, .inr (SqT.of (ha)), rfl, _, rfl, ?_⟩
    rw [rs.length]
    have eq4 : (!decide (V.int (ds.length : Int) = V.int 4)) = !lenIs (.tuple ds) 4 := by
      unfold lenIs
      simp [itemsD] <;> rfl
    refine ite2 (fun c => iteT ?_) (fun c => ?_)
    · rw [eq4] at c
      have e := k H (Same.refl _)
      rwa [show lateB (.tuple ds) n = false by simp only [lateB]; rw [show lenIs (.tuple ds) 4 = false by simpa using c]; rfl] at e
    · rw [eq4] at c
      have c4 : lenIs (.tuple ds) 4 = true := by simpa using c
      obtain ⟨x, y, z, u, rfl⟩ := len4 (of_decide_eq_true c4)
      obtain ⟨a', p, q, s', t, e0, ha', rp, rq, rz, ru⟩ := r.four
      obtain rfl : a = a' := by injection e0
      rw [ha] at ha'
      obtain rfl : xs = [p, q, s', t] := by injection (Option.some.inj ha')
      refine ⟨_, rfl, a, _, 1, _, rfl, rfl, SqT.of (ha), atI_nat (j := 1) rfl, q, S, y, rfl, rq, fun H1 s1 => ⟨_, rfl, ?_⟩⟩
      refine ite2 (fun c1 => iteT ?_) (fun c1 => ?_)
      · have e := k H1 s1
        rwa [show lateB (.tuple [x, y, z, u]) n = false by simp only [lateB, c4]; rw [show nameB (nthD (.tuple [x, y, z, u]) 1) = false from nbF c1]; rfl] at e
      · have c5 : nameB (nthD (.tuple [x, y, z, u]) 1) = true := nbT c1
        refine ⟨_, rfl, a, _, 2, _, rfl, rfl, SqT.of (s1 _ _ ha), atI_nat (j := 2) rfl, s', S, z, rfl, rz.sm s1, fun H2 s2 => ⟨_, rfl, ?_⟩⟩
        have ha2 := s2 _ _ (s1 _ _ ha)
        refine ite2 (fun c6 => ?_) (fun c6 => ?_)
        · have e := k H2 (s1.trans s2)
          rwa [show lateB (.tuple [x, y, z, u]) n = false by simp only [lateB, c4, c5]; rw [show intB (nthD (.tuple [x, y, z, u]) 2) = false from nbF c6]; rfl] at e
        · have c7 : intB z = true := by simpa using c6
          obtain ⟨i, rfl⟩ := int_of c7
          obtain rfl := rz.intV
          have c8 : intB (nthD (.tuple [x, y, .int i, u]) 2) = true := c7
          have fin : ∀ (H3 : Hp), Same H H3 → numB (.int i) n = true ∨ i = -1 → tCall sp_are_needs [] E0 (tCons (tOp (rIxT K) (tVar 0) (tC (.int 3))) (tCons (tVar 1) (tCons (tC (.int 2)) tNil))) [some (.ref a), some (.int n)] H3 Q := by
            intro H3 s3 yes
            refine ⟨_, rfl, a, _, 3, _, rfl, rfl, SqT.of (s3 _ _ ha), atI_nat (j := 3) rfl, _, rfl, t, S, u, n, 2, rfl, ru.sm s3, by decide, fun H4 s4 => ?_⟩
            have e := k H4 (s3.trans s4)
            rwa [show lateB (.tuple [x, y, .int i, u]) n = needsB u n 2 by
              simp only [lateB, c4, c5, c8]
              rw [show (decide (valI (nthD (.tuple [x, y, .int i, u]) 2) = -1) || numB (nthD (.tuple [x, y, .int i, u]) 2) n) = true by
                rw [Bool.or_eq_true, decide_eq_true_eq]
                exact yes.symm]
              rfl] at e
          refine ⟨_, rfl, a, _, 2, _, rfl, rfl, SqT.of (ha2), atI_nat (j := 2) rfl, rfl, _, rfl, ?_⟩
          refine ite2 (fun c9 => ?_) (fun c9 => ?_)
          · exact ⟨_, rfl, fin H2 (s1.trans s2) (.inr (by simpa using c9))⟩
          · refine ⟨_, rfl, a, _, 2, _, rfl, rfl, SqT.of (ha2), atI_nat (j := 2) rfl, _, rfl, _, S, .int i, n, rfl, rz.sm (s1.trans s2), fun H3 s3 => ⟨_, rfl, ?_⟩⟩
            refine ite2 (fun c10 => fin H3 (s1.trans (s2.trans s3)) (.inl c10)) (fun c10 => ?_)
            have e := k H3 (s1.trans (s2.trans s3))
            rwa [show lateB (.tuple [x, y, .int i, u]) n = false by
              simp only [lateB, c4, c5, c8]
              rw [show (decide (valI (nthD (.tuple [x, y, .int i, u]) 2) = -1) || numB (nthD (.tuple [x, y, .int i, u]) 2) n) = false by
                rw [Bool.or_eq_false_iff]
                exact ⟨decide_eq_false fun z => c9 (decide_eq_true (congrArg V.int (show i = -1 from z))), Bool.eq_false_iff.mpr c10⟩]
              rfl] at e
def sp_is_row : Sp := fun vs H Q _ => ∃ (v : V) (S : List Addr) (d : PyData) (n : Int), vs = [v, .int n] ∧ Rep S H v d ∧ ∀ H', Same H H' → Q (.bl (rowB d n)) H'
theorem ok_is_row (T : Txt K mg A) : FnOk P w K mg base CX0 6 A.f_is_row A.d_is_row ["thing", "many_parts"] (sp_is_row) := by
  refine T.F_is_row.ok sc_is_row (fun vs H Q E h => ?_) (fun cdv Ar outer s H vs Q E hr h => ?_)
  · obtain ⟨v, S, d, n, rfl, r, k⟩ := h
    rfl
  · obtain ⟨v, S, d, n, rfl, r, k⟩ := h
    obtain ⟨t_MOST_NEEDS, c_MOST_NEEDS⟩ := T.i_MOST_NEEDS
    refine ⟨_, PSs.nox ((pss_cons (ps_if (pt_not (pt_val (pe_call (ok_starts_with_word T) (hr.mono (by decide)) rfl T.m_starts_with_word T.F_starts_with_word.kp (b_starts_with_word T) .nil pass0 (pa_cons (pv 0) pa_nil)))) (pss_one (ps_ret pe_bl)) pss_nil)
 (pss_cons (ps_set (i := 2) sc_is_row.nd rfl (Or.inl rfl) (pe_ix ix_tup (pv 0) pe_int (fun _ _ => rfl)))
 (pss_cons (ps_if (pt_cmpR op_eq (pv 2) pe_str (nomark _)) (pss_one (ps_ret (pe_and (pe_cmpR op_eq (pe_callB call_len_seq (by rfl) T.zlen (by decide +kernel) (pa_cons (pv 0) pa_nil)) pe_int (nomark _)) (pe_one (pe_call (ok_is_number T) (hr.mono (by decide)) rfl T.m_is_number T.F_is_number.kp (b_is_number T) .nil pass0 (pa_cons (pe_ix ix_tup (pv 0) pe_int (fun _ _ => rfl)) (pa_cons (pv 1) pa_nil))))))) pss_nil)
 (pss_cons (ps_if (pt_cmpR op_eq (pv 2) pe_str (nomark _)) (pss_one (ps_ret (pe_call (ok_is_give T) hr rfl T.m_is_give T.F_is_give.kp (b_is_give T) .nil pass0 (pa_cons (pv 0) (pa_cons (pv 1) pa_nil))))) pss_nil)
 (pss_cons (ps_if (pt_cmpR op_eq (pv 2) pe_str (nomark _)) (pss_one (ps_ret (pe_and (pe_cmpR op_eq (pe_callB call_len_seq (by rfl) T.zlen (by decide +kernel) (pa_cons (pv 0) pa_nil)) pe_int (nomark _)) (pe_and (pe_call (ok_is_need T) (hr.mono (by decide)) rfl T.m_is_need T.F_is_need.kp (b_is_need T) .nil pass0 (pa_cons (pe_tup (pa_cons (pe_ix ix_tup (pv 0) pe_int (fun _ _ => rfl)) (pa_cons (pe_ix ix_tup (pv 0) pe_int (fun _ _ => rfl)) pa_nil))) (pa_cons (pv 1) pa_nil))) (pe_one (pe_call (ok_is_name T) (hr.mono (by decide)) rfl T.m_is_name T.F_is_name.kp (b_is_name T) .nil pass0 (pa_cons (pe_ix ix_tup (pv 0) pe_int (fun _ _ => rfl)) pa_nil))))))) pss_nil)
 (pss_cons (ps_if (pt_cmpR op_eq (pv 2) pe_str (nomark _)) (pss_one (ps_ret (pe_and (pe_cmpR op_eq (pe_callB call_len_seq (by rfl) T.zlen (by decide +kernel) (pa_cons (pv 0) pa_nil)) pe_int (nomark _)) (pe_and (pe_call (ok_are_needs T) (hr.mono (by decide)) rfl T.m_are_needs T.F_are_needs.kp (b_are_needs T) .nil pass0 (pa_cons (pe_ix ix_tup (pv 0) pe_int (fun _ _ => rfl)) (pa_cons (pv 1) (pa_cons (pe_glob (v := .int (2)) (by rfl) c_MOST_NEEDS ⟨_, rfl⟩) pa_nil)))) (pe_one (pe_callB call_isiD (by rfl) T.zisinstance (by decide +kernel) (pa_cons (pe_ix ix_tup (pv 0) pe_int (fun _ _ => rfl)) (pa_cons (pe_bltn (v := .ty "bool") (by rfl) T.zbool (by decide +kernel) rfl) pa_nil)))))))) pss_nil)
 (pss_cons (ps_if (pt_cmpR op_eq (pv 2) pe_str (nomark _)) (pss_one (ps_ret (pe_call (ok_is_late T) hr rfl T.m_is_late T.F_is_late.kp (b_is_late T) .nil pass0 (pa_cons (pv 0) (pa_cons (pv 1) pa_nil))))) pss_nil)
 (pss_one (ps_ret (pe_and (pe_cmpR op_eq (pv 2) pe_str (nomark _)) (pe_one (pe_cmpR op_eq (pe_callB call_len_seq (by rfl) T.zlen (by decide +kernel) (pa_cons (pv 0) pa_nil)) pe_int (nomark _)))))))))))))), ?_⟩
    rw [show start N_is_row [v, .int n] = [some (v), some (.int n), none] from rfl]
    refine ⟨_, rfl, v, S, d, rfl, r, fun H1 s1 => ?_⟩
    have k1 : ∀ b, rowB d n = b → ∀ H', Same H1 H' → Q (.bl b) H' := fun b e H' s' => by
      have z := k H' (s1.trans s')
      rwa [e] at z
    refine ⟨_, rfl, ?_⟩
    refine ite2 (fun c => ?_) (fun c => ?_)
    · exact k1 false (by simp only [rowB]; rw [nbF c]; rfl) H1 (.refl _)
    replace c := nbT c
    obtain ⟨ds, rfl⟩ : ∃ ds, d = .tuple ds := tup_of (by
      have z := c
      unfold wordB at z
      exact (Bool.and_eq_true_iff.mp z).1)
    obtain ⟨a, xs, rfl, ha, _, rs⟩ := r.tupV
    have ha1 := s1 _ _ ha
    have rs1 := rs.sm s1
    have cw : decide (0 < (ds.length : Int)) = true ∧ isStr (nthD (.tuple ds) 0) = true := by
      have z : (true && (decide (0 < (ds.length : Int)) && isStr (nthD (.tuple ds) 0))) = true := c
      simpa using z
    have pos := of_decide_eq_true cw.1
    obtain ⟨w0, hw0⟩ : ∃ x, xs[0]? = some x := ⟨_, List.getElem?_eq_getElem (by rw [rs.length]; omega)⟩
    obtain ⟨d0, e0, r0⟩ := rs1.get hw0
    have n0 : nthD (.tuple ds) 0 = d0 := getD_of e0
    rw [n0] at cw
    obtain ⟨wd, rfl⟩ := str_of cw.2
    obtain rfl := r0.strV
    have rw0 : ∀ b, (if wd = "load" then lenIs (.tuple ds) 2 && numB (nthD (.tuple ds) 1) n
       else if wd = "give" then giveB (.tuple ds) n
       else if wd = "pass" then lenIs (.tuple ds) 4 && ((numB (nthD (.tuple ds) 2) n && nameB (nthD (.tuple ds) 1)) && nameB (nthD (.tuple ds) 3))
       else if wd = "show" then lenIs (.tuple ds) 3 && (needsB (nthD (.tuple ds) 1) n 2 && isBl (nthD (.tuple ds) 2))
       else if wd = "late" then lateB (.tuple ds) n
       else decide (wd = "out") && lenIs (.tuple ds) 1) = b → ∀ H', Same H1 H' → Q (.bl b) H' := fun b e => k1 b (by
      unfold rowB
      rw [c, n0]
      exact e)
    clear k1 k
    refine ⟨_, rfl, a, xs, 0, _, rfl, rfl, SqT.of ha1, atI_nat (j := 0) hw0, ?_⟩
    dsimp only [List.set]
    have lenE : ∀ m : Int, decide (V.int (xs.length : Int) = V.int m) = lenIs (.tuple ds) m := fun m => by
      rw [rs.length]
      unfold lenIs
      simp [itemsD] <;> rfl
    -- load
    refine ⟨_, rfl, rfl, _, rfl, ?_⟩
    refine ite2 (fun q => ?_) (fun q => ?_)
    · replace q : wd = "load" := by simpa using q
      rw [if_pos q] at rw0
      refine ⟨_, rfl, a, _, rfl, .inr (SqT.of (ha1)), rfl, _, rfl, ?_⟩
      rw [lenE]
      refine ite2 (fun c2 => ?_) (fun c2 => rw0 false (by rw [bF c2]; rfl) H1 (.refl _))
      obtain ⟨x, y, rfl⟩ := len2' (of_decide_eq_true c2)
      obtain ⟨a', p0, p1, e1, ha', rp0, rp1⟩ := (Rep.tup ha1 ‹_› rs1 : Rep S H1 (.ref a) (.tuple [x, y])).two
      obtain rfl : a = a' := by injection e1
      rw [ha1] at ha'
      obtain rfl : xs = [p0, p1] := by injection (Option.some.inj ha')
      refine ⟨_, rfl, a, _, 1, _, rfl, rfl, SqT.of (ha1), atI_nat (j := 1) rfl, _, rfl, p1, S, y, n, rfl, rp1, fun H2 s2 => rw0 _ (by rw [c2]; rfl) H2 s2⟩
    rw [if_neg (by simpa using q)] at rw0
    -- give
    refine ⟨_, rfl, rfl, _, rfl, ?_⟩
    refine ite2 (fun q => ?_) (fun q => ?_)
    · replace q : wd = "give" := by simpa using q
      rw [if_pos q] at rw0
      exact ⟨_, rfl, _, rfl, .ref a, S, .tuple ds, n, rfl, r.sm s1, rfl, fun H2 s2 => rw0 _ rfl H2 s2⟩
    rw [if_neg (by simpa using q)] at rw0
    -- pass
    refine ⟨_, rfl, rfl, _, rfl, ?_⟩
    refine ite2 (fun q => ?_) (fun q => ?_)
    · replace q : wd = "pass" := by simpa using q
      rw [if_pos q] at rw0
      refine ⟨_, rfl, a, _, rfl, .inr (SqT.of (ha1)), rfl, _, rfl, ?_⟩
      rw [lenE]
      refine ite2 (fun c2 => ?_) (fun c2 => rw0 false (by rw [bF c2]; rfl) H1 (.refl _))
      obtain ⟨x, y, z, u, rfl⟩ := len4 (of_decide_eq_true c2)
      obtain ⟨a', p0, p1, p2, p3, e1, ha', rp0, rp1, rp2, rp3⟩ := (Rep.tup ha1 ‹_› rs1 : Rep S H1 (.ref a) (.tuple [x, y, z, u])).four
      obtain rfl : a = a' := by injection e1
      rw [ha1] at ha'
      obtain rfl : xs = [p0, p1, p2, p3] := by injection (Option.some.inj ha')
      refine ⟨_, rfl, a, _, 2, _, rfl, rfl, SqT.of (ha1), atI_nat (j := 2) rfl, _, rfl, a, _, 1, _, rfl, rfl, SqT.of (ha1), atI_nat (j := 1) rfl, (by show 2 ≤ sizeLine; decide), fun t nt => ?_⟩
      have st : Same H1 (upd H1 t (.tup [p2, p1])) := same_new nt
      have rt : Rep [] (upd H1 t (.tup [p2, p1])) (.ref t) (.tuple [z, y]) := .tup upd_same (fun m => nomatch m) (.cons (Rep.less (fun _ m => absurd m (List.not_mem_nil)) _ _ (rp2.sm st)) (.cons (Rep.less (fun _ m => absurd m (List.not_mem_nil)) _ _ (rp1.sm st)) .nil))
      refine ⟨_, rfl, .ref t, [], .tuple [z, y], n, rfl, rt, fun H2 s2 => ⟨_, rfl, ?_⟩⟩
      have nb : needB (.tuple [z, y]) n = (numB z n && nameB y) := rfl
      refine ite2 (fun c3 => ?_) (fun c3 => rw0 false (by rw [c2]; show (true && ((numB z n && nameB y) && nameB u)) = false; rw [← nb, bF c3]; rfl) H2 (st.trans s2))
      refine ⟨_, rfl, a, _, 3, _, rfl, rfl, SqT.of ((st.trans s2) _ _ ha1), atI_nat (j := 3) rfl, p3, S, u, rfl, rp3.sm (st.trans s2), fun H3 s3 => rw0 _ (by rw [c2]; show (true && ((numB z n && nameB y) && nameB u)) = _; rw [← nb, c3]; rfl) H3 (st.trans (s2.trans s3))⟩
    rw [if_neg (by simpa using q)] at rw0
    -- show
    refine ⟨_, rfl, rfl, _, rfl, ?_⟩
    refine ite2 (fun q => ?_) (fun q => ?_)
    · replace q : wd = "show" := by simpa using q
      rw [if_pos q] at rw0
      refine ⟨_, rfl, a, _, rfl, .inr (SqT.of (ha1)), rfl, _, rfl, ?_⟩
      rw [lenE]
      refine ite2 (fun c2 => ?_) (fun c2 => rw0 false (by rw [bF c2]; rfl) H1 (.refl _))
      obtain ⟨x, y, z, rfl⟩ := len3 (of_decide_eq_true c2)
      obtain ⟨a', p0, p1, p2, e1, ha', rp0, rp1, rp2⟩ := (Rep.tup ha1 ‹_› rs1 : Rep S H1 (.ref a) (.tuple [x, y, z])).three
      obtain rfl : a = a' := by injection e1
      rw [ha1] at ha'
      obtain rfl : xs = [p0, p1, p2] := by injection (Option.some.inj ha')
      refine ⟨_, rfl, a, _, 1, _, rfl, rfl, SqT.of (ha1), atI_nat (j := 1) rfl, _, rfl, p1, S, y, n, 2, rfl, rp1, by decide, fun H2 s2 => ⟨_, rfl, ?_⟩⟩
      refine ite2 (fun c3 => ?_) (fun c3 => rw0 false (by rw [c2]; show (true && (needsB y n 2 && isBl z)) = false; rw [bF c3]; rfl) H2 s2)
      refine ⟨_, rfl, a, _, 2, _, rfl, rfl, SqT.of (s2 _ _ ha1), atI_nat (j := 2) rfl, _, "bool", S, z, _, rfl, rp2.sm s2, kit_bool z, rw0 _ (by rw [c2]; show (true && (needsB y n 2 && isBl z)) = _; rw [c3]; rfl) H2 s2⟩
    rw [if_neg (by simpa using q)] at rw0
    -- late
    refine ⟨_, rfl, rfl, _, rfl, ?_⟩
    refine ite2 (fun q => ?_) (fun q => ?_)
    · replace q : wd = "late" := by simpa using q
      rw [if_pos q] at rw0
      exact ⟨_, rfl, _, rfl, .ref a, S, .tuple ds, n, rfl, r.sm s1, rfl, fun H2 s2 => rw0 _ rfl H2 s2⟩
    rw [if_neg (by simpa using q)] at rw0
    -- out
    refine ⟨_, rfl, rfl, _, rfl, ?_⟩
    refine ite2 (fun q => ?_) (fun q => ?_)
    · refine ⟨_, rfl, a, _, rfl, .inr (SqT.of (ha1)), rfl, ?_⟩
      rw [lenE]
      exact rw0 _ (by rw [show decide (wd = ("out" : Str)) = true by simpa using q]; rfl) H1 (.refl _)
    · exact rw0 false (by rw [show decide (wd = ("out" : Str)) = false by simpa using q]; rfl) H1 (.refl _)
def sp_are_parts : Sp := fun vs H Q _ => ∃ (v : V) (S : List Addr) (d : PyData), vs = [v] ∧ Rep S H v d ∧ ∀ H', Same H H' → Q (.bl (partsB d)) H'
theorem ok_are_parts (T : Txt K mg A) : FnOk P w K mg base CX0 7 A.f_are_parts A.d_are_parts ["thing"] (sp_are_parts) := by
  refine T.F_are_parts.ok sc_are_parts (fun vs H Q E h => ?_) (fun cdv Ar outer s H vs Q E hr h => ?_)
  · obtain ⟨v, S, d, rfl, r, k⟩ := h
    rfl
  · obtain ⟨v, S, d, rfl, r, k⟩ := h
    obtain ⟨t_MOST_PARTS, c_MOST_PARTS⟩ := T.i_MOST_PARTS
    obtain ⟨t_MOST_ROWS_OF_PART, c_MOST_ROWS_OF_PART⟩ := T.i_MOST_ROWS_OF_PART
    obtain ⟨t_MOST_ROWS, c_MOST_ROWS⟩ := T.i_MOST_ROWS
    obtain ⟨t_MOST_OUTS, c_MOST_OUTS⟩ := T.i_MOST_OUTS
    refine ⟨_, PSs.nox ((pss_cons (ps_if (pt_not (pt_val (pe_call (ok_is_tuple T) (hr.mono (by decide)) rfl T.m_is_tuple T.F_is_tuple.kp (b_is_tuple T) .nil pass0 (pa_cons (pv 0) (pa_cons pe_int (pa_cons (pe_glob (v := .int (4)) (by rfl) c_MOST_PARTS ⟨_, rfl⟩) pa_nil)))))) (pss_one (ps_ret pe_bl)) pss_nil)
 (pss_cons (ps_if (pt_not (pt_val (pe_callB (cr_all rfl) (by rfl) T.zall (by decide +kernel) (pa_cons (pe_lc (own := [("part", 2)]) (g := (gName 2)) (tt := tYes) rfl sc_are_parts.nd (pi_tup (pv 0)) (blkOk_by (N := N_are_parts) (sc := defScope s_are_parts) (by decide +kernel)) (fun _ _ _ _ _ => (pg_name (i := 2) sc_are_parts.nd rfl (Or.inl rfl))) (fun _ _ _ _ _ => pts_nil) (fun _ _ _ _ _ => (pe_call (ok_is_tuple T) (hr.mono (by decide)) rfl T.m_is_tuple T.F_is_tuple.kp (b_is_tuple T) .nil pass0 (pa_cons (pv 2) (pa_cons pe_int (pa_cons (pe_glob (v := .int (5)) (by rfl) c_MOST_ROWS_OF_PART ⟨_, rfl⟩) pa_nil)))))) pa_nil)))) (pss_one (ps_ret pe_bl)) pss_nil)
 (pss_cons (ps_setLc2 (i := 1) (own := [("part", 2), ("row", 3)]) (vs1 := [3]) (g := (gName 2)) (tt := tYes) (g1 := (gName 3)) (tt1 := tYes) rfl sc_are_parts.nd rfl rfl (sw_true rfl rfl rfl (by decide +kernel)) (pi_tup (pv 0)) (blkOk_by (N := N_are_parts) (sc := defScope s_are_parts) (by decide +kernel)) (by decide) (fun _ _ _ _ _ => (pg_name (i := 2) sc_are_parts.nd rfl (Or.inl rfl))) (fun _ _ _ _ _ => pts_nil) (fun _ _ _ _ _ => (show PI _ _ _ (iTup K (tVar 2)) from pi_tup (pv 2))) (fun _ _ _ _ _ => (pg_name (i := 3) sc_are_parts.nd rfl (Or.inl rfl))) (fun _ _ _ _ _ => pts_nil) (fun _ _ _ _ _ => (pv 3)))
 (pss_cons (ps_if (PW.pt (pw_or (pt_cmpR op_gt (pe_callB call_len_seq (by rfl) T.zlen (by decide +kernel) (pa_cons (pv 1) pa_nil)) (pe_glob (v := .int (12)) (by rfl) c_MOST_ROWS ⟨_, rfl⟩) (nomark _)) (pw_or1 (pt_not (pt_val (pe_callB (cr_all rfl) (by rfl) T.zall (by decide +kernel) (pa_cons (pe_lc (own := [("row", 3)]) (g := (gName 3)) (tt := tYes) rfl sc_are_parts.nd (pi_list (pv 1)) (blkOk_by (N := N_are_parts) (sc := defScope s_are_parts) (by decide +kernel)) (fun _ _ _ _ _ => (pg_name (i := 3) sc_are_parts.nd rfl (Or.inl rfl))) (fun _ _ _ _ _ => pts_nil) (fun _ _ _ _ _ => (pe_call (ok_is_row T) hr rfl T.m_is_row T.F_is_row.kp (b_is_row T) .nil pass0 (pa_cons (pv 3) (pa_cons (pe_callB (show CallR _ _ (rLen2 K) from len_k) (by rfl) T.zlen (by decide +kernel) (pa_cons (pv 0) pa_nil)) pa_nil))))) pa_nil))))))) (pss_one (ps_ret pe_bl)) pss_nil)
 (pss_one (ps_ret (pe_cmpR op_le (pe_callB call_len_seq (by rfl) T.zlen (by decide +kernel) (pa_cons (pe_lc (own := [("row", 3)]) (g := (gName 3)) (tt := _) rfl sc_are_parts.nd (pi_list (pv 1)) (blkOk_by (N := N_are_parts) (sc := defScope s_are_parts) (by decide +kernel)) (fun _ _ _ _ _ => (pg_name (i := 3) sc_are_parts.nd rfl (Or.inl rfl))) (fun _ _ _ _ _ => (pts_one (pt_cmpR op_eq (pe_ix (show IxR _ (rIxT K) from ix_tup) (pv 3) pe_int (fun _ _ => rfl)) pe_str (nomark _)))) (fun _ _ _ _ _ => (pv 3))) pa_nil)) (pe_glob (v := .int (2)) (by rfl) c_MOST_OUTS ⟨_, rfl⟩) (nomark _))))))))), ?_⟩
    rw [show start N_are_parts [v] = [some (v), none, none, none] from rfl]
    refine ⟨_, rfl, v, S, d, 1, 4, rfl, r, fun H1 s1 => ⟨_, rfl, ?_⟩⟩
    refine ite2 (fun c => ?_) (fun c => ?_)
    · have e := k H1 s1
      rwa [show partsB d = false by unfold partsB; rw [nbF c]; rfl] at e
    replace c := nbT c
    obtain ⟨ps, rfl, p1, p4⟩ := tupB_len c
    obtain ⟨a, xs, rfl, ha, _, rs⟩ := r.tupV
    have dl : ps.length ≤ 1000 := by omega
    have H1' := s1
    
    refine ⟨_, rfl, a, rfl, ⟨_, SqT.of (s1 _ _ ha)⟩, fun D nD => ?_⟩
    refine lc_pure (walk_tup (xs := xs)) nD (fun i => V.bl ((fun z => tupB z 0 5) (ps.getD i .none))) (by rw [rs.length, sizeLine_eq]; omega) (fun H' s' => SqT.of (s' _ _ (s1 _ _ ha))) ?_ ?_
    · rintro i x H' H'' F hi s' ⟨rfl, hx⟩ fin
      obtain ⟨d1, e1, r0⟩ := rs.get hx
      have r1 := r0.sm (s1.trans s')
      refine ⟨rfl, ?_⟩
      rw [getD_of e1] at fin
      exact ⟨_, rfl, x, S, d1, 0, 5, rfl, r1, fun H3 s3 => fin H3 s3⟩
    · intro H' s' hD
      have e2 : (List.range xs.length).map (fun i => V.bl ((fun z => tupB z 0 5) (ps.getD i .none))) = ((List.range ps.length).map fun i => (fun z => tupB z 0 5) (ps.getD i .none)).map V.bl := by rw [rs.length, bl_map (fun i => (fun z => tupB z 0 5) (ps.getD i .none))]
      rw [e2] at hD
      refine ⟨D, _, rfl, SqL.of hD, ?_⟩
      rw [range_all (fun z => (fun z => tupB z 0 5) z)]
    
      refine ⟨_, rfl, ?_⟩
      refine ite2 (fun c2 => ?_) (fun c2 => ?_)
      · have e := k H' (s1.trans s')
        rwa [show partsB (.tuple ps) = false by
          unfold partsB
          rw [c]
          show (true && (ps.all (fun p => tupB p 0 5) && _)) = false
          rw [nbF c2]
          rfl] at e
      replace c2 := nbT c2
      have all5 : ∀ p ∈ ps, ∃ rows, p = .tuple rows ∧ rows.length ≤ 5 := fun p hp => by
        obtain ⟨rows, e, _, h5⟩ := tupB_len (List.all_eq_true.mp c2 p hp)
        exact ⟨rows, e, by omega⟩
      have s2 := s1.trans s'
      clear hD e2 s' c2 nD
      -- rows
      refine ⟨_, rfl, a, rfl, ⟨_, SqT.of (s2 _ _ ha)⟩, fun R nR => ?_⟩
      have rsR : Reps (R :: S) H' xs ps := Reps.more nR _ _ (rs.sm s2)
      refine lc2_out (walk_tup (xs := xs)) (fun i H3 => Same H' H3 ∧ ∃ acc, H3 R = some (.lst acc) ∧ Reps (R :: S) H3 acc ((ps.take i).flatMap itemsD)) ⟨same_new nR, [], upd_same, .nil⟩ (fun i H3 _ p => SqT.of (p.1 _ _ (s2 _ _ ha))) ?_ ?_
      · rintro i x H3 H3' hi ⟨s3, acc, hR, rA⟩ ⟨rfl, hx⟩
        obtain ⟨p, hp, rp⟩ := rsR.get hx
        have pm := List.mem_of_getElem? hp
        obtain ⟨rows, rfl, l5⟩ := all5 p pm
        obtain ⟨b, ys, rfl, hb, _, rb⟩ := rp.tupV
        have ip : i < ps.length := (List.getElem?_eq_some_iff.mp hp).1
        have accl : acc.length ≤ 5 * i := by
          rw [rA.length, List.length_flatMap]
          have key : ∀ l : List PyData, (∀ p ∈ l, ∃ rows, p = .tuple rows ∧ rows.length ≤ 5) → (l.map fun p => (itemsD p).length).sum ≤ 5 * l.length := by
            intro l
            induction l with
            | nil => intro _; simp
            | cons q l ih =>
              intro h
              obtain ⟨rows, rfl, h5⟩ := h _ List.mem_cons_self
              have := ih fun p hp => h p (List.mem_cons_of_mem _ hp)
              rw [List.map_cons, List.sum_cons]
              show rows.length + (l.map fun p => (itemsD p).length).sum ≤ 5 * (l.length + 1)
              omega
          have := key (ps.take i) fun p hp => all5 p (List.mem_of_mem_take hp)
          rw [List.length_take] at this
          omega
        refine ⟨rfl, _, rfl, b, rfl, ⟨_, SqT.of (s3 _ _ hb)⟩, ?_⟩
        refine lc2_in (walk_tup (xs := ys)) (fun j H4 => Same H' H4 ∧ ∃ acc', H4 R = some (.lst acc') ∧ Reps (R :: S) H4 acc' ((ps.take i).flatMap itemsD ++ rows.take j)) ⟨s3, acc, hR, by rw [List.take_zero, List.append_nil]; exact rA⟩ (fun j H4 _ p => SqT.of (p.1 _ _ hb)) ?_ ?_
        · rintro j y H4 H4' hj ⟨s4, acc', hR4, rA4⟩ ⟨rfl, hy⟩
          obtain ⟨q, hq, rq⟩ := (rb.sm s4).get hy
          have lb := rb.length
          have l4 : acc'.length < sizeLine := by
            rw [rA4.length, List.length_append, ← rA.length, List.length_take, sizeLine_eq]
            omega
          have bu : But (R :: S) H4' (upd H4' R (.lst (acc' ++ [y]))) := But.refl.upd List.mem_cons_self
          refine ⟨rfl, y, rfl, acc', hR4, l4, ?_, acc' ++ [y], upd_same, ?_⟩
          · intro b' o e
            rw [upd_ne (ne_of_none e nR)]
            exact s4 _ _ e
          · rw [List.take_succ, hq, ← List.append_assoc]
            exact (rA4.app (.one rq)).mv bu
        · rintro H4 ⟨s4, acc', hR4, rA4⟩
          refine ⟨s4, acc', hR4, ?_⟩
          rw [rb.length, List.take_length] at rA4
          rw [List.take_succ, hp, List.flatMap_append]
          simpa [itemsD] using rA4
      · rintro H3 ⟨s3, acc, hR, rA⟩
        rw [rs.length, List.take_length] at rA
        have s23 := s2.trans s3
        have rA' : Reps S H3 acc (rowsOfD (.tuple ps)) := rA.less fun b z => List.mem_cons_of_mem _ z
        have pb : partsB (.tuple ps) = (decide (((rowsOfD (.tuple ps)).length : Int) ≤ 12) && ((rowsOfD (.tuple ps)).all (fun r => rowB r (ps.length : Int)) && decide ((((rowsOfD (.tuple ps)).filter fun r => decide (strOf (nthD r 0) = "out")).length : Int) ≤ 2))) := by
          unfold partsB
          rw [c]
          show (true && (ps.all (fun p => tupB p 0 5) && _)) = _
          rw [show ps.all (fun p => tupB p 0 5) = true from List.all_eq_true.mpr fun p hp => by
            obtain ⟨rows, rfl, h5⟩ := all5 p hp
            show (true && (decide (0 ≤ (rows.length : Int)) && decide ((rows.length : Int) ≤ 5))) = true
            rw [decide_eq_true (by omega), decide_eq_true (by omega)]
            rfl]
          rfl
        rw [pb] at k
        clear pb rA all5 c p1
        generalize rowsOfD (.tuple ps) = rows at rA' k
        refine ⟨_, rfl, R, acc, rfl, .inl (SqL.of hR), _, _, rfl, rfl, _, rfl, ?_⟩
        rw [rA'.length]
        refine ite2 (fun c => iteT ?_) (fun c => ?_)
        · have c12 : 12 < (rows.length : Int) := of_decide_eq_true c
          have e := k H3 s23
          rwa [show decide ((rows.length : Int) ≤ 12) = false from decide_eq_false (by omega)] at e
        have c12 : ¬ 12 < (rows.length : Int) := fun z => c (decide_eq_true z)
        rw [show decide ((rows.length : Int) ≤ 12) = true from decide_eq_true (by omega)] at k
        refine ⟨_, rfl, R, rfl, ⟨_, SqL.of hR⟩, fun D nD => ?_⟩
        refine lc_pure (walk_list (xs := acc)) nD (fun i => V.bl ((fun r => rowB r (ps.length : Int)) (rows.getD i .none))) (by rw [rA'.length, sizeLine_eq]; omega) (fun H4 s4 => SqL.of (s4 _ _ hR)) ?_ ?_
        · rintro i x H4 H4' F hi s4 ⟨rfl, hx⟩ fin
          obtain ⟨d1, e1, r1⟩ := rA'.get hx
          rw [getD_of e1] at fin
          refine ⟨rfl, _, rfl, _, rfl, a, xs, rfl, .inr (SqT.of (s4 _ _ (s23 _ _ ha))), ?_⟩
          rw [rs.length]
          exact ⟨x, S, d1, _, rfl, r1.sm s4, fun H5 s5 => fin H5 s5⟩
        · intro H4 s4 hD
          have e2 : (List.range acc.length).map (fun i => V.bl ((fun r => rowB r (ps.length : Int)) (rows.getD i .none))) = ((List.range rows.length).map fun i => (fun r => rowB r (ps.length : Int)) (rows.getD i .none)).map V.bl := by rw [rA'.length, bl_map (fun i => (fun r => rowB r (ps.length : Int)) (rows.getD i .none))]
          rw [e2] at hD
          refine ⟨D, _, rfl, SqL.of hD, ?_⟩
          rw [range_all (fun r => rowB r (ps.length : Int))]
          refine ⟨_, rfl, ?_⟩
          refine ite2 (fun c2 => ?_) (fun c2 => ?_)
          · have e := k H4 (s23.trans s4)
            rwa [show rows.all (fun r => rowB r (ps.length : Int)) = false from nbF c2] at e
          replace c2 := nbT c2
          rw [c2] at k
          clear hD e2 nD
          have hR4 := s4 _ _ hR
          have rA4 := rA'.sm s4
          have s24 := s23.trans s4
          refine ⟨_, rfl, R, rfl, ⟨_, SqL.of hR4⟩, fun D nD => ?_⟩
          refine lc_it (walk_list (xs := acc)) (fun i H5 => Same H4 H5 ∧ ∃ kept, H5 D = some (.lst kept) ∧ kept.length = ((rows.take i).filter fun r => decide (strOf (nthD r 0) = "out")).length) ⟨same_new nD, [], upd_same, rfl⟩ (fun i H5 _ p => SqL.of (p.1 _ _ hR4)) ?_ ?_
          · rintro i x H5 H5' hi ⟨s5, kept, hD5, kl⟩ ⟨rfl, hx⟩
            obtain ⟨d1, e1, r1⟩ := (rA4.sm s5).get hx
            have rb := List.all_eq_true.mp c2 d1 (List.mem_of_getElem? e1)
            have wb : wordB d1 = true := by
              unfold rowB at rb
              exact (Bool.and_eq_true_iff.mp rb).1
            unfold wordB at wb
            rw [Bool.and_eq_true, Bool.and_eq_true, decide_eq_true_eq] at wb
            obtain ⟨wt, wl, ws⟩ := wb
            obtain ⟨ws', rfl⟩ := tup_of wt
            obtain ⟨t, tv, rfl, ht, _, rt⟩ := r1.tupV
            have wl' : 0 < (ws'.length : Int) := wl
            obtain ⟨w0, hw0⟩ : ∃ x, tv[0]? = some x := ⟨_, List.getElem?_eq_getElem (by rw [rt.length]; omega)⟩
            obtain ⟨d0, e0, r0⟩ := rt.get hw0
            have n0 : nthD (.tuple ws') 0 = d0 := getD_of e0
            rw [n0] at ws
            obtain ⟨wd, rfl⟩ := str_of ws
            obtain rfl := r0.strV
            have tk : (rows.take (i + 1)).filter (fun r => decide (strOf (nthD r 0) = "out")) = (rows.take i).filter (fun r => decide (strOf (nthD r 0) = "out")) ++ (if wd = "out" then [.tuple ws'] else []) := by
              rw [List.take_succ, e1, List.filter_append]
              congr 1
              show List.filter _ [PyData.tuple ws'] = _
              by_cases q : wd = "out"
              · rw [if_pos q, List.filter_cons_of_pos (by show decide (strOf (nthD (.tuple ws') 0) = "out") = true; rw [n0]; exact decide_eq_true q), List.filter_nil]
              · rw [if_neg q, List.filter_cons_of_neg (by show ¬ decide (strOf (nthD (.tuple ws') 0) = "out") = true; rw [n0]; exact fun z => q (of_decide_eq_true z)), List.filter_nil]
            have kk_ : kept.length ≤ i := by
              rw [kl]
              refine Nat.le_trans (List.length_filter_le _ _) ?_
              rw [List.length_take]
              omega
            have il : i < rows.length := (List.getElem?_eq_some_iff.mp e1).1
            refine ⟨rfl, _, rfl, t, tv, 0, _, rfl, rfl, SqT.of ht, atI_nat (j := 0) hw0, rfl, _, rfl, ?_⟩
            refine ite2 (fun q => ?_) (fun q => ?_)
            · refine ⟨_, rfl, kept, hD5, by rw [sizeLine_eq]; omega, fun b o e => ?_, _, upd_same, ?_⟩
              · rw [upd_ne (ne_of_none e nD)]
                exact s5 _ _ e
              · rw [tk, if_pos (by simpa using q), List.length_append, List.length_append, kl]
                rfl
            · refine ⟨s5, kept, hD5, ?_⟩
              rw [tk, if_neg (by simpa using q), List.append_nil]
              exact kl
          · rintro H5 ⟨s5, kept, hD5, kl⟩
            rw [rA'.length, List.take_length] at kl
            refine ⟨D, kept, rfl, .inl (SqL.of hD5), _, _, rfl, rfl, ?_⟩
            rw [kl]
            exact k H5 (s24.trans s5)
def sp_are_marks : Sp := fun vs H Q _ => ∃ (v : V) (S : List Addr) (d : PyData) (n : Int), vs = [v, .int n] ∧ Rep S H v d ∧ n ≤ 100 ∧ ∀ H', Same H H' → Q (.bl (marksB d n)) H'
theorem ok_are_marks (T : Txt K mg A) : FnOk P w K mg base CX0 2 A.f_are_marks A.d_are_marks ["thing", "many_parts"] (sp_are_marks) := by
  refine T.F_are_marks.ok sc_are_marks (fun vs H Q E h => ?_) (fun cdv Ar outer s H vs Q E hr h => ?_)
  · obtain ⟨v, S, d, n, rfl, r, m100, k⟩ := h
    rfl
  · obtain ⟨v, S, d, n, rfl, r, m100, k⟩ := h
    refine ⟨_, PSs.nox ((pss_one (ps_ret (pe_and (pe_call (ok_is_tuple T) hr rfl T.m_is_tuple T.F_is_tuple.kp (b_is_tuple T) .nil pass0 (pa_cons (pv 0) (pa_cons (pv 1) (pa_cons (pv 1) pa_nil)))) (pe_one (pe_callB (cr_all rfl) (by rfl) T.zall (by decide +kernel) (pa_cons (pe_lc (own := [("mark", 2)]) (g := (gName 2)) (tt := tYes) rfl sc_are_marks.nd (pi_tup (pv 0)) (blkOk_by (N := N_are_marks) (sc := defScope s_are_marks) (by decide +kernel)) (fun _ _ _ _ _ => (pg_name (i := 2) sc_are_marks.nd rfl (Or.inl rfl))) (fun _ _ _ _ _ => pts_nil) (fun _ _ _ _ _ => (pe_callB call_isiD (by rfl) T.zisinstance (by decide +kernel) (pa_cons (pv 2) (pa_cons (pe_bltn (v := .ty "bool") (by rfl) T.zbool (by decide +kernel) rfl) pa_nil))))) pa_nil))))))), ?_⟩
    rw [show start N_are_marks [v, .int n] = [some (v), some (.int n), none] from rfl]
    refine ⟨_, rfl, _, rfl, _, rfl, v, S, d, n, n, rfl, r, fun H1 s1 => ⟨_, rfl, ?_⟩⟩
    refine ite2 (fun c => ?_) (fun c => ?_)
    · obtain ⟨ds, rfl, h1, h2⟩ := tupB_len c
      obtain ⟨a, xs, rfl, ha, _, rs⟩ := r.tupV
      refine ⟨_, rfl, a, rfl, ⟨_, SqT.of (s1 _ _ ha)⟩, fun D nD => ?_⟩
      refine lc_pure (walk_tup (xs := xs)) nD (fun i => V.bl (isBl (ds.getD i .none))) (by rw [rs.length, sizeLine_eq]; omega) (fun H' s' => SqT.of (s' _ _ (s1 _ _ ha))) ?_ ?_
      · rintro i x H' H'' F hi s' ⟨rfl, hx⟩ fin
        obtain ⟨d1, e1, r0⟩ := rs.get hx
        have r1 := r0.sm (s1.trans s')
        refine ⟨rfl, ?_⟩
        rw [getD_of e1] at fin
        exact ⟨_, rfl, x, "bool", S, d1, _, rfl, r1, kit_bool d1, fin _ (.refl _)⟩
      · intro H' s' hD
        have e2 : (List.range xs.length).map (fun i => V.bl (isBl (ds.getD i .none))) = ((List.range ds.length).map fun i => isBl (ds.getD i .none)).map V.bl := by rw [rs.length, bl_map (fun i => isBl (ds.getD i .none))]
        rw [e2] at hD
        refine ⟨D, _, rfl, SqL.of hD, ?_⟩
        rw [range_all (fun z => isBl z)]
        have e := k H' (s1.trans s')
        rwa [show marksB (.tuple ds) n = ds.all (fun z => isBl z) by simp [marksB, c, itemsD]] at e
    · have e := k H1 s1
      rwa [show marksB d n = false by simp [marksB, c]] at e
def sp_are_entries : Sp := fun vs H Q _ => ∃ (v : V) (S : List Addr) (d : PyData) (n : Int), vs = [v, .int n] ∧ Rep S H v d ∧ ∀ H', Same H H' → Q (.bl (entriesB d n)) H'
theorem ok_are_entries (T : Txt K mg A) : FnOk P w K mg base CX0 3 A.f_are_entries A.d_are_entries ["thing", "many_parts"] (sp_are_entries) := by
  refine T.F_are_entries.ok sc_are_entries (fun vs H Q E h => ?_) (fun cdv Ar outer s H vs Q E hr h => ?_)
  · obtain ⟨v, S, d, n, rfl, r, k⟩ := h
    rfl
  · obtain ⟨v, S, d, n, rfl, r, k⟩ := h
    obtain ⟨t_MOST_ENTRIES, c_MOST_ENTRIES⟩ := T.i_MOST_ENTRIES
    refine ⟨_, PSs.nox ((pss_cons (ps_if (PW.pt (pw_or (pt_not (pt_val (pe_call (ok_is_tuple T) (hr.mono (by decide)) rfl T.m_is_tuple T.F_is_tuple.kp (b_is_tuple T) .nil pass0 (pa_cons (pv 0) (pa_cons pe_int (pa_cons (pe_glob (v := .int (3)) (by rfl) c_MOST_ENTRIES ⟨_, rfl⟩) pa_nil)))))) (pw_or1 (pt_not (pt_val (pe_callB (cr_all rfl) (by rfl) T.zall (by decide +kernel) (pa_cons (pe_lc (own := [("part", 2)]) (g := (gName 2)) (tt := tYes) rfl sc_are_entries.nd (pi_tup (pv 0)) (blkOk_by (N := N_are_entries) (sc := defScope s_are_entries) (by decide +kernel)) (fun _ _ _ _ _ => (pg_name (i := 2) sc_are_entries.nd rfl (Or.inl rfl))) (fun _ _ _ _ _ => pts_nil) (fun _ _ _ _ _ => (pe_call (ok_is_number T) hr rfl T.m_is_number T.F_is_number.kp (b_is_number T) .nil pass0 (pa_cons (pv 2) (pa_cons (pv 1) pa_nil))))) pa_nil))))))) (pss_one (ps_ret pe_bl)) pss_nil)
 (pss_one (ps_ret (pe_call (ok_is_ascending T) (hr.mono (by decide)) rfl T.m_is_ascending T.F_is_ascending.kp (b_is_ascending T) .nil pass0 (pa_cons (pv 0) pa_nil)))))), ?_⟩
    rw [show start N_are_entries [v, .int n] = [some (v), some (.int n), none] from rfl]
    refine ⟨_, rfl, v, S, d, 1, 3, rfl, r, fun H1 s1 => ⟨_, rfl, ?_⟩⟩
    refine ite2 (fun c => iteT ?_) (fun c => ?_)
    · have e := k H1 s1
      rwa [show entriesB d n = false by unfold entriesB; rw [nbF c]; rfl] at e
    replace c := nbT c
    obtain ⟨ds, rfl, h1, h2⟩ := tupB_len c
    obtain ⟨a, xs, rfl, ha, _, rs⟩ := r.tupV
    
    refine ⟨_, rfl, a, rfl, ⟨_, SqT.of (s1 _ _ ha)⟩, fun D nD => ?_⟩
    refine lc_pure (walk_tup (xs := xs)) nD (fun i => V.bl ((fun z => numB z n) (ds.getD i .none))) (by rw [rs.length, sizeLine_eq]; omega) (fun H' s' => SqT.of (s' _ _ (s1 _ _ ha))) ?_ ?_
    · rintro i x H' H'' F hi s' ⟨rfl, hx⟩ fin
      obtain ⟨d1, e1, r0⟩ := rs.get hx
      have r1 := r0.sm (s1.trans s')
      refine ⟨rfl, ?_⟩
      rw [getD_of e1] at fin
      exact ⟨_, rfl, _, rfl, x, S, d1, n, rfl, r1, fun H3 s3 => fin H3 s3⟩
    · intro H' s' hD
      have e2 : (List.range xs.length).map (fun i => V.bl ((fun z => numB z n) (ds.getD i .none))) = ((List.range ds.length).map fun i => (fun z => numB z n) (ds.getD i .none)).map V.bl := by rw [rs.length, bl_map (fun i => (fun z => numB z n) (ds.getD i .none))]
      rw [e2] at hD
      refine ⟨D, _, rfl, SqL.of hD, ?_⟩
      rw [range_all (fun z => (fun z => numB z n) z)]
    
      refine ⟨_, rfl, ?_⟩
      refine ite2 (fun c2 => ?_) (fun c2 => ?_)
      · have e := k H' (s1.trans s')
        rwa [show entriesB (.tuple ds) n = false by
          unfold entriesB
          rw [c]
          show (true && (ds.all (fun x => numB x n) && _)) = false
          rw [nbF c2]
          rfl] at e
      replace c2 := nbT c2
      have allI : ∀ d ∈ ds, ∃ i, d = .int i := fun d hd => by
        have z := List.all_eq_true.mp c2 d hd
        exact int_of (Bool.and_eq_true_iff.mp z).1
      refine ⟨_, rfl, .ref a, S, ds, rfl, r.sm (s1.trans s'), by omega, fun d hd e he => ?_, fun d hd => ?_, fun H4 s4 => ?_⟩
      · obtain ⟨i, rfl⟩ := allI d hd
        obtain ⟨j, rfl⟩ := allI e he
        simp [PySem.W.alike]
      · obtain ⟨i, rfl⟩ := allI d hd
        exact ⟨(fun z => nomatch z), by simp [PyData.depth], rfl⟩
      · have e := k H4 (s1.trans (s'.trans s4))
        rwa [show entriesB (.tuple ds) n = ascB ds by
          unfold entriesB
          rw [c]
          show (true && (ds.all (fun x => numB x n) && _)) = _
          rw [c2]
          rfl] at e
def sp_are_opens : Sp := fun vs H Q _ => ∃ (v : V) (S : List Addr) (d : PyData) (n : Int), vs = [v, .int n] ∧ Rep S H v d ∧ ∀ H', Same H H' → Q (.bl (opensB d n)) H'
theorem ok_are_opens (T : Txt K mg A) : FnOk P w K mg base CX0 5 A.f_are_opens A.d_are_opens ["thing", "many_parts"] (sp_are_opens) := by
  refine T.F_are_opens.ok sc_are_opens (fun vs H Q E h => ?_) (fun cdv Ar outer s H vs Q E hr h => ?_)
  · obtain ⟨v, S, d, n, rfl, r, k⟩ := h
    rfl
  · obtain ⟨v, S, d, n, rfl, r, k⟩ := h
    obtain ⟨t_MOST_OPENS, c_MOST_OPENS⟩ := T.i_MOST_OPENS
    refine ⟨_, PSs.nox ((pss_one (ps_ret (pe_and (pe_call (ok_are_needs T) hr rfl T.m_are_needs T.F_are_needs.kp (b_are_needs T) .nil pass0 (pa_cons (pv 0) (pa_cons (pv 1) (pa_cons (pe_glob (v := .int (4)) (by rfl) c_MOST_OPENS ⟨_, rfl⟩) pa_nil)))) (pe_one (pe_call (ok_is_ascending T) (hr.mono (by decide)) rfl T.m_is_ascending T.F_is_ascending.kp (b_is_ascending T) .nil pass0 (pa_cons (pv 0) pa_nil))))))), ?_⟩
    rw [show start N_are_opens [v, .int n] = [some (v), some (.int n)] from rfl]
    refine ⟨_, rfl, _, rfl, v, S, d, n, 4, rfl, r, by decide, fun H1 s1 => ⟨_, rfl, ?_⟩⟩
    refine ite2 (fun c => ?_) (fun c => ?_)
    · have cc := c
      unfold needsB at cc
      rw [Bool.and_eq_true] at cc
      obtain ⟨ds, rfl, h1, h2⟩ := tupB_len cc.1
      have nms : ∀ d ∈ ds, ∃ i x, d = .tuple [.int i, .str x] := fun d hd => by
        have z := List.all_eq_true.mp cc.2 d hd
        unfold needB at z
        rw [Bool.and_eq_true, Bool.and_eq_true] at z
        obtain ⟨es, rfl, l1, l2⟩ := tupB_len z.1
        obtain ⟨x, y, rfl⟩ := len2 l1 l2
        obtain ⟨i, hi⟩ := int_of (Bool.and_eq_true_iff.mp z.2.1).1
        obtain ⟨w, hw⟩ := str_of (Bool.and_eq_true_iff.mp z.2.2).1
        have ex : x = .int i := hi
        have ey : y = .str w := hw
        exact ⟨i, w, by rw [ex, ey]⟩
      refine ⟨_, rfl, v, S, ds, rfl, r.sm s1, by omega, fun d hd e he => ?_, fun d hd => ?_, fun H4 s4 => ?_⟩
      · obtain ⟨i, x, rfl⟩ := nms d hd
        obtain ⟨j, y, rfl⟩ := nms e he
        simp [PySem.W.alike, PySem.W.alikeAll]
      · obtain ⟨i, x, rfl⟩ := nms d hd
        exact ⟨(fun z => nomatch z), by simp [PyData.depth, PyData.depthAll], rfl⟩
      · have e := k H4 (s1.trans s4)
        rwa [show opensB (.tuple ds) n = ascB ds by
          unfold opensB
          rw [c]
          rfl] at e
    · have e := k H1 s1
      rwa [show opensB d n = false by unfold opensB; rw [bF c]; rfl] at e
def sp_is_program : Sp := fun vs H Q _ => ∃ (v : V) (S : List Addr) (d : PyData), vs = [v] ∧ Rep S H v d ∧ ∀ H', Same H H' → Q (.bl (progB d)) H'
theorem ok_is_program (T : Txt K mg A) : FnOk P w K mg base CX0 8 A.f_is_program A.d_is_program ["thing"] (sp_is_program) := by
  refine T.F_is_program.ok sc_is_program (fun vs H Q E h => ?_) (fun cdv Ar outer s H vs Q E hr h => ?_)
  · obtain ⟨v, S, d, rfl, r, k⟩ := h
    rfl
  · obtain ⟨v, S, d, rfl, r, k⟩ := h
    refine ⟨_, PSs.nox ((pss_cons (ps_if (PW.pt (pw_or (pt_not (pt_val (pe_call (ok_is_tuple T) (hr.mono (by decide)) rfl T.m_is_tuple T.F_is_tuple.kp (b_is_tuple T) .nil pass0 (pa_cons (pv 0) (pa_cons pe_int (pa_cons pe_int pa_nil)))))) (pw_or1 (pt_not (pt_val (pe_call (ok_are_parts T) hr rfl T.m_are_parts T.F_are_parts.kp (b_are_parts T) .nil pass0 (pa_cons (pe_ix ix_tup (pv 0) pe_int (fun _ _ => rfl)) pa_nil))))))) (pss_one (ps_ret pe_bl)) pss_nil)
 (pss_cons (ps_set (i := 1) sc_is_program.nd rfl (Or.inl rfl) (pe_callB call_len_seq (by rfl) T.zlen (by decide +kernel) (pa_cons (pe_ix ix_tup (pv 0) pe_int (fun _ _ => rfl)) pa_nil)))
 (pss_one (ps_ret (pe_and (pe_call (ok_are_marks T) (hr.mono (by decide)) rfl T.m_are_marks T.F_are_marks.kp (b_are_marks T) .nil pass0 (pa_cons (pe_ix ix_tup (pv 0) pe_int (fun _ _ => rfl)) (pa_cons (pv 1) pa_nil))) (pe_and (pe_call (ok_are_entries T) (hr.mono (by decide)) rfl T.m_are_entries T.F_are_entries.kp (b_are_entries T) .nil pass0 (pa_cons (pe_ix ix_tup (pv 0) pe_int (fun _ _ => rfl)) (pa_cons (pv 1) pa_nil))) (pe_one (pe_call (ok_are_opens T) (hr.mono (by decide)) rfl T.m_are_opens T.F_are_opens.kp (b_are_opens T) .nil pass0 (pa_cons (pe_ix ix_tup (pv 0) pe_int (fun _ _ => rfl)) (pa_cons (pv 1) pa_nil))))))))))), ?_⟩
    rw [show start N_is_program [v] = [some (v), none] from rfl]
    refine ⟨_, rfl, v, S, d, 4, 4, rfl, r, fun H1 s1 => ⟨_, rfl, ?_⟩⟩
    refine ite2 (fun c => iteT ?_) (fun c => ?_)
    · have e := k H1 s1
      rwa [show progB d = false by unfold progB; rw [nbF c]; rfl] at e
    replace c := nbT c
    obtain ⟨ds, rfl, h1, h2⟩ := tupB_len c
    obtain ⟨x, y, z, u, rfl⟩ := len4 (by omega : (ds.length : Int) = 4)
    obtain ⟨a, p, q, s', t, rfl, ha, rp, rq, rz, ru⟩ := r.four
    have pb : progB (.tuple [x, y, z, u]) = (partsB x && (marksB y ((itemsD x).length : Int) && (entriesB z ((itemsD x).length : Int) && opensB u ((itemsD x).length : Int)))) := by
      unfold progB
      rw [c]
      rfl
    rw [pb] at k
    refine ⟨_, rfl, a, _, 0, _, rfl, rfl, SqT.of (s1 _ _ ha), atI_nat (j := 0) rfl, p, S, x, rfl, rp.sm s1, fun H2 s2 => ⟨_, rfl, ?_⟩⟩
    have s12 := s1.trans s2
    refine ite2 (fun c2 => ?_) (fun c2 => ?_)
    · have e := k H2 s12
      rwa [nbF c2] at e
    replace c2 := nbT c2
    rw [c2] at k
    have x4 : ∃ ps, x = .tuple ps ∧ ps.length ≤ 4 := by
      have z := c2
      unfold partsB at z
      rw [Bool.and_eq_true] at z
      obtain ⟨ps, e, _, h4⟩ := tupB_len z.1
      exact ⟨ps, e, by omega⟩
    obtain ⟨ps, rfl, l4⟩ := x4
    obtain ⟨b, xs, rfl, hb, _, rs⟩ := rp.tupV
    refine ⟨_, rfl, a, _, 0, _, rfl, rfl, SqT.of (s12 _ _ ha), atI_nat (j := 0) rfl, b, xs, rfl, .inr (SqT.of (s12 _ _ hb)), ?_⟩
    rw [rs.length]
    have e0 : ((itemsD (.tuple ps)).length : Int) = (ps.length : Int) := rfl
    rw [e0] at k
    refine ⟨_, rfl, a, _, 1, _, rfl, rfl, SqT.of (s12 _ _ ha), atI_nat (j := 1) rfl, _, rfl, q, S, y, _, rfl, rq.sm s12, by omega, fun H3 s3 => ⟨_, rfl, ?_⟩⟩
    have s13 := s12.trans s3
    refine ite2 (fun c3 => ?_) (fun c3 => ?_)
    · rw [c3] at k
      refine ⟨_, rfl, a, _, 2, _, rfl, rfl, SqT.of (s13 _ _ ha), atI_nat (j := 2) rfl, _, rfl, s', S, z, _, rfl, rz.sm s13, fun H4 s4 => ⟨_, rfl, ?_⟩⟩
      have s14 := s13.trans s4
      refine ite2 (fun c4 => ?_) (fun c4 => ?_)
      · rw [c4] at k
        refine ⟨_, rfl, a, _, 3, _, rfl, rfl, SqT.of (s14 _ _ ha), atI_nat (j := 3) rfl, _, rfl, t, S, u, _, rfl, ru.sm s14, fun H5 s5 => k H5 (s14.trans s5)⟩
      · have e := k H4 s14
        rwa [bF c4] at e
    · have e := k H3 s13
      rwa [bF c3] at e
def sp_demand_program : Sp := fun vs H Q _ => ∃ (v : V) (S : List Addr) (d : PyData), vs = [v] ∧ Rep S H v d ∧ progB d = true ∧ ∀ H', Same H H' → Q .non H'
theorem ok_demand_program (T : Txt K mg A) : FnOk P w K mg base CX0 9 A.f_demand_program A.d_demand_program ["thing"] (sp_demand_program) := by
  refine T.F_demand_program.ok sc_demand_program (fun vs H Q E h => ?_) (fun cdv Ar outer s H vs Q E hr h => ?_)
  · obtain ⟨v, S, d, rfl, r, ok, k⟩ := h
    rfl
  · obtain ⟨v, S, d, rfl, r, ok, k⟩ := h
    refine ⟨_, PSs.nox ((pss_one (ps_if (pt_not (pt_val (pe_call (ok_is_program T) hr rfl T.m_is_program T.F_is_program.kp (b_is_program T) .nil pass0 (pa_cons (pv 0) pa_nil)))) (pss_one ps_never) pss_nil))), ?_⟩
    rw [show start N_demand_program [v] = [some (v)] from rfl]
    refine ⟨_, rfl, v, S, d, rfl, r, fun H1 s1 => ⟨_, rfl, ?_⟩⟩
    rw [ok]
    exact k H1 s1
end
end Lb

set_option Elab.async false
set_option linter.all false
set_option maxRecDepth 100000
set_option maxHeartbeats 4000000
namespace Lb
open PySem PySem.Spec PyProof.Rows L2
section
variable {P : Program} {w : World} {K : PySem.W.Frag} {mg : Str → Option Value} {base : Heap} {A : Ad}
def sp_is_place : Sp := fun vs H Q _ => ∃ (pr v : V) (S : List Addr) (P d : PyData), vs = [pr, v] ∧ Rep S H pr P ∧ progB P = true ∧ Rep S H v d ∧ ∀ H', Same H H' → Q (.bl (placeB P d)) H'
theorem ok_is_place (T : Txt K mg A) : FnOk P w K mg base CX0 3 A.f_is_place A.d_is_place ["program", "thing"] (sp_is_place) := by
  refine T.F_is_place.ok sc_is_place (fun vs H Q E h => ?_) (fun cdv Ar outer s H vs Q E hr h => ?_)
  · obtain ⟨pr, v, S, P, d, rfl, rP, okp, r, k⟩ := h
    rfl
  · obtain ⟨pr, v, S, P, d, rfl, rP, okp, r, k⟩ := h
    refine ⟨_, PSs.nox ((pss_cons (ps_set (i := 2) sc_is_place.nd rfl (Or.inl rfl) (pe_ix ix_tup (pv 0) pe_int (fun _ _ => rfl)))
 (pss_one (ps_ret (pe_and (pe_call (ok_is_tuple T) (hr.mono (by decide)) rfl T.m_is_tuple T.F_is_tuple.kp (b_is_tuple T) .nil pass0 (pa_cons (pv 1) (pa_cons pe_int (pa_cons pe_int pa_nil)))) (pe_and (pe_call (ok_is_number T) hr rfl T.m_is_number T.F_is_number.kp (b_is_number T) .nil pass0 (pa_cons (pe_ix ix_tup (pv 1) pe_int (fun _ _ => rfl)) (pa_cons (pe_callB call_len_seq (by rfl) T.zlen (by decide +kernel) (pa_cons (pv 2) pa_nil)) pa_nil))) (pe_one (pe_call (ok_is_number T) hr rfl T.m_is_number T.F_is_number.kp (b_is_number T) .nil pass0 (pa_cons (pe_ix ix_tup (pv 1) pe_int (fun _ _ => rfl)) (pa_cons (pe_callB call_len_seq (by rfl) T.zlen (by decide +kernel) (pa_cons (pe_ix ix_tup (pv 2) (pe_ix ix_tup (pv 1) pe_int (fun _ _ => rfl)) (fun _ _ => rfl)) pa_nil)) pa_nil)))))))))), ?_⟩
    rw [show start N_is_place [pr, v] = [some (pr), some (v), none] from rfl]
    obtain ⟨ps, m, es, o, rfl, F⟩ := prog_of okp
    obtain ⟨a, p, q, s', t, rfl, ha, rp, rq, rz, ru⟩ := rP.four
    obtain ⟨b, xs, rfl, hb, _, rs⟩ := rp.tupV
    
    refine ⟨_, rfl, a, _, 0, _, rfl, rfl, SqT.of (ha), atI_nat (j := 0) rfl, _, rfl, v, S, d, 2, 2, rfl, r, fun H1 s1 => ⟨_, rfl, ?_⟩⟩
    have e0 : itemsD (nthD (.tuple [.tuple ps, m, .tuple es, o]) 0) = ps := rfl
    unfold placeB at k
    rw [e0] at k
    refine ite2 (fun c => ?_) (fun c => ?_)
    · rw [c] at k
      obtain ⟨ds, rfl, h1, h2⟩ := tupB_len c
      obtain ⟨x, y, rfl⟩ := len2 h1 h2
      obtain ⟨a2, p2, q2, rfl, ha2, rp2, rq2⟩ := r.two
      have k2 : ∀ H', Same H H' → Q (.bl (numB x (ps.length : Int) && numB y ((itemsD (partD (.tuple [.tuple ps, m, .tuple es, o]) (valI x).toNat)).length : Int))) H' := k
      refine ⟨_, rfl, a2, _, 0, _, rfl, rfl, SqT.of (s1 _ _ ha2), atI_nat (j := 0) rfl, _, rfl, b, xs, rfl, .inr (SqT.of (s1 _ _ hb)), p2, S, x, _, rfl, rp2.sm s1, fun H2 s2 => ⟨_, rfl, ?_⟩⟩
      rw [rs.length]
      refine ite2 (fun c2 => ?_) (fun c2 => ?_)
      · rw [c2] at k2
        obtain ⟨i, rfl, i0, i1⟩ := numB_iff.mp c2
        obtain rfl := rp2.intV
        have s12 := s1.trans s2
        have ei : i = ((i.toNat : Nat) : Int) := (Int.toNat_of_nonneg i0).symm
        obtain ⟨z, hz⟩ : ∃ z, ps[i.toNat]? = some z := ⟨_, List.getElem?_eq_getElem (by omega)⟩
        obtain ⟨rows, rfl, l5⟩ := F.five z (List.mem_of_getElem? hz)
        obtain ⟨zv, hzv, rz2⟩ := rs.at_ hz
        obtain ⟨c3, zs, rfl, hc3, _, rb⟩ := rz2.tupV
        have ep : partD (.tuple [.tuple ps, m, .tuple es, o]) i.toNat = .tuple rows := getD_of hz
        have at_i : atI xs i = some (.ref c3) := by
          rw [ei]
          exact atI_nat hzv
        refine ⟨_, rfl, a2, _, 1, _, rfl, rfl, SqT.of (s12 _ _ ha2), atI_nat (j := 1) rfl, _, rfl, _, rfl, a2, _, 0, _, rfl, rfl, SqT.of (s12 _ _ ha2), atI_nat (j := 0) rfl, b, xs, i, _, rfl, rfl, SqT.of (s12 _ _ hb), at_i, c3, zs, rfl, .inr (SqT.of (s12 _ _ hc3)), q2, S, y, _, rfl, rq2.sm s12, fun H3 s3 => ?_⟩
        have e := k2 H3 (s12.trans s3)
        rw [show valI (.int i) = i from rfl, ep] at e
        rw [rb.length]
        exact e
      · have e := k2 H2 (s1.trans s2)
        rwa [bF c2] at e
    · have e := k H1 s1
      rwa [bF c] at e
def sp_is_laid_door : Sp := fun vs H Q _ => ∃ (v : V) (S : List Addr) (d : PyData) (door many : Int), vs = [v, .int door, .int many] ∧ Rep S H v d ∧ (itemsD (nthD d 1)).length ≤ 50 ∧ ∀ H', Same H H' → Q (.bl (laidB d door many)) H'
theorem ok_is_laid_door (T : Txt K mg A) : FnOk P w K mg base CX0 3 A.f_is_laid_door A.d_is_laid_door ["thing", "door", "many_packs"] (sp_is_laid_door) := by
  refine T.F_is_laid_door.ok sc_is_laid_door (fun vs H Q E h => ?_) (fun cdv Ar outer s H vs Q E hr h => ?_)
  · obtain ⟨v, S, d, door, many, rfl, r, few, k⟩ := h
    rfl
  · obtain ⟨v, S, d, door, many, rfl, r, few, k⟩ := h
    refine ⟨_, PSs.nox ((pss_cons (ps_if (PW.pt (pw_or (pt_not (pt_val (pe_call (ok_is_tuple T) (hr.mono (by decide)) rfl T.m_is_tuple T.F_is_tuple.kp (b_is_tuple T) .nil pass0 (pa_cons (pv 0) (pa_cons pe_int (pa_cons pe_int pa_nil)))))) (pw_or (pt_not (pt_val (pe_call (ok_is_integer T) (hr.mono (by decide)) rfl T.m_is_integer T.F_is_integer.kp (b_is_integer T) .nil pass0 (pa_cons (pe_ix ix_tup (pv 0) pe_int (fun _ _ => rfl)) pa_nil)))) (pw_or1 (pt_cmpR op_ne (pe_ix ix_tup (pv 0) pe_int (fun _ _ => rfl)) (pv 1) (nomark _)))))) (pss_one (ps_ret pe_bl)) pss_nil)
 (pss_cons (ps_set (i := 3) sc_is_laid_door.nd rfl (Or.inl rfl) (pe_ix ix_tup (pv 0) pe_int (fun _ _ => rfl)))
 (pss_cons (ps_if (PW.pt (pw_or (pt_not (pt_val (pe_callB call_isiD (by rfl) T.zisinstance (by decide +kernel) (pa_cons (pv 3) (pa_cons (pe_bltn (v := .ty "tuple") (by rfl) T.ztuple (by decide +kernel) rfl) pa_nil))))) (pw_or1 (pt_not (pt_val (pe_callB (cr_all rfl) (by rfl) T.zall (by decide +kernel) (pa_cons (pe_lc (own := [("number", 4)]) (g := (gName 4)) (tt := tYes) rfl sc_is_laid_door.nd (pi_tup (pv 3)) (blkOk_by (N := N_is_laid_door) (sc := defScope s_is_laid_door) (by decide +kernel)) (fun _ _ _ _ _ => (pg_name (i := 4) sc_is_laid_door.nd rfl (Or.inl rfl))) (fun _ _ _ _ _ => pts_nil) (fun _ _ _ _ _ => (pe_call (ok_is_number T) hr rfl T.m_is_number T.F_is_number.kp (b_is_number T) .nil pass0 (pa_cons (pv 4) (pa_cons (pv 2) pa_nil))))) pa_nil))))))) (pss_one (ps_ret pe_bl)) pss_nil)
 (pss_one (ps_ret (pe_cmpR op_eq (SL.pe_lenSetTI rfl (by rfl) T.zlen (by rfl) T.zset (pv 3)) (pe_callB call_len_seq (by rfl) T.zlen (by decide +kernel) (pa_cons (pv 3) pa_nil)) (nomark _)))))))), ?_⟩
    rw [show start N_is_laid_door [v, .int door, .int many] = [some (v), some (.int door), some (.int many), none, none] from rfl]
    refine ⟨_, rfl, v, S, d, 2, 2, rfl, r, fun H1 s1 => ⟨_, rfl, ?_⟩⟩
    have k1 : ∀ b, laidB d door many = b → ∀ H', Same H1 H' → Q (.bl b) H' := fun b e H' s' => by
      have z := k H' (s1.trans s')
      rwa [e] at z
    
    refine ite2 (fun c => iteT ?_) (fun c => ?_)
    · exact k1 false (by unfold laidB; rw [nbF c]; rfl) H1 (.refl _)
    replace c := nbT c
    obtain ⟨ds, rfl, h1, h2⟩ := tupB_len c
    obtain ⟨x, y, rfl⟩ := len2 h1 h2
    obtain ⟨a, p, q, rfl, ha, rp, rq⟩ := r.two
    have ha1 := s1 _ _ ha
    have few2 : (itemsD y).length ≤ 50 := few
    have l0 : ∀ b, (intB x && (decide (valI x = door) && (isTup y && ((itemsD y).all (fun x => numB x many) && decide ((itemsD y).map valI).Nodup)))) = b → ∀ H', Same H1 H' → Q (.bl b) H' := fun b e => k1 b e
    clear k1 k
    refine ⟨_, rfl, a, _, 0, _, rfl, rfl, SqT.of (ha1), atI_nat (j := 0) rfl, p, S, x, rfl, rp.sm s1, fun H2 s2 => ⟨_, rfl, ?_⟩⟩
    refine ite2 (fun c1 => iteT ?_) (fun c1 => ?_)
    · exact l0 false (by rw [nbF c1]; rfl) H2 s2
    replace c1 := nbT c1
    obtain ⟨i, rfl⟩ := int_of c1
    obtain rfl := rp.intV
    have ha2 := s2 _ _ ha1
    refine ⟨_, rfl, a, _, 0, _, rfl, rfl, SqT.of (ha2), atI_nat (j := 0) rfl, _, rfl, rfl, _, rfl, ?_⟩
    refine ite2 (fun c2 => ?_) (fun c2 => ?_)
    · have ne : i ≠ door := fun e => by
        rw [e] at c2
        simp at c2
      exact l0 false (by show (true && (decide (i = door) && _)) = false; rw [decide_eq_false ne]; rfl) H2 s2
    have eq : i = door := by simpa using c2
    have l1 : ∀ b, (isTup y && ((itemsD y).all (fun x => numB x many) && decide ((itemsD y).map valI).Nodup)) = b → ∀ H', Same H1 H' → Q (.bl b) H' := fun b e => l0 b (by show (true && (decide (i = door) && _)) = b; rw [decide_eq_true eq]; exact e)
    refine ⟨_, rfl, a, _, 1, _, rfl, rfl, SqT.of (ha2), atI_nat (j := 1) rfl, ?_⟩
    dsimp only [gName, List.set]
    have s12 := s1.trans s2
    refine ⟨_, rfl, _, "tuple", S, y, _, rfl, rq.sm s12, kit_tup y, _, rfl, ?_⟩
    refine ite2 (fun c3 => iteT ?_) (fun c3 => ?_)
    · exact l1 false (by rw [nbF c3]; rfl) H2 s2
    replace c3 := nbT c3
    obtain ⟨ds, rfl⟩ := tup_of c3
    obtain ⟨b, xs, rfl, hb, _, rs⟩ := rq.tupV
    have dl : ds.length ≤ 50 := few2
    
    refine ⟨_, rfl, b, rfl, ⟨_, SqT.of (s12 _ _ hb)⟩, fun D nD => ?_⟩
    refine lc_pure (walk_tup (xs := xs)) nD (fun i => V.bl ((fun z => numB z many) (ds.getD i .none))) (by rw [rs.length, sizeLine_eq]; omega) (fun H' s' => SqT.of (s' _ _ (s12 _ _ hb))) ?_ ?_
    · rintro i x H' H'' F hi s' ⟨rfl, hx⟩ fin
      obtain ⟨d1, e1, r0⟩ := rs.get hx
      have r1 := r0.sm (s12.trans s')
      refine ⟨rfl, ?_⟩
      rw [getD_of e1] at fin
      exact ⟨_, rfl, _, rfl, x, S, d1, many, rfl, r1, fun H3 s3 => fin H3 s3⟩
    · intro H' s' hD
      have e2 : (List.range xs.length).map (fun i => V.bl ((fun z => numB z many) (ds.getD i .none))) = ((List.range ds.length).map fun i => (fun z => numB z many) (ds.getD i .none)).map V.bl := by rw [rs.length, bl_map (fun i => (fun z => numB z many) (ds.getD i .none))]
      rw [e2] at hD
      refine ⟨D, _, rfl, SqL.of hD, ?_⟩
      rw [range_all (fun z => (fun z => numB z many) z)]
    
      refine ⟨_, rfl, ?_⟩
      have l2 : ∀ b, (ds.all (fun x => numB x many) && decide (ds.map valI).Nodup) = b → ∀ H', Same H1 H' → Q (.bl b) H' := l1
      refine ite2 (fun c4 => ?_) (fun c4 => ?_)
      · exact l2 false (by rw [nbF c4]; rfl) H' (s2.trans s')
      replace c4 := nbT c4
      have allI : ∀ e ∈ ds, ∃ i, e = .int i := fun e he => by
        obtain ⟨i, z, _⟩ := numB_iff.mp (List.all_eq_true.mp c4 e he)
        exact ⟨i, z⟩
      have exs := rs.asInts allI
      have lx := rs.length
      have hb' := s' _ _ (s12 _ _ hb)
      refine ⟨_, rfl, b, ds.map valI, rfl, by rw [← exs]; exact SqT.of hb', by rw [List.length_map]; omega, fun L nd mem => ⟨_, rfl, b, xs, rfl, .inr (SqT.of hb'), rfl, ?_⟩⟩
      refine l2 _ ?_ H' (s2.trans s')
      rw [c4, Bool.true_and, Bool.eq_iff_iff, decide_eq_true_eq, decide_eq_true_eq, V.int.injEq, lx]
      have z := card_iff nd mem
      rw [List.length_map] at z
      rw [← z]
      omega
def sp_are_laid_doors : Sp := fun vs H Q _ => ∃ (v : V) (p : Addr) (S : List Addr) (d : PyData) (ns : List Int) (many : Int), vs = [v, .ref p, .int many] ∧ Rep S H v d ∧ H p = some (.lst (ns.map V.int)) ∧ ns.length ≤ 15 ∧ (∀ x ∈ itemsD d, (itemsD (nthD x 1)).length ≤ 50) ∧ ∀ H', Same H H' → Q (.bl (laidsB d ns many)) H'
theorem ok_are_laid_doors (T : Txt K mg A) : FnOk P w K mg base CX0 4 A.f_are_laid_doors A.d_are_laid_doors ["thing", "doors", "many_packs"] (sp_are_laid_doors) := by
  refine T.F_are_laid_doors.ok sc_are_laid_doors (fun vs H Q E h => ?_) (fun cdv Ar outer s H vs Q E hr h => ?_)
  · obtain ⟨v, p, S, d, ns, many, rfl, r, hp, n15, few, k⟩ := h
    rfl
  · obtain ⟨v, p, S, d, ns, many, rfl, r, hp, n15, few, k⟩ := h
    refine ⟨_, PSs.nox ((pss_cons (ps_if (pt_not (pt_val (pe_call (ok_is_tuple T) (hr.mono (by decide)) rfl T.m_is_tuple T.F_is_tuple.kp (b_is_tuple T) .nil pass0 (pa_cons (pv 0) (pa_cons (pe_callB call_len_seq (by rfl) T.zlen (by decide +kernel) (pa_cons (pv 1) pa_nil)) (pa_cons (pe_callB call_len_seq (by rfl) T.zlen (by decide +kernel) (pa_cons (pv 1) pa_nil)) pa_nil)))))) (pss_one (ps_ret pe_bl)) pss_nil)
 (pss_one (ps_ret (pe_callB (cr_all rfl) (by rfl) T.zall (by decide +kernel) (pa_cons (pe_lc (own := [("laid", 3), ("door", 4)]) (g := (gTup _ 2 (gCons (gName 3) (gCons (gName 4) gNil)))) (tt := tYes) rfl sc_are_laid_doors.nd (ZL.pi_zipM (by rfl) T.zzip (pa_cons (pv 0) (pa_cons (pv 1) pa_nil))) (blkOk_by (N := N_are_laid_doors) (sc := defScope s_are_laid_doors) (by decide +kernel)) (fun _ _ _ _ _ => (pg_tup (by rfl) (pgs_cons (pg_name (i := 3) sc_are_laid_doors.nd rfl (Or.inl rfl)) (pgs_cons (pg_name (i := 4) sc_are_laid_doors.nd rfl (Or.inl rfl)) pgs_nil)))) (fun _ _ _ _ _ => pts_nil) (fun _ _ _ _ _ => (pe_call (ok_is_laid_door T) hr rfl T.m_is_laid_door T.F_is_laid_door.kp (b_is_laid_door T) .nil pass0 (pa_cons (pv 3) (pa_cons (pv 4) (pa_cons (pv 2) pa_nil)))))) pa_nil)))))), ?_⟩
    rw [show start N_are_laid_doors [v, .ref p, .int many] = [some (v), some (.ref p), some (.int many), none, none] from rfl]
    have ln : (ns.map V.int).length = ns.length := List.length_map _
    refine ⟨_, rfl, _, rfl, p, _, rfl, .inl (SqL.of hp), _, rfl, p, _, rfl, .inl (SqL.of hp), v, S, d, _, _, rfl, r, fun H1 s1 => ⟨_, rfl, ?_⟩⟩
    rw [ln]
    refine ite2 (fun c => ?_) (fun c => ?_)
    · have e := k H1 s1
      rwa [show laidsB d ns many = false by unfold laidsB; rw [nbF c]; rfl] at e
    replace c := nbT c
    obtain ⟨ds, rfl, h1, h2⟩ := tupB_len c
    have dn : ds.length = ns.length := by omega
    obtain ⟨a, xs, rfl, ha, _, rs⟩ := r.tupV
    have lx := rs.length
    refine ⟨_, rfl, _, rfl, a, p, xs, ns.map V.int, rfl, SqT.of (s1 _ _ ha), SqL.of (s1 _ _ hp), fun D nD => ?_⟩
    refine lc_pure (ZL.walkM (xs := xs) (ys := ns.map V.int) (n := ns.length) (by rw [lx, ln, dn, Nat.min_self])) nD (fun i => V.bl (laidB (ds.getD i .none) (ns.getD i 0) many)) (by rw [sizeLine_eq]; omega) (fun H' s' => ⟨SqT.of (s' _ _ (s1 _ _ ha)), SqL.of (s' _ _ (s1 _ _ hp))⟩) ?_ ?_
    · rintro i x H' H'' F hi s' ⟨t, x1, x2, rfl, nt, rfl, e1, e2⟩ fin
      replace e1 : xs[i]? = some x1 := e1
      replace e2 : (ns.map V.int)[i]? = some x2 := e2
      obtain ⟨d1, hd1, r1⟩ := rs.get e1
      rw [List.getElem?_map] at e2
      obtain ⟨n, hn, rfl⟩ := Option.map_eq_some_iff.mp e2
      have sA := s1.trans (s'.trans (same_new (o := .tup [x1, .int n]) nt))
      refine ⟨t, _, rfl, SqT.of upd_same, rfl, _, _, rfl, _, _, rfl, rfl, rfl, ?_⟩
      refine ⟨_, rfl, _, rfl, _, rfl, x1, S, d1, n, many, rfl, r1.sm sA, few d1 (List.mem_of_getElem? hd1), fun H3 s3 => ?_⟩
      have z := fin H3 ((same_new nt).trans s3)
      rw [getD_of hd1, show ns.getD i 0 = n by rw [List.getD_eq_getElem?_getD, hn]; rfl] at z
      exact z
    · intro H' s' hD
      rw [bl_map] at hD
      refine ⟨D, _, rfl, SqL.of hD, ?_⟩
      have e := k H' (s1.trans s')
      rwa [show laidsB (.tuple ds) ns many = ((List.range ns.length).map fun i => laidB (ds.getD i .none) (ns.getD i 0) many).all id by unfold laidsB; rw [c]; rfl] at e
def sp_are_packs : Sp := fun vs H Q _ => ∃ (pr v : V) (S : List Addr) (P d : PyData), vs = [pr, v] ∧ Rep S H pr P ∧ progB P = true ∧ Rep S H v d ∧ (rowsOfD d).length ≤ 60 ∧ ∀ H', Same H H' → Q (.bl (packsB P d)) H'
theorem ok_are_packs (T : Txt K mg A) : FnOk P w K mg base CX0 4 A.f_are_packs A.d_are_packs ["program", "thing"] (sp_are_packs) := by
  refine T.F_are_packs.ok sc_are_packs (fun vs H Q E h => ?_) (fun cdv Ar outer s H vs Q E hr h => ?_)
  · obtain ⟨pr, v, S, P, d, rfl, rP, okp, r, few, k⟩ := h
    rfl
  · obtain ⟨pr, v, S, P, d, rfl, rP, okp, r, few, k⟩ := h
    obtain ⟨t_MOST_PACKS, c_MOST_PACKS⟩ := T.i_MOST_PACKS
    refine ⟨_, PSs.nox ((pss_cons (ps_if (PW.pt (pw_or (pt_not (pt_val (pe_call (ok_is_tuple T) (hr.mono (by decide)) rfl T.m_is_tuple T.F_is_tuple.kp (b_is_tuple T) .nil pass0 (pa_cons (pv 1) (pa_cons pe_int (pa_cons (pe_glob (v := .int (8)) (by rfl) c_MOST_PACKS ⟨_, rfl⟩) pa_nil)))))) (pw_or1 (pt_not (pt_val (pe_callB (cr_all rfl) (by rfl) T.zall (by decide +kernel) (pa_cons (pe_lc (own := [("pack", 3)]) (g := (gName 3)) (tt := tYes) rfl sc_are_packs.nd (pi_tup (pv 1)) (blkOk_by (N := N_are_packs) (sc := defScope s_are_packs) (by decide +kernel)) (fun _ _ _ _ _ => (pg_name (i := 3) sc_are_packs.nd rfl (Or.inl rfl))) (fun _ _ _ _ _ => pts_nil) (fun _ _ _ _ _ => (pe_callB call_isiD (by rfl) T.zisinstance (by decide +kernel) (pa_cons (pv 3) (pa_cons (pe_bltn (v := .ty "tuple") (by rfl) T.ztuple (by decide +kernel) rfl) pa_nil))))) pa_nil))))))) (pss_one (ps_ret pe_bl)) pss_nil)
 (pss_cons (ps_setLc2 (i := 2) (own := [("pack", 3), ("place", 4)]) (vs1 := [4]) (g := (gName 3)) (tt := tYes) (g1 := (gName 4)) (tt1 := tYes) rfl sc_are_packs.nd rfl rfl (sw_true rfl rfl rfl (by decide +kernel)) (pi_tup (pv 1)) (blkOk_by (N := N_are_packs) (sc := defScope s_are_packs) (by decide +kernel)) (by decide) (fun _ _ _ _ _ => (pg_name (i := 3) sc_are_packs.nd rfl (Or.inl rfl))) (fun _ _ _ _ _ => pts_nil) (fun _ _ _ _ _ => (show PI _ _ _ (iTup K (tVar 3)) from pi_tup (pv 3))) (fun _ _ _ _ _ => (pg_name (i := 4) sc_are_packs.nd rfl (Or.inl rfl))) (fun _ _ _ _ _ => pts_nil) (fun _ _ _ _ _ => (pv 4)))
 (pss_one (ps_ret (pe_and (pe_callB (cr_all rfl) (by rfl) T.zall (by decide +kernel) (pa_cons (pe_lc (own := [("place", 4)]) (g := (gName 4)) (tt := tYes) rfl sc_are_packs.nd (pi_list (pv 2)) (blkOk_by (N := N_are_packs) (sc := defScope s_are_packs) (by decide +kernel)) (fun _ _ _ _ _ => (pg_name (i := 4) sc_are_packs.nd rfl (Or.inl rfl))) (fun _ _ _ _ _ => pts_nil) (fun _ _ _ _ _ => (pe_call (ok_is_place T) hr rfl T.m_is_place T.F_is_place.kp (b_is_place T) .nil pass0 (pa_cons (pv 0) (pa_cons (pv 4) pa_nil))))) pa_nil)) (pe_one (pe_cmpR op_eq (SL.pe_lenSetT rfl hr.units (by rfl) T.zlen (by rfl) T.zset (pv 2)) (pe_callB call_len_seq (by rfl) T.zlen (by decide +kernel) (pa_cons (pv 2) pa_nil)) (nomark _))))))))), ?_⟩
    rw [show start N_are_packs [pr, v] = [some (pr), some (v), none, none, none] from rfl]
    refine ⟨_, rfl, v, S, d, 0, 8, rfl, r, fun H1 s1 => ⟨_, rfl, ?_⟩⟩
    have k1 : ∀ b, packsB P d = b → ∀ H', Same H1 H' → Q (.bl b) H' := fun b e H' s' => by
      have z := k H' (s1.trans s')
      rwa [e] at z
    
    refine ite2 (fun c => iteT ?_) (fun c => ?_)
    · exact k1 false (by unfold packsB; rw [nbF c]; rfl) H1 (.refl _)
    replace c := nbT c
    obtain ⟨ds, rfl, h1, h2⟩ := tupB_len c
    obtain ⟨a, xs, rfl, ha, _, rs⟩ := r.tupV
    have l0 : ∀ b, (ds.all isTup && ((rowsOfD (.tuple ds)).all (fun x => placeB P x) && decide ((rowsOfD (.tuple ds)).map plQ).Nodup)) = b → ∀ H', Same H1 H' → Q (.bl b) H' := fun b e => k1 b (by unfold packsB; rw [c]; exact e)
    clear k1 k
    
    refine ⟨_, rfl, a, rfl, ⟨_, SqT.of (s1 _ _ ha)⟩, fun D nD => ?_⟩
    refine lc_pure (walk_tup (xs := xs)) nD (fun i => V.bl (isTup (ds.getD i .none))) (by rw [rs.length, sizeLine_eq]; omega) (fun H' s' => SqT.of (s' _ _ (s1 _ _ ha))) ?_ ?_
    · rintro i x H' H'' F hi s' ⟨rfl, hx⟩ fin
      obtain ⟨d1, e1, r0⟩ := rs.get hx
      have r1 := r0.sm (s1.trans s')
      refine ⟨rfl, ?_⟩
      rw [getD_of e1] at fin
      exact ⟨_, rfl, x, "tuple", S, d1, _, rfl, r1, kit_tup d1, fin _ (.refl _)⟩
    · intro H' s' hD
      have e2 : (List.range xs.length).map (fun i => V.bl (isTup (ds.getD i .none))) = ((List.range ds.length).map fun i => isTup (ds.getD i .none)).map V.bl := by rw [rs.length, bl_map (fun i => isTup (ds.getD i .none))]
      rw [e2] at hD
      refine ⟨D, _, rfl, SqL.of hD, ?_⟩
      rw [range_all (fun z => isTup z)]
    
      refine ⟨_, rfl, ?_⟩
      refine ite2 (fun c2 => ?_) (fun c2 => ?_)
      · exact l0 false (by rw [nbF c2]; rfl) H' s'
      replace c2 := nbT c2
      have l1 : ∀ b, ((rowsOfD (.tuple ds)).all (fun x => placeB P x) && decide ((rowsOfD (.tuple ds)).map plQ).Nodup) = b → ∀ H', Same H1 H' → Q (.bl b) H' := fun b e => l0 b (by rw [c2]; exact e)
      have allT : ∀ p ∈ ds, ∃ rows, p = .tuple rows := fun p hp => tup_of (List.all_eq_true.mp c2 p hp)
      have s2 := s1.trans s'
      clear hD e2 nD c2
      refine ⟨_, rfl, a, rfl, ⟨_, SqT.of (s2 _ _ ha)⟩, fun R nR => ?_⟩
      have rsR : Reps (R :: S) H' xs ds := Reps.more nR _ _ (rs.sm s2)
      have cut60 : ∀ {i j : Nat} {rows : List PyData}, ds[i]? = some (.tuple rows) → ((ds.take i).flatMap itemsD ++ rows.take j).length ≤ 60 := fun {i j rows} h => by
        have e : ds.flatMap itemsD = (ds.take i).flatMap itemsD ++ (rows ++ (ds.drop (i + 1)).flatMap itemsD) := by
          have lt := (List.getElem?_eq_some_iff.mp h).1
          have eg := (List.getElem?_eq_some_iff.mp h).2
          conv => lhs; rw [← List.take_append_drop i ds, List.flatMap_append, List.drop_eq_getElem_cons lt, List.flatMap_cons, eg]
          rfl
        have f : (ds.flatMap itemsD).length ≤ 60 := few
        rw [e, List.length_append, List.length_append] at f
        rw [List.length_append, List.length_take]
        omega
      refine lc2_out (walk_tup (xs := xs)) (fun i H3 => Same H' H3 ∧ ∃ acc, H3 R = some (.lst acc) ∧ Reps (R :: S) H3 acc ((ds.take i).flatMap itemsD)) ⟨same_new nR, [], upd_same, .nil⟩ (fun i H3 _ p => SqT.of (p.1 _ _ (s2 _ _ ha))) ?_ ?_
      · rintro i x H3 H3' hi ⟨s3, acc, hR, rA⟩ ⟨rfl, hx⟩
        obtain ⟨p, hp, rp⟩ := rsR.get hx
        obtain ⟨rows, rfl⟩ := allT p (List.mem_of_getElem? hp)
        obtain ⟨b, ys, rfl, hb, _, rb⟩ := rp.tupV
        refine ⟨rfl, _, rfl, b, rfl, ⟨_, SqT.of (s3 _ _ hb)⟩, ?_⟩
        refine lc2_in (walk_tup (xs := ys)) (fun j H4 => Same H' H4 ∧ ∃ acc', H4 R = some (.lst acc') ∧ Reps (R :: S) H4 acc' ((ds.take i).flatMap itemsD ++ rows.take j)) ⟨s3, acc, hR, by rw [List.take_zero, List.append_nil]; exact rA⟩ (fun j H4 _ p => SqT.of (p.1 _ _ hb)) ?_ ?_
        · rintro j y H4 H4' hj ⟨s4, acc', hR4, rA4⟩ ⟨rfl, hy⟩
          obtain ⟨q, hq, rq⟩ := (rb.sm s4).get hy
          have l4 : acc'.length < sizeLine := by
            have z := cut60 (j := j) hp
            rw [rA4.length, sizeLine_eq]
            omega
          have bu : But (R :: S) H4' (upd H4' R (.lst (acc' ++ [y]))) := But.refl.upd List.mem_cons_self
          refine ⟨rfl, y, rfl, acc', hR4, l4, ?_, acc' ++ [y], upd_same, ?_⟩
          · intro b' o e
            rw [upd_ne (ne_of_none e nR)]
            exact s4 _ _ e
          · rw [List.take_succ, hq, ← List.append_assoc]
            exact (rA4.app (.one rq)).mv bu
        · rintro H4 ⟨s4, acc', hR4, rA4⟩
          refine ⟨s4, acc', hR4, ?_⟩
          rw [rb.length, List.take_length] at rA4
          rw [List.take_succ, hp, List.flatMap_append]
          simpa [itemsD] using rA4
      · rintro H3 ⟨s3, acc, hR, rA⟩
        rw [rs.length, List.take_length] at rA
        have s13 := s'.trans s3
        have sH3 := s2.trans s3
        have rA' : Reps S H3 acc (rowsOfD (.tuple ds)) := rA.less fun b z => List.mem_cons_of_mem _ z
        generalize rowsOfD (.tuple ds) = rows at rA' l1 few
        have lA := rA'.length
        refine ⟨_, rfl, R, rfl, ⟨_, SqL.of hR⟩, fun D nD => ?_⟩
        refine lc_pure (walk_list (xs := acc)) nD (fun i => V.bl ((fun z => placeB P z) (rows.getD i .none))) (by rw [lA, sizeLine_eq]; omega) (fun H4 s4 => SqL.of (s4 _ _ hR)) ?_ ?_
        · rintro i x H4 H4' F hi s4 ⟨rfl, hx⟩ fin
          obtain ⟨d1, e1, r0⟩ := rA'.get hx
          refine ⟨rfl, ?_⟩
          rw [getD_of e1] at fin
          exact ⟨_, rfl, _, rfl, pr, x, S, P, d1, rfl, (rP.sm sH3).sm s4, okp, r0.sm s4, fun H5 s5 => fin H5 s5⟩
        · intro H4 s4 hD
          have e2 : (List.range acc.length).map (fun i => V.bl ((fun z => placeB P z) (rows.getD i .none))) = ((List.range rows.length).map fun i => (fun z => placeB P z) (rows.getD i .none)).map V.bl := by rw [lA, bl_map (fun i => (fun z => placeB P z) (rows.getD i .none))]
          rw [e2] at hD
          refine ⟨D, _, rfl, SqL.of hD, ?_⟩
          rw [range_all (fun z => placeB P z)]
          refine ⟨_, rfl, ?_⟩
          refine ite2 (fun c4 => ?_) (fun c4 => ?_)
          · have pe := places_of c4
            have hR4 := s4 _ _ hR
            have rq : Reps S H4 acc (((rows.map plQ)).map pD) := by rw [← pe]; exact rA'.sm s4
            obtain ⟨ks, ek, es, hk⟩ := places_keys rq
            have lk : ks.length = acc.length := by rw [ek, List.length_map]
            refine ⟨_, rfl, R, ks, rfl, by rw [← ek]; exact SqL.of hR4, fun p hp => SqT.of (hk p hp), by omega, fun L nd sub all => ⟨_, rfl, R, acc, rfl, .inl (SqL.of hR4), rfl, ?_⟩⟩
            refine l1 _ ?_ H4 (s13.trans s4)
            rw [c4, Bool.true_and, Bool.eq_iff_iff, decide_eq_true_eq, decide_eq_true_eq, V.int.injEq]
            have z := card_iff (ns := ks.map Prod.snd) nd fun j => ⟨fun h => by
              obtain ⟨p, hp, rfl⟩ := List.mem_map.mp h
              exact List.mem_map.mpr ⟨p, sub p hp, rfl⟩, fun h => by
              obtain ⟨p, hp, rfl⟩ := List.mem_map.mp h
              exact all p hp⟩
            rw [List.length_map, List.length_map, es] at z
            rw [← pairs_nodup, ← z]
            omega
          · exact l1 false (by rw [bF c4]; rfl) H4 (s13.trans s4)
def sp_doors_of : Sp := fun vs H Q _ => ∃ (v : V) (S : List Addr) (d : PyData), vs = [v] ∧ Rep S H v d ∧ progB d = true ∧ ∀ (H' : Hp) (p : Addr) (ns : List Int), Same H H' → H p = none → H' p = some (.lst (ns.map V.int)) → ns.Pairwise (· < ·) → (∀ k, k ∈ ns ↔ k ∈ doorsD d) → ns.length ≤ 15 → Q (.ref p) H'
theorem ok_doors_of (T : Txt K mg A) : FnOk P w K mg base CX0 10 A.f_doors_of A.d_doors_of ["program"] (sp_doors_of) := by
  refine T.F_doors_of.ok sc_doors_of (fun vs H Q E h => ?_) (fun cdv Ar outer s H vs Q E hr h => ?_)
  · obtain ⟨v, S, d, rfl, r, ok, k⟩ := h
    rfl
  · obtain ⟨v, S, d, rfl, r, ok, k⟩ := h
    obtain ⟨t_NO_PART, c_NO_PART⟩ := T.i_NO_PART
    refine ⟨_, PSs.nox ((pss_cons (ps_expr (pe_call (ok_demand_program T) hr rfl T.m_demand_program T.F_demand_program.kp (b_demand_program T) .nil pass0 (pa_cons (pv 0) pa_nil)))
 (pss_cons (ps_setLc2 (i := 1) (own := [("rows", 2), ("row", 3)]) (vs1 := [3]) (g := (gName 2)) (tt := tYes) (g1 := (gName 3)) (tt1 := _) rfl sc_doors_of.nd rfl rfl (sw_true rfl rfl rfl (by decide +kernel)) (pi_tup (pe_ix ix_tup (pv 0) pe_int (fun _ _ => rfl))) (blkOk_by (N := N_doors_of) (sc := defScope s_doors_of) (by decide +kernel)) (by decide) (fun _ _ _ _ _ => (pg_name (i := 2) sc_doors_of.nd rfl (Or.inl rfl))) (fun _ _ _ _ _ => pts_nil) (fun _ _ _ _ _ => (show PI _ _ _ (iTup K (tVar 2)) from pi_tup (pv 2))) (fun _ _ _ _ _ => (pg_name (i := 3) sc_doors_of.nd rfl (Or.inl rfl))) (fun _ _ _ _ _ => (pts_one (PW.pt (pw_and (pt_cmpR op_eq (pe_ix (show IxR _ (rIxT K) from ix_tup) (pv 3) pe_int (fun _ _ => rfl)) pe_str (nomark _)) (pw_and1 (pt_cmpR op_ne (pe_ix (show IxR _ (rIxT K) from ix_tup) (pv 3) pe_int (fun _ _ => rfl)) (pe_glob (v := .int (-1)) (by rfl) c_NO_PART ⟨_, rfl⟩) (nomark _))))))) (fun _ _ _ _ _ => (pe_ix (show IxR _ (rIxT K) from ix_tup) (pv 3) pe_int (fun _ _ => rfl))))
 (pss_one (ps_ret (pe_callB (cr_sortedSet rfl) (by rfl) T.zsorted (by decide +kernel) (pa_cons (pe_callTy (cr_setI rfl) (by rfl) T.zset (by decide +kernel) (pa_cons (pe_op op_cat (pe_callTy call_list_of (by rfl) T.zlist (by decide +kernel) (pa_cons (pe_ix ix_tup (pv 0) pe_int (fun _ _ => rfl)) pa_nil)) (pv 1)) pa_nil)) pa_nil))))))), ?_⟩
    rw [show start N_doors_of [v] = [some (v), none, none, none] from rfl]
    refine ⟨_, rfl, v, S, d, rfl, r, ok, fun H1 s1 => ?_⟩
    obtain ⟨ps, m, es, o, rfl, F⟩ := prog_of ok
    obtain ⟨a, p, q, s', t, rfl, ha, rp, rq, rz, ru⟩ := r.four
    obtain ⟨b, xs, rfl, hb, _, rs⟩ := rp.tupV
    obtain ⟨ea, ys, rfl, hea, _, re⟩ := rz.tupV
    obtain rfl := re.asInts F.allI
    
    refine ⟨_, rfl, a, _, 0, _, rfl, rfl, SqT.of (s1 _ _ ha), atI_nat (j := 0) rfl, b, rfl, ⟨_, SqT.of (s1 _ _ hb)⟩, fun R nR => ?_⟩
    have rsR : Reps (R :: S) H1 xs ps := Reps.more nR _ _ (rs.sm s1)
    refine lc2_out (walk_tup (xs := xs)) (fun i H3 => Same H1 H3 ∧ H3 R = some (.lst (goV ((ps.take i).flatMap itemsD)))) ⟨same_new nR, upd_same⟩ (fun i H3 _ p => SqT.of (p.1 _ _ (s1 _ _ hb))) ?_ ?_
    · rintro i x H3 H3' hi ⟨s3, hR⟩ ⟨rfl, hx⟩
      obtain ⟨p1, hp, rp1⟩ := rsR.get hx
      obtain ⟨rows, rfl, l5⟩ := F.five p1 (List.mem_of_getElem? hp)
      obtain ⟨c, zs, rfl, hc, _, rb⟩ := rp1.tupV
      refine ⟨rfl, _, rfl, c, rfl, ⟨_, SqT.of (s3 _ _ hc)⟩, ?_⟩
      refine lc2_in (walk_tup (xs := zs)) (fun j H4 => Same H1 H4 ∧ H4 R = some (.lst (goV ((ps.take i).flatMap itemsD ++ rows.take j)))) ⟨s3, by rw [List.take_zero, List.append_nil]; exact hR⟩ (fun j H4 _ p => SqT.of (p.1 _ _ hc)) ?_ ?_
      · rintro j y H4 H4' hj ⟨s4, hR4⟩ ⟨rfl, hy⟩
        obtain ⟨q1, hq, rq1⟩ := (rb.sm s4).get hy
        obtain ⟨w, rest, rfl, sh⟩ := late_shape (F.rows q1 (flat_mem hp (List.mem_of_getElem? hq)))
        obtain ⟨ra, rv, rfl, hra, _, rr⟩ := rq1.tupV
        have few := flat_few (j := j) hp F.twelve
        have tk : (ps.take i).flatMap itemsD ++ rows.take (j + 1) = ((ps.take i).flatMap itemsD ++ rows.take j) ++ [.tuple (.str w :: rest)] := by rw [List.take_succ, hq, List.append_assoc]; rfl
        rw [tk]
        cases rr with
        | cons r0 rr =>
          obtain rfl := r0.strV
          refine ⟨rfl, _, rfl, ra, _, 0, _, rfl, rfl, SqT.of hra, atI_nat (j := 0) rfl, rfl, _, rfl, ?_⟩
          refine ite2 (fun c1 => ?_) (fun c1 => ?_)
          · have ew : w = "late" := by simpa using c1
            obtain ⟨nm, pt, ns, rfl, lo⟩ := sh ew
            cases rr with
            | cons r1 rr => cases rr with
              | cons r2 rr => cases rr with
                | cons r3 rr =>
                  cases rr
                  obtain rfl := r2.intV
                  refine ⟨_, rfl, ra, _, 2, _, rfl, rfl, SqT.of hra, atI_nat (j := 2) rfl, rfl, _, rfl, ?_⟩
                  have g0 : goB (.tuple [.str w, nm, .int pt, ns]) = !decide (pt = -1) := by
                    show (decide (w = "late") && !decide (pt = -1)) = _
                    rw [decide_eq_true ew, Bool.true_and]
                  refine ite2 (fun c2 => ?_) (fun c2 => ?_)
                  · have n1 : ¬ pt = -1 := by simpa using c2
                    rw [goV_yes (by rw [g0, decide_eq_false n1]; rfl)]
                    refine ⟨_, rfl, ra, _, 2, _, rfl, rfl, SqT.of hra, atI_nat (j := 2) rfl, _, hR4, by rw [goV_len, sizeLine_eq]; omega, fun b' o' e => ?_, upd_same⟩
                    rw [upd_ne (ne_of_none e nR)]
                    exact s4 _ _ e
                  · have n1 : pt = -1 := by simpa using c2
                    rw [goV_no (by rw [g0, decide_eq_true n1]; decide)]
                    exact ⟨s4, hR4⟩
          · have ew : ¬ w = "late" := by simpa using c1
            rw [goV_no (by
              show ¬ (decide (w = "late") && _) = true
              rw [decide_eq_false ew]
              exact fun z => nomatch z)]
            exact ⟨s4, hR4⟩
      · rintro H4 ⟨s4, hR4⟩
        refine ⟨s4, ?_⟩
        rw [rb.length, List.take_length] at hR4
        rw [flat_snoc hp]
        exact hR4
    · rintro H3 ⟨s3, hR⟩
      rw [rs.length, List.take_length] at hR
      have s13 := s1.trans s3
      have dg := doors_goV ps es m o
      have dl := doors_len m o F
      generalize doorsD (.tuple [.tuple ps, m, .tuple es, o]) = ds at k dg dl
      refine ⟨_, rfl, a, _, 2, _, rfl, rfl, SqT.of (s13 _ _ ha), atI_nat (j := 2) rfl, ea, _, rfl, .inr (SqT.of (s13 _ _ hea)), fun l nl => ?_⟩
      have lR := ne_of_none hR nl
      have e1 : (upd H3 l (.lst ((es.map valI).map V.int))) R = some (.lst (goV (ps.flatMap itemsD))) := by rw [upd_ne lR]; exact hR
      have ll := congrArg List.length dg
      rw [List.length_append, List.length_map] at ll
      refine ⟨_, rfl, l, R, _, _, rfl, rfl, upd_same, e1, by rw [sizeLine_eq]; omega, fun u nu => ?_⟩
      rw [← dg]
      refine ⟨u, ds, rfl, SqL.of upd_same, by omega, fun sa c nsa cle => ?_⟩
      refine ⟨sa, _, c, rfl, upd_same, by omega, fun ns pp up mem len np => ?_⟩
      refine k _ pp ns ?_ ?_ upd_same up (fun j => by rw [mem j, decide_eq_true_eq]) (by omega)
      · exact (((s13.trans (same_new nl)).trans (same_new nu)).trans (same_new nsa)).trans (same_new np)
      · exact none_back (((s13.trans (same_new nl)).trans (same_new nu)).trans (same_new nsa)) np
def sp_is_layout : Sp := fun vs H Q _ => ∃ (pr v : V) (S : List Addr) (P d : PyData) (ns : List Int), vs = [pr, v] ∧ Rep S H pr P ∧ progB P = true ∧ Rep S H v d ∧ (rowsOfD (nthD d 0)).length ≤ 60 ∧ (∀ x ∈ itemsD (nthD d 1), (itemsD (nthD x 1)).length ≤ 50) ∧ ns.Pairwise (· < ·) ∧ (∀ k, k ∈ ns ↔ k ∈ doorsD P) ∧ ∀ H', Same H H' → Q (.bl (layB P ns d)) H'
theorem ok_is_layout (T : Txt K mg A) : FnOk P w K mg base CX0 11 A.f_is_layout A.d_is_layout ["program", "thing"] (sp_is_layout) := by
  refine T.F_is_layout.ok sc_is_layout (fun vs H Q E h => ?_) (fun cdv Ar outer s H vs Q E hr h => ?_)
  · obtain ⟨pr, v, S, P, d, ns, rfl, rP, okp, r, f60, f50, up, mem, k⟩ := h
    rfl
  · obtain ⟨pr, v, S, P, d, ns, rfl, rP, okp, r, f60, f50, up, mem, k⟩ := h
    refine ⟨_, PSs.nox ((pss_cons (ps_expr (pe_call (ok_demand_program T) (hr.mono (by decide)) rfl T.m_demand_program T.F_demand_program.kp (b_demand_program T) .nil pass0 (pa_cons (pv 0) pa_nil)))
 (pss_cons (ps_if (PW.pt (pw_or (pt_not (pt_val (pe_call (ok_is_tuple T) (hr.mono (by decide)) rfl T.m_is_tuple T.F_is_tuple.kp (b_is_tuple T) .nil pass0 (pa_cons (pv 1) (pa_cons pe_int (pa_cons pe_int pa_nil)))))) (pw_or1 (pt_not (pt_val (pe_call (ok_are_packs T) (hr.mono (by decide)) rfl T.m_are_packs T.F_are_packs.kp (b_are_packs T) .nil pass0 (pa_cons (pv 0) (pa_cons (pe_ix ix_tup (pv 1) pe_int (fun _ _ => rfl)) pa_nil)))))))) (pss_one (ps_ret pe_bl)) pss_nil)
 (pss_one (ps_ret (pe_call (ok_are_laid_doors T) (hr.mono (by decide)) rfl T.m_are_laid_doors T.F_are_laid_doors.kp (b_are_laid_doors T) .nil pass0 (pa_cons (pe_ix ix_tup (pv 1) pe_int (fun _ _ => rfl)) (pa_cons (pe_call (ok_doors_of T) hr rfl T.m_doors_of T.F_doors_of.kp (b_doors_of T) .nil pass0 (pa_cons (pv 0) pa_nil)) (pa_cons (pe_callB call_len_seq (by rfl) T.zlen (by decide +kernel) (pa_cons (pe_ix ix_tup (pv 1) pe_int (fun _ _ => rfl)) pa_nil)) pa_nil))))))))), ?_⟩
    rw [show start N_is_layout [pr, v] = [some (pr), some (v)] from rfl]
    refine ⟨_, rfl, pr, S, P, rfl, rP, okp, fun H0 s0 => ?_⟩
    refine ⟨_, rfl, v, S, d, 2, 2, rfl, r.sm s0, fun H1 s01 => ⟨_, rfl, ?_⟩⟩
    have s1 := s0.trans s01
    have k1 : ∀ b, layB P ns d = b → ∀ H', Same H1 H' → Q (.bl b) H' := fun b e H' s' => by
      have z := k H' (s1.trans s')
      rwa [e] at z
    
    refine ite2 (fun c => iteT ?_) (fun c => ?_)
    · exact k1 false (by unfold layB; rw [nbF c]; rfl) H1 (.refl _)
    replace c := nbT c
    obtain ⟨ds, rfl, h1, h2⟩ := tupB_len c
    obtain ⟨x, y, rfl⟩ := len2 h1 h2
    obtain ⟨a, p, q, rfl, ha, rp, rq⟩ := r.two
    have l0 : ∀ b, (packsB P x && laidsB y ns ((itemsD x).length : Int)) = b → ∀ H', Same H1 H' → Q (.bl b) H' := fun b e => k1 b e
    clear k1 k
    refine ⟨_, rfl, _, rfl, a, _, 0, _, rfl, rfl, SqT.of (s1 _ _ ha), atI_nat (j := 0) rfl, pr, p, S, P, x, rfl, rP.sm s1, okp, rp.sm s1, f60, fun H2 s2 => ⟨_, rfl, ?_⟩⟩
    refine ite2 (fun c2 => ?_) (fun c2 => ?_)
    · exact l0 false (by rw [nbF c2]; rfl) H2 s2
    replace c2 := nbT c2
    obtain ⟨ps, rfl⟩ : ∃ ps, x = .tuple ps := by
      unfold packsB at c2
      obtain ⟨ds, e, _⟩ := tupB_len (Bool.and_eq_true_iff.mp c2).1
      exact ⟨ds, e⟩
    obtain ⟨b, xs, rfl, hb, _, rs⟩ := rp.tupV
    have s12 := s1.trans s2
    refine ⟨_, rfl, a, _, 1, _, rfl, rfl, SqT.of (s12 _ _ ha), atI_nat (j := 1) rfl, _, rfl, pr, S, P, rfl, rP.sm s12, okp, fun H3 dp ns' s3 ndp hdp up' mem' len => ?_⟩
    obtain rfl := asc_eq up' up fun j => (mem' j).trans (mem j).symm
    have s13 := s12.trans s3
    refine ⟨_, rfl, a, _, 0, _, rfl, rfl, SqT.of (s13 _ _ ha), atI_nat (j := 0) rfl, b, xs, rfl, .inr (SqT.of (s13 _ _ hb)), q, dp, S, y, ns', _, rfl, rq.sm s13, hdp, len, f50, fun H4 s4 => ?_⟩
    rw [rs.length]
    exact l0 _ (by rw [c2]; rfl) H4 (s2.trans (s3.trans s4))
end
end Lb

set_option Elab.async false
set_option linter.all false
set_option maxRecDepth 100000
set_option maxHeartbeats 4000000
namespace Lb
open PySem PySem.Spec PyProof.Rows L2
section
variable {P : Program} {w : World} {K : PySem.W.Frag} {mg : Str → Option Value} {base : Heap} {A : Ad}
theorem int_rep {S : List Addr} {H : Hp} {n m : Int} (e : n = m) : Rep S H (.int n) (.int m) := by
  subst e
  exact .int _

def sp_law_places : Sp := fun vs H Q _ => ∃ (v : V) (S : List Addr) (d : PyData), vs = [v] ∧ Rep S H v d ∧ progB d = true ∧ ∀ (H' : Hp) (p : Addr) (ys : List V), Same H H' → H p = none → H' p = some (.lst ys) → Reps [] H' ys (placesD d) → ys.length ≤ 20 → Q (.ref p) H'
theorem ok_law_places (T : Txt K mg A) : FnOk P w K mg base CX0 1 A.f_law_places A.d_law_places ["program"] (sp_law_places) := by
  refine T.F_law_places.ok sc_law_places (fun vs H Q E h => ?_) (fun cdv Ar outer s H vs Q E hr h => ?_)
  · obtain ⟨v, S, d, rfl, r, ok, k⟩ := h
    rfl
  · obtain ⟨v, S, d, rfl, r, ok, k⟩ := h
    refine ⟨_, PSs.nox ((pss_cons (ps_set (i := 1) sc_law_places.nd rfl (Or.inl rfl) (pe_lst pa_nil))
 (pss_cons (ps_for PassesOwn.never rfl (pi_range1 (by rfl) T.zrange (pa_cons (pe_callB call_len_seq (by rfl) T.zlen (by decide +kernel) (pa_cons (pe_ix ix_tup (pv 0) pe_int (fun _ _ => rfl)) pa_nil)) pa_nil)) (pg_name (i := 2) sc_law_places.nd rfl (Or.inl rfl)) (pss_one (ps_for PassesOwn.never rfl (pi_range1 (by rfl) T.zrange (pa_cons (pe_callB call_len_seq (by rfl) T.zlen (by decide +kernel) (pa_cons (pe_ix ix_tup (pe_ix ix_tup (pv 0) pe_int (fun _ _ => rfl)) (pv 2) (fun _ _ => rfl)) pa_nil)) pa_nil)) (pg_name (i := 3) sc_law_places.nd rfl (Or.inl rfl)) (pss_one (ps_expr (pe_bm PySem.F.plainAttrs_list PySem.F.slot_list_append PySem.F.type_list_append mt_append (pv 1) (pa_cons (pe_tup (pa_cons (pv 2) (pa_cons (pv 3) pa_nil))) pa_nil)))))))
 (pss_one (ps_ret (pv 1)))))), ?_⟩
    rw [show start N_law_places [v] = [some (v), none, none, none] from rfl]
    obtain ⟨ps, m, es, o, rfl, F⟩ := prog_of ok
    obtain ⟨a, p, q, s', t, rfl, ha, rp, rq, rz, ru⟩ := r.four
    obtain ⟨b, xs, rfl, hb, _, rs⟩ := rp.tupV
    
    have l4 := F.four
    have tot := upTo_len F.five
    have pd : placesD (.tuple [.tuple ps, m, .tuple es, o]) = upTo ps ps.length := rfl
    rw [pd] at k
    
    refine ⟨Nat.zero_le _, fun R nR => ?_⟩
    have s1 : Same H (upd H R (.lst [])) := same_new nR
    refine ⟨_, rfl, a, _, 0, _, rfl, rfl, SqT.of (s1 _ _ ha), atI_nat (j := 0) rfl, b, xs, rfl, .inr (SqT.of (s1 _ _ hb)), (ps.length : Int), by rw [rs.length], by omega, by omega, for_range (lo := 0) (n := ps.length) (fun i σ H3 => ∃ o2 o3, σ = [some (.ref a), some (.ref R), o2, o3] ∧ Same H H3 ∧ ∃ acc, H3 R = some (.lst acc) ∧ Reps [R] H3 acc (upTo ps i)) ⟨_, _, rfl, s1, [], upd_same, .nil⟩ ?_ ?_⟩
    · rintro i σ H3 hi ⟨o2, o3, rfl, s3, acc, hR, rA⟩
      have ip : ps[i]? = some (ps[i]'hi) := List.getElem?_eq_getElem hi
      obtain ⟨rows, er, l5⟩ := F.five _ (List.getElem_mem hi)
      rw [er] at ip
      obtain ⟨x, hx, rp1⟩ := (rs.sm s3).at_ ip
      obtain ⟨c, zs, rfl, hc, _, rb⟩ := rp1.tupV
      refine ⟨_, rfl, a, _, 0, _, rfl, rfl, SqT.of (s3 _ _ ha), atI_nat (j := 0) rfl, _, rfl, b, xs, (i : Int), _, rfl, by rw [Int.zero_add], SqT.of (s3 _ _ hb), atI_nat hx, c, zs, rfl, .inr (SqT.of hc), (rows.length : Int), by rw [rb.length], by omega, by omega, for_range (lo := 0) (n := rows.length) (fun j σ H4 => ∃ o3, σ = [some (.ref a), some (.ref R), some (.int (0 + (i : Nat))), o3] ∧ Same H H4 ∧ ∃ acc, H4 R = some (.lst acc) ∧ Reps [R] H4 acc (upTo ps i ++ inPart i j)) ⟨_, rfl, s3, acc, hR, by rw [show inPart i 0 = [] from rfl, List.append_nil]; exact rA⟩ ?_ ?_⟩
      · clear hR rA
        rintro j σ H4 hj ⟨o3, rfl, s4, acc, hR4, rA⟩
        refine ⟨_, rfl, .inl ⟨rfl, _, SqL.of hR4⟩, _, rfl, _, rfl, (by show 2 ≤ sizeLine; decide), fun t1 nt1 => ?_⟩
        have tR : t1 ≠ R := (ne_of_none hR4 nt1).symm
        have lt : acc.length < sizeLine := by
          have z1 := rA.length
          have z2 := tot i
          rw [List.length_append, inPart_len] at z1
          rw [sizeLine_eq]
          omega
        refine ⟨R, acc, _, rfl, rfl, (same_new nt1) _ _ hR4, lt, _, rfl, ?_, ?_⟩
        · intro b' o' e
          rw [upd_ne (ne_of_none e nR)]
          exact (same_new nt1) _ _ (s4 _ _ e)
        · refine ⟨_, upd_same, ?_⟩
          rw [inPart_snoc, ← List.append_assoc]
          have bu : But [R] H4 (upd (upd H4 t1 (.tup [.int (0 + (i : Nat)), .int (0 + (j : Nat))])) R (.lst (acc ++ [.ref t1]))) := (But.refl.new nt1).upd List.mem_cons_self
          exact (rA.mv bu).app (.one (.tup (by rw [upd_ne tR]; exact upd_same) (fun z => tR (List.mem_singleton.mp z)) (.cons (int_rep (Int.zero_add _)) (.cons (int_rep (Int.zero_add _)) .nil))))
      · rintro σ H5 ⟨o3, rfl, s5, acc, hR5, rA5⟩
        refine ⟨_, _, rfl, s5, acc, hR5, ?_⟩
        rw [upTo_snoc ip]
        exact rA5
    · rintro σ H3 ⟨o2, o3, rfl, s3, acc, hR, rA⟩
      have z := rA.length
      have z2 := tot ps.length
      refine ⟨_, rfl, ?_⟩
      refine k H3 R acc s3 nR hR (rA.less fun _ z => absurd z List.not_mem_nil) (by omega)
def sp_law_doors : Sp := fun vs H Q _ => ∃ (v : V) (S : List Addr) (d : PyData), vs = [v] ∧ Rep S H v d ∧ progB d = true ∧ ∀ (H' : Hp) (p : Addr) (ns : List Int), Same H H' → H p = none → H' p = some (.lst (ns.map V.int)) → ns.Pairwise (· < ·) → (∀ k, k ∈ ns ↔ k ∈ doorsD d) → ns.length ≤ 15 → Q (.ref p) H'
theorem ok_law_doors (T : Txt K mg A) : FnOk P w K mg base CX0 1 A.f_law_doors A.d_law_doors ["program"] (sp_law_doors) := by
  refine T.F_law_doors.ok sc_law_doors (fun vs H Q E h => ?_) (fun cdv Ar outer s H vs Q E hr h => ?_)
  · obtain ⟨v, S, d, rfl, r, ok, k⟩ := h
    rfl
  · obtain ⟨v, S, d, rfl, r, ok, k⟩ := h
    refine ⟨_, PSs.nox ((pss_cons (ps_set (i := 1) sc_law_doors.nd rfl (Or.inl rfl) (pe_callTy call_list_of (by rfl) T.zlist (by decide +kernel) (pa_cons (pe_ix ix_tup (pv 0) pe_int (fun _ _ => rfl)) pa_nil)))
 (pss_cons (ps_for PassesOwn.never rfl (pi_tup (pe_ix ix_tup (pv 0) pe_int (fun _ _ => rfl))) (pg_name (i := 2) sc_law_doors.nd rfl (Or.inl rfl)) (pss_one (ps_for PassesOwn.never rfl (show PI _ _ _ (iTup K (tVar 2)) from pi_tup (pv 2)) (pg_name (i := 3) sc_law_doors.nd rfl (Or.inl rfl)) (pss_one (ps_if (PW.pt (pw_and (pt_cmpR op_eq (pe_ix ix_tup (pv 3) pe_int (fun _ _ => rfl)) pe_str (nomark _)) (pw_and1 (pt_cmpR op_ge (pe_ix ix_tup (pv 3) pe_int (fun _ _ => rfl)) pe_int (nomark _))))) (pss_one (ps_expr (pe_bm PySem.F.plainAttrs_list PySem.F.slot_list_append PySem.F.type_list_append mt_append (pv 1) (pa_cons (pe_ix ix_tup (pv 3) pe_int (fun _ _ => rfl)) pa_nil)))) pss_nil)))))
 (pss_one (ps_ret (pe_callB (cr_sortedSet rfl) (by rfl) T.zsorted (by decide +kernel) (pa_cons (pe_callTy (cr_setI rfl) (by rfl) T.zset (by decide +kernel) (pa_cons (pv 1) pa_nil)) pa_nil))))))), ?_⟩
    rw [show start N_law_doors [v] = [some (v), none, none, none] from rfl]
    obtain ⟨ps, m, es, o, rfl, F⟩ := prog_of ok
    obtain ⟨a, p, q, s', t, rfl, ha, rp, rq, rz, ru⟩ := r.four
    obtain ⟨b, xs, rfl, hb, _, rs⟩ := rp.tupV
    obtain ⟨ea, ys, rfl, hea, _, re⟩ := rz.tupV
    obtain rfl := re.asInts F.allI
    
    refine ⟨_, rfl, a, _, 2, _, rfl, rfl, SqT.of (ha), atI_nat (j := 2) rfl, ea, _, rfl, .inr (SqT.of hea), fun R nR => ?_⟩
    have s1 : Same H (upd H R (.lst ((es.map valI).map V.int))) := same_new nR
    have nD : ∀ b' o', H b' = some o' → b' ≠ R := fun b' o' e => ne_of_none e nR
    have hR1 : (upd H R (.lst ((es.map valI).map V.int))) R = some (.lst ((es.map valI).map V.int)) := upd_same
    generalize upd H R (.lst ((es.map valI).map V.int)) = H1 at s1 hR1 ⊢
    have rsR : Reps S H1 xs ps := rs.sm s1
    have l3 := F.three
    refine ⟨_, rfl, a, _, 0, _, rfl, rfl, SqT.of (s1 _ _ ha), atI_nat (j := 0) rfl, b, rfl, ⟨_, SqT.of (s1 _ _ hb)⟩, for_tup (K := K) (a := b) (xs := xs) (fun i σ H3 => ∃ o2 o3, σ = [some (.ref a), some (.ref R), o2, o3] ∧ Same H H3 ∧ H3 R = some (.lst ((es.map valI).map V.int ++ goV ((ps.take i).flatMap itemsD)))) ⟨_, _, rfl, s1, by show H1 R = some (.lst (_ ++ [])); rw [List.append_nil]; exact hR1⟩ (fun i σ H3 _ p => by obtain ⟨_, _, _, p, _⟩ := p; exact SqT.of (p _ _ hb)) ?_ ?_⟩
    · rintro i x σ H3 hx ⟨o2, o3, rfl, s3, hR⟩
      obtain ⟨p1, hp, rp1⟩ := rs.get hx
      obtain ⟨rows, rfl, l5⟩ := F.five p1 (List.mem_of_getElem? hp)
      obtain ⟨c, zs, rfl, hc, _, rb⟩ := rp1.tupV
      refine ⟨_, rfl, c, rfl, ⟨_, SqT.of (s3 _ _ hc)⟩, for_tup (K := K) (a := c) (xs := zs) (fun j σ H4 => ∃ o3, σ = [some (.ref a), some (.ref R), some (.ref c), o3] ∧ Same H H4 ∧ H4 R = some (.lst ((es.map valI).map V.int ++ goV ((ps.take i).flatMap itemsD ++ rows.take j)))) ⟨_, rfl, s3, by rw [List.take_zero, List.append_nil]; exact hR⟩ (fun j σ H4 _ p => by obtain ⟨_, _, p, _⟩ := p; exact SqT.of (p _ _ hc)) ?_ ?_⟩
      · rintro j y σ H4 hy ⟨o3, rfl, s4, hR4⟩
        obtain ⟨q1, hq, rq1⟩ := (rb.sm s4).get hy
        obtain ⟨w, rest, rfl, sh⟩ := late_shape (F.rows q1 (flat_mem hp (List.mem_of_getElem? hq)))
        obtain ⟨ra, rv, rfl, hra, _, rr⟩ := rq1.tupV
        have few := flat_few (j := j) hp F.twelve
        have tk : (ps.take i).flatMap itemsD ++ rows.take (j + 1) = ((ps.take i).flatMap itemsD ++ rows.take j) ++ [.tuple (.str w :: rest)] := by rw [List.take_succ, hq, List.append_assoc]; rfl
        rw [tk]
        cases rr with
        | cons r0 rr =>
          obtain rfl := r0.strV
          refine ⟨_, rfl, ra, _, 0, _, rfl, rfl, SqT.of hra, atI_nat (j := 0) rfl, rfl, _, rfl, ?_⟩
          refine ite2 (fun c1 => ?_) (fun c1 => ?_)
          · have ew : w = "late" := by simpa using c1
            obtain ⟨nm, pt, ns, rfl, lo⟩ := sh ew
            cases rr with
            | cons r1 rr => cases rr with
              | cons r2 rr => cases rr with
                | cons r3 rr =>
                  cases rr
                  obtain rfl := r2.intV
                  refine ⟨_, rfl, ra, _, 2, _, rfl, rfl, SqT.of hra, atI_nat (j := 2) rfl, _, _, rfl, rfl, _, rfl, ?_⟩
                  have g0 : goB (.tuple [.str w, nm, .int pt, ns]) = !decide (pt = -1) := by
                    show (decide (w = "late") && !decide (pt = -1)) = _
                    rw [decide_eq_true ew, Bool.true_and]
                  refine ite2 (fun c2 => ?_) (fun c2 => ?_)
                  · have n1 : ¬ pt = -1 := by
                      have := of_decide_eq_true c2
                      omega
                    rw [goV_yes (by rw [g0, decide_eq_false n1]; rfl)]
                    refine ⟨_, rfl, .inl ⟨rfl, _, SqL.of hR4⟩, _, rfl, ra, _, 2, _, rfl, rfl, SqT.of hra, atI_nat (j := 2) rfl, R, _, _, rfl, rfl, hR4, by rw [List.length_append, List.length_map, List.length_map, goV_len, sizeLine_eq]; omega, _, rfl, fun b' o' e => ?_, by rw [List.append_assoc]; exact upd_same⟩
                    rw [upd_ne (nD _ _ e)]
                    exact s4 _ _ e
                  · have n1 : pt = -1 := by
                      have : ¬ 0 ≤ pt := fun z => c2 (decide_eq_true z)
                      omega
                    rw [goV_no (by rw [g0, decide_eq_true n1]; decide)]
                    exact ⟨_, rfl, s4, hR4⟩
          · have ew : ¬ w = "late" := by simpa using c1
            rw [goV_no (by
              show ¬ (decide (w = "late") && _) = true
              rw [decide_eq_false ew]
              exact fun z => nomatch z)]
            exact ⟨_, rfl, s4, hR4⟩
      · rintro σ H4 ⟨o3, rfl, s4, hR4⟩
        refine ⟨_, _, rfl, s4, ?_⟩
        rw [rb.length, List.take_length] at hR4
        rw [flat_snoc hp]
        exact hR4
    · rintro σ H3 ⟨o2, o3, rfl, s3, hR⟩
      rw [rs.length, List.take_length] at hR
      have dg := doors_goV ps es m o
      have dl := doors_len m o F
      generalize doorsD (.tuple [.tuple ps, m, .tuple es, o]) = ds at k dg dl
      rw [← dg] at hR
      refine ⟨_, rfl, R, ds, rfl, SqL.of hR, by omega, fun sa c nsa cle => ?_⟩
      refine ⟨sa, _, c, rfl, upd_same, by omega, fun ns pp up mem len np => ?_⟩
      refine k _ pp ns ?_ ?_ upd_same up (fun j => by rw [mem j, decide_eq_true_eq]) (by omega)
      · exact (s3.trans (same_new nsa)).trans (same_new np)
      · exact none_back (s3.trans (same_new nsa)) np
end
end Lb

set_option Elab.async false
set_option linter.all false
set_option maxRecDepth 100000
set_option maxHeartbeats 4000000
namespace Lb
open PySem PySem.Spec PyProof.Rows L2
section
variable {P : Program} {w : World} {K : PySem.W.Frag} {mg : Str → Option Value} {base : Heap} {A : Ad}
def sp_law_layout : Sp := fun vs H Q _ => ∃ (st l : Addr) (v : V) (d : PyData) (ns : List Int), vs = [.ref st, v] ∧ Strm st l H ∧ Rep [st] H v d ∧ progB d = true ∧ ns.Pairwise (· < ·) ∧ (∀ k, k ∈ ns ↔ k ∈ doorsD d) ∧ ∀ (H' : Hp) (lv : V) (Y : Lay), But [st] H H' → Strm st l H' → Rep [st] H' lv Y.d → Y.Ok d ns → Q lv H'
theorem ok_law_layout (T : Txt K mg A) : FnOk P w K mg base CX0 3 A.f_law_layout A.d_law_layout ["stream", "program"] (sp_law_layout) := by
  refine T.F_law_layout.ok sc_law_layout (fun vs H Q E h => ?_) (fun cdv Ar outer s H vs Q E hr h => ?_)
  · obtain ⟨st, l, v, d, ns, rfl, hst, rv, okd, up, mem, k⟩ := h
    rfl
  · obtain ⟨st, l, v, d, ns, rfl, hst, rv, okd, up, mem, k⟩ := h
    refine ⟨_, PSs.nox ((pss_cons (ps_set (i := 2) sc_law_layout.nd rfl (Or.inl rfl) (pe_ix ix_list (pe_lst (pa_cons pe_int (pa_cons pe_int (pa_cons pe_int (pa_cons pe_int (pa_cons pe_int (pa_cons pe_int pa_nil))))))) (pe_call (ok_law_draw T) hr rfl T.m_law_draw T.F_law_draw.kp (b_law_draw T) .nil pass0 (pa_cons (pv 0) (pa_cons pe_int pa_nil))) (fun _ _ => rfl)))
 (pss_cons (ps_setLc (i := 3) (own := [("k", 10)]) (g := (gName 10)) (tt := tYes) rfl sc_law_layout.nd rfl rfl (sw_true rfl rfl rfl (by decide +kernel)) (pi_range1 (by rfl) T.zrange (pa_cons (pv 2) pa_nil)) (blkOk_by (N := N_law_layout) (sc := defScope s_law_layout) (by decide +kernel)) (fun _ _ _ _ _ => (pg_name (i := 10) sc_law_layout.nd rfl (Or.inl rfl))) (fun _ _ _ _ _ => pts_nil) (fun _ _ _ _ _ => (pe_lst pa_nil)))
 (pss_cons (ps_for PassesOwn.never rfl (pi_list (pe_call (ok_law_places T) (hr.mono (by decide)) rfl T.m_law_places T.F_law_places.kp (b_law_places T) .nil pass0 (pa_cons (pv 1) pa_nil))) (pg_name (i := 4) sc_law_layout.nd rfl (Or.inl rfl)) (pss_cons (ps_set (i := 5) sc_law_layout.nd rfl (Or.inl rfl) (pe_call (ok_law_draw T) hr rfl T.m_law_draw T.F_law_draw.kp (b_law_draw T) .nil pass0 (pa_cons (pv 0) (pa_cons (pe_op op_add (pv 2) pe_int) pa_nil))))
 (pss_one (ps_if (pt_cmpR op_lt (pv 5) (pv 2) (nomark _)) (pss_cons (ps_set (i := 6) sc_law_layout.nd rfl (Or.inl rfl) (pe_ix ix_list (pv 3) (pv 5) (fun _ _ => rfl)))
 (pss_one (ps_expr (pe_bm PySem.F.plainAttrs_list PySem.F.slot_list_insert PySem.F.type_list_insert mt_insert (pv 6) (pa_cons (pe_call (ok_law_draw T) hr rfl T.m_law_draw T.F_law_draw.kp (b_law_draw T) .nil pass0 (pa_cons (pv 0) (pa_cons (pe_op op_add (pe_callB call_len_seq (by rfl) T.zlen (by decide +kernel) (pa_cons (pv 6) pa_nil)) pe_int) pa_nil))) (pa_cons (pv 4) pa_nil)))))) pss_nil))))
 (pss_cons (ps_set (i := 7) sc_law_layout.nd rfl (Or.inl rfl) (pe_lst pa_nil))
 (pss_cons (ps_for PassesOwn.never rfl (pi_list (pe_call (ok_law_doors T) (hr.mono (by decide)) rfl T.m_law_doors T.F_law_doors.kp (b_law_doors T) .nil pass0 (pa_cons (pv 1) pa_nil))) (pg_name (i := 8) sc_law_layout.nd rfl (Or.inl rfl)) (pss_cons (ps_set (i := 9) sc_law_layout.nd rfl (Or.inl rfl) (pe_lst pa_nil))
 (pss_cons (ps_for PassesOwn.never rfl (pi_range1 (by rfl) T.zrange (pa_cons (pv 2) pa_nil)) (pg_name (i := 10) sc_law_layout.nd rfl (Or.inl rfl)) (pss_one (ps_if (pt_cmpR op_gt (pe_call (ok_law_draw T) hr rfl T.m_law_draw T.F_law_draw.kp (b_law_draw T) .nil pass0 (pa_cons (pv 0) (pa_cons pe_int pa_nil))) pe_int (nomark _)) (pss_one (ps_expr (pe_bm PySem.F.plainAttrs_list PySem.F.slot_list_insert PySem.F.type_list_insert mt_insert (pv 9) (pa_cons (pe_call (ok_law_draw T) hr rfl T.m_law_draw T.F_law_draw.kp (b_law_draw T) .nil pass0 (pa_cons (pv 0) (pa_cons (pe_op op_add (pe_callB call_len_seq (by rfl) T.zlen (by decide +kernel) (pa_cons (pv 9) pa_nil)) pe_int) pa_nil))) (pa_cons (pv 10) pa_nil))))) pss_nil)))
 (pss_one (ps_expr (pe_bm PySem.F.plainAttrs_list PySem.F.slot_list_append PySem.F.type_list_append mt_append (pv 7) (pa_cons (pe_tup (pa_cons (pv 8) (pa_cons (pe_callTy call_tuple_of (by rfl) T.ztuple (by decide +kernel) (pa_cons (pv 9) pa_nil)) pa_nil))) pa_nil)))))))
 (pss_one (ps_ret (pe_tup (pa_cons (pe_callTy call_tuple_of (by rfl) T.ztuple (by decide +kernel) (pa_cons (pe_lc (own := [("pack", 6)]) (g := (gName 6)) (tt := tYes) rfl sc_law_layout.nd (pi_list (pv 3)) (blkOk_by (N := N_law_layout) (sc := defScope s_law_layout) (by decide +kernel)) (fun _ _ _ _ _ => (pg_name (i := 6) sc_law_layout.nd rfl (Or.inl rfl))) (fun _ _ _ _ _ => pts_nil) (fun _ _ _ _ _ => (pe_callTy (show CallR _ _ (rTup2 K) from tup_k) (by rfl) T.ztuple (by decide +kernel) (pa_cons (pv 6) pa_nil)))) pa_nil)) (pa_cons (pe_callTy call_tuple_of (by rfl) T.ztuple (by decide +kernel) (pa_cons (pv 7) pa_nil)) pa_nil))))))))))), ?_⟩
    rw [show start N_law_layout [.ref st, v] = [some (.ref st), some (v), none, none, none, none, none, none, none, none, none] from rfl]
    have tot := pairs_len okd
    refine ⟨(by show 6 ≤ sizeLine; decide), fun ML nML => ⟨_, rfl, st, l, 6, rfl, hst.new nML, by decide, by decide, fun H2 u b2 hst2 u0 u1 => ?_⟩⟩
    obtain ⟨m, at_m, m8⟩ := many_at u0 u1
    refine ⟨ML, _, u, _, rfl, rfl, SqL.of (b2.at1 upd_same (hst.ne nML)), at_m, ?_⟩
    dsimp only [gName, List.set]
    have b02 : But [st] H H2 := (But.refl.new nML).trans b2
    clear nML at_m b2
    refine ⟨_, rfl, (m : Int), rfl, by omega, by omega, fun PK nPK => ?_⟩
    refine lc_range (lo := 0) (n := m) (fun i H' => Same H2 H' ∧ ∃ ls : List Addr, H' PK = some (.lst (ls.map V.ref)) ∧ ls.length = i ∧ ls.Nodup ∧ ∀ x ∈ ls, H2 x = none ∧ x ≠ PK ∧ H' x = some (.lst [])) ⟨same_new nPK, [], upd_same, rfl, .nil, fun _ z => absurd z List.not_mem_nil⟩ ?_ ?_
    · rintro i H' hi ⟨s', ls, hPK, ll, nd, fr⟩
      refine ⟨rfl, Nat.zero_le _, fun x nx => ?_⟩
      have xPK : x ≠ PK := (ne_of_none hPK nx).symm
      have xls : x ∉ ls := fun z => by
        have e := (fr x z).2.2
        rw [nx] at e
        exact nomatch e
      refine ⟨ls.map V.ref, same_new nx _ _ hPK, by rw [List.length_map, ll, sizeLine_eq]; omega, ?_, ls ++ [x], by rw [List.map_append]; exact upd_same, by rw [List.length_append, ll]; rfl, ?_, fun y hy => ?_⟩
      · intro b o e
        rw [upd_ne (ne_of_none e nPK)]
        exact same_new nx _ _ (s' _ _ e)
      · refine List.nodup_append.mpr ⟨nd, List.nodup_cons.mpr ⟨List.not_mem_nil, .nil⟩, fun a ha b hb e => ?_⟩
        rw [List.mem_singleton.mp hb] at e
        rw [e] at ha
        exact xls ha
      · rcases List.mem_append.mp hy with z | z
        · have f := fr y z
          exact ⟨f.1, f.2.1, by rw [upd_ne f.2.1]; exact same_new nx _ _ f.2.2⟩
        · rw [List.mem_singleton.mp z]
          exact ⟨none_back s' nx, xPK, by rw [upd_ne xPK]; exact upd_same⟩
    rintro H3 ⟨s3, ls, hPK, ll, nd, fr⟩
    dsimp only [gName, List.set]
    have hst3 := hst2.same s3
    have b03 : But [st] H H3 := b02.trans (.of s3)
    have PKst := hst2.ne nPK
    have PKl := hst2.ne2 nPK
    have lst_ : ∀ x ∈ ls, x ≠ st := fun x hx => hst2.ne (fr x hx).1
    have lsl : ∀ x ∈ ls, x ≠ l := fun x hx => hst2.ne2 (fr x hx).1
    have lsPK : ∀ x ∈ ls, x ≠ PK := fun x hx => (fr x hx).2.1
    have emp : PksAt H3 ls (List.replicate m []) := ⟨by rw [List.length_replicate, ll], fun j x hj => by
      have xm := List.mem_of_getElem? hj
      have lt := (List.getElem?_eq_some_iff.mp hj).1
      exact ⟨[], [], (fr x xm).2.2, by rw [List.getElem?_replicate, if_pos (by omega)], .nil⟩⟩
    have fresh0 : ∀ x ∈ ls, H x = none := fun x hx => by
      rcases Classical.em (H x = none) with e | e
      · exact e
      · obtain ⟨o, ho⟩ := Option.ne_none_iff_exists'.mp e
        have z := b02 x o (fun z => lst_ x hx (List.mem_singleton.mp z)) ho
        rw [(fr x hx).1] at z
        exact nomatch z
    have freshP : H PK = none := by
      rcases Classical.em (H PK = none) with e | e
      · exact e
      · obtain ⟨o, ho⟩ := Option.ne_none_iff_exists'.mp e
        have z := b02 PK o (fun z => PKst (List.mem_singleton.mp z)) ho
        rw [nPK] at z
        exact nomatch z
    clear s3 nPK b02 fr
    have rv3 := rv.mv b03
    refine ⟨_, rfl, v, [st], d, rfl, rv3, okd, fun H4 PL ys s4 nPL hPL rY len => ?_⟩
    rw [places_pairs] at rY
    have ly := rY.length
    rw [List.length_map] at ly
    have hst4 := hst3.same s4
    have PLst := hst3.ne nPL
    have hPK4 := s4 _ _ hPK
    have emp4 := emp.sm s4
    have lsPL : ∀ x ∈ ls, x ≠ PL := fun x hx => by
      obtain ⟨zs, h⟩ := emp.lists x hx
      exact ne_of_none h nPL
    have PKPL : PK ≠ PL := ne_of_none hPK nPL
    have in1 : ∀ {x : Addr}, x ≠ st → (∀ y ∈ ls, y ≠ x) → x ∉ st :: ls := fun n1 n2 z => (List.mem_cons.mp z).elim n1 fun z => n2 _ z rfl
    refine ⟨PL, rfl, ⟨_, SqL.of hPL⟩, for_list (K := K) (a := PL) (xs := ys) (fun i σ H' => ∃ (qss : List (List (Nat × Nat))) (o4 o5 o6 : Option V), σ = [some (.ref st), some v, some (.int (m : Nat)), some (.ref PK), o4, o5, o6, none, none, none, none] ∧
      But (st :: ls) H4 H' ∧ Strm st l H' ∧ PksAt H' ls qss ∧ qss.flatten.Nodup ∧ (∀ q ∈ qss.flatten, q ∈ (pairsOf d).take i) ∧ Reps [] H' ys ((pairsOf d).map pD) ∧ qss.flatten.length ≤ i) ?_ ?_ ?_ ?_⟩
    · refine ⟨List.replicate m [], _, _, _, rfl, .refl, hst4, emp4, ?_, ?_, rY, ?_⟩
      · rw [flat_rep]
        exact .nil
      · rw [flat_rep]
        exact fun q z => absurd z List.not_mem_nil
      · rw [flat_rep]
        exact Nat.le_refl _
    · rintro i σ H' hi ⟨qss, o4, o5, o6, rfl, b5, _⟩
      exact SqL.of (b5 _ _ (in1 PLst lsPL) hPL)
    · rintro i y σ H' hy ⟨qss, o4, o5, o6, rfl, b5, hst5, pk5, ndq, sub, rY5, fl⟩
      obtain ⟨dq, hdq, ry⟩ := rY5.get hy
      rw [List.getElem?_map] at hdq
      obtain ⟨q, hq, rfl⟩ := Option.map_eq_some_iff.mp hdq
      have hPK5 := b5 _ _ (in1 PKst lsPK) hPK4
      have lq := pk5.1
      refine ⟨_, rfl, _, rfl, _, _, rfl, rfl, st, l, (m : Int) + 1, rfl, hst5, by omega, by omega, fun H6 w b6 hst6 w0 w1 => ?_⟩
      dsimp only [gName, List.set]
      have stL : ∀ z ∈ [st], ∃ zs, H' z = some (.lst zs) := fun z hz => by
        rw [List.mem_singleton.mp hz]
        obtain ⟨_, h⟩ := hst5.there
        exact ⟨_, h⟩
      have pk6 := pk5.past stL b6 fun x hx z => lst_ x hx (List.mem_singleton.mp z)
      have rY6 := Reps.past (noLst_pairs _) rY5 stL b6
      have ry6 := Rep.past (d := pD q) rfl ry stL b6
      have b46 : But (st :: ls) H4 H6 := b5.trans (b6.mono fun x z => by rw [List.mem_singleton.mp z]; exact List.mem_cons_self)
      have hPK6 := b6.at1 hPK5 PKst
      have tk : (pairsOf d).take (i + 1) = (pairsOf d).take i ++ [q] := by rw [List.take_succ, hq]; rfl
      have i20 : i < 20 := by have := (List.getElem?_eq_some_iff.mp hq).1; omega
      refine ⟨_, rfl, _, rfl, _, _, rfl, rfl, _, rfl, ?_⟩
      refine ite2 (fun c => ?_) (fun c => ?_)
      · have wm : w < m := of_decide_eq_true c
        obtain ⟨x, hx⟩ : ∃ x, ls[w.toNat]? = some x := ⟨_, List.getElem?_eq_getElem (by omega)⟩
        have xm := List.mem_of_getElem? hx
        have at_w : atI (ls.map V.ref) w = some (.ref x) := by
          have e := atI_nat (xs := ls.map V.ref) (j := w.toNat) (v := .ref x) (by rw [List.getElem?_map, hx]; rfl)
          rwa [Int.toNat_of_nonneg w0] at e
        obtain ⟨vs, qs, hx6, hqs, rqs⟩ := pk6.2 _ _ hx
        have lv := rqs.length
        rw [List.length_map] at lv
        have lqs : qs.length ≤ i := by
          have e := List.getElem?_eq_some_iff.mp hqs
          have z : qs.length ≤ qss.flatten.length := by
            rw [← e.2]
            exact (List.sublist_flatten_of_mem (List.getElem_mem e.1)).length_le
          omega
        refine ⟨_, rfl, _, rfl, PK, _, w, _, rfl, rfl, SqL.of hPK6, at_w, ?_⟩
        dsimp only [gName, List.set]
        refine ⟨_, rfl, .inl ⟨rfl, _, SqL.of hx6⟩, _, rfl, _, rfl, x, vs, rfl, .inl (SqL.of hx6), _, _, rfl, rfl, st, l, _, rfl, hst6, by omega, by omega, fun H7 t b7 hst7 t0 t1 => ?_⟩
        have stL6 : ∀ z ∈ [st], ∃ zs, H6 z = some (.lst zs) := fun z hz => by
          rw [List.mem_singleton.mp hz]
          obtain ⟨_, h⟩ := hst6.there
          exact ⟨_, h⟩
        have xst := lst_ x xm
        have hx7 := b7.at1 hx6 xst
        have pk7 := pk6.past stL6 b7 fun x hx z => lst_ x hx (List.mem_singleton.mp z)
        have rY7 := Reps.past (noLst_pairs _) rY6 stL6 b7
        have ry7 := Rep.past (d := pD q) rfl ry6 stL6 b7
        have rqs7 := Reps.past (noLst_pairs _) rqs stL6 b7
        refine ⟨_, rfl, x, vs, t, y, rfl, rfl, hx7, by rw [sizeLine_eq]; omega, t0, by omega, ?_⟩
        have rnew : Reps [] H7 (vs.take t.toNat ++ [y] ++ vs.drop t.toNat) ((qs.take t.toNat ++ [q] ++ qs.drop t.toNat).map pD) := by
          rw [List.map_append, List.map_append, List.map_take, List.map_drop]
          exact ((rqs7.cut _).app (.one ry7)).app (rqs7.skip _)
        have bx : But [x] H7 (upd H7 x (.lst (vs.take t.toNat ++ [y] ++ vs.drop t.toNat))) := But.refl.upd List.mem_cons_self
        have pm := flat_put t.toNat q hqs
        refine ⟨qss.set w.toNat (qs.take t.toNat ++ [q] ++ qs.drop t.toNat), _, _, _, rfl, (b46.trans (b7.mono fun x z => by rw [List.mem_singleton.mp z]; exact List.mem_cons_self)).upd (List.mem_cons_of_mem _ xm), hst7.away xst (lsl x xm), pk7.put nd hx rnew, ?_, ?_, ?_, ?_⟩
        · rw [pm.nodup_iff, List.nodup_cons]
          refine ⟨fun z => ?_, ndq⟩
          have z1 := sub q z
          have up2 := pairs_up (itemsD (nthD d 0)) (itemsD (nthD d 0)).length
          obtain ⟨j, hj⟩ := List.mem_iff_getElem?.mp z1
          rw [List.getElem?_take] at hj
          by_cases c : j < i
          · rw [if_pos c] at hj
            have e1 := List.getElem?_eq_some_iff.mp hj
            have e2 := List.getElem?_eq_some_iff.mp hq
            have lt := List.pairwise_iff_getElem.mp up2 j i e1.1 e2.1 c
            rw [show (pairsTo (itemsD (nthD d 0)) (itemsD (nthD d 0)).length)[j]'e1.1 = q from e1.2, show (pairsTo (itemsD (nthD d 0)) (itemsD (nthD d 0)).length)[i]'e2.1 = q from e2.2] at lt
            unfold pLt at lt
            omega
          · rw [if_neg c] at hj
            exact nomatch hj
        · intro r hr
          rw [tk]
          rcases List.mem_cons.mp (pm.mem_iff.mp hr) with z | z
          · rw [z]
            exact List.mem_append.mpr (.inr List.mem_cons_self)
          · exact List.mem_append.mpr (.inl (sub r z))
        · exact Reps.past (noLst_pairs _) rY7 (fun z hz => by rw [List.mem_singleton.mp hz]; exact ⟨_, hx7⟩) bx
        · rw [pm.length_eq, List.length_cons]
          omega
      · refine ⟨qss, _, _, _, rfl, b46, hst6, pk6, ndq, fun r hr => ?_, rY6, by omega⟩
        rw [tk]
        exact List.mem_append.mpr (.inl (sub r hr))
    rintro σ H5 ⟨qss, o4, o5, o6, rfl, b45, hst5, pk5, ndq, sub, _, _⟩
    rw [ly, List.take_length] at sub
    have hPK5 := b45 _ _ (in1 PKst lsPK) hPK4
    have b05 : But [st] H H5 := by
      have z : But (st :: ls) H H5 := ((b03.trans (.of s4)).mono fun x z => by rw [List.mem_singleton.mp z]; exact List.mem_cons_self).trans b45
      exact z.thin fun x hx nx => (List.mem_cons.mp hx).elim (fun e => absurd (by rw [e]; exact List.mem_cons_self) nx) fun e => fresh0 x e
    clear b45 emp4 emp rY ly hPL PLst lsPL PKPL nPL s4 hst4 hPK4 hst3 rv3 b03 hPK in1
    refine ⟨Nat.zero_le _, fun LD nLD => ?_⟩
    dsimp only [gName, List.set]
    have rv6 := (rv.mv b05).sm (same_new (o := .lst []) nLD)
    have pk6 := pk5.sm (same_new (o := .lst []) nLD)
    have hPK6 := same_new (o := .lst []) nLD _ _ hPK5
    have hst6 := hst5.new (o := .lst []) nLD
    have LDst := hst5.ne nLD
    have LDl := hst5.ne2 nLD
    have PKLD : PK ≠ LD := ne_of_none hPK5 nLD
    have lsLD : ∀ x ∈ ls, x ≠ LD := fun x hx => by
      obtain ⟨zs, h⟩ := pk5.lists x hx
      exact ne_of_none h nLD
    have hLD6 : upd H5 LD (.lst []) LD = some (.lst []) := upd_same
    have b06 : But [st] H (upd H5 LD (.lst [])) := b05.new nLD
    have freshL : H LD = none := by
      rcases Classical.em (H LD = none) with e | e
      · exact e
      · obtain ⟨o, ho⟩ := Option.ne_none_iff_exists'.mp e
        have z := b05 LD o (fun z => LDst (List.mem_singleton.mp z)) ho
        rw [nLD] at z
        exact nomatch z
    generalize upd H5 LD (.lst []) = H6 at rv6 pk6 hPK6 hst6 hLD6 b06 ⊢
    clear b05 pk5 hPK5 hst5 nLD
    refine ⟨_, rfl, v, [st], d, rfl, rv6, okd, fun H7 DL ns' s7 nDL hDL up' mem' len' => ?_⟩
    obtain rfl := asc_eq up' up fun j => (mem' j).trans (mem j).symm
    have DLst := hst6.ne nDL
    have DLLD : DL ≠ LD := (ne_of_none hLD6 nDL).symm
    refine ⟨DL, rfl, ⟨_, SqL.of hDL⟩, for_list (K := K) (a := DL) (xs := ns'.map V.int) (fun i σ H' => ∃ (nums : List (Int × List Int)) (lvs : List V) (o8 o9 o10 : Option V), σ = [some (.ref st), some v, some (.int (m : Nat)), some (.ref PK), o4, o5, o6, some (.ref LD), o8, o9, o10] ∧
      But [LD, st] H7 H' ∧ Strm st l H' ∧ PksAt H' ls qss ∧ H' LD = some (.lst lvs) ∧ Reps [] H' lvs (nums.map doorD) ∧ nums.map Prod.fst = ns'.take i ∧ ∀ p ∈ nums, p.2.Nodup ∧ ∀ k ∈ p.2, 0 ≤ k ∧ k < (m : Int)) ?_ ?_ ?_ ?_⟩
    · exact ⟨[], [], _, _, _, rfl, .refl, hst6.same s7, pk6.sm s7, s7 _ _ hLD6, .nil, by rw [List.take_zero]; rfl, fun _ z => absurd z List.not_mem_nil⟩
    · rintro i σ H' hi ⟨nums, lvs, o8, o9, o10, rfl, b8, _⟩
      exact SqL.of (b8 _ _ (fun z => (List.mem_cons.mp z).elim DLLD fun z => DLst (List.mem_singleton.mp z)) hDL)
    · rintro i y σ H8 hy ⟨nums, lvs, o8, o9, o10, rfl, b8, hst8, pk8, hLD8, rl8, fst8, ok8⟩
      rw [List.getElem?_map] at hy
      obtain ⟨door, hdoor, rfl⟩ := Option.map_eq_some_iff.mp hy
      refine ⟨Nat.zero_le _, fun NB nNB => ?_⟩
      dsimp only [gName, List.set]
      have NBst := hst8.ne nNB
      have NBl := hst8.ne2 nNB
      have NBLD : NB ≠ LD := (ne_of_none hLD8 nNB).symm
      have lsNB : ∀ x ∈ ls, x ≠ NB := fun x hx => by
        obtain ⟨zs, h⟩ := pk8.lists x hx
        exact ne_of_none h nNB
      have s9 : Same H8 (upd H8 NB (.lst [])) := same_new nNB
      have hst9 := hst8.same s9
      have lists9 : ∀ z ∈ [NB, st], ∃ zs, upd H8 NB (.lst []) z = some (.lst zs) := fun z hz => by
        rcases List.mem_cons.mp hz with e | e
        · rw [e]
          exact ⟨_, upd_same⟩
        · rw [List.mem_singleton.mp e]
          obtain ⟨_, h⟩ := hst9.there
          exact ⟨_, h⟩
      have pk9 := pk8.sm s9
      have rl9 := rl8.sm s9
      have hLD9 := s9 _ _ hLD8
      refine ⟨_, rfl, (m : Int), rfl, by omega, by omega, for_range (lo := 0) (n := m) (fun j σ H' => ∃ (ks : List Int) (o10 : Option V), σ = [some (.ref st), some v, some (.int (m : Nat)), some (.ref PK), o4, o5, o6, some (.ref LD), some (.int door), some (.ref NB), o10] ∧
        But [NB, st] (upd H8 NB (.lst [])) H' ∧ Strm st l H' ∧ H' NB = some (.lst (ks.map V.int)) ∧ ks.Nodup ∧ (∀ k ∈ ks, 0 ≤ k ∧ k < (j : Int)) ∧ ks.length ≤ j) ⟨[], _, rfl, .refl, hst9, upd_same, .nil, fun _ z => absurd z List.not_mem_nil, Nat.le_refl _⟩ ?_ ?_⟩
      · rintro j σ Ha hj ⟨ks, o10, rfl, ba, hsta, hNB, ndk, ink, lk⟩
        refine ⟨_, rfl, st, l, 3, rfl, hsta, by decide, by decide, fun Hb w bb hstb w0 w1 => ⟨_, _, rfl, rfl, _, rfl, ?_⟩⟩
        have hNBb := bb.at1 hNB NBst
        have bb2 : But [NB, st] (upd H8 NB (.lst [])) Hb := ba.trans (bb.mono fun x z => List.mem_cons_of_mem _ z)
        refine ite2 (fun c => ?_) (fun c => ?_)
        · refine ⟨_, rfl, .inl ⟨rfl, _, SqL.of hNBb⟩, _, rfl, _, rfl, NB, _, rfl, .inl (SqL.of hNBb), _, _, rfl, rfl, st, l, _, rfl, hstb, by omega, by rw [List.length_map]; omega, fun Hc t bc hstc t0 t1 => ?_⟩
          have hNBc := bc.at1 hNBb NBst
          refine ⟨_, rfl, NB, _, t, _, rfl, rfl, hNBc, by rw [List.length_map, sizeLine_eq]; omega, t0, by rw [List.length_map] at t1; omega, ?_⟩
          have pm := ins_perm ks t.toNat (0 + (j : Int))
          refine ⟨ks.take t.toNat ++ [0 + (j : Int)] ++ ks.drop t.toNat, _, rfl, (bb2.trans (bc.mono fun x z => List.mem_cons_of_mem _ z)).upd List.mem_cons_self, hstc.away NBst NBl, ?_, ?_, ?_, ?_⟩
          · rw [List.map_append, List.map_append, List.map_take, List.map_drop]
            exact upd_same
          · rw [pm.nodup_iff, List.nodup_cons]
            exact ⟨fun z => by have := (ink _ z).2; omega, ndk⟩
          · intro x hx
            rcases List.mem_cons.mp (pm.mem_iff.mp hx) with z | z
            · rw [z]
              exact ⟨by omega, by omega⟩
            · have := ink x z
              exact ⟨this.1, by omega⟩
          · rw [pm.length_eq, List.length_cons]
            omega
        · exact ⟨ks, _, rfl, bb2, hstb, hNBb, ndk, fun x hx => ⟨(ink x hx).1, by have := (ink x hx).2; omega⟩, by omega⟩
      · rintro σ Ha ⟨ks, o10, rfl, ba, hsta, hNB, ndk, ink, lk⟩
        have pka := pk9.past lists9 ba fun x hx z => (List.mem_cons.mp z).elim (lsNB x hx) fun z => lst_ x hx (List.mem_singleton.mp z)
        have rla := Reps.past (noLst_doors nums) rl9 lists9 ba
        have hLDa := ba _ _ (fun z => (List.mem_cons.mp z).elim NBLD.symm fun z => LDst (List.mem_singleton.mp z)) hLD9
        have ll8 := rla.length
        rw [List.length_map] at ll8
        have ln8 : nums.length = (ns'.take i).length := by rw [← fst8, List.length_map]
        rw [List.length_take] at ln8
        refine ⟨_, rfl, .inl ⟨rfl, _, SqL.of hLDa⟩, _, rfl, _, rfl, NB, _, rfl, .inl ⟨SqL.of hNB, fun t1 nt1 => ⟨(by show 2 ≤ sizeLine; decide), fun t2 nt2 => ?_⟩⟩⟩
        have s12 := (same_new (o := .tup (ks.map V.int)) nt1).trans (same_new (o := .tup [.int door, .ref t1]) nt2)
        have hLDc := s12 _ _ hLDa
        refine ⟨LD, lvs, _, rfl, rfl, hLDc, by rw [sizeLine_eq]; omega, ?_⟩
        have rnew : Rep [] (upd (upd Ha t1 (.tup (ks.map V.int))) t2 (.tup [.int door, .ref t1])) (.ref t2) (doorD (door, ks)) := .tup upd_same List.not_mem_nil (.cons (.int _) (.cons (.tup (same_new nt2 _ _ upd_same) List.not_mem_nil (ints_rep ks)) .nil))
        have rlc := rla.sm s12
        have pkc := pka.sm s12
        have hstc := hsta.same s12
        have bac : But [LD, st] H7 (upd (upd Ha t1 (.tup (ks.map V.int))) t2 (.tup [.int door, .ref t1])) := by
          have z : But [NB, LD, st] H7 (upd (upd Ha t1 (.tup (ks.map V.int))) t2 (.tup [.int door, .ref t1])) :=
            (((b8.trans (.of s9)).mono fun x z => List.mem_cons_of_mem _ z).trans (ba.mono fun x z => (List.mem_cons.mp z).elim (fun e => by rw [e]; exact List.mem_cons_self) fun z => List.mem_cons_of_mem _ (List.mem_cons_of_mem _ z))).trans (.of s12)
          refine z.thin fun x hx nx => ?_
          rcases List.mem_cons.mp hx with e | e
          · rw [e]
            rcases Classical.em (H7 NB = none) with h | h
            · exact h
            · obtain ⟨o, ho⟩ := Option.ne_none_iff_exists'.mp h
              have y := b8 NB o (fun z => (List.mem_cons.mp z).elim NBLD fun z => NBst (List.mem_singleton.mp z)) ho
              rw [nNB] at y
              exact nomatch y
          · exact absurd e nx
        generalize upd (upd Ha t1 (.tup (ks.map V.int))) t2 (.tup [.int door, .ref t1]) = Hd at hLDc rnew rlc pkc hstc bac ⊢
        have bu : But [LD] Hd (upd Hd LD (.lst (lvs ++ [.ref t2]))) := But.refl.upd List.mem_cons_self
        have lLD : ∀ z ∈ [LD], ∃ zs, Hd z = some (.lst zs) := fun z hz => by
          rw [List.mem_singleton.mp hz]
          exact ⟨_, hLDc⟩
        refine ⟨nums ++ [(door, ks)], lvs ++ [.ref t2], _, _, _, rfl, bac.upd List.mem_cons_self, hstc.away LDst LDl, pkc.past lLD bu fun x hx z => lsLD x hx (List.mem_singleton.mp z), upd_same, ?_, ?_, ?_⟩
        · rw [List.map_append]
          exact (Reps.past (noLst_doors nums) rlc lLD bu).app (.one (Rep.past (noLst_door _) rnew lLD bu))
        · rw [List.map_append, fst8, List.take_succ, hdoor]
          rfl
        · intro p hp
          rcases List.mem_append.mp hp with z | z
          · exact ok8 p z
          · rw [List.mem_singleton.mp z]
            exact ⟨ndk, ink⟩
    rintro σ H8 ⟨nums, lvs, o8, o9, o10, rfl, b8, hst8, pk8, hLD8, rl8, fst8, ok8⟩
    rw [List.length_map, List.take_length] at fst8
    have hPK8 := b8 _ _ (fun z => (List.mem_cons.mp z).elim PKLD fun z => PKst (List.mem_singleton.mp z)) (s7 _ _ hPK6)
    have b08 : But [st] H H8 := by
      have z : But [LD, st] H H8 := ((b06.trans (.of s7)).mono fun x z => List.mem_cons_of_mem _ z).trans b8
      exact z.thin fun x hx nx => (List.mem_cons.mp hx).elim (fun e => by rw [e]; exact freshL) fun e => absurd e nx
    have lq8 := pk8.1
    refine ⟨_, rfl, PK, rfl, ⟨_, SqL.of hPK8⟩, fun D nD => ?_⟩
    refine lc_it (walk_list (xs := ls.map V.ref)) (fun j H' => Same H8 H' ∧ ∃ tvs, H' D = some (.lst tvs) ∧ tvs.length = j ∧ Reps [] H' tvs ((qss.take j).map packD)) ⟨same_new nD, [], upd_same, rfl, .nil⟩ (fun j H' _ p => SqL.of (p.1 _ _ hPK8)) ?_ ?_
    · rintro j y H0 H9 hj ⟨s9, tvs, hD, tl, rt⟩ ⟨rfl, hy⟩
      rw [List.getElem?_map] at hy
      obtain ⟨x, hx, rfl⟩ := Option.map_eq_some_iff.mp hy
      obtain ⟨vs, qs, h1, h2, h3⟩ := pk8.2 j x hx
      have jl := (List.getElem?_eq_some_iff.mp hx).1
      refine ⟨rfl, _, rfl, x, vs, rfl, .inl ⟨SqL.of (s9 _ _ h1), fun T nT => ?_⟩⟩
      have hDT := same_new (o := .tup vs) nT _ _ hD
      have lD : ∀ z ∈ [D], ∃ zs, upd H9 T (.tup vs) z = some (.lst zs) := fun z hz => by
        rw [List.mem_singleton.mp hz]
        exact ⟨_, hDT⟩
      have bu : But [D] (upd H9 T (.tup vs)) (upd (upd H9 T (.tup vs)) D (.lst (tvs ++ [.ref T]))) := But.refl.upd List.mem_cons_self
      refine ⟨tvs, hDT, by rw [tl, sizeLine_eq]; omega, ?_, tvs ++ [.ref T], upd_same, by rw [List.length_append, tl]; rfl, ?_⟩
      · intro b o e
        rw [upd_ne (ne_of_none e nD)]
        exact same_new nT _ _ (s9 _ _ e)
      · rw [List.take_succ, h2, List.map_append]
        refine (Reps.past (noLst_packs _) (rt.sm (same_new nT)) lD bu).app (.one (Rep.past (noLst_pack qs) ?_ lD bu))
        exact .tup upd_same List.not_mem_nil ((h3.sm s9).sm (same_new nT))
    rintro H9 ⟨s9, tvs, hD, tl, rt⟩
    rw [List.length_map] at tl rt
    rw [lq8, List.take_length] at rt
    have lq7 : qss.length = m := by rw [← lq8, ll]
    refine ⟨D, tvs, rfl, .inl ⟨SqL.of hD, fun TP nTP => ⟨_, rfl, LD, lvs, rfl, .inl ⟨SqL.of (same_new nTP _ _ (s9 _ _ hLD8)), fun TL nTL => ⟨(by show 2 ≤ sizeLine; decide), fun TR nTR => ?_⟩⟩⟩⟩⟩
    have sP := same_new (o := .tup tvs) nTP
    have sL := same_new (o := .tup lvs) nTL
    have sR := same_new (o := .tup [.ref TP, .ref TL]) nTR
    have all := s9.trans (sP.trans (sL.trans sR))
    refine k _ _ ⟨qss, nums⟩ (b08.trans (.of all)) (hst8.same all) ?_ ⟨by show qss.length ≤ 8; omega, ndq, sub, fst8, fun p hp => by show _ ∧ ∀ k ∈ p.2, 0 ≤ k ∧ k < (qss.length : Int); rw [lq7]; exact ok8 p hp⟩
    refine Rep.avoids ?_ ?_ [st] ?_
    · show (noLst (.tuple (qss.map packD)) && (noLst (.tuple (nums.map doorD)) && true)) = true
      rw [show noLst (PyData.tuple (qss.map packD)) = noLsts (qss.map packD) from rfl, show noLst (PyData.tuple (nums.map doorD)) = noLsts (nums.map doorD) from rfl, noLst_packs, noLst_doors]
      rfl
    · exact .tup upd_same List.not_mem_nil (.cons (.tup ((sL.trans sR) _ _ upd_same) List.not_mem_nil (rt.sm (sP.trans (sL.trans sR)))) (.cons (.tup (sR _ _ upd_same) List.not_mem_nil (rl8.sm all)) .nil))
    · intro z hz
      rw [List.mem_singleton.mp hz]
      obtain ⟨_, h⟩ := (hst8.same all).there
      exact ⟨_, h⟩
end
end Lb

set_option Elab.async false
set_option linter.all false
set_option maxRecDepth 100000
set_option maxHeartbeats 4000000
namespace Lb
open PySem PySem.Spec PyProof.Rows L2
section
variable {P : Program} {w : World} {K : PySem.W.Frag} {mg : Str → Option Value} {base : Heap} {A : Ad}
def sp_law_spoilt : Sp := fun vs H Q _ => ∃ (st l : Addr) (v lv : V) (d : PyData) (ns : List Int) (Y : Lay), vs = [.ref st, v, lv] ∧ Strm st l H ∧ Rep [st] H v d ∧ progB d = true ∧ pairsOf d ≠ [] ∧ ns ≠ [] ∧ ns.length ≤ 15 ∧ ns.Pairwise (· < ·) ∧ Rep [st] H lv Y.d ∧ Y.Ok d ns ∧ ∀ (H' : Hp) (sv : V) (sd : PyData), But [st] H H' → Strm st l H' → Rep [st] H' sv sd → layB d ns sd = false → Small sd → Q sv H'
theorem ok_law_spoilt (T : Txt K mg A) : FnOk P w K mg base CX0 3 A.f_law_spoilt A.d_law_spoilt ["stream", "program", "laid"] (sp_law_spoilt) := by
  refine T.F_law_spoilt.ok sc_law_spoilt (fun vs H Q E h => ?_) (fun cdv Ar outer s H vs Q E hr h => ?_)
  · obtain ⟨st, l, v, lv, d, ns, Y, rfl, hst, rv0, okd, ne, nn, n15, up, rl, ok, k⟩ := h
    rfl
  · obtain ⟨st, l, v, lv, d, ns, Y, rfl, hst, rv0, okd, ne, nn, n15, up, rl, ok, k⟩ := h
    refine ⟨_, PSs.nox ((pss_cons (ps_asg (pv 2) (pg_tup (by rfl) (pgs_cons (pg_name (i := 3) sc_law_spoilt.nd rfl (Or.inl rfl)) (pgs_cons (pg_name (i := 4) sc_law_spoilt.nd rfl (Or.inl rfl)) pgs_nil))))
 (pss_cons (ps_set (i := 5) sc_law_spoilt.nd rfl (Or.inl rfl) (pe_call (ok_law_places T) (hr.mono (by decide)) rfl T.m_law_places T.F_law_places.kp (b_law_places T) .nil pass0 (pa_cons (pv 1) pa_nil)))
 (pss_cons (ps_set (i := 6) sc_law_spoilt.nd rfl (Or.inl rfl) (pe_ix ix_list (pv 5) (pe_call (ok_law_draw T) hr rfl T.m_law_draw T.F_law_draw.kp (b_law_draw T) .nil pass0 (pa_cons (pv 0) (pa_cons (pe_callB call_len_seq (by rfl) T.zlen (by decide +kernel) (pa_cons (pv 5) pa_nil)) pa_nil))) (fun _ _ => rfl)))
 (pss_cons (ps_set (i := 7) sc_law_spoilt.nd rfl (Or.inl rfl) (pe_call (ok_law_draw T) hr rfl T.m_law_draw T.F_law_draw.kp (b_law_draw T) .nil pass0 (pa_cons (pv 0) (pa_cons (pe_callB (show CallR _ _ (rLen2 K) from len_k) (by rfl) T.zlen (by decide +kernel) (pa_cons (pv 4) pa_nil)) pa_nil))))
 (pss_cons (ps_asg (pe_ix ix_tup (pv 4) (pv 7) (fun _ _ => rfl)) (pg_tup (by rfl) (pgs_cons (pg_name (i := 8) sc_law_spoilt.nd rfl (Or.inl rfl)) (pgs_cons (pg_name (i := 9) sc_law_spoilt.nd rfl (Or.inl rfl)) pgs_nil))))
 (pss_cons (ps_set (i := 10) sc_law_spoilt.nd rfl (Or.inl rfl) (pe_slice sl_tupA (pv 4) po_none (po_some (pv 7))))
 (pss_cons (ps_set (i := 11) sc_law_spoilt.nd rfl (Or.inl rfl) (pe_slice sl_tupA (pv 4) (po_some (pe_op op_add (pv 7) pe_int)) po_none))
 (pss_cons (ps_set (i := 12) sc_law_spoilt.nd rfl (Or.inl rfl) (pe_callB call_len_seq (by rfl) T.zlen (by decide +kernel) (pa_cons (pv 3) pa_nil)))
 (pss_cons (ps_set (i := 13) sc_law_spoilt.nd rfl (Or.inl rfl) (pe_lst (pa_cons (pe_lst (pa_cons (pv 3) (pa_cons (pv 4) pa_nil))) (pa_cons (pe_tup (pa_cons (pe_callTy (show CallR _ _ (rLst2 K) from lst_k) (by rfl) T.zlist (by decide +kernel) (pa_cons (pv 3) pa_nil)) (pa_cons (pv 4) pa_nil))) (pa_cons (pe_tup (pa_cons (pv 3) (pa_cons (pe_callTy (show CallR _ _ (rLst2 K) from lst_k) (by rfl) T.zlist (by decide +kernel) (pa_cons (pv 4) pa_nil)) pa_nil))) (pa_cons (pe_tup (pa_cons (pv 3) pa_nil)) (pa_cons (pe_tup (pa_cons (pv 3) (pa_cons (pv 4) (pa_cons (pe_tup pa_nil) pa_nil)))) pa_nil)))))))
 (pss_cons (ps_set (i := 13) sc_law_spoilt.nd rfl (Or.inl rfl) (pe_op op_cat (pv 13) (pe_lst (pa_cons (pe_tup (pa_cons (pe_op op_catA (pv 3) (pe_tup (pa_cons (pe_tup (pa_cons (pv 6) pa_nil)) (pa_cons (pe_tup (pa_cons (pv 6) pa_nil)) pa_nil)))) (pa_cons (pv 4) pa_nil))) (pa_cons (pe_tup (pa_cons (pe_op op_catA (pv 3) (pe_tup (pa_cons (pe_tup (pa_cons (pv 6) (pa_cons (pv 6) pa_nil))) pa_nil))) (pa_cons (pv 4) pa_nil))) pa_nil)))))
 (pss_cons (ps_set (i := 13) sc_law_spoilt.nd rfl (Or.inl rfl) (pe_op op_cat (pv 13) (pe_lst (pa_cons (pe_tup (pa_cons (pe_op op_catA (pv 3) (pe_tup (pa_cons (pe_tup (pa_cons (pe_tup (pa_cons (pv 8) (pa_cons pe_int pa_nil))) pa_nil)) pa_nil))) (pa_cons (pv 4) pa_nil))) (pa_cons (pe_tup (pa_cons (pe_op op_catA (pv 3) (pe_tup (pa_cons (pe_lst pa_nil) pa_nil))) (pa_cons (pv 4) pa_nil))) (pa_cons (pe_tup (pa_cons (pv 3) (pa_cons (pe_op op_catA (pv 10) (pv 11)) pa_nil))) pa_nil))))))
 (pss_cons (ps_set (i := 13) sc_law_spoilt.nd rfl (Or.inl rfl) (pe_op op_cat (pv 13) (pe_lst (pa_cons (pe_tup (pa_cons (pv 3) (pa_cons (pe_op op_catA (pe_op op_catA (pv 10) (pe_tup (pa_cons (pe_tup (pa_cons (pv 8) (pa_cons (pv 9) pa_nil))) (pa_cons (pe_tup (pa_cons (pv 8) (pa_cons (pv 9) pa_nil))) pa_nil)))) (pv 11)) pa_nil))) (pa_cons (pe_tup (pa_cons (pe_op op_repT (pe_tup (pa_cons (pe_tup pa_nil) pa_nil)) pe_int) (pa_cons (pv 4) pa_nil))) pa_nil)))))
 (pss_cons (ps_set (i := 13) sc_law_spoilt.nd rfl (Or.inl rfl) (pe_op op_cat (pv 13) (pe_lst (pa_cons (pe_tup (pa_cons (pv 3) (pa_cons (pe_op op_catA (pe_op op_catA (pv 10) (pe_tup (pa_cons (pe_tup (pa_cons (pv 8) (pa_cons (pe_tup (pa_cons (pv 12) pa_nil)) pa_nil))) pa_nil))) (pv 11)) pa_nil))) (pa_cons (pe_tup (pa_cons (pv 3) (pa_cons (pe_op op_catA (pe_op op_catA (pv 10) (pe_tup (pa_cons (pe_tup (pa_cons (pv 8) (pa_cons (pe_tup (pa_cons (pe_un un_neg pe_int) pa_nil)) pa_nil))) pa_nil))) (pv 11)) pa_nil))) pa_nil)))))
 (pss_cons (ps_set (i := 13) sc_law_spoilt.nd rfl (Or.inl rfl) (pe_op op_cat (pv 13) (pe_lst (pa_cons (pe_tup (pa_cons (pe_op op_catA (pv 3) (pe_tup (pa_cons (pe_tup pa_nil) pa_nil))) (pa_cons (pe_op op_catA (pe_op op_catA (pv 10) (pe_tup (pa_cons (pe_tup (pa_cons (pv 8) (pa_cons (pe_tup (pa_cons (pv 12) (pa_cons (pv 12) pa_nil))) pa_nil))) pa_nil))) (pv 11)) pa_nil))) (pa_cons pe_non pa_nil)))))
 (pss_cons (ps_set (i := 13) sc_law_spoilt.nd rfl (Or.inl rfl) (pe_op op_cat (pv 13) (pe_lst (pa_cons (pe_tup (pa_cons (pv 3) (pa_cons (pe_op op_catA (pe_op op_catA (pv 10) (pe_tup (pa_cons (pe_tup (pa_cons (pv 8) (pa_cons (pe_callTy (show CallR _ _ (rLst2 K) from lst_k) (by rfl) T.zlist (by decide +kernel) (pa_cons (pv 9) pa_nil)) pa_nil))) pa_nil))) (pv 11)) pa_nil))) (pa_cons (pe_tup (pa_cons (pe_op op_repT (pe_tup (pa_cons (pe_tup pa_nil) pa_nil)) pe_int) (pa_cons (pe_op op_catA (pe_op op_catA (pv 10) (pe_tup (pa_cons (pe_tup (pa_cons (pv 8) (pa_cons (pe_tup (pa_cons pe_bl pa_nil)) pa_nil))) pa_nil))) (pv 11)) pa_nil))) pa_nil)))))
 (pss_cons (ps_set (i := 13) sc_law_spoilt.nd rfl (Or.inl rfl) (pe_op op_cat (pv 13) (pe_lst (pa_cons (pe_tup (pa_cons (pv 3) (pa_cons (pe_op op_catA (pe_op op_catA (pv 10) (pe_tup (pa_cons (pe_tup (pa_cons (pe_cmpR op_eq (pv 8) pe_int (nomark _)) (pa_cons (pv 9) pa_nil))) pa_nil))) (pv 11)) pa_nil))) pa_nil))))
 (pss_cons (ps_set (i := 13) sc_law_spoilt.nd rfl (Or.inl rfl) (pe_op op_cat (pv 13) (pe_lst (pa_cons (pe_ix ix_list (pe_lst (pa_cons (pe_tup (pa_cons (pv 3) (pa_cons (SL.pe_revT (pv 4)) pa_nil))) (pa_cons pe_int pa_nil))) (pe_callTy (show CallR _ _ rInt2 from int_k) (by rfl) T.zint (by decide +kernel) (pa_cons (pe_cmpR op_eq (pe_callB (show CallR _ _ (rLen2 K) from len_k) (by rfl) T.zlen (by decide +kernel) (pa_cons (pv 4) pa_nil)) pe_int (nomark _)) pa_nil)) (fun _ _ => rfl)) pa_nil))))
 (pss_one (ps_ret (pe_ix ix_list (pv 13) (pe_call (ok_law_draw T) hr rfl T.m_law_draw T.F_law_draw.kp (b_law_draw T) .nil pass0 (pa_cons (pv 0) (pa_cons pe_int pa_nil))) (fun _ _ => rfl)))))))))))))))))))))), ?_⟩
    rw [show start N_law_spoilt [.ref st, v, lv] = [some (.ref st), some (v), some (lv), none, none, none, none, none, none, none, none, none, none, none] from rfl]
    have rl0 : Rep [st] H lv (.tuple [.tuple (Y.packs.map packD), .tuple (Y.nums.map doorD)]) := rl
    obtain ⟨la, pv0, qv0, rfl, hla, rps, rld⟩ := rl0.two
    refine ⟨_, rfl, la, _, rfl, SqT.of hla, rfl, _, _, rfl, _, _, rfl, rfl, ?_⟩
    dsimp only [gName, List.set]
    refine ⟨_, rfl, v, [st], d, rfl, rv0, okd, fun H1 p ys s1 np hp rY len => ?_⟩
    dsimp only [gName, List.set]
    rw [places_pairs] at rY
    have ln := rY.length
    rw [List.length_map] at ln
    have lpos : 0 < (pairsOf d).length := List.length_pos_iff.mpr ne
    have st1 := hst.same s1
    have pst : p ≠ st := hst.ne np
    refine ⟨_, rfl, _, rfl, _, rfl, p, ys, rfl, .inl (SqL.of hp), st, l, _, rfl, st1, by omega, by omega, fun H2 u b2 st2 u0 u1 => ?_⟩
    obtain ⟨x, hx⟩ : ∃ x, ys[u.toNat]? = some x := ⟨_, List.getElem?_eq_getElem (by omega)⟩
    have at_u : atI ys u = some x := by
      have e := atI_nat (xs := ys) (j := u.toNat) hx
      rwa [Int.toNat_of_nonneg u0] at e
    obtain ⟨dq, hdq, rx⟩ := rY.get hx
    rw [List.getElem?_map] at hdq
    obtain ⟨pq, hpq, rfl⟩ := Option.map_eq_some_iff.mp hdq
    refine ⟨p, ys, u, x, rfl, rfl, SqL.of (b2.at1 hp pst), at_u, ?_⟩
    dsimp only [gName, List.set]
    have r_place0 : Rep [st] H2 x (pD pq) := by
      obtain ⟨_, h1⟩ := st1.there
      exact (Rep.avoid h1 _ _ rfl rx).mv b2
    have b02 := (But.of s1).trans b2
    have r_packs0 := rps.mv b02
    have r_listed0 := rld.mv b02
    have ld_len : (Y.nums.map doorD).length = ns.length := by rw [← ok.doors, List.length_map, List.length_map]
    have npos : 0 < ns.length := List.length_pos_iff.mpr nn
    obtain ⟨lda, lvs, rfl, hlda, _, rlds⟩ := rld.tupV
    have lld := rlds.length
    have hlda2 := b02 _ _ (fun z => absurd hlda (by rw [List.mem_singleton.mp z]; obtain ⟨_, h⟩ := hst.there; rw [h]; exact fun z => nomatch z)) hlda
    refine ⟨_, rfl, _, rfl, lda, lvs, rfl, .inr (SqT.of hlda2), st, l, _, rfl, st2, by omega, by omega, fun H3 w b3 st3 w0 w1 => ?_⟩
    dsimp only [gName, List.set]
    obtain ⟨n, rfl⟩ : ∃ n : Nat, w = (n : Int) := ⟨w.toNat, (Int.toNat_of_nonneg w0).symm⟩
    have nlt : n < Y.nums.length := by
      rw [List.length_map] at ld_len
      rw [List.length_map] at lld
      omega
    have r_listed3 := r_listed0.mv b3
    obtain ⟨lda', lvs', e_, hlda3, _, rlds3⟩ := r_listed3.tupV
    obtain rfl : lda = lda' := by injection e_
    have hx3 : (Y.nums.map doorD)[n]? = some (doorD Y.nums[n]) := by rw [List.getElem?_map, List.getElem?_eq_getElem nlt]; rfl
    obtain ⟨ev, hev, rev_⟩ := rlds3.at_ hx3
    have rev2 : Rep [st] H3 ev (.tuple [.int Y.nums[n].1, .tuple (Y.nums[n].2.map .int)]) := rev_
    obtain ⟨ea, e1, e2, rfl, hea, re1, re2⟩ := rev2.two
    obtain rfl := re1.intV
    refine ⟨_, rfl, _, rfl, lda, lvs', (n : Int), _, rfl, rfl, SqT.of hlda3, atI_nat hev, ea, _, rfl, SqT.of hea, rfl, _, _, rfl, _, _, rfl, rfl, ?_⟩
    dsimp only [gName, List.set]
    have r_place := r_place0.mv b3
    have r_packs := r_packs0.mv b3
    have r_listed := r_listed3
    have r_numbers := re2
    obtain ⟨dr, hdr⟩ : ∃ dr : Int, dr = Y.nums[n].1 := ⟨_, rfl⟩
    obtain ⟨ks, hks⟩ : ∃ ks : List PyData, ks = Y.nums[n].2.map PyData.int := ⟨_, rfl⟩
    obtain ⟨ps, hps⟩ : ∃ ps : List PyData, ps = Y.packs.map packD := ⟨_, rfl⟩
    obtain ⟨ld, hld⟩ : ∃ ld : List PyData, ld = Y.nums.map doorD := ⟨_, rfl⟩
    have oc3 : Occ [st] H3 := fun a m => by
      rw [List.mem_singleton.mp m]
      obtain ⟨_, h⟩ := st3.there
      exact ⟨_, h⟩
    rw [← hdr]
    rw [← hks] at r_numbers
    rw [← hps] at r_packs
    rw [← hld] at r_listed
    have pl8 : ps.length ≤ 8 := by rw [hps, List.length_map]; exact ok.eight
    have dl15 : ld.length ≤ 15 := by rw [hld]; omega
    refine Lit.set (S := [st]) (H0 := H3) (d := .tuple (cutD ld none (some (n : Int)))) (lit_sl oc3 (lit_var rfl r_listed) lito_no (lito_int (lit_var rfl (.int _)))) (.refl _) fun H4 v4 s4 r_ahead => ?_
    dsimp only [List.set]
    have oc4 := oc3.sm s4
    replace r_place := r_place.sm s4
    replace r_packs := r_packs.sm s4
    replace r_listed := r_listed.sm s4
    replace r_numbers := r_numbers.sm s4
    refine Lit.set (S := [st]) (H0 := H4) (d := .tuple (cutD ld (some ((n : Int) + 1)) none)) (lit_sl oc4 (lit_var rfl r_listed) (lito_int (lit_plus (lit_var rfl (.int _)))) lito_no) (.refl _) fun H5 v5 s5 r_behind => ?_
    dsimp only [List.set]
    rw [cutD_to (by rw [hld, List.length_map]; omega)] at r_ahead
    rw [show (n : Int) + 1 = ((n + 1 : Nat) : Int) by omega, cutD_from (by rw [hld, List.length_map]; omega)] at r_behind
    replace r_place := r_place.sm s5
    replace r_packs := r_packs.sm s5
    replace r_listed := r_listed.sm s5
    replace r_numbers := r_numbers.sm s5
    replace r_ahead := r_ahead.sm s5
    obtain ⟨pa, pvs, epv, hpa, _, rpv⟩ := r_packs.tupV
    refine ⟨_, rfl, pa, pvs, by rw [epv], .inr (SqT.of hpa), ?_⟩
    dsimp only [gName, List.set]
    rw [rpv.length]
    obtain ⟨c, hc⟩ : ∃ c : Int, c = (ps.length : Int) := ⟨_, rfl⟩
    obtain ⟨ah, hah⟩ : ∃ ah : List PyData, ah = ld.take n := ⟨_, rfl⟩
    obtain ⟨be, hbe⟩ : ∃ be : List PyData, be = ld.drop (n + 1) := ⟨_, rfl⟩
    obtain ⟨pl, hpl⟩ : ∃ pl : PyData, pl = pD pq := ⟨_, rfl⟩
    rw [← hc]
    rw [← hah] at r_ahead
    rw [← hbe] at r_behind
    rw [← hpl] at r_place
    have al15 : ah.length ≤ 15 := by rw [hah, List.length_take]; omega
    have bl15 : be.length ≤ 15 := by rw [hbe, List.length_drop]; omega
    obtain ⟨rv, hrv⟩ : ∃ rv : PyData, rv = if ld.length = 1 then PyData.int 5 else .tuple [.tuple ps, .tuple ld.reverse] := ⟨_, rfl⟩
    have erv : atI [PyData.tuple [.tuple ps, .tuple ld.reverse], .int 5] (if decide (V.int (ld.length : Int) = V.int 1) then 1 else 0) = some rv := by
      rw [hrv]
      by_cases e : ld.length = 1
      · rw [if_pos e, if_pos (by rw [e]; decide)]
        rfl
      · rw [if_neg e, if_neg (by simp; omega)]
        rfl
    have r_door : Rep [st] H5 (.int dr) (.int dr) := .int _
    have r_count : Rep [st] H5 (.int c) (.int c) := .int _
    have sH := s4.trans s5
    have st5 := st3.same sH
    have oc0 : Occ [st] H5 := oc4.sm s5
    have F : BadF d ns ps ld ah be ks pl rv dr c n := by
      have okp := pairs_len okd
      refine ⟨okd, by rw [← ld_len, List.length_map]; exact nlt, n15, by rw [hld]; exact ld_len, ?_, ?_, ?_, hc, by rw [hps]; exact packs_few okp ok, ?_, ?_, ?_, ?_, ?_⟩
      · rw [hdr, ← ok.doors, List.getD_eq_getElem?_getD, List.getElem?_map, List.getElem?_eq_getElem nlt]
        rfl
      · rw [hah, List.length_take, hld, List.length_map]
        omega
      · rw [hbe, List.length_drop, hld, ← ld_len, List.length_map]
        omega
      · intro z hz
        rw [hld] at hz
        obtain ⟨p', hp', rfl⟩ := List.mem_map.mp hz
        have q' := ok.nums p' hp'
        have q2 := few_nums q'.1 q'.2
        show (p'.2.map PyData.int).length ≤ 50
        rw [List.length_map]
        have := ok.eight
        omega
      · intro z hz
        rw [hah] at hz
        exact List.mem_of_mem_take hz
      · intro z hz
        rw [hbe] at hz
        exact List.mem_of_mem_drop hz
      · have q' := ok.nums Y.nums[n] (List.getElem_mem nlt)
        have q2 := few_nums q'.1 q'.2
        rw [hks, List.length_map]
        have := ok.eight
        omega
      · rw [hrv]
        by_cases e : ld.length = 1
        · rw [if_pos e]
          exact .inl rfl
        · rw [if_neg e]
          have l2 : 2 ≤ ns.length := by
            rw [hld] at e
            omega
          obtain ⟨e', h1, h2⟩ := rev_first ok.doors up l2 c
          exact .inr ⟨e', rfl, by rw [hld]; exact h1, h2⟩
    clear r_place0 r_packs0 r_listed0 r_listed3
    generalize H5 = G0 at r_place r_packs r_listed r_numbers r_ahead r_behind r_door r_count st5 oc0 sH
    refine Lit.set (S := [st]) (H0 := G0) (d := .list (lays0 ps ld)) (lit_lst oc0 (ds := lays0 ps ld) (lits_cons (lit_lst oc0 (lits_cons (lit_var rfl r_packs) (lits_cons (lit_var rfl r_listed) lits_nil)) (Nat.le_of_ble_eq_true rfl)) (lits_cons (lit_tup oc0 (lits_cons (lit_lof oc0 (lit_var rfl r_packs)) (lits_cons (lit_var rfl r_listed) lits_nil)) (Nat.le_of_ble_eq_true rfl)) (lits_cons (lit_tup oc0 (lits_cons (lit_var rfl r_packs) (lits_cons (lit_lof oc0 (lit_var rfl r_listed)) lits_nil)) (Nat.le_of_ble_eq_true rfl)) (lits_cons (lit_tup oc0 (lits_cons (lit_var rfl r_packs) lits_nil) (Nat.le_of_ble_eq_true rfl)) (lits_cons (lit_tup oc0 (lits_cons (lit_var rfl r_packs) (lits_cons (lit_var rfl r_listed) (lits_cons (lit_tup oc0 lits_nil (Nat.le_of_ble_eq_true rfl)) lits_nil))) (Nat.le_of_ble_eq_true rfl)) lits_nil))))) (Nat.le_of_ble_eq_true rfl)) (.refl _) fun G1 v1 g1 r_bad => ?_
    dsimp only [List.set]
    have oc1 := oc0.sm g1
    replace r_packs := r_packs.sm g1
    replace r_listed := r_listed.sm g1
    replace r_place := r_place.sm g1
    replace r_door := r_door.sm g1
    replace r_numbers := r_numbers.sm g1
    replace r_ahead := r_ahead.sm g1
    replace r_behind := r_behind.sm g1
    replace r_count := r_count.sm g1
    refine Lit.set (S := [st]) (H0 := G1) (d := .list ((lays0 ps ld) ++ lays1 ps ld pl)) (lit_cat oc1 (lit_var rfl r_bad) (lit_lst oc1 (ds := lays1 ps ld pl) (lits_cons (lit_tup oc1 (lits_cons (lit_catA oc1 (lit_var rfl r_packs) (lit_tup oc1 (lits_cons (lit_tup oc1 (lits_cons (lit_var rfl r_place) lits_nil) (Nat.le_of_ble_eq_true rfl)) (lits_cons (lit_tup oc1 (lits_cons (lit_var rfl r_place) lits_nil) (Nat.le_of_ble_eq_true rfl)) lits_nil)) (Nat.le_of_ble_eq_true rfl)) (by simp only [List.length_append, List.length_cons, List.length_nil]; rw [sizeLine_eq]; omega)) (lits_cons (lit_var rfl r_listed) lits_nil)) (Nat.le_of_ble_eq_true rfl)) (lits_cons (lit_tup oc1 (lits_cons (lit_catA oc1 (lit_var rfl r_packs) (lit_tup oc1 (lits_cons (lit_tup oc1 (lits_cons (lit_var rfl r_place) (lits_cons (lit_var rfl r_place) lits_nil)) (Nat.le_of_ble_eq_true rfl)) lits_nil) (Nat.le_of_ble_eq_true rfl)) (by simp only [List.length_append, List.length_cons, List.length_nil]; rw [sizeLine_eq]; omega)) (lits_cons (lit_var rfl r_listed) lits_nil)) (Nat.le_of_ble_eq_true rfl)) lits_nil)) (Nat.le_of_ble_eq_true rfl)) (Nat.le_of_ble_eq_true rfl)) (.refl _) fun G2 v2 g2 r_bad => ?_
    dsimp only [List.set]
    have oc2 := oc1.sm g2
    replace r_packs := r_packs.sm g2
    replace r_listed := r_listed.sm g2
    replace r_place := r_place.sm g2
    replace r_door := r_door.sm g2
    replace r_numbers := r_numbers.sm g2
    replace r_ahead := r_ahead.sm g2
    replace r_behind := r_behind.sm g2
    replace r_count := r_count.sm g2
    refine Lit.set (S := [st]) (H0 := G2) (d := .list (((lays0 ps ld) ++ lays1 ps ld pl) ++ lays2 ps ld ah be dr)) (lit_cat oc2 (lit_var rfl r_bad) (lit_lst oc2 (ds := lays2 ps ld ah be dr) (lits_cons (lit_tup oc2 (lits_cons (lit_catA oc2 (lit_var rfl r_packs) (lit_tup oc2 (lits_cons (lit_tup oc2 (lits_cons (lit_tup oc2 (lits_cons (lit_var rfl r_door) (lits_cons (lit_int _) lits_nil)) (Nat.le_of_ble_eq_true rfl)) lits_nil) (Nat.le_of_ble_eq_true rfl)) lits_nil) (Nat.le_of_ble_eq_true rfl)) (by simp only [List.length_append, List.length_cons, List.length_nil]; rw [sizeLine_eq]; omega)) (lits_cons (lit_var rfl r_listed) lits_nil)) (Nat.le_of_ble_eq_true rfl)) (lits_cons (lit_tup oc2 (lits_cons (lit_catA oc2 (lit_var rfl r_packs) (lit_tup oc2 (lits_cons (lit_lst oc2 lits_nil (Nat.le_of_ble_eq_true rfl)) lits_nil) (Nat.le_of_ble_eq_true rfl)) (by simp only [List.length_append, List.length_cons, List.length_nil]; rw [sizeLine_eq]; omega)) (lits_cons (lit_var rfl r_listed) lits_nil)) (Nat.le_of_ble_eq_true rfl)) (lits_cons (lit_tup oc2 (lits_cons (lit_var rfl r_packs) (lits_cons (lit_catA oc2 (lit_var rfl r_ahead) (lit_var rfl r_behind) (by simp only [List.length_append, List.length_cons, List.length_nil]; rw [sizeLine_eq]; omega)) lits_nil)) (Nat.le_of_ble_eq_true rfl)) lits_nil))) (Nat.le_of_ble_eq_true rfl)) (Nat.le_of_ble_eq_true rfl)) (.refl _) fun G3 v3 g3 r_bad => ?_
    dsimp only [List.set]
    have oc3 := oc2.sm g3
    replace r_packs := r_packs.sm g3
    replace r_listed := r_listed.sm g3
    replace r_place := r_place.sm g3
    replace r_door := r_door.sm g3
    replace r_numbers := r_numbers.sm g3
    replace r_ahead := r_ahead.sm g3
    replace r_behind := r_behind.sm g3
    replace r_count := r_count.sm g3
    refine Lit.set (S := [st]) (H0 := G3) (d := .list ((((lays0 ps ld) ++ lays1 ps ld pl) ++ lays2 ps ld ah be dr) ++ lays3 ps ld ah be ks dr)) (lit_cat oc3 (lit_var rfl r_bad) (lit_lst oc3 (ds := lays3 ps ld ah be ks dr) (lits_cons (lit_tup oc3 (lits_cons (lit_var rfl r_packs) (lits_cons (lit_catA oc3 (lit_catA oc3 (lit_var rfl r_ahead) (lit_tup oc3 (lits_cons (lit_tup oc3 (lits_cons (lit_var rfl r_door) (lits_cons (lit_var rfl r_numbers) lits_nil)) (Nat.le_of_ble_eq_true rfl)) (lits_cons (lit_tup oc3 (lits_cons (lit_var rfl r_door) (lits_cons (lit_var rfl r_numbers) lits_nil)) (Nat.le_of_ble_eq_true rfl)) lits_nil)) (Nat.le_of_ble_eq_true rfl)) (by simp only [List.length_append, List.length_cons, List.length_nil]; rw [sizeLine_eq]; omega)) (lit_var rfl r_behind) (by simp only [List.length_append, List.length_cons, List.length_nil]; rw [sizeLine_eq]; omega)) lits_nil)) (Nat.le_of_ble_eq_true rfl)) (lits_cons (lit_tup oc3 (lits_cons (lit_mul oc3 (lit_tup oc3 (lits_cons (lit_tup oc3 lits_nil (Nat.le_of_ble_eq_true rfl)) lits_nil) (Nat.le_of_ble_eq_true rfl)) 9 (by simp) (by decide) (by decide) (by simp)) (lits_cons (lit_var rfl r_listed) lits_nil)) (Nat.le_of_ble_eq_true rfl)) lits_nil)) (Nat.le_of_ble_eq_true rfl)) (Nat.le_of_ble_eq_true rfl)) (.refl _) fun G4 v4 g4 r_bad => ?_
    dsimp only [List.set]
    have oc4 := oc3.sm g4
    replace r_packs := r_packs.sm g4
    replace r_listed := r_listed.sm g4
    replace r_place := r_place.sm g4
    replace r_door := r_door.sm g4
    replace r_numbers := r_numbers.sm g4
    replace r_ahead := r_ahead.sm g4
    replace r_behind := r_behind.sm g4
    replace r_count := r_count.sm g4
    refine Lit.set (S := [st]) (H0 := G4) (d := .list (((((lays0 ps ld) ++ lays1 ps ld pl) ++ lays2 ps ld ah be dr) ++ lays3 ps ld ah be ks dr) ++ lays4 ps ah be dr c)) (lit_cat oc4 (lit_var rfl r_bad) (lit_lst oc4 (ds := lays4 ps ah be dr c) (lits_cons (lit_tup oc4 (lits_cons (lit_var rfl r_packs) (lits_cons (lit_catA oc4 (lit_catA oc4 (lit_var rfl r_ahead) (lit_tup oc4 (lits_cons (lit_tup oc4 (lits_cons (lit_var rfl r_door) (lits_cons (lit_tup oc4 (lits_cons (lit_var rfl r_count) lits_nil) (Nat.le_of_ble_eq_true rfl)) lits_nil)) (Nat.le_of_ble_eq_true rfl)) lits_nil) (Nat.le_of_ble_eq_true rfl)) (by simp only [List.length_append, List.length_cons, List.length_nil]; rw [sizeLine_eq]; omega)) (lit_var rfl r_behind) (by simp only [List.length_append, List.length_cons, List.length_nil]; rw [sizeLine_eq]; omega)) lits_nil)) (Nat.le_of_ble_eq_true rfl)) (lits_cons (lit_tup oc4 (lits_cons (lit_var rfl r_packs) (lits_cons (lit_catA oc4 (lit_catA oc4 (lit_var rfl r_ahead) (lit_tup oc4 (lits_cons (lit_tup oc4 (lits_cons (lit_var rfl r_door) (lits_cons (lit_tup oc4 (lits_cons (lit_neg (lit_int _)) lits_nil) (Nat.le_of_ble_eq_true rfl)) lits_nil)) (Nat.le_of_ble_eq_true rfl)) lits_nil) (Nat.le_of_ble_eq_true rfl)) (by simp only [List.length_append, List.length_cons, List.length_nil]; rw [sizeLine_eq]; omega)) (lit_var rfl r_behind) (by simp only [List.length_append, List.length_cons, List.length_nil]; rw [sizeLine_eq]; omega)) lits_nil)) (Nat.le_of_ble_eq_true rfl)) lits_nil)) (Nat.le_of_ble_eq_true rfl)) (Nat.le_of_ble_eq_true rfl)) (.refl _) fun G5 v5 g5 r_bad => ?_
    dsimp only [List.set]
    have oc5 := oc4.sm g5
    replace r_packs := r_packs.sm g5
    replace r_listed := r_listed.sm g5
    replace r_place := r_place.sm g5
    replace r_door := r_door.sm g5
    replace r_numbers := r_numbers.sm g5
    replace r_ahead := r_ahead.sm g5
    replace r_behind := r_behind.sm g5
    replace r_count := r_count.sm g5
    refine Lit.set (S := [st]) (H0 := G5) (d := .list ((((((lays0 ps ld) ++ lays1 ps ld pl) ++ lays2 ps ld ah be dr) ++ lays3 ps ld ah be ks dr) ++ lays4 ps ah be dr c) ++ lays5 ps ah be dr c)) (lit_cat oc5 (lit_var rfl r_bad) (lit_lst oc5 (ds := lays5 ps ah be dr c) (lits_cons (lit_tup oc5 (lits_cons (lit_catA oc5 (lit_var rfl r_packs) (lit_tup oc5 (lits_cons (lit_tup oc5 lits_nil (Nat.le_of_ble_eq_true rfl)) lits_nil) (Nat.le_of_ble_eq_true rfl)) (by simp only [List.length_append, List.length_cons, List.length_nil]; rw [sizeLine_eq]; omega)) (lits_cons (lit_catA oc5 (lit_catA oc5 (lit_var rfl r_ahead) (lit_tup oc5 (lits_cons (lit_tup oc5 (lits_cons (lit_var rfl r_door) (lits_cons (lit_tup oc5 (lits_cons (lit_var rfl r_count) (lits_cons (lit_var rfl r_count) lits_nil)) (Nat.le_of_ble_eq_true rfl)) lits_nil)) (Nat.le_of_ble_eq_true rfl)) lits_nil) (Nat.le_of_ble_eq_true rfl)) (by simp only [List.length_append, List.length_cons, List.length_nil]; rw [sizeLine_eq]; omega)) (lit_var rfl r_behind) (by simp only [List.length_append, List.length_cons, List.length_nil]; rw [sizeLine_eq]; omega)) lits_nil)) (Nat.le_of_ble_eq_true rfl)) (lits_cons lit_non lits_nil)) (Nat.le_of_ble_eq_true rfl)) (Nat.le_of_ble_eq_true rfl)) (.refl _) fun G6 v6 g6 r_bad => ?_
    dsimp only [List.set]
    have oc6 := oc5.sm g6
    replace r_packs := r_packs.sm g6
    replace r_listed := r_listed.sm g6
    replace r_place := r_place.sm g6
    replace r_door := r_door.sm g6
    replace r_numbers := r_numbers.sm g6
    replace r_ahead := r_ahead.sm g6
    replace r_behind := r_behind.sm g6
    replace r_count := r_count.sm g6
    refine Lit.set (S := [st]) (H0 := G6) (d := .list (((((((lays0 ps ld) ++ lays1 ps ld pl) ++ lays2 ps ld ah be dr) ++ lays3 ps ld ah be ks dr) ++ lays4 ps ah be dr c) ++ lays5 ps ah be dr c) ++ lays6 ps ah be ks dr)) (lit_cat oc6 (lit_var rfl r_bad) (lit_lst oc6 (ds := lays6 ps ah be ks dr) (lits_cons (lit_tup oc6 (lits_cons (lit_var rfl r_packs) (lits_cons (lit_catA oc6 (lit_catA oc6 (lit_var rfl r_ahead) (lit_tup oc6 (lits_cons (lit_tup oc6 (lits_cons (lit_var rfl r_door) (lits_cons (lit_lof oc6 (lit_var rfl r_numbers)) lits_nil)) (Nat.le_of_ble_eq_true rfl)) lits_nil) (Nat.le_of_ble_eq_true rfl)) (by simp only [List.length_append, List.length_cons, List.length_nil]; rw [sizeLine_eq]; omega)) (lit_var rfl r_behind) (by simp only [List.length_append, List.length_cons, List.length_nil]; rw [sizeLine_eq]; omega)) lits_nil)) (Nat.le_of_ble_eq_true rfl)) (lits_cons (lit_tup oc6 (lits_cons (lit_mul oc6 (lit_tup oc6 (lits_cons (lit_tup oc6 lits_nil (Nat.le_of_ble_eq_true rfl)) lits_nil) (Nat.le_of_ble_eq_true rfl)) 2 (by simp) (by decide) (by decide) (by simp)) (lits_cons (lit_catA oc6 (lit_catA oc6 (lit_var rfl r_ahead) (lit_tup oc6 (lits_cons (lit_tup oc6 (lits_cons (lit_var rfl r_door) (lits_cons (lit_tup oc6 (lits_cons (lit_bl _) lits_nil) (Nat.le_of_ble_eq_true rfl)) lits_nil)) (Nat.le_of_ble_eq_true rfl)) lits_nil) (Nat.le_of_ble_eq_true rfl)) (by simp only [List.length_append, List.length_cons, List.length_nil]; rw [sizeLine_eq]; omega)) (lit_var rfl r_behind) (by simp only [List.length_append, List.length_cons, List.length_nil]; rw [sizeLine_eq]; omega)) lits_nil)) (Nat.le_of_ble_eq_true rfl)) lits_nil)) (Nat.le_of_ble_eq_true rfl)) (Nat.le_of_ble_eq_true rfl)) (.refl _) fun G7 v7 g7 r_bad => ?_
    dsimp only [List.set]
    have oc7 := oc6.sm g7
    replace r_packs := r_packs.sm g7
    replace r_listed := r_listed.sm g7
    replace r_place := r_place.sm g7
    replace r_door := r_door.sm g7
    replace r_numbers := r_numbers.sm g7
    replace r_ahead := r_ahead.sm g7
    replace r_behind := r_behind.sm g7
    replace r_count := r_count.sm g7
    refine Lit.set (S := [st]) (H0 := G7) (d := .list ((((((((lays0 ps ld) ++ lays1 ps ld pl) ++ lays2 ps ld ah be dr) ++ lays3 ps ld ah be ks dr) ++ lays4 ps ah be dr c) ++ lays5 ps ah be dr c) ++ lays6 ps ah be ks dr) ++ lays7 ps ah be ks dr)) (lit_cat oc7 (lit_var rfl r_bad) (lit_lst oc7 (ds := lays7 ps ah be ks dr) (lits_cons (lit_tup oc7 (lits_cons (lit_var rfl r_packs) (lits_cons (lit_catA oc7 (lit_catA oc7 (lit_var rfl r_ahead) (lit_tup oc7 (lits_cons (lit_tup oc7 (lits_cons (lit_eqI (lit_var rfl r_door)) (lits_cons (lit_var rfl r_numbers) lits_nil)) (Nat.le_of_ble_eq_true rfl)) lits_nil) (Nat.le_of_ble_eq_true rfl)) (by simp only [List.length_append, List.length_cons, List.length_nil]; rw [sizeLine_eq]; omega)) (lit_var rfl r_behind) (by simp only [List.length_append, List.length_cons, List.length_nil]; rw [sizeLine_eq]; omega)) lits_nil)) (Nat.le_of_ble_eq_true rfl)) lits_nil) (Nat.le_of_ble_eq_true rfl)) (Nat.le_of_ble_eq_true rfl)) (.refl _) fun G8 v8 g8 r_bad => ?_
    dsimp only [List.set]
    have oc8 := oc7.sm g8
    replace r_packs := r_packs.sm g8
    replace r_listed := r_listed.sm g8
    replace r_place := r_place.sm g8
    replace r_door := r_door.sm g8
    replace r_numbers := r_numbers.sm g8
    replace r_ahead := r_ahead.sm g8
    replace r_behind := r_behind.sm g8
    replace r_count := r_count.sm g8
    refine Lit.set (S := [st]) (H0 := G8) (d := .list (((((((((lays0 ps ld) ++ lays1 ps ld pl) ++ lays2 ps ld ah be dr) ++ lays3 ps ld ah be ks dr) ++ lays4 ps ah be dr c) ++ lays5 ps ah be dr c) ++ lays6 ps ah be ks dr) ++ lays7 ps ah be ks dr) ++ lays8 rv)) (lit_cat oc8 (lit_var rfl r_bad) (lit_lst oc8 (ds := lays8 rv) (lits_cons (lit_ixL (lit_lst oc8 (lits_cons (lit_tup oc8 (lits_cons (lit_var rfl r_packs) (lits_cons (lit_revS oc8 (lit_var rfl r_listed)) lits_nil)) (Nat.le_of_ble_eq_true rfl)) (lits_cons (lit_int _) lits_nil)) (Nat.le_of_ble_eq_true rfl)) (lit_ofB (lit_eqI (lit_lenT (lit_var rfl r_listed)))) erv) lits_nil) (Nat.le_of_ble_eq_true rfl)) (Nat.le_of_ble_eq_true rfl)) (.refl _) fun G9 v9 g9 r_bad => ?_
    dsimp only [List.set]
    have oc9 := oc8.sm g9
    replace r_packs := r_packs.sm g9
    replace r_listed := r_listed.sm g9
    replace r_place := r_place.sm g9
    replace r_door := r_door.sm g9
    replace r_numbers := r_numbers.sm g9
    replace r_ahead := r_ahead.sm g9
    replace r_behind := r_behind.sm g9
    replace r_count := r_count.sm g9
    
    have gA : Same G0 G9 := ((((((((g1).trans g2).trans g3).trans g4).trans g5).trans g6).trans g7).trans g8).trans g9
    have hs := st5.same gA
    obtain ⟨lb, zs, rfl, hlb, na, rb⟩ := r_bad.lstV
    have ast : lb ≠ st := fun z => na (List.mem_singleton.mpr z)
    have lz := rb.length
    have lz2 : zs.length = 20 := lz
    have allb := fun d' (h' : d' ∈ laysD ps ld ah be ks pl rv dr c) => lays_bad F h'
    replace rb : Reps [st] G9 zs (laysD ps ld ah be ks pl rv dr c) := rb
    generalize laysD ps ld ah be ks pl rv dr c = all at rb allb
    refine ⟨_, rfl, _, rfl, st, l, 20, rfl, hs, by decide, by decide, fun H' w b' s' w0 w1 => ?_⟩
    obtain ⟨y, hy⟩ : ∃ y, zs[w.toNat]? = some y := ⟨_, List.getElem?_eq_getElem (by omega)⟩
    have at_w : atI zs w = some y := by
      have e := atI_nat (xs := zs) (j := w.toNat) hy
      rwa [Int.toNat_of_nonneg w0] at e
    obtain ⟨dy, hdy, ry⟩ := rb.get hy
    have bad := allb dy (List.mem_of_getElem? hdy)
    exact ⟨lb, zs, w, y, rfl, rfl, SqL.of (b'.at1 hlb ast), at_w, k _ _ dy (((b02.trans b3).trans (.of (sH.trans gA))).trans b') s' (ry.mv b') bad.1 bad.2⟩
end
end Lb

set_option Elab.async false
set_option linter.all false
set_option maxRecDepth 100000
set_option maxHeartbeats 4000000
namespace Lb
open PySem PySem.Spec PyProof.Rows L2
section
variable {P : Program} {w : World} {K : PySem.W.Frag} {mg : Str → Option Value} {base : Heap} {A : Ad}
def sp_law (K : PySem.W.Frag) : Sp := fun vs H Q _ => ∃ (a : Addr) (zs : List Int), vs = [.ref a] ∧ SqL K H a (zs.map V.int) ∧ zs.length ≤ 63 ∧ ∀ H', Q (.bl true) H'
theorem ok_law (T : Txt K mg A) : FnOk P w K mg base CX0 12 A.f_law A.d_law ["script"] (sp_law K) := by
  refine T.F_law.ok sc_law (fun vs H Q E h => ?_) (fun cdv Ar outer s H vs Q E hr h => ?_)
  · obtain ⟨a, zs, rfl, hS, few, k⟩ := h
    rfl
  · obtain ⟨a, zs, rfl, hS, few, k⟩ := h
    refine ⟨_, PSs.nox ((pss_cons (ps_set (i := 1) sc_law.nd rfl (Or.inl rfl) (pe_call (ok_law_stream T) (hr.mono (by decide)) rfl T.m_law_stream T.F_law_stream.kp (b_law_stream T) .nil pass0 (pa_cons (pv 0) pa_nil)))
 (pss_cons (ps_set (i := 2) sc_law.nd rfl (Or.inl rfl) (pe_call (ok_law_program T) (hr.mono (by decide)) rfl T.m_law_program T.F_law_program.kp (b_law_program T) .nil pass0 (pa_cons (pv 1) pa_nil)))
 (pss_cons (ps_if (pt_cmpR op_eq (pe_callB call_len_seq (by rfl) T.zlen (by decide +kernel) (pa_cons (pe_call (ok_law_places T) (hr.mono (by decide)) rfl T.m_law_places T.F_law_places.kp (b_law_places T) .nil pass0 (pa_cons (pv 2) pa_nil)) pa_nil)) pe_int (nomark _)) (pss_one (ps_set (i := 2) sc_law.nd rfl (Or.inl rfl) (pe_tup (pa_cons (pe_tup (pa_cons (pe_tup (pa_cons (pe_tup (pa_cons pe_str pa_nil)) pa_nil)) pa_nil)) (pa_cons (pe_tup (pa_cons pe_bl pa_nil)) (pa_cons (pe_tup (pa_cons pe_int pa_nil)) (pa_cons (pe_tup pa_nil) pa_nil))))))) pss_nil)
 (pss_cons (ps_set (i := 3) sc_law.nd rfl (Or.inl rfl) (pe_call (ok_law_layout T) (hr.mono (by decide)) rfl T.m_law_layout T.F_law_layout.kp (b_law_layout T) .nil pass0 (pa_cons (pv 1) (pa_cons (pv 2) pa_nil))))
 (pss_cons (ps_set (i := 4) sc_law.nd rfl (Or.inl rfl) (pe_call (ok_law_spoilt T) (hr.mono (by decide)) rfl T.m_law_spoilt T.F_law_spoilt.kp (b_law_spoilt T) .nil pass0 (pa_cons (pv 1) (pa_cons (pv 2) (pa_cons (pv 3) pa_nil)))))
 (pss_cons (ps_if (PW.pt (pw_or (pt_cmpR op_notBl (pe_call (ok_is_layout T) hr rfl T.m_is_layout T.F_is_layout.kp (b_is_layout T) .nil pass0 (pa_cons (pv 2) (pa_cons (pv 4) pa_nil))) pe_bl (nomark _)) (pw_or1 (pt_cmpR op_notBl (pe_call (ok_is_layout T) hr rfl T.m_is_layout T.F_is_layout.kp (b_is_layout T) .nil pass0 (pa_cons (pv 2) (pa_cons (pv 3) pa_nil))) pe_bl (nomark _))))) (pss_one (ps_ret pe_bl)) pss_nil)
 (pss_cons (ps_set (i := 5) sc_law.nd rfl (Or.inl rfl) (pe_callTy call_tuple_of (by rfl) T.ztuple (by decide +kernel) (pa_cons (pe_lc (own := [("door", 6)]) (g := (gName 6)) (tt := tYes) rfl sc_law.nd (pi_list (pe_call (ok_law_doors T) (hr.mono (by decide)) rfl T.m_law_doors T.F_law_doors.kp (b_law_doors T) .nil pass0 (pa_cons (pv 2) pa_nil))) (blkOk_by (N := N_law) (sc := defScope s_law) (by decide +kernel)) (fun _ _ _ _ _ => (pg_name (i := 6) sc_law.nd rfl (Or.inl rfl))) (fun _ _ _ _ _ => pts_nil) (fun _ _ _ _ _ => (pe_tup (pa_cons (pv 6) (pa_cons (pe_tup pa_nil) pa_nil))))) pa_nil)))
 (pss_cons (ps_if (PW.pt (pw_or (pt_cmpR op_notBl (pe_call (ok_is_layout T) hr rfl T.m_is_layout T.F_is_layout.kp (b_is_layout T) .nil pass0 (pa_cons (pv 2) (pa_cons (pe_tup (pa_cons (pe_op op_repT (pe_tup (pa_cons (pe_tup pa_nil) pa_nil)) pe_int) (pa_cons (pv 5) pa_nil))) pa_nil))) pe_bl (nomark _)) (pw_or1 (pt_cmpR op_notBl (pe_call (ok_is_layout T) hr rfl T.m_is_layout T.F_is_layout.kp (b_is_layout T) .nil pass0 (pa_cons (pv 2) (pa_cons (pe_tup (pa_cons (pe_tup pa_nil) (pa_cons (pv 5) pa_nil))) pa_nil))) pe_bl (nomark _))))) (pss_one (ps_ret pe_bl)) pss_nil)
 (pss_one (ps_ret (pe_and (pe_cmpR op_isBl (pe_call (ok_is_layout T) hr rfl T.m_is_layout T.F_is_layout.kp (b_is_layout T) .nil pass0 (pa_cons (pv 2) (pa_cons (pv 4) pa_nil))) pe_bl (nomark _)) (pe_one (pe_cmpR op_isBl (pe_call (ok_is_layout T) hr rfl T.m_is_layout T.F_is_layout.kp (b_is_layout T) .nil pass0 (pa_cons (pv 2) (pa_cons (pv 3) pa_nil))) pe_bl (nomark _))))))))))))))), ?_⟩
    rw [show start N_law [.ref a] = [some (.ref a), none, none, none, none, none, none] from rfl]
    refine ⟨_, rfl, a, zs, rfl, hS, few, fun H1 st l s1 nst nl hst => ?_⟩
    refine ⟨_, rfl, st, l, rfl, hst, fun H2 p0 P b2 hst2 rp pok => ?_⟩
    dsimp only [gName, List.set]
    have okp := prog_ok pok
    refine seq_by (fun σ H3 => ∃ (pr : V) (d : PyData), σ = [some (.ref a), some (.ref st), some pr, none, none, none, none] ∧ Strm st l H3 ∧ Rep [st] H3 pr d ∧ progB d = true ∧ pairsOf d ≠ []) ?_ fun rest => ?_
    · rintro σ H3 ⟨pr, d, rfl, hst3, rv, okd, ne⟩
      obtain ⟨ns, up, mem⟩ := sorted_of (doorsD d)
      obtain ⟨n15, nn⟩ := doors_few okd up mem
      refine ⟨_, rfl, _, rfl, st, l, pr, d, ns, rfl, hst3, rv, okd, up, mem, fun H4 lv Y b4 hst4 rl ok => ?_⟩
      dsimp only [gName, List.set]
      have rv4 := rv.mv b4
      have lok := lay_of okd ok
      have lsm := lay_small okd ok
      refine ⟨_, rfl, _, rfl, _, rfl, st, l, pr, lv, d, ns, Y, rfl, hst4, rv4, okd, ne, nn, n15, up, rl, ok, fun H5 sv sd b5 hst5 rs bad sm => ?_⟩
      dsimp only [gName, List.set]
      have rv5 := rv4.mv b5
      have rl5 := rl.mv b5
      refine seq_by (fun σ H6 => σ = [some (.ref a), some (.ref st), some pr, some lv, some sv, none, none] ∧ Same H5 H6) ?_ fun rest2 => ?_
      · rintro σ H6 ⟨rfl, s6⟩
        refine ⟨_, rfl, pr, [st], d, rfl, rv5.sm s6, okd, fun H7 dp ns' s7 ndp hdp up' mem' len' => ⟨dp, rfl, ⟨_, SqL.of hdp⟩, fun D nD => ?_⟩⟩
        obtain rfl := asc_eq up' up fun j => (mem' j).trans (mem j).symm
        refine lc_it (walk_list (xs := ns'.map V.int)) (fun j H' => Same H7 H' ∧ ∃ tvs, H' D = some (.lst tvs) ∧ tvs.length = j ∧ Reps [] H' tvs (((ns'.take j).map fun k => (k, ([] : List Int))).map doorD)) ⟨same_new nD, [], upd_same, rfl, by rw [List.take_zero]; exact .nil⟩ (fun j H' _ p => SqL.of (p.1 _ _ hdp)) ?_ ?_
        · rintro j y H0 H9 hj ⟨s9, tvs, hD, tl, rt⟩ ⟨rfl, hy⟩
          rw [List.getElem?_map] at hy
          obtain ⟨door, hdoor, rfl⟩ := Option.map_eq_some_iff.mp hy
          have jl := (List.getElem?_eq_some_iff.mp hdoor).1
          refine ⟨rfl, _, rfl, Nat.zero_le _, fun T1 nT1 => ⟨(by show 2 ≤ sizeLine; decide), fun T nT => ?_⟩⟩
          have sT := (same_new (o := .tup []) nT1).trans (same_new (o := .tup [.int door, .ref T1]) nT)
          have hDT := sT _ _ hD
          have rnew : Rep [] (upd (upd H9 T1 (.tup [])) T (.tup [.int door, .ref T1])) (.ref T) (doorD (door, [])) := .tup upd_same List.not_mem_nil (.cons (.int _) (.cons (.tup (same_new nT _ _ upd_same) List.not_mem_nil .nil) .nil))
          have rt2 := rt.sm sT
          have sA := s9.trans sT
          generalize upd (upd H9 T1 (.tup [])) T (.tup [.int door, .ref T1]) = Hb at hDT rnew rt2 sA ⊢
          have lD : ∀ z ∈ [D], ∃ zs, Hb z = some (.lst zs) := fun z hz => by
            rw [List.mem_singleton.mp hz]
            exact ⟨_, hDT⟩
          have bu : But [D] Hb (upd Hb D (.lst (tvs ++ [.ref T]))) := But.refl.upd List.mem_cons_self
          refine ⟨tvs, hDT, by rw [tl, sizeLine_eq]; omega, ?_, tvs ++ [.ref T], upd_same, by rw [List.length_append, tl]; rfl, ?_⟩
          · intro b o e
            rw [upd_ne (ne_of_none e nD)]
            exact sA _ _ e
          · rw [List.take_succ, hdoor, List.map_append, List.map_append]
            exact (Reps.past (noLst_doors _) rt2 lD bu).app (.one (Rep.past (noLst_door _) rnew lD bu))
        rintro H9 ⟨s9, tvs, hD, tl, rt⟩
        rw [List.length_map, List.take_length] at rt
        refine ⟨D, tvs, rfl, .inl ⟨SqL.of hD, fun TB nTB => ?_⟩⟩
        dsimp only [gName, List.set]
        have sB := s6.trans (s7.trans (s9.trans (same_new (o := .tup tvs) nTB)))
        have hst9 := hst5.same sB
        have rbare : Rep [st] (upd H9 TB (.tup tvs)) (.ref TB) (bareD ns') := by
          refine Rep.avoids ?_ (.tup upd_same List.not_mem_nil (rt.sm (same_new nTB))) [st] fun z hz => ?_
          · exact noLst_doors _
          · rw [List.mem_singleton.mp hz]
            obtain ⟨_, h⟩ := hst9.there
            exact ⟨_, h⟩
        generalize upd H9 TB (.tup tvs) = Ha at sB hst9 rbare ⊢
        have ocA : ∀ {H' : Hp}, Same Ha H' → Occ [st] H' := fun s a m => by
          rw [List.mem_singleton.mp m]
          obtain ⟨_, h⟩ := (hst9.same s).there
          exact ⟨_, h⟩
        refine seq_by (fun σ H6 => σ = [some (.ref a), some (.ref st), some pr, some lv, some sv, some (.ref TB), none] ∧ Same Ha H6) ?_ fun rest3 => ?_
        · rintro σ Hc ⟨rfl, sc⟩
          have sD := sB.trans sc
          refine ⟨_, rfl, _, rfl, pr, sv, [st], d, sd, ns', rfl, rv5.sm sD, okd, rs.sm sD, sm.1, sm.2, up, mem, fun Hd sd' => ⟨_, _, rfl, rfl, _, rfl, ?_⟩⟩
          rw [bad]
          refine ite2 (fun _ => ?_) (fun c => absurd (by decide) c)
          refine ⟨_, rfl, _, rfl, pr, lv, [st], d, Y.d, ns', rfl, rv5.sm (sD.trans sd'), okd, rl5.sm (sD.trans sd'), lsm.1, lsm.2, up, mem, fun He se => ⟨_, _, rfl, rfl, ?_⟩⟩
          rw [lok]
          exact k _
        · have b8 : Lay.Ok d ns' ⟨List.replicate 8 [], ns'.map fun k => (k, [])⟩ := bare_ok (by decide) (flat_rep 8)
          have b0 : Lay.Ok d ns' ⟨[], ns'.map fun k => (k, [])⟩ := bare_ok (by decide) rfl
          refine ⟨_, rfl, ?_⟩
          have oc0 := ocA (.refl _)
          refine (lit_tup oc0 (lits_cons (lit_mul oc0 (lit_tup oc0 (lits_cons (lit_tup oc0 lits_nil (Nat.zero_le _)) lits_nil) (Nat.le_of_ble_eq_true rfl)) 8 (by simp) (by decide) (by decide) (by simp)) (lits_cons (lit_var rfl rbare) lits_nil)) (Nat.le_of_ble_eq_true rfl) : Lit [st] _ Ha _ (Lay.d ⟨List.replicate 8 [], ns'.map fun k => (k, [])⟩)) Ha _ (.refl _) fun Hb v8 sb r8 => ?_
          have m8 := lay_small okd b8
          refine ⟨pr, v8, [st], d, Lay.d ⟨List.replicate 8 [], ns'.map fun k => (k, [])⟩, ns', rfl, rv5.sm (sB.trans sb), okd, r8, m8.1, m8.2, up, mem, fun Hc sc => ⟨_, _, rfl, rfl, _, rfl, ?_⟩⟩
          rw [show layB d ns' (Lay.d ⟨List.replicate 8 [], ns'.map fun k => (k, [])⟩) = true from lay_of okd b8]
          refine ite2 (fun c => absurd c (by decide)) (fun _ => ?_)
          refine ⟨_, rfl, ?_⟩
          have oc1 := ocA (sb.trans sc)
          refine (lit_tup oc1 (lits_cons (lit_tup oc1 lits_nil (Nat.zero_le _)) (lits_cons (lit_var rfl (rbare.sm (sb.trans sc))) lits_nil)) (Nat.le_of_ble_eq_true rfl) : Lit [st] _ Hc _ (Lay.d ⟨[], ns'.map fun k => (k, [])⟩)) Hc _ (.refl _) fun Hd v0 sd0 r0 => ?_
          have m0 := lay_small okd b0
          refine ⟨pr, v0, [st], d, Lay.d ⟨[], ns'.map fun k => (k, [])⟩, ns', rfl, rv5.sm (sB.trans (sb.trans (sc.trans sd0))), okd, r0, m0.1, m0.2, up, mem, fun He se => ⟨_, _, rfl, rfl, _, rfl, ?_⟩⟩
          rw [lay_of okd b0]
          refine ite2 (fun c => absurd c (by decide)) (fun _ => ?_)
          exact rest3 _ _ ⟨rfl, sb.trans (sc.trans (sd0.trans se))⟩
      · refine ⟨_, rfl, _, rfl, pr, sv, [st], d, sd, ns, rfl, rv5, okd, rs, sm.1, sm.2, up, mem, fun H6 s6 => ⟨_, _, rfl, rfl, _, rfl, ?_⟩⟩
        rw [bad]
        refine ite2 (fun c => absurd c (by decide)) (fun _ => ?_)
        refine ⟨_, rfl, _, rfl, pr, lv, [st], d, Y.d, ns, rfl, rv5.sm s6, okd, rl5.sm s6, lsm.1, lsm.2, up, mem, fun H7 s7 => ⟨_, _, rfl, rfl, _, rfl, ?_⟩⟩
        rw [lok]
        refine ite2 (fun c => absurd c (by decide)) (fun _ => ?_)
        exact rest2 _ _ ⟨rfl, s6.trans s7⟩
    · refine ⟨_, rfl, p0, [st], P.d, rfl, rp, okp, fun H3 p ys s3 np hp rY len => ⟨p, ys, rfl, .inl (SqL.of hp), rfl, _, rfl, ?_⟩⟩
      have hst3 := hst2.same s3
      refine ite2 (fun c => ?_) (fun c => ?_)
      · obtain ⟨_, h3⟩ := hst3.there
        have oc : Occ [st] H3 := fun x m => by
          rw [List.mem_singleton.mp m]
          exact ⟨_, h3⟩
        refine (lit_tup oc (lits_cons (lit_tup oc (lits_cons (lit_tup oc (lits_cons (lit_tup oc (lits_cons (lit_str _) lits_nil) (Nat.le_of_ble_eq_true rfl)) lits_nil) (Nat.le_of_ble_eq_true rfl)) lits_nil) (Nat.le_of_ble_eq_true rfl)) (lits_cons (lit_tup oc (lits_cons (lit_bl _) lits_nil) (Nat.le_of_ble_eq_true rfl)) (lits_cons (lit_tup oc (lits_cons (lit_int _) lits_nil) (Nat.le_of_ble_eq_true rfl)) (lits_cons (lit_tup oc lits_nil (Nat.le_of_ble_eq_true rfl)) lits_nil)))) (Nat.le_of_ble_eq_true rfl) : Lit [st] _ H3 _ oneD) H3 _ (.refl _) fun H4 v4 s4 r4 => ?_
        exact rest _ _ ⟨v4, oneD, rfl, hst3.same s4, r4, one_ok, by decide⟩
      · refine rest _ _ ⟨p0, P.d, rfl, hst3, rp.sm s3, okp, fun z => c ?_⟩
        have ln := rY.length
        rw [places_pairs, z] at ln
        rw [show ys.length = 0 from ln]
        exact decide_eq_true rfl
end
end Lb

set_option Elab.async false
set_option linter.all false
set_option maxRecDepth 100000
set_option maxHeartbeats 0
namespace Lb
open PySem PySem.Spec PyProof.Rows L2
/-! the top: what it has bound -/
def df_law_stream : He.DefD := ⟨("_law_stream", none), "_law_stream", "_law_stream", defArgs s_law_stream, defBody s_law_stream, defScope s_law_stream, [], []⟩
def df_law_mixed : He.DefD := ⟨("_law_mixed", none), "_law_mixed", "_law_mixed", defArgs s_law_mixed, defBody s_law_mixed, defScope s_law_mixed, [], []⟩
def df_law_draw : He.DefD := ⟨("_law_draw", none), "_law_draw", "_law_draw", defArgs s_law_draw, defBody s_law_draw, defScope s_law_draw, [], []⟩
def df_law_name : He.DefD := ⟨("_law_name", none), "_law_name", "_law_name", defArgs s_law_name, defBody s_law_name, defScope s_law_name, [], []⟩
def df_law_needs : He.DefD := ⟨("_law_needs", none), "_law_needs", "_law_needs", defArgs s_law_needs, defBody s_law_needs, defScope s_law_needs, [], []⟩
def df_law_row : He.DefD := ⟨("_law_row", none), "_law_row", "_law_row", defArgs s_law_row, defBody s_law_row, defScope s_law_row, [], []⟩
def df_law_plans : He.DefD := ⟨("_law_plans", none), "_law_plans", "_law_plans", defArgs s_law_plans, defBody s_law_plans, defScope s_law_plans, [], []⟩
def df_law_program : He.DefD := ⟨("_law_program", none), "_law_program", "_law_program", defArgs s_law_program, defBody s_law_program, defScope s_law_program, [], []⟩
def df_is_integer : He.DefD := ⟨("is_integer", none), "is_integer", "is_integer", defArgs s_is_integer, defBody s_is_integer, defScope s_is_integer, [], []⟩
def df_is_number : He.DefD := ⟨("is_number", none), "is_number", "is_number", defArgs s_is_number, defBody s_is_number, defScope s_is_number, [], []⟩
def df_is_name : He.DefD := ⟨("is_name", none), "is_name", "is_name", defArgs s_is_name, defBody s_is_name, defScope s_is_name, [], []⟩
def df_is_tuple : He.DefD := ⟨("is_tuple", none), "is_tuple", "is_tuple", defArgs s_is_tuple, defBody s_is_tuple, defScope s_is_tuple, [], []⟩
def df_is_ascending : He.DefD := ⟨("is_ascending", none), "is_ascending", "is_ascending", defArgs s_is_ascending, defBody s_is_ascending, defScope s_is_ascending, [], []⟩
def df_is_need : He.DefD := ⟨("is_need", none), "is_need", "is_need", defArgs s_is_need, defBody s_is_need, defScope s_is_need, [], []⟩
def df_are_needs : He.DefD := ⟨("are_needs", none), "are_needs", "are_needs", defArgs s_are_needs, defBody s_are_needs, defScope s_are_needs, [], []⟩
def df_starts_with_word : He.DefD := ⟨("starts_with_word", none), "starts_with_word", "starts_with_word", defArgs s_starts_with_word, defBody s_starts_with_word, defScope s_starts_with_word, [], []⟩
def df_is_give : He.DefD := ⟨("is_give", none), "is_give", "is_give", defArgs s_is_give, defBody s_is_give, defScope s_is_give, [], []⟩
def df_is_late : He.DefD := ⟨("is_late", none), "is_late", "is_late", defArgs s_is_late, defBody s_is_late, defScope s_is_late, [], []⟩
def df_is_row : He.DefD := ⟨("is_row", none), "is_row", "is_row", defArgs s_is_row, defBody s_is_row, defScope s_is_row, [], []⟩
def df_are_parts : He.DefD := ⟨("are_parts", none), "are_parts", "are_parts", defArgs s_are_parts, defBody s_are_parts, defScope s_are_parts, [], []⟩
def df_are_marks : He.DefD := ⟨("are_marks", none), "are_marks", "are_marks", defArgs s_are_marks, defBody s_are_marks, defScope s_are_marks, [], []⟩
def df_are_entries : He.DefD := ⟨("are_entries", none), "are_entries", "are_entries", defArgs s_are_entries, defBody s_are_entries, defScope s_are_entries, [], []⟩
def df_are_opens : He.DefD := ⟨("are_opens", none), "are_opens", "are_opens", defArgs s_are_opens, defBody s_are_opens, defScope s_are_opens, [], []⟩
def df_is_program : He.DefD := ⟨("is_program", none), "is_program", "is_program", defArgs s_is_program, defBody s_is_program, defScope s_is_program, [], []⟩
def df_demand_program : He.DefD := ⟨("demand_program", none), "demand_program", "demand_program", defArgs s_demand_program, defBody s_demand_program, defScope s_demand_program, [], []⟩
def df_is_place : He.DefD := ⟨("is_place", none), "is_place", "is_place", defArgs s_is_place, defBody s_is_place, defScope s_is_place, [], []⟩
def df_is_laid_door : He.DefD := ⟨("is_laid_door", none), "is_laid_door", "is_laid_door", defArgs s_is_laid_door, defBody s_is_laid_door, defScope s_is_laid_door, [], []⟩
def df_are_laid_doors : He.DefD := ⟨("are_laid_doors", none), "are_laid_doors", "are_laid_doors", defArgs s_are_laid_doors, defBody s_are_laid_doors, defScope s_are_laid_doors, [], []⟩
def df_are_packs : He.DefD := ⟨("are_packs", none), "are_packs", "are_packs", defArgs s_are_packs, defBody s_are_packs, defScope s_are_packs, [], []⟩
def df_doors_of : He.DefD := ⟨("doors_of", none), "doors_of", "doors_of", defArgs s_doors_of, defBody s_doors_of, defScope s_doors_of, [], []⟩
def df_is_layout : He.DefD := ⟨("is_layout", none), "is_layout", "is_layout", defArgs s_is_layout, defBody s_is_layout, defScope s_is_layout, [], []⟩
def df_law_places : He.DefD := ⟨("_law_places", none), "_law_places", "_law_places", defArgs s_law_places, defBody s_law_places, defScope s_law_places, [], []⟩
def df_law_doors : He.DefD := ⟨("_law_doors", none), "_law_doors", "_law_doors", defArgs s_law_doors, defBody s_law_doors, defScope s_law_doors, [], []⟩
def df_law_layout : He.DefD := ⟨("_law_layout", none), "_law_layout", "_law_layout", defArgs s_law_layout, defBody s_law_layout, defScope s_law_layout, [], []⟩
def df_law_spoilt : He.DefD := ⟨("_law_spoilt", none), "_law_spoilt", "_law_spoilt", defArgs s_law_spoilt, defBody s_law_spoilt, defScope s_law_spoilt, [], []⟩
def df_law : He.DefD := ⟨("law", none), "law", "law", defArgs s_law, defBody s_law, defScope s_law, [], []⟩
def fns : List He.DefD := [df_law_stream, df_law_mixed, df_law_draw, df_law_name, df_law_needs, df_law_row, df_law_plans, df_law_program, df_is_integer, df_is_number, df_is_name, df_is_tuple, df_is_ascending, df_is_need, df_are_needs, df_starts_with_word, df_is_give, df_is_late, df_is_row, df_are_parts, df_are_marks, df_are_entries, df_are_opens, df_is_program, df_demand_program, df_is_place, df_is_laid_door, df_are_laid_doors, df_are_packs, df_doors_of, df_is_layout, df_law_places, df_law_doors, df_law_layout, df_law_spoilt, df_law]
def fa0 : List He.Fa := [.glo "_law_stream", .glo "_law_mixed", .glo "_law_draw", .glo "_law_name", .glo "_law_needs", .glo "_law_row", .glo "_law_plans", .glo "_law_program", .glo "is_integer", .glo "is_number", .glo "is_name", .glo "is_tuple", .glo "is_ascending", .glo "is_need", .glo "are_needs", .glo "starts_with_word", .glo "is_give", .glo "is_late", .glo "is_row", .glo "are_parts"]
def fa1 : List He.Fa := [.glo "are_marks", .glo "are_entries", .glo "are_opens", .glo "is_program", .glo "demand_program", .glo "is_place", .glo "is_laid_door", .glo "are_laid_doors", .glo "are_packs", .glo "doors_of", .glo "is_layout", .glo "_law_places", .glo "_law_doors", .glo "_law_layout", .glo "_law_spoilt", .glo "law", .free "len", .free "int", .free "abs", .free "isinstance"]
def fa2 : List He.Fa := [.free "range", .free "list", .free "tuple", .free "sorted", .free "set", .free "min", .free "all", .free "zip", .free "enumerate", .free "bool", .free "str", .free "reversed", .int "MOST_ENTRIES" (3), .int "MOST_NEEDS" (2), .int "MOST_NEEDS_OF_GIVE" (1), .int "MOST_OPENS" (4), .int "MOST_OUTS" (2), .int "MOST_PACKS" (8), .int "MOST_PARTS" (4), .int "MOST_ROWS" (12)]
def fa3 : List He.Fa := [.int "MOST_ROWS_OF_PART" (5), .int "NO_PART" (-1), .glo "NAMES"]
def fas : List He.Fa := fa0 ++ fa1 ++ fa2 ++ fa3
def tbs : List (Str × List He.Dv) := [("NAMES", [.str "a", .str "b", .str "c", .str "d"])]
/-- what is looked at: names, defs and tables -/
def seenOf (g : Addr → Option Obj) : He.AlD × Bool := (He.obsDG 4 fas fns g, tbs.all fun q => He.tupB (He.frG g (He.asD g 4)) q.1 q.2)
def hookOf : PySem.W.Hook where
  α := He.AlD × Bool
  obs := fun s => seenOf s.heap.get?
  val := fun _ => (He.valD fns, true)
  says := fun _ h => ∃ K : PySem.W.Frag, K.In h ∧ He.SaysD fas fns K ∧ (tbs.all fun q => He.tupB K q.1 q.2) = true
  of := fun _ _ e => ⟨_, He.frG_in, congrArg Prod.fst e, congrArg Prod.snd e⟩
  keeps := fun _ _ _ y k => y.elim fun K c => ⟨K, c.1.keeps k, c.2⟩
def seenT (s : PySem.W.SharedT) : He.AlD × Bool := seenOf (HandSHeadRun.getT s)
theorem seenT_eq (s : PySem.W.SharedT) : seenT s = hookOf.obs s.abs := by
  have e : HandSHeadRun.getT s = s.abs.heap.get? := funext (HandSHeadRun.getT_eq s)
  show seenOf (HandSHeadRun.getT s) = seenOf s.abs.heap.get?
  rw [e]
def others0 : List Str := ["BundleError", "BadProgram", "NAMES", "MOST_PARTS", "MOST_ROWS_OF_PART", "MOST_ROWS", "MOST_OUTS", "MOST_ENTRIES", "MOST_OPENS", "MOST_NEEDS_OF_GIVE", "MOST_NEEDS", "MOST_PACKS", "NO_PART", "is_integer", "is_number", "is_name", "is_tuple", "is_ascending", "is_need", "are_needs", "starts_with_word", "is_row", "is_give", "is_late", "are_parts", "are_marks", "are_entries", "are_opens", "is_program", "demand_program"]
def others1 : List Str := ["is_place", "is_layout", "are_packs", "are_laid_doors", "is_laid_door", "doors_of", "_law_stream", "_law_mixed", "_law_draw", "_law_name", "_law_needs", "_law_row", "_law_plans", "_law_program", "_law_places", "_law_doors", "_law_layout", "_law_spoilt"]
abbrev theRow : PySem.W.OpenRow := PySem.W.OpenLaw.row PySem.Challenge.rw_leanbundle_k05_layouts
theorem theRun (w : World) : HandSHeadRun.RunEq theRow (PySem.W.view theRow.prog [51]) hookOf seenT 8000 (others0 ++ others1) w := by
  intro os
  kernel_rfl
theorem theFacts {P : Program} {w : World} {K : PySem.W.Frag} {h : Heap} {mg : Str → Option Value} {f : Addr} (X : K.In h) (G : h.Ns mainGlobals mg) (hfa : mg ("law" : Str) = some (.ref f)) (c : He.SaysD fas fns K) (ct : (tbs.all fun q => He.tupB K q.1 q.2) = true) :
    ∃ fd : FuncData, (∀ (s : Shared) (v : Value), BindsTo s fd ⟨[v], []⟩ [("script", v)]) ∧ ∀ base : Heap, K.In base → base.Ns mainGlobals mg → FnOk P w K mg base CX0 12 f fd ["script"] (sp_law K) := by
  obtain ⟨d_law_stream, F_law_stream⟩ := c.def_ 0 (d := df_law_stream) rfl
  obtain ⟨d_law_mixed, F_law_mixed⟩ := c.def_ 1 (d := df_law_mixed) rfl
  obtain ⟨d_law_draw, F_law_draw⟩ := c.def_ 2 (d := df_law_draw) rfl
  obtain ⟨d_law_name, F_law_name⟩ := c.def_ 3 (d := df_law_name) rfl
  obtain ⟨d_law_needs, F_law_needs⟩ := c.def_ 4 (d := df_law_needs) rfl
  obtain ⟨d_law_row, F_law_row⟩ := c.def_ 5 (d := df_law_row) rfl
  obtain ⟨d_law_plans, F_law_plans⟩ := c.def_ 6 (d := df_law_plans) rfl
  obtain ⟨d_law_program, F_law_program⟩ := c.def_ 7 (d := df_law_program) rfl
  obtain ⟨d_is_integer, F_is_integer⟩ := c.def_ 8 (d := df_is_integer) rfl
  obtain ⟨d_is_number, F_is_number⟩ := c.def_ 9 (d := df_is_number) rfl
  obtain ⟨d_is_name, F_is_name⟩ := c.def_ 10 (d := df_is_name) rfl
  obtain ⟨d_is_tuple, F_is_tuple⟩ := c.def_ 11 (d := df_is_tuple) rfl
  obtain ⟨d_is_ascending, F_is_ascending⟩ := c.def_ 12 (d := df_is_ascending) rfl
  obtain ⟨d_is_need, F_is_need⟩ := c.def_ 13 (d := df_is_need) rfl
  obtain ⟨d_are_needs, F_are_needs⟩ := c.def_ 14 (d := df_are_needs) rfl
  obtain ⟨d_starts_with_word, F_starts_with_word⟩ := c.def_ 15 (d := df_starts_with_word) rfl
  obtain ⟨d_is_give, F_is_give⟩ := c.def_ 16 (d := df_is_give) rfl
  obtain ⟨d_is_late, F_is_late⟩ := c.def_ 17 (d := df_is_late) rfl
  obtain ⟨d_is_row, F_is_row⟩ := c.def_ 18 (d := df_is_row) rfl
  obtain ⟨d_are_parts, F_are_parts⟩ := c.def_ 19 (d := df_are_parts) rfl
  obtain ⟨d_are_marks, F_are_marks⟩ := c.def_ 20 (d := df_are_marks) rfl
  obtain ⟨d_are_entries, F_are_entries⟩ := c.def_ 21 (d := df_are_entries) rfl
  obtain ⟨d_are_opens, F_are_opens⟩ := c.def_ 22 (d := df_are_opens) rfl
  obtain ⟨d_is_program, F_is_program⟩ := c.def_ 23 (d := df_is_program) rfl
  obtain ⟨d_demand_program, F_demand_program⟩ := c.def_ 24 (d := df_demand_program) rfl
  obtain ⟨d_is_place, F_is_place⟩ := c.def_ 25 (d := df_is_place) rfl
  obtain ⟨d_is_laid_door, F_is_laid_door⟩ := c.def_ 26 (d := df_is_laid_door) rfl
  obtain ⟨d_are_laid_doors, F_are_laid_doors⟩ := c.def_ 27 (d := df_are_laid_doors) rfl
  obtain ⟨d_are_packs, F_are_packs⟩ := c.def_ 28 (d := df_are_packs) rfl
  obtain ⟨d_doors_of, F_doors_of⟩ := c.def_ 29 (d := df_doors_of) rfl
  obtain ⟨d_is_layout, F_is_layout⟩ := c.def_ 30 (d := df_is_layout) rfl
  obtain ⟨d_law_places, F_law_places⟩ := c.def_ 31 (d := df_law_places) rfl
  obtain ⟨d_law_doors, F_law_doors⟩ := c.def_ 32 (d := df_law_doors) rfl
  obtain ⟨d_law_layout, F_law_layout⟩ := c.def_ 33 (d := df_law_layout) rfl
  obtain ⟨d_law_spoilt, F_law_spoilt⟩ := c.def_ 34 (d := df_law_spoilt) rfl
  obtain ⟨d_law, F_law⟩ := c.def_ 35 (d := df_law) rfl
  have T : Txt K mg ⟨He.fAd K ("_law_stream", none), He.fAd K ("_law_mixed", none), He.fAd K ("_law_draw", none), He.fAd K ("_law_name", none), He.fAd K ("_law_needs", none), He.fAd K ("_law_row", none), He.fAd K ("_law_plans", none), He.fAd K ("_law_program", none), He.fAd K ("is_integer", none), He.fAd K ("is_number", none), He.fAd K ("is_name", none), He.fAd K ("is_tuple", none), He.fAd K ("is_ascending", none), He.fAd K ("is_need", none), He.fAd K ("are_needs", none), He.fAd K ("starts_with_word", none), He.fAd K ("is_give", none), He.fAd K ("is_late", none), He.fAd K ("is_row", none), He.fAd K ("are_parts", none), He.fAd K ("are_marks", none), He.fAd K ("are_entries", none), He.fAd K ("are_opens", none), He.fAd K ("is_program", none), He.fAd K ("demand_program", none), He.fAd K ("is_place", none), He.fAd K ("is_laid_door", none), He.fAd K ("are_laid_doors", none), He.fAd K ("are_packs", none), He.fAd K ("doors_of", none), He.fAd K ("is_layout", none), He.fAd K ("_law_places", none), He.fAd K ("_law_doors", none), He.fAd K ("_law_layout", none), He.fAd K ("_law_spoilt", none), He.fAd K ("law", none), He.ga K "NAMES", d_law_stream, d_law_mixed, d_law_draw, d_law_name, d_law_needs, d_law_row, d_law_plans, d_law_program, d_is_integer, d_is_number, d_is_name, d_is_tuple, d_is_ascending, d_is_need, d_are_needs, d_starts_with_word, d_is_give, d_is_late, d_is_row, d_are_parts, d_are_marks, d_are_entries, d_are_opens, d_is_program, d_demand_program, d_is_place, d_is_laid_door, d_are_laid_doors, d_are_packs, d_doors_of, d_is_layout, d_law_places, d_law_doors, d_law_layout, d_law_spoilt, d_law⟩ := {
    m_law_stream := He.glo_ok X G (c.fact 0 (f := .glo "_law_stream") rfl),
    F_law_stream := F_law_stream,
    m_law_mixed := He.glo_ok X G (c.fact 1 (f := .glo "_law_mixed") rfl),
    F_law_mixed := F_law_mixed,
    m_law_draw := He.glo_ok X G (c.fact 2 (f := .glo "_law_draw") rfl),
    F_law_draw := F_law_draw,
    m_law_name := He.glo_ok X G (c.fact 3 (f := .glo "_law_name") rfl),
    F_law_name := F_law_name,
    m_law_needs := He.glo_ok X G (c.fact 4 (f := .glo "_law_needs") rfl),
    F_law_needs := F_law_needs,
    m_law_row := He.glo_ok X G (c.fact 5 (f := .glo "_law_row") rfl),
    F_law_row := F_law_row,
    m_law_plans := He.glo_ok X G (c.fact 6 (f := .glo "_law_plans") rfl),
    F_law_plans := F_law_plans,
    m_law_program := He.glo_ok X G (c.fact 7 (f := .glo "_law_program") rfl),
    F_law_program := F_law_program,
    m_is_integer := He.glo_ok X G (c.fact 8 (f := .glo "is_integer") rfl),
    F_is_integer := F_is_integer,
    m_is_number := He.glo_ok X G (c.fact 9 (f := .glo "is_number") rfl),
    F_is_number := F_is_number,
    m_is_name := He.glo_ok X G (c.fact 10 (f := .glo "is_name") rfl),
    F_is_name := F_is_name,
    m_is_tuple := He.glo_ok X G (c.fact 11 (f := .glo "is_tuple") rfl),
    F_is_tuple := F_is_tuple,
    m_is_ascending := He.glo_ok X G (c.fact 12 (f := .glo "is_ascending") rfl),
    F_is_ascending := F_is_ascending,
    m_is_need := He.glo_ok X G (c.fact 13 (f := .glo "is_need") rfl),
    F_is_need := F_is_need,
    m_are_needs := He.glo_ok X G (c.fact 14 (f := .glo "are_needs") rfl),
    F_are_needs := F_are_needs,
    m_starts_with_word := He.glo_ok X G (c.fact 15 (f := .glo "starts_with_word") rfl),
    F_starts_with_word := F_starts_with_word,
    m_is_give := He.glo_ok X G (c.fact 16 (f := .glo "is_give") rfl),
    F_is_give := F_is_give,
    m_is_late := He.glo_ok X G (c.fact 17 (f := .glo "is_late") rfl),
    F_is_late := F_is_late,
    m_is_row := He.glo_ok X G (c.fact 18 (f := .glo "is_row") rfl),
    F_is_row := F_is_row,
    m_are_parts := He.glo_ok X G (c.fact 19 (f := .glo "are_parts") rfl),
    F_are_parts := F_are_parts,
    m_are_marks := He.glo_ok X G (c.fact 20 (f := .glo "are_marks") rfl),
    F_are_marks := F_are_marks,
    m_are_entries := He.glo_ok X G (c.fact 21 (f := .glo "are_entries") rfl),
    F_are_entries := F_are_entries,
    m_are_opens := He.glo_ok X G (c.fact 22 (f := .glo "are_opens") rfl),
    F_are_opens := F_are_opens,
    m_is_program := He.glo_ok X G (c.fact 23 (f := .glo "is_program") rfl),
    F_is_program := F_is_program,
    m_demand_program := He.glo_ok X G (c.fact 24 (f := .glo "demand_program") rfl),
    F_demand_program := F_demand_program,
    m_is_place := He.glo_ok X G (c.fact 25 (f := .glo "is_place") rfl),
    F_is_place := F_is_place,
    m_is_laid_door := He.glo_ok X G (c.fact 26 (f := .glo "is_laid_door") rfl),
    F_is_laid_door := F_is_laid_door,
    m_are_laid_doors := He.glo_ok X G (c.fact 27 (f := .glo "are_laid_doors") rfl),
    F_are_laid_doors := F_are_laid_doors,
    m_are_packs := He.glo_ok X G (c.fact 28 (f := .glo "are_packs") rfl),
    F_are_packs := F_are_packs,
    m_doors_of := He.glo_ok X G (c.fact 29 (f := .glo "doors_of") rfl),
    F_doors_of := F_doors_of,
    m_is_layout := He.glo_ok X G (c.fact 30 (f := .glo "is_layout") rfl),
    F_is_layout := F_is_layout,
    m_law_places := He.glo_ok X G (c.fact 31 (f := .glo "_law_places") rfl),
    F_law_places := F_law_places,
    m_law_doors := He.glo_ok X G (c.fact 32 (f := .glo "_law_doors") rfl),
    F_law_doors := F_law_doors,
    m_law_layout := He.glo_ok X G (c.fact 33 (f := .glo "_law_layout") rfl),
    F_law_layout := F_law_layout,
    m_law_spoilt := He.glo_ok X G (c.fact 34 (f := .glo "_law_spoilt") rfl),
    F_law_spoilt := F_law_spoilt,
    m_law := He.glo_ok X G (c.fact 35 (f := .glo "law") rfl),
    F_law := F_law,
    zlen := He.free_ok X G (c.fact 36 (f := .free "len") rfl),
    zint := He.free_ok X G (c.fact 37 (f := .free "int") rfl),
    zabs := He.free_ok X G (c.fact 38 (f := .free "abs") rfl),
    zisinstance := He.free_ok X G (c.fact 39 (f := .free "isinstance") rfl),
    zrange := He.free_ok X G (c.fact 40 (f := .free "range") rfl),
    zlist := He.free_ok X G (c.fact 41 (f := .free "list") rfl),
    ztuple := He.free_ok X G (c.fact 42 (f := .free "tuple") rfl),
    zsorted := He.free_ok X G (c.fact 43 (f := .free "sorted") rfl),
    zset := He.free_ok X G (c.fact 44 (f := .free "set") rfl),
    zmin := He.free_ok X G (c.fact 45 (f := .free "min") rfl),
    zall := He.free_ok X G (c.fact 46 (f := .free "all") rfl),
    zzip := He.free_ok X G (c.fact 47 (f := .free "zip") rfl),
    zenumerate := He.free_ok X G (c.fact 48 (f := .free "enumerate") rfl),
    zbool := He.free_ok X G (c.fact 49 (f := .free "bool") rfl),
    zstr := He.free_ok X G (c.fact 50 (f := .free "str") rfl),
    zreversed := He.free_ok X G (c.fact 51 (f := .free "reversed") rfl),
    i_MOST_ENTRIES := He.int_ok X G (c.fact 52 (f := .int "MOST_ENTRIES" (3)) rfl),
    i_MOST_NEEDS := He.int_ok X G (c.fact 53 (f := .int "MOST_NEEDS" (2)) rfl),
    i_MOST_NEEDS_OF_GIVE := He.int_ok X G (c.fact 54 (f := .int "MOST_NEEDS_OF_GIVE" (1)) rfl),
    i_MOST_OPENS := He.int_ok X G (c.fact 55 (f := .int "MOST_OPENS" (4)) rfl),
    i_MOST_OUTS := He.int_ok X G (c.fact 56 (f := .int "MOST_OUTS" (2)) rfl),
    i_MOST_PACKS := He.int_ok X G (c.fact 57 (f := .int "MOST_PACKS" (8)) rfl),
    i_MOST_PARTS := He.int_ok X G (c.fact 58 (f := .int "MOST_PARTS" (4)) rfl),
    i_MOST_ROWS := He.int_ok X G (c.fact 59 (f := .int "MOST_ROWS" (12)) rfl),
    i_MOST_ROWS_OF_PART := He.int_ok X G (c.fact 60 (f := .int "MOST_ROWS_OF_PART" (5)) rfl),
    i_NO_PART := He.int_ok X G (c.fact 61 (f := .int "NO_PART" (-1)) rfl),
    m_NAMES := He.glo_ok X G (c.fact 62 (f := .glo "NAMES") rfl),
    t_NAMES := fun H => He.tupB_ok (List.all_eq_true.mp ct _ (List.mem_of_getElem? (i := 0) rfl)) H }
  have e := hfa.symm.trans (He.glo_ok X G (c.fact 35 (f := .glo "law") rfl))
  cases e
  exact ⟨d_law, fun s v => (FunD.bindsA (ps := ["script"]) F_law fun _ _ _ _ _ _ us hl => match us, hl with | [_], _ => rfl) s [v] rfl, fun base _ _ => ok_law T⟩
end Lb
open PySem PySem.W PySem.Calls PyProof.Rows
theorem PySem.Challenge.cw_leanbundle_k05_layouts_holds : PySem.Challenge.rw_leanbundle_k05_layouts.Holds := by
  w_on; o_law
  refine HandSHeadRun.head_any (r := OpenLaw.row PySem.Challenge.rw_leanbundle_k05_layouts) (q := view (OpenLaw.row PySem.Challenge.rw_leanbundle_k05_layouts).prog [51]) (H := Lb.hookOf) (ob := Lb.seenT) (M := 8000) (loose := Lb.others0 ++ Lb.others1)
    (d := HandSHeadRun.topDef (OpenLaw.row PySem.Challenge.rw_leanbundle_k05_layouts).prog 51) (kwd := []) Lb.seenT_eq
    (by kernel_rfl) (fun s => by kernel_rfl) Lb.theRun (by kernel_rfl) (by kernel_rfl) (by kernel_rfl) (by rfl) (by first | decide +kernel | assumption) (by decide +kernel) ⟨rfl, rfl, rfl, rfl, rfl, by decide +kernel⟩ ?hw ?hc
  case hw => w_witness2
  case hc =>
    refine L2.walk_ofE (l := PySem.Challenge.rw_leanbundle_k05_layouts) (n := 63) (k := 12) (x := "script") (CX := L2.CX0) rfl (by decide) (by kernel_rfl) ⟨rfl, by decide, by decide⟩ ?F (fun _ _ _ _ z => z)
    intro w mg fa h Y G mg0
    obtain ⟨K, KX, c, ct⟩ := Y
    have mgl : mg ("law" : PySem.Str) = some (.ref fa) := by
      have e : (HandSHeadRun.topDef (OpenLaw.row PySem.Challenge.rw_leanbundle_k05_layouts).prog 51).name = ("law" : PySem.Str) := by kernel_rfl
      rw [← e]
      exact mg0
    obtain ⟨fd, hb, hF⟩ := Lb.theFacts (P := (PySem.Challenge.rw_leanbundle_k05_layouts).prog) (w := w) KX G mgl c ct
    exact ⟨K, fd, Lb.sp_law K, KX, hb, fun H a ns hl _ hS => ⟨a, ns, rfl, hS, hl, fun _ => rfl⟩, hF⟩
