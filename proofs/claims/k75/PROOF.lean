import PyProof.Rows.All
import Wide.All
import OpenK.AllK
import Wide.FinOn
import HandS.ForMost
import HandS.Set
import HandS.TupSets
import KE.SortData
import HandS.Strs
import HandS.Walk
import HandS.IsInst
import HandS.Zip
import HandS.Defaults
import HandS.TupAny
import HandS.Text
import KE.GoesMore
import KE.GoesEnum
import HandS.Iter
import HandS.FStr
import HandS.MapJoin
import HandS.Conv
import HandS.Flow
import HandS.MapObj
import KE.GoesZip
import KE.KTurns
import HandS.Deep
import PyProof.P3In
import HandS.TupMul
import HandS.Rev
import HandS.RevTup
import HandS.Style
import KE.DatumOrd
import KE.KeyNested
import KE.KDictKeyed
import HandS.DictComp
import HandS.SetKeys
import HandS.SetFor
import KE.KRevSl
import HandS.Ends
import HandS.Words
import HandS.WordsExc
import HandS.Head0
import HandS.Head1
import HandS.Head2
import HandS.HeadEnd
import HandS.HeadHook1
import HandS.HeadHook2
import HandS.HeadHook3
import PySem.Challenge.RW_leanbundle_k75_whole_more_options_leave
set_option Elab.async false
set_option linter.all false
set_option maxRecDepth 100000
set_option maxHeartbeats 4000000
/-! sets and sorted lists of pairs (number, name) -/
namespace Lb
open PySem PySem.Spec PyProof.Rows L2
/-- a pair as a key -/
abbrev Nm := Int × Str
def kk (p : Nm) : List Key := [Sum.inl p.1, Sum.inr p.2]
theorem kk_inj {p q : Nm} (h : kk p = kk q) : p = q := by
  unfold kk at h
  injection h with h1 h2
  injection h2 with h2 _
  injection h1 with h1
  injection h2 with h2
  exact Prod.ext h1 h2
def PrAt (P : Program) (w : World) (h : Heap) (p : Nm) (a : Addr) : Prop := IsTupleKey (mixKind P w) h (kk p) a
def hsh (P : Program) (w : World) (p : Nm) : Int := tupleKeyHash (mixKind P w) (kk p)
section
variable {P : Program} {w : World} {A : Around} {E : Value → Shared → Prop} {s : Shared}
/-- the two values of such a pair -/
theorem two_items {p : Nm} {vs : List Value} (h : ItemsAre (mixKind P w) (kk p) vs) : ∃ t u, vs = [Value.int p.1 t, Value.str p.2 u] := by
  unfold kk at h
  cases h with
  | cons h1 h2 =>
    cases h2 with
    | cons h3 h4 =>
      cases h4
      have g1 : keyIs (Sum.inl p.1) _ = true := h1
      have g3 : keyIs (Sum.inr p.2) _ = true := h3
      rcases keyIs_shape g1 with ⟨i, t, e, rfl⟩ | ⟨x, t, e, rfl⟩
      · rcases keyIs_shape g3 with ⟨j, u, e', rfl⟩ | ⟨y, u, e', rfl⟩
        · exact nomatch e'
        · injection e with e
          injection e' with e'
          subst e
          subst e'
          exact ⟨t, u, rfl⟩
      · exact nomatch e
theorem noClass {p : Nm} {b : Addr} {Q : Bool → Shared → Prop} (hp : PrAt P w s.heap p b) (q : Q false s) : wpAny (model P w) A (ofAClassStatement 8 (.ref b)) Q E s := by
  have ty := IsTupleKey.typeIs hp
  obtain ⟨ob, its, cap, hget, _, hdat, hits⟩ := hp
  unfold ofAClassStatement
  refine wpAny_bind (wpAny_typeOf ty ?_)
  dsimp only
  have e1 : (("tuple" : String) == "tuple") = true := by decide
  simp only [e1, if_true, Bool.not_true, Bool.false_eq_true, if_false]
  try refine wpAny_bind (wpAny_pure ?_)
  try simp only [Bool.not_true, Bool.false_eq_true, if_false]
  show wpAny _ _ (seqItems? (.ref b) >>= _) _ _ s
  refine wpAny_bind (wpAny_seqItems hget hdat ?_)
  dsimp only
  refine wpAny_bind ?_
  show wpAny _ _ (forIn its _ _) _ _ s
  rw [← Array.forIn_toList]
  refine wpAny_forIn_list _ (fun left st now => st.1 = none ∧ now = s ∧ ∀ v ∈ left, ∀ n, ofAClassStatement n v = pure false) _ ?_ ?_ _ _ ⟨rfl, rfl, fun v hv n => ?_⟩
  · rintro v left st now ⟨e2, rfl, each⟩
    rw [each v List.mem_cons_self]
    refine wpAny_bind (wpAny_pure ?_)
    simp only [Bool.false_eq_true, if_false]
    exact wpAny_pure ⟨rfl, rfl, fun u hu => each u (List.mem_cons_of_mem _ hu)⟩
  · rintro ⟨st1, st2⟩ now ⟨e2, rfl, _⟩
    simp only at e2
    subst e2
    exact wpAny_pure q
  · obtain ⟨t, u, e⟩ := two_items hits
    rw [e] at hv
    rcases List.mem_cons.mp hv with z | z
    · rw [z]
      cases n <;> rfl
    · rw [List.mem_singleton.mp z]
      cases n <;> rfl
theorem byVal {p : Nm} {b : Addr} {Q : Bool → Shared → Prop} (hp : PrAt P w s.heap p b) (q : Q false s) : wpAny (model P w) A (hashByValue 8 (.ref b)) Q E s := by
  have ty := IsTupleKey.typeIs hp
  obtain ⟨ob, its, cap, hget, _, hdat, hits⟩ := hp
  obtain ⟨t, u, e⟩ := two_items hits
  unfold hashByValue
  refine wpAny_bind (wpAny_specialOf ty F.slot_tuple_hash.lookup ?_)
  show wpAny _ _ (seqItems? (.ref b) >>= _) _ _ s
  refine wpAny_bind (wpAny_seqItems hget hdat ?_)
  refine wpAny_bind ?_
  show wpAny _ _ (forIn its _ _) _ _ s
  rw [← Array.forIn_toList, e, List.forIn_cons]
  refine wpAny_bind ?_
  rw [show hashByValue 7 (Value.int p.1 t) = pure true from rfl]
  refine wpAny_bind (wpAny_pure ?_)
  simp only [Bool.not_true, Bool.false_eq_true, if_false]
  refine wpAny_pure ?_
  dsimp only
  rw [List.forIn_cons]
  refine wpAny_bind ?_
  rw [show hashByValue 7 (Value.str p.2 u) = pure false from rfl]
  refine wpAny_bind (wpAny_pure ?_)
  simp only [Bool.not_false, if_true]
  refine wpAny_pure ?_
  dsimp only
  refine wpAny_pure ?_
  dsimp only
  exact wpAny_pure q
/-- a search among such pairs cannot be seen -/
theorem unseen {p : Nm} {b : Addr} {Q : Bool → Shared → Prop} (hp : PrAt P w s.heap p b) {ys : List Value} (hy : ∀ y ∈ ys, ∃ p' c, y = Value.ref c ∧ PrAt P w s.heap p' c) (q : Q false s) :
    wpAny (model P w) A (searchCouldBeSeen (.ref b) ys) Q E s := by
  unfold searchCouldBeSeen
  refine wpAny_bind ?_
  refine wpAny_forIn_list _ (fun left st now => st.1 = none ∧ now = s ∧ ∀ y ∈ left, ∃ p' c, y = Value.ref c ∧ PrAt P w s.heap p' c) _ ?_ ?_ _ _ ⟨rfl, rfl, hy⟩
  · rintro v left st now ⟨e2, rfl, each⟩
    obtain ⟨p', c, rfl, hc⟩ := each v List.mem_cons_self
    have more : ∀ y ∈ left, ∃ p' c, y = Value.ref c ∧ PrAt P w now.heap p' c := fun u hu => each u (List.mem_cons_of_mem _ hu)
    dsimp only
    by_cases same : (b == c || (carriedByValue (.ref b) && carriedByValue (.ref c))) = true
    · refine wp_if_pos same ?_
      exact wpAny_pure ⟨rfl, rfl, more⟩
    · refine wp_if_neg same ?_
      refine wpAny_bind (wpAny_eqIsQuiet_tuple hp ?_)
      simp only [Bool.not_true, Bool.false_eq_true, if_false]
      refine wpAny_bind (wpAny_eqIsQuiet_tuple hc ?_)
      simp only [Bool.not_true, Bool.false_eq_true, if_false]
      refine wpAny_bind (noClass hp ?_)
      simp only [Bool.false_eq_true, if_false]
      refine wpAny_bind (noClass hc ?_)
      simp only [Bool.false_eq_true, if_false]
      exact wpAny_pure ⟨rfl, rfl, more⟩
  · rintro ⟨st1, st2⟩ now ⟨e2, rfl, _⟩
    simp only at e2
    subst e2
    exact wpAny_pure q

/-! the set at a: its members l (their places and pairs), its rows, its table -/
def rowsP (P : Program) (w : World) (l : List (Addr × Nm)) : List (Int × Value) := l.map fun q => (hsh P w q.2, Value.ref q.1)
structure PSet (P : Program) (w : World) (h : Heap) (a : Addr) (l : List (Addr × Nm)) (rs : Array (Int × Value)) (ep : Nat) (t : SetTable) : Prop where
  obj : ∃ o, h.get? a = some o ∧ o.ExactSet ∧ o.data = .set rs ep t
  rows : rs.toList = rowsP P w l
  tab : TabOk t (l.map fun q => hsh P w q.2)
  uniq : (l.map Prod.snd).Nodup
  prs : ∀ q ∈ l, PrAt P w h q.2 q.1
  led : w.params.followText "set-order" = true ∨ t.led = true
  room : l.length * 5 < t.mask * 3
  few : l.length < 60
variable {a : Addr} {l : List (Addr × Nm)} {rs : Array (Int × Value)} {ep : Nat} {t : SetTable}
theorem PSet.count (S : PSet P w s.heap a l rs ep t) : rs.size = l.length := by
  have q := congrArg List.length S.rows
  rwa [rowsP, Array.length_toList, List.length_map] at q
theorem PSet.placed (S : PSet P w s.heap a l rs ep t) : t.place.size = l.length := by
  have q := S.tab.sz
  rwa [List.length_map] at q
theorem PSet.fits (S : PSet P w s.heap a l rs ep t) : t.fits rs.size = true := by
  have q1 := S.placed
  have q2 := S.count
  have q3 := S.room
  unfold SetTable.fits SetTable.fill
  rw [S.tab.dm, Bool.and_eq_true, beq_iff_eq, decide_eq_true_eq]
  show t.place.size = rs.size ∧ t.place.size + 0 ≤ t.mask
  omega
theorem PSet.row (S : PSet P w s.heap a l rs ep t) {i : Nat} {q : Addr × Nm} (h : l[i]? = some q) : rs[i]? = some (hsh P w q.2, Value.ref q.1) := by
  rw [← Array.getElem?_toList, S.rows, rowsP, List.getElem?_map, h]
  rfl
theorem PSet.whole (S : PSet P w s.heap a l rs ep t) : ¬ t.gaveWay = true := by
  unfold SetTable.gaveWay
  have odd := mask_odd S.tab.mok
  rw [odd]
  decide
theorem probe_go (t : SetTable) (g : Nat → Int) (h : Int) (p : SetTable.Probe) : t.probe g h p = SetTable.probe.go t g h (10 * SetTable.turns t.mask) p := by
  unfold SetTable.probe
  exact Eq.refl _
/-- one look along the way of the pair p, from its c-th step on; the K-th is the first free one -/
theorem seek (S : PSet P w s.heap a l rs ep t) {x : Addr} {p : Nm} (hx : PrAt P w s.heap p x) (hu : A.units < cLine) {K : Nat} (kf : K < 10 * SetTable.turns t.mask)
    (free : way t.mask (hsh P w p) K ∉ t.place.toList) (taken : ∀ c, c < K → way t.mask (hsh P w p) c ∈ t.place.toList) {Q : SetFound → Shared → Prop}
    (yes : p ∈ l.map Prod.snd → Q (.there none) s) (no : p ∉ l.map Prod.snd → Q (.free (way t.mask (hsh P w p) K) false) s) :
    ∀ (f c : Nat) (from_ : Option SetTable.Probe), from_.getD (t.probeStart (hsh P w p)) = nth t.mask (runAt t.mask (SetTable.bits (hsh P w p) % (t.mask + 1)) (SetTable.bits (hsh P w p))) c → c ≤ K → K - c < f →
      (∀ (i : Nat) q, l[i]? = some q → q.2 = p → ∃ d, c ≤ d ∧ d < K ∧ t.place.toList[i]? = some (way t.mask (hsh P w p) d)) →
      wpAny (model P w) A (setSearchFrom a (.ref x) (hsh P w p) true f from_) Q E s := by
  intro f
  induction f with
  | zero => intro c _ _ _ z _; exact absurd z (Nat.not_lt_zero _)
  | succ f again =>
    intro c from_ hfrom ck cf ahead
    obtain ⟨o, ho, ex, dat⟩ := S.obj
    rw [setSearchFrom_succ]
    refine wpAny_bind (wpAny_setState_of ho dat S.fits ?_)
    dsimp only
    refine wp_if_neg S.whole ?_
    try refine wpAny_bind (wpAny_pure ?_)
    let st := runAt t.mask (SetTable.bits (hsh P w p) % (t.mask + 1)) (SetTable.bits (hsh P w p))
    have plainProbe : ∀ (n : Nat) (g : SetTable.Probe), g.dummy = none → (nth t.mask g n).dummy = none := by
      intro n
      induction n with
      | zero => intro g q; exact q
      | succ n ih =>
        intro g q
        refine ih (adv t.mask g) ?_
        unfold adv
        split <;> exact q
    have far : ∀ n, nth t.mask (nth t.mask st c) n = nth t.mask st (c + n) := fun n => (nth_add t.mask c st n).symm
    have farJ : ∀ n, (nth t.mask (nth t.mask st c) n).j = way t.mask (hsh P w p) (c + n) := fun n => congrArg SetTable.Probe.j (far n)
    have ckK : c + (K - c) = K := by omega
    have told := go_spec t S.tab.ris S.tab.dm (fun i => (rs[i]?.map (·.1)).getD 0) (hsh P w p) (10 * SetTable.turns t.mask) (K - c) (nth t.mask st c) (plainProbe c st rfl) (by omega)
      (fun n hn => by rw [farJ]; exact taken _ (by omega)) (by rw [farJ, ckK]; exact free)
    have hashOf : ∀ (i : Nat) q, l[i]? = some q → (rs[i]?.map (·.1)).getD 0 = hsh P w q.2 := fun i q e => by
      rw [S.row e, Option.map_some, Option.getD_some]
    rw [hfrom, probe_go]
    rcases told with ⟨n, i, nK, at_i, heq, before, res⟩ | ⟨before, res⟩
    · rw [res]
      dsimp only
      rw [farJ] at at_i
      have il : i < l.length := by
        have z := (List.getElem?_eq_some_iff.mp at_i).1
        have z2 := S.placed
        rw [Array.length_toList] at z
        omega
      obtain ⟨q, hq⟩ : ∃ q, l[i]? = some q := ⟨_, List.getElem?_eq_getElem il⟩
      have qm := List.mem_of_getElem? hq
      have hqp := S.prs q qm
      rw [farJ, far]
      have main : wpAny (model P w) A (searchRest a (.ref x) (hsh P w p) true f rs t (way t.mask (hsh P w p) (c + n)) i (nth t.mask st (c + (n + 1)))) Q E s := by
        unfold searchRest
        rw [S.row hq]
        dsimp only
        refine wpAny_bind (wpAny_holding (wpAny_eqBool_tuple hu hqp hx ?_))
        refine wpAny_bind (wpAny_setState_of ho dat S.fits ?_)
        dsimp only
        by_cases eqp : q.2 = p
        · refine wp_if_pos (by simp [eqp]) ?_
          exact wpAny_pure (yes (List.mem_map.mpr ⟨q, qm, eqp⟩))
        · have nek : ¬ kk q.2 = kk p := fun z => eqp (kk_inj z)
          refine wp_if_neg (by simp [nek]) ?_
          try refine wpAny_bind (wpAny_pure ?_)
          rw [sameMem]
          dsimp only
          have live := slot_live S.tab.ris at_i
          simp only [if_true, live, S.row hq]
          refine wpAny_bind (wpAny_isSame_ref_self (wpAny_bind (wpAny_pure ?_)))
          simp only [if_true]
          refine wp_if_neg (by simp [nek]) ?_
          refine again (c + (n + 1)) _ (Option.getD_some ..) (by omega) (by omega) fun i0 q0 h0 e0 => ?_
          obtain ⟨d, d1, d2, d3⟩ := ahead i0 q0 h0 e0
          refine ⟨d, ?_, d2, d3⟩
          have sameHash := (hashOf i0 q0 h0).trans (congrArg (hsh P w) e0)
          by_cases lt : d < c + n
          · refine absurd sameHash (before (d - c) i0 (by omega) ?_)
            rw [farJ, show c + (d - c) = d by omega]
            exact d3
          · by_cases gt : c + n < d
            · omega
            · have ed : d = c + n := by omega
              rw [ed] at d3
              have live2 := slot_live S.tab.ris d3
              rw [live] at live2
              injection live2 with live2
              rw [← live2, hq] at h0
              exact absurd ((congrArg Prod.snd (Option.some.inj h0)).trans e0) eqp
      by_cases ld : t.led = true
      · refine wp_if_neg (by simp [ld]) ?_
        try refine wpAny_bind (wpAny_pure ?_)
        exact main
      · refine wp_if_pos (by simp [ld]) ?_
        refine wpAny_bind (unseen hx (fun y hy => ?_) ?_)
        · obtain ⟨r, hr, er⟩ := List.mem_map.mp hy
          have r2 : r ∈ rs.toList := by
            have z : r ∈ rs ∧ r.1 = hsh P w p := by simpa using hr
            simpa using z.1
          rw [S.rows] at r2
          obtain ⟨q2, m2, e2⟩ := List.mem_map.mp r2
          exact ⟨q2.2, q2.1, by rw [← er, ← e2], S.prs q2 m2⟩
        · refine wp_if_neg (by decide) ?_
          try refine wpAny_bind (wpAny_pure ?_)
          exact main
    · rw [res, farJ, ckK]
      dsimp only
      refine wpAny_pure (no fun z => ?_)
      obtain ⟨q0, m0, e0⟩ := List.mem_map.mp z
      obtain ⟨i0, l0, g0⟩ := List.getElem_of_mem m0
      have h0 : l[i0]? = some q0 := by rw [List.getElem?_eq_getElem l0, g0]
      obtain ⟨d, d1, d2, d3⟩ := ahead i0 q0 h0 e0
      refine before (d - c) i0 (by omega) ?_ ((hashOf i0 q0 h0).trans (congrArg (hsh P w) e0))
      rw [farJ, show c + (d - c) = d by omega]
      exact d3
/-- adding looks along the whole way -/
theorem seekAll (S : PSet P w s.heap a l rs ep t) {x : Addr} {p : Nm} (hx : PrAt P w s.heap p x) (hu : A.units < cLine) {Q : SetFound → Shared → Prop} (yes : p ∈ l.map Prod.snd → Q (.there none) s)
    (no : ∀ K, p ∉ l.map Prod.snd → way t.mask (hsh P w p) K ∉ t.place.toList → (∀ c, c < K → way t.mask (hsh P w p) c ∈ t.place.toList) → Q (.free (way t.mask (hsh P w p) K) false) s) :
    wpAny (model P w) A (setSearch a (.ref x) (hsh P w p) true) Q E s := by
  obtain ⟨K, k1, k2, k3⟩ := S.tab.first (by have := S.room; rw [List.length_map]; omega) (hsh P w p)
  have small : 10 * SetTable.turns t.mask ≤ 99999 := by
    unfold SetTable.turns
    rcases S.tab.mok with z | z | z <;> omega
  unfold setSearch
  refine seek S hx hu k1 k2 k3 yes (fun z => no K z k2 k3) 100000 0 none (Option.getD_none ..) (Nat.zero_le _) (by omega) fun i q hq e => ?_
  have hh : (l.map fun q => hsh P w q.2)[i]? = some (hsh P w p) := by rw [List.getElem?_map, hq, Option.map_some, e]
  have il : i < t.place.toList.length := by
    have z := (List.getElem?_eq_some_iff.mp hq).1
    rw [Array.length_toList, S.placed]
    exact z
  obtain ⟨d, d1, d2⟩ := S.tab.before k2 hh (List.getElem?_eq_getElem il)
  exact ⟨d, Nat.zero_le _, d1, by rw [List.getElem?_eq_getElem il, d2]⟩
/-- a pair is not the set -/
theorem PrAt.past {h h' : Heap} {p : Nm} {b c : Addr} {o : Obj} (hp : PrAt P w h p b) (ho : h.get? c = some o) (dat : o.data = .set rs ep t) (same : Heap.SameBut c h h') : PrAt P w h' p b := by
  obtain ⟨ob, its, cap, g1, g2, g3, g4⟩ := hp
  refine ⟨ob, its, cap, (same.2 b fun z => ?_).trans g1, g2, g3, g4⟩
  rw [z, ho] at g1
  rw [← Option.some.inj g1, dat] at g3
  exact nomatch g3
theorem PrAt.kept {h h' : Heap} {p : Nm} {b : Addr} (hp : PrAt P w h p b) (k : ∀ c o, h.get? c = some o → h'.get? c = some o) : PrAt P w h' p b := by
  obtain ⟨ob, its, cap, g1, g⟩ := hp
  exact ⟨ob, its, cap, k _ _ g1, g⟩
theorem put_rows (l : List (Addr × Nm)) (n : Nat) (x : Addr) (p : Nm) : rowsP P w (l.take n ++ (x, p) :: l.drop n) = (rowsP P w l).take n ++ (hsh P w p, Value.ref x) :: (rowsP P w l).drop n := by
  simp only [rowsP, List.map_append, List.map_cons, List.map_take, List.map_drop]
/-- rows in another order are rows of the pairs in another order -/
theorem turned (l : List (Addr × Nm)) (rs : Array (Int × Value)) (ord : Array Nat) (hr : rs.toList = rowsP P w l) (hp : ord.toList.Perm (List.range l.length)) :
    ∃ m : List (Addr × Nm), (ord.filterMap (rs[·]?)).toList = rowsP P w m ∧ m.Perm l ∧ (m.map fun q => hsh P w q.2) = ord.toList.map fun i => (rs.map (·.1)).getD i 0 := by
  have size : rs.size = l.length := by
    have q := congrArg List.length hr
    rwa [rowsP, Array.length_toList, List.length_map] at q
  have rowAt : ∀ (i : Nat) (h : i < l.length), rs[i]? = some (hsh P w (l[i]).2, Value.ref (l[i]).1) := fun i h => by
    rw [← Array.getElem?_toList, hr, rowsP, List.getElem?_map, List.getElem?_eq_getElem h, Option.map_some]
  have walk : ∀ is : List Nat, (∀ i ∈ is, i < l.length) → is.filterMap (fun i => rs[i]?) = rowsP P w (is.filterMap fun i => l[i]?) ∧
      ((is.filterMap fun i => l[i]?).map fun q => hsh P w q.2) = is.map fun i => (rs.map (·.1)).getD i 0 := by
    intro is
    induction is with
    | nil => exact fun _ => ⟨by simp only [rowsP, List.filterMap_nil, List.map_nil], by simp only [List.filterMap_nil, List.map_nil]⟩
    | cons i is ih =>
      intro small
      have il := small i List.mem_cons_self
      obtain ⟨c1, c2⟩ := ih fun j hj => small j (List.mem_cons_of_mem _ hj)
      have hd : (rs.map (·.1)).getD i 0 = hsh P w (l[i]).2 := by
        have z : (rs.map (·.1))[i]? = some (hsh P w (l[i]).2) := by
          rw [Array.getElem?_map, rowAt i il, Option.map_some]
        rw [Array.getD_eq_getD_getElem?, z, Option.getD_some]
      rw [List.filterMap_cons_some (rowAt i il), List.filterMap_cons_some (List.getElem?_eq_getElem il), c1, List.map_cons, List.map_cons, c2, hd]
      refine ⟨?_, ?_⟩
      · simp only [rowsP, List.map_cons]
      · exact Eq.refl _
  obtain ⟨w1, w2⟩ := walk ord.toList fun i hi => List.mem_range.mp (hp.mem_iff.mp hi)
  refine ⟨ord.toList.filterMap fun i => l[i]?, by first | (rw [Array.toList_filterMap]; exact w1) | simpa using w1, ?_, w2⟩
  have whole : (List.range l.length).filterMap (fun i => l[i]?) = l := by
    have upTo : ∀ n, n ≤ l.length → (List.range n).filterMap (fun i => l[i]?) = l.take n := by
      intro n
      induction n with
      | zero => exact fun _ => rfl
      | succ n ih =>
        intro z
        have nl : n < l.length := z
        rw [List.range_succ, List.filterMap_append, ih (by omega), List.take_succ, List.getElem?_eq_getElem nl, List.filterMap_cons_some (List.getElem?_eq_getElem nl)]
        rfl
    rw [upTo _ (Nat.le_refl _), List.take_length]
  have z := hp.filterMap (fun i => l[i]?)
  rwa [whole] at z
/-- the table made larger: all pairs are laid anew -/
theorem larger {o : Obj} (ho : s.heap.get? a = some o) (ex : o.ExactSet) (dat : o.data = .set rs ep t) (rows : rs.toList = rowsP P w l) (placed : t.place.size = rs.size) (dm : t.dummies = #[]) (fill : rs.size ≤ t.mask)
    (uniq : (l.map Prod.snd).Nodup) (prs : ∀ q ∈ l, PrAt P w s.heap q.2 q.1) (led : w.params.followText "set-order" = true ∨ t.led = true) (few : l.length < 60) {want M : Nat}
    (wM : SetTable.sizeAbove want - 1 = M) (mok : MaskOk M) (w128 : SetTable.sizeAbove want ≤ 128) (room : l.length * 5 < M * 3) {Q : Unit → Shared → Prop}
    (done : ∀ h' l' rs' ep' t', Heap.SameBut a s.heap h' → PSet P w h' a l' rs' ep' t' → l'.Perm l → Q () { s with heap := h' }) : wpAny (model P w) A (setRelay a want) Q E s := by
  have size : rs.size = l.length := by
    have q := congrArg List.length rows
    rwa [rowsP, Array.length_toList, List.length_map] at q
  have fits : t.fits rs.size = true := by
    unfold SetTable.fits SetTable.fill
    rw [dm, Bool.and_eq_true, beq_iff_eq, decide_eq_true_eq]
    show t.place.size = rs.size ∧ t.place.size + 0 ≤ t.mask
    omega
  obtain ⟨t2, ord, laid, pm, tab, m2, led2, _, _⟩ := relaid_ok t (hs := rs.map (·.1)) (wanted := want) wM mok (by rw [Array.size_map, size]; omega)
  rw [Array.size_map, size] at pm
  obtain ⟨m, rows2, pml, hashes⟩ := turned l rs ord rows pm
  rw [← hashes] at tab
  have size2 : (ord.filterMap (rs[·]?)).size = rs.size := by
    have q := congrArg List.length rows2
    rw [rowsP, Array.length_toList, List.length_map, pml.length_eq] at q
    rw [q, size]
  rw [setRelay_eq]
  refine wpAny_bind (wpAny_setState_of ho dat fits ?_)
  dsimp only
  refine wp_if_neg (by rw [sizeLine_eq]; omega) ?_
  try refine wpAny_bind (wpAny_pure ?_)
  rw [laid]
  dsimp only
  refine wpAny_bind ?_
  refine wp_if_neg (by rw [size2]; simp) ?_
  try refine wpAny_bind (wpAny_pure ?_)
  refine wpAny_pure ?_
  dsimp only
  refine wpAny_storeSet_of ho dat ?_ (by rw [size2, size, sizeLine_eq]; omega)
  have same : Heap.SameBut a s.heap (s.heap.update a (Obj.putSet (ord.filterMap (rs[·]?)) t2)) := Heap.SameBut.update ..
  refine done _ m (ord.filterMap (rs[·]?)) (ep + 1) t2 same ?_ pml
  refine ⟨⟨_, store_at ho dat, ⟨ex.1, ex.2.1, ex.2.2⟩, rfl⟩, rows2, tab, (pml.map Prod.snd).nodup_iff.mpr uniq, fun q hq => (prs q (pml.mem_iff.mp hq)).past ho dat same, by rw [led2]; exact led, ?_, by rw [pml.length_eq]; exact few⟩
  rw [pml.length_eq, m2]
  exact room
/-- ADDING one more pair -/
theorem putIn (S : PSet P w s.heap a l rs ep t) {x : Addr} {p : Nm} (hx : PrAt P w s.heap p x) (hu : A.units < cLine) (few1 : l.length + 1 < 60) {Q : Bool → Shared → Prop}
    (done : ∀ b h' l' rs' ep' t', Heap.SameBut a s.heap h' → PSet P w h' a l' rs' ep' t' → (p ∈ l.map Prod.snd → l' = l) → (p ∉ l.map Prod.snd → l'.Perm ((x, p) :: l)) → Q b { s with heap := h' }) :
    wpAny (model P w) A (setAddHashed a (.ref x) (hsh P w p)) Q E s := by
  obtain ⟨o, ho, ex, dat⟩ := S.obj
  unfold setAddHashed
  refine wpAny_holding ?_
  rw [show (100000 : Nat) = 99999 + 1 from rfl, setAddHashedIn_succ]
  refine wpAny_bind (wpAny_setState_of ho dat S.fits ?_)
  dsimp only
  refine wp_if_neg (by simp [byScan, Value.scannable]) ?_
  try refine wpAny_bind (wpAny_pure ?_)
  refine wpAny_bind (seekAll S hx hu (fun m => ?_) fun K m k2 k3 => ?_)
  · dsimp only
    exact wpAny_pure (done false s.heap l rs ep t (Heap.SameBut.refl a s.heap) S (fun _ => rfl) fun z => absurd m z)
  · dsimp only
    refine wpAny_bind (wpAny_setState_of ho dat S.fits ?_)
    dsimp only
    obtain ⟨q1, q2, q3, q4, q5, q6, q7, q8, q9⟩ := S.tab.put k2 k3
    generalize hpt : t.put (way t.mask (hsh P w p) K) = pt at q1 q3 q4 q5 q6 q7 q8 q9 ⊢
    obtain ⟨t1, n⟩ := pt
    dsimp only at q1 q3 q4 q5 q6 q7 q8 q9 ⊢
    subst q1
    generalize hn : SetTable.below t.place (way t.mask (hsh P w p) K) = n at q2 q3 ⊢
    have prm : (l.take n ++ (x, p) :: l.drop n).Perm ((x, p) :: l) := by
      have z : (l.take n ++ (x, p) :: l.drop n).Perm ((x, p) :: (l.take n ++ l.drop n)) := List.perm_middle
      rwa [List.take_append_drop] at z
    have rowsNew : (SetTable.insertAt rs n (hsh P w p, Value.ref x)).toList = rowsP P w (l.take n ++ (x, p) :: l.drop n) := by
      rw [SetTable.toList_insertAt, S.rows, put_rows]
    have hashesNew : (l.take n ++ (x, p) :: l.drop n).map (fun q => hsh P w q.2) = (l.map fun q => hsh P w q.2).take n ++ hsh P w p :: (l.map fun q => hsh P w q.2).drop n := by
      simp only [List.map_append, List.map_cons, List.map_take, List.map_drop]
    rw [← hashesNew] at q3
    generalize SetTable.insertAt rs n (hsh P w p, Value.ref x) = rs1 at rowsNew ⊢
    generalize l.take n ++ (x, p) :: l.drop n = l1 at prm q3 rowsNew
    have len1 : l1.length = l.length + 1 := prm.length_eq
    have size1 : rs1.size = l.length + 1 := by
      have z := congrArg List.length rowsNew
      rwa [rowsP, Array.length_toList, List.length_map, len1] at z
    have uniq1 : (l1.map Prod.snd).Nodup := by
      refine (prm.map Prod.snd).nodup_iff.mpr ?_
      rw [List.map_cons]
      exact List.nodup_cons.mpr ⟨m, S.uniq⟩
    -- the table, once it is known that a name is no number
    have rest : ∀ t2 : SetTable, t2 = t1 ∨ t2 = { t1 with plain := false } →
        wpAny (model P w) A (do
          storeSet a rs1 t2
          if !false && t2.tooFull then setRelay a (SetTable.grown (rs.size + 1))
          return true : Sem Bool) Q E s := fun t2 e2 => by
      have pl2 : t2.place = t1.place := by
        rcases e2 with e | e <;> rw [e]
      have dm2 : t2.dummies = t1.dummies := by
        rcases e2 with e | e <;> rw [e]
      have ld2 : t2.led = t1.led := by
        rcases e2 with e | e <;> rw [e]
      have mk2 : t2.mask = t1.mask := by
        rcases e2 with e | e <;> rw [e]
      have tab2 : TabOk t2 (l1.map fun q => hsh P w q.2) := by
        obtain ⟨c1, c2, c3, c4, c5, c6⟩ := q3
        refine ⟨by rw [pl2]; exact c1, by rw [dm2]; exact c2, by rw [pl2]; exact c3, by rw [mk2]; exact c4, by rw [pl2, mk2]; exact c5, ?_⟩
        rw [pl2, mk2]
        exact c6
      refine wpAny_bind (wpAny_storeSet_of ho dat ?_ (by rw [size1, sizeLine_eq]; omega))
      have same : Heap.SameBut a s.heap (s.heap.update a (Obj.putSet rs1 t2)) := Heap.SameBut.update ..
      have ho1 := store_at (es' := rs1) (t' := t2) ho dat
      generalize s.heap.update a (Obj.putSet rs1 t2) = h1 at same ho1 ⊢
      have fillN : t2.fill = l.length + 1 := by
        unfold SetTable.fill
        rw [dm2, pl2, q3.dm, q3.sz, List.length_map, len1]
        rfl
      have prs1 : ∀ q ∈ l1, PrAt P w h1 q.2 q.1 := fun q hq => by
        rcases List.mem_cons.mp (prm.mem_iff.mp hq) with e | hq
        · rw [e]
          exact hx.past ho dat same
        · exact (S.prs q hq).past ho dat same
      have led3 : w.params.followText "set-order" = true ∨ t2.led = true := by rw [ld2, q5]; exact S.led
      have few2 : l1.length < 60 := by rw [len1]; exact few1
      have m3 : t2.mask = t.mask := by rw [mk2, q4]
      have size0 := S.count
      have room0 := S.room
      by_cases hf : t2.tooFull = true
      · have full : (l.length + 1) * 5 ≥ t.mask * 3 := by
          have z := hf
          unfold SetTable.tooFull at z
          rw [decide_eq_true_eq, fillN, m3] at z
          exact z
        have placed1 : t2.place.size = rs1.size := by
          rw [pl2, q3.sz, List.length_map, len1, size1]
        have which : (t.mask = 7 ∧ l.length = 4) ∨ (t.mask = 31 ∧ l.length = 18) := by
          rcases S.tab.mok with e | e | e
          · rw [e] at full room0
            exact .inl ⟨e, by omega⟩
          · rw [e] at full room0
            exact .inr ⟨e, by omega⟩
          · rw [e] at full
            omega
        have go : ∀ M, SetTable.sizeAbove (SetTable.grown (l.length + 1)) - 1 = M → MaskOk M → SetTable.sizeAbove (SetTable.grown (l.length + 1)) ≤ 128 → (l.length + 1) * 5 < M * 3 →
            wpAny (model P w) A (setRelay a (SetTable.grown (l.length + 1))) (fun _ now => wpAny (model P w) A (pure true) Q E now) E { s with heap := h1 } := fun M g1 g2 g3 g4 => by
          refine larger (s := { s with heap := h1 }) ho1 ⟨ex.1, ex.2.1, ex.2.2⟩ rfl rowsNew placed1 tab2.dm (by rw [size1, m3]; rcases which with ⟨e, e3⟩ | ⟨e, e3⟩ <;> omega) uniq1 prs1 led3 few2 g1 g2 g3 (by rw [len1]; exact g4) ?_
          intro h2 l2 rs2 ep2 t3 same2 S2 pm2
          exact wpAny_pure (done true h2 l2 rs2 ep2 t3 (same.trans same2) S2 (fun z => absurd z m) fun _ => pm2.trans prm)
        first
          | (refine wpAny_bind ?_; refine wp_if_pos (by simp [hf]) ?_)
          | (refine wp_if_pos (by simp [hf]) ?_; refine wpAny_bind ?_)
        rw [size0]
        rcases which with ⟨_, e3⟩ | ⟨_, e3⟩
        · exact go 31 (by rw [e3, size_20]) (.inr (.inl rfl)) (by rw [e3, size_20]; decide) (by omega)
        · exact go 127 (by rw [e3, size_76]) (.inr (.inr rfl)) (by rw [e3, size_76]; decide) (by omega)
      · have fin : Q true { s with heap := h1 } := done true h1 l1 rs1 (ep + 1) t2 same
          ⟨⟨_, ho1, ⟨ex.1, ex.2.1, ex.2.2⟩, rfl⟩, rowsNew, tab2, uniq1, prs1, led3, by
            have z := hf
            unfold SetTable.tooFull at z
            rw [decide_eq_true_eq, fillN] at z
            rw [len1]
            omega, few2⟩ (fun z => absurd z m) fun _ => prm
        first
          | (refine wp_if_neg (by simp [hf]) ?_; exact wpAny_pure fin)
          | (refine wpAny_bind ?_; refine wp_if_neg (by simp [hf]) ?_; refine wpAny_pure ?_; exact wpAny_pure fin)
    by_cases pl : t1.plain = true
    · first
        | (refine wpAny_bind ?_; refine wp_if_pos pl ?_; refine byVal hx ?_)
        | refine wp_if_pos pl (wpAny_bind (byVal hx ?_))
      simp only [Bool.false_eq_true, if_false]
      exact rest _ (.inr rfl)
    · first
        | (refine wpAny_bind ?_; refine wp_if_neg pl ?_; refine wpAny_pure ?_)
        | refine wp_if_neg pl ?_
      try simp only [if_true]
      exact rest _ (.inl rfl)

/-- the set l has the pairs of the first i items of ks, and no other -/
structure Took (ks : List (Addr × Nm)) (i : Nat) (l : List (Addr × Nm)) : Prop where
  from_ : ∀ q ∈ l, q ∈ ks.take i
  all : ∀ q ∈ ks.take i, q.2 ∈ l.map Prod.snd
  few : l.length ≤ i
theorem take_one {α : Type} {l : List α} {i : Nat} {x : α} (h : l[i]? = some x) : l.take (i + 1) = l.take i ++ [x] := by
  rw [List.take_succ, h]
  rfl
theorem Took.step {ks l l' : List (Addr × Nm)} {i : Nat} {x : Addr × Nm} (g : Took ks i l) (h : ks[i]? = some x) (c1 : x.2 ∈ l.map Prod.snd → l' = l) (c2 : x.2 ∉ l.map Prod.snd → l'.Perm (x :: l)) : Took ks (i + 1) l' := by
  by_cases m : x.2 ∈ l.map Prod.snd
  · rw [c1 m]
    refine ⟨fun q hq => ?_, fun q hq => ?_, Nat.le_succ_of_le g.few⟩
    · rw [take_one h]
      exact List.mem_append_left _ (g.from_ q hq)
    · rw [take_one h] at hq
      rcases List.mem_append.mp hq with z | z
      · exact g.all q z
      · rw [List.mem_singleton.mp z]
        exact m
  · have pm := c2 m
    refine ⟨fun q hq => ?_, fun q hq => ?_, ?_⟩
    · rw [take_one h]
      rcases List.mem_cons.mp (pm.mem_iff.mp hq) with z | z
      · rw [z]
        exact List.mem_append_right _ (List.mem_singleton.mpr rfl)
      · exact List.mem_append_left _ (g.from_ q z)
    · refine (pm.map Prod.snd).mem_iff.mpr ?_
      rw [List.map_cons]
      rw [take_one h] at hq
      rcases List.mem_append.mp hq with z | z
      · exact List.mem_cons_of_mem _ (g.all q z)
      · rw [List.mem_singleton.mp z]
        exact List.mem_cons_self
    · have := pm.length_eq
      have := g.few
      simp only [List.length_cons] at *
      omega
theorem PSet.onto {h h' : Heap} (S : PSet P w h a l rs ep t) (ha : ∀ o, h.get? a = some o → h'.get? a = some o) (hp : ∀ q ∈ l, PrAt P w h' q.2 q.1) : PSet P w h' a l rs ep t := by
  obtain ⟨o, ho, r⟩ := S.obj
  exact ⟨⟨o, ha o ho, r⟩, S.rows, S.tab, S.uniq, hp, S.led, S.room, S.few⟩
theorem PSet.empty {h : Heap} (ho : h.get? a = some { cls := .type "set", dict := none, data := .set #[] 0 (.fresh 0 0 (!w.params.followText "set-order")) }) : PSet P w h a [] #[] 0 (.fresh 0 0 (!w.params.followText "set-order")) where
  obj := ⟨_, ho, ⟨rfl, rfl, rfl⟩, rfl⟩
  rows := rfl
  tab := ⟨.nil, rfl, rfl, .inl rfl, fun _ z => (by cases z), fun i _ _ z => (by simp at z)⟩
  uniq := List.nodup_nil
  prs := fun _ z => nomatch z
  led := by
    show _ ∨ (!w.params.followText "set-order") = true
    cases w.params.followText "set-order" with
    | true => exact .inl rfl
    | false => exact .inr rfl
  room := by
    show 0 * 5 < 7 * 3
    decide
  few := by
    show 0 < 60
    decide
/-- the loop that fills the set at S from the walk I -/
theorem fillLoop {I : Addr} {fp wr : List Addr} {G : Array GenState → Array GenState → Prop} {n : Nat} {Pv : Nat → Value → Prop} {St : Nat → Shared → Prop} {R : Result → Shared → Prop}
    (W : WalksS P w A.in1 I fp wr G n Pv St) (S : Addr) (sfp : S ∉ fp) (ks : List (Addr × Nm)) (nks : n = ks.length) (n4 : ks.length < 60) (val : ∀ i v, Pv i v → ∃ q, ks[i]? = some q ∧ v = .ref q.1)
    (g : Heap) (prs : ∀ q ∈ ks, PrAt P w g q.2 q.1) (noS : g.get? S = none) (noW : ∀ b ∈ wr, g.get? b = none) (hu : A.in1.units < cLine)
    (out : ∀ s' l rs ep t, Moved (S :: wr) G s s' → True → PSet P w s'.heap S l rs ep t → Took ks n l → (∀ b o, g.get? b = some o → s'.heap.get? b = some o) → R (.ok (.ret .none)) s') :
    ∀ (m i : Nat) (now : Shared), n - i = m → i ≤ n → St i now → Moved (S :: wr) G s now → (∀ b o, g.get? b = some o → now.heap.get? b = some o) → (∃ l rs ep t, PSet P w now.heap S l rs ep t ∧ Took ks i l) →
      codeAny (model P w) A (.builtin "set.update.loop" ⟨[.ref S, .ref I], []⟩) R now := by
  have swr : S ∉ wr := fun z => sfp (W.sub _ z)
  have wider : ∀ b ∈ wr, b ∈ S :: wr := fun b hb => List.mem_cons_of_mem _ hb
  have past : ∀ {u u' : Shared}, Moved wr G u u' → (∀ b o, g.get? b = some o → u.heap.get? b = some o) → ∀ b o, g.get? b = some o → u'.heap.get? b = some o := fun mv k b o e =>
    mv.heap b o (fun hb => by rw [noW b hb] at e; cases e) (k b o e)
  intro m
  induction m with
  | zero =>
    intro i now hm hi hst mv k ⟨l, rs, ep, t, hS, tk⟩
    obtain rfl : i = n := by omega
    refine codeAny_builtin F.entry_set_update_loop ?_
    rw [Around.under_plainId F.plain_set_update_loop _]
    show wpAny _ A.in1 (pyNext (.ref I) >>= _) _ _ now
    refine wpAny_bind (W.done now _ _ hst fun now' mv' => ?_)
    show wpAny _ A.in1 (ret Value.none) _ _ now'
    have k' := past mv' k
    refine wpAny_pure (out now' l rs ep t (Moved.trans W.gtrans mv (mv'.mono wider)) trivial (hS.onto (fun o e => mv'.heap S o swr e) fun q hq => ?_) tk k')
    exact (prs q (List.mem_of_mem_take (tk.from_ q hq))).kept k'
  | succ m more =>
    intro i now hm hi hst mv k ⟨l, rs, ep, t, hS, tk⟩
    refine codeAny_builtin F.entry_set_update_loop ?_
    rw [Around.under_plainId F.plain_set_update_loop _]
    show wpAny _ A.in1 (pyNext (.ref I) >>= _) _ _ now
    refine wpAny_bind (W.item i now _ _ (by omega) hst fun v now' hv hst' mv' => ?_)
    obtain ⟨q, hq, rfl⟩ := val i v hv
    have k' := past mv' k
    have hS' : PSet P w now'.heap S l rs ep t := hS.onto (fun o e => mv'.heap S o swr e) fun r hr => (prs r (List.mem_of_mem_take (tk.from_ r hr))).kept k'
    have hx : PrAt P w now'.heap q.2 q.1 := (prs q (List.mem_of_getElem? hq)).kept k'
    have i3 : i < ks.length := (List.getElem?_eq_some_iff.mp hq).1
    show wpAny _ A.in1 (holding [Value.ref q.1] (setAdd S (.ref q.1)) >>= _) _ _ now'
    refine wpAny_bind (wpAny_holding ?_)
    unfold setAdd
    refine wpAny_holding ?_
    refine wpAny_bind (wpAny_pyHash_tuple hu hx ?_)
    refine putIn (s := { now' with toks := now'.toks + ((kk q.2).length + 1) }) hS' hx hu (by have := tk.few; omega) fun b h' l' rs' ep' t' same hS2 c1 c2 => ?_
    have k2 : ∀ b o, g.get? b = some o → h'.get? b = some o := fun b o e => (same.2 b fun z => by rw [z, noS] at e; cases e).trans (k' b o e)
    refine wpAny_pure ⟨plainId_quiet F.plain_set_update_loop _, more (i + 1) _ (by omega) (by omega) (W.frame _ now' _ _ hst' (Nat.le_add_right _ _) fun b hb o e => ?_) ?_ k2 ⟨l', rs', ep', t', hS2, tk.step hq c1 c2⟩⟩
    · rw [same.2 b fun z => sfp (by rw [← z]; exact hb)]
      exact e
    · refine Moved.trans W.gtrans mv ((mv'.mono wider).then_heap (Nat.le_add_right _ _) fun b o hb e => ?_)
      rw [same.2 b fun z => hb (by rw [z]; exact List.mem_cons_self)]
      exact e

/-- set(xs) of a list, whatever fills it: Good is what the filled set has -/
theorem setFrom {b : Addr} {items : Array Value} (Good : Heap → Prop) {Q : Value → Shared → Prop} (quiet : A.handled = none) (hl : s.heap.IsList b items)
    (fill : ∀ (I : Addr) (A1 : Around) (now : Shared) (R : Result → Shared → Prop), A1.in1.handled = none → A1.in1.units ≤ A.units + 3 → b ≠ I → s.heap.objs.size ∉ [I, b] → s.heap.get? s.heap.objs.size = none → s.heap.get? I = none →
      now.heap.IsListIter I b 0 → now.heap.IsList b items → now.heap.get? s.heap.objs.size = some { cls := .type "set", dict := none, data := .set #[] 0 (.fresh 0 0 (!w.params.followText "set-order")) } →
      Moved (s.heap.objs.size :: [I]) (fun a b => b = a) s now → (∀ c o, s.heap.get? c = some o → now.heap.get? c = some o) →
      (∀ s', Moved (s.heap.objs.size :: [I]) (fun a b => b = a) s s' → Good s'.heap → (∀ c o, s.heap.get? c = some o → s'.heap.get? c = some o) → R (.ok (.ret .none)) s') →
      codeAny (model P w) A1 (.builtin "set.update.loop" ⟨[.ref s.heap.objs.size, .ref I], []⟩) R now)
    (fin : ∀ (h' : Heap) (tk : Nat), Good h' → (∀ c o, s.heap.get? c = some o → h'.get? c = some o) → Q (.ref s.heap.objs.size) { s with heap := h', toks := tk }) :
    wpAny (model P w) A (call (.type "set") [.ref b]) Q E s := by
  obtain ⟨c, tl, hmro⟩ := F.called_set.mro
  have hmade := F.called_set.made
  have hsub := F.called_set.sub
  have h1 := F.called_set.notType
  have h2 := F.called_set.canCreate
  have hct := F.typeCall_set_1 (.ref b)
  refine wpAny_call (codeAny_of_tree ?_)
  show wpAny _ _ (callAny (.type "set") _) _ _ _
  refine wpAny_pure ⟨Code.quiet_builtin _ (by decide +kernel), codeAny_builtin F.entry_type_call ?_⟩
  rw [Around.under_plain (weight_type_call_type "set" [.ref b] []) rfl]
  repeat (any_goals (first | assumption | wp_step))
  let fresh : Obj := { cls := .type "set", dict := none, data := .set #[] 0 (.fresh 0 0 (!w.params.followText "set-order")) }
  refine codeAny_mono (code_set_led1 (.ref b) (E := E) (Q₁ := fun ob now => ob = .ref s.heap.objs.size ∧ now = { s with heap := s.heap.push fresh }) ⟨rfl, rfl⟩) fun r now hr => ?_
  match r, hr with
  | .error e, hr => exact hr
  | .ok (.next), hr => exact hr.elim
  | .ok (.brk), hr => exact hr.elim
  | .ok (.cont), hr => exact hr.elim
  | .ok (.ret ob), hr =>
    obtain ⟨rfl, rfl⟩ := hr
    have atS : (s.heap.push fresh).get? s.heap.objs.size = some fresh := Heap.get?_push_size _ rfl
    have ty : Shared.TypeIs { s with heap := s.heap.push fresh } (.ref s.heap.objs.size) "set" := ⟨_, atS, rfl⟩
    have hli := F.called_set.init.lookup
    have hbi := F.called_set.init.bind (.ref s.heap.objs.size)
    repeat (any_goals (first | assumption | wp_step))
    refine codeAny_mono (codeAny_call_builtin (R := wants (fun r now => r = .none ∧ ∃ h' tk, now = { s with heap := h', toks := tk } ∧ Good h' ∧
      (∀ c o, s.heap.get? c = some o → h'.get? c = some o)) E) F.called_set.init.plain F.entry_set_init (check_set_init_1 ty ?_)) fun r2 now2 hr2 => ?_
    · obtain ⟨ob, obAt, obCls, cap, obDat⟩ := hl
      obtain ⟨c0, d0, dat0, sl0⟩ := ob
      simp only at obCls obDat
      subst obCls
      subst obDat
      have obAt2 : (s.heap.push fresh).get? b = some { cls := .type "list", dict := d0, data := .seq items cap, slots := sl0 } := Heap.get?_push_of_some _ obAt
      have f1 := F.sub_list_set
      have f2 := F.sub_list_frozenset
      have f3 : (Value.type "list" == Value.type "dict") = false := by decide
      have lst : (s.heap.push fresh).IsList b items := ⟨_, obAt2, rfl, cap, rfl⟩
      unfold Builtin.«set.__init__» noKeywords Builtin.Frozenset.updateFrom
      generalize hPI : pyIter = PI
      wp_walk
      subst hPI
      refine wpAny_pyIter_list lst ?_
      refine wpAny_bind (wpAny_runValue ?_)
      have low : b < s.heap.objs.size := Heap.lt_size obAt
      have q3 : A.in1.in1.in1.handled = none := by simp [quiet]
      have sz : (s.heap.push fresh).objs.size = s.heap.objs.size + 1 := Heap.size_push ..
      have bI : b ≠ (s.heap.push fresh).objs.size := by
        rw [sz]
        exact Nat.ne_of_lt (Nat.lt_succ_of_lt low)
      have sI : s.heap.objs.size ∉ [(s.heap.push fresh).objs.size, b] := by
        rw [sz]
        intro z
        rcases List.mem_cons.mp z with e | z
        · exact Nat.ne_of_lt (Nat.lt_succ_self _) e
        · exact Nat.ne_of_gt low (List.mem_singleton.mp z)
      have nothing : ∀ d, s.heap.objs.size ≤ d → s.heap.get? d = none := fun d hd => by
        cases e : s.heap.get? d with
        | none => rfl
        | some o => exact absurd (Heap.lt_size e) (Nat.not_lt.mpr hd)
      refine fill _ _ _ _ q3 (by first | omega | (simp only [Around.units, Around.in1]; omega) | simp) bI sI (nothing _ (Nat.le_refl _)) (nothing _ (by rw [sz]; exact Nat.le_succ _)) ⟨_, Heap.get?_push_size _ rfl, rfl, rfl⟩ (lst.push _) (Heap.get?_push_of_some _ atS) ?m0 (fun c o e => Heap.get?_push_of_some _ (Heap.get?_push_of_some _ e)) ?ends
      case m0 => exact ⟨fun _ _ _ e => Heap.get?_push_of_some _ (Heap.get?_push_of_some _ e), rfl, rfl, rfl, by first | exact Nat.le_refl _ | exact Nat.le_add_right _ _⟩
      case ends =>
        intro now' mv hS k
        obtain ⟨h', g', d', tk', os'⟩ := now'
        obtain rfl : g' = s.gens := mv.gens
        obtain rfl : d' = s.drawn := mv.drawn
        obtain rfl : os' = s.os := mv.os
        show wpAny _ _ _ _ _ _
        refine wpAny_pure ?_
        show wpAny _ _ (ret Value.none) _ _ _
        exact wpAny_pure ⟨rfl, h', tk', rfl, hS, k⟩
    · match r2, hr2 with
      | .error e, hr2 => exact hr2
      | .ok (.next), hr2 => exact hr2.elim
      | .ok (.brk), hr2 => exact hr2.elim
      | .ok (.cont), hr2 => exact hr2.elim
      | .ok (.ret u), hr2 =>
        obtain ⟨rfl, h', tk, rfl, hS, k⟩ := hr2
        repeat (any_goals (first | assumption | wp_step))
        exact fin _ _ hS k
/-- set(xs), xs a list of such pairs, below sixty -/
theorem setOf {b : Addr} {items : Array Value} (ks : List (Addr × Nm)) {Q : Value → Shared → Prop} (quiet : A.handled = none) (hl : s.heap.IsList b items) (its : items.toList = ks.map fun q => Value.ref q.1)
    (prs : ∀ q ∈ ks, PrAt P w s.heap q.2 q.1) (n4 : ks.length < 60) (hu : A.units + 3 < cLine)
    (fin : ∀ (h' : Heap) (tk : Nat) l rs ep t, PSet P w h' s.heap.objs.size l rs ep t → Took ks ks.length l → (∀ c o, s.heap.get? c = some o → h'.get? c = some o) → Q (.ref s.heap.objs.size) { s with heap := h', toks := tk }) :
    wpAny (model P w) A (call (.type "set") [.ref b]) Q E s := by
  have many : items.size = ks.length := by
    have q := congrArg List.length its
    rwa [Array.length_toList, List.length_map] at q
  have val : ∀ (i : Nat) (v : Value), items[i]? = some v → ∃ q, ks[i]? = some q ∧ v = .ref q.1 := fun i v e => by
    rw [← Array.getElem?_toList, its, List.getElem?_map] at e
    obtain ⟨q, hq, e2⟩ := Option.map_eq_some_iff.mp e
    exact ⟨q, hq, e2.symm⟩
  refine setFrom (fun h' => ∃ l rs ep t, PSet P w h' s.heap.objs.size l rs ep t ∧ Took ks ks.length l) quiet hl (fun I A1 now R q3 qu bI sI noS noI it lst atS mv kp out => ?_) (fun h' tk ⟨l, rs, ep, t, hS, took⟩ k => fin h' tk l rs ep t hS took k)
  refine fillLoop (s := s) ((Walks.list q3 I b bI items).toS) s.heap.objs.size sI ks many n4 val s.heap prs noS (fun d hd => by rw [List.mem_singleton.mp hd]; exact noI) (by omega) (fun s' l rs ep t m _ hS took k => ?_) items.size 0 now (by omega) (Nat.zero_le _) ⟨it, lst⟩ mv kp ⟨[], #[], 0, _, PSet.empty atS, ⟨fun _ z => (by cases z), fun _ z => (by simp at z), Nat.le_refl _⟩⟩
  rw [many] at took
  exact out s' m ⟨l, rs, ep, t, hS, took⟩ k
/-- set(xs), xs a list of numbers -/
theorem setOfInts {b : Addr} {items : Array Value} (ns : List Int) {Q : Value → Shared → Prop} (quiet : A.handled = none) (hl : s.heap.IsList b items) (hi : IntsAre items.toList ns) (hb : ns.length + 1 < scanBound)
    (fin : ∀ (h' : Heap) (tk c : Nat), SetR w h' s.heap.objs.size (fun j => decide (j ∈ ns)) c → c ≤ ns.length → (∀ c o, s.heap.get? c = some o → h'.get? c = some o) → Q (.ref s.heap.objs.size) { s with heap := h', toks := tk }) :
    wpAny (model P w) A (call (.type "set") [.ref b]) Q E s := by
  have many : items.size = ns.length := by
    rw [← Array.length_toList]
    exact hi.length
  refine setFrom (fun h' => ∃ c, SetR w h' s.heap.objs.size (fun j => decide (j ∈ ns)) c ∧ c ≤ ns.length) quiet hl (fun I A1 now R q3 qu bI sI noS noI it lst atS mv kp out => ?_) (fun h' tk ⟨c, hS, hc⟩ k => fin h' tk c hS hc k)
  refine set_update_ints ((Walks.list q3 I b bI items).toS) s.heap.objs.size sI ns many hb (fun i v e => ?_) items.size 0 now (by omega) (Nat.zero_le _) ⟨it, lst⟩ ⟨0, Nat.le_refl _, setR_new_at atS⟩ fun s' c m hc hS => ?_
  · rw [← Array.getElem?_toList] at e
    obtain ⟨n, t, e1, e2⟩ := PyProof.Rows.IntsAre.at hi i v e
    exact ⟨n, t, e2, e1⟩
  · have m2 := Moved.trans (fun _ _ _ p q => q.trans p) mv m
    refine out s' m2 ⟨c, hS, by omega⟩ fun d o e => m2.heap d o (fun z => ?_) e
    rcases List.mem_cons.mp z with z | z
    · rw [z, noS] at e
      exact nomatch e
    · rw [List.mem_singleton.mp z, noI] at e
      exact nomatch e
end
end Lb

set_option Elab.async false
set_option linter.all false
set_option maxRecDepth 100000
set_option maxHeartbeats 4000000
namespace Lb
open PySem PySem.Spec PyProof.Rows L2
/-- the order of pairs -/
def nmLt (p q : Nm) : Bool := decide (p.1 < q.1 ∨ (p.1 = q.1 ∧ p.2.cps.toList < q.2.cps.toList))
def nmD (p : Nm) : PyData := .tuple [.int p.1, .str p.2]
theorem nm_alike (p q : Nm) : PySem.W.alike (nmD p) (nmD q) = true := by simp [nmD, PySem.W.alike, PySem.W.alikeAll]
theorem nmD_lt (p q : Nm) : PySem.W.dataLt (nmD p) (nmD q) = nmLt p q := by
  unfold nmD nmLt
  rw [PySem.W.dataLt_pair (by simp [PySem.W.alike]) (by simp [PySem.W.alike]), PySem.W.dataLt_int, PySem.W.dataLt_str]
  simp only [PyData.eqv]
  by_cases h1 : p.1 = q.1
  · simp only [h1, beq_self_eq_true, if_true, Int.lt_irrefl, false_or, true_and]
    by_cases h2 : p.2 = q.2
    · rw [h2]
      simp [List.lt_irrefl]
    · simp [h2]
  · simp [h1]
theorem nmLt_total {p q : Nm} (h1 : nmLt q p = false) (ne : p ≠ q) : nmLt p q = true := by
  unfold nmLt at *
  simp only [decide_eq_false_iff_not, decide_eq_true_eq] at *
  rcases Int.lt_trichotomy p.1 q.1 with c | c | c
  · exact .inl c
  · refine .inr ⟨c, ?_⟩
    rcases Classical.em (p.2.cps.toList < q.2.cps.toList) with d | d
    · exact d
    · have d2 : ¬ q.2.cps.toList < p.2.cps.toList := fun z => h1 (.inr ⟨c.symm, z⟩)
      have e : p.2.cps.toList = q.2.cps.toList := List.le_antisymm (List.not_lt.mp d2) (List.not_lt.mp d)
      exact absurd (Prod.ext c (PySem.W.str_of_cps e)) ne
  · exact absurd (.inl c) h1
section
variable {P : Program} {w : World} {A : Around} {E : Value → Shared → Prop} {s : Shared} {a : Addr} {l : List (Addr × Nm)} {rs : Array (Int × Value)} {ep : Nat} {t : SetTable}
theorem PrAt.reads {h : Heap} {p : Nm} {b : Addr} (x : PrAt P w h p b) : Reads h (.ref b) (nmD p) [] := by
  obtain ⟨o, its, cap, h1, h2, h3, h4⟩ := x
  obtain ⟨t, u, e⟩ := two_items h4
  have r : ReadsAll h its.toList [.int p.1, .str p.2] ([] ++ ([] ++ [])) := by
    rw [e]
    exact .cons (.int ..) (.cons (.str ..) .nil)
  exact .tuple h1 h2 h3 r
theorem PrAt.one {h : Heap} {p q : Nm} {b : Addr} (x : PrAt P w h p b) (y : PrAt P w h q b) : p = q := kk_inj (IsTupleKey.inj x y)
/-- sorted(s), s such a set -/
theorem sortedOf {Q : Value → Shared → Prop} (S : PSet P w s.heap a l rs ep t) (quiet : A.handled = none) (hu : A.units + 8 < cLine)
    (fin : ∀ now p (out : Array Value) (c : Nat) (l' : List (Addr × Nm)), (∀ b o, s.heap.get? b = some o → now.heap.get? b = some o) → now.gens = s.gens → now.os = s.os → s.heap.objs.size ≤ p →
      now.heap.get? p = some (seqObj "list" out c) → out.toList = l'.map (fun q => Value.ref q.1) → l'.Perm l → l'.Pairwise (fun q r => nmLt q.2 r.2 = true) → Q (.ref p) now) :
    wpAny (model P w) A (call (.builtin "sorted") [.ref a]) Q E s := by
  obtain ⟨o, ho, ex, dat⟩ := S.obj
  have n1 := S.count
  have n2 := S.few
  refine Calls.call_function_entry kind_sorted plain_sorted entry_sorted (args_sorted1 _) ?_
  unfold Builtin.«sorted»
  refine wpAny_bind (m := checkCount "sorted" 1 1 _) (wpAny_pure ?_)
  refine wpAny_bind (collect_set (A := A.in1) quiet ⟨o, ho, ex.1, dat⟩ S.fits (by unfold scanBound; omega) S.tab.ris S.led fun s1 vs k1 hz g1 o1 pm => ?_)
  have asRefs : rs.toList.map (·.2) = l.map fun q => Value.ref q.1 := by
    rw [S.rows, rowsP, List.map_map]
    rfl
  rw [asRefs] at pm
  -- the values, each with its pair
  have back : ∀ vs : List Value, (∀ v ∈ vs, ∃ q ∈ l, v = Value.ref q.1) → ∃ m : List (Addr × Nm), vs = m.map (fun q => Value.ref q.1) ∧ ∀ q ∈ m, q ∈ l := by
    intro vs
    induction vs with
    | nil => exact fun _ => ⟨[], rfl, fun _ z => nomatch z⟩
    | cons v vs ih =>
      intro each
      obtain ⟨q, hq, e⟩ := each v List.mem_cons_self
      obtain ⟨m, e2, sub⟩ := ih fun u hu => each u (List.mem_cons_of_mem _ hu)
      refine ⟨q :: m, by rw [List.map_cons, e, e2], fun r hr => ?_⟩
      rcases List.mem_cons.mp hr with z | z
      · rw [z]
        exact hq
      · exact sub r z
  have single : ∀ q ∈ l, ∀ r ∈ l, q.1 = r.1 → q = r := fun q hq r hr e => by
    have x := S.prs q hq
    rw [e] at x
    exact Prod.ext e (x.one (S.prs r hr))
  have dist : l.Nodup := List.Pairwise.of_map Prod.snd (fun _ _ ne e => ne (congrArg Prod.snd e)) S.uniq
  have permOf : ∀ m : List (Addr × Nm), (∀ q ∈ m, q ∈ l) → (m.map fun q => Value.ref q.1).Perm (l.map fun q => Value.ref q.1) → m.Perm l := by
    intro m sub pr
    have dr : (l.map fun q => Value.ref q.1).Nodup := by
      refine List.pairwise_map.mpr (List.Pairwise.imp_of_mem (fun {q r} hq hr ne e => ?_) dist)
      injection e with e
      exact ne (single q hq r hr e)
    have dm : m.Nodup := List.Pairwise.of_map (fun q => Value.ref q.1) (fun _ _ ne e => ne (congrArg (fun q : Addr × Nm => Value.ref q.1) e)) (pr.nodup_iff.mpr dr)
    refine (List.perm_ext_iff_of_nodup dm dist).mpr fun q => ⟨sub q, fun hq => ?_⟩
    obtain ⟨r, hr, e⟩ := List.mem_map.mp (pr.mem_iff.mpr (List.mem_map.mpr ⟨q, hq, rfl⟩))
    injection e with e
    rw [← single r (sub r hr) q hq e]
    exact hr
  obtain ⟨m, rfl, sub⟩ := back vs fun v hv => by
    obtain ⟨q, hq, e⟩ := List.mem_map.mp (pm.mem_iff.mp hv)
    exact ⟨q, hq, e.symm⟩
  have pml := permOf m sub pm
  have m4 : m.length < 60 := by
    rw [pml.length_eq]
    exact n2
  refine wpAny_bind (wpAny_newList ?_ (by rw [List.length_map, sizeLine_eq]; omega))
  generalize hh : s1.heap.push (seqObj "list" (m.map fun q => Value.ref q.1).toArray 0) = h2
  have atL : h2.get? s1.heap.objs.size = some (seqObj "list" (m.map fun q => Value.ref q.1).toArray 0) := by
    rw [← hh]
    exact Heap.get?_push_size _ rfl
  have k2 : ∀ b o, s1.heap.get? b = some o → h2.get? b = some o := fun b o e => by
    rw [← hh]
    exact Heap.get?_push_of_some _ e
  have prs2 : ∀ q ∈ m, PrAt P w h2 q.2 q.1 := fun q hq => (S.prs q (sub q hq)).kept fun c o e => k2 c o (k1 c o e)
  have each : ∀ m' : List (Addr × Nm), (∀ q ∈ m', q ∈ m) → PySem.W.EachIs (fun v (q : Addr × Nm) => v = Value.ref q.1) (m'.map fun q => Value.ref q.1) m' ∧
      PySem.W.EachIs (fun v (q : Addr × Nm) => ∃ as, Reads h2 v (nmD q.2) as ∧ s1.heap.objs.size ∉ as) (m'.map fun q => Value.ref q.1) m' := by
    intro m'
    induction m' with
    | nil => exact fun _ => ⟨.nil, .nil⟩
    | cons q m' ih =>
      intro sb
      obtain ⟨i1, i2⟩ := ih fun r hr => sb r (List.mem_cons_of_mem _ hr)
      exact ⟨.cons rfl i1, .cons ⟨[], (prs2 q (sb q List.mem_cons_self)).reads, fun z => nomatch z⟩ i2⟩
  obtain ⟨e1, e2⟩ := each m fun _ z => z
  refine wpAny_bind (wpAny_holding (PySem.W.list_sort_data (s := { s1 with heap := h2 }) (bs := m) (enc := fun q => nmD q.2) (R := fun v q => v = Value.ref q.1) atL e1 e2 (.of fun b b' => nm_alike _ _)
    (.tuples fun b => ⟨_, _, rfl⟩) (by rw [sizeLine_eq]; omega) (fun b _ => ?_) fun out ol oe => ?_))
  · show A.in1.units + 1 + (nmD b.2).depth < cLine
    have d : (nmD b.2).depth ≤ 2 := by simp [nmD, PyData.depth, PyData.depthAll]
    have : A.in1.units ≤ A.units + 4 := by simp
    omega
  · obtain ⟨c, hc⟩ := PyProof.Rows.sortedHeap_at (vs := m.map fun q => Value.ref q.1) (out := out.toArray) atL
    have eo : out = (m.mergeSort (PySem.W.dataLe false fun q => nmD q.2)).map fun q => Value.ref q.1 := by
      have key : ∀ {o : List Value} {m' : List (Addr × Nm)}, PySem.W.EachIs (fun v (q : Addr × Nm) => v = Value.ref q.1) o m' → o = m'.map fun q => Value.ref q.1 := by
        intro o m' z
        induction z with
        | nil => rfl
        | cons h _ ih => rw [h, ih, List.map_cons]
      exact key oe
    have ps := List.mergeSort_perm m (PySem.W.dataLe false fun q => nmD q.2)
    have sorted := PySem.W.sort_pairwise (le := PySem.W.dataLe false fun q : Addr × Nm => nmD q.2) (PySem.W.sortLe_total (listOrd itemOrd) false fun q : Addr × Nm => PySem.W.keyToks (nmD q.2)) m
    refine wpAny_pure ⟨_, rfl, fin _ s1.heap.objs.size out.toArray c (m.mergeSort (PySem.W.dataLe false fun q => nmD q.2)) (fun b u e => ?_) g1 o1 hz hc (by rw [List.toList_toArray]; exact eo) (ps.trans pml) ?_⟩
    · have q := k1 b u e
      have lt := Heap.lt_size q
      show (sortedHeap h2 s1.heap.objs.size (m.map fun q => Value.ref q.1) out.toArray).get? b = some u
      rw [sortedHeap_old (Nat.ne_of_lt lt) (by rw [← hh, size_push']; exact Nat.lt_succ_of_lt lt)]
      exact k2 _ _ q
    · have un : ((m.mergeSort (PySem.W.dataLe false fun q => nmD q.2)).map Prod.snd).Nodup := (((ps.trans pml).map Prod.snd).nodup_iff).mpr S.uniq
      refine List.Pairwise.imp₂ (R := fun q r : Addr × Nm => PySem.W.dataLe false (fun q => nmD q.2) q r = true) (S := fun q r => q.2 ≠ r.2) (fun q r h ne => ?_) sorted (List.pairwise_map.mp un)
      refine nmLt_total ?_ ne
      have z : (!PySem.W.dataLt (nmD r.2) (nmD q.2)) = true := h
      rw [nmD_lt] at z
      simpa using z
/-! the two as rules of the layer -/
def PSet0 (P : Program) (w : World) (h : Heap) (a : Addr) (l : List (Addr × Nm)) : Prop := ∃ (rs : Array (Int × Value)) (ep : Nat) (t : SetTable), (∃ o, h.get? a = some o ∧ o.ExactSet ∧ o.data = .set rs ep t) ∧
  rs.toList = rowsP P w l ∧ TabOk t (l.map fun q => hsh P w q.2) ∧ (l.map Prod.snd).Nodup ∧ (w.params.followText "set-order" = true ∨ t.led = true) ∧ l.length * 5 < t.mask * 3 ∧ l.length < 60
def PSetO (P : Program) (w : World) (a : Addr) (l : List (Addr × Nm)) : HO := .ext fun h => PSet0 P w h a l
theorem PSet.bare {h : Heap} (S : PSet P w h a l rs ep t) : PSet0 P w h a l := ⟨rs, ep, t, S.obj, S.rows, S.tab, S.uniq, S.led, S.room, S.few⟩
theorem psetO_ok {H : Hp} {h : Heap} (S : PSet0 P w h a l) : ObjOk P w H h a (PSetO P w a l) := by
  have ⟨rs, ep, t, ⟨o, ho, r⟩, q⟩ := S
  refine ⟨S, ⟨o, ho⟩, fun h1 h2 p k => ?_⟩
  have ⟨rs', ep', t', ⟨o', ho', r'⟩, q'⟩ := p
  exact ⟨rs', ep', t', ⟨o', k o' ho', r'⟩, q'⟩
end
/-- the pair p stands at b as a tuple -/
def NmT (K : PySem.W.Frag) (H : Hp) (q : Addr × Nm) : Prop := SqT K H q.1 [V.int q.2.1, V.str q.2.2]
theorem refs_vals : ∀ {ks : List (Addr × Nm)} {us : List Value}, Vals (ks.map fun q => V.ref q.1) us → us = ks.map fun q => Value.ref q.1
  | [], _, .nil => rfl
  | q :: ks, _, .cons r t => by
    cases r
    rw [refs_vals t, List.map_cons]
theorem vals_refs : ∀ (ks : List (Addr × Nm)), Vals (ks.map fun q => V.ref q.1) (ks.map fun q => Value.ref q.1)
  | [] => .nil
  | q :: ks => .cons rfl (vals_refs ks)
section
variable {X : Cx}
theorem nmT_at {pins : List (Addr × Obj)} {σ : L2.St} {H : Hp} {s : Shared} {q : Addr × Nm} (I : L2.Inv X pins σ H s) (h : NmT X.K H q) : PrAt X.prog X.w s.heap q.2 q.1 := by
  obtain ⟨its, r, ⟨o, ho, hc, n, hd⟩, _⟩ := I.tuple h
  cases r with
  | cons r1 r2 =>
    cases r2 with
    | cons r3 r4 =>
      cases r4
      obtain ⟨t, rfl⟩ := r1
      obtain ⟨u, rfl⟩ := r3
      exact ⟨o, _, n, ho, hc, hd, .cons (mixKind_int _ _ _ t) (.cons (mixKind_str _ _ _ u) .nil)⟩
def rSetNm (K : PySem.W.Frag) (P : Program) (w : World) : List V → Hp → VK → Prop := fun xs H Q => ∃ (b : Addr) (ks : List (Addr × Nm)), xs = [V.ref b] ∧ SqL K H b (ks.map fun q => V.ref q.1) ∧ (∀ q ∈ ks, NmT K H q) ∧ ks.length < 60 ∧
  ∀ a l, H a = none → l.length ≤ ks.length → (l.map Prod.snd).Nodup → (∀ q ∈ l, q ∈ ks) → (∀ q ∈ ks, q.2 ∈ l.map Prod.snd) → Q (.ref a) (upd H a (PSetO P w a l))
theorem cr_setNm (hc : X.calm = true) (hu : X.A.units + 64 < cLine) : CallR X (.type "set") (rSetNm X.K X.prog X.w) := by
  intro pins s σ H xs us Q I r h
  obtain ⟨b, ks, rfl, hl, hk, n4, q⟩ := h
  rw [Vals.ref1 r]
  obtain ⟨its, rv, pl, _⟩ := I.list hl
  have new : H s.heap.objs.size = none := I.hok.fresh (Nat.le_refl _)
  refine setOf (P := X.prog) (w := X.w) ks (I.ok.hd hc) pl.isList (by rw [List.toList_toArray]; exact refs_vals rv) (fun p hp => nmT_at I (hk p hp)) n4 (by omega) fun h' tk l rs ep t S took k => ?_
  refine ⟨.ref s.heap.objs.size, upd H s.heap.objs.size (PSetO X.prog X.w s.heap.objs.size l), I.laid (t' := tk) k (Nat.le_refl _) (psetO_ok S.bare), rfl, q _ l new took.few S.uniq (fun p hp => List.mem_of_mem_take (took.from_ p hp)) fun p hp => took.all p (by rw [List.take_length]; exact hp)⟩
def rSortNm (K : PySem.W.Frag) (P : Program) (w : World) : List V → Hp → VK → Prop := fun xs H Q => ∃ (a : Addr) (l : List (Addr × Nm)), xs = [V.ref a] ∧ H a = some (PSetO P w a l) ∧ (∀ q ∈ l, NmT K H q) ∧
  ∀ (l' : List (Addr × Nm)) (p : Addr), l'.Perm l → l'.Pairwise (fun q r => nmLt q.2 r.2 = true) → l'.length = l.length → l'.length < 60 → H p = none → Q (.ref p) (upd H p (.lst (l'.map fun q => V.ref q.1)))
theorem cr_sortNm (hc : X.calm = true) (hu : X.A.units + 64 < cLine) : CallR X (.builtin "sorted") (rSortNm X.K X.prog X.w) := by
  intro pins s σ H xs us Q I r h
  obtain ⟨a, l, rfl, ha, hk, q⟩ := h
  obtain ⟨rs, ep, t, c1, c2, c3, c4, c5, c6, c7⟩ : PSet0 X.prog X.w s.heap a l := (I.hok a _ ha).1
  have S : PSet X.prog X.w s.heap a l rs ep t := ⟨c1, c2, c3, c4, fun p hp => nmT_at I (hk p hp), c5, c6, c7⟩
  rw [Vals.ref1 r]
  refine sortedOf S (I.ok.hd hc) (by omega) fun now p out c l' k g o hp hg eo pm pw => ?_
  have l4 : l'.length < 60 := by
    rw [pm.length_eq]
    exact c7
  have fits : (l'.map fun q => V.ref q.1).length ≤ sizeLine := by
    rw [List.length_map, sizeLine_eq]
    omega
  have new : H p = none := I.hok.fresh hp
  have vals : Vals (l'.map fun q => V.ref q.1) out.toList := by
    rw [eo]
    exact vals_refs l'
  obtain ⟨h', g', d', tk', os'⟩ := now
  obtain rfl : g' = s.gens := g
  obtain rfl : os' = s.os := o
  have J : L2.Inv X pins σ (upd H p (.lst (l'.map fun q => V.ref q.1))) { s with heap := h', gens := s.gens, drawn := d', toks := tk' } := I.call (ch := []) (Un.laid k hp new) (I.hok.laid k hp ⟨fits, out.toList, c, vals, hg⟩) I.bare (fun _ z => nomatch z)
  exact ⟨.ref p, _, J, rfl, q l' p pm pw pm.length_eq l4 new⟩
/-- set(xs), xs a list of numbers -/
def rSetI (K : PySem.W.Frag) (w : World) : List V → Hp → VK → Prop := fun xs H Q => ∃ (b : Addr) (ns : List Int), xs = [V.ref b] ∧ SqL K H b (ns.map V.int) ∧ ns.length < 60 ∧ ∀ a c, H a = none → c ≤ ns.length → Q (.ref a) (upd H a (SetO w a (fun j => decide (j ∈ ns)) c))
theorem cr_setI (hc : X.calm = true) : CallR X (.type "set") (rSetI X.K X.w) := by
  intro pins s σ H xs us Q I r h
  obtain ⟨b, ns, rfl, hl, n60, q⟩ := h
  rw [Vals.ref1 r]
  obtain ⟨its, rv, pl, _⟩ := I.list hl
  have new : H s.heap.objs.size = none := I.hok.fresh (Nat.le_refl _)
  refine setOfInts (P := X.prog) (w := X.w) ns (I.ok.hd hc) pl.isList (by rw [List.toList_toArray]; exact rv.ints) (by unfold scanBound; omega) fun h' tk c S cn k => ?_
  exact ⟨.ref s.heap.objs.size, upd H s.heap.objs.size (SetO X.w s.heap.objs.size (fun j => decide (j ∈ ns)) c), I.laid (t' := tk) k (Nat.le_refl _) (setO_new S), rfl, q _ c new cn⟩
end
end Lb

set_option Elab.async false
set_option linter.all false
set_option maxRecDepth 100000
set_option maxHeartbeats 4000000
/-! values as data, in a heap of which one place (st) may change -/
namespace Lb
open PySem PySem.Spec PyProof.Rows L2
/-- all that stood stands, but for the places st -/
def But (st : List Addr) (H H' : Hp) : Prop := ∀ b o, b ∉ st → H b = some o → H' b = some o
theorem But.of {st : List Addr} {H H' : Hp} (s : Same H H') : But st H H' := fun b o _ e => s b o e
theorem But.refl {st : List Addr} {H : Hp} : But st H H := fun _ _ _ e => e
theorem But.trans {st : List Addr} {H H1 H2 : Hp} (a : But st H H1) (b : But st H1 H2) : But st H H2 := fun c o n e => b c o n (a c o n e)
theorem But.mono {st st' : List Addr} {H H' : Hp} (a : But st H H') (h : ∀ x ∈ st, x ∈ st') : But st' H H' := fun b o n e => a b o (fun z => n (h b z)) e
theorem But.upd {st : List Addr} {H H' : Hp} {x : Addr} {o : HO} (a : But st H H') (h : x ∈ st) : But st H (upd H' x o) := fun b u n e => by
  rw [upd_ne fun z => n (by rw [z]; exact h)]
  exact a b u n e
theorem But.new {st : List Addr} {H H' : Hp} {x : Addr} {o : HO} (a : But st H H') (h : H' x = none) : But st H (L2.upd H' x o) := a.trans (.of fun b u e => by rw [upd_ne (ne_of_none e h)]; exact e)
theorem But.at1 {x : Addr} {H H' : Hp} {b : Addr} {o : HO} (a : But [x] H H') (e : H b = some o) (n : b ≠ x) : H' b = some o := a b o (fun z => n (List.mem_singleton.mp z)) e
theorem same_new {H : Hp} {p : Addr} {o : HO} (np : H p = none) : Same H (upd H p o) := fun b u e => by rw [upd_ne (ne_of_none e np)]; exact e
theorem Same.to {H H1 : Hp} {p : Addr} {o : HO} (s : Same H H1) (np : H1 p = none) : Same H (upd H1 p o) := s.trans (same_new np)
theorem But.drop {st : List Addr} {H H' : Hp} {x : Addr} {o : HO} (a : But (x :: st) (L2.upd H x o) H') (h : H x = none) : But st H H' := fun b u n e =>
  a b u (fun z => (List.mem_cons.mp z).elim (ne_of_none e h) n) (by rw [upd_ne (ne_of_none e h)]; exact e)
mutual
/-- the value v reads as the data d; no list of it stands at st -/
inductive Rep (st : List Addr) (H : Hp) : V → PyData → Prop
  | non : Rep st H .non .none
  | bl (b : Bool) : Rep st H (.bl b) (.bool b)
  | int (i : Int) : Rep st H (.int i) (.int i)
  | str (x : Str) : Rep st H (.str x) (.str x)
  | tup {a : Addr} {xs : List V} {ds : List PyData} : H a = some (.tup xs) → a ∉ st → Reps st H xs ds → Rep st H (.ref a) (.tuple ds)
  | lst {a : Addr} {xs : List V} {ds : List PyData} : H a = some (.lst xs) → a ∉ st → Reps st H xs ds → Rep st H (.ref a) (.list ds)
  | dct {a : Addr} {kvs : List (Key × V)} : H a = some (.dK kvs) → a ∉ st → Rep st H (.ref a) (.dict [])
inductive Reps (st : List Addr) (H : Hp) : List V → List PyData → Prop
  | nil : Reps st H [] []
  | cons {v : V} {vs : List V} {d : PyData} {ds : List PyData} : Rep st H v d → Reps st H vs ds → Reps st H (v :: vs) (d :: ds)
end
mutual
theorem Rep.but {st : List Addr} {H H' : Hp} (k : But st H H') : ∀ (d : PyData) (v : V), Rep st H v d → Rep st H' v d
  | .none, _, .non => .non
  | .bool _, _, .bl b => .bl b
  | .int _, _, .int i => .int i
  | .str _, _, .str x => .str x
  | .tuple ds, _, .tup (xs := xs) h n r => .tup (k _ _ n h) n (Reps.but k ds xs r)
  | .list ds, _, .lst (xs := xs) h n r => .lst (k _ _ n h) n (Reps.but k ds xs r)
  | .dict _, _, .dct h n => .dct (k _ _ n h) n
theorem Reps.but {st : List Addr} {H H' : Hp} (k : But st H H') : ∀ (ds : List PyData) (vs : List V), Reps st H vs ds → Reps st H' vs ds
  | [], _, .nil => .nil
  | d :: ds, _, .cons r rs => .cons (Rep.but k d _ r) (Reps.but k ds _ rs)
end
section
variable {st : List Addr} {H H' : Hp} {v : V} {vs : List V} {d : PyData} {ds : List PyData}
theorem Rep.mv (r : Rep st H v d) (k : But st H H') : Rep st H' v d := Rep.but k d v r
theorem Reps.mv (r : Reps st H vs ds) (k : But st H H') : Reps st H' vs ds := Reps.but k ds vs r
theorem Rep.sm (r : Rep st H v d) (k : Same H H') : Rep st H' v d := r.mv (.of k)
theorem Reps.sm (r : Reps st H vs ds) (k : Same H H') : Reps st H' vs ds := r.mv (.of k)
theorem Reps.length : ∀ {vs : List V} {ds : List PyData}, Reps st H vs ds → vs.length = ds.length
  | _, _, .nil => rfl
  | _, _, .cons _ r => by rw [List.length_cons, List.length_cons, Reps.length r]
theorem Reps.get : ∀ {vs : List V} {ds : List PyData} {i : Nat} {x : V}, Reps st H vs ds → vs[i]? = some x → ∃ d, ds[i]? = some d ∧ Rep st H x d
  | _, _, _, _, .nil, e => by simp at e
  | _, _, 0, _, .cons r _, e => by simp at e; subst e; exact ⟨_, rfl, r⟩
  | _, _, i + 1, x, .cons _ t, e => by
    obtain ⟨u, h1, h2⟩ := Reps.get (i := i) (x := x) t (by simpa using e)
    exact ⟨u, by simpa using h1, h2⟩
theorem Reps.at_ : ∀ {vs : List V} {ds : List PyData} {i : Nat} {d : PyData}, Reps st H vs ds → ds[i]? = some d → ∃ x, vs[i]? = some x ∧ Rep st H x d
  | _, _, _, _, .nil, e => by simp at e
  | _, _, 0, _, .cons r _, e => by simp at e; subst e; exact ⟨_, rfl, r⟩
  | _, _, i + 1, x, .cons _ t, e => by
    obtain ⟨u, h1, h2⟩ := Reps.at_ (i := i) t (by simpa using e)
    exact ⟨u, by simpa using h1, h2⟩
theorem Reps.app : ∀ {vs ws : List V} {ds es : List PyData}, Reps st H vs ds → Reps st H ws es → Reps st H (vs ++ ws) (ds ++ es)
  | _, _, _, _, .nil, r => r
  | _, _, _, _, .cons a b, r => .cons a (Reps.app b r)
theorem Reps.one (r : Rep st H v d) : Reps st H [v] [d] := .cons r .nil
theorem Reps.cut : ∀ {vs : List V} {ds : List PyData} (n : Nat), Reps st H vs ds → Reps st H (vs.take n) (ds.take n)
  | _, _, 0, _ => .nil
  | _, _, _ + 1, .nil => .nil
  | _, _, n + 1, .cons r t => .cons r (Reps.cut n t)
theorem Reps.skip : ∀ {vs : List V} {ds : List PyData} (n : Nat), Reps st H vs ds → Reps st H (vs.drop n) (ds.drop n)
  | _, _, 0, r => r
  | _, _, _ + 1, .nil => .nil
  | _, _, n + 1, .cons _ t => Reps.skip n t
theorem Rep.tupI {a : Addr} (r : Rep st H (.ref a) (.tuple ds)) : ∃ xs, H a = some (.tup xs) ∧ a ∉ st ∧ Reps st H xs ds := by
  cases r with
  | tup h n r => exact ⟨_, h, n, r⟩
theorem Rep.tupV (r : Rep st H v (.tuple ds)) : ∃ a xs, v = .ref a ∧ H a = some (.tup xs) ∧ a ∉ st ∧ Reps st H xs ds := by
  cases r with
  | tup h n r => exact ⟨_, _, rfl, h, n, r⟩
theorem Rep.lstV (r : Rep st H v (.list ds)) : ∃ a xs, v = .ref a ∧ H a = some (.lst xs) ∧ a ∉ st ∧ Reps st H xs ds := by
  cases r with
  | lst h n r => exact ⟨_, _, rfl, h, n, r⟩
theorem Rep.intV {i : Int} (r : Rep st H v (.int i)) : v = .int i := by cases r; rfl
theorem Rep.strV {i : Str} (r : Rep st H v (.str i)) : v = .str i := by cases r; rfl
theorem Rep.blV {i : Bool} (r : Rep st H v (.bool i)) : v = .bl i := by cases r; rfl
theorem Rep.nonV (r : Rep st H v .none) : v = .non := by cases r; rfl
end
mutual
theorem Rep.more {st : List Addr} {H : Hp} {x : Addr} (nx : H x = none) : ∀ (d : PyData) (v : V), Rep st H v d → Rep (x :: st) H v d
  | .none, _, .non => .non
  | .bool _, _, .bl b => .bl b
  | .int _, _, .int i => .int i
  | .str _, _, .str x => .str x
  | .tuple ds, _, .tup (xs := xs) h n r => .tup h (fun z => (List.mem_cons.mp z).elim (ne_of_none h nx) n) (Reps.more nx ds xs r)
  | .list ds, _, .lst (xs := xs) h n r => .lst h (fun z => (List.mem_cons.mp z).elim (ne_of_none h nx) n) (Reps.more nx ds xs r)
  | .dict _, _, .dct h n => .dct h (fun z => (List.mem_cons.mp z).elim (ne_of_none h nx) n)
theorem Reps.more {st : List Addr} {H : Hp} {x : Addr} (nx : H x = none) : ∀ (ds : List PyData) (vs : List V), Reps st H vs ds → Reps (x :: st) H vs ds
  | [], _, .nil => .nil
  | d :: ds, _, .cons r rs => .cons (Rep.more nx d _ r) (Reps.more nx ds _ rs)
end
mutual
theorem Rep.less {st st' : List Addr} {H : Hp} (k : ∀ a ∈ st', a ∈ st) : ∀ (d : PyData) (v : V), Rep st H v d → Rep st' H v d
  | .none, _, .non => .non
  | .bool _, _, .bl b => .bl b
  | .int _, _, .int i => .int i
  | .str _, _, .str x => .str x
  | .tuple ds, _, .tup (xs := xs) h n r => .tup h (fun z => n (k _ z)) (Reps.less k ds xs r)
  | .list ds, _, .lst (xs := xs) h n r => .lst h (fun z => n (k _ z)) (Reps.less k ds xs r)
  | .dict _, _, .dct h n => .dct h (fun z => n (k _ z))
theorem Reps.less {st st' : List Addr} {H : Hp} (k : ∀ a ∈ st', a ∈ st) : ∀ (ds : List PyData) (vs : List V), Reps st H vs ds → Reps st' H vs ds
  | [], _, .nil => .nil
  | d :: ds, _, .cons r rs => .cons (Rep.less k d _ r) (Reps.less k ds _ rs)
end
theorem But.own {st : List Addr} {H H' : Hp} {x : Addr} {o : HO} (a : But st H H') (h : H x = none) : But st H (L2.upd H' x o) := fun b u n e => by
  rw [upd_ne (ne_of_none e h)]
  exact a b u n e
mutual
/-- no list and no dict in it -/
def noLst : PyData → Bool
  | .list _ => false
  | .dict _ => false
  | .tuple ds => noLsts ds
  | _ => true
def noLsts : List PyData → Bool
  | [] => true
  | d :: ds => noLst d && noLsts ds
end
mutual
theorem Rep.avoid {st : List Addr} {H : Hp} {x : Addr} {xs : List V} (hx : H x = some (.lst xs)) : ∀ (d : PyData) (v : V), noLst d = true → Rep st H v d → Rep (x :: st) H v d
  | .none, _, _, .non => .non
  | .bool _, _, _, .bl b => .bl b
  | .int _, _, _, .int i => .int i
  | .str _, _, _, .str x => .str x
  | .tuple ds, _, z, .tup (xs := ys) h n r => .tup h (fun m => (List.mem_cons.mp m).elim (ne_of h hx (fun q => nomatch q)) n) (Reps.avoid hx ds ys z r)
  | .list ds, _, z, .lst h n r => nomatch z
  | .dict _, _, z, .dct h n => nomatch z
theorem Reps.avoid {st : List Addr} {H : Hp} {x : Addr} {xs : List V} (hx : H x = some (.lst xs)) : ∀ (ds : List PyData) (vs : List V), noLsts ds = true → Reps st H vs ds → Reps (x :: st) H vs ds
  | [], _, _, .nil => .nil
  | d :: ds, _, z, .cons r rs => .cons (Rep.avoid hx d _ (Bool.and_eq_true_iff.mp z).1 r) (Reps.avoid hx ds _ (Bool.and_eq_true_iff.mp z).2 rs)
end
/-- the built-in class of what reads so -/
def tyN : PyData → String
  | .none => "NoneType" | .bool _ => "bool" | .int _ => "int" | .str _ => "str" | .tuple _ => "tuple" | .list _ => "list" | .dict _ => "dict"
theorem Rep.ty {K : PySem.W.Frag} {st : List Addr} {H : Hp} {v : V} {d : PyData} (r : Rep st H v d) : TyX K H v (.type (tyN d)) := by
  cases r with
  | non => exact .base .non
  | bl b => exact .base (.bl b)
  | int i => exact .base (.int i)
  | str x => exact .base (.str x)
  | tup h _ _ => exact .base (.tup h)
  | lst h _ _ => exact .base (.lst h)
  | dct h _ => exact .base (.dK h)
def isTup : PyData → Bool
  | .tuple _ => true
  | _ => false
def isInt : PyData → Bool
  | .int _ => true
  | .bool _ => true
  | _ => false
def isBl : PyData → Bool
  | .bool _ => true
  | _ => false
def isStr : PyData → Bool
  | .str _ => true
  | _ => false
def isLst : PyData → Bool
  | .list _ => true
  | _ => false
theorem kit_tup (d : PyData) : kitB (tyN d) "tuple" = some (isTup d) := by cases d <;> (dsimp only [tyN, isTup]; decide +kernel)
theorem kit_int (d : PyData) : kitB (tyN d) "int" = some (isInt d) := by cases d <;> (dsimp only [tyN, isInt]; decide +kernel)
theorem kit_bool (d : PyData) : kitB (tyN d) "bool" = some (isBl d) := by cases d <;> (dsimp only [tyN, isBl]; decide +kernel)
theorem kit_str (d : PyData) : kitB (tyN d) "str" = some (isStr d) := by cases d <;> (dsimp only [tyN, isStr]; decide +kernel)
theorem kit_list (d : PyData) : kitB (tyN d) "list" = some (isLst d) := by cases d <;> (dsimp only [tyN, isLst]; decide +kernel)
section
variable {X : Cx}
/-- isinstance(x, T), x any such value, T a built-in class -/
def rIsD : List V → Hp → VK → Prop := fun xs H Q => ∃ (v : V) (T : String) (st : List Addr) (d : PyData) (b : Bool), xs = [v, .ty T] ∧ Rep st H v d ∧ kitB (tyN d) T = some b ∧ Q (.bl b) H
theorem call_isiD : CallR X (.builtin "isinstance") rIsD := by
  intro pins s σ H xs us Q I r h
  obtain ⟨v, T, st, d, b, rfl, hr, hk, q⟩ := h
  exact call_isi pins s σ H _ us Q I r ⟨v, .ty T, _, _, _, rfl, .ty T, hr.ty, kit_ty hk, q⟩
end
mutual
/-- such data without dicts and any reading of it -/
def noDict : PyData → Bool
  | .dict _ => false
  | .tuple ds => noDicts ds
  | .list ds => noDicts ds
  | _ => true
def noDicts : List PyData → Bool
  | [] => true
  | d :: ds => noDict d && noDicts ds
end
mutual
theorem Rep.dp {K : PySem.W.Frag} {st : List Addr} {H : Hp} : ∀ (d : PyData) (v : V), noDict d = true → Rep st H v d → Dp K H v d
  | .none, _, _, .non => .non
  | .bool _, _, _, .bl b => .bl b
  | .int _, _, _, .int i => .int i
  | .str _, _, _, .str x => .str x
  | .tuple ds, _, z, .tup (xs := xs) h _ r => .tup (SqT.of h) (Reps.dp ds xs (z) r)
  | .list ds, _, z, .lst (xs := xs) h _ r => .lst (SqL.of h) (Reps.dp ds xs (z) r)
  | .dict _, _, z, .dct h n => absurd z (by simp [noDict])
theorem Reps.dp {K : PySem.W.Frag} {st : List Addr} {H : Hp} : ∀ (ds : List PyData) (vs : List V), noDicts ds = true → Reps st H vs ds → DpAll K H vs ds
  | [], _, _, .nil => .nil
  | d :: ds, _, z, .cons r rs => by
    have z2 : noDict d = true ∧ noDicts ds = true := by simpa [noDicts] using z
    exact .cons (Rep.dp d _ z2.1 r) (Reps.dp ds _ z2.2 rs)
end
section
variable {X : Cx}
/-- a < b for alike data -/
def rLtD (K : PySem.W.Frag) : R2 := fun x y H Q => ∃ d e, Dp K H x d ∧ Dp K H y e ∧ PySem.W.alike d e = true ∧ d ≠ .none ∧ d.depth ≤ 64 ∧ Q (.bl (PySem.W.dataLt d e)) H
theorem op_ltD (hu : X.A.units + 64 < cLine) : OpR X (compareOp .Lt) (rLtD X.K) := by
  intro pins s σ H x y v u Q I rx ry h
  obtain ⟨d, e, hd, he, al, nn, dep, q⟩ := h
  obtain ⟨as, r1⟩ := Dp.reads I d x v hd rx
  obtain ⟨bs, r2⟩ := Dp.reads I e y u he ry
  exact PySem.W.rcLt_alike d e X.A s v u as bs r1 r2 al nn (by omega) X.prog X.w _ _ ⟨.bl _, H, I, rfl, q⟩
end
/-- zip of two tuples, walked -/
theorem walk_zipT {K : PySem.W.Frag} {a b : Addr} {xs ys : List V} {n : Nat} (hn : n = min xs.length ys.length) : Walk (RZ.ItzT K a b) n (fun H => SqT K H a xs ∧ SqT K H b ys) (YPair (fun i => xs[i]?) (fun i => ys[i]?)) := by
  subst hn
  refine ⟨fun i _ hi q => ?_, fun _ q => ⟨xs, ys, q.1, q.2, by omega⟩, fun i H v H' _ q y => ?_⟩
  · have c1 : i < xs.length := by omega
    have c2 : i < ys.length := by omega
    exact ⟨xs, ys, xs[i], ys[i], q.1, q.2, List.getElem?_eq_getElem c1, List.getElem?_eq_getElem c2⟩
  · obtain ⟨T, x, z, h1, h2, h3, h4, h5⟩ := y
    exact ⟨T, x, z, h1, h2, h3, h4 xs q.1, h5 ys q.2⟩
/-- a comprehension whose turns change nothing that stands: y i is what turn i gives -/
theorem lc_pure {J : It} {n : Nat} {G : Hp → Prop} {Y : Nat → Hp → V → Hp → Prop} (w : Walk J n G Y) {g : TG} {te : TE} {vs : List Nat} {σ : L2.St} {H1 : Hp} {D : Addr} {Qd : Hp → Prop} (nD : H1 D = none) (y : Nat → V) (few : n < sizeLine)
    (hG : ∀ H', Same H1 H' → G H') (hs : ∀ i x H' H'' (F : V → Hp → Prop), i < n → Same H1 H' → Y i H' x H'' → (∀ H3, Same H' H3 → F (y i) H3) → g x (wipe σ vs) H'' fun σ2 H2 => wipe σ2 vs = wipe σ vs ∧ te σ2 H2 F)
    (hd : ∀ H', Same H1 H' → H' D = some (.lst ((List.range n).map y)) → Qd H') :
    ∃ W : Nat → Nat → Hp → Prop, (∃ m, W 0 m (upd H1 D (.lst []))) ∧ ∀ i m H, W i m H →
      (J.stop i H ∧ Qd H) ∨ (J.go i H ∧ ∃ Nx : Hp → Prop, (∀ H', Nx H' → ∃ m', m' < m ∧ W (i + 1) m' H') ∧ ∀ x H', J.yld i H x H' → g x (wipe σ vs) H' fun σ2 H2 => wipe σ2 vs = wipe σ vs ∧ tYes σ2 H2 fun b H3 =>
        if b = true then te σ2 H3 fun y H4 => ∃ acc, H4 D = some (.lst acc) ∧ acc.length < sizeLine ∧ Nx (upd H4 D (.lst (acc ++ [y]))) else Nx H3) := by
  refine lc_it w (fun i H' => Same H1 H' ∧ H' D = some (.lst ((List.range i).map y))) ⟨same_new nD, upd_same⟩ (fun i H' _ p => hG H' p.1) (fun i x H' H'' hi p hy => ?_) (fun H' p => hd H' p.1 p.2)
  obtain ⟨s1, d1⟩ := p
  refine hs i x H' H'' _ hi s1 hy fun H3 s3 => ⟨_, s3 _ _ d1, ?_, ?_, ?_⟩
  · rw [List.length_map, List.length_range]
    omega
  · intro b o e
    have nb : b ≠ D := fun z => by rw [z, nD] at e; cases e
    rw [upd_ne nb]
    exact s3 _ _ (s1 _ _ e)
  · rw [upd_same, List.range_succ, List.map_append, List.map_singleton]
end Lb
namespace Lb
open PySem PySem.Spec PyProof.Rows L2
/-! rules whose reading names the written part by itself (they stand within comprehensions) -/
def rLen2 (K : PySem.W.Frag) : List V → Hp → VK → Prop := fun xs H Q => ∃ p ys, xs = [V.ref p] ∧ (SqL K H p ys ∨ SqT K H p ys) ∧ Q (.int ys.length) H
theorem len_k {X : Cx} : CallR X (.builtin "len") (rLen2 X.K) := call_len_seq
end Lb
namespace Lb
open PySem PySem.Spec PyProof.Rows L2
/-! two clauses in one comprehension -/
theorem lc2_in {J1 : It} {n1 : Nat} {G1 : Hp → Prop} {Y1 : Nat → Hp → V → Hp → Prop} (w1 : Walk J1 n1 G1 Y1) {g1 : TG} {tt1 : TT} {te : TE} {vs1 : List Nat} {σ2 : L2.St} {H4 : Hp} {D : Addr} {N : Hp → Prop} (P1 : Nat → Hp → Prop) (h0 : P1 0 H4) (hG : ∀ j H, j ≤ n1 → P1 j H → G1 H)
    (hs : ∀ j x H H', j < n1 → P1 j H → Y1 j H x H' → g1 x (wipe σ2 vs1) H' fun σ3 H5 => wipe σ3 vs1 = wipe σ2 vs1 ∧ tt1 σ3 H5 fun b H6 =>
      if b = true then te σ3 H6 fun y H7 => ∃ acc, H7 D = some (.lst acc) ∧ acc.length < sizeLine ∧ P1 (j + 1) (upd H7 D (.lst (acc ++ [y]))) else P1 (j + 1) H6) (hd : ∀ H, P1 n1 H → N H) :
    ∃ W1 : Nat → Nat → Hp → Prop, (∃ m, W1 0 m H4) ∧ ∀ j k H, W1 j k H →
      (J1.stop j H ∧ N H) ∨ (J1.go j H ∧ ∃ Nx1 : Hp → Prop, (∀ H', Nx1 H' → ∃ k', k' < k ∧ W1 (j + 1) k' H') ∧ ∀ x H', J1.yld j H x H' → g1 x (wipe σ2 vs1) H' fun σ3 H5 => wipe σ3 vs1 = wipe σ2 vs1 ∧ tt1 σ3 H5 fun b H6 =>
        if b = true then te σ3 H6 fun y H7 => ∃ acc, H7 D = some (.lst acc) ∧ acc.length < sizeLine ∧ Nx1 (upd H7 D (.lst (acc ++ [y]))) else Nx1 H6) := by
  refine ⟨fun j m H => m = n1 - j ∧ j ≤ n1 ∧ P1 j H, ⟨n1, by omega, Nat.zero_le _, h0⟩, fun j m H p => ?_⟩
  obtain ⟨rfl, hj, p⟩ := p
  have q := hG j H hj p
  rcases Nat.lt_or_ge j n1 with lt | ge
  · exact .inr ⟨w1.goes j H lt q, P1 (j + 1), fun H' p' => ⟨n1 - (j + 1), by omega, rfl, lt, p'⟩, fun x H' y => hs j x H H' lt p (w1.yields j H x H' lt q y)⟩
  · obtain rfl : j = n1 := Nat.le_antisymm hj ge
    exact .inl ⟨w1.stops H q, hd H p⟩
theorem lc2_out {J : It} {n : Nat} {G : Hp → Prop} {Y : Nat → Hp → V → Hp → Prop} (w : Walk J n G Y) {g g1 : TG} {tt tt1 : TT} {wi1 : TI} {te : TE} {vs vs1 : List Nat} {σ : L2.St} {H1 : Hp} {D : Addr} {Qd : Hp → Prop} (Pv : Nat → Hp → Prop) (h0 : Pv 0 (upd H1 D (.lst []))) (hG : ∀ i H, i ≤ n → Pv i H → G H)
    (hs : ∀ i x H H', i < n → Pv i H → Y i H x H' → g x (wipe σ vs) H' fun σ2 H2 => wipe σ2 vs = wipe σ vs ∧ tt σ2 H2 fun b H3 =>
      if b = true then wi1 σ2 H3 fun J1 H4 => ∃ W1 : Nat → Nat → Hp → Prop, (∃ m, W1 0 m H4) ∧ ∀ j k H, W1 j k H →
        (J1.stop j H ∧ Pv (i + 1) H) ∨ (J1.go j H ∧ ∃ Nx1 : Hp → Prop, (∀ H', Nx1 H' → ∃ k', k' < k ∧ W1 (j + 1) k' H') ∧ ∀ x H', J1.yld j H x H' → g1 x (wipe σ2 vs1) H' fun σ3 H5 => wipe σ3 vs1 = wipe σ2 vs1 ∧ tt1 σ3 H5 fun b H6 =>
          if b = true then te σ3 H6 fun y H7 => ∃ acc, H7 D = some (.lst acc) ∧ acc.length < sizeLine ∧ Nx1 (upd H7 D (.lst (acc ++ [y]))) else Nx1 H6)
      else Pv (i + 1) H3) (hd : ∀ H, Pv n H → Qd H) :
    ∃ W : Nat → Nat → Hp → Prop, (∃ m, W 0 m (upd H1 D (.lst []))) ∧ ∀ i m H, W i m H →
      (J.stop i H ∧ Qd H) ∨ (J.go i H ∧ ∃ Nx : Hp → Prop, (∀ H', Nx H' → ∃ m', m' < m ∧ W (i + 1) m' H') ∧ ∀ x H', J.yld i H x H' → g x (wipe σ vs) H' fun σ2 H2 => wipe σ2 vs = wipe σ vs ∧ tt σ2 H2 fun b H3 =>
        if b = true then wi1 σ2 H3 fun J1 H4 => ∃ W1 : Nat → Nat → Hp → Prop, (∃ m, W1 0 m H4) ∧ ∀ j k H, W1 j k H →
          (J1.stop j H ∧ Nx H) ∨ (J1.go j H ∧ ∃ Nx1 : Hp → Prop, (∀ H', Nx1 H' → ∃ k', k' < k ∧ W1 (j + 1) k' H') ∧ ∀ x H', J1.yld j H x H' → g1 x (wipe σ2 vs1) H' fun σ3 H5 => wipe σ3 vs1 = wipe σ2 vs1 ∧ tt1 σ3 H5 fun b H6 =>
            if b = true then te σ3 H6 fun y H7 => ∃ acc, H7 D = some (.lst acc) ∧ acc.length < sizeLine ∧ Nx1 (upd H7 D (.lst (acc ++ [y]))) else Nx1 H6)
        else Nx H3) := by
  refine ⟨fun i m H => m = n - i ∧ i ≤ n ∧ Pv i H, ⟨n, by omega, Nat.zero_le _, h0⟩, fun i m H p => ?_⟩
  obtain ⟨rfl, hi, p⟩ := p
  have q := hG i H hi p
  rcases Nat.lt_or_ge i n with lt | ge
  · exact .inr ⟨w.goes i H lt q, Pv (i + 1), fun H' p' => ⟨n - (i + 1), by omega, rfl, lt, p'⟩, fun x H' y => hs i x H H' lt p (w.yields i H x H' lt q y)⟩
  · obtain rfl : i = n := Nat.le_antisymm hi ge
    exact .inl ⟨w.stops H q, hd H p⟩
end Lb

set_option Elab.async false
set_option linter.all false
set_option maxRecDepth 100000
set_option maxHeartbeats 4000000
/-! the data of the programs that the laws draw: names, needs, rows -/
namespace Lb
open PySem PySem.Spec PyProof.Rows L2
def letters : List Str := ["a", "b", "c", "d"]
/-- a name of a program of c parts -/
def nmOk (c : Int) (p : Nm) : Prop := 0 ≤ p.1 ∧ p.1 < c ∧ p.2 ∈ letters
theorem letter_at {v : Int} (h0 : 0 ≤ v) (h1 : v < 4) : ∃ c, atI ("abcd" : Str).cps.toList v = some c ∧ (⟨#[c]⟩ : Str) ∈ letters := by
  rcases (by omega : v = 0 ∨ v = 1 ∨ v = 2 ∨ v = 3) with e | e | e | e <;> subst e
  · exact ⟨97, by decide +kernel, by decide +kernel⟩
  · exact ⟨98, by decide +kernel, by decide +kernel⟩
  · exact ⟨99, by decide +kernel, by decide +kernel⟩
  · exact ⟨100, by decide +kernel, by decide +kernel⟩
def isNms (c : Int) (ds : List PyData) (ps : List Nm) : Prop := ds = ps.map nmD ∧ ∀ p ∈ ps, nmOk c p
theorem isNms.at_ {c : Int} {ds : List PyData} {ps : List Nm} (h : isNms c ds ps) {i : Nat} {d : PyData} (e : ds[i]? = some d) : ∃ p, ps[i]? = some p ∧ d = nmD p ∧ nmOk c p := by
  rw [h.1, List.getElem?_map] at e
  obtain ⟨p, hp, e2⟩ := Option.map_eq_some_iff.mp e
  exact ⟨p, hp, e2.symm, h.2 p (List.mem_of_getElem? hp)⟩
def needsD (ps : List Nm) : PyData := .tuple (ps.map nmD)
def needsOk (c : Int) (m : Nat) (ps : List Nm) : Prop := ps.length ≤ m ∧ ∀ p ∈ ps, nmOk c p
/-- the rows -/
inductive Row where
  | load (p : Int) | give (n : Str) (ns : List Nm) (r : Bool) | pass (n : Str) (p : Int) (o : Str) | show_ (ns : List Nm) (r : Bool) | out | late (n : Str) (p : Int) (ns : List Nm)
def Row.word : Row → Str
  | .load _ => "load" | .give .. => "give" | .pass .. => "pass" | .show_ .. => "show" | .out => "out" | .late .. => "late"
def Row.d : Row → PyData
  | .load p => .tuple [.str "load", .int p]
  | .give n ns r => .tuple [.str "give", .str n, needsD ns, .bool r]
  | .pass n p o => .tuple [.str "pass", .str n, .int p, .str o]
  | .show_ ns r => .tuple [.str "show", needsD ns, .bool r]
  | .out => .tuple [.str "out"]
  | .late n p ns => .tuple [.str "late", .str n, .int p, needsD ns]
def Row.ok (c : Int) : Row → Prop
  | .load p => 0 ≤ p ∧ p < c
  | .give n ns _ => n ∈ letters ∧ needsOk c 1 ns
  | .pass n p o => n ∈ letters ∧ (0 ≤ p ∧ p < c) ∧ o ∈ letters
  | .show_ ns _ => needsOk c 2 ns
  | .out => True
  | .late n p ns => n ∈ letters ∧ (-1 ≤ p ∧ p < c) ∧ needsOk c 2 ns
def wordsOf : List Str := ["give", "show", "load", "pass", "late", "out"]
/-- a plan of a row -/
structure Plan where
  (w n : Str) (p : Int) (o : Str)
def Plan.d (x : Plan) : PyData := .tuple [.str x.w, .str x.n, .int x.p, .str x.o]
def Plan.ok (c : Int) (x : Plan) : Prop := x.w ∈ wordsOf ∧ x.n ∈ letters ∧ (0 ≤ x.p ∧ x.p < c) ∧ x.o ∈ letters
end Lb
namespace Lb
open PySem PySem.Spec PyProof.Rows L2
/-! the plans of all parts -/
theorem names_cut {v : Int} (h0 : 0 ≤ v) (h1 : v < 4) : ∃ z : Str, cutS ("abcd" : Str) none (some (1 + v)) = z ∧ (z.length : Int) = 1 + v ∧ ∀ u : Int, 0 ≤ u → u < 1 + v → ∃ c, atI z.cps.toList u = some c ∧ (⟨#[c]⟩ : Str) ∈ letters := by
  rcases (by omega : v = 0 ∨ v = 1 ∨ v = 2 ∨ v = 3) with e | e | e | e <;> subst e
  · refine ⟨"a", by decide +kernel, by decide +kernel, fun u u0 u1 => ?_⟩
    rcases (by omega : u = 0) with e
    subst e
    exact ⟨97, by decide +kernel, by decide +kernel⟩
  · refine ⟨"ab", by decide +kernel, by decide +kernel, fun u u0 u1 => ?_⟩
    rcases (by omega : u = 0 ∨ u = 1) with e | e <;> subst e
    · exact ⟨97, by decide +kernel, by decide +kernel⟩
    · exact ⟨98, by decide +kernel, by decide +kernel⟩
  · refine ⟨"abc", by decide +kernel, by decide +kernel, fun u u0 u1 => ?_⟩
    rcases (by omega : u = 0 ∨ u = 1 ∨ u = 2) with e | e | e <;> subst e
    · exact ⟨97, by decide +kernel, by decide +kernel⟩
    · exact ⟨98, by decide +kernel, by decide +kernel⟩
    · exact ⟨99, by decide +kernel, by decide +kernel⟩
  · refine ⟨"abcd", by decide +kernel, by decide +kernel, fun u u0 u1 => ?_⟩
    rcases (by omega : u = 0 ∨ u = 1 ∨ u = 2 ∨ u = 3) with e | e | e | e <;> subst e
    · exact ⟨97, by decide +kernel, by decide +kernel⟩
    · exact ⟨98, by decide +kernel, by decide +kernel⟩
    · exact ⟨99, by decide +kernel, by decide +kernel⟩
    · exact ⟨100, by decide +kernel, by decide +kernel⟩
def lineD (xs : List Plan) : PyData := .list (xs.map Plan.d)
def words17 : List Str := ["give", "show", "load", "pass", "late", "out", "give", "show", "load", "pass", "late", "out", "give", "show", "load", "pass", "give"]
theorem word_at {v : Int} (h0 : 0 ≤ v) (h1 : v < 17) : ∃ x, atI (words17.map V.str) v = some (.str x) ∧ x ∈ wordsOf := by
  have lt : v.toNat < words17.length := by
    show v.toNat < 17
    omega
  have e := atI_nat (xs := words17.map V.str) (j := v.toNat) (v := .str words17[v.toNat]) (by rw [List.getElem?_map, List.getElem?_eq_getElem lt]; rfl)
  rw [Int.toNat_of_nonneg h0] at e
  refine ⟨_, e, ?_⟩
  have all : ∀ x ∈ words17, x ∈ wordsOf := by decide +kernel
  exact all _ (List.getElem_mem lt)
def isOut (x : Plan) : Bool := decide (x.w = "out")
def outsIn (xs : List Plan) : Nat := xs.countP isOut
def totalOf (ls : List (List Plan)) : Nat := ls.flatten.length
def outsOf (ls : List (List Plan)) : Nat := outsIn ls.flatten
structure LinesOk (c : Int) (ls : List (List Plan)) : Prop where
  five : ∀ l ∈ ls, l.length ≤ 5
  ok : ∀ l ∈ ls, ∀ x ∈ l, x.ok c
  total : totalOf ls ≤ 12
  outs : outsOf ls ≤ 2
theorem total_snoc (ls : List (List Plan)) (l : List Plan) : totalOf (ls ++ [l]) = totalOf ls + l.length := by simp [totalOf]
theorem outs_snoc (ls : List (List Plan)) (l : List Plan) : outsOf (ls ++ [l]) = outsOf ls + outsIn l := by simp [outsOf, outsIn]
theorem outsIn_snoc (l : List Plan) (x : Plan) : outsIn (l ++ [x]) = outsIn l + (if x.w = "out" then 1 else 0) := by
  simp only [outsIn, List.countP_append, List.countP_singleton, isOut, decide_eq_true_eq]
end Lb
namespace Lb
open PySem PySem.Spec PyProof.Rows L2
/-! whole programs -/
theorem nms_keys {S : List Addr} {H : Hp} : ∀ {vs : List V} {ps : List Nm}, Reps S H vs (ps.map nmD) → ∃ ks : List (Addr × Nm), vs = ks.map (fun q => V.ref q.1) ∧ ks.map Prod.snd = ps ∧ ∀ q ∈ ks, H q.1 = some (.tup [.int q.2.1, .str q.2.2]) ∧ q.1 ∉ S
  | _, [], .nil => ⟨[], rfl, rfl, fun _ z => nomatch z⟩
  | _, p :: ps, .cons r rs => by
    obtain ⟨ks, e1, e2, h⟩ := nms_keys rs
    obtain ⟨a, xs, rfl, ha, na, ra⟩ := Rep.tupV r
    have exs : xs = [.int p.1, .str p.2] := by
      cases ra with
      | cons r1 ra => cases ra with
        | cons r2 ra => cases ra; rw [r1.intV, r2.strV]
    subst exs
    refine ⟨(a, p) :: ks, by rw [e1, List.map_cons], by rw [List.map_cons, e2], fun q hq => ?_⟩
    rcases List.mem_cons.mp hq with z | z
    · rw [z]
      exact ⟨ha, na⟩
    · exact h q z
theorem keys_nms {S : List Addr} {H : Hp} : ∀ (ks : List (Addr × Nm)), (∀ q ∈ ks, H q.1 = some (.tup [.int q.2.1, .str q.2.2]) ∧ q.1 ∉ S) → Reps S H (ks.map fun q => V.ref q.1) ((ks.map Prod.snd).map nmD)
  | [], _ => .nil
  | q :: ks, h => .cons (.tup (h q List.mem_cons_self).1 (h q List.mem_cons_self).2 (.cons (.int _) (.cons (.str _) .nil))) (keys_nms ks fun r hr => h r (List.mem_cons_of_mem _ hr))
theorem bls_rep {S : List Addr} {H : Hp} : ∀ bs : List Bool, Reps S H (bs.map V.bl) (bs.map .bool)
  | [] => .nil
  | b :: bs => .cons (.bl b) (bls_rep bs)
theorem ints_rep {S : List Addr} {H : Hp} : ∀ ns : List Int, Reps S H (ns.map V.int) (ns.map .int)
  | [] => .nil
  | n :: ns => .cons (.int n) (ints_rep ns)
def rowsD (rs : List Row) : PyData := .tuple (rs.map Row.d)
structure Prog where
  parts : List (List Row)
  marks : List Bool
  entries : List Int
  opens : List Nm
def Prog.d (P : Prog) : PyData := .tuple [.tuple (P.parts.map rowsD), .tuple (P.marks.map .bool), .tuple (P.entries.map .int), needsD P.opens]
def Prog.c (P : Prog) : Int := P.parts.length
structure Prog.Ok (P : Prog) : Prop where
  one : 1 ≤ P.parts.length
  four : P.parts.length ≤ 4
  five : ∀ rs ∈ P.parts, rs.length ≤ 5
  twelve : P.parts.flatten.length ≤ 12
  outs : (P.parts.flatten.map Row.word).countP (fun w : Str => decide (w = ("out" : Str))) ≤ 2
  rows : ∀ rs ∈ P.parts, ∀ r ∈ rs, r.ok P.c
  marks : P.marks.length = P.parts.length
  ent1 : 1 ≤ P.entries.length
  ent3 : P.entries.length ≤ 3
  entIn : ∀ e ∈ P.entries, 0 ≤ e ∧ e < P.c
  entUp : P.entries.Pairwise (· < ·)
  op4 : P.opens.length ≤ 4
  opIn : ∀ p ∈ P.opens, nmOk P.c p
  opUp : P.opens.Pairwise (fun p q => nmLt p q = true)
theorem noLst_nms (ps : List Nm) : noLsts (ps.map nmD) = true := by
  induction ps with
  | nil => rfl
  | cons p ps ih => rw [List.map_cons, noLsts, ih]; rfl
theorem noLst_row (r : Row) : noLst r.d = true := by
  cases r <;> simp [Row.d, noLst, noLsts, needsD, noLst_nms]
theorem noLst_rows (rs : List Row) : noLsts (rs.map Row.d) = true := by
  induction rs with
  | nil => rfl
  | cons r rs ih => rw [List.map_cons, noLsts, ih, noLst_row]; rfl
end Lb
namespace Lb
open PySem PySem.Spec PyProof.Rows L2
theorem prog_shape {c : Int} {prs : List (List Row)} {ls : List (List Plan)} (pw : prs.map (List.map Row.word) = ls.map (List.map Plan.w)) (lok : LinesOk c ls) :
    prs.length = ls.length ∧ (∀ rs ∈ prs, rs.length ≤ 5) ∧ prs.flatten.length ≤ 12 ∧ (prs.flatten.map Row.word).countP (fun w : Str => decide (w = ("out" : Str))) ≤ 2 := by
  have e : prs.flatten.map Row.word = ls.flatten.map Plan.w := by rw [List.map_flatten, List.map_flatten, pw]
  refine ⟨?_, fun rs hrs => ?_, ?_, ?_⟩
  · have z := congrArg List.length pw
    rwa [List.length_map, List.length_map] at z
  · have m : rs.map Row.word ∈ ls.map (List.map Plan.w) := by
      rw [← pw]
      exact List.mem_map.mpr ⟨rs, hrs, rfl⟩
    obtain ⟨xs, hxs, ex⟩ := List.mem_map.mp m
    have z := congrArg List.length ex
    rw [List.length_map, List.length_map] at z
    have := lok.five xs hxs
    omega
  · have z := congrArg List.length e
    rw [List.length_map, List.length_map] at z
    have := lok.total
    unfold totalOf at this
    omega
  · rw [e, List.countP_map]
    exact lok.outs
end Lb

set_option Elab.async false
set_option linter.all false
set_option maxRecDepth 100000
set_option maxHeartbeats 4000000
/-! what is a program: the program's own questions, as functions of data -/
namespace Lb
open PySem PySem.Spec PyProof.Rows L2
def intB (d : PyData) : Bool := isInt d && !isBl d
def valI : PyData → Int
  | .int i => i
  | _ => 0
def itemsD : PyData → List PyData
  | .tuple ds => ds
  | _ => []
def strOf : PyData → Str
  | .str s => s
  | _ => Str.empty
def nthD (d : PyData) (i : Nat) : PyData := (itemsD d).getD i .none
def numB (d : PyData) (n : Int) : Bool := intB d && (decide (0 ≤ valI d) && decide (valI d < n))
def nameB (d : PyData) : Bool := isStr d && decide (strOf d ∈ letters)
def tupB (d : PyData) (lo hi : Int) : Bool := isTup d && (decide (lo ≤ ((itemsD d).length : Int)) && decide (((itemsD d).length : Int) ≤ hi))
def needB (d : PyData) (n : Int) : Bool := tupB d 2 2 && (numB (nthD d 0) n && nameB (nthD d 1))
def needsB (d : PyData) (n most : Int) : Bool := tupB d 0 most && (itemsD d).all fun x => needB x n
def wordB (d : PyData) : Bool := isTup d && (decide (0 < ((itemsD d).length : Int)) && isStr (nthD d 0))
def lenIs (d : PyData) (n : Int) : Bool := decide (((itemsD d).length : Int) = n)
def giveB (d : PyData) (n : Int) : Bool := lenIs d 4 && (nameB (nthD d 1) && (needsB (nthD d 2) n 1 && isBl (nthD d 3)))
def lateB (d : PyData) (n : Int) : Bool := lenIs d 4 && (nameB (nthD d 1) && (intB (nthD d 2) && ((decide (valI (nthD d 2) = -1) || numB (nthD d 2) n) && needsB (nthD d 3) n 2)))
def rowB (d : PyData) (n : Int) : Bool := wordB d &&
  (if strOf (nthD d 0) = "load" then lenIs d 2 && numB (nthD d 1) n
   else if strOf (nthD d 0) = "give" then giveB d n
   else if strOf (nthD d 0) = "pass" then lenIs d 4 && ((numB (nthD d 2) n && nameB (nthD d 1)) && nameB (nthD d 3))
   else if strOf (nthD d 0) = "show" then lenIs d 3 && (needsB (nthD d 1) n 2 && isBl (nthD d 2))
   else if strOf (nthD d 0) = "late" then lateB d n
   else decide (strOf (nthD d 0) = "out") && lenIs d 1)
def rowsOfD (d : PyData) : List PyData := (itemsD d).flatMap itemsD
def partsB (d : PyData) : Bool := tupB d 1 4 && ((itemsD d).all (fun p => tupB p 0 5) && (decide (((rowsOfD d).length : Int) ≤ 12) && ((rowsOfD d).all (fun r => rowB r ((itemsD d).length : Int)) &&
  decide ((((rowsOfD d).filter fun r => decide (strOf (nthD r 0) = "out")).length : Int) ≤ 2))))
def marksB (d : PyData) (n : Int) : Bool := tupB d n n && (itemsD d).all isBl
def ascB : List PyData → Bool
  | a :: b :: r => PySem.W.dataLt a b && ascB (b :: r)
  | _ => true
def entriesB (d : PyData) (n : Int) : Bool := tupB d 1 3 && ((itemsD d).all (fun x => numB x n) && ascB (itemsD d))
def opensB (d : PyData) (n : Int) : Bool := needsB d n 4 && ascB (itemsD d)
def progB (d : PyData) : Bool := tupB d 4 4 && (partsB (nthD d 0) && (marksB (nthD d 1) ((itemsD (nthD d 0)).length : Int) && (entriesB (nthD d 2) ((itemsD (nthD d 0)).length : Int) && opensB (nthD d 3) ((itemsD (nthD d 0)).length : Int))))
/-! helpers -/
theorem tup_of {d : PyData} (h : isTup d = true) : ∃ ds, d = .tuple ds := by
  cases d with
  | tuple ds => exact ⟨ds, rfl⟩
  | _ => exact absurd h (by simp [isTup])
theorem int_of {d : PyData} (h : intB d = true) : ∃ i, d = .int i := by
  cases d with
  | int i => exact ⟨i, rfl⟩
  | _ => exact absurd h (by simp [intB, isInt, isBl])
theorem str_of {d : PyData} (h : isStr d = true) : ∃ i, d = .str i := by
  cases d with
  | str i => exact ⟨i, rfl⟩
  | _ => exact absurd h (by simp [isStr])
theorem in_letters (s : Str) : inV (.str s) [V.str "a", V.str "b", V.str "c", V.str "d"] = decide (s ∈ letters) := by
  have e : ∀ x y : Str, eqV (.str x) (.str y) = decide (y = x) := fun x y => by
    show (x == y) = _
    rw [Bool.eq_iff_iff, beq_iff_eq, decide_eq_true_eq]
    exact eq_comm
  show ([V.str "a", V.str "b", V.str "c", V.str "d"].any fun y => eqV y (.str s)) = _
  rw [show ([V.str "a", V.str "b", V.str "c", V.str "d"] : List V) = letters.map V.str from rfl, List.any_map, Bool.eq_iff_iff, List.any_eq_true, decide_eq_true_eq]
  constructor
  · rintro ⟨x, hx, z⟩
    have z2 : eqV (.str x) (.str s) = true := z
    rw [e, decide_eq_true_eq] at z2
    rw [z2]
    exact hx
  · intro hs
    refine ⟨s, hs, ?_⟩
    show eqV (.str s) (.str s) = true
    rw [e]
    exact decide_eq_true rfl
theorem range_all (g : PyData → Bool) (ds : List PyData) : ((List.range ds.length).map fun i => g (ds.getD i .none)).all id = ds.all g := by
  rw [List.all_map]
  rw [Bool.eq_iff_iff, List.all_eq_true, List.all_eq_true]
  constructor
  · intro h x hx
    obtain ⟨i, hi, e⟩ := List.getElem_of_mem hx
    have z := h i (List.mem_range.mpr hi)
    simp only [Function.comp, id] at z
    rwa [List.getD_eq_getElem?_getD, List.getElem?_eq_getElem hi, Option.getD_some, e] at z
  · intro h i hi
    have hi := List.mem_range.mp hi
    simp only [Function.comp, id]
    rw [List.getD_eq_getElem?_getD, List.getElem?_eq_getElem hi, Option.getD_some]
    exact h _ (List.getElem_mem hi)
theorem getD_of {ds : List PyData} {i : Nat} {d : PyData} (h : ds[i]? = some d) : ds.getD i .none = d := by
  rw [List.getD_eq_getElem?_getD, h, Option.getD_some]
theorem bl_map (f : Nat → Bool) (n : Nat) : (List.range n).map (fun i => V.bl (f i)) = ((List.range n).map f).map V.bl := by
  rw [List.map_map]
  rfl
end Lb
namespace Lb
open PySem PySem.Spec PyProof.Rows L2
theorem sIx_one (n d : Nat) : HT.sIx n d (some 1) = min 1 n := HT.sIx_nat n d 1
theorem cut_one (xs : List V) : cutV xs (some 1) none = xs.drop 1 := by
  unfold cutV
  rw [sIx_one]
  show (xs.drop (min 1 xs.length)).take (xs.length - min 1 xs.length) = xs.drop 1
  cases xs with
  | nil => rfl
  | cons x r =>
    have e : min 1 (x :: r).length = 1 := by simp only [List.length_cons]; omega
    rw [e]
    apply List.take_of_length_le
    simp
theorem whole_one {xs : List V} (h : HT.sIx xs.length 0 (some 1) = 0) : xs = [] := by
  rw [sIx_one] at h
  cases xs with
  | nil => rfl
  | cons x r => simp only [List.length_cons] at h; omega
theorem asc_range : ∀ ds : List PyData, ascB ds = ((List.range (ds.length - 1)).map fun i => PySem.W.dataLt (ds.getD i .none) (ds.getD (i + 1) .none)).all id
  | [] => rfl
  | [_] => rfl
  | a :: b :: r => by
    have ih := asc_range (b :: r)
    rw [ascB, ih]
    have e1 : (a :: b :: r).length - 1 = r.length + 1 := rfl
    have e2 : (b :: r).length - 1 = r.length := rfl
    rw [e1, e2, List.range_succ_eq_map, List.map_cons, List.all_cons, List.map_map]
    rfl
end Lb
namespace Lb
open PySem PySem.Spec PyProof.Rows L2
theorem tupB_len {d : PyData} {lo hi : Int} (h : tupB d lo hi = true) : ∃ ds, d = .tuple ds ∧ lo ≤ (ds.length : Int) ∧ (ds.length : Int) ≤ hi := by
  unfold tupB at h
  rw [Bool.and_eq_true, Bool.and_eq_true, decide_eq_true_eq, decide_eq_true_eq] at h
  obtain ⟨ds, rfl⟩ := tup_of h.1
  exact ⟨ds, rfl, h.2.1, h.2.2⟩
theorem len2 {ds : List PyData} (h1 : (2 : Int) ≤ ds.length) (h2 : (ds.length : Int) ≤ 2) : ∃ x y, ds = [x, y] := by
  match ds with
  | [x, y] => exact ⟨x, y, rfl⟩
  | [] => simp at h1
  | [_] => simp at h1
  | _ :: _ :: _ :: _ => simp only [List.length_cons] at h2; omega
theorem len4 {ds : List PyData} (h : (ds.length : Int) = 4) : ∃ x y z u, ds = [x, y, z, u] := by
  match ds with
  | [x, y, z, u] => exact ⟨x, y, z, u, rfl⟩
  | [] => simp at h
  | [_] => simp at h
  | [_, _] => simp at h
  | [_, _, _] => simp at h
  | _ :: _ :: _ :: _ :: _ :: _ => simp only [List.length_cons] at h; omega
theorem len3 {ds : List PyData} (h : (ds.length : Int) = 3) : ∃ x y z, ds = [x, y, z] := by
  match ds with
  | [x, y, z] => exact ⟨x, y, z, rfl⟩
  | [] => simp at h
  | [_] => simp at h
  | [_, _] => simp at h
  | _ :: _ :: _ :: _ :: _ => simp only [List.length_cons] at h; omega
theorem len2' {ds : List PyData} (h : (ds.length : Int) = 2) : ∃ x y, ds = [x, y] := len2 (by omega) (by omega)
section
variable {S : List Addr} {H : Hp} {v : V} {x y z u : PyData}
theorem Rep.two (r : Rep S H v (.tuple [x, y])) : ∃ a p q, v = .ref a ∧ H a = some (.tup [p, q]) ∧ Rep S H p x ∧ Rep S H q y := by
  obtain ⟨a, xs, rfl, ha, _, rs⟩ := r.tupV
  cases rs with
  | cons r1 rs => cases rs with
    | cons r2 rs => cases rs; exact ⟨a, _, _, rfl, ha, r1, r2⟩
theorem Rep.three (r : Rep S H v (.tuple [x, y, z])) : ∃ a p q s, v = .ref a ∧ H a = some (.tup [p, q, s]) ∧ Rep S H p x ∧ Rep S H q y ∧ Rep S H s z := by
  obtain ⟨a, xs, rfl, ha, _, rs⟩ := r.tupV
  cases rs with
  | cons r1 rs => cases rs with
    | cons r2 rs => cases rs with
      | cons r3 rs => cases rs; exact ⟨a, _, _, _, rfl, ha, r1, r2, r3⟩
theorem Rep.four (r : Rep S H v (.tuple [x, y, z, u])) : ∃ a p q s t, v = .ref a ∧ H a = some (.tup [p, q, s, t]) ∧ Rep S H p x ∧ Rep S H q y ∧ Rep S H s z ∧ Rep S H t u := by
  obtain ⟨a, xs, rfl, ha, _, rs⟩ := r.tupV
  cases rs with
  | cons r1 rs => cases rs with
    | cons r2 rs => cases rs with
      | cons r3 rs => cases rs with
        | cons r4 rs => cases rs; exact ⟨a, _, _, _, _, rfl, ha, r1, r2, r3, r4⟩
end
end Lb
namespace Lb
theorem nbF {b : Bool} (h : (!b) = true) : b = false := by simpa using h
theorem nbT {b : Bool} (h : ¬ (!b) = true) : b = true := by simpa using h
theorem bF {b : Bool} (h : ¬ b = true) : b = false := by simpa using h
end Lb

set_option Elab.async false
set_option linter.all false
set_option maxRecDepth 100000
set_option maxHeartbeats 4000000
/-! the doors of a program, as data -/
namespace Lb
open PySem PySem.Spec PyProof.Rows L2
theorem none_back {H H' : Hp} {p : Addr} (s : Same H H') (n : H' p = none) : H p = none := by
  rcases Classical.em (H p = none) with e | e
  · exact e
  · obtain ⟨o, ho⟩ := Option.ne_none_iff_exists'.mp e
    rw [s _ _ ho] at n
    exact nomatch n
def lateV (r : PyData) : Int := valI (nthD r 2)
def goB (r : PyData) : Bool := decide (strOf (nthD r 0) = "late") && !decide (lateV r = -1)
def doorsD (d : PyData) : List Int := (itemsD (nthD d 2)).map valI ++ ((rowsOfD (nthD d 0)).filter goB).map lateV
theorem asc_eq : ∀ {xs ys : List Int}, xs.Pairwise (· < ·) → ys.Pairwise (· < ·) → (∀ k, k ∈ xs ↔ k ∈ ys) → xs = ys
  | [], [], _, _, _ => rfl
  | [], b :: ys, _, _, h => nomatch (h b).mpr List.mem_cons_self
  | a :: xs, [], _, _, h => nomatch (h a).mp List.mem_cons_self
  | a :: xs, b :: ys, h1, h2, h => by
    rw [List.pairwise_cons] at h1 h2
    have e : a = b := by
      rcases List.mem_cons.mp ((h a).mp List.mem_cons_self) with z | z
      · exact z
      · rcases List.mem_cons.mp ((h b).mpr List.mem_cons_self) with y | y
        · exact y.symm
        · have := h2.1 a z
          have := h1.1 b y
          omega
    subst e
    congr 1
    refine asc_eq h1.2 h2.2 fun k => ⟨fun m => ?_, fun m => ?_⟩
    · rcases List.mem_cons.mp ((h k).mp (List.mem_cons_of_mem _ m)) with z | z
      · have := h1.1 k m
        omega
      · exact z
    · rcases List.mem_cons.mp ((h k).mpr (List.mem_cons_of_mem _ m)) with z | z
      · have := h2.1 k m
        omega
      · exact z
theorem late_shape {r : PyData} {n : Int} (h : rowB r n = true) : ∃ w rest, r = .tuple (.str w :: rest) ∧ (w = "late" → ∃ nm p ns, rest = [nm, .int p, ns] ∧ -1 ≤ p) := by
  unfold rowB at h
  rw [Bool.and_eq_true] at h
  obtain ⟨hw, h⟩ := h
  unfold wordB at hw
  rw [Bool.and_eq_true, Bool.and_eq_true, decide_eq_true_eq] at hw
  obtain ⟨ht, hl, hs⟩ := hw
  obtain ⟨ws, rfl⟩ := tup_of ht
  match ws, hl with
  | x :: rest, _ =>
    obtain ⟨w, e⟩ := str_of hs
    have ex : x = .str w := e
    subst ex
    refine ⟨w, rest, rfl, fun ew => ?_⟩
    subst ew
    have e0 : strOf (nthD (.tuple (.str "late" :: rest)) 0) = "late" := rfl
    rw [e0, if_neg (by decide +kernel), if_neg (by decide +kernel), if_neg (by decide +kernel), if_neg (by decide +kernel), if_pos rfl] at h
    unfold lateB at h
    rw [Bool.and_eq_true] at h
    obtain ⟨x, y, z, u, e⟩ := len4 (of_decide_eq_true h.1)
    have e2 : rest = [y, z, u] := by injection e
    subst e2
    have h2 := h.2
    rw [Bool.and_eq_true, Bool.and_eq_true, Bool.and_eq_true] at h2
    obtain ⟨p, hp⟩ := int_of h2.2.1
    have ez : z = .int p := hp
    subst ez
    refine ⟨y, p, u, rfl, ?_⟩
    have h3 : (decide (p = -1) || numB (.int p) n) = true := h2.2.2.1
    rw [Bool.or_eq_true, decide_eq_true_eq] at h3
    rcases h3 with z | z
    · omega
    · unfold numB at z
      rw [Bool.and_eq_true, Bool.and_eq_true, decide_eq_true_eq] at z
      have : 0 ≤ p := z.2.1
      omega
structure ProgF (ps es : List PyData) : Prop where
  four : ps.length ≤ 4
  five : ∀ p ∈ ps, ∃ rows, p = .tuple rows ∧ rows.length ≤ 5
  rows : ∀ r ∈ ps.flatMap itemsD, rowB r ps.length = true
  twelve : (ps.flatMap itemsD).length ≤ 12
  three : es.length ≤ 3
  allI : ∀ e ∈ es, ∃ i, e = .int i
theorem prog_of {d : PyData} (h : progB d = true) : ∃ ps m es o, d = .tuple [.tuple ps, m, .tuple es, o] ∧ ProgF ps es := by
  unfold progB at h
  rw [Bool.and_eq_true] at h
  obtain ⟨h0, h⟩ := h
  obtain ⟨ds, rfl, h1, h2⟩ := tupB_len h0
  obtain ⟨x, y, z, u, rfl⟩ := len4 (by omega : (ds.length : Int) = 4)
  rw [Bool.and_eq_true, Bool.and_eq_true, Bool.and_eq_true] at h
  have hx : partsB x = true := h.1
  have hz : entriesB z ((itemsD x).length : Int) = true := h.2.2.1
  unfold partsB at hx
  rw [Bool.and_eq_true, Bool.and_eq_true, Bool.and_eq_true, Bool.and_eq_true, decide_eq_true_eq] at hx
  obtain ⟨ps, rfl, _, p4⟩ := tupB_len hx.1
  unfold entriesB at hz
  rw [Bool.and_eq_true, Bool.and_eq_true] at hz
  obtain ⟨es, rfl, _, e3⟩ := tupB_len hz.1
  refine ⟨ps, y, es, u, rfl, by omega, fun p hp => ?_, fun r hr => List.all_eq_true.mp hx.2.2.2.1 r hr, by have z : ((ps.flatMap itemsD).length : Int) ≤ 12 := hx.2.2.1; omega, by omega, fun e he => ?_⟩
  · obtain ⟨rows, e, _, h5⟩ := tupB_len (List.all_eq_true.mp hx.2.1 p hp)
    exact ⟨rows, e, by omega⟩
  · have z := List.all_eq_true.mp hz.2.1 e he
    exact int_of (Bool.and_eq_true_iff.mp z).1
theorem Reps.asInts {S : List Addr} {H : Hp} : ∀ {vs : List V} {ds : List PyData}, Reps S H vs ds → (∀ e ∈ ds, ∃ i, e = .int i) → vs = (ds.map valI).map V.int
  | _, _, .nil, _ => rfl
  | _, _, .cons r rs, h => by
    obtain ⟨i, rfl⟩ := h _ List.mem_cons_self
    rw [r.intV, Reps.asInts rs fun e m => h e (List.mem_cons_of_mem _ m)]
    rfl
theorem filter_few {ps : List PyData} {i : Nat} {l : List PyData} (hl : (ps.flatMap itemsD).length ≤ 12) : ((((ps.take i).flatMap itemsD) ).filter goB).length ≤ 12 := by
  refine Nat.le_trans (List.length_filter_le _ _) ?_
  refine Nat.le_trans ?_ hl
  have e : ps.flatMap itemsD = (ps.take i).flatMap itemsD ++ (ps.drop i).flatMap itemsD := by rw [← List.flatMap_append, List.take_append_drop]
  rw [e, List.length_append]
  omega
theorem flat_snoc {ps : List PyData} {i : Nat} {rows : List PyData} (hp : ps[i]? = some (.tuple rows)) : (ps.take (i + 1)).flatMap itemsD = (ps.take i).flatMap itemsD ++ rows := by
  rw [List.take_succ, hp, List.flatMap_append]
  simp [itemsD]
theorem flat_mem {ps : List PyData} {i : Nat} {rows : List PyData} (hp : ps[i]? = some (.tuple rows)) {r : PyData} (hr : r ∈ rows) : r ∈ ps.flatMap itemsD :=
  List.mem_flatMap.mpr ⟨_, List.mem_of_getElem? hp, hr⟩
theorem flat_few {ps : List PyData} {i j : Nat} {rows : List PyData} (hp : ps[i]? = some (.tuple rows)) (hl : (ps.flatMap itemsD).length ≤ 12) : (((ps.take i).flatMap itemsD ++ rows.take j).filter goB).length ≤ 12 := by
  refine Nat.le_trans (List.length_filter_le _ _) ?_
  refine Nat.le_trans ?_ hl
  have e : ps.flatMap itemsD = (ps.take (i + 1)).flatMap itemsD ++ (ps.drop (i + 1)).flatMap itemsD := by rw [← List.flatMap_append, List.take_append_drop]
  rw [e, flat_snoc hp, List.length_append, List.length_append, List.length_append, List.length_take]
  omega
/-- the kept doors so far -/
def goV (l : List PyData) : List V := (l.filter goB).map fun r => V.int (lateV r)
theorem goV_len (l : List PyData) : (goV l).length = (l.filter goB).length := by unfold goV; rw [List.length_map]
theorem goV_yes {l : List PyData} {r : PyData} (h : goB r = true) : goV (l ++ [r]) = goV l ++ [.int (lateV r)] := by
  unfold goV
  rw [List.filter_append, List.filter_cons_of_pos h, List.filter_nil, List.map_append]
  rfl
theorem goV_no {l : List PyData} {r : PyData} (h : ¬ goB r = true) : goV (l ++ [r]) = goV l := by
  unfold goV
  rw [List.filter_append, List.filter_cons_of_neg h, List.filter_nil, List.append_nil]
theorem doors_goV (ps es : List PyData) (m o : PyData) : (doorsD (.tuple [.tuple ps, m, .tuple es, o])).map V.int = (es.map valI).map V.int ++ goV (ps.flatMap itemsD) := by
  show ((es.map valI) ++ ((ps.flatMap itemsD).filter goB).map lateV).map V.int = _
  rw [List.map_append, List.map_map (f := lateV)]
  rfl
theorem doors_len {ps es : List PyData} (m o : PyData) (F : ProgF ps es) : (doorsD (.tuple [.tuple ps, m, .tuple es, o])).length ≤ 15 := by
  have z := congrArg List.length (doors_goV ps es m o)
  rw [List.length_map, List.length_append, List.length_map, List.length_map, goV_len] at z
  have := List.length_filter_le goB (ps.flatMap itemsD)
  have := F.twelve
  have := F.three
  omega
end Lb
namespace Lb
open PySem PySem.Spec PyProof.Rows L2
/-! rows made late -/
def lateD (q : Str × Int) : PyData := .tuple [.str "late", .str q.1, .int q.2, .tuple []]
def linesD (l : List (Str × Int)) : PyData := .tuple (l.map lateD)
theorem noLst_late (q : Str × Int) : noLst (lateD q) = true := rfl
theorem noLst_lates (l : List (Str × Int)) : noLsts (l.map lateD) = true := by
  induction l with
  | nil => rfl
  | cons r rs ih => rw [List.map_cons, noLsts, ih, noLst_late]; rfl
theorem late_row {q : Str × Int} {n : Int} (h1 : q.1 ∈ letters) (h2 : -1 ≤ q.2) (h3 : q.2 < n) : rowB (lateD q) n = true := by
  unfold rowB
  have e0 : strOf (nthD (lateD q) 0) = "late" := rfl
  rw [e0, if_neg (by decide +kernel), if_neg (by decide +kernel), if_neg (by decide +kernel), if_neg (by decide +kernel), if_pos rfl]
  show (true && (true && ((true && decide (q.1 ∈ letters)) && (true && ((decide (q.2 = -1) || (true && (decide (0 ≤ q.2) && decide (q.2 < n)))) && true))))) = true
  rw [decide_eq_true h1, decide_eq_true h3]
  by_cases e : q.2 = -1
  · rw [decide_eq_true e]
    rfl
  · rw [decide_eq_false e, decide_eq_true (by omega : 0 ≤ q.2)]
    rfl
theorem lates_prog {ps es : List PyData} {m o : PyData} {lines : List (List (Str × Int))} (h : progB (.tuple [.tuple ps, m, .tuple es, o]) = true)
    (hl : lines.map List.length = ps.map (fun p => (itemsD p).length)) (ok : ∀ l ∈ lines, ∀ q ∈ l, q.1 ∈ letters ∧ -1 ≤ q.2 ∧ q.2 < (ps.length : Int)) : progB (.tuple [.tuple (lines.map linesD), m, .tuple es, o]) = true := by
  have len : lines.length = ps.length := by
    have z := congrArg List.length hl
    rwa [List.length_map, List.length_map] at z
  unfold progB at h ⊢
  rw [Bool.and_eq_true, Bool.and_eq_true] at h ⊢
  obtain ⟨h0, hp, hr⟩ := h
  have e1 : nthD (.tuple [.tuple (lines.map linesD), m, .tuple es, o]) 0 = .tuple (lines.map linesD) := rfl
  have e2 : nthD (.tuple [.tuple ps, m, .tuple es, o]) 0 = .tuple ps := rfl
  rw [e1]
  rw [e2] at hp hr
  refine ⟨rfl, ?_, ?_⟩
  · unfold partsB at hp ⊢
    rw [Bool.and_eq_true, Bool.and_eq_true, Bool.and_eq_true, Bool.and_eq_true, decide_eq_true_eq] at hp ⊢
    obtain ⟨a1, a2, a3, a4, a5⟩ := hp
    have rows : rowsOfD (.tuple (lines.map linesD)) = lines.flatten.map lateD := by
      show (lines.map linesD).flatMap itemsD = _
      rw [List.flatMap_map, List.map_flatten, List.flatMap_def]
      rfl
    have rl : (rowsOfD (.tuple (lines.map linesD))).length = (rowsOfD (.tuple ps)).length := by
      show ((lines.map linesD).flatMap itemsD).length = (ps.flatMap itemsD).length
      rw [List.length_flatMap, List.length_flatMap, ← hl, List.map_map]
      congr 1
      apply List.map_congr_left
      intro l _
      show (l.map lateD).length = _
      rw [List.length_map]
    have il : (itemsD (.tuple (lines.map linesD))).length = ps.length := by
      show (lines.map linesD).length = _
      rw [List.length_map, len]
    refine ⟨?_, ?_, by rw [rl]; exact a3, ?_, ?_⟩
    · unfold tupB
      rw [il]
      exact a1
    · rw [List.all_eq_true]
      intro p hp
      obtain ⟨l, hlm, rfl⟩ := List.mem_map.mp hp
      have lm : l.length ∈ ps.map (fun p => (itemsD p).length) := by rw [← hl]; exact List.mem_map.mpr ⟨l, hlm, rfl⟩
      obtain ⟨p', hp', e⟩ := List.mem_map.mp lm
      obtain ⟨rows', rfl, _, h5⟩ := tupB_len (List.all_eq_true.mp a2 p' hp')
      have e' : rows'.length = l.length := e
      show (true && (decide ((0 : Int) ≤ ((l.map lateD).length : Int)) && decide (((l.map lateD).length : Int) ≤ 5))) = true
      rw [List.length_map, ← e', decide_eq_true h5, decide_eq_true (by omega)]
      rfl
    · rw [rows, il, List.all_eq_true]
      intro r hr
      obtain ⟨q, hq, rfl⟩ := List.mem_map.mp hr
      obtain ⟨l, hl1, hl2⟩ := List.mem_flatten.mp hq
      obtain ⟨k1, k2, k3⟩ := ok l hl1 q hl2
      exact late_row k1 k2 k3
    · have e0 : (rowsOfD (.tuple (lines.map linesD))).filter (fun r => decide (strOf (nthD r 0) = "out")) = [] := by
        rw [rows, List.filter_eq_nil_iff]
        intro r hr
        obtain ⟨q, hq, rfl⟩ := List.mem_map.mp hr
        have e0 : strOf (nthD (lateD q) 0) = "late" := rfl
        rw [e0]
        decide +kernel
      rw [e0]
      rfl
  · have e3 : (itemsD (.tuple (lines.map linesD))).length = (itemsD (.tuple ps)).length := by
      show (lines.map linesD).length = ps.length
      rw [List.length_map, len]
    rw [e3]
    exact hr
end Lb

set_option Elab.async false
set_option linter.all false
set_option maxRecDepth 100000
set_option maxHeartbeats 4000000
/-! a drawn program is a program -/
namespace Lb
open PySem PySem.Spec PyProof.Rows L2
theorem numB_ok {p n : Int} (h0 : 0 ≤ p) (h1 : p < n) : numB (.int p) n = true := by
  show (true && (decide (0 ≤ p) && decide (p < n))) = true
  rw [decide_eq_true h0, decide_eq_true h1]
  rfl
theorem nameB_ok {s : Str} (h : s ∈ letters) : nameB (.str s) = true := by
  show (true && decide (s ∈ letters)) = true
  rw [decide_eq_true h]
  rfl
theorem needB_ok {c : Int} {p : Nm} (h : nmOk c p) : needB (nmD p) c = true := by
  show (true && (numB (.int p.1) c && nameB (.str p.2))) = true
  rw [numB_ok h.1 h.2.1, nameB_ok h.2.2]
  rfl
theorem tupB_ok {ds : List PyData} {lo hi : Int} (h0 : lo ≤ (ds.length : Int)) (h1 : (ds.length : Int) ≤ hi) : tupB (.tuple ds) lo hi = true := by
  show (true && (decide (lo ≤ (ds.length : Int)) && decide ((ds.length : Int) ≤ hi))) = true
  rw [decide_eq_true h0, decide_eq_true h1]
  rfl
theorem needsB_ok {c : Int} {ps : List Nm} {m : Int} (h : (ps.length : Int) ≤ m) (ok : ∀ p ∈ ps, nmOk c p) : needsB (needsD ps) c m = true := by
  show (tupB (.tuple (ps.map nmD)) 0 m && (ps.map nmD).all fun x => needB x c) = true
  rw [tupB_ok (by omega) (by rw [List.length_map]; exact h), Bool.true_and, List.all_eq_true]
  intro x hx
  obtain ⟨p, hp, rfl⟩ := List.mem_map.mp hx
  exact needB_ok (ok p hp)
theorem rowB_ok {c : Int} {r : Row} (h : r.ok c) : rowB r.d c = true := by
  have t : ∀ x : Bool, x = true → (true && x) = true := fun x e => by rw [e]; rfl
  cases r with
  | load p =>
    unfold rowB
    have e0 : strOf (nthD (Row.d (.load p)) 0) = "load" := rfl
    rw [e0, if_pos rfl]
    exact t _ (t _ (numB_ok h.1 h.2))
  | give n ns rk =>
    unfold rowB
    have e0 : strOf (nthD (Row.d (.give n ns rk)) 0) = "give" := rfl
    rw [e0, if_neg (by decide +kernel), if_pos rfl]
    refine t _ (t _ ?_)
    show (nameB (.str n) && (needsB (needsD ns) c 1 && true)) = true
    rw [nameB_ok h.1, needsB_ok (by have := h.2.1; omega) h.2.2]
    rfl
  | pass n p o =>
    unfold rowB
    have e0 : strOf (nthD (Row.d (.pass n p o)) 0) = "pass" := rfl
    rw [e0, if_neg (by decide +kernel), if_neg (by decide +kernel), if_pos rfl]
    refine t _ (t _ ?_)
    show ((numB (.int p) c && nameB (.str n)) && nameB (.str o)) = true
    rw [numB_ok h.2.1.1 h.2.1.2, nameB_ok h.1, nameB_ok h.2.2]
    rfl
  | show_ ns rk =>
    unfold rowB
    have e0 : strOf (nthD (Row.d (.show_ ns rk)) 0) = "show" := rfl
    rw [e0, if_neg (by decide +kernel), if_neg (by decide +kernel), if_neg (by decide +kernel), if_pos rfl]
    refine t _ (t _ ?_)
    show (needsB (needsD ns) c 2 && true) = true
    rw [needsB_ok (by have := h.1; omega) h.2]
    rfl
  | out =>
    unfold rowB
    have e0 : strOf (nthD (Row.d .out) 0) = "out" := rfl
    rw [e0, if_neg (by decide +kernel), if_neg (by decide +kernel), if_neg (by decide +kernel), if_neg (by decide +kernel), if_neg (by decide +kernel)]
    decide +kernel
  | late n p ns =>
    unfold rowB
    have e0 : strOf (nthD (Row.d (.late n p ns)) 0) = "late" := rfl
    rw [e0, if_neg (by decide +kernel), if_neg (by decide +kernel), if_neg (by decide +kernel), if_neg (by decide +kernel), if_pos rfl]
    refine t _ (t _ ?_)
    show (nameB (.str n) && (true && ((decide (p = -1) || numB (.int p) c) && needsB (needsD ns) c 2))) = true
    rw [nameB_ok h.1, needsB_ok (by have := h.2.2.1; omega) h.2.2.2]
    by_cases e : p = -1
    · rw [decide_eq_true e]
      rfl
    · have lo := h.2.1.1
      rw [numB_ok (by omega) h.2.1.2, Bool.or_true]
      rfl
theorem ascB_of (D : α → PyData) (R : α → α → Prop) (h : ∀ a b, R a b → PySem.W.dataLt (D a) (D b) = true) : ∀ l : List α, l.Pairwise R → ascB (l.map D) = true
  | [], _ => rfl
  | [_], _ => rfl
  | a :: b :: r, p => by
    rw [List.pairwise_cons] at p
    show (PySem.W.dataLt (D a) (D b) && ascB ((b :: r).map D)) = true
    rw [h a b (p.1 b List.mem_cons_self), ascB_of D R h (b :: r) p.2]
    rfl
theorem prog_ok {P : Prog} (h : P.Ok) : progB P.d = true := by
  have i0 : itemsD (.tuple (P.parts.map rowsD)) = P.parts.map rowsD := rfl
  have len : ((itemsD (nthD P.d 0)).length : Int) = P.c := by
    show ((P.parts.map rowsD).length : Int) = P.parts.length
    rw [List.length_map]
  have rows : rowsOfD (.tuple (P.parts.map rowsD)) = P.parts.flatten.map Row.d := by
    show (P.parts.map rowsD).flatMap itemsD = _
    rw [List.flatMap_map, List.map_flatten, List.flatMap_def]
    rfl
  unfold progB
  rw [len]
  have h1 := h.one
  have h4 := h.four
  rw [Bool.and_eq_true, Bool.and_eq_true, Bool.and_eq_true, Bool.and_eq_true]
  refine ⟨rfl, ?_, ?_, ?_, ?_⟩
  · show partsB (.tuple (P.parts.map rowsD)) = true
    unfold partsB
    rw [Bool.and_eq_true, Bool.and_eq_true, Bool.and_eq_true, Bool.and_eq_true, decide_eq_true_eq, decide_eq_true_eq, rows, i0]
    refine ⟨tupB_ok (by rw [List.length_map]; omega) (by rw [List.length_map]; omega), ?_, ?_, ?_, ?_⟩
    · rw [List.all_eq_true]
      intro p hp
      obtain ⟨rs, hrs, rfl⟩ := List.mem_map.mp hp
      have := h.five rs hrs
      exact tupB_ok (by omega) (by rw [List.length_map]; omega)
    · rw [List.length_map]
      have := h.twelve
      omega
    · rw [List.all_eq_true, List.length_map]
      intro p hp
      obtain ⟨r, hr, rfl⟩ := List.mem_map.mp hp
      obtain ⟨rs, hrs, hr2⟩ := List.mem_flatten.mp hr
      exact rowB_ok (h.rows rs hrs r hr2)
    · rw [List.filter_map, List.length_map]
      have e : ((fun r => decide (strOf (nthD r 0) = "out")) ∘ Row.d) = fun r : Row => decide (r.word = "out") := by
        funext r
        cases r <;> rfl
      rw [e]
      have z := h.outs
      rw [List.countP_map] at z
      rw [← List.countP_eq_length_filter]
      have z2 : List.countP (fun r : Row => decide (r.word = "out")) P.parts.flatten ≤ 2 := z
      omega
  · show marksB (.tuple (P.marks.map .bool)) P.c = true
    unfold marksB
    have z := h.marks
    rw [tupB_ok (by rw [List.length_map, z]; exact Int.le_refl _) (by rw [List.length_map, z]; exact Int.le_refl _), Bool.true_and, List.all_eq_true]
    intro x hx
    obtain ⟨b, _, rfl⟩ := List.mem_map.mp hx
    rfl
  · show entriesB (.tuple (P.entries.map .int)) P.c = true
    unfold entriesB
    have e1 := h.ent1
    have e3 := h.ent3
    rw [tupB_ok (by rw [List.length_map]; omega) (by rw [List.length_map]; omega), Bool.true_and, Bool.and_eq_true, List.all_eq_true]
    refine ⟨fun x hx => ?_, ?_⟩
    · obtain ⟨b, hb, rfl⟩ := List.mem_map.mp hx
      have z := h.entIn b hb
      exact numB_ok z.1 z.2
    · exact ascB_of (fun i => PyData.int i) (· < ·) (fun a b lt => by
        rw [PySem.W.dataLt_int]
        exact decide_eq_true lt) _ h.entUp
  · show opensB (needsD P.opens) P.c = true
    unfold opensB
    have o4 := h.op4
    rw [needsB_ok (by omega) h.opIn, Bool.true_and]
    exact ascB_of nmD (fun p q => nmLt p q = true) (fun a b lt => by rw [nmD_lt]; exact lt) _ h.opUp
end Lb

set_option Elab.async false
set_option linter.all false
set_option maxRecDepth 100000
set_option maxHeartbeats 4000000
/-! enumerate over a tuple, walked -/
namespace Lb
open PySem PySem.Spec PyProof.Rows L2
/-- enumerate, of one argument: any that begins -/
theorem enum_one {v : Value} {o : Obj} {B : Heap → Prop} (b : Begins v o B) :
    Meets (Builtin.«enumerate.__new__» ⟨[.type "enumerate", v], []⟩) (fun _ R s => B s.heap ∧
      R (.ok (.ret (.ref (s.heap.push o).objs.size))) { s with heap := (s.heap.push o).push { cls := .type "enumerate", data := .fields #[.none, .bool false, .ref s.heap.objs.size, rawInt 0, .none, .none] } }) :=
  .of_wp fun prog w A R s h => by
    obtain ⟨hp, g, d, tk, os⟩ := s
    obtain ⟨h1, h⟩ := h
    have under := sub_enumerate
    have begins : ∀ {A' : Around} {E : Value → Shared → Prop} {Q : Value → Shared → Prop}, Q (.ref hp.objs.size) ⟨hp.push o, g, d, tk, os⟩ → wpAny (model prog w) A' (pyIter v) Q E ⟨hp, g, d, tk, os⟩ :=
      fun q => b.iter prog w _ _ ⟨hp, g, d, tk, os⟩ _ h1 q
    wp_walk using begins
    refine wpAny_stack_any fun st => wpAny_pure ?_
    split
    · rename_i c _ _ _ _ _
      cases (c == Value.type "enumerate") <;> (wp_walk using begins; exact ⟨_, rfl, h⟩)
    · wp_walk using begins
      exact ⟨_, rfl, h⟩
theorem enum_tup {prog : Program} {w : World} {A : Around} {E : Value → Shared → Prop} {s : Shared} {t : Addr} {items : Array Value} {Q : Value → Shared → Prop} (ht : s.heap.IsTuple t items)
    (h : ∀ h', IsEnum h' (s.heap.objs.size + 1) s.heap.objs.size 0 .none → h'.IsTupleIter s.heap.objs.size t 0 → h'.objs.size = s.heap.objs.size + 2 →
      (∀ b o, s.heap.get? b = some o → h'.get? b = some o) → Q (.ref (s.heap.objs.size + 1)) { s with heap := h' }) :
    wpAny (model prog w) A (call (.type "enumerate") [.ref t]) Q E s := by
  have B := begins_tuple t items
  refine callType_new F.called_enumerate (by decide) (F.typeCall_enumerate_1 _) (F.newCall_enumerate_1 _) (fun obj => F.args_object_init_2 obj _) F.entry_enumerate_new (enum_one B) ⟨ht, ?_⟩
  have hz : (s.heap.push { cls := .type "tuple_iterator", data := .fields #[.ref t, .int 0 0] }).objs.size = s.heap.objs.size + 1 := Heap.size_push ..
  show _ ∧ _
  rw [hz]
  have he : IsEnum ((s.heap.push { cls := .type "tuple_iterator", data := .fields #[.ref t, .int 0 0] }).push { cls := .type "enumerate", data := .fields #[.none, .bool false, .ref s.heap.objs.size, rawInt 0, .none, .none] }) (s.heap.objs.size + 1) s.heap.objs.size 0 .none := by
    have z := Heap.get?_push_size (s.heap.push { cls := .type "tuple_iterator", data := .fields #[.ref t, .int 0 0] }) (o := { cls := .type "enumerate", data := .fields #[.none, .bool false, .ref s.heap.objs.size, rawInt 0, .none, .none] }) rfl
    rw [hz] at z
    exact z
  exact ⟨⟨_, he, rfl⟩, h _ he ⟨_, Heap.get?_push_of_some _ (Heap.get?_push_size _ rfl), rfl, rfl⟩ (by rw [Heap.size_push, hz]) fun b o x => Heap.get?_push_of_some _ (Heap.get?_push_of_some _ x)⟩
/-- the tuple at a as it stands at each turn, each item in a new pair -/
def IteT (K : PySem.W.Frag) (a : Addr) : It :=
  ⟨fun i H => ∃ (xs : List V) (x : V), SqT K H a xs ∧ xs[i]? = some x, fun i H v H' => ∃ T x, v = .ref T ∧ H T = none ∧ H' = upd H T (.tup [.int (i : Nat), x]) ∧ ∀ xs, SqT K H a xs → xs[i]? = some x,
    fun i H => ∃ xs : List V, SqT K H a xs ∧ xs.length ≤ i⟩
theorem turn_enumT {P : Program} {w : World} {K : PySem.W.Frag} {elts : List Expr} {kk : Nat} {tpos : Pos} (a e it : Addr) :
    Turn P w K (.Tuple elts kk tpos) (IteT K a) [e, it] e (fun i h => (∃ old, IsEnum h e it ((i : Nat) : Int) old) ∧ h.IsTupleIter it a i ∧ e ≠ it) where
  mem := List.mem_cons_self
  obj := fun i h st b hb => by
    obtain ⟨⟨old, he⟩, ⟨o, ho, hc, hd⟩, _⟩ := st
    rcases List.mem_cons.mp hb with z | z
    · rw [z]
      exact ⟨_, he, fun v q => nomatch q⟩
    · rw [List.mem_singleton.mp z]
      exact ⟨o, ho, fun v q => by rw [hd] at q; cases q⟩
  keep := fun i h h' st k => by
    obtain ⟨⟨old, he⟩, hi, ne⟩ := st
    exact ⟨⟨old, k e List.mem_cons_self _ he⟩, hi.at fun o q => k it (List.mem_cons_of_mem _ List.mem_cons_self) o q, ne⟩
  item := by
    intro X hP hw hK hc i pins s σ H E I hf st hg
    subst hP hw hK
    obtain ⟨⟨old, he⟩, hit, hne⟩ := st
    obtain ⟨xs, x, hq, hx⟩ := hg
    obtain ⟨its, rv, p, hz⟩ := I.tuple hq
    obtain ⟨u, hu, ru⟩ := rv.get hx
    have pt : s.heap.IsTuple a its.toArray := p
    have hel : e < s.heap.objs.size := Heap.lt_size he
    have hil : it < s.heap.objs.size := by
      obtain ⟨_, q, _⟩ := hit
      exact Heap.lt_size q
    have hai : a ≠ it := fun z => by
      obtain ⟨o1, q1, c1, _⟩ := hit
      obtain ⟨o2, q2, c2, _⟩ := pt
      rw [z, q1] at q2
      obtain rfl := Option.some.inj q2
      rw [c1] at c2
      exact absurd c2 (by decide)
    have hae : a ≠ e := fun z => by
      obtain ⟨o2, q2, c2, _⟩ := pt
      rw [z, he] at q2
      obtain rfl := Option.some.inj q2
      exact absurd (show Value.type "enumerate" = Value.type "tuple" from c2) (by decide)
    have D : Draws X.prog X.w X.A.in1 it [it, a] its.toArray.size (fun i v => its.toArray[i]? = some v) (fun i h => h.IsTupleIter it a i ∧ h.IsTuple a its.toArray) := Draws.tuple (show X.A.in1.handled = none from I.ok.hd hc) it a hai its.toArray
    have ilt : i < its.toArray.size := by
      have z := (List.getElem?_eq_some_iff.mp hu).1
      simpa using z
    refine wpAny_pyNext_enum_itemD D he ⟨hit, pt⟩ ilt hne (fun z => ?_) fun y h' tk hy ho st' hT hsz hk => ?_
    · rcases List.mem_cons.mp z with z | z
      · exact hne z
      · exact hae (List.mem_singleton.mp z).symm
    have hyu : y = u := by
      have hy2 : its.toArray[i]? = some y := hy
      rw [List.getElem?_toArray, hu] at hy2
      exact (Option.some.inj hy2).symm
    subst hyu
    refine ⟨_, rfl, wpAny_letOwnedTupleGo_enum (s := { s with heap := h', toks := tk + 1 }) ho fun h'' he' sb => ?_⟩
    have hT2 : h''.get? s.heap.objs.size = some { cls := .type "tuple", data := .seq #[.int i tk, y] } := (sb.2 _ (Nat.ne_of_gt hel)).trans hT
    have new : ObjOk X.prog X.w (upd H s.heap.objs.size (.tup [.int (i : Nat), x])) h'' s.heap.objs.size (.tup [.int (i : Nat), x]) :=
      ⟨by show 2 ≤ sizeLine; decide, [.int i tk, y], .cons ⟨_, rfl⟩ (.cons ru .nil), ⟨_, hT2, rfl, _, rfl⟩⟩
    have I1 : Inv X pins σ (upd H s.heap.objs.size (.tup [.int (i : Nat), x])) { s with heap := h'', toks := tk + 1 } :=
      I.turnedNew (ch := [e, it]) (fun b ob hb q => (sb.2 b (fun z => hb (by simp [z]))).trans (hk b ob (fun z => hb (by simp [z])) (fun z => hb (by simp [z])) q)) hf (Nat.le_refl _) new
    refine ⟨.ref s.heap.objs.size, _, I1, rfl, ⟨_, x, rfl, I.hok.fresh (Nat.le_refl _), rfl, fun ys hys => by rw [I.tuple_inj hys hq]; exact hx⟩, ⟨⟨y, ?_⟩, st'.1.at fun o q => (sb.2 it (Ne.symm hne)).trans q, hne⟩, fun b hb => ?_⟩
    · have e1 : ((i + 1 : Nat) : Int) = (i : Int) + 1 := by omega
      rw [e1]
      exact he'
    · have hb' : b < s.heap.objs.size := by
        rcases List.mem_cons.mp hb with z | z
        · rw [z]
          exact hel
        · rw [List.mem_singleton.mp z]
          exact hil
      rw [upd_ne (Nat.ne_of_lt hb')]
      exact (hf b hb).1
  done := by
    intro X hP hw hK hc i pins s σ H E I hf st hg
    subst hP hw hK
    obtain ⟨⟨old, he⟩, hit, hne⟩ := st
    obtain ⟨xs, hq, hx⟩ := hg
    obtain ⟨its, rv, p, hz⟩ := I.tuple hq
    have pt : s.heap.IsTuple a its.toArray := p
    have none_ : its.toArray[i]? = none := by
      have hl := rv.length
      rw [List.getElem?_toArray]
      exact List.getElem?_eq_none (by omega)
    obtain ⟨f0, f1, f2, f3, f4, f5⟩ := hf it (List.mem_cons_of_mem _ List.mem_cons_self)
    have ty : s.TypeIs (.ref e) "enumerate" := ⟨_, he, rfl⟩
    unfold pyNext
    refine wpAny_bind (wpAny_attempt (wpAny_callSpecial?_slot (name := Str.ofString "__next__") ty F.slot_enumerate_next
      (wpAny_call_entry F.slot_enumerate_next ty F.entry_enumerate_next ?_ (F.args_enumerate_next_1 _))))
    show wpAny _ _ (field (.ref e) 2 >>= fun _ => _) _ _ _
    refine wpAny_bind (wpAny_field he rfl (x := .ref it) rfl ?_)
    refine wpAny_bind (wpAny_nextOf_tuple_end (show X.A.in1.handled = none from I.ok.hd hc) hit pt none_ fun h' x eb hx' => ?_)
    obtain ⟨o, ho, hcl⟩ := hx'
    refine wpAny_bind (wpAny_isInstance (T := "StopIteration") (b := true) ⟨o, ho, hcl⟩ isSubtype_stop ?_)
    exact wpAny_pure ⟨rfl, I.turned (t' := s.toks) (fun b o hb q => eb b o hb q) f0 f1 f3 f4 f5⟩
  self := fun A i s Q E st h => by
    obtain ⟨⟨_, he⟩, _⟩ := st
    exact wpAny_pyIter_enum he h
def iEnumT (K : PySem.W.Frag) (ta : TA) : TI := fun σ H R => ta σ H fun vs H1 => ∃ a xs, vs = [.ref a] ∧ SqT K H1 a xs ∧ R (IteT K a) H1
theorem pi_enumT {X : Cx} {e : Expr} {ta : TA} {p pos tpos : Pos} {elts : List Expr} {kk : Nat} (hg : Gl X "enumerate") (hm : X.mg "enumerate" = none) (ha : PA X [e] ta) (hs : starEach [e] X.env = [(false, eval e X.env)] := by rfl) :
    PI X (.Tuple elts kk tpos) (.Call (.Name "enumerate" p) [e] [] pos) (iEnumT X.K ta) := by
  refine ⟨fun pins s σ H R I h => ?_⟩
  refine Call_ (ld_blt I hg hm boot_enumerate (PyProof.Rows.callWith_type1 (thn (ha.run pos pins s σ H _ I h) fun us s1 ⟨vs, H1, I1, r1, q1⟩ => ?_) hs rfl))
  obtain ⟨a, xs, ex, hq, q⟩ := q1
  subst ex
  cases r1 with
  | cons r rr =>
    cases rr
    cases r
    obtain ⟨its, rv, pt, hz⟩ := I1.tuple hq
    refine enum_tup (show s1.heap.IsTuple a its.toArray from pt) fun h' he hit hsz hk => wpAny_pyIter_enum he ?_
    have I2 : Inv X pins σ H1 { s1 with heap := h' } := I1.kept (t' := s1.toks) hk
    refine ⟨s1.heap.objs.size + 1, [s1.heap.objs.size + 1, s1.heap.objs.size], _, _, H1, rfl, I2, turn_enumT a (s1.heap.objs.size + 1) s1.heap.objs.size, ⟨⟨.none, he⟩, hit, Nat.succ_ne_self _⟩, fun b hb => ?_, q⟩
    have le : s1.heap.objs.size ≤ b := by
      rcases List.mem_cons.mp hb with z | z
      · rw [z]
        exact Nat.le_add_right _ _
      · rw [List.mem_singleton.mp z]
        exact Nat.le_refl _
    exact I1.fpOk le (I1.hok.fresh le)
theorem walk_enumT {K : PySem.W.Frag} {a : Addr} {xs : List V} : Walk (IteT K a) xs.length (fun H => SqT K H a xs) (YPair (fun i => some (.int (i : Nat))) (fun i => xs[i]?)) := by
  refine ⟨fun i _ hi q => ⟨xs, xs[i], q, List.getElem?_eq_getElem hi⟩, fun _ q => ⟨xs, q, Nat.le_refl _⟩, fun i H v H' _ q y => ?_⟩
  obtain ⟨T, x, h1, h2, h3, h4⟩ := y
  exact ⟨T, .int (i : Nat), x, h1, h2, h3, rfl, h4 xs q⟩
end Lb

set_option Elab.async false
set_option linter.all false
set_option maxRecDepth 100000
set_option maxHeartbeats 4000000
/-! the places of a program's rows, as data -/
namespace Lb
open PySem PySem.Spec PyProof.Rows L2
def placeD (i j : Nat) : PyData := .tuple [.int i, .int j]
def inPart (i n : Nat) : List PyData := (List.range n).map (placeD i)
def upTo (ps : List PyData) (i : Nat) : List PyData := (List.range i).flatMap fun k => inPart k (itemsD (ps.getD k .none)).length
def placesD (d : PyData) : List PyData := upTo (itemsD (nthD d 0)) (itemsD (nthD d 0)).length
theorem inPart_snoc (i n : Nat) : inPart i (n + 1) = inPart i n ++ [placeD i n] := by
  unfold inPart
  rw [List.range_succ, List.map_append]
  rfl
theorem upTo_snoc {ps : List PyData} {i : Nat} {rows : List PyData} (h : ps[i]? = some (.tuple rows)) : upTo ps (i + 1) = upTo ps i ++ inPart i rows.length := by
  unfold upTo
  rw [List.range_succ, List.flatMap_append, List.flatMap_cons, List.flatMap_nil, List.append_nil, getD_of h]
  rfl
theorem upTo_len {ps : List PyData} (h : ∀ p ∈ ps, ∃ rows, p = .tuple rows ∧ rows.length ≤ 5) : ∀ i : Nat, (upTo ps i).length ≤ 5 * i
  | 0 => Nat.le_refl _
  | i + 1 => by
    have ih := upTo_len h i
    unfold upTo at ih ⊢
    rw [List.range_succ, List.flatMap_append, List.flatMap_cons, List.flatMap_nil, List.append_nil, List.length_append]
    have e : (inPart i (itemsD (ps.getD i .none)).length).length ≤ 5 := by
      unfold inPart
      rw [List.length_map, List.length_range, List.getD_eq_getElem?_getD]
      cases q : ps[i]? with
      | none => exact Nat.zero_le _
      | some p =>
        obtain ⟨rows, rfl, h5⟩ := h p (List.mem_of_getElem? q)
        exact h5
    omega
theorem inPart_len (i n : Nat) : (inPart i n).length = n := by
  unfold inPart
  rw [List.length_map, List.length_range]
theorem places_mem {ps : List PyData} {i : Nat} {d : PyData} (h : d ∈ upTo ps i) : ∃ a b : Nat, d = placeD a b := by
  unfold upTo at h
  obtain ⟨k, _, h⟩ := List.mem_flatMap.mp h
  unfold inPart at h
  obtain ⟨j, _, rfl⟩ := List.mem_map.mp h
  exact ⟨k, j, rfl⟩
theorem noLst_all {ds : List PyData} (h : ∀ d ∈ ds, noLst d = true) : noLsts ds = true := by
  induction ds with
  | nil => rfl
  | cons d ds ih => rw [noLsts, h d List.mem_cons_self, ih fun e m => h e (List.mem_cons_of_mem _ m)]; rfl
theorem noLst_places (ps : List PyData) (i : Nat) : noLsts (upTo ps i) = true := noLst_all fun d hd => by
  obtain ⟨a, b, rfl⟩ := places_mem hd
  rfl
end Lb

set_option Elab.async false
set_option linter.all false
set_option maxRecDepth 100000
set_option maxHeartbeats 4000000
/-! the other drawing: a pool of numbers, words of rows -/
namespace Lb
open PySem PySem.Spec PyProof.Rows L2
/-- a pool stands at l; at most m draws were made -/
def Pool (m : Nat) (l : Addr) (H : Hp) : Prop := ∃ (k : Int) (cs : List Int), H l = some (.lst (V.int k :: cs.map V.int)) ∧ 0 ≤ k ∧ k ≤ m ∧ 1 ≤ cs.length ∧ cs.length ≤ 64
section
variable {m n : Nat} {l x : Addr} {H H' : Hp} {o : HO}
theorem Pool.le (p : Pool m l H) (h : m ≤ n) : Pool n l H := by
  obtain ⟨k, cs, e, k0, km, r⟩ := p
  exact ⟨k, cs, e, k0, by omega, r⟩
theorem Pool.same (p : Pool m l H) (s : Same H H') : Pool m l H' := by
  obtain ⟨k, cs, e, r⟩ := p
  exact ⟨k, cs, s _ _ e, r⟩
theorem Pool.away (p : Pool m l H) (n : x ≠ l) : Pool m l (upd H x o) := by
  obtain ⟨k, cs, e, r⟩ := p
  exact ⟨k, cs, by rw [upd_ne n.symm]; exact e, r⟩
theorem Pool.ne (p : Pool m l H) (nx : H x = none) : x ≠ l := fun z => by
  obtain ⟨k, cs, e, _⟩ := p
  rw [z, e] at nx
  exact nomatch nx
theorem Pool.new (p : Pool m l H) (nx : H x = none) : Pool m l (upd H x o) := p.away (p.ne nx)
theorem Pool.lst (p : Pool m l H) : ∃ xs, H l = some (.lst xs) := by
  obtain ⟨k, cs, e, _⟩ := p
  exact ⟨_, e⟩
end
theorem mixed_small {f k : Int} (f0 : 0 ≤ f) (f1 : f ≤ 1000007) (k0 : 0 ≤ k) (k1 : k ≤ 60000) :
    -(2 ^ 64) < f * f * (k + 7) + f * (k * k + 13) + (k + 11) ^ (3 : Int).toNat ∧ f * f * (k + 7) + f * (k * k + 13) + (k + 11) ^ (3 : Int).toNat < 2 ^ 64 := by
  have e3 : (k + 11) ^ (3 : Int).toNat = (k + 11) * (k + 11) * (k + 11) := by
    show (k + 11) ^ 3 = _
    rw [Int.pow_succ, Int.pow_succ, Int.pow_succ, Int.pow_zero, Int.one_mul]
  rw [e3]
  have le : ∀ {a b c d : Int}, 0 ≤ a → a ≤ b → 0 ≤ c → c ≤ d → 0 ≤ a * c ∧ a * c ≤ b * d := fun a0 ab c0 cd =>
    ⟨Int.mul_nonneg a0 c0, Int.mul_le_mul ab cd c0 (by omega)⟩
  have h1 := le f0 f1 f0 f1
  have h2 := le h1.1 h1.2 (show 0 ≤ k + 7 by omega) (show k + 7 ≤ 60007 by omega)
  have h3 := le k0 k1 k0 k1
  have h4 := le f0 f1 (show 0 ≤ k * k + 13 by omega) (show k * k + 13 ≤ 60000 * 60000 + 13 by omega)
  have h5 := le (show 0 ≤ k + 11 by omega) (show k + 11 ≤ 60011 by omega) (show 0 ≤ k + 11 by omega) (show k + 11 ≤ 60011 by omega)
  have h6 := le h5.1 h5.2 (show 0 ≤ k + 11 by omega) (show k + 11 ≤ 60011 by omega)
  omega
theorem prime_at {r : Int} (r0 : 0 ≤ r) (r1 : r < 5) : ∃ p : Int, atI [V.int 999979, V.int 999961, V.int 999953, V.int 999931, V.int 999917] r = some (.int p) ∧ 0 < p ∧ p < 1073741824 := by
  rcases (by omega : r = 0 ∨ r = 1 ∨ r = 2 ∨ r = 3 ∨ r = 4) with e | e | e | e | e <;> subst e
  · exact ⟨999979, rfl, by decide, by decide⟩
  · exact ⟨999961, rfl, by decide, by decide⟩
  · exact ⟨999953, rfl, by decide, by decide⟩
  · exact ⟨999931, rfl, by decide, by decide⟩
  · exact ⟨999917, rfl, by decide, by decide⟩
abbrev Wd := Str × Str
def wdD (q : Wd) : PyData := .tuple [.str q.1, .str q.2]
def wdsD (l : List Wd) : PyData := .list (l.map wdD)
def wordsL : List Str := ["load", "give", "pass", "show", "late", "give", "load", "out"]
theorem wordL_at {v : Int} (h0 : 0 ≤ v) (h1 : v < 8) : ∃ x, atI (wordsL.map V.str) v = some (.str x) ∧ x ∈ wordsOf := by
  have lt : v.toNat < wordsL.length := by
    show v.toNat < 8
    omega
  have e := atI_nat (xs := wordsL.map V.str) (j := v.toNat) (v := .str wordsL[v.toNat]) (by rw [List.getElem?_map, List.getElem?_eq_getElem lt]; rfl)
  rw [Int.toNat_of_nonneg h0] at e
  refine ⟨_, e, ?_⟩
  have all : ∀ x ∈ wordsL, x ∈ wordsOf := by decide +kernel
  exact all _ (List.getElem_mem lt)
def isOutW (q : Wd) : Bool := decide (q.1 = ("out" : Str))
def outsW (l : List Wd) : Nat := l.countP isOutW
def totW (ws : List (List Wd)) : Nat := ws.flatten.length
def outW (ws : List (List Wd)) : Nat := outsW ws.flatten
def Wd.ok (q : Wd) : Prop := q.1 ∈ wordsOf ∧ q.2 ∈ letters
structure WsOk (ws : List (List Wd)) : Prop where
  five : ∀ l ∈ ws, l.length ≤ 5
  ok : ∀ l ∈ ws, ∀ q ∈ l, Wd.ok q
  total : totW ws ≤ 12
  outs : outW ws ≤ 2
theorem totW_snoc (ws : List (List Wd)) (l : List Wd) : totW (ws ++ [l]) = totW ws + l.length := by simp [totW]
theorem outW_snoc (ws : List (List Wd)) (l : List Wd) : outW (ws ++ [l]) = outW ws + outsW l := by simp [outW, outsW]
theorem outsW_snoc (l : List Wd) (q : Wd) : outsW (l ++ [q]) = outsW l + (if q.1 = ("out" : Str) then 1 else 0) := by
  simp only [outsW, List.countP_append, List.countP_singleton, isOutW, decide_eq_true_eq]
theorem noLst_wds (l : List Wd) : noLsts (l.map wdD) = true := by
  induction l with
  | nil => rfl
  | cons q l ih => rw [List.map_cons, noLsts, ih]; rfl
theorem noDicts_nms (ps : List Nm) : noDicts (ps.map nmD) = true := by
  induction ps with
  | nil => rfl
  | cons p ps ih => rw [List.map_cons, noDicts, ih]; rfl
theorem noDict_nms (ps : List Nm) : noDict (.list (ps.map nmD)) = true := noDicts_nms ps
theorem strOk_letter {s : Str} (h : s ∈ letters) : PyData.canLay0 (.str s) = true := by
  have all : ∀ x ∈ letters, PyData.canLay0 (.str x) = true := by decide +kernel
  exact all s h
theorem lay_nms {c : Int} : ∀ {ps : List Nm}, (∀ p ∈ ps, nmOk c p) → PyData.canLayAll0 (ps.map nmD) = true
  | [], _ => by simp only [List.map_nil, PyData.canLayAll0]
  | p :: ps, h => by
    have h1 := strOk_letter (h p List.mem_cons_self).2.2
    have h2 := lay_nms (ps := ps) fun q hq => h q (List.mem_cons_of_mem _ hq)
    simp only [List.map_cons, PyData.canLayAll0, nmD, PyData.canLay0, h2, Bool.and_true, Bool.true_and]
    simpa only [PyData.canLay0] using h1
theorem depth_nms : ∀ ps : List Nm, PyData.depthAll (ps.map nmD) ≤ 2
  | [] => by simp only [List.map_nil, PyData.depthAll]; omega
  | p :: ps => by
    have := depth_nms ps
    simp only [List.map_cons, PyData.depthAll, nmD, PyData.depth]
    omega
theorem shaped_nms {c : Int} {ps : List Nm} (h : ∀ p ∈ ps, nmOk c p) : SeqAt.shaped (.list (ps.map nmD)) = true := by
  have := depth_nms ps
  unfold SeqAt.shaped
  rw [Bool.and_eq_true, decide_eq_true_eq]
  refine ⟨by simp only [PyData.canLay0]; exact lay_nms h, by simp only [PyData.depth]; omega⟩
def showA : Wd := ("show", "a")
def withShow (ws : List (List Wd)) (at_ : Nat) : List (List Wd) := ws.set at_ ((ws.getD at_ []).dropLast ++ [showA])
theorem wsOk_set {ws : List (List Wd)} {n : Nat} (ok : WsOk ws) (h : n < ws.length) (ne : ws.getD n [] ≠ [] ∨ totW ws = 0) : WsOk (withShow ws n) := by
  obtain ⟨pre, x, post, e, en⟩ : ∃ pre x post, ws = pre ++ x :: post ∧ pre.length = n := ⟨ws.take n, ws[n], ws.drop (n + 1), by rw [List.getElem_cons_drop, List.take_append_drop], by rw [List.length_take]; omega⟩
  subst e
  have gx : (pre ++ x :: post).getD n [] = x := by
    rw [List.getD_eq_getElem?_getD, List.getElem?_append_right (by omega), en, Nat.sub_self]
    rfl
  have se : withShow (pre ++ x :: post) n = pre ++ (x.dropLast ++ [showA]) :: post := by
    unfold withShow
    rw [gx, List.set_append_right _ _ (by omega), en, Nat.sub_self]
    rfl
  rw [gx] at ne
  rw [se]
  obtain ⟨o1, o2, o3, o4⟩ := ok
  have tg : ∀ y : List Wd, totW (pre ++ y :: post) = pre.flatten.length + (y.length + post.flatten.length) := fun y => by
    unfold totW
    rw [List.flatten_append, List.flatten_cons, List.length_append, List.length_append]
  have ug : ∀ y : List Wd, outW (pre ++ y :: post) = outsW pre.flatten + (outsW y + outsW post.flatten) := fun y => by
    unfold outW outsW
    rw [List.flatten_append, List.flatten_cons, List.countP_append, List.countP_append]
  have t1 := tg x
  have t2 := tg (x.dropLast ++ [showA])
  rw [List.length_append, List.length_dropLast, List.length_singleton] at t2
  have u1 := ug x
  have u2 := ug (x.dropLast ++ [showA])
  have u4 : outsW (x.dropLast ++ [showA]) = outsW x.dropLast + 0 := by
    have z : outsW [showA] = 0 := by decide +kernel
    rw [← z]
    unfold outsW
    rw [List.countP_append]
  rw [u4] at u2
  have u3 : outsW x.dropLast ≤ outsW x := (List.dropLast_sublist x).countP_le
  have xl : x ≠ [] → 0 < x.length := fun z => List.length_pos_iff.mpr z
  rw [t1] at o3 ne
  rw [u1] at o4
  have sub : ∀ y ∈ x.dropLast ++ [showA], y ∈ x ∨ y = showA := fun y hy => by
    rcases List.mem_append.mp hy with z | z
    · exact .inl ((List.dropLast_sublist x).subset z)
    · exact .inr (List.mem_singleton.mp z)
  refine ⟨fun y hy => ?_, fun y hy => ?_, ?_, ?_⟩
  · rcases List.mem_append.mp hy with z | z
    · exact o1 y (List.mem_append_left _ z)
    · rcases List.mem_cons.mp z with z | z
      · have := o1 x (List.mem_append_right _ List.mem_cons_self)
        rw [z, List.length_append, List.length_dropLast, List.length_singleton]
        omega
      · exact o1 y (List.mem_append_right _ (List.mem_cons_of_mem _ z))
  · rcases List.mem_append.mp hy with z | z
    · exact o2 y (List.mem_append_left _ z)
    · rcases List.mem_cons.mp z with z | z
      · rw [z]
        intro q hq
        rcases sub q hq with e | e
        · exact o2 x (List.mem_append_right _ List.mem_cons_self) q e
        · rw [e]
          exact ⟨by decide +kernel, by decide +kernel⟩
      · exact o2 y (List.mem_append_right _ (List.mem_cons_of_mem _ z))
  · rw [t2]
    rcases ne with z | z
    · have := xl z
      omega
    · omega
  · rw [u2]
    omega
theorem withShow_at (ws : List (List Wd)) (n i : Nat) (h : i < ws.length) : (withShow ws n)[i]? = some (if i = n then (ws.getD n []).dropLast ++ [showA] else ws.getD i []) := by
  unfold withShow
  rw [List.getElem?_set]
  by_cases c : n = i
  · rw [if_pos c, if_pos (by omega), if_pos c.symm]
  · rw [if_neg c, if_neg (fun z => c z.symm), List.getD_eq_getElem?_getD, List.getElem?_eq_getElem h, Option.getD_some]
theorem withShow_len (ws : List (List Wd)) (n : Nat) : (withShow ws n).length = ws.length := List.length_set ..
theorem noDict_wds (l : List Wd) : noDict (wdsD l) = true := by
  show noDicts (l.map wdD) = true
  induction l with
  | nil => rfl
  | cons q l ih => rw [List.map_cons, noDicts, ih]; rfl
theorem strOk_word {s : Str} (h : s ∈ wordsOf) : PyData.canLay0 (.str s) = true := by
  have all : ∀ x ∈ wordsOf, PyData.canLay0 (.str x) = true := by decide +kernel
  exact all s h
theorem lay_wds : ∀ {l : List Wd}, (∀ q ∈ l, Wd.ok q) → PyData.canLayAll0 (l.map wdD) = true
  | [], _ => by simp only [List.map_nil, PyData.canLayAll0]
  | q :: l, h => by
    have h1 := strOk_word (h q List.mem_cons_self).1
    have h3 := strOk_letter (h q List.mem_cons_self).2
    have h2 := lay_wds (l := l) fun q hq => h q (List.mem_cons_of_mem _ hq)
    simp only [List.map_cons, PyData.canLayAll0, wdD, h1, h3, PyData.canLay0, h2, Bool.and_true, Bool.true_and]
    simp only [PyData.canLay0] at h1 h3
    rw [h1, h3]
    rfl
theorem depth_wds : ∀ l : List Wd, PyData.depthAll (l.map wdD) ≤ 2
  | [] => by simp only [List.map_nil, PyData.depthAll]; omega
  | q :: l => by
    have := depth_wds l
    simp only [List.map_cons, PyData.depthAll, wdD, PyData.depth]
    omega
theorem shaped_wds {l : List Wd} (h : ∀ q ∈ l, Wd.ok q) : SeqAt.shaped (wdsD l) = true := by
  have := depth_wds l
  unfold SeqAt.shaped wdsD
  rw [Bool.and_eq_true, decide_eq_true_eq]
  refine ⟨by simp only [PyData.canLay0]; exact lay_wds h, by simp only [PyData.depth]; omega⟩
theorem eqv_wds (l : List Wd) : PyData.eqv (wdsD l) (.list []) = decide (l = []) := by
  cases l with
  | nil => rfl
  | cons p r => rfl
theorem cut_last (xs : List V) : cutV xs none (some (-1)) = xs.dropLast := by
  have e : HT.sIx xs.length xs.length (some (-1)) = xs.length - 1 := by
    unfold HT.sIx
    simp
    omega
  have e0 : HT.sIx xs.length 0 none = 0 := rfl
  unfold cutV
  rw [e, e0, List.dropLast_eq_take]
  simp
theorem same_own {H H' : Hp} {x : Addr} {o : HO} (s : Same H H') (h : H x = none) : Same H (upd H' x o) := fun b u e => by
  rw [upd_ne (ne_of_none e h)]
  exact s _ _ e
theorem totW_zero : ∀ {ws : List (List Wd)}, (∀ j, j < ws.length → ws.getD j [] = []) → totW ws = 0
  | [], _ => rfl
  | x :: ws, h => by
    have hx : x = [] := h 0 (Nat.succ_pos _)
    have := totW_zero (ws := ws) fun j hj => h (j + 1) (Nat.succ_lt_succ hj)
    unfold totW at *
    rw [hx, List.flatten_cons, List.nil_append]
    exact this
/-- a heap by what is known of it -/
theorem at_heap {t : TS} {D : Ends} {σ : L2.St} {H : Hp} (F : Hp → Prop) (h : F H) (k : ∀ H', F H' → t D σ H') : t D σ H := k H h
/-- what holds behind a statement, said once -/
theorem cut_by {t u : TS} {D : Ends} {σ : L2.St} {H : Hp} (R : L2.St → Hp → Prop) (h2 : ∀ σ H, R σ H → u D σ H) (h1 : (∀ σ H, R σ H → u D σ H) → t { D with nx := u D } σ H) : tSeq t u D σ H := h1 h2
theorem sub_range {ys : List V} {c : Int} (h : ys.Sublist (rgV 0 c)) : ∃ es : List Int, ys = es.map V.int ∧ (∀ e ∈ es, 0 ≤ e ∧ e < c) ∧ es.Pairwise (· < ·) := by
  unfold rgV at h
  obtain ⟨is, s, e⟩ := List.sublist_map_iff.mp h
  refine ⟨is.map fun (i : Nat) => (i : Int), ?_, fun x hx => ?_, ?_⟩
  · rw [e, List.map_map]
    refine List.map_congr_left fun i _ => ?_
    show V.int (0 + (i : Int)) = V.int (i : Int)
    rw [Int.zero_add]
  · obtain ⟨i, hi, rfl⟩ := List.mem_map.mp hx
    have := List.mem_range.mp (s.subset hi)
    omega
  · rw [List.pairwise_map]
    exact (List.pairwise_lt_range.sublist s).imp fun {a b} z => by omega
theorem shaped_ints (es : List Int) : SeqAt.shaped (.list (es.map PyData.int)) = true := by
  have h1 : PyData.canLayAll0 (es.map PyData.int) = true := by
    induction es with
    | nil => simp only [List.map_nil, PyData.canLayAll0]
    | cons e es ih => simp only [List.map_cons, PyData.canLayAll0, PyData.canLay0, ih, Bool.and_true]
  have h2 : PyData.depthAll (es.map PyData.int) ≤ 1 := by
    clear h1
    induction es with
    | nil => simp only [List.map_nil, PyData.depthAll]; omega
    | cons e es ih => simp only [List.map_cons, PyData.depthAll, PyData.depth]; omega
  unfold SeqAt.shaped
  rw [Bool.and_eq_true, decide_eq_true_eq]
  exact ⟨by simp only [PyData.canLay0]; exact h1, by simp only [PyData.depth]; omega⟩
theorem noDict_ints (es : List Int) : noDict (.list (es.map PyData.int)) = true := by
  show noDicts (es.map PyData.int) = true
  induction es with
  | nil => rfl
  | cons e es ih => rw [List.map_cons, noDicts, ih]; rfl
theorem eqv_ints (es : List Int) : PyData.eqv (.list (es.map PyData.int)) (.list []) = decide (es = []) := by
  cases es with
  | nil => rfl
  | cons p r => rfl
theorem with_show_rows {prs : List (List Row)} {ws : List (List Wd)} (pw : prs.map (List.map Row.word) = ws.map (List.map Prod.fst)) (g : ∃ x ∈ ws, ∃ q ∈ x, q.1 = ("give" : Str) ∨ q.1 = ("show" : Str)) :
    ∃ rs ∈ prs, ∃ r ∈ rs, r.word = ("give" : Str) ∨ r.word = ("show" : Str) := by
  obtain ⟨x, hx, q, hq, e⟩ := g
  have m : x.map Prod.fst ∈ prs.map (List.map Row.word) := by
    rw [pw]
    exact List.mem_map.mpr ⟨x, hx, rfl⟩
  obtain ⟨rs, hrs, ers⟩ := List.mem_map.mp m
  have m2 : q.1 ∈ rs.map Row.word := by
    rw [ers]
    exact List.mem_map.mpr ⟨q, hq, rfl⟩
  obtain ⟨r, hr, er⟩ := List.mem_map.mp m2
  exact ⟨rs, hrs, r, hr, by rw [er]; exact e⟩
/-- rows by their words -/
theorem prog_shapeW {prs : List (List Row)} {ws : List (List Wd)} (pw : prs.map (List.map Row.word) = ws.map (List.map Prod.fst)) (ok : WsOk ws) :
    prs.length = ws.length ∧ (∀ rs ∈ prs, rs.length ≤ 5) ∧ prs.flatten.length ≤ 12 ∧ (prs.flatten.map Row.word).countP (fun w : Str => decide (w = ("out" : Str))) ≤ 2 := by
  have e : prs.flatten.map Row.word = ws.flatten.map Prod.fst := by rw [List.map_flatten, List.map_flatten, pw]
  refine ⟨?_, fun rs hrs => ?_, ?_, ?_⟩
  · have z := congrArg List.length pw
    rwa [List.length_map, List.length_map] at z
  · have m : rs.map Row.word ∈ ws.map (List.map Prod.fst) := by
      rw [← pw]
      exact List.mem_map.mpr ⟨rs, hrs, rfl⟩
    obtain ⟨xs, hxs, ex⟩ := List.mem_map.mp m
    have z := congrArg List.length ex
    rw [List.length_map, List.length_map] at z
    have := ok.five xs hxs
    omega
  · have z := congrArg List.length e
    rw [List.length_map, List.length_map] at z
    have := ok.total
    unfold totW at this
    omega
  · rw [e, List.countP_map]
    exact ok.outs
/-- a part of a list of values read as data -/
theorem Reps.subl {S : List Addr} {H : Hp} : ∀ {xs ys : List V} {ds : List PyData}, Reps S H xs ds → ys.Sublist xs → ∃ es, es.Sublist ds ∧ Reps S H ys es
  | _, _, _, .nil, s => by
    cases s
    exact ⟨[], .slnil, .nil⟩
  | _, _, _, .cons r rs, s => by
    cases s with
    | cons _ s =>
      obtain ⟨es, e1, e2⟩ := Reps.subl rs s
      exact ⟨es, .cons _ e1, e2⟩
    | cons_cons _ s =>
      obtain ⟨es, e1, e2⟩ := Reps.subl rs s
      exact ⟨_, .cons_cons _ e1, .cons r e2⟩
end Lb

set_option Elab.async false
set_option linter.all false
set_option maxRecDepth 100000
set_option maxHeartbeats 4000000
/-! sep.join(map(f, t)), t a tuple; str of numbers -/
namespace Lb
open PySem PySem.Spec PyProof.Rows L2
section
variable {P : Program} {w : World} {A : Around} {E : Value → Shared → Prop} {s : Shared}
theorem join_over_tuple {x : Str} {u : Tok} {f : Value} {a : Addr} {vs : Array Value} {ys : List Str} {C : Value → Prop} {R : Value → Value → Prop} {Q : Value → Shared → Prop} (quiet : A.handled = none)
    (ht : s.heap.IsTuple a vs) (hF : MpR.MapF P w f C R) (each : ∀ (i : Nat) (z : Value), vs[i]? = some z → C z) (few : vs.size ≤ sizeLine)
    (texts : ∀ acc : Array Value, ItemsOf (fun i v => ∃ z, vs[i]? = some z ∧ R z v) acc vs.size → StrsAre acc.toList ys) (room : (ys.map (·.length)).sum + ys.length * x.length ≤ 16777216)
    (fin : ∀ h' u' k, (∀ b o, s.heap.get? b = some o → h'.get? b = some o) → Q (.str (Txt.join x ys) u') { s with heap := h', toks := k }) :
    wpAny (model P w) A (call (.type "map") [f, .ref a]) (fun v now => wpAny (model P w) A (call (.builtin "str.join") [.str x u, v]) Q E now) E s := by
  have quiet3 : A.in1.in1.in1.handled = none := quiet
  have low : a < s.heap.objs.size := by
    obtain ⟨o, ho, _⟩ := ht
    exact Heap.lt_size ho
  have grown : (s.heap.push { cls := .type "tuple_iterator", data := .fields #[.ref a, .int 0 0] }).objs.size = s.heap.objs.size + 1 := Heap.size_push ..
  refine MpR.join_map_by (P := fun i z => vs[i]? = some z) quiet hF each few texts room (wpAny_pyIter_tuple ht ?_)
  refine ⟨s.heap.objs.size, [s.heap.objs.size, a], _, rfl, Draws.tuple quiet3 s.heap.objs.size a (Nat.ne_of_lt low) vs, by simp, fun b hb => ?_, ⟨⟨_, Heap.get?_push_size _ rfl, rfl, rfl⟩, ?_⟩, fun h' k kept u' => ?_⟩
  · show b < (s.heap.push { cls := .type "tuple_iterator", data := .fields #[.ref a, .int 0 0] }).objs.size
    rw [grown]
    rcases List.mem_cons.mp hb with z | z
    · rw [z]
      exact Nat.lt_succ_self _
    · rw [List.mem_singleton.mp z]
      exact Nat.lt_succ_of_lt low
  · obtain ⟨o, ho, r⟩ := ht
    exact ⟨o, Heap.get?_push_of_some _ ho, r⟩
  · exact fin h' u' k fun b o e => kept b o (Nat.ne_of_lt (Heap.lt_size e)) (Heap.get?_push_of_some _ e)
end
def digT (i : Int) : Str := Str.ofString (toString i)
def strV : V → V
  | .int i => .str (digT i)
  | y => y
theorem mapV_str {P : Program} {w : World} : MapV P w (.type "str") (fun x => ∃ i : Int, x = .int i ∧ i.natAbs.log2 < 1920) strV := by
  refine mapV_of fun A E Q s x u _ c rx done => ?_
  obtain ⟨i, rfl, hz⟩ := c
  obtain ⟨t, rfl⟩ := rx
  exact PySem.P.str_of_int hz (done _ _ ⟨_, rfl⟩)
section
variable {X : Cx}
/-- sep.join(map(f, t)), t a tuple -/
def tJoinT (K : PySem.W.Frag) (C : V → Prop) (g : V → V) (to : TE) (ta : TA) : TE := fun σ H Q => to σ H fun x H1 => (∃ y, x = .str y) ∧ ta σ H1 fun vs H2 => ∃ (y : Str) (p : Addr) (xs : List V) (ws : List Str), x = .str y ∧ vs = [.ref p] ∧ SqT K H2 p xs ∧ (∀ z ∈ xs, C z) ∧
  xs.map g = ws.map V.str ∧ (ws.map (·.length)).sum + ws.length * y.length ≤ 16777216 ∧ Q (.str (Txt.join y ws)) H2
theorem pe_joinT {o fe e : Expr} {to : TE} {ta : TA} {f : Value} {C : V → Prop} {g : V → V} {apos pos p pos2 : Pos} (calm : X.calm = true) (ho : PE X o to) (glob : Gl X "map") (free : X.mg "map" = none) (hf : PF X fe f) (ha : PA X [e] ta) (hF : MapV X.prog X.w f C g)
    (s1 : starEach [.Call (.Name "map" p) [fe, e] [] pos2] X.env = [(false, eval (.Call (.Name "map" p) [fe, e] [] pos2) X.env)] := by rfl) (s2 : starEach [fe, e] X.env = (false, eval fe X.env) :: starEach [e] X.env := by rfl)
    (pl : (backTo pos2 (starEach [e] X.env)).any (·.1) = false := by rfl) (ab : attributeBase o "join" X.env (eval o X.env) = eval o X.env := by rfl) (ln : (apos.endLine == pos.line) = true := by rfl) :
    PE X (.Call (.Attribute o "join" apos) [.Call (.Name "map" p) [fe, e] [] pos2] [] pos) (tJoinT X.K C g to ta) := by
  refine ⟨fun pins s σ H Q I h => PySem.Call_method1 ab s1 ln (thn (ho.run pins s σ H _ I h) fun v now ⟨x, H1, I1, r1, q1⟩ => ?_)⟩
  obtain ⟨⟨y, rfl⟩, q1⟩ := q1
  obtain ⟨t, rfl⟩ := _root_.id r1
  refine ⟨"str", _, F.plainAttrs_str, F.slot_str_join, F.type_str_join, typeIs_str _ _ _, (fun _ z => nomatch z), Calls.callWith_builtin rfl (Calls.evalArgs_plain (Calls.spliced_cons ?_))⟩
  refine wpAny_Call_Name_kw (ld_blt I1 glob free boot_map (PyProof.Rows.callWith_type1 ?_ s2 pl))
  rw [s2]
  show wpAny _ _ (spliced ((false, eval fe X.env) :: backTo pos2 (starEach [e] X.env))) _ _ now
  refine Calls.spliced_cons (hf.run pins now σ H1 _ I1 fun now2 I2 => ?_)
  refine thn (ha.run pos2 pins now2 σ H1 _ I2 q1) fun us now3 ⟨vs, H2, I3, r3, q3⟩ => ?_
  obtain ⟨y', q, xs, ws, ey, rfl, hq, each, maps, room, q3⟩ := q3
  cases ey
  cases r3 with
  | cons r rest =>
    cases rest
    cases r
    obtain ⟨its, rv, ht, few⟩ := I3.tuple hq
    have len : its.length = xs.length := rv.length.symm
    have tup : now3.heap.IsTuple q its.toArray := by
      obtain ⟨o, ho, hc, n, hd⟩ := ht
      exact ⟨o, ho, hc, n, hd⟩
    refine wpAny_mono (join_over_tuple (x := y) (u := t) (ys := ws) (Q := EP X pins σ Q) (E := X.xe) (I3.ok.hd calm) tup hF (fun i z hz => ?_) (by simp only [List.size_toArray]; omega) (fun acc hacc => mapV_len rv maps hacc) room
      fun h' t' k kept => ⟨.str _, H2, I3.kept (t' := k) kept, ⟨t', rfl⟩, q3⟩) (fun v s4 h4 => Calls.spliced_nil h4) fun _ _ z => z
    have hz2 : its[i]? = some z := by simpa using hz
    have il : i < xs.length := by
      have := (List.getElem?_eq_some_iff.mp hz2).1
      omega
    obtain ⟨z2, hz3, rz⟩ := rv.get (i := i) (x := xs[i]) (List.getElem?_eq_getElem il)
    obtain rfl : z2 = z := Option.some.inj (hz3.symm.trans hz2)
    exact ⟨xs[i], each _ (List.getElem_mem il), rz⟩
end
/-! short texts -/
theorem digT_len {i : Int} (h0 : -1 ≤ i) (h1 : i < 10) : (digT i).length ≤ 2 := by
  rcases (by omega : i = -1 ∨ i = 0 ∨ i = 1 ∨ i = 2 ∨ i = 3 ∨ i = 4 ∨ i = 5 ∨ i = 6 ∨ i = 7 ∨ i = 8 ∨ i = 9) with e | e | e | e | e | e | e | e | e | e | e <;> subst e <;> decide +kernel
theorem log_small {i : Int} (h0 : -1 ≤ i) (h1 : i < 100) : i.natAbs.log2 < 1920 := by
  have h : i.natAbs < 2 ^ 1919 := Nat.lt_of_lt_of_le (show i.natAbs < 2 ^ 7 by omega) (Nat.pow_le_pow_right (by decide) (by decide))
  by_cases z : i.natAbs = 0
  · rw [z]
    decide
  · exact Nat.lt_of_lt_of_le ((Nat.log2_lt z).mpr h) (by decide)
theorem letter_len {s : Str} (h : s ∈ letters) : s.length = 1 := by
  have all : ∀ x ∈ letters, x.length = 1 := by decide +kernel
  exact all s h
def needT (p : Nm) : Str := digT p.1 ++ "." ++ p.2
def needsT (ps : List Nm) : Str := if ps = [] then "-" else Txt.join "," (ps.map needT)
def riskT (b : Bool) : Str := if b then " !" else ""
def partT (p : Int) : Str := if p = -1 then "-" else digT p
def rowT : Row → Str
  | .out => "out"
  | .load p => "load " ++ digT p
  | .pass n p o => "pass " ++ n ++ " " ++ digT p ++ "." ++ o
  | .late n p ns => "late " ++ n ++ " " ++ partT p ++ " " ++ needsT ns
  | .give n ns r => "give " ++ n ++ " " ++ needsT ns ++ riskT r
  | .show_ ns r => "show " ++ needsT ns ++ riskT r
theorem len_app (a b : Str) : (a ++ b).length = a.length + b.length := Str.length_append a b
theorem join_len (y : Str) : ∀ ws : List Str, (Txt.join y ws).length ≤ (ws.map (·.length)).sum + ws.length * y.length
  | [] => Nat.zero_le _
  | [x] => by
    show x.length ≤ (x.length + 0) + 1 * y.length
    omega
  | x :: z :: r => by
    have ih := join_len y (z :: r)
    rw [TL.join_eq] at ih ⊢
    show (x ++ y ++ Str.join y (z :: r)).length ≤ _
    rw [len_app, len_app]
    simp only [List.map_cons, List.sum_cons, List.length_cons] at ih ⊢
    have e2 : (r.length + 1 + 1) * y.length = (r.length + 1) * y.length + y.length := Nat.succ_mul _ _
    omega
theorem sum_le {α : Type} (f : α → Nat) (b : Nat) : ∀ l : List α, (∀ x ∈ l, f x ≤ b) → (l.map f).sum ≤ l.length * b
  | [], _ => Nat.zero_le _
  | x :: l, h => by
    have h1 := h x List.mem_cons_self
    have h2 := sum_le f b l fun y hy => h y (List.mem_cons_of_mem _ hy)
    rw [List.map_cons, List.sum_cons, List.length_cons, Nat.add_mul, Nat.one_mul]
    omega
theorem needT_len {c : Int} {p : Nm} (h : nmOk c p) (c4 : c ≤ 4) : (needT p).length ≤ 4 := by
  have h1 := digT_len (i := p.1) (by have := h.1; omega) (by have := h.2.1; omega)
  have h2 := letter_len h.2.2
  have h3 : (("." : Str)).length = 1 := by decide +kernel
  unfold needT
  rw [len_app, len_app]
  omega
theorem needs_sum {c : Int} {ps : List Nm} (h : ∀ p ∈ ps, nmOk c p) (c4 : c ≤ 4) : ((ps.map needT).map (·.length)).sum ≤ ps.length * 4 := by
  rw [List.map_map]
  exact sum_le _ 4 ps fun p hp => needT_len (h p hp) c4
theorem comma_len : (("," : Str)).length = 1 := by decide +kernel
theorem needsT_len {c : Int} {ps : List Nm} (h : ∀ p ∈ ps, nmOk c p) (c4 : c ≤ 4) (n4 : ps.length ≤ 4) : (needsT ps).length ≤ 20 := by
  unfold needsT
  by_cases e : ps = []
  · rw [if_pos e]
    decide +kernel
  · rw [if_neg e]
    have h1 := join_len "," (ps.map needT)
    have h2 := needs_sum h c4
    rw [comma_len, List.length_map] at h1
    omega
theorem riskT_len (b : Bool) : (riskT b).length ≤ 2 := by cases b <;> decide +kernel
theorem partT_len {p : Int} (h0 : -1 ≤ p) (h1 : p < 4) : (partT p).length ≤ 2 := by
  unfold partT
  split
  · decide +kernel
  · exact digT_len h0 (by omega)
theorem rowT_len {c : Int} {r : Row} (h : r.ok c) (c4 : c ≤ 4) : (rowT r).length ≤ 40 := by
  have k5 : (("load " : Str)).length = 5 := by decide +kernel
  have k6 : (("pass " : Str)).length = 5 := by decide +kernel
  have k7 : (("late " : Str)).length = 5 := by decide +kernel
  have k8 : (("give " : Str)).length = 5 := by decide +kernel
  have k9 : (("show " : Str)).length = 5 := by decide +kernel
  have k1 : ((" " : Str)).length = 1 := by decide +kernel
  have k2 : (("." : Str)).length = 1 := by decide +kernel
  cases r with
  | out => decide +kernel
  | load p =>
    have := digT_len (i := p) (by have := h.1; omega) (by have := h.2; omega)
    simp only [rowT, len_app]
    omega
  | pass n p o =>
    have h1 := letter_len h.1
    have h2 := letter_len h.2.2
    have h3 := digT_len (i := p) (by have := h.2.1.1; omega) (by have := h.2.1.2; omega)
    simp only [rowT, len_app]
    omega
  | late n p ns =>
    have h1 := letter_len h.1
    have h2 := partT_len (p := p) h.2.1.1 (by have := h.2.1.2; omega)
    have h3 := needsT_len h.2.2.2 c4 (by have := h.2.2.1; omega)
    simp only [rowT, len_app]
    omega
  | give n ns b =>
    have h1 := letter_len h.1
    have h2 := riskT_len b
    have h3 := needsT_len h.2.2 c4 (by have := h.2.1; omega)
    simp only [rowT, len_app]
    omega
  | show_ ns b =>
    have h2 := riskT_len b
    have h3 := needsT_len h.2 c4 (by have := h.1; omega)
    simp only [rowT, len_app]
    omega
def needsL : Row → List Nm
  | .give _ ns _ => ns
  | .show_ ns _ => ns
  | .late _ _ ns => ns
  | _ => []
def riskB : Row → Bool
  | .give _ _ b => b
  | .show_ _ b => b
  | _ => false
def partTs (q : List Row × Bool) : List Str := (if q.2 then ("part plain" : Str) else "part") :: q.1.map rowT
def headT (P : Prog) : List Str := ["entries " ++ Txt.join "" (P.entries.map digT), "open " ++ needsT P.opens]
def linesT (P : Prog) : List Str := headT P ++ (P.parts.zip P.marks).flatMap partTs
def progT (P : Prog) : Str := Txt.join "\n" (linesT P)
theorem entT_len {P : Prog} (ok : P.Ok) : (Txt.join "" (P.entries.map digT)).length ≤ 6 := by
  have h1 := join_len "" (P.entries.map digT)
  have h2 : ((P.entries.map digT).map (·.length)).sum ≤ P.entries.length * 2 := by
    rw [List.map_map]
    refine sum_le _ 2 _ fun e he => ?_
    have z := ok.entIn e he
    have c4 := ok.four
    unfold Prog.c at z
    exact digT_len (by omega) (by omega)
  have h3 : (("" : Str)).length = 0 := by decide +kernel
  have := ok.ent3
  rw [h3] at h1
  omega
theorem c_le {P : Prog} (ok : P.Ok) : P.c ≤ 4 := by
  have := ok.four
  unfold Prog.c
  omega
theorem partTs_small {P : Prog} (ok : P.Ok) {q : List Row × Bool} (h : q ∈ P.parts.zip P.marks) : (partTs q).length ≤ 6 ∧ ∀ x ∈ partTs q, x.length ≤ 60 := by
  have hm := (List.of_mem_zip h).1
  refine ⟨?_, fun x hx => ?_⟩
  · have := ok.five _ hm
    show (q.1.map rowT).length + 1 ≤ 6
    rw [List.length_map]
    omega
  · rcases List.mem_cons.mp hx with e | e
    · rw [e]
      cases q.2 <;> decide +kernel
    · obtain ⟨r, hr, rfl⟩ := List.mem_map.mp e
      have := rowT_len (ok.rows _ hm r hr) (c_le ok)
      omega
theorem flat_small {P : Prog} (ok : P.Ok) : ∀ l : List (List Row × Bool), (∀ q ∈ l, q ∈ P.parts.zip P.marks) → (l.flatMap partTs).length ≤ 6 * l.length
  | [], _ => Nat.zero_le _
  | q :: l, h => by
    have h1 := (partTs_small ok (h q List.mem_cons_self)).1
    have h2 := flat_small ok l fun r hr => h r (List.mem_cons_of_mem _ hr)
    rw [List.flatMap_cons, List.length_append, List.length_cons]
    omega
theorem lines_some {P : Prog} (ok : P.Ok) (i : Nat) : (headT P ++ ((P.parts.zip P.marks).take i).flatMap partTs).length ≤ 26 := by
  have h := flat_small ok ((P.parts.zip P.marks).take i) fun q hq => List.mem_of_mem_take hq
  rw [List.length_take, List.length_zip] at h
  have := ok.four
  rw [List.length_append]
  show 2 + _ ≤ 26
  omega
theorem lines_small {P : Prog} (ok : P.Ok) : ∀ x ∈ linesT P, x.length ≤ 60 := by
  intro x hx
  rcases List.mem_append.mp hx with e | e
  · rcases List.mem_cons.mp e with e | e
    · rw [e, len_app]
      have h1 := entT_len ok
      have h2 : (("entries " : Str)).length = 8 := by decide +kernel
      omega
    · rw [List.mem_singleton.mp e, len_app]
      have h1 := needsT_len ok.opIn (c_le ok) ok.op4
      have h2 : (("open " : Str)).length = 5 := by decide +kernel
      omega
  · obtain ⟨q, hq, hx⟩ := List.mem_flatMap.mp e
    exact (partTs_small ok hq).2 x hx
theorem lines_many {P : Prog} (ok : P.Ok) : (linesT P).length ≤ 26 := by
  have h := lines_some ok (P.parts.zip P.marks).length
  rwa [List.take_length] at h
theorem nl_len : (("\n" : Str)).length = 1 := by decide +kernel
theorem lines_room {P : Prog} (ok : P.Ok) : ((linesT P).map (·.length)).sum + (linesT P).length * (("\n" : Str)).length ≤ 16777216 := by
  have h1 := sum_le (fun x : Str => x.length) 60 (linesT P) (lines_small ok)
  have h2 := lines_many ok
  rw [nl_len]
  omega
theorem bls_of {S : List Addr} {H : Hp} : ∀ {bs : List Bool} {xs : List V}, Reps S H xs (bs.map .bool) → xs = bs.map V.bl
  | [], _, .nil => rfl
  | b :: bs, _, .cons r rs => by rw [r.blV, bls_of rs, List.map_cons]
theorem ints_of {S : List Addr} {H : Hp} : ∀ {es : List Int} {xs : List V}, Reps S H xs (es.map .int) → xs = es.map V.int
  | [], _, .nil => rfl
  | e :: es, _, .cons r rs => by rw [r.intV, ints_of rs, List.map_cons]
theorem Reps.single {S : List Addr} {H : Hp} {xs : List V} {d : PyData} (r : Reps S H xs [d]) : ∃ v, xs = [v] ∧ Rep S H v d := by
  cases r with
  | cons r1 rs => cases rs; exact ⟨_, rfl, r1⟩
theorem Reps.three {S : List Addr} {H : Hp} {xs : List V} {d e f : PyData} (r : Reps S H xs [d, e, f]) : ∃ u v w, xs = [u, v, w] ∧ Rep S H u d ∧ Rep S H v e ∧ Rep S H w f := by
  cases r with
  | cons r1 r => cases r with
    | cons r2 r => cases r with
      | cons r3 r => cases r; exact ⟨_, _, _, rfl, r1, r2, r3⟩
theorem Reps.four {S : List Addr} {H : Hp} {xs : List V} {d e f g : PyData} (r : Reps S H xs [d, e, f, g]) : ∃ u v w x, xs = [u, v, w, x] ∧ Rep S H u d ∧ Rep S H v e ∧ Rep S H w f ∧ Rep S H x g := by
  cases r with
  | cons r1 r => cases r with
    | cons r2 r => cases r with
      | cons r3 r => cases r with
        | cons r4 r => cases r; exact ⟨_, _, _, _, rfl, r1, r2, r3, r4⟩
theorem emp (a : Str) : Str.empty ++ a = a := Str.empty_append a
end Lb

set_option Elab.async false
set_option linter.all false
set_option maxRecDepth 100000
set_option maxHeartbeats 4000000
/-! zip of a list and a tuple -/
namespace ZLT
open PySem PySem.Spec PyProof.Rows L2
/-- the list at a and the tuple at b, in new pairs -/
def ItzM (K : PySem.W.Frag) (a b : Addr) : It where
  go := fun i H => ∃ (xs ys : List V) (x y : V), SqL K H a xs ∧ SqT K H b ys ∧ xs[i]? = some x ∧ ys[i]? = some y
  yld := fun i H v H' => ∃ T x y, v = .ref T ∧ H T = none ∧ H' = upd H T (.tup [x, y]) ∧ (∀ xs, SqL K H a xs → xs[i]? = some x) ∧ ∀ ys, SqT K H b ys → ys[i]? = some y
  stop := fun i H => ∃ xs ys : List V, SqL K H a xs ∧ SqT K H b ys ∧ i ≤ xs.length ∧ i ≤ ys.length ∧ (i = xs.length ∨ i = ys.length)
theorem sepM {a b z TI TO i1 i2 : Addr} (D : ZipApart z TI TO i1 i2 a b) : ZipSep2 z TI TO i1 i2 [i1, a] [i2, b] where
  TIz := D.TIz
  TOz := D.TOz
  TITO := D.TITO
  TIi1 := D.TIi1
  mem1 := List.mem_cons_self
  zf1 := by simp [D.i1z.symm, D.l1z.symm]
  Tf1 := by simp [D.TOi1, D.l1TO.symm]
  TIi2 := D.TIi2
  mem2 := List.mem_cons_self
  zf2 := by simp [D.i2z.symm, D.l2z.symm]
  Tf2 := by simp [D.TOi2, D.l2TO.symm]
  sep1_2 := by simp [D.i12, D.l2i1.symm]
  sep2_1 := by simp [D.i12.symm, D.l1i2.symm]
def ZSt (z TI TO i1 i2 a b : Addr) (i : Nat) (h : Heap) : Prop := IsZip h z TI TO .none ∧ IsPair h TI (.ref i1) (.ref i2) ∧ (∃ x y, IsPair h TO x y) ∧ h.IsListIter i1 a i ∧ h.IsTupleIter i2 b i
theorem five {z TI TO i1 i2 c : Addr} (h : c ∈ [z, TI, TO, i1, i2]) : c = z ∨ c = TI ∨ c = TO ∨ c = i1 ∨ c = i2 := by simpa using h
theorem turnM {P : Program} {w : World} {K : PySem.W.Frag} {elts : List Expr} {kk : Nat} {tpos : Pos} {a b z TI TO i1 i2 : Addr} (D : ZipApart z TI TO i1 i2 a b) :
    Turn P w K (.Tuple elts kk tpos) (ItzM K a b) [z, TI, TO, i1, i2] z (ZSt z TI TO i1 i2 a b) where
  mem := List.mem_cons_self
  obj := fun i h st c hc => by
    have ⟨hz, hTI, ⟨x, y, hTO⟩, ⟨o1, e1, _, d1⟩, ⟨o2, e2, _, d2⟩⟩ := st
    rcases five hc with q | q | q | q | q <;> subst q
    · exact ⟨_, hz, fun v q => nomatch q⟩
    · exact ⟨_, hTI, fun v q => nomatch q⟩
    · exact ⟨_, hTO, fun v q => nomatch q⟩
    · exact ⟨o1, e1, fun v q => by rw [d1] at q; exact nomatch q⟩
    · exact ⟨o2, e2, fun v q => by rw [d2] at q; exact nomatch q⟩
  keep := fun i h h' st k => by
    have ⟨hz, hTI, ⟨x, y, hTO⟩, h1, h2⟩ := st
    exact ⟨k _ (by simp) _ hz, k _ (by simp) _ hTI, ⟨x, y, k _ (by simp) _ hTO⟩, h1.at fun o q => k _ (by simp) o q, h2.at fun o q => k _ (by simp) o q⟩
  item := by
    intro X hP hw hK hc i pins s σ H E I hf st hg
    subst hP hw hK
    have ⟨hz, hTI, ⟨x0, y0, hTO⟩, h1, h2⟩ := st
    have ⟨xs, ys, x, y, hqx, hqy, hx, hy⟩ := hg
    have ⟨its, rv, p, _⟩ := I.list hqx
    have ⟨its2, rv2, p2, _⟩ := I.tuple hqy
    have ⟨u, hu, ru⟩ := rv.get hx
    have ⟨u2, hu2, ru2⟩ := rv2.get hy
    have hh := I.ok.hd hc
    have lt1 : i < its.toArray.size := by
      rw [List.size_toArray]
      exact (List.getElem?_eq_some_iff.mp hu).1
    have lt2 : i < its2.toArray.size := by
      rw [List.size_toArray]
      exact (List.getElem?_eq_some_iff.mp hu2).1
    refine wpAny_pyNext_zipD2_item (sepM D) (Draws.list (A := X.A.in1) hh i1 a D.l1i1 its.toArray) (Draws.tuple (A := X.A.in1) hh i2 b D.l2i2 its2.toArray) hz hTI hTO ⟨h1, p.isList⟩ ⟨h2, p2⟩ lt1 lt2 fun x1 x2 h' tk e1 e2 z' TO' st1 st2 hT hsz hk => ?_
    obtain rfl : u = x1 := by
      have e : its.toArray[i]? = some x1 := e1
      rw [List.getElem?_toArray, hu] at e
      exact Option.some.inj e
    obtain rfl : u2 = x2 := by
      have e : its2.toArray[i]? = some x2 := e2
      rw [List.getElem?_toArray, hu2] at e
      exact Option.some.inj e
    refine ⟨_, rfl, wpAny_letOwnedTupleGo_zip (s := { s with heap := h', toks := tk }) z' fun h'' z'' sb => ?_⟩
    have ge : ∀ {c o}, s.heap.get? c = some o → s.heap.objs.size ≠ c := fun e => Nat.ne_of_gt (Heap.lt_size e)
    have hT2 : h''.get? s.heap.objs.size = some { cls := .type "tuple", data := .seq #[u, u2] } := (sb.2 _ (ge hz)).trans hT
    have new : ObjOk X.prog X.w (upd H s.heap.objs.size (.tup [x, y])) h'' s.heap.objs.size (.tup [x, y]) :=
      ⟨by show 2 ≤ sizeLine; decide, [u, u2], .cons ru (.cons ru2 .nil), ⟨_, hT2, rfl, _, rfl⟩⟩
    have old : ∀ c o, c ∉ [z, TI, TO, i1, i2] → s.heap.get? c = some o → h''.get? c = some o := fun c o hb q => by
      have n : c ≠ z ∧ c ≠ TI ∧ c ≠ TO ∧ c ≠ i1 ∧ c ≠ i2 := by simpa using hb
      exact (sb.2 c n.1).trans (hk c o n.1 n.2.2.1 n.2.2.2.1 n.2.2.2.2 q)
    have I1 : Inv X pins σ (upd H s.heap.objs.size (.tup [x, y])) { s with heap := h'', toks := tk } := I.turnedNew (t' := tk) (ch := [z, TI, TO, i1, i2]) old hf (Nat.le_refl _) new
    refine ⟨.ref s.heap.objs.size, _, I1, rfl, ⟨_, x, y, rfl, I.hok.fresh (Nat.le_refl _), rfl, fun l hl => by rw [I.list_inj hl hqx]; exact hx, fun l hl => by rw [I.tuple_inj hl hqy]; exact hy⟩, ⟨z'', (sb.2 _ D.TIz).trans (hk _ _ D.TIz D.TITO D.TIi1 D.TIi2 hTI), ⟨u, u2, (sb.2 _ D.TOz).trans TO'⟩, st1.1.at fun o q => (sb.2 _ D.i1z).trans q, st2.1.at fun o q => (sb.2 _ D.i2z).trans q⟩, fun c hcm => ?_⟩
    have hlt : s.heap.objs.size ≠ c := by
      rcases five hcm with q | q | q | q | q <;> subst q
      · exact ge hz
      · exact ge hTI
      · exact ge hTO
      · obtain ⟨_, e1, _⟩ := h1
        exact ge e1
      · obtain ⟨_, e2, _⟩ := h2
        exact ge e2
    rw [upd_ne hlt.symm]
    exact (hf c hcm).1
  done := by
    intro X hP hw hK hc i pins s σ H E I hf st hg
    subst hP hw hK
    have ⟨hz, hTI, ⟨x0, y0, hTO⟩, h1, h2⟩ := st
    have ⟨xs, ys, hqx, hqy, le1, le2, hend⟩ := hg
    have ⟨its, rv, p, _⟩ := I.list hqx
    have ⟨its2, rv2, p2, _⟩ := I.tuple hqy
    have n1 : its.toArray.size = xs.length := by rw [List.size_toArray]; exact rv.length.symm
    have n2 : its2.toArray.size = ys.length := by rw [List.size_toArray]; exact rv2.length.symm
    have hh := I.ok.hd hc
    refine wpAny_pyNext_zipD2_end (sepM D) (Draws.list (A := X.A.in1) hh i1 a D.l1i1 its.toArray) (Draws.tuple (A := X.A.in1) hh i2 b D.l2i2 its2.toArray) hz hTI hTO ⟨h1, p.isList⟩ ⟨h2, p2⟩ (by rw [n1]; exact le1) (by rw [n2]; exact le2) (by rw [n1, n2]; exact hend) fun h' tk hk => ?_
    refine ⟨rfl, I.turnedL (t' := tk) (ch := [z, TI, TO, i1, i2]) (fun c o hb q => ?_) hf⟩
    have n : c ≠ z ∧ c ≠ TI ∧ c ≠ TO ∧ c ≠ i1 ∧ c ≠ i2 := by simpa using hb
    exact hk c o n.1 n.2.2.1 n.2.2.2.1 n.2.2.2.2 q
  self := fun A i s Q E st h => wpAny_pyIter_zip st.1 h
/-! the call -/
def g1 (h : Heap) (a : Addr) : Heap := h.push { cls := .type "list_iterator", data := .fields #[.ref a, .int 0 0] }
def g2 (h : Heap) (a b : Addr) : Heap := (g1 h a).push { cls := .type "tuple_iterator", data := .fields #[.ref b, .int 0 0] }
def g3 (h : Heap) (a b : Addr) : Heap := (g2 h a b).push { cls := .type "tuple", data := .seq #[.ref h.objs.size, .ref (g1 h a).objs.size] }
def g4 (h : Heap) (a b : Addr) : Heap := (g3 h a b).push { cls := .type "tuple", data := .seq #[.none, .none] }
def g5 (h : Heap) (a b : Addr) : Heap := (g4 h a b).push { cls := .type "zip", data := .fields #[.none, .bool false, .bool false, .ref (g2 h a b).objs.size, .ref (g3 h a b).objs.size] }
theorem meetsM (a b : Addr) (xs ys : Array Value) :
    Meets (Builtin.«zip.__new__» ⟨[.type "zip", .ref a, .ref b], []⟩) (fun _ R s => s.heap.IsList a xs ∧ s.heap.IsTuple b ys ∧ R (.ok (.ret (.ref (g4 s.heap a b).objs.size))) { s with heap := g5 s.heap a b }) :=
  .of_wp fun prog w A R s h => by
    obtain ⟨hp, g, d, tk, os⟩ := s
    obtain ⟨hl1, hl2, h⟩ := h
    have hsub := sub_zip
    have hL1 : Heap.IsList (Shared.heap ⟨hp, g, d, tk, os⟩) a xs := hl1
    have hL2 : Heap.IsTuple (Shared.heap ⟨hp.push { cls := .type "list_iterator", data := .fields #[.ref a, .int 0 0] }, g, d, tk, os⟩) b ys := by
      obtain ⟨o, ho, r⟩ := hl2
      exact ⟨o, Heap.get?_push_of_some _ ho, r⟩
    wp_walk using wpAny_pyIter_list hL1, wpAny_pyIter_tuple hL2
    exact ⟨_, rfl, h⟩
theorem push5 {h : Heap} {a b c : Addr} {o : Obj} (x : h.get? c = some o) : (g5 h a b).get? c = some o := Heap.get?_push_of_some _ (Heap.get?_push_of_some _ (Heap.get?_push_of_some _ (Heap.get?_push_of_some _ (Heap.get?_push_of_some _ x))))
section
variable {prog : Program} {w : World} {A : Around} {E : Value → Shared → Prop} {s : Shared}
theorem callM {a b : Addr} {xs ys : Array Value} {Q : Value → Shared → Prop} (hl1 : s.heap.IsList a xs) (hl2 : s.heap.IsTuple b ys)
    (h : ∀ h', ZSt (s.heap.objs.size + 4) (s.heap.objs.size + 2) (s.heap.objs.size + 3) s.heap.objs.size (s.heap.objs.size + 1) a b 0 h' →
      (∀ c o, s.heap.get? c = some o → h'.get? c = some o) → Q (.ref (s.heap.objs.size + 4)) { s with heap := h' }) :
    wpAny (model prog w) A (call (.type "zip") [.ref a, .ref b]) Q E s := by
  refine callType_new F.called_zip (by decide) (F.typeCall_zip_2 _ _) (F.newCall_zip_2 _ _) (fun obj => F.args_object_init_3 obj _ _) F.entry_zip_new (meetsM a b xs ys) ⟨hl1, hl2, ?_⟩
  have z1 : (g1 s.heap a).objs.size = s.heap.objs.size + 1 := Heap.size_push ..
  have z2 : (g2 s.heap a b).objs.size = s.heap.objs.size + 2 := by unfold g2; rw [Heap.size_push, z1]
  have z3 : (g3 s.heap a b).objs.size = s.heap.objs.size + 3 := by unfold g3; rw [Heap.size_push, z2]
  have z4 : (g4 s.heap a b).objs.size = s.heap.objs.size + 4 := by unfold g4; rw [Heap.size_push, z3]
  have a5 : (g5 s.heap a b).get? (g4 s.heap a b).objs.size = some _ := Heap.get?_push_size _ rfl
  have a4 : (g5 s.heap a b).get? (g3 s.heap a b).objs.size = some _ := Heap.get?_push_of_some _ (Heap.get?_push_size _ rfl)
  have a3 : (g5 s.heap a b).get? (g2 s.heap a b).objs.size = some _ := Heap.get?_push_of_some _ (Heap.get?_push_of_some _ (Heap.get?_push_size _ rfl))
  have a2 : (g5 s.heap a b).get? (g1 s.heap a).objs.size = some _ := Heap.get?_push_of_some _ (Heap.get?_push_of_some _ (Heap.get?_push_of_some _ (Heap.get?_push_size _ rfl)))
  have a1 : (g5 s.heap a b).get? s.heap.objs.size = some _ := Heap.get?_push_of_some _ (Heap.get?_push_of_some _ (Heap.get?_push_of_some _ (Heap.get?_push_of_some _ (Heap.get?_push_size _ rfl))))
  show _ ∧ _
  rw [z2, z3, z4] at a5
  rw [z1, z2] at a3
  rw [z3] at a4
  rw [z1] at a2
  rw [z4]
  exact ⟨⟨_, a5, rfl⟩, h _ ⟨a5, a3, ⟨_, _, a4⟩, ⟨_, a1, rfl, rfl⟩, ⟨_, a2, rfl, rfl⟩⟩ fun c o x => push5 x⟩
end
/-- zip(xs, t), xs a list, t a tuple -/
def iZipM (K : PySem.W.Frag) (ta : TA) : TI := fun σ H R => ta σ H fun vs H1 => ∃ a b xs ys, vs = [.ref a, .ref b] ∧ SqL K H1 a xs ∧ SqT K H1 b ys ∧ R (ItzM K a b) H1
theorem pi_zipM {X : Cx} {e e2 : Expr} {ta : TA} {p pos tpos : Pos} {elts : List Expr} {kk : Nat} (hg : Gl X "zip") (hm : X.mg "zip" = none) (ha : PA X [e, e2] ta)
    (hs : starEach [e, e2] X.env = (false, eval e X.env) :: starEach [e2] X.env := by rfl) (hpl : (backTo pos (starEach [e2] X.env)).any (·.1) = false := by rfl) :
    PI X (.Tuple elts kk tpos) (.Call (.Name "zip" p) [e, e2] [] pos) (iZipM X.K ta) := by
  refine ⟨fun pins s σ H R I h => ?_⟩
  refine Call_ (ld_blt I hg hm PyProof.Rows.boot_zip (PyProof.Rows.callWith_type1 (thn (ha.run pos pins s σ H _ I h) fun us s1 ⟨vs, H1, I1, r1, q1⟩ => ?_) hs hpl))
  obtain ⟨a, b, xs, ys, ex, hqx, hqy, q⟩ := q1
  subst ex
  cases r1 with
  | cons r rr =>
    cases rr with
    | cons r' rr =>
      cases rr
      cases r
      cases r'
      have fresh : ∀ c, c ∈ [s1.heap.objs.size + 4, s1.heap.objs.size + 2, s1.heap.objs.size + 3, s1.heap.objs.size, s1.heap.objs.size + 1] → FpOk X pins H1 c := fun c hcm => by
        have hle : s1.heap.objs.size ≤ c := by
          rcases five hcm with z | z | z | z | z <;> rw [z]
          · exact Nat.le_add_right _ _
          · exact Nat.le_add_right _ _
          · exact Nat.le_add_right _ _
          · exact Nat.le_refl _
          · exact Nat.le_add_right _ _
        exact I1.fpOk hle (I1.hok.fresh hle)
      obtain ⟨its, rv, p1, _⟩ := I1.list hqx
      obtain ⟨its2, rv2, p2, _⟩ := I1.tuple hqy
      obtain ⟨o1, ho1, _⟩ := id p2
      refine callM p1.isList (show s1.heap.IsTuple b its2.toArray from p2) fun h' st hk => wpAny_pyIter_zip st.1 ?_
      have I2 : Inv X pins σ H1 { s1 with heap := h' } := I1.kept (t' := s1.toks) hk
      exact ⟨s1.heap.objs.size + 4, [s1.heap.objs.size + 4, s1.heap.objs.size + 2, s1.heap.objs.size + 3, s1.heap.objs.size, s1.heap.objs.size + 1], _, _, H1, rfl, I2, turnM (PySem.W.ktu_apart s1.heap.objs.size a b p1.lt (Heap.lt_size ho1)), st, fresh, q⟩
/-- its walk -/
theorem walkM {K : PySem.W.Frag} {a b : Addr} {xs ys : List V} {n : Nat} (hn : n = min xs.length ys.length) : Walk (ItzM K a b) n (fun H => SqL K H a xs ∧ SqT K H b ys) (YPair (fun i => xs[i]?) (fun i => ys[i]?)) := by
  subst hn
  refine ⟨fun i _ hi q => ?_, fun _ q => ⟨xs, ys, q.1, q.2, by omega, by omega, by omega⟩, fun i H v H' _ q y => ?_⟩
  · have c1 : i < xs.length := by omega
    have c2 : i < ys.length := by omega
    exact ⟨xs, ys, xs[i], ys[i], q.1, q.2, List.getElem?_eq_getElem c1, List.getElem?_eq_getElem c2⟩
  · obtain ⟨T, x, z, h1, h2, h3, h4, h5⟩ := y
    exact ⟨T, x, z, h1, h2, h3, h4 xs q.1, h5 ys q.2⟩
end ZLT

set_option Elab.async false
set_option linter.all false
set_option maxRecDepth 100000
set_option maxHeartbeats 4000000
/-! x in t, t a tuple of data; a loop by a measure -/
namespace Lb
open PySem PySem.Spec PyProof.Rows L2
section
variable {X : Cx}
/-- x in t, t a tuple of data -/
def rInTD (K : PySem.W.Frag) : R2 := fun x y H Q => ∃ d ds, Dp K H x d ∧ Dp K H y (.tuple ds) ∧ SeqAt.shaped d = true ∧ SeqAt.shaped (.tuple ds) = true ∧ Q (.bl (ds.any fun z => PyData.eqv z d)) H
theorem op_inTD (hu : X.A.units + 65 < cLine) : OpR X (compareOp .In) (rInTD X.K) := by
  intro pins s σ H x y v u Q I rx ry h
  obtain ⟨d, ds, dx, dy, sx, sy, q⟩ := h
  obtain ⟨as, reads1⟩ := Dp.reads I d x v dx rx
  obtain ⟨bs, reads2⟩ := Dp.reads I (.tuple ds) y u dy ry
  exact SeqAt.in_tuple_reads reads2 reads1 (SeqAt.canLay_of_shaped sy) (SeqAt.canLay_of_shaped sx) (room_in_shaped sx hu) ⟨.bl _, H, I, rfl, q⟩
end
/-- a comprehension with a test whose turns change nothing that stands: y i is what turn i gives, if it gives something -/
theorem lc_flt {J : It} {n : Nat} {G : Hp → Prop} {Y : Nat → Hp → V → Hp → Prop} (w : Walk J n G Y) {g : TG} {tt : TT} {te : TE} {vs : List Nat} {σ : L2.St} {H1 : Hp} {D : Addr} {Qd : Hp → Prop} (nD : H1 D = none) (y : Nat → Option V) (few : n < sizeLine)
    (hG : ∀ H', Same H1 H' → G H') (hs : ∀ i x H' H'' (F : V → Hp → Prop) (N : Hp → Prop), i < n → Same H1 H' → Y i H' x H'' → (∀ v, y i = some v → ∀ H3, Same H' H3 → F v H3) → (y i = none → ∀ H3, Same H' H3 → N H3) →
      g x (wipe σ vs) H'' fun σ2 H2 => wipe σ2 vs = wipe σ vs ∧ tt σ2 H2 fun b H3 => if b = true then te σ2 H3 F else N H3)
    (hd : ∀ H', Same H1 H' → H' D = some (.lst ((List.range n).filterMap y)) → Qd H') :
    ∃ W : Nat → Nat → Hp → Prop, (∃ m, W 0 m (upd H1 D (.lst []))) ∧ ∀ i m H, W i m H →
      (J.stop i H ∧ Qd H) ∨ (J.go i H ∧ ∃ Nx : Hp → Prop, (∀ H', Nx H' → ∃ m', m' < m ∧ W (i + 1) m' H') ∧ ∀ x H', J.yld i H x H' → g x (wipe σ vs) H' fun σ2 H2 => wipe σ2 vs = wipe σ vs ∧ tt σ2 H2 fun b H3 =>
        if b = true then te σ2 H3 fun y H4 => ∃ acc, H4 D = some (.lst acc) ∧ acc.length < sizeLine ∧ Nx (upd H4 D (.lst (acc ++ [y]))) else Nx H3) := by
  refine lc_it w (fun i H' => Same H1 H' ∧ H' D = some (.lst ((List.range i).filterMap y))) ⟨same_new nD, upd_same⟩ (fun i H' _ p => hG H' p.1) (fun i x H' H'' hi p hy => ?_) (fun H' p => hd H' p.1 p.2)
  obtain ⟨s1, d1⟩ := p
  have short : ((List.range i).filterMap y).length ≤ i := by
    have z := List.length_filterMap_le y (List.range i)
    rwa [List.length_range] at z
  refine hs i x H' H'' _ _ hi s1 hy (fun v e H3 s3 => ⟨_, s3 _ _ d1, by omega, same_own (s1.trans s3) nD, ?_⟩) (fun e H3 s3 => ⟨s1.trans s3, ?_⟩)
  · rw [upd_same, List.range_succ, List.filterMap_append]
    simp [e]
  · rw [s3 _ _ d1, List.range_succ, List.filterMap_append]
    simp [e]
theorem range_flt {α β : Type} (f : α → Option β) (d : α) (l : List α) : (List.range l.length).filterMap (fun i => f (l.getD i d)) = l.filterMap f := by
  have e : (List.range l.length).map (fun i => l.getD i d) = l := by
    refine List.ext_getElem (by simp) fun i h1 h2 => ?_
    simp only [List.getElem_map, List.getElem_range, List.getD_eq_getElem?_getD]
    rw [List.getElem?_eq_getElem h2, Option.getD_some]
  conv => rhs; rw [← e]
  rw [List.filterMap_map]
  rfl
theorem range_map {α β : Type} (f : α → β) (d : α) (l : List α) : (List.range l.length).map (fun i => f (l.getD i d)) = l.map f := by
  refine List.ext_getElem (by simp) fun i h1 h2 => ?_
  simp only [List.getElem_map, List.getElem_range, List.getD_eq_getElem?_getD]
  rw [List.getElem?_eq_getElem (by simpa using h2), Option.getD_some]
section
variable {X : Cx}
/-- a slice of a tuple, whichever object it is -/
def rSlS2 (K : PySem.W.Frag) : V → Option Int → Option Int → Hp → VK → Prop := fun x lo hi H Q => ∃ a xs, x = .ref a ∧ SqT K H a xs ∧ ∀ b H', Same H H' → SqT K H' b (cutV xs lo hi) → Q (.ref b) H'
theorem sl_tupS : SlR X (rSlS2 X.K) := by
  intro pins s σ H x lo v vl vu hi sl Q I rx hs pl pu h
  obtain ⟨a, xs, rfl, hx, q⟩ := h
  refine sl_tupA pins s σ H _ lo v vl vu hi sl Q I rx hs pl pu ⟨a, xs, rfl, hx, fun w => q a H (.refl H) ?_, fun _ p np => q p _ (same_new np) (SqT.of upd_same)⟩
  unfold cutV
  rw [w.1, w.2, List.drop_zero, Nat.sub_zero, List.take_length]
  exact hx
end
theorem cut_take (xs : List V) (k : Nat) : cutV xs none (some (k : Int)) = xs.take k := by
  unfold cutV
  rw [HT.sIx_nat, show HT.sIx xs.length 0 none = 0 from rfl, List.drop_zero, Nat.sub_zero, List.take_eq_take_iff]
  omega
theorem Rep.lstI {st : List Addr} {H : Hp} {a : Addr} {ds : List PyData} (r : Rep st H (.ref a) (.list ds)) : ∃ xs, H a = some (.lst xs) ∧ a ∉ st ∧ Reps st H xs ds := by
  cases r with
  | lst h n r => exact ⟨_, h, n, r⟩
/-- while, by what falls -/
theorem while_m {c : TT} {tb : TS} {D : Ends} {σ : L2.St} {H : Hp} (W : Nat → L2.St → Hp → Prop) (m : Nat) (h0 : W m σ H)
    (hs : ∀ m σ H, W m σ H → c σ H fun b H1 => if b = true then ∃ N : L2.St → Hp → Prop, (∀ σ' H', N σ' H' → ∃ m', m' < m ∧ W m' σ' H') ∧ tb { D with nx := N, ct := N, bk := D.nx } σ H1 else D.nx σ H1) : tWhile c tb D σ H := by
  refine ⟨W, ⟨m, h0⟩, fun m σ H w => ?_⟩
  have z := hs m σ H w
  exact z
end Lb

set_option Elab.async false
set_option linter.all false
set_option maxRecDepth 100000
set_option maxHeartbeats 4000000
/-! written data: what an expression of constants, tuples and lists gives -/
namespace Lb
open PySem PySem.Spec PyProof.Rows L2
def Occ (S : List Addr) (H : Hp) : Prop := ∀ a ∈ S, ∃ o, H a = some o
theorem Occ.sm {S : List Addr} {H H' : Hp} (o : Occ S H) (s : Same H H') : Occ S H' := fun a m => (o a m).elim fun u e => ⟨u, s _ _ e⟩
theorem Occ.new {S : List Addr} {H : Hp} {p : Addr} (o : Occ S H) (np : H p = none) : p ∉ S := fun m => by
  obtain ⟨u, e⟩ := o p m
  rw [np] at e
  exact nomatch e
/-- from H0 on, te gives (in new places) a value that reads as d -/
def Lit (S : List Addr) (σ : L2.St) (H0 : Hp) (te : TE) (d : PyData) : Prop := ∀ (H : Hp) (F : V → Hp → Prop), Same H0 H → (∀ H' v, Same H H' → Rep S H' v d → F v H') → te σ H F
def Lits (S : List Addr) (σ : L2.St) (H0 : Hp) (ta : TA) (ds : List PyData) : Prop := ∀ (H : Hp) (F : List V → Hp → Prop), Same H0 H → (∀ H' vs, Same H H' → Reps S H' vs ds → F vs H') → ta σ H F
section
variable {S : List Addr} {σ : L2.St} {H0 : Hp} {te tb : TE} {ta : TA} {d : PyData} {ds es : List PyData}
theorem lit_int (n : Int) : Lit S σ H0 (tC (.int n)) (.int n) := fun H F _ k => k H _ (.refl _) (.int n)
theorem lit_str (x : Str) : Lit S σ H0 (tC (.str x)) (.str x) := fun H F _ k => k H _ (.refl _) (.str x)
theorem lit_bl (b : Bool) : Lit S σ H0 (tC (.bl b)) (.bool b) := fun H F _ k => k H _ (.refl _) (.bl b)
theorem lit_non : Lit S σ H0 (tC .non) .none := fun H F _ k => k H _ (.refl _) .non
theorem lit_var {i : Nat} {v : V} (h : σ[i]? = some (some v)) (r : Rep S H0 v d) : Lit S σ H0 (tVar i) d := fun H F s k => ⟨v, h, k H v (.refl _) (r.sm s)⟩
theorem lits_nil : Lits S σ H0 tNil [] := fun H F _ k => k H [] (.refl _) .nil
theorem lits_cons (h : Lit S σ H0 te d) (hs : Lits S σ H0 ta ds) : Lits S σ H0 (tCons te ta) (d :: ds) := fun H F s k =>
  h H _ s fun H1 v s1 r => hs H1 _ (s.trans s1) fun H2 vs s2 rs => k H2 _ (s1.trans s2) (.cons (r.sm s2) rs)
theorem lit_tup (oc : Occ S H0) (hs : Lits S σ H0 ta ds) (few : ds.length ≤ sizeLine) : Lit S σ H0 (tTup ta) (.tuple ds) := fun H F s k =>
  hs H _ s fun H1 vs s1 rs => ⟨by rw [rs.length]; exact few, fun p np => k _ _ (s1.trans (same_new np)) (.tup upd_same ((oc.sm (s.trans s1)).new np) (rs.sm (same_new np)))⟩
theorem lit_lst (oc : Occ S H0) (hs : Lits S σ H0 ta ds) (few : ds.length ≤ sizeLine) : Lit S σ H0 (tLst ta) (.list ds) := fun H F s k =>
  hs H _ s fun H1 vs s1 rs => ⟨by rw [rs.length]; exact few, fun p np => k _ _ (s1.trans (same_new np)) (.lst upd_same ((oc.sm (s.trans s1)).new np) (rs.sm (same_new np)))⟩
theorem lit_cat (oc : Occ S H0) (hx : Lit S σ H0 te (.list ds)) (hy : Lit S σ H0 tb (.list es)) (few : (ds ++ es).length ≤ sizeLine) : Lit S σ H0 (tOp rCat te tb) (.list (ds ++ es)) := fun H F s k =>
  hx H _ s fun H1 v s1 r => hy H1 _ (s.trans s1) fun H2 u s2 q => by
    obtain ⟨a, xs, rfl, ha, _, rs⟩ := (r.sm s2).lstV
    obtain ⟨b, ys, rfl, hb, _, qs⟩ := q.lstV
    refine ⟨a, b, xs, ys, rfl, rfl, ha, hb, by rw [rs.length, qs.length, ← List.length_append]; exact few, fun p np => ?_⟩
    exact k _ _ ((s1.trans s2).trans (same_new np)) (.lst upd_same ((oc.sm ((s.trans s1).trans s2)).new np) ((rs.app qs).sm (same_new np)))
theorem lit_catT {K : PySem.W.Frag} (oc : Occ S H0) (hx : Lit S σ H0 te (.tuple ds)) (hy : Lit S σ H0 tb (.tuple es)) (nn : ds ≠ []) (few : (ds ++ es).length ≤ sizeLine) : Lit S σ H0 (tOp (rCatT K) te tb) (.tuple (ds ++ es)) := fun H F s k =>
  hx H _ s fun H1 v s1 r => hy H1 _ (s.trans s1) fun H2 u s2 q => by
    obtain ⟨a, xs, rfl, ha, na, rs⟩ := (r.sm s2).tupV
    obtain ⟨b, ys, rfl, hb, _, qs⟩ := q.tupV
    have l1 := rs.length
    have l2 := qs.length
    have xn : xs ≠ [] := fun z => nn (by rw [z] at l1; exact List.length_eq_zero_iff.mp l1.symm)
    refine ⟨a, b, xs, ys, rfl, rfl, SqT.of ha, SqT.of hb, xn, by rw [l1, l2, ← List.length_append]; exact few, fun e => ?_, fun _ p np => ?_⟩
    · have e2 : es = [] := List.length_eq_zero_iff.mp (by rw [← l2, e]; rfl)
      rw [e2, List.append_nil] at k
      exact k _ _ (s1.trans s2) (.tup ha na rs)
    · exact k _ _ ((s1.trans s2).trans (same_new np)) (.tup upd_same ((oc.sm ((s.trans s1).trans s2)).new np) ((rs.app qs).sm (same_new np)))
theorem lit_neg {n : Int} (h : Lit S σ H0 te (.int n)) : Lit S σ H0 (tUn (rU fun i => .int (-i)) te) (.int (-n)) := fun H F s k =>
  h H _ s fun H1 v s1 r => ⟨n, r.intV, k H1 _ s1 (.int _)⟩
theorem Lit.set {u : TS} {D : Ends} {i : Nat} {H : Hp} (h : Lit S σ H0 te d) (s : Same H0 H) (k : ∀ H' v, Same H H' → Rep S H' v d → u D (σ.set i (some v)) H') : tSeq (tAsg te (gName i)) u D σ H := h H _ s k
theorem Lit.at_ {H : Hp} (h : Lit S σ H0 te d) (s : Same H0 H) (H2 : Hp) (s2 : Same H H2) : Lit S σ H te d := fun H' F s' k => h H' F (s.trans s') k
theorem repl_reps {st : List Addr} {H : Hp} {xs : List V} {ds : List PyData} (r : Reps st H xs ds) : ∀ n : Nat, Reps st H (List.replicate n xs).flatten (List.replicate n ds).flatten
  | 0 => .nil
  | n + 1 => by
    rw [List.replicate_succ, List.replicate_succ, List.flatten_cons, List.flatten_cons]
    exact r.app (repl_reps r n)
theorem lit_mul {K : PySem.W.Frag} (oc : Occ S H0) (hx : Lit S σ H0 te (.tuple ds)) (n : Nat) (nn : ds ≠ []) (h2 : 2 ≤ n) (h5 : n ≤ 100) (few : ds.length ≤ 100) : Lit S σ H0 (tOp (rRepT K) te (tC (.int (n : Nat)))) (.tuple (List.replicate n ds).flatten) := fun H F s k =>
  hx H _ s fun H1 v s1 r => by
    obtain ⟨a, xs, rfl, ha, na, rs⟩ := r.tupV
    have l1 := rs.length
    have xn : xs ≠ [] := fun z => nn (by rw [z] at l1; exact List.length_eq_zero_iff.mp l1.symm)
    refine ⟨a, (n : Int), xs, rfl, rfl, SqT.of ha, xn, by omega, by omega, by omega, fun p np => ?_⟩
    rw [Int.toNat_natCast]
    exact k _ _ (s1.trans (same_new np)) (.tup upd_same ((oc.sm (s.trans s1)).new np) ((repl_reps rs n).sm (same_new np)))
end
end Lb

set_option Elab.async false
set_option linter.all false
set_option maxRecDepth 100000
set_option maxHeartbeats 4000000
/-! tuple(reversed(tuple)) -/
namespace RT
open PySem PySem.Spec PyProof.Rows
theorem nolen_rt : typeLookup (.type "reversed") "__len__" = pure none := by rw [typeLookup_type, builtinLookup_eq_fast]; kernel_rfl
theorem hint_rt : typeLookup (.type "reversed") "__length_hint__" = pure (some (.builtin "reversed.__length_hint__")) := by rw [typeLookup_type, builtinLookup_eq_fast]; kernel_rfl
theorem slot_rt_hint : Slot "reversed" "__length_hint__" "reversed.__length_hint__" :=
  .of (owner := "reversed") (n := "__length_hint__") (by rw [typeLookup_type, builtinLookup_eq_fast]; kernel_rfl) (by decide +kernel) (by decide +kernel) (by decide +kernel)
    (by first | exact .inl (by decide +kernel) | exact .inr (by decide +kernel)) (by rw [isSubtype_type]; kernel_rfl)
theorem entry_rt_hint : entryFor table "reversed.__length_hint__" = some Builtin.«reversed.__length_hint__» := entryFor_of_tree (by kernel_rfl)
theorem args_rt_hint (a : Value) : argsOk "reversed.__length_hint__" ⟨[a], []⟩ := by
  unfold argsOk; rw [signature?_of (id := "reversed.__length_hint__") (n := ['_', '_', 't', 'n', 'i', 'h', '_', 'h', 't', 'g', 'n', 'e', 'l', '_', '_']) (o := ['d', 'e', 's', 'r', 'e', 'v', 'e', 'r']) (by kernel_rfl) owner_rt]; kernel_rfl
theorem bind_rt_hint (self : Value) : bindSpecial (.builtin "reversed.__length_hint__") self = pure (.builtin "reversed.__length_hint__", [self]) := by
  kernel_rfl
section
variable {prog : Program} {w : World} {A : Around} {E : Value → Shared → Prop} {s : Shared}
theorem Walks.rt (hh : A.handled = none) (it l : Addr) (hne : l ≠ it) (items : Array Value) (hsz : items.size ≤ sizeLine) :
    Walks prog w A it [it, l] [it] items.size (fun i v => items[items.size - 1 - i]? = some v) (fun i h => i ≤ items.size ∧ IsRt h it l ((items.size : Int) - 1 - (i : Int)) ∧ IsTup h l items) where
  sub := fun b hb => by simp at hb; simp [hb]
  frame := fun _ _ _ x hk => ⟨x.1, x.2.1.at fun o e => hk it (by simp) o e, by
    obtain ⟨o, ho, r⟩ := x.2.2
    exact ⟨o, hk l (by simp) o ho, r⟩⟩
  item := fun i s Q E hi x hQ => by
    have e : (items.size : Int) - 1 - (i : Int) = ((items.size - 1 - i : Nat) : Int) := by omega
    have hit := x.2.1
    rw [e] at hit
    have hx : items[items.size - 1 - i]? = some (items[items.size - 1 - i]'(by omega)) := Array.getElem?_eq_getElem (by omega)
    refine next_rt_item hit x.2.2 hx hsz fun h' hit' hs' => ?_
    have e2 : ((items.size - 1 - i : Nat) : Int) - 1 = (items.size : Int) - 1 - ((i + 1 : Nat) : Int) := by omega
    rw [e2] at hit'
    refine hQ _ h' _ hx ⟨hi, hit', ?_⟩ fun b o hb eo => (hs'.2 b (fun h => hb (by simp [h]))).trans eo
    obtain ⟨o, ho, r⟩ := x.2.2
    exact ⟨o, (hs'.2 l hne).trans ho, r⟩
  done := fun s Q E x hQ => by
    have e : (items.size : Int) - 1 - (items.size : Int) = -1 := by omega
    have hit := x.2.1
    rw [e] at hit
    exact next_rt_end hh hit fun h' eb => hQ h' s.toks fun b o hb eo => eb b o (fun h => hb (by simp [h])) eo
  self := fun i s Q E x h => iter_rt x.2.1 h
theorem hint_run {it t : Addr} {items : Array Value} {Q : Value → Shared → Prop} (hit : IsRt s.heap it t ((items.size : Int) - 1))
    (hlen : ∀ (A : Around) (E : Value → Shared → Prop) (Q : Value → Shared → Prop), Q (.int items.size (s.toks + 1)) { s with toks := s.toks + 1 + 1 } → wpAny (model prog w) A (call (.builtin "len") [.ref t]) Q E s)
    (h : ∀ tk tok, Q (.int items.size tok) { s with toks := tk }) : wpAny (model prog w) A (call (.builtin "reversed.__length_hint__") [.ref it]) Q E s := by
  obtain ⟨o, ho, hc, hd⟩ := id hit
  refine wpAny_call_entry slot_rt_hint hit.typeIs entry_rt_hint ?_ (args_rt_hint _)
  unfold Builtin.«reversed.__length_hint__»
  refine wpAny_bind (wpAny_of_eq (a := Value.ref it) rfl ?_)
  try dsimp only
  refine wpAny_bind (wpAny_field ho hd (x := .ref t) rfl ?_)
  try dsimp only
  try rw [if_neg (by decide)]
  try dsimp only
  refine wpAny_bind (hlen _ _ _ ?_)
  refine wpAny_bind (wpAny_of_eq (a := some ((items.size : Nat) : Int)) rfl ?_)
  try dsimp only
  refine wpAny_bind (wpAny_field (s := { s with toks := s.toks + 1 + 1 }) ho hd (x := rawInt ((items.size : Int) - 1)) rfl ?_)
  try dsimp only
  rw [show rawInt ((items.size : Int) - 1) = Value.int ((items.size : Int) - 1) 0 from rfl]
  dsimp only
  rw [if_neg (by omega)]
  show wpAny _ _ (retInt _) _ _ _
  unfold retInt
  refine wpAny_bind (wpAny_mkInt ?_)
  refine wpAny_pure ⟨_, rfl, ?_⟩
  have e : (items.size : Int) - 1 + 1 = items.size := by omega
  rw [e]
  exact h _ _
theorem hint_len {it l : Addr} {items : Array Value} {Q : Bool → Shared → Prop} (hit : IsRt s.heap it l ((items.size : Int) - 1)) (hn : items.size ≤ sizeLine)
    (hlen : ∀ (A : Around) (E : Value → Shared → Prop) (Q : Value → Shared → Prop), Q (.int items.size (s.toks + 1)) { s with toks := s.toks + 1 + 1 } → wpAny (model prog w) A (call (.builtin "len") [.ref l]) Q E s)
    (h0 : 0 < items.size) (hQ : ∀ (tk : Nat), Q true { s with toks := tk }) : wpAny (model prog w) A (Builtin.List.listLengthHint (.ref it)) Q E s := by
  unfold Builtin.List.listLengthHint
  refine wpAny_bind (wpAny_specialOf hit.typeIs nolen_rt ?_)
  show wpAny _ A (specialOf (Value.ref it) (Str.ofString "__length_hint__") >>= _) _ _ _
  refine wpAny_bind (wpAny_specialOf hit.typeIs hint_rt ?_)
  generalize hid : ("reversed.__length_hint__" : String) = id0
  wp_delta
  rw [show splitId id0 = some ("reversed", "__length_hint__") from by subst hid; decide +kernel]
  subst hid
  refine wpAny_bind (wpAny_isInstance (b := true) hit.typeIs (by rw [isSubtype_type]; kernel_rfl) ?_)
  rw [if_neg (by decide)]
  dsimp only
  rw [if_neg (by decide +kernel)]
  refine wpAny_bind (wpAny_rule ?_)
  refine wpAny_bind (wpAny_of_eq (bind_rt_hint _) ?_)
  dsimp only
  refine wpAny_bind (wpAny_attempt (hint_run hit hlen fun tk tok => ?_))
  dsimp only
  have ea : asInt? (Value.int ((items.size : Nat) : Int) tok) = pure (some ((items.size : Nat) : Int)) := rfl
  simp only [ea, pure_bind]
  rw [sizeLine_eq] at hn
  have f1 : Builtin.List.listFitsIndex ((items.size : Nat) : Int) = true := by
    unfold Builtin.List.listFitsIndex
    rw [Bool.and_eq_true]
    exact ⟨decide_eq_true (by omega), decide_eq_true (by omega)⟩
  have f2 : Builtin.List.listTooLong ((items.size : Nat) : Int).toNat = false := by
    unfold Builtin.List.listTooLong
    rw [Int.toNat_natCast, sizeLine_eq]
    exact decide_eq_false (by omega)
  rw [f1, f2, if_neg (by decide), if_neg (by omega), if_neg (by decide)]
  rw [show (((items.size : Nat) : Int) != 0) = true from by rw [bne_iff_ne]; omega]
  exact wpAny_pure (hQ tk)
theorem collect_rt {it l : Addr} {items : Array Value} {Q : List Value → Shared → Prop} (hh : A.handled = none) (hit : IsRt s.heap it l ((items.size : Int) - 1)) (hl : IsTup s.heap l items) (hne : l ≠ it) (hn : items.size ≤ sizeLine) (h0 : 0 < items.size)
    (hlen : ∀ (s : Shared), IsTup s.heap l items → ∀ (A : Around) (E : Value → Shared → Prop) (Q : Value → Shared → Prop), Q (.int items.size (s.toks + 1)) { s with toks := s.toks + 1 + 1 } → wpAny (model prog w) A (call (.builtin "len") [.ref l]) Q E s)
    (hQ : ∀ (h' : Heap) (tk : Nat) (acc : Array Value), (∀ b o, b ≠ it → s.heap.get? b = some o → h'.get? b = some o) → ItemsOf (fun i v => items[items.size - 1 - i]? = some v) acc items.size → Q acc.toList { s with heap := h', toks := tk }) :
    wpAny (model prog w) A (collect (.ref it)) Q E s := by
  have W := (Walks.rt (prog := prog) (w := w) (A := A.in1) hh it l hne items hn).toS
  obtain ⟨oi, hoi, _⟩ := id hit
  obtain ⟨ol, hol, _⟩ := id hl
  have hSi : s.heap.objs.size ≠ it := Nat.ne_of_gt (Heap.lt_size hoi)
  have hSl : s.heap.objs.size ≠ l := Nat.ne_of_gt (Heap.lt_size hol)
  have hSf : s.heap.objs.size ∉ [it, l] := by simp only [List.mem_cons, List.not_mem_nil, or_false, not_or]; exact ⟨hSi, hSl⟩
  unfold collect
  refine wpAny_bind (wpAny_runValue (codeAny_builtin F.entry_proto_collect ?_))
  rw [Around.under_plainId F.plain_proto_collect _]
  show wpAny _ A.in1 (newList [] >>= fun l' => again (.builtin "list.__iadd__" ⟨[l', .ref it], []⟩)) _ _ s
  refine wpAny_bind (wpAny_newObj_type ?_)
  refine wpAny_pure ⟨plainId_quiet F.plain_list_iadd _, codeAny_builtin F.entry_list_iadd ?_⟩
  rw [Around.under_plainId F.plain_list_iadd _]
  have hS₁ : (s.heap.push { cls := .type "list", data := .seq ([] : List Value).toArray }).get? s.heap.objs.size = some { cls := .type "list", data := .seq ([] : List Value).toArray } := Heap.get?_push_size _ rfl
  have hit1 : IsRt (s.heap.push { cls := .type "list", data := .seq ([] : List Value).toArray }) it l ((items.size : Int) - 1) := hit.at fun o e => Heap.get?_push_of_some _ e
  have hl1 : IsTup (s.heap.push { cls := .type "list", data := .seq ([] : List Value).toArray }) l items := by
    obtain ⟨o, ho, r⟩ := hl
    exact ⟨o, Heap.get?_push_of_some _ ho, r⟩
  have hT : ({ s with heap := s.heap.push { cls := .type "list", data := .seq ([] : List Value).toArray } } : Shared).TypeIs (.ref it) "reversed" := IsRt.typeIs (s := { s with heap := s.heap.push { cls := .type "list", data := .seq ([] : List Value).toArray } }) hit1
  have h1 : Builtin.List.listSameRef (.ref s.heap.objs.size) (.ref it) = false := by simp [Builtin.List.listSameRef, hSi]
  show wpAny _ A.in1 (Builtin.List.listExtendWith (.ref s.heap.objs.size) (.ref it) (.ref s.heap.objs.size)) _ _ _
  unfold Builtin.List.listExtendWith
  refine wpAny_bind (wpAny_typeOf hT ?_)
  rw [if_neg (by rw [h1]; decide)]
  refine wpAny_bind (iter_rt (s := { s with heap := s.heap.push { cls := .type "list", data := .seq ([] : List Value).toArray } }) hit1 ?_)
  refine wpAny_bind (wpAny_holding (hint_len (s := { s with heap := s.heap.push { cls := .type "list", data := .seq ([] : List Value).toArray } }) hit1 hn (hlen { s with heap := s.heap.push { cls := .type "list", data := .seq ([] : List Value).toArray } } hl1) h0 fun tk => ?_))
  show wpAny _ A.in1 (rule "list.extend.makes-room" >>= fun _ => Builtin.List.listTouch (.ref s.heap.objs.size) >>= fun _ =>
    again (.builtin "list.extend.loop" ⟨[.ref s.heap.objs.size, .ref it, .ref s.heap.objs.size], []⟩)) _ _ _
  refine wpAny_bind (wpAny_rule ?_)
  refine wpAny_bind ?_
  show wpAny _ A.in1 (updateSeq s.heap.objs.size (·.push .none) >>= fun _ => updateSeq s.heap.objs.size (·.pop)) _ _ _
  refine wpAny_bind (wpAny_updateSeq hS₁ rfl ?_)
  have hS₂ := Heap.get?_update_self (Obj.mapSeq (·.push Value.none)) hS₁ rfl
  refine wpAny_updateSeq hS₂ rfl ?_
  have hS₃ := Heap.get?_update_self (Obj.mapSeq (·.pop)) hS₂ rfl
  have oth : ∀ b o, b ≠ s.heap.objs.size → (s.heap.push { cls := .type "list", data := .seq ([] : List Value).toArray }).get? b = some o →
      (((s.heap.push { cls := .type "list", data := .seq ([] : List Value).toArray }).update s.heap.objs.size (Obj.mapSeq (·.push Value.none))).update s.heap.objs.size (Obj.mapSeq (·.pop))).get? b = some o :=
    fun b o hb e => (Heap.get?_update_other _ _ (Ne.symm hb)).trans ((Heap.get?_update_other _ _ (Ne.symm hb)).trans e)
  have e0 : ((items.size : Nat) : Int) - 1 - ((0 : Nat) : Int) = (items.size : Int) - 1 := by omega
  have hl2 : IsTup (((s.heap.push { cls := .type "list", data := .seq ([] : List Value).toArray }).update s.heap.objs.size (Obj.mapSeq (·.push Value.none))).update s.heap.objs.size (Obj.mapSeq (·.pop))) l items := by
    obtain ⟨o, ho, r⟩ := hl1
    exact ⟨o, oth _ _ hSl.symm ho, r⟩
  refine wpAny_pure ⟨plainId_quiet F.plain_extend_loop _, codeAny_extend_loopS W hn _ hSf _ items.size 0 _ _ _ rfl (Nat.zero_le _)
    ⟨Nat.zero_le _, by rw [e0]; exact hit1.at fun o e => oth _ _ hSi.symm e, hl2⟩ hS₃ (ItemsOf.nil _) fun s' acc' c' hm hS' hacc => ?_⟩
  show wpAny _ A (load s.heap.objs.size >>= _) _ _ s'
  refine wpAny_bind (wpAny_load hS' ?_)
  refine wpAny_pure ?_
  rw [Moved.eq_with hm]
  refine hQ s'.heap s'.toks acc' (fun b o hb e => ?_) hacc
  have nb : b ≠ s.heap.objs.size := fun e' => absurd (Heap.lt_size e) (by rw [e']; exact Nat.lt_irrefl _)
  refine hm.heap b o (fun hmem => ?_) (oth _ _ nb (Heap.get?_push_of_some _ e))
  rcases List.mem_cons.mp hmem with e' | hmem
  · exact nb e'
  · exact hb (List.mem_singleton.mp hmem)
theorem code_tuple_new_rt {it l : Addr} {items : Array Value} {Q₁ : Value → Shared → Prop} (hh : A.handled = none) (hit : IsRt s.heap it l ((items.size : Int) - 1)) (hl : IsTup s.heap l items) (hne : l ≠ it) (hn : items.size ≤ sizeLine) (h0 : 0 < items.size)
    (hlen : ∀ (s : Shared), IsTup s.heap l items → ∀ (A : Around) (E : Value → Shared → Prop) (Q : Value → Shared → Prop), Q (.int items.size (s.toks + 1)) { s with toks := s.toks + 1 + 1 } → wpAny (model prog w) A (call (.builtin "len") [.ref l]) Q E s)
    (h : ∀ (h' : Heap) (tk : Nat) (acc : Array Value), (∀ b o, b ≠ it → s.heap.get? b = some o → h'.get? b = some o) → ItemsOf (fun i v => items[items.size - 1 - i]? = some v) acc items.size →
      Q₁ (.ref h'.objs.size) { s with heap := h'.push { cls := .type "tuple", data := .seq acc }, toks := tk }) :
    codeAny (model prog w) A (.call (.builtin "tuple.__new__") ⟨[.type "tuple", .ref it], []⟩) (wants Q₁ E) s := by
  refine codeAny_of_tree ?_
  show wpAny _ A.in1 (do checkBuiltinCall "tuple.__new__" ⟨[.type "tuple", .ref it], []⟩; again (.builtin "tuple.__new__" ⟨[.type "tuple", .ref it], []⟩)) _ _ s
  refine wpAny_bind (wpAny_of_eq (F.newCall_tuple_1 _) (wpAny_pure ⟨plainId_quiet F.plain_tuple_new _, codeAny_builtin F.entry_tuple_new ?_⟩))
  rw [Around.under_plainId F.plain_tuple_new _]
  have hsub := sub_tuple_self
  have hinit := init_tuple_lookup
  have hmh := madeHere_tuple
  have hTI : s.TypeIs (.ref it) "reversed" := hit.typeIs
  have hh1 : A.in1.handled = none := hh
  wp_walk using wpAny_typeOf hTI, collect_rt (A := A.in1) hh1 hit hl hne hn h0 hlen
  intro h' tk acc hk hacc
  show wpAny _ _ (Builtin.Tuple.tupleExact acc.toList.toArray >>= fun v => ret v) _ _ _
  unfold Builtin.Tuple.tupleExact
  refine wpAny_bind (wpAny_newObj_type ?_ (by show acc.toList.toArray.size ≤ sizeLine; simp only [Array.toArray_toList]; rw [hacc.1]; exact hn))
  refine wpAny_pure ?_
  have e : acc.toList.toArray = acc := by simp
  rw [e]
  exact h h' tk acc hk hacc
theorem call_tuple_rt {it l : Addr} {items : Array Value} {Q : Value → Shared → Prop} (hh : A.handled = none) (hit : IsRt s.heap it l ((items.size : Int) - 1)) (hl : IsTup s.heap l items) (hne : l ≠ it) (hn : items.size ≤ sizeLine) (h0 : 0 < items.size)
    (hlen : ∀ (s : Shared), IsTup s.heap l items → ∀ (A : Around) (E : Value → Shared → Prop) (Q : Value → Shared → Prop), Q (.int items.size (s.toks + 1)) { s with toks := s.toks + 1 + 1 } → wpAny (model prog w) A (call (.builtin "len") [.ref l]) Q E s)
    (hQ : ∀ (h' : Heap) (tk : Nat) (acc : Array Value), (∀ b o, b ≠ it → s.heap.get? b = some o → h'.get? b = some o) → ItemsOf (fun i v => items[items.size - 1 - i]? = some v) acc items.size →
      Q (.ref h'.objs.size) { s with heap := h'.push { cls := .type "tuple", data := .seq acc }, toks := tk }) :
    wpAny (model prog w) A (call (.type "tuple") [.ref it]) Q E s := by
  refine callType_codes (Q₁ := fun obj s₁ => s₁.TypeIs obj "tuple" ∧ Q obj s₁) F.called_tuple (F.typeCall_tuple_1 _) F.entry_object_init
    (code_tuple_new_rt (A := A.in1) hh hit hl hne hn h0 hlen fun h' tk acc hk hacc => ⟨⟨_, Heap.get?_push_size _ rfl, rfl⟩, hQ h' tk acc hk hacc⟩) fun obj s₁ h₁ => ?_
  exact ⟨h₁.1, F.args_object_init_2 obj _, object_init_meets F.called_tuple.init.lookup F.called_tuple.made (by decide) prog w A.in1 _ s₁ ⟨h₁.1, rfl, h₁.2⟩⟩
end
end RT
namespace RT
open PySem PySem.Spec PyProof.Rows L2
/-- tuple(reversed(x)), x a tuple with an item at least: a new tuple -/
def tTupRevT (K : PySem.W.Frag) (te : TE) : TE := fun σ H Q => te σ H fun v H1 => ∃ (a : Addr) (xs : List V), v = .ref a ∧ SqT K H1 a xs ∧ xs ≠ [] ∧ ∀ q, H1 q = none → Q (.ref q) (upd H1 q (.tup xs.reverse))
section
variable {X : Cx}
theorem pe_tupRevT {e : Expr} {te : TE} {p p2 pos pos2 : Pos} (hc : X.calm = true) (hg : Gl X "tuple") (hm : X.mg "tuple" = none) (hg2 : Gl X "reversed") (hm2 : X.mg "reversed" = none) (he : PE X e te)
    (hs : starEach [e] X.env = (false, eval e X.env) :: starEach [] X.env := by rfl)
    (hs2 : starEach [.Call (.Name "reversed" p2) [e] [] pos2] X.env = (false, eval (.Call (.Name "reversed" p2) [e] [] pos2) X.env) :: starEach [] X.env := by rfl) :
    PE X (.Call (.Name "tuple" p) [.Call (.Name "reversed" p2) [e] [] pos2] [] pos) (tTupRevT X.K te) := by
  refine ⟨fun pins s σ H Q I h => ?_⟩
  refine Call_ (ld_blt I hg hm boot_tuple (PyProof.Rows.callWith_type1 (args_cons (Call_ (ld_blt I hg2 hm2 PyProof.Rows.boot_reversed (PyProof.Rows.callWith_type1 (args_cons (thn (he.run pins s σ H _ I h) fun u s1 ⟨v, H1, I1, r1, q1⟩ => args_nil ?_) hs) hs rfl))) hs2) hs2 rfl))
  obtain ⟨a, xs, ev, hq, xn, q⟩ := q1
  subst ev
  obtain rfl : u = Value.ref a := r1
  obtain ⟨its, rv, p', hz⟩ := I1.tuple hq
  have hn63 := line63
  have hlen0 : its.toArray.size = its.length := List.size_toArray
  have hn : its.toArray.size ≤ sizeLine := by rw [List.size_toArray, ← rv.length]; exact hz
  have h0 : 0 < its.toArray.size := by
    rw [hlen0, ← rv.length]
    exact List.length_pos_iff.mpr xn
  have hl2 := rv.length
  refine call_reversed_tup p' (fun A E Q k => len_tuple p' (by simp only [List.size_toArray] <;> omega) k) (args_nil ?_)
  have k0 : ∀ b o, s1.heap.get? b = some o → (s1.heap.push (rtObj a ((its.toArray.size : Int) - 1))).get? b = some o := fun b o e => Heap.get?_push_of_some _ e
  have I2 : Inv X pins σ H1 { s1 with heap := s1.heap.push (rtObj a ((its.toArray.size : Int) - 1)), toks := s1.toks + 1 + 1 } := I1.kept (t' := s1.toks + 1 + 1) k0
  obtain ⟨f0, f1, f2, f3, f4, f5⟩ := I1.fpOk (H' := H1) (b := s1.heap.objs.size) (Nat.le_refl _) (I1.hok.fresh (Nat.le_refl _))
  obtain ⟨ol, hol, hol2⟩ := id p'
  have hne : a ≠ s1.heap.objs.size := Nat.ne_of_lt (Heap.lt_size hol)
  refine call_tuple_rt (s := { s1 with heap := s1.heap.push (rtObj a ((its.toArray.size : Int) - 1)), toks := s1.toks + 1 + 1 }) (I1.ok.hd hc) ⟨_, Heap.get?_push_size _ rfl, rfl, rfl⟩ ⟨ol, k0 _ _ hol, hol2⟩ hne hn h0 (fun s ht A E Q k => len_tuple ht (by simp only [List.size_toArray] <;> omega) k) fun h' tk acc hk hi => ?_
  have I3 : Inv X pins σ H1 { s1 with heap := h', toks := tk } := I2.turned (t' := tk) (fun b o hb e => hk b o hb e) f0 f1 f3 f4 f5
  refine ⟨.ref h'.objs.size, upd H1 h'.objs.size (.tup xs.reverse), I3.laid (t' := tk) (fun c o e => Heap.get?_push_of_some _ e) (Nat.le_refl _) (show ObjOk X.prog X.w _ _ _ (.tup xs.reverse) from ⟨by rw [List.length_reverse]; exact hz, acc.toList, vals_rev rv hi, ?_⟩), rfl, q _ (I3.hok.fresh (Nat.le_refl _))⟩
  rw [Array.toArray_toList]
  exact IsTup.new _ _
end
end RT

set_option Elab.async false
set_option linter.all false
set_option maxRecDepth 100000
set_option maxHeartbeats 4000000
/-! written data, more: slices, items, sums of tuples, list(), tuple(), len -/
namespace Lb
open PySem PySem.Spec PyProof.Rows L2
theorem noLst_all' {ds : List PyData} (h : ∀ d ∈ ds, noLst d = true) : noLsts ds = true := by
  induction ds with
  | nil => rfl
  | cons d ds ih => rw [noLsts, h d List.mem_cons_self, ih fun e m => h e (List.mem_cons_of_mem _ m)]; rfl
theorem seq_by {t u : TS} {D : Ends} {σ : L2.St} {H : Hp} (R : L2.St → Hp → Prop) (h2 : ∀ σ H, R σ H → u D σ H) (h1 : (∀ σ H, R σ H → u D σ H) → t { D with nx := u D } σ H) : tSeq t u D σ H := h1 h2
theorem Lits.setL {S : List Addr} {σ : L2.St} {H0 : Hp} {ta : TA} {ds : List PyData} {u : TS} {D : Ends} {i : Nat} {H : Hp} (h : Lits S σ H0 ta ds) (s : Same H0 H) (few : ds.length ≤ sizeLine) (k : ∀ H' vs p, Same H H' → Reps S H' vs ds → H' p = none → u D (σ.set i (some (.ref p))) (upd H' p (.lst vs))) : tSeq (tAsg (tLst ta) (gName i)) u D σ H :=
  h H _ s fun H1 vs s1 rs => ⟨by rw [rs.length]; exact few, fun p np => k _ vs p s1 rs np⟩
theorem noLst_prog (P : Prog) : noLst P.d = true := by
  have h1 : noLsts (P.parts.map rowsD) = true := noLst_all' fun d hd => by
    obtain ⟨rs, _, rfl⟩ := List.mem_map.mp hd
    exact noLst_rows rs
  have h2 : noLsts (P.marks.map PyData.bool) = true := noLst_all' fun d hd => by
    obtain ⟨rs, _, rfl⟩ := List.mem_map.mp hd
    rfl
  have h3 : noLsts (P.entries.map PyData.int) = true := noLst_all' fun d hd => by
    obtain ⟨rs, _, rfl⟩ := List.mem_map.mp hd
    rfl
  show (noLsts (P.parts.map rowsD) && (noLsts (P.marks.map PyData.bool) && (noLsts (P.entries.map PyData.int) && (noLsts (P.opens.map nmD) && true)))) = true
  rw [h1, h2, h3, noLst_nms]
  rfl
def rLst2 (K : PySem.W.Frag) : List V → Hp → VK → Prop := fun xs H Q => ∃ p ys, xs = [V.ref p] ∧ (SqL K H p ys ∨ SqT K H p ys) ∧ ∀ l, H l = none → Q (.ref l) (upd H l (.lst ys))
theorem lst_k {X : Cx} : CallR X (.type "list") (rLst2 X.K) := call_list_of
def rTup2 (K : PySem.W.Frag) : List V → Hp → VK → Prop := fun xs H Q => ∃ p ys, xs = [V.ref p] ∧ ((SqL K H p ys ∧ ∀ l, H l = none → Q (.ref l) (upd H l (.tup ys))) ∨ SqT K H p ys ∧ Q (.ref p) H)
theorem tup_k {X : Cx} : CallR X (.type "tuple") (rTup2 X.K) := call_tuple_of
theorem Reps.set {st : List Addr} {H : Hp} {x : V} {d : PyData} : ∀ {vs : List V} {ds : List PyData} (j : Nat), Reps st H vs ds → Rep st H x d → Reps st H (vs.set j x) (ds.set j d)
  | _, _, _, .nil, _ => .nil
  | _, _, 0, .cons r rs, q => .cons q rs
  | _, _, j + 1, .cons r rs, q => .cons r (Reps.set j rs q)
theorem set_mem {α : Type} {l : List α} {j : Nat} (h : j < l.length) (x : α) : x ∈ l.set j x := List.mem_iff_getElem?.mpr ⟨j, by rw [List.getElem?_set_self h]⟩
theorem ixN_at {n : Nat} {w : Int} (h0 : 0 ≤ w) (h1 : w < n) : ixN n w = some w.toNat := by
  unfold ixN
  rw [if_pos h0, if_pos h1]

theorem Reps.rev {st : List Addr} {H : Hp} : ∀ {vs : List V} {ds : List PyData}, Reps st H vs ds → Reps st H vs.reverse ds.reverse
  | _, _, .nil => .nil
  | _, _, .cons r rs => by
    rw [List.reverse_cons, List.reverse_cons]
    exact (Reps.rev rs).app (.one r)
/-- a slice's bound -/
def LitO (S : List Addr) (σ : L2.St) (H0 : Hp) (to : TO) (o : Option Int) : Prop := ∀ (H : Hp) (F : Option Int → Hp → Prop), Same H0 H → (∀ H', Same H H' → F o H') → to σ H F
section
variable {S : List Addr} {σ : L2.St} {H0 : Hp} {te : TE} {tl th : TO} {ds : List PyData} {lo hi : Option Int}
theorem lito_no : LitO S σ H0 tNoPart none := fun H F _ k => k H (.refl _)
theorem lito_int {n : Int} (h : Lit S σ H0 te (.int n)) : LitO S σ H0 (tPart te) (some n) := fun H F s k => h H _ s fun H1 v s1 r => ⟨n, r.intV, k H1 s1⟩
def cutD (ds : List PyData) (lo hi : Option Int) : List PyData := (ds.drop (HT.sIx ds.length 0 lo)).take (HT.sIx ds.length ds.length hi - HT.sIx ds.length 0 lo)
theorem Reps.sub {st : List Addr} {H : Hp} {xs : List V} {ds : List PyData} (r : Reps st H xs ds) : Reps st H (cutV xs lo hi) (cutD ds lo hi) := by
  unfold cutV cutD
  rw [← r.length]
  exact (r.skip _).cut _
theorem lit_sl {K : PySem.W.Frag} (oc : Occ S H0) (hx : Lit S σ H0 te (.tuple ds)) (hl : LitO S σ H0 tl lo) (hh : LitO S σ H0 th hi) : Lit S σ H0 (tSl (rSlA K) te tl th) (.tuple (cutD ds lo hi)) := fun H F s k =>
  hx H _ s fun H1 v s1 r => hl H1 _ (s.trans s1) fun H2 s2 => hh H2 _ ((s.trans s1).trans s2) fun H3 s3 => by
    obtain ⟨a, xs, rfl, ha, na, rs⟩ := (r.sm (s2.trans s3)).tupV
    have sA := s1.trans (s2.trans s3)
    refine ⟨a, xs, rfl, SqT.of ha, fun w => ?_, fun _ p np => ?_⟩
    · have e : cutD ds lo hi = ds := by
        unfold cutD
        rw [← rs.length, w.1, w.2, List.drop_zero, Nat.sub_zero]
        exact List.take_of_length_le (by rw [rs.length]; exact Nat.le_refl _)
      rw [e] at k
      exact k _ _ sA (.tup ha na rs)
    · exact k _ _ (sA.trans (same_new np)) (.tup upd_same ((oc.sm (s.trans sA)).new np) (rs.sub.sm (same_new np)))
theorem lit_lof {K : PySem.W.Frag} (oc : Occ S H0) (hx : Lit S σ H0 te (.tuple ds)) : Lit S σ H0 (tCB (rLst2 K) (tCons te tNil)) (.list ds) := fun H F s k =>
  hx H _ s fun H1 v s1 r => by
    obtain ⟨a, xs, rfl, ha, na, rs⟩ := r.tupV
    exact ⟨a, xs, rfl, .inr (SqT.of ha), fun p np => k _ _ (s1.trans (same_new np)) (.lst upd_same ((oc.sm (s.trans s1)).new np) (rs.sm (same_new np)))⟩
end
section
variable {S : List Addr} {σ : L2.St} {H0 : Hp} {te tb : TE} {ds es : List PyData} {d : PyData}
def rInt2 : List V → Hp → VK → Prop := fun xs H Q => (∃ i, xs = [.int i] ∧ Q (.int i) H) ∨ ∃ k, xs = [.bl k] ∧ Q (.int (if k then 1 else 0)) H
theorem int_k {X : Cx} : CallR X (.type "int") rInt2 := call_int1
theorem Reps.atI {st : List Addr} {H : Hp} {xs : List V} (r : Reps st H xs ds) {i : Int} (h : atI ds i = some d) : ∃ x, L2.atI xs i = some x ∧ Rep st H x d := by
  unfold L2.atI at h ⊢
  rw [r.length]
  cases e : ixN ds.length i with
  | none =>
    rw [e] at h
    exact nomatch h
  | some j =>
    rw [e] at h
    exact r.at_ h
theorem lit_ix {K : PySem.W.Frag} {i : Int} (hx : Lit S σ H0 te (.tuple ds)) (hi : Lit S σ H0 tb (.int i)) (h : atI ds i = some d) : Lit S σ H0 (tOp (rIxT K) te tb) d := fun H F s k =>
  hx H _ s fun H1 v s1 r => hi H1 _ (s.trans s1) fun H2 u s2 q => by
    obtain ⟨a, xs, rfl, ha, _, rs⟩ := (r.sm s2).tupV
    obtain ⟨x, hx, rx⟩ := rs.atI h
    exact ⟨a, xs, i, x, rfl, q.intV, SqT.of ha, hx, k _ _ (s1.trans s2) rx⟩
theorem lit_ixL {K : PySem.W.Frag} {i : Int} (hx : Lit S σ H0 te (.list ds)) (hi : Lit S σ H0 tb (.int i)) (h : atI ds i = some d) : Lit S σ H0 (tOp (rIxL K) te tb) d := fun H F s k =>
  hx H _ s fun H1 v s1 r => hi H1 _ (s.trans s1) fun H2 u s2 q => by
    obtain ⟨a, xs, rfl, ha, _, rs⟩ := (r.sm s2).lstV
    obtain ⟨x, hx, rx⟩ := rs.atI h
    exact ⟨a, xs, i, x, rfl, q.intV, SqL.of ha, hx, k _ _ (s1.trans s2) rx⟩
theorem lit_catA {K : PySem.W.Frag} (oc : Occ S H0) (hx : Lit S σ H0 te (.tuple ds)) (hy : Lit S σ H0 tb (.tuple es)) (few : (ds ++ es).length ≤ sizeLine) : Lit S σ H0 (tOp (rCatA K) te tb) (.tuple (ds ++ es)) := fun H F s k =>
  hx H _ s fun H1 v s1 r => hy H1 _ (s.trans s1) fun H2 u s2 q => by
    obtain ⟨a, xs, rfl, ha, na, rs⟩ := (r.sm s2).tupV
    obtain ⟨b, ys, rfl, hb, nb, qs⟩ := q.tupV
    have l1 := rs.length
    have l2 := qs.length
    refine ⟨a, b, xs, ys, rfl, rfl, SqT.of ha, SqT.of hb, by rw [l1, l2, ← List.length_append]; exact few, fun e => ?_, fun _ e => ?_, fun _ _ p np => ?_⟩
    · have e2 : ds = [] := List.length_eq_zero_iff.mp (by rw [← l1, e]; rfl)
      rw [e2, List.nil_append] at k
      exact k _ _ (s1.trans s2) (.tup hb nb qs)
    · have e2 : es = [] := List.length_eq_zero_iff.mp (by rw [← l2, e]; rfl)
      rw [e2, List.append_nil] at k
      exact k _ _ (s1.trans s2) (.tup ha na rs)
    · exact k _ _ ((s1.trans s2).trans (same_new np)) (.tup upd_same ((oc.sm ((s.trans s1).trans s2)).new np) ((rs.app qs).sm (same_new np)))
theorem lit_ofB {b : Bool} (h : Lit S σ H0 te (.bool b)) : Lit S σ H0 (tCB rInt2 (tCons te tNil)) (.int (if b then 1 else 0)) := fun H F s k =>
  h H _ s fun H1 v s1 r => .inr ⟨b, by rw [r.blV], k _ _ s1 (.int _)⟩
theorem lit_eqI {i j : Int} (h : Lit S σ H0 te (.int i)) : Lit S σ H0 (tOp rEq te (tC (.int j))) (.bool (decide (V.int i = V.int j))) := fun H F s k =>
  h H _ s fun H1 v s1 r => by
    rw [r.intV]
    exact ⟨rfl, k _ _ s1 (.bl _)⟩
theorem lit_plus {i j : Int} (h : Lit S σ H0 te (.int i)) : Lit S σ H0 (tOp (rI0 fun i j => .int (i + j)) te (tC (.int j))) (.int (i + j)) := fun H F s k =>
  h H _ s fun H1 v s1 r => ⟨i, j, r.intV, rfl, k _ _ s1 (.int _)⟩
end
section
variable {S : List Addr} {σ : L2.St} {H0 : Hp} {te tb : TE} {ds es : List PyData} {d : PyData}
theorem lit_revT {K : PySem.W.Frag} (oc : Occ S H0) (hx : Lit S σ H0 te (.tuple ds)) (nn : ds ≠ []) : Lit S σ H0 (RT.tTupRevT K te) (.tuple ds.reverse) := fun H F s k =>
  hx H _ s fun H1 v s1 r => by
    obtain ⟨a, xs, rfl, ha, na, rs⟩ := r.tupV
    have l1 := rs.length
    refine ⟨a, xs, rfl, SqT.of ha, fun z => nn (by rw [z] at l1; exact List.length_eq_zero_iff.mp l1.symm), fun p np => ?_⟩
    exact k _ _ (s1.trans (same_new np)) (.tup upd_same ((oc.sm (s.trans s1)).new np) (rs.rev.sm (same_new np)))
theorem lit_lenT {K : PySem.W.Frag} (hx : Lit S σ H0 te (.tuple ds)) : Lit S σ H0 (tCB (rLen2 K) (tCons te tNil)) (.int ds.length) := fun H F s k =>
  hx H _ s fun H1 v s1 r => by
    obtain ⟨a, xs, rfl, ha, na, rs⟩ := r.tupV
    refine ⟨a, xs, rfl, .inr (SqT.of ha), ?_⟩
    rw [rs.length]
    exact k _ _ s1 (.int _)
theorem lit_neg1 {n : Int} : Lit S σ H0 (tUn (rU fun i => .int (-i)) (tC (.int n))) (.int (-n)) := lit_neg (lit_int n)
end
end Lb

set_option Elab.async false
set_option linter.all false
set_option maxRecDepth 100000
set_option maxHeartbeats 4000000
/-! places and lots of a program, as data -/
namespace Lb
open PySem PySem.Spec PyProof.Rows L2
def partD (P : PyData) (i : Nat) : PyData := (itemsD (nthD P 0)).getD i .none
def placeB (P d : PyData) : Bool := tupB d 2 2 && (numB (nthD d 0) ((itemsD (nthD P 0)).length : Int) && numB (nthD d 1) ((itemsD (partD P (valI (nthD d 0)).toNat)).length : Int))
def lotB (P d : PyData) : Bool := isTup d && ((itemsD d).all (fun x => placeB P x) && ascB (itemsD d))
theorem numB_iff {d : PyData} {n : Int} : numB d n = true ↔ ∃ i : Int, d = .int i ∧ 0 ≤ i ∧ i < n := by
  constructor
  · intro h
    unfold numB at h
    rw [Bool.and_eq_true, Bool.and_eq_true, decide_eq_true_eq, decide_eq_true_eq] at h
    obtain ⟨i, rfl⟩ := int_of h.1
    exact ⟨i, rfl, h.2.1, h.2.2⟩
  · rintro ⟨i, rfl, h0, h1⟩
    exact numB_ok h0 h1
theorem placeB_iff {P d : PyData} : placeB P d = true ↔ ∃ i j : Nat, d = placeD i j ∧ i < (itemsD (nthD P 0)).length ∧ j < (itemsD (partD P i)).length := by
  constructor
  · intro h
    unfold placeB at h
    rw [Bool.and_eq_true, Bool.and_eq_true] at h
    obtain ⟨ds, rfl, l1, l2⟩ := tupB_len h.1
    obtain ⟨x, y, rfl⟩ := len2 l1 l2
    obtain ⟨i, ei, i0, i1⟩ := numB_iff.mp h.2.1
    obtain ⟨j, ej, j0, j1⟩ := numB_iff.mp h.2.2
    have ex : x = .int i := ei
    have ey : y = .int j := ej
    subst ex ey
    have e1 : valI (nthD (.tuple [.int i, .int j]) 0) = i := rfl
    rw [e1] at j1
    refine ⟨i.toNat, j.toNat, ?_, by omega, by omega⟩
    unfold placeD
    rw [Int.toNat_of_nonneg i0, Int.toNat_of_nonneg j0]
  · rintro ⟨i, j, rfl, hi, hj⟩
    unfold placeB placeD
    have e1 : valI (nthD (.tuple [.int i, .int j]) 0) = (i : Int) := rfl
    rw [e1, Int.toNat_natCast]
    show (true && (numB (.int i) _ && numB (.int j) _)) = true
    rw [numB_ok (by omega) (by omega), numB_ok (by omega) (by omega)]
    rfl
/-- the places as pairs -/
def pairsIn (i n : Nat) : List (Nat × Nat) := (List.range n).map fun j => (i, j)
def pairsTo (ps : List PyData) (n : Nat) : List (Nat × Nat) := (List.range n).flatMap fun k => pairsIn k (itemsD (ps.getD k .none)).length
def pD (q : Nat × Nat) : PyData := placeD q.1 q.2
def pLt (q r : Nat × Nat) : Prop := q.1 < r.1 ∨ (q.1 = r.1 ∧ q.2 < r.2)
theorem upTo_pairs (ps : List PyData) (n : Nat) : upTo ps n = (pairsTo ps n).map pD := by
  unfold upTo pairsTo
  rw [List.map_flatMap]
  congr 1
  funext k
  unfold inPart pairsIn
  rw [List.map_map]
  rfl
theorem pairs_mem {ps : List PyData} {n : Nat} {q : Nat × Nat} : q ∈ pairsTo ps n ↔ q.1 < n ∧ q.2 < (itemsD (ps.getD q.1 .none)).length := by
  unfold pairsTo pairsIn
  rw [List.mem_flatMap]
  constructor
  · rintro ⟨k, hk, hq⟩
    obtain ⟨j, hj, rfl⟩ := List.mem_map.mp hq
    exact ⟨List.mem_range.mp hk, List.mem_range.mp hj⟩
  · rintro ⟨h1, h2⟩
    exact ⟨q.1, List.mem_range.mpr h1, List.mem_map.mpr ⟨q.2, List.mem_range.mpr h2, rfl⟩⟩
theorem pairs_up (ps : List PyData) : ∀ n : Nat, (pairsTo ps n).Pairwise pLt
  | 0 => .nil
  | n + 1 => by
    have ih := pairs_up ps n
    have e : pairsTo ps (n + 1) = pairsTo ps n ++ pairsIn n (itemsD (ps.getD n .none)).length := by
      unfold pairsTo
      rw [List.range_succ, List.flatMap_append, List.flatMap_cons, List.flatMap_nil, List.append_nil]
    rw [e, List.pairwise_append]
    refine ⟨ih, ?_, fun q hq r hr => ?_⟩
    · unfold pairsIn
      rw [List.pairwise_map]
      exact (List.pairwise_lt_range).imp fun h => .inr ⟨rfl, h⟩
    · have h1 := (pairs_mem.mp hq).1
      obtain ⟨j, _, rfl⟩ := List.mem_map.mp hr
      exact .inl h1
theorem pD_lt (q r : Nat × Nat) : PySem.W.dataLt (pD q) (pD r) = true ↔ pLt q r := by
  unfold pD placeD
  rw [PySem.W.dataLt_pair (by rfl) (by rfl)]
  have e : ∀ a b : Nat, PyData.eqv (.int (a : Int)) (.int (b : Int)) = decide (a = b) := fun a b => by
    rw [Bool.eq_iff_iff, decide_eq_true_eq]
    simp [PyData.eqv] <;> omega
  rw [e, e, PySem.W.dataLt_int, PySem.W.dataLt_int]
  unfold pLt
  by_cases h1 : q.1 = r.1
  · rw [if_pos (decide_eq_true h1)]
    by_cases h2 : q.2 = r.2
    · rw [if_pos (decide_eq_true h2)]
      constructor
      · intro z
        exact nomatch z
      · omega
    · rw [if_neg (by simpa using h2), decide_eq_true_eq]
      omega
  · rw [if_neg (by simpa using h1), decide_eq_true_eq]
    omega
theorem asc_up : ∀ {l : List (Nat × Nat)}, l.Pairwise pLt → ascB (l.map pD) = true := fun h => ascB_of pD pLt (fun a b z => (pD_lt a b).mpr z) _ h
theorem ascB_mid : ∀ (l : List PyData) {a b : PyData} {r : List PyData}, ascB (l ++ a :: b :: r) = true → PySem.W.dataLt a b = true
  | [], _, _, _, h => (Bool.and_eq_true_iff.mp h).1
  | [x], a, b, r, h => ascB_mid [] (show ascB (a :: b :: r) = true from (Bool.and_eq_true_iff.mp (show (PySem.W.dataLt x a && ascB (a :: b :: r)) = true from h)).2)
  | x :: y :: l, a, b, r, h => ascB_mid (y :: l) (show ascB ((y :: l) ++ a :: b :: r) = true from (Bool.and_eq_true_iff.mp (show (PySem.W.dataLt x y && ascB ((y :: l) ++ a :: b :: r)) = true from h)).2)
section
variable {P : PyData} {ps : List PyData}
theorem place_all (hP : nthD P 0 = .tuple ps) {l : List (Nat × Nat)} (h : ∀ q ∈ l, q ∈ pairsTo ps ps.length) : (l.map pD).all (fun x => placeB P x) = true := by
  rw [List.all_map, List.all_eq_true]
  intro q hq
  have z := pairs_mem.mp (h q hq)
  refine placeB_iff.mpr ⟨q.1, q.2, rfl, ?_, ?_⟩
  · rw [hP]
    exact z.1
  · unfold partD
    rw [hP]
    exact z.2
theorem lot_ok (hP : nthD P 0 = .tuple ps) {l : List (Nat × Nat)} (h : ∀ q ∈ l, q ∈ pairsTo ps ps.length) (up : l.Pairwise pLt) : lotB P (.tuple (l.map pD)) = true := by
  show (true && ((l.map pD).all (fun x => placeB P x) && ascB (l.map pD))) = true
  rw [place_all hP h, asc_up up]
  rfl
theorem lot_turned (hP : nthD P 0 = .tuple ps) {n : Nat} (hn : n < (pairsTo ps ps.length).length) : lotB P (.tuple (((pairsTo ps ps.length).drop n ++ (pairsTo ps ps.length).take n).map pD)) = decide (n = 0) := by
  have up := pairs_up ps ps.length
  by_cases h0 : n = 0
  · subst h0
    rw [List.drop_zero, List.take_zero, List.append_nil, decide_eq_true rfl]
    exact lot_ok hP (fun q hq => hq) up
  · rw [decide_eq_false h0]
    generalize pairsTo ps ps.length = l at *
    have e := List.take_append_drop n l
    have ht : 0 < (l.take n).length := by rw [List.length_take]; omega
    have hd : 0 < (l.drop n).length := by rw [List.length_drop]; omega
    obtain ⟨y, v, hy⟩ := List.exists_cons_of_length_pos ht
    obtain ⟨u, x, hx⟩ : ∃ u x, l.drop n = u ++ [x] := ⟨(l.drop n).dropLast, (l.drop n).getLast (List.ne_nil_of_length_pos hd), (List.dropLast_concat_getLast _).symm⟩
    rw [hy, hx] at e ⊢
    rw [← e, List.pairwise_append] at up
    have lt : pLt y x := up.2.2 y List.mem_cons_self x (List.mem_append.mpr (.inr List.mem_cons_self))
    rw [Bool.eq_false_iff]
    intro z
    have z2 : (true && (_ && ascB ((u ++ [x] ++ y :: v).map pD))) = true := z
    rw [Bool.true_and, Bool.and_eq_true] at z2
    have z3 := z2.2
    rw [List.append_assoc, List.map_append] at z3
    have lt2 := (pD_lt x y).mp (ascB_mid (u.map pD) z3)
    unfold pLt at lt lt2
    omega
theorem lot_with {ds : List PyData} {x : PyData} (hx : x ∈ ds) (h : placeB P x = false) : lotB P (.tuple ds) = false := by
  show (true && (ds.all (fun x => placeB P x) && ascB ds)) = false
  have e : ds.all (fun x => placeB P x) = false := by
    rw [List.all_eq_false]
    exact ⟨x, hx, by rw [h]; exact fun z => nomatch z⟩
  rw [e]
  rfl
theorem lot_twice {l r : List PyData} {x : PyData} : lotB P (.tuple (l ++ x :: x :: r)) = false := by
  rw [Bool.eq_false_iff]
  intro z
  have z2 : (true && (_ && ascB (l ++ x :: x :: r))) = true := z
  rw [Bool.true_and, Bool.and_eq_true] at z2
  have z3 := ascB_mid l z2.2
  rw [PySem.W.dataLt_self] at z3
  exact nomatch z3
theorem place_no {d : PyData} (h : ∀ i j : Nat, d = placeD i j → i < (itemsD (nthD P 0)).length → j < (itemsD (partD P i)).length → False) : placeB P d = false := by
  rw [Bool.eq_false_iff]
  intro z
  obtain ⟨i, j, e, h1, h2⟩ := placeB_iff.mp z
  exact h i j e h1 h2
theorem ints_eq {a b : Int} {i j : Nat} (h : PyData.tuple [.int a, .int b] = placeD i j) : a = i ∧ b = j := by
  unfold placeD at h
  injection h with h
  injection h with h1 h2
  injection h2 with h2 _
  injection h1 with h1
  injection h2 with h2
  exact ⟨h1, h2⟩
def lots0 (gs rs : List PyData) (i j c n : Int) : List PyData := [.list (gs ++ [.tuple [.int i, .int j]]), .tuple (rs ++ [.tuple [.int i, .int j], .tuple [.int i, .int j]]), .tuple (List.reverse (rs ++ [PyData.tuple [.int c, .int 0], .tuple [.int i, .int j]]))]
def lots1 (gs rs : List PyData) (i j c n : Int) : List PyData := [.tuple (rs ++ [.tuple [.int i, .int n]]), .tuple ([.tuple [.int (-1), .int 0]] ++ rs), .tuple ([.tuple [.int 0, .int (-1)]] ++ rs)]
def lots2 (gs rs : List PyData) (i j c n : Int) : List PyData := [.tuple (rs ++ [.tuple [.int c, .int 0]]), .tuple (rs ++ [.tuple [.int i, .int j, .int 0]]), .tuple (rs ++ [.tuple [.int i]]), .tuple (rs ++ [.list [.int i, .int j]])]
def lots3 (gs rs : List PyData) (i j c n : Int) : List PyData := [.tuple [.tuple [.bool false, .int 0]], .tuple [.tuple [.int 0, .bool false]], .tuple [.int i, .int j], .none]
theorem lots_bad {gs rs : List PyData} {i j c n : Int} {d : PyData} (hc : c = ((itemsD (nthD P 0)).length : Int)) (i0 : 0 ≤ i) (hn : n = ((itemsD (partD P i.toNat)).length : Int))
    (h : d ∈ ((lots0 gs rs i j c n ++ lots1 gs rs i j c n) ++ lots2 gs rs i j c n) ++ lots3 gs rs i j c n) : lotB P d = false := by
  have pc : placeB P (.tuple [.int c, .int 0]) = false := place_no fun a b e h1 h2 => by
    have := (ints_eq e).1
    omega
  simp only [lots0, lots1, lots2, lots3, List.mem_append, List.mem_cons, List.not_mem_nil, or_false, or_assoc] at h
  rcases h with h | h | h | h | h | h | h | h | h | h | h | h | h | h <;> rw [h]
  · rfl
  · exact lot_twice
  · exact lot_with (List.mem_reverse.mpr (List.mem_append.mpr (.inr List.mem_cons_self))) pc
  · refine lot_with (List.mem_append.mpr (.inr List.mem_cons_self)) (place_no fun a b e h1 h2 => ?_)
    have e1 := (ints_eq e).1
    have e2 := (ints_eq e).2
    have e3 : i.toNat = a := by omega
    rw [e3] at hn
    omega
  · refine lot_with (List.mem_append.mpr (.inl List.mem_cons_self)) (place_no fun a b e h1 h2 => ?_)
    have := (ints_eq e).1
    omega
  · refine lot_with (List.mem_append.mpr (.inl List.mem_cons_self)) (place_no fun a b e h1 h2 => ?_)
    have := (ints_eq e).2
    omega
  · exact lot_with (List.mem_append.mpr (.inr List.mem_cons_self)) pc
  · exact lot_with (List.mem_append.mpr (.inr List.mem_cons_self)) rfl
  · exact lot_with (List.mem_append.mpr (.inr List.mem_cons_self)) rfl
  · exact lot_with (List.mem_append.mpr (.inr List.mem_cons_self)) rfl
  · exact lot_with List.mem_cons_self rfl
  · refine lot_with List.mem_cons_self ?_
    show (true && (_ && false)) = false
    simp
  · exact lot_with List.mem_cons_self rfl
  · rfl
end
def oneD : PyData := .tuple [.tuple [.tuple [.tuple [.str "out"]]], .tuple [.bool true], .tuple [.int 0], .tuple []]
theorem one_ok : progB oneD = true := by decide +kernel
theorem one_places : placesD oneD = [placeD 0 0] := rfl
end Lb
namespace Lb
open PySem PySem.Spec PyProof.Rows L2
def pairsOf (d : PyData) : List (Nat × Nat) := pairsTo (itemsD (nthD d 0)) (itemsD (nthD d 0)).length
theorem places_pairs (d : PyData) : placesD d = (pairsOf d).map pD := upTo_pairs _ _
theorem lots_len {gs rs : List PyData} {i j c n : Int} {d : PyData} (hg : gs.length ≤ 20) (hr : rs.length ≤ 20)
    (h : d ∈ ((lots0 gs rs i j c n ++ lots1 gs rs i j c n) ++ lots2 gs rs i j c n) ++ lots3 gs rs i j c n) : (itemsD d).length ≤ 100 := by
  simp only [lots0, lots1, lots2, lots3, List.mem_append, List.mem_cons, List.not_mem_nil, or_false, or_assoc] at h
  rcases h with h | h | h | h | h | h | h | h | h | h | h | h | h | h <;> rw [h] <;> simp [itemsD] <;> omega
theorem cut_from {xs : List V} {n : Nat} (h : n ≤ xs.length) : cutV xs (some (n : Int)) none = xs.drop n := by
  unfold cutV
  rw [HT.sIx_nat, Nat.min_eq_left h]
  show (xs.drop n).take (xs.length - n) = xs.drop n
  apply List.take_of_length_le
  rw [List.length_drop]
  omega
theorem cut_to {xs : List V} {n : Nat} (h : n ≤ xs.length) : cutV xs none (some (n : Int)) = xs.take n := by
  unfold cutV
  rw [HT.sIx_nat, Nat.min_eq_left h]
  show (xs.drop 0).take (n - 0) = xs.take n
  rw [List.drop_zero, Nat.sub_zero]
end Lb

set_option Elab.async false
set_option linter.all false
set_option maxRecDepth 100000
set_option maxHeartbeats 4000000
/-! which part leads to which one; levels of parts that are ready -/
namespace Lb
open PySem PySem.Spec PyProof.Rows L2
def nV (k : Nat) : V := .int (k : Int)
def nD (k : Nat) : PyData := .int (k : Int)
def nsD (l : List Nat) : PyData := .list (l.map nD)
def lkD (L : List (List Nat)) : PyData := .list (L.map nsD)
abbrev at_ (L : List (List Nat)) (i : Nat) : List Nat := L.getD i []
theorem inV_nat (x : Nat) (l : List Nat) : inV (nV x) (l.map nV) = decide (x ∈ l) := by
  unfold inV
  rw [List.any_map, Bool.eq_iff_iff, List.any_eq_true, decide_eq_true_eq]
  constructor
  · rintro ⟨y, hy, e⟩
    have e : ((y : Int) == (x : Int)) = true := e
    rw [beq_iff_eq] at e
    have : y = x := by omega
    rw [← this]
    exact hy
  · intro hx
    exact ⟨x, hx, beq_iff_eq.mpr rfl⟩
theorem flat_nat (l : List Nat) : (l.map nV).all flatV = true := by
  rw [List.all_map]
  exact List.all_eq_true.mpr fun _ _ => rfl
theorem nats_of {S : List Addr} {H : Hp} : ∀ {l : List Nat} {xs : List V}, Reps S H xs (l.map nD) → xs = l.map nV
  | [], _, .nil => rfl
  | k :: l, _, .cons r rs => by rw [r.intV, nats_of rs]; rfl
theorem nats_rep {S : List Addr} {H : Hp} : ∀ l : List Nat, Reps S H (l.map nV) (l.map nD)
  | [] => .nil
  | k :: l => .cons (.int _) (nats_rep l)
/-- k can be come to from p -/
inductive Reach (L : List (List Nat)) (p : Nat) : Nat → Prop
  | one {k : Nat} : k ∈ at_ L p → Reach L p k
  | more {j k : Nat} : Reach L p j → k ∈ at_ L j → Reach L p k
theorem Reach.congr {L M : List (List Nat)} (h : ∀ i k, k ∈ at_ L i → k ∈ at_ M i) {p k : Nat} (r : Reach L p k) : Reach M p k := by
  induction r with
  | one e => exact .one (h _ _ e)
  | more _ e ih => exact .more ih (h _ _ e)
/-- a search from p: what is found, what waits -/
structure Srch (L : List (List Nat)) (p : Nat) (fs ws : List Nat) : Prop where
  f : ∀ k ∈ fs, Reach L p k
  w : ∀ k ∈ ws, Reach L p k
  st : ∀ k ∈ at_ L p, k ∈ fs ∨ k ∈ ws
  cl : ∀ j ∈ fs, ∀ k ∈ at_ L j, k ∈ fs ∨ k ∈ ws
  nd : fs.Nodup
theorem Srch.start (L : List (List Nat)) (p : Nat) : Srch L p [] (at_ L p) :=
  ⟨fun _ z => (nomatch z), fun k h => .one h, fun k h => .inr h, fun _ z => (nomatch z), .nil⟩
theorem Srch.skip {L : List (List Nat)} {p x : Nat} {fs ws : List Nat} (s : Srch L p fs (ws ++ [x])) (h : x ∈ fs) : Srch L p fs ws := by
  have out : ∀ {k}, k ∈ fs ∨ k ∈ ws ++ [x] → k ∈ fs ∨ k ∈ ws := fun z => z.elim .inl fun z => (List.mem_append.mp z).elim .inr fun z => by rw [List.mem_singleton.mp z]; exact .inl h
  exact ⟨s.f, fun k h => s.w k (List.mem_append_left _ h), fun k h => out (s.st k h), fun j hj k h => out (s.cl j hj k h), s.nd⟩
theorem Srch.take {L : List (List Nat)} {p x : Nat} {fs ws : List Nat} (s : Srch L p fs (ws ++ [x])) (h : x ∉ fs) : Srch L p (fs ++ [x]) (ws ++ at_ L x) := by
  have rx := s.w x (List.mem_append_right _ (List.mem_singleton.mpr rfl))
  have out : ∀ {k}, k ∈ fs ∨ k ∈ ws ++ [x] → k ∈ fs ++ [x] ∨ k ∈ ws ++ at_ L x := fun z => z.elim (fun z => .inl (List.mem_append_left _ z)) fun z => (List.mem_append.mp z).elim (fun z => .inr (List.mem_append_left _ z)) fun z => .inl (List.mem_append_right _ z)
  refine ⟨fun k hk => ?_, fun k hk => ?_, fun k hk => out (s.st k hk), fun j hj k hk => ?_, ?_⟩
  · rcases List.mem_append.mp hk with z | z
    · exact s.f k z
    · rw [List.mem_singleton.mp z]
      exact rx
  · rcases List.mem_append.mp hk with z | z
    · exact s.w k (List.mem_append_left _ z)
    · exact .more rx z
  · rcases List.mem_append.mp hj with z | z
    · exact out (s.cl j z k hk)
    · rw [List.mem_singleton.mp z] at hk
      exact .inr (List.mem_append_right _ hk)
  · refine List.nodup_append.mpr ⟨s.nd, by simp, fun a ha b hb => ?_⟩
    rw [List.mem_singleton.mp hb]
    exact fun e => h (by rw [← e]; exact ha)
theorem Srch.done {L : List (List Nat)} {p : Nat} {fs : List Nat} (s : Srch L p fs []) (k : Nat) : k ∈ fs ↔ Reach L p k := by
  refine ⟨s.f k, fun r => ?_⟩
  induction r with
  | one h => exact (s.st _ h).elim id fun z => nomatch z
  | more _ h ih => exact (s.cl _ ih _ h).elim id fun z => nomatch z
structure LkOk (n : Nat) (L : List (List Nat)) : Prop where
  len : L.length = n
  few : ∀ l ∈ L, l.length ≤ 40
  lt : ∀ l ∈ L, ∀ k ∈ l, k < n
theorem LkOk.at {n : Nat} {L : List (List Nat)} (ok : LkOk n L) (i : Nat) : (at_ L i).length ≤ 40 ∧ ∀ k ∈ at_ L i, k < n := by
  unfold at_
  rw [List.getD_eq_getElem?_getD]
  cases e : L[i]? with
  | none => exact ⟨Nat.zero_le _, fun _ z => (nomatch z)⟩
  | some l =>
    have m := List.mem_of_getElem? e
    exact ⟨ok.few l m, ok.lt l m⟩
theorem nodup_lt {l : List Nat} {n : Nat} (nd : l.Nodup) (h : ∀ k ∈ l, k < n) : l.length ≤ n := by
  have z := L2.nat_nodup_len l (List.range n) nd fun k hk => List.mem_range.mpr (h k hk)
  rwa [List.length_range] at z
/-! levels -/
section
variable (n : Nat) (free : Nat → Prop) (L0 : List Nat) (L : List (List Nat))
def Rdy : Nat → Nat → Prop
  | 0, _ => False
  | t + 1, k => k < n ∧ free k ∧ (k ∈ L0 ∨ ∃ j, Rdy t j ∧ k ∈ at_ L j)
end
section
variable {n : Nat} {free : Nat → Prop} {L0 : List Nat} {L : List (List Nat)}
theorem Rdy.up : ∀ {t k : Nat}, Rdy n free L0 L t k → Rdy n free L0 L (t + 1) k
  | 0, _, h => h.elim
  | t + 1, k, h => ⟨h.1, h.2.1, h.2.2.elim .inl fun ⟨j, a, b⟩ => .inr ⟨j, Rdy.up a, b⟩⟩
theorem Rdy.mono {t u k : Nat} (h : Rdy n free L0 L t k) (le : t ≤ u) : Rdy n free L0 L u k := by
  induction le with
  | refl => exact h
  | step _ ih => exact ih.up
theorem Rdy.lt {t k : Nat} (h : Rdy n free L0 L t k) : k < n := by
  cases t with
  | zero => exact h.elim
  | succ t => exact h.1
theorem Rdy.fr {t k : Nat} (h : Rdy n free L0 L t k) : free k := by
  cases t with
  | zero => exact h.elim
  | succ t => exact h.2.1
/-- nothing new: nothing new ever -/
theorem Rdy.still {t : Nat} (h : ∀ k, Rdy n free L0 L (t + 1) k → Rdy n free L0 L t k) : ∀ {u k : Nat}, Rdy n free L0 L u k → Rdy n free L0 L t k
  | 0, _, z => z.elim
  | u + 1, k, z => h k ⟨z.1, z.2.1, z.2.2.elim .inl fun ⟨j, a, b⟩ => .inr ⟨j, Rdy.still h a, b⟩⟩
/-- at each level up to t something new: as many -/
theorem Rdy.many : ∀ t : Nat, (∀ u, u < t → ∃ k, Rdy n free L0 L (u + 1) k ∧ ¬ Rdy n free L0 L u k) → ∃ l : List Nat, l.length = t ∧ l.Nodup ∧ ∀ k ∈ l, Rdy n free L0 L t k
  | 0, _ => ⟨[], rfl, .nil, fun _ z => (nomatch z)⟩
  | t + 1, h => by
    obtain ⟨l, e, nd, all⟩ := Rdy.many t fun u hu => h u (Nat.lt_succ_of_lt hu)
    obtain ⟨k, h1, h2⟩ := h t (Nat.lt_succ_self t)
    refine ⟨k :: l, by rw [List.length_cons, e], List.nodup_cons.mpr ⟨fun z => h2 (all k z), nd⟩, fun j hj => ?_⟩
    rcases List.mem_cons.mp hj with z | z
    · rw [z]
      exact h1
    · exact (all j z).up
theorem Rdy.four (n4 : n ≤ 4) {u k : Nat} (h : Rdy n free L0 L u k) : Rdy n free L0 L 4 k := by
  rcases Classical.em (∀ t, t < 5 → ∃ k, Rdy n free L0 L (t + 1) k ∧ ¬ Rdy n free L0 L t k) with c | c
  · obtain ⟨l, e, nd, all⟩ := Rdy.many 5 c
    have := nodup_lt nd fun k hk => (all k hk).lt
    omega
  · obtain ⟨t, c⟩ := Classical.not_forall.mp c
    obtain ⟨t5, c⟩ := Classical.not_imp.mp c
    refine Rdy.mono (t := t) (Rdy.still (fun k hk => ?_) h) (by omega)
    rcases Classical.em (Rdy n free L0 L t k) with d | d
    · exact d
    · exact (c ⟨k, hk, d⟩).elim
/-- the level at which k is ready first, 0 if it never is -/
def Lev (n : Nat) (free : Nat → Prop) (L0 : List Nat) (L : List (List Nat)) (k d : Nat) : Prop := (d = 0 ∧ ¬ Rdy n free L0 L 4 k) ∨ (1 ≤ d ∧ d ≤ 4 ∧ Rdy n free L0 L d k ∧ ¬ Rdy n free L0 L (d - 1) k)
theorem Lev.one {k d e : Nat} (a : Lev n free L0 L k d) (b : Lev n free L0 L k e) : d = e := by
  rcases a with ⟨rfl, a⟩ | ⟨a1, a4, a2, a3⟩
  · rcases b with ⟨rfl, _⟩ | ⟨_, b4, b2, _⟩
    · rfl
    · exact (a (b2.mono b4)).elim
  · rcases b with ⟨rfl, b⟩ | ⟨b1, b4, b2, b3⟩
    · exact (b (a2.mono a4)).elim
    · rcases Nat.lt_trichotomy d e with c | c | c
      · exact (b3 (a2.mono (by omega))).elim
      · exact c
      · exact (a3 (b2.mono (by omega))).elim
theorem Lev.pos {k d : Nat} (a : Lev n free L0 L k d) : 0 < d ↔ Rdy n free L0 L 4 k := by
  rcases a with ⟨rfl, a⟩ | ⟨a1, a4, a2, _⟩
  · exact ⟨fun z => (nomatch z), fun z => (a z).elim⟩
  · exact ⟨fun _ => a2.mono a4, fun _ => a1⟩
/-- new at the level t + 1 -/
theorem Lev.new (n4 : n ≤ 4) {k t : Nat} (h : Rdy n free L0 L (t + 1) k) (nw : ¬ Rdy n free L0 L t k) : Lev n free L0 L k (t + 1) := by
  refine .inr ⟨by omega, ?_, h, nw⟩
  rcases Nat.lt_or_ge t 4 with c | c
  · omega
  · exact (nw ((Rdy.four n4 h).mono c)).elim
/-- what is new behind a level is named by what was new -/
theorem Rdy.next {t k : Nat} (h : Rdy n free L0 L (t + 2) k) (nw : ¬ Rdy n free L0 L (t + 1) k) : ∃ j, Rdy n free L0 L (t + 1) j ∧ ¬ Rdy n free L0 L t j ∧ k ∈ at_ L j := by
  obtain ⟨h1, h2, h3 | ⟨j, a, b⟩⟩ := h
  · exact (nw ⟨h1, h2, .inl h3⟩).elim
  · exact ⟨j, a, fun z => nw ⟨h1, h2, .inr ⟨j, z, b⟩⟩, b⟩
theorem Rdy.congr {f' : Nat → Prop} {M0 : List Nat} {M : List (List Nat)} (hf : ∀ k, k < n → free k → f' k) (h0 : ∀ k, k ∈ L0 → k ∈ M0) (hL : ∀ i k, k ∈ at_ L i → k ∈ at_ M i) : ∀ {t k : Nat}, Rdy n free L0 L t k → Rdy n f' M0 M t k
  | 0, _, h => h.elim
  | t + 1, k, h => ⟨h.1, hf k h.1 h.2.1, h.2.2.elim (fun z => .inl (h0 k z)) fun ⟨j, a, b⟩ => .inr ⟨j, Rdy.congr hf h0 hL a, hL j k b⟩⟩
end
/-! a program's links -/
def namedOf : Row → Option Nat
  | .load p => some p.toNat
  | .pass _ p _ => some p.toNat
  | _ => none
def linksL (P : Prog) : List (List Nat) := P.parts.map (List.filterMap namedOf)
def outR : Row → Bool
  | .out => true
  | _ => false
def wideL (P : Prog) (ds : List Nat) : List (List Nat) := P.parts.map fun rs => rs.filterMap namedOf ++ (if rs.any outR then ds else [])
def IsDoor (P : Prog) (k : Nat) : Prop := (k : Int) ∈ P.entries ∨ ∃ rs ∈ P.parts, ∃ r ∈ rs, ∃ n ns, r = Row.late n (k : Int) ns
theorem named_lt {P : Prog} (ok : P.Ok) {rs : List Row} (h : rs ∈ P.parts) {k : Nat} (hk : k ∈ rs.filterMap namedOf) : k < P.parts.length := by
  obtain ⟨r, hr, e⟩ := List.mem_filterMap.mp hk
  have o := ok.rows rs h r hr
  unfold Prog.c at o
  cases r with
  | load p =>
    have e : some p.toNat = some k := e
    injection e with e
    have := o.1
    have := o.2
    omega
  | pass n p q =>
    have e : some p.toNat = some k := e
    injection e with e
    have := o.2.1.1
    have := o.2.1.2
    omega
  | _ => exact nomatch e
theorem links_ok {P : Prog} (ok : P.Ok) : LkOk P.parts.length (linksL P) := by
  refine ⟨List.length_map .., fun l hl => ?_, fun l hl k hk => ?_⟩
  · obtain ⟨rs, hrs, rfl⟩ := List.mem_map.mp hl
    have h1 := List.length_filterMap_le namedOf rs
    have h2 := ok.five rs hrs
    omega
  · obtain ⟨rs, hrs, rfl⟩ := List.mem_map.mp hl
    exact named_lt ok hrs hk
theorem wide_ok {P : Prog} (ok : P.Ok) {ds : List Nat} (few : ds.length ≤ 25) (lt : ∀ k ∈ ds, k < P.parts.length) : LkOk P.parts.length (wideL P ds) := by
  refine ⟨List.length_map .., fun l hl => ?_, fun l hl k hk => ?_⟩
  · obtain ⟨rs, hrs, rfl⟩ := List.mem_map.mp hl
    have h1 := List.length_filterMap_le namedOf rs
    have h2 := ok.five rs hrs
    rw [List.length_append]
    split
    · omega
    · show _ + 0 ≤ 40
      omega
  · obtain ⟨rs, hrs, rfl⟩ := List.mem_map.mp hl
    rcases List.mem_append.mp hk with z | z
    · exact named_lt ok hrs z
    · split at z
      · exact lt k z
      · exact nomatch z
theorem wide_congr {P : Prog} {ds es : List Nat} (h : ∀ k, k ∈ ds → k ∈ es) (i k : Nat) (hk : k ∈ at_ (wideL P ds) i) : k ∈ at_ (wideL P es) i := by
  unfold at_ wideL at *
  rw [List.getD_eq_getElem?_getD, List.getElem?_map] at *
  cases e : P.parts[i]? with
  | none =>
    rw [e] at hk
    exact nomatch hk
  | some rs =>
    rw [e] at hk
    rw [Option.map_some, Option.getD_some] at *
    rcases List.mem_append.mp hk with z | z
    · exact List.mem_append_left _ z
    · refine List.mem_append_right _ ?_
      split at z
      · rename_i c
        rw [if_pos c]
        exact h k z
      · exact nomatch z
theorem door_lt {P : Prog} (ok : P.Ok) {k : Nat} (h : IsDoor P k) : k < P.parts.length := by
  rcases h with z | ⟨rs, hrs, r, hr, n, ns, rfl⟩
  · have := ok.entIn _ z
    unfold Prog.c at this
    omega
  · have := (ok.rows rs hrs _ hr).2.1
    unfold Prog.c at this
    omega
theorem late_d {r : Row} : goB r.d = true ↔ ∃ n p ns, r = .late n p ns ∧ p ≠ -1 := by
  cases r with
  | late n p ns =>
    show (true && !decide (p = -1)) = true ↔ _
    rw [Bool.true_and]
    constructor
    · intro h
      exact ⟨n, p, ns, rfl, by simpa using h⟩
    · rintro ⟨_, _, _, e, h⟩
      injection e with _ e _
      rw [← e] at h
      simpa using h
  | _ => exact ⟨fun z => (nomatch z), fun ⟨_, _, _, e, _⟩ => (nomatch e)⟩
theorem door_iff {P : Prog} (ok : P.Ok) {k : Int} : k ∈ doorsD P.d ↔ 0 ≤ k ∧ IsDoor P k.toNat := by
  have e1 : (itemsD (nthD P.d 2)).map valI = P.entries := by
    show (P.entries.map PyData.int).map valI = P.entries
    rw [List.map_map]
    exact List.map_id'' (fun _ => rfl) _
  have e2 : rowsOfD (nthD P.d 0) = P.parts.flatten.map Row.d := by
    show (P.parts.map rowsD).flatMap itemsD = _
    rw [List.flatMap_map, List.map_flatten, List.flatMap_def]
    rfl
  unfold doorsD
  rw [List.mem_append, e1, e2]
  constructor
  · rintro (h | h)
    · have z := ok.entIn k h
      exact ⟨z.1, .inl (by rw [Int.toNat_of_nonneg z.1]; exact h)⟩
    · obtain ⟨d, hd, rfl⟩ := List.mem_map.mp h
      obtain ⟨m, g⟩ := List.mem_filter.mp hd
      obtain ⟨r, hr, rfl⟩ := List.mem_map.mp m
      obtain ⟨rs, hrs, hr⟩ := List.mem_flatten.mp hr
      obtain ⟨n, p, ns, rfl, pn⟩ := late_d.mp g
      have z := (ok.rows rs hrs _ hr).2.1.1
      have p0 : 0 ≤ p := by omega
      refine ⟨p0, .inr ⟨rs, hrs, _, hr, n, ns, ?_⟩⟩
      show Row.late n p ns = Row.late n ((p.toNat : Nat) : Int) ns
      rw [Int.toNat_of_nonneg p0]
  · rintro ⟨k0, h | ⟨rs, hrs, r, hr, n, ns, rfl⟩⟩
    · rw [Int.toNat_of_nonneg k0] at h
      exact .inl h
    · rw [Int.toNat_of_nonneg k0] at hr
      refine .inr (List.mem_map.mpr ⟨(Row.late n k ns).d, List.mem_filter.mpr ⟨List.mem_map.mpr ⟨_, List.mem_flatten.mpr ⟨rs, hrs, hr⟩, rfl⟩, late_d.mpr ⟨n, k, ns, rfl, by omega⟩⟩, rfl⟩)
/-- the doors as numbers -/
theorem doors_nat {P : Prog} (ok : P.Ok) {ns : List Int} (h : ∀ k, k ∈ ns ↔ k ∈ doorsD P.d) : ns.map V.int = (ns.map Int.toNat).map nV ∧ ∀ j, j ∈ ns.map Int.toNat ↔ IsDoor P j := by
  have pos : ∀ k ∈ ns, 0 ≤ k := fun k hk => ((door_iff ok).mp ((h k).mp hk)).1
  refine ⟨?_, fun j => ⟨fun hj => ?_, fun hj => ?_⟩⟩
  · rw [List.map_map]
    refine List.map_congr_left fun k hk => ?_
    show V.int k = V.int ((k.toNat : Nat) : Int)
    rw [Int.toNat_of_nonneg (pos k hk)]
  · obtain ⟨k, hk, rfl⟩ := List.mem_map.mp hj
    exact ((door_iff ok).mp ((h k).mp hk)).2
  · exact List.mem_map.mpr ⟨(j : Int), (h _).mpr ((door_iff ok).mpr ⟨by omega, by rw [Int.toNat_natCast]; exact hj⟩), Int.toNat_natCast j⟩
theorem lay_row {c : Int} {r : Row} (h : r.ok c) : PyData.canLay0 r.d = true := by
  have w : ∀ s : Str, s ∈ wordsOf → PyData.canLay0 (.str s) = true := fun s hs => strOk_word hs
  have t : ∀ ds : List PyData, PyData.canLayAll0 ds = true → PyData.canLay0 (.tuple ds) = true := fun ds e => by simp only [PyData.canLay0]; exact e
  have n : ∀ ns : List Nm, (∀ p ∈ ns, nmOk c p) → PyData.canLay0 (needsD ns) = true := fun ns e => t _ (lay_nms e)
  have i : ∀ p : Int, PyData.canLay0 (.int p) = true := fun p => by simp only [PyData.canLay0]
  have b : ∀ p : Bool, PyData.canLay0 (.bool p) = true := fun p => by simp only [PyData.canLay0]
  have c1 : ∀ d ds, PyData.canLay0 d = true → PyData.canLayAll0 ds = true → PyData.canLayAll0 (d :: ds) = true := fun d ds e f => by simp only [PyData.canLayAll0, e, f, Bool.and_true]
  have c0 : PyData.canLayAll0 [] = true := by simp only [PyData.canLayAll0]
  cases r with
  | load p => exact t _ (c1 _ _ (w _ (by decide +kernel)) (c1 _ _ (i p) c0))
  | give s ns r => exact t _ (c1 _ _ (w _ (by decide +kernel)) (c1 _ _ (strOk_letter h.1) (c1 _ _ (n _ h.2.2) (c1 _ _ (b r) c0))))
  | pass s p o => exact t _ (c1 _ _ (w _ (by decide +kernel)) (c1 _ _ (strOk_letter h.1) (c1 _ _ (i p) (c1 _ _ (strOk_letter h.2.2) c0))))
  | show_ ns r => exact t _ (c1 _ _ (w _ (by decide +kernel)) (c1 _ _ (n _ h.2) (c1 _ _ (b r) c0)))
  | out => exact t _ (c1 _ _ (w _ (by decide +kernel)) c0)
  | late s p ns => exact t _ (c1 _ _ (w _ (by decide +kernel)) (c1 _ _ (strOk_letter h.1) (c1 _ _ (i p) (c1 _ _ (n _ h.2.2.2) c0))))
theorem depth_row (r : Row) : r.d.depth ≤ 4 := by
  have n : ∀ ns : List Nm, (needsD ns).depth ≤ 3 := fun ns => by
    have := depth_nms ns
    simp only [needsD, PyData.depth]
    omega
  cases r with
  | give s ns r => have := n ns; simp only [Row.d, PyData.depth, PyData.depthAll]; omega
  | show_ ns r => have := n ns; simp only [Row.d, PyData.depth, PyData.depthAll]; omega
  | late s p ns => have := n ns; simp only [Row.d, PyData.depth, PyData.depthAll]; omega
  | _ => simp only [Row.d, PyData.depth, PyData.depthAll]; omega
theorem lay_rows {c : Int} : ∀ {rs : List Row}, (∀ r ∈ rs, r.ok c) → PyData.canLayAll0 (rs.map Row.d) = true
  | [], _ => by simp only [List.map_nil, PyData.canLayAll0]
  | r :: rs, h => by
    simp only [List.map_cons, PyData.canLayAll0, lay_row (h r List.mem_cons_self), lay_rows (rs := rs) fun q hq => h q (List.mem_cons_of_mem _ hq), Bool.and_true]
theorem depth_rows : ∀ rs : List Row, PyData.depthAll (rs.map Row.d) ≤ 4
  | [] => by simp only [List.map_nil, PyData.depthAll]; omega
  | r :: rs => by
    have h1 := depth_row r
    have h2 := depth_rows rs
    simp only [List.map_cons, PyData.depthAll]
    omega
theorem shaped_rows {c : Int} {rs : List Row} (h : ∀ r ∈ rs, r.ok c) : SeqAt.shaped (rowsD rs) = true := by
  have := depth_rows rs
  unfold SeqAt.shaped rowsD
  rw [Bool.and_eq_true, decide_eq_true_eq]
  refine ⟨by simp only [PyData.canLay0]; exact lay_rows h, by simp only [PyData.depth]; omega⟩
theorem out_any (rs : List Row) : ((rs.map Row.d).any fun z => PyData.eqv z (.tuple [.str "out"])) = rs.any outR := by
  rw [List.any_map]
  congr 1
  funext r
  cases r <;> rfl
theorem noDict_needs (ns : List Nm) : noDict (needsD ns) = true := noDicts_nms ns
theorem noDict_row (r : Row) : noDict r.d = true := by
  cases r <;> simp only [Row.d, noDict, noDicts, noDict_needs, Bool.and_true]
theorem noDict_rows (rs : List Row) : noDict (rowsD rs) = true := by
  show noDicts (rs.map Row.d) = true
  induction rs with
  | nil => rfl
  | cons r rs ih => rw [List.map_cons, noDicts, ih, noDict_row]; rfl
/-- a part that may stand ready for a row of own -/
def Free (P : Prog) (own : Nat) (k : Nat) : Prop := k ≠ own ∧ ∃ ds : List Nat, (∀ j, j ∈ ds ↔ IsDoor P j) ∧ ¬ Reach (wideL P ds) k own
theorem free_iff {P : Prog} {own k : Nat} {ds : List Nat} (h : ∀ j, j ∈ ds ↔ IsDoor P j) : Free P own k ↔ k ≠ own ∧ ¬ Reach (wideL P ds) k own := by
  constructor
  · rintro ⟨a, es, he, r⟩
    exact ⟨a, fun z => r (z.congr (wide_congr fun j hj => (he j).mpr ((h j).mp hj)))⟩
  · rintro ⟨a, r⟩
    exact ⟨a, ds, h, r⟩
def rowsOfP (P : Prog) (i : Nat) : List Row := P.parts.getD i []
def startL (P : Prog) (own index : Nat) : List Nat := ((rowsOfP P own).take index).filterMap namedOf
abbrev RdyP (P : Prog) (own index : Nat) : Nat → Nat → Prop := Rdy P.parts.length (Free P own) (startL P own index) (linksL P)
abbrev LevP (P : Prog) (own index k d : Nat) : Prop := Lev P.parts.length (Free P own) (startL P own index) (linksL P) k d
/-- a way to the part from a row of own ahead of index -/
inductive Way (P : Prog) (own index : Nat) : Nat → List (Nat × Nat) → Prop
  | nil : Way P own index own []
  | snoc {i j k : Nat} {r : Row} {ps : List (Nat × Nat)} : Way P own index i ps → (rowsOfP P i)[j]? = some r → namedOf r = some k → (i = own → j < index) → RdyP P own index 4 k → Way P own index k (ps ++ [(i, j)])
def stD (q : Nat × Nat) : PyData := .tuple [.int (q.1 : Int), .int (q.2 : Int)]
def stsD (l : List (Nat × Nat)) : PyData := .list (l.map stD)
end Lb

set_option Elab.async false
set_option linter.all false
set_option maxRecDepth 100000
set_option maxHeartbeats 4000000
/-! lists of lists of numbers in a heap -/
namespace Lb
open PySem PySem.Spec PyProof.Rows L2
theorem flt_map {α β : Type} (p : α → Prop) (cl : ∀ a, Decidable (p a)) (f : α → β) : ∀ l : List α, l.filterMap (fun a => @ite _ (p a) (cl a) (some (f a)) none) = (l.filter fun a => @decide (p a) (cl a)).map f
  | [] => rfl
  | a :: l => by
    rw [List.filterMap_cons, List.filter_cons]
    by_cases c : p a
    · rw [if_pos c, if_pos (by simpa using c), List.map_cons, flt_map p cl f l]
    · rw [if_neg c, if_neg (by simpa using c)]
      exact flt_map p cl f l
theorem dec_nat {i j : Nat} : decide (V.int (i : Int) = nV j) = decide (i = j) := by
  rw [show nV j = V.int (j : Int) from rfl, dec_int, Bool.eq_iff_iff, beq_iff_eq, decide_eq_true_eq]
  omega
theorem room65 {k : Nat} {A : Around} (r : Room k A) : A.units + 65 < cLine := by have := r.un; omega
theorem shaped_out : SeqAt.shaped (.tuple [.str "out"]) = true := by
  have h : PyData.canLay0 (.str ("out" : Str)) = true := strOk_word (by decide +kernel)
  unfold SeqAt.shaped
  rw [Bool.and_eq_true, decide_eq_true_eq]
  refine ⟨by simp only [PyData.canLay0, PyData.canLayAll0] at h ⊢; rw [h]; rfl, by simp only [PyData.depth, PyData.depthAll]; omega⟩
/-- a list of lists of numbers, none of them there in H0 -/
def LksAt (H0 H : Hp) (v : V) (L : List (List Nat)) : Prop := ∃ (D : Addr) (as : List Addr), v = .ref D ∧ H0 D = none ∧ H D = some (.lst (as.map .ref)) ∧ as.length = L.length ∧ ∀ i a, as[i]? = some a → H0 a = none ∧ a ≠ D ∧ H a = some (.lst ((at_ L i).map nV))
theorem LksAt.sm {H0 H H' : Hp} {v : V} {L : List (List Nat)} (k : LksAt H0 H v L) (s : Same H H') : LksAt H0 H' v L := by
  obtain ⟨D, as, e, n, h, l, f⟩ := k
  exact ⟨D, as, e, n, s _ _ h, l, fun i a z => ⟨(f i a z).1, (f i a z).2.1, s _ _ (f i a z).2.2⟩⟩
theorem same_none {H H' : Hp} {a : Addr} (s : Same H H') (h : H' a = none) : H a = none := by
  cases e : H a with
  | none => rfl
  | some o => rw [s _ _ e] at h; exact nomatch h
theorem LksAt.old {H0 H1 H : Hp} {v : V} {L : List (List Nat)} (k : LksAt H1 H v L) (s : Same H0 H1) : LksAt H0 H v L := by
  obtain ⟨D, as, e, n, h, l, f⟩ := k
  exact ⟨D, as, e, same_none s n, h, l, fun i a z => ⟨same_none s (f i a z).1, (f i a z).2.1, (f i a z).2.2⟩⟩
/-- a comprehension of new lists of numbers -/
theorem lc_lks {J : It} {n : Nat} {G : Hp → Prop} {Y : Nat → Hp → V → Hp → Prop} (w : Walk J n G Y) {g : TG} {te : TE} {vs : List Nat} {σ : L2.St} {H0 H1 : Hp} {D : Addr} {Qd : Hp → Prop} (s01 : Same H0 H1) (nD : H1 D = none) (f : Nat → List Nat) (few : n < sizeLine)
    (hG : ∀ H', Same H1 H' → G H') (hs : ∀ i x H' H'' (F : V → Hp → Prop), i < n → Same H1 H' → (∃ acc, H' D = some (.lst acc)) → Y i H' x H'' → (∀ a H3, Same H' H3 → H0 a = none → a ≠ D → H3 a = some (.lst ((f i).map nV)) → F (.ref a) H3) →
      g x (wipe σ vs) H'' fun σ2 H2 => wipe σ2 vs = wipe σ vs ∧ te σ2 H2 F)
    (hd : ∀ H', Same H1 H' → LksAt H0 H' (.ref D) ((List.range n).map f) → Qd H') :
    ∃ W : Nat → Nat → Hp → Prop, (∃ m, W 0 m (upd H1 D (.lst []))) ∧ ∀ i m H, W i m H →
      (J.stop i H ∧ Qd H) ∨ (J.go i H ∧ ∃ Nx : Hp → Prop, (∀ H', Nx H' → ∃ m', m' < m ∧ W (i + 1) m' H') ∧ ∀ x H', J.yld i H x H' → g x (wipe σ vs) H' fun σ2 H2 => wipe σ2 vs = wipe σ vs ∧ tYes σ2 H2 fun b H3 =>
        if b = true then te σ2 H3 fun y H4 => ∃ acc, H4 D = some (.lst acc) ∧ acc.length < sizeLine ∧ Nx (upd H4 D (.lst (acc ++ [y]))) else Nx H3) := by
  refine lc_it w (fun i H' => Same H1 H' ∧ ∃ as : List Addr, H' D = some (.lst (as.map .ref)) ∧ as.length = i ∧ ∀ (j : Nat) (a : Addr), as[j]? = some a → H0 a = none ∧ a ≠ D ∧ H' a = some (.lst ((f j).map nV)))
    ⟨same_new nD, [], upd_same, rfl, fun j a z => nomatch z⟩ (fun i H' _ p => hG H' p.1) (fun i x H' H'' hi p hy => ?_) (fun H' p => ?_)
  · obtain ⟨s1, as, d1, l1, all⟩ := p
    refine hs i x H' H'' _ hi s1 ⟨_, d1⟩ hy (fun a H3 s3 n0 ne ha => ?_)
    · exact ⟨_, s3 _ _ d1, by rw [List.length_map]; omega, same_own (s1.trans s3) nD, as ++ [a], by rw [upd_same, List.map_append]; rfl, by rw [List.length_append, l1]; rfl, fun j b hb => by
        rcases Nat.lt_or_ge j as.length with c | c
        · rw [List.getElem?_append_left c] at hb
          obtain ⟨q1, q2, q3⟩ := all j b hb
          exact ⟨q1, q2, by rw [upd_ne q2]; exact s3 _ _ q3⟩
        · rw [List.getElem?_append_right c] at hb
          have e0 : j - as.length = 0 := by
            cases e : j - as.length with
            | zero => rfl
            | succ q => rw [e] at hb; exact nomatch hb
          rw [e0] at hb
          have e1 : j = i := by omega
          injection hb with hb
          subst hb
          exact ⟨n0, ne, by rw [upd_ne ne, e1]; exact ha⟩⟩
  · obtain ⟨s1, as, d1, l1, all⟩ := p
    refine hd H' s1 ⟨D, as, rfl, same_none s01 nD, d1, by rw [l1, List.length_map, List.length_range], fun i a e => ?_⟩
    obtain ⟨q1, q2, q3⟩ := all i a e
    have hi : i < n := by
      have := (List.getElem?_eq_some_iff.mp e).1
      omega
    refine ⟨q1, q2, ?_⟩
    have e2 : at_ ((List.range n).map f) i = f i := by
      unfold at_
      rw [List.getD_eq_getElem?_getD, List.getElem?_map, List.getElem?_range hi]
      rfl
    rw [e2]
    exact q3
end Lb

set_option Elab.async false
set_option linter.all false
set_option maxRecDepth 100000
set_option maxHeartbeats 4000000
/-! ways to parts that are ready, in a heap -/
namespace Lb
open PySem PySem.Spec PyProof.Rows L2
structure WayAt where
  k : Nat
  a : Addr
  ps : List (Nat × Nat)
def WayAt.kv (q : WayAt) : Key × V := (.inl (q.k : Int), .ref q.a)
abbrev keysW (ws : List WayAt) : List Nat := ws.map (·.k)
abbrev WL := List (Nat × List (Nat × Nat))
abbrev EL := List (List (Nat × Nat) × Nat × Nat)
def WayAt.dat (q : WayAt) : Nat × List (Nat × Nat) := (q.k, q.ps)
theorem keys_dat (ws : List WayAt) : (ws.map WayAt.dat).map (·.1) = keysW ws := by rw [List.map_map]; rfl
/-! what the search finds, as data -/
open Classical in
noncomputable def rowF (P : Prog) (own i : Nat) (qs : List (Nat × Nat)) (all : WL) (j : Nat) : WL :=
  match (rowsOfP P i)[j]?.bind namedOf with
  | some k => if Free P own k ∧ k ∉ all.map (·.1) then all ++ [(k, qs ++ [(i, j)])] else all
  | none => all
noncomputable def rowsF (P : Prog) (own i : Nat) (qs : List (Nat × Nat)) (all : WL) (n : Nat) : WL := (List.range n).foldl (rowF P own i qs) all
noncomputable def entF (P : Prog) (own : Nat) (all : WL) (e : List (Nat × Nat) × Nat × Nat) : WL := rowsF P own e.2.1 e.1 all e.2.2
noncomputable def entsF (P : Prog) (own : Nat) (all : WL) (es : EL) : WL := es.foldl (entF P own) all
noncomputable def levelF (P : Prog) (own index : Nat) : Nat → WL × EL
  | 0 => ([], [([], own, index)])
  | t + 1 => (entsF P own (levelF P own index t).1 (levelF P own index t).2, ((entsF P own (levelF P own index t).1 (levelF P own index t).2).drop (levelF P own index t).1.length).map fun q => (q.2, q.1, (rowsOfP P q.1).length))
noncomputable def resF (P : Prog) (own index : Nat) : WL := (levelF P own index 5).1
theorem rowsF_succ (P : Prog) (own i : Nat) (qs : List (Nat × Nat)) (all : WL) (n : Nat) : rowsF P own i qs all (n + 1) = rowF P own i qs (rowsF P own i qs all n) n := by
  unfold rowsF
  rw [List.range_succ, List.foldl_append]
  rfl
theorem rowF_none {P : Prog} {own i : Nat} {qs : List (Nat × Nat)} {all : WL} {j : Nat} (h : (rowsOfP P i)[j]?.bind namedOf = none) : rowF P own i qs all j = all := by
  unfold rowF
  rw [h]
theorem rowF_add {P : Prog} {own i : Nat} {qs : List (Nat × Nat)} {all : WL} {j k : Nat} (h : (rowsOfP P i)[j]?.bind namedOf = some k) (f : Free P own k) (n : k ∉ all.map (·.1)) : rowF P own i qs all j = all ++ [(k, qs ++ [(i, j)])] := by
  unfold rowF
  rw [h]
  exact if_pos ⟨f, n⟩
theorem rowF_skip {P : Prog} {own i : Nat} {qs : List (Nat × Nat)} {all : WL} {j k : Nat} (h : (rowsOfP P i)[j]?.bind namedOf = some k) (n : ¬ (Free P own k ∧ k ∉ all.map (·.1))) : rowF P own i qs all j = all := by
  unfold rowF
  rw [h]
  exact if_neg n
theorem rowsF_past {P : Prog} {own i : Nat} {qs : List (Nat × Nat)} {all : WL} {n : Nat} (h : (rowsOfP P i).length ≤ n) : ∀ m, rowsF P own i qs all (n + m) = rowsF P own i qs all n
  | 0 => rfl
  | m + 1 => by
    rw [← Nat.add_assoc, rowsF_succ, rowF_none, rowsF_past h m]
    rw [List.getElem?_eq_none (by omega)]
    rfl
theorem rowsF_min {P : Prog} {own i : Nat} {qs : List (Nat × Nat)} {all : WL} {n l : Nat} (h : (rowsOfP P i).length = l) : rowsF P own i qs all (min n l) = rowsF P own i qs all n := by
  rcases Nat.le_total n l with c | c
  · rw [Nat.min_eq_left c]
  · rw [Nat.min_eq_right c]
    have z := rowsF_past (own := own) (qs := qs) (all := all) (show (rowsOfP P i).length ≤ l by omega) (n - l)
    rw [show l + (n - l) = n by omega] at z
    exact z.symm
theorem entsF_succ {P : Prog} {own : Nat} {all : WL} {es : EL} {i : Nat} {e : List (Nat × Nat) × Nat × Nat} (h : es[i]? = some e) : entsF P own all (es.take (i + 1)) = rowsF P own e.2.1 e.1 (entsF P own all (es.take i)) e.2.2 := by
  unfold entsF
  rw [List.take_succ, h, Option.toList_some, List.foldl_append]
  rfl
theorem levelF_still {P : Prog} {own index t : Nat} (h : (levelF P own index t).2 = []) : ∀ u, (levelF P own index (t + u)).1 = (levelF P own index t).1 ∧ (levelF P own index (t + u)).2 = []
  | 0 => ⟨rfl, h⟩
  | u + 1 => by
    obtain ⟨a, b⟩ := levelF_still h u
    have e : entsF P own (levelF P own index (t + u)).1 (levelF P own index (t + u)).2 = (levelF P own index t).1 := by rw [b, a]; rfl
    refine ⟨e, ?_⟩
    show ((entsF P own (levelF P own index (t + u)).1 (levelF P own index (t + u)).2).drop (levelF P own index (t + u)).1.length).map _ = []
    rw [e, a, List.drop_length]
    rfl
structure WayOk (P : Prog) (own index : Nat) (st : List Addr) (H0 H : Hp) (q : WayAt) : Prop where
  new : H0 q.a = none
  rep : Rep st H (.ref q.a) (stsD q.ps)
  way : Way P own index q.k q.ps
  lev : LevP P own index q.k q.ps.length
structure WaysAt (P : Prog) (own index : Nat) (H0 H : Hp) (ws : List WayAt) : Prop where
  nd : (keysW ws).Nodup
  mem : ∀ k, k ∈ keysW ws ↔ RdyP P own index 4 k
  ok : ∀ q ∈ ws, WayOk P own index [] H0 H q
  dt : ws.map WayAt.dat = resF P own index
structure Ent where
  e : Addr
  a : Addr
  ps : List (Nat × Nat)
  part : Nat
  many : Nat
def Ent.dat (q : Ent) : List (Nat × Nat) × Nat × Nat := (q.ps, q.part, q.many)
structure EntOk (P : Prog) (own index t : Nat) (st : List Addr) (H : Hp) (q : Ent) : Prop where
  tup : H q.e = some (.tup [.ref q.a, nV q.part, nV q.many])
  rep : Rep st H (.ref q.a) (stsD q.ps)
  way : Way P own index q.part q.ps
  few : q.part = own → q.many ≤ index
  lt : q.part < P.parts.length
  len : q.ps.length = t
  rdy : t = 0 ∧ q.part = own ∧ q.many = index ∨ RdyP P own index t q.part
/-- k is named by one of the first rows of a part -/
def Names (P : Prog) (part many k : Nat) : Prop := ∃ j r, j < many ∧ (rowsOfP P part)[j]? = some r ∧ namedOf r = some k
theorem names_at {P : Prog} {part many k : Nat} (h : Names P part many k) : k ∈ at_ (linksL P) part := by
  obtain ⟨j, r, _, h, e⟩ := h
  have m := List.mem_of_getElem? h
  unfold rowsOfP at m
  unfold at_ linksL
  rw [List.getD_eq_getElem?_getD] at m ⊢
  rw [List.getElem?_map]
  cases z : P.parts[part]? with
  | none =>
    rw [z] at m
    exact nomatch m
  | some rs =>
    rw [z] at m
    exact List.mem_filterMap.mpr ⟨r, m, e⟩
theorem at_names {P : Prog} {part k : Nat} (h : k ∈ at_ (linksL P) part) : Names P part (rowsOfP P part).length k := by
  unfold at_ linksL at h
  unfold Names rowsOfP
  rw [List.getD_eq_getElem?_getD, List.getElem?_map] at h
  rw [List.getD_eq_getElem?_getD]
  cases z : P.parts[part]? with
  | none =>
    rw [z] at h
    exact nomatch h
  | some rs =>
    rw [z] at h
    obtain ⟨r, m, e⟩ := List.mem_filterMap.mp h
    obtain ⟨j, hj⟩ := List.mem_iff_getElem?.mp m
    exact ⟨j, r, (List.getElem?_eq_some_iff.mp hj).1, hj, e⟩
theorem names_start {P : Prog} {own index k : Nat} : Names P own index k ↔ k ∈ startL P own index := by
  unfold startL
  constructor
  · rintro ⟨j, r, hj, h, e⟩
    refine List.mem_filterMap.mpr ⟨r, List.mem_of_getElem? (i := j) ?_, e⟩
    rw [List.getElem?_take, if_pos hj]
    exact h
  · intro h
    obtain ⟨r, m, e⟩ := List.mem_filterMap.mp h
    obtain ⟨j, hj⟩ := List.mem_iff_getElem?.mp m
    rw [List.getElem?_take] at hj
    split at hj
    · rename_i c
      exact ⟨j, r, c, hj, e⟩
    · exact nomatch hj
theorem valW_none {ws : List WayAt} {k : Nat} (h : k ∉ keysW ws) : valV (ws.map WayAt.kv) (.inl (k : Int)) = none := by
  induction ws with
  | nil => rfl
  | cons q ws ih =>
    rw [List.map_cons, valV_neg, ih fun z => h (List.mem_cons_of_mem _ z)]
    intro e
    have e : Sum.inl (q.k : Int) = (Sum.inl (k : Int) : Key) := e
    injection e with e
    exact h (by rw [keysW, List.map_cons]; exact List.mem_cons.mpr (.inl (by omega)))
theorem valW_some {ws : List WayAt} {k : Nat} (nd : (keysW ws).Nodup) (h : k ∈ keysW ws) : ∃ q ∈ ws, q.k = k ∧ valV (ws.map WayAt.kv) (.inl (k : Int)) = some (.ref q.a) := by
  induction ws with
  | nil => exact nomatch h
  | cons q ws ih =>
    rw [keysW, List.map_cons] at nd h
    by_cases c : q.k = k
    · exact ⟨q, List.mem_cons_self, c, by rw [List.map_cons, valV_pos (by show (Sum.inl (q.k : Int) : Key) = _; rw [c])]; rfl⟩
    · obtain ⟨z, hz, e, ev⟩ := ih (List.nodup_cons.mp nd).2 ((List.mem_cons.mp h).resolve_left fun z => c z.symm)
      refine ⟨z, List.mem_cons_of_mem _ hz, e, ?_⟩
      rw [List.map_cons, valV_neg]
      · exact ev
      · intro e
        have e : Sum.inl (q.k : Int) = (Sum.inl (k : Int) : Key) := e
        injection e with e
        exact c (by omega)
/-- amid a level -/
structure Mid (P : Prog) (own index t : Nat) (H0 : Hp) (D5 Wd Lg : Addr) (es : List Ent) (ws : List WayAt) (H : Hp) (ns : List WayAt) (ls : List Ent) (C : Nat → Prop) (st : WL) : Prop where
  sm : Same H0 H
  d5 : H D5 = some (.dK ((ws ++ ns).map WayAt.kv))
  wd : H Wd = some (.lst (es.map fun q => V.ref q.e))
  lg : H Lg = some (.lst (ls.map fun q => V.ref q.e))
  nd : (keysW (ws ++ ns)).Nodup
  w : ∀ q ∈ ws ++ ns, WayOk P own index [Lg, D5] H0 H q
  nw : ∀ q ∈ ns, RdyP P own index (t + 1) q.k ∧ ¬ RdyP P own index t q.k
  en : ∀ q ∈ es, EntOk P own index t [Lg, D5] H q
  ln : ∀ q ∈ ls, EntOk P own index (t + 1) [Lg, D5] H q ∧ q.many = (rowsOfP P q.part).length
  lk : ls.map (·.part) = ns.map (·.k)
  cv : ∀ k, C k → Free P own k → k ∈ keysW (ws ++ ns)
  dt : (ws ++ ns).map WayAt.dat = st
  lt : ls.map Ent.dat = ns.map fun q => (q.ps, q.k, (rowsOfP P q.k).length)
theorem WayOk.mv {P : Prog} {own index : Nat} {st : List Addr} {H0 H H' : Hp} {q : WayAt} (o : WayOk P own index st H0 H q) (b : But st H H') : WayOk P own index st H0 H' q := ⟨o.new, o.rep.mv b, o.way, o.lev⟩
theorem EntOk.mv {P : Prog} {own index t : Nat} {st : List Addr} {H H' : Hp} {q : Ent} (o : EntOk P own index t st H q) (ns : q.e ∉ st) (b : But st H H') : EntOk P own index t st H' q := ⟨b _ _ ns o.tup, o.rep.mv b, o.way, o.few, o.lt, o.len, o.rdy⟩
theorem Mid.cover {P : Prog} {own index t : Nat} {H0 : Hp} {D5 Wd Lg : Addr} {es : List Ent} {ws : List WayAt} {H : Hp} {ns : List WayAt} {ls : List Ent} {C C' : Nat → Prop} {st st' : WL} (m : Mid P own index t H0 D5 Wd Lg es ws H ns ls C st) {H' : Hp} (s : Same H H')
    (h : ∀ k, C' k → Free P own k → C k ∨ k ∈ keysW (ws ++ ns)) (e : st = st' := by rfl) : Mid P own index t H0 D5 Wd Lg es ws H' ns ls C' st' :=
  ⟨m.sm.trans s, s _ _ m.d5, s _ _ m.wd, s _ _ m.lg, m.nd, fun q hq => (m.w q hq).mv (.of s), m.nw, fun q hq => ⟨s _ _ (m.en q hq).tup, (m.en q hq).rep.sm s, (m.en q hq).way, (m.en q hq).few, (m.en q hq).lt, (m.en q hq).len, (m.en q hq).rdy⟩,
    fun q hq => ⟨⟨s _ _ (m.ln q hq).1.tup, (m.ln q hq).1.rep.sm s, (m.ln q hq).1.way, (m.ln q hq).1.few, (m.ln q hq).1.lt, (m.ln q hq).1.len, (m.ln q hq).1.rdy⟩, (m.ln q hq).2⟩, m.lk, fun k hk hf => (h k hk hf).elim (fun z => m.cv k z hf) id, m.dt.trans e, m.lt⟩
def dW (ws : List WayAt) : HO := .dK (ws.map WayAt.kv)
def eL (es : List Ent) : HO := .lst (es.map fun q => V.ref q.e)
def mkW (q : Ent) (j k : Nat) (p : Addr) : WayAt := ⟨k, p, q.ps ++ [(q.part, j)]⟩
def mkE (P : Prog) (q : Ent) (j k : Nat) (p te : Addr) : Ent := ⟨te, p, q.ps ++ [(q.part, j)], k, (rowsOfP P k).length⟩
def tE (P : Prog) (k : Nat) (p : Addr) : HO := .tup [.ref p, nV k, nV (rowsOfP P k).length]
theorem Mid.add {P : Prog} (okP : P.Ok) {own index t : Nat} {H0 : Hp} {D5 Wd Lg : Addr} {es : List Ent} {ws : List WayAt} {H : Hp} {ns : List WayAt} {ls : List Ent} {C : Nat → Prop} {st : WL} (m : Mid P own index t H0 D5 Wd Lg es ws H ns ls C st)
    (hws : ∀ k, k ∈ keysW ws ↔ RdyP P own index t k) (n5 : H0 D5 = none) (nL : H0 Lg = none) (d5L : D5 ≠ Lg) (wdL : Wd ≠ Lg) {q : Ent} (hq : q ∈ es) {j k : Nat} {r : Row} (hj : j < q.many) (hr : (rowsOfP P q.part)[j]? = some r) (hk : namedOf r = some k) (fr : Free P own k) (nk : k ∉ keysW (ws ++ ns))
    {H' : Hp} (s : Same H H') {p te : Addr} (np : H p = none) (rp : Rep [Lg, D5] H' (.ref p) (stsD (q.ps ++ [(q.part, j)]))) (ne : H' te = none) :
    Mid P own index t H0 D5 Wd Lg es ws (upd (upd (upd H' D5 (dW (ws ++ (ns ++ [mkW q j k p])))) te (tE P k p)) Lg (eL (ls ++ [mkE P q j k p te])))
      (ns ++ [mkW q j k p]) (ls ++ [mkE P q j k p te]) (fun k' => C k' ∨ k' = k) (st ++ [(k, q.ps ++ [(q.part, j)])]) := by
  have eq := m.en q hq
  have kn : k < P.parts.length := ((links_ok okP).at q.part).2 k (names_at ⟨j, r, hj, hr, hk⟩)
  have r1 : RdyP P own index (t + 1) k := by
    refine ⟨kn, fr, ?_⟩
    rcases eq.rdy with ⟨e0, e1, e2⟩ | h
    · exact .inl (names_start.mp ⟨j, r, by omega, by rw [← e1]; exact hr, hk⟩)
    · exact .inr ⟨q.part, h, names_at ⟨j, r, hj, hr, hk⟩⟩
  have nt : ¬ RdyP P own index t k := fun z => nk (by
    rw [keysW, List.map_append]
    exact List.mem_append_left _ ((hws k).mpr z))
  have h5 := s _ _ m.d5
  have hW := s _ _ m.wd
  have hL := s _ _ m.lg
  have te5 : te ≠ D5 := ne_of_none h5 ne |>.symm
  have teL : te ≠ Lg := ne_of_none hL ne |>.symm
  have teW : te ≠ Wd := ne_of_none hW ne |>.symm
  have w5 : Wd ≠ D5 := fun e => by rw [e, h5] at hW; exact nomatch hW
  have bt : But [Lg, D5] H' (upd (upd (upd H' D5 (dW (ws ++ (ns ++ [mkW q j k p])))) te (tE P k p)) Lg (eL (ls ++ [mkE P q j k p te]))) := fun b o nb e => by
    rw [upd_ne fun z => nb (by rw [z]; exact List.mem_cons_self), upd_ne (ne_of_none e ne), upd_ne fun z => nb (by rw [z]; exact List.mem_cons_of_mem _ List.mem_cons_self)]
    exact e
  have tup_no : ∀ {b : Addr} {xs : List V}, H' b = some (.tup xs) → b ∉ [Lg, D5] := fun {b xs} e z => by
    rcases List.mem_cons.mp z with z | z
    · rw [z, hL] at e; exact nomatch e
    · rw [List.mem_singleton.mp z, h5] at e; exact nomatch e
  have k5 : (upd (upd (upd H' D5 (dW (ws ++ (ns ++ [mkW q j k p])))) te (tE P k p)) Lg (eL (ls ++ [mkE P q j k p te]))) D5 = some (dW (ws ++ (ns ++ [mkW q j k p]))) := by
    rw [upd_ne d5L, upd_ne te5.symm, upd_same]
  have kt : (upd (upd (upd H' D5 (dW (ws ++ (ns ++ [mkW q j k p])))) te (tE P k p)) Lg (eL (ls ++ [mkE P q j k p te]))) te = some (tE P k p) := by
    rw [upd_ne teL, upd_same]
  have kL : (upd (upd (upd H' D5 (dW (ws ++ (ns ++ [mkW q j k p])))) te (tE P k p)) Lg (eL (ls ++ [mkE P q j k p te]))) Lg = some (eL (ls ++ [mkE P q j k p te])) := upd_same
  have kS : Same H0 (upd (upd (upd H' D5 (dW (ws ++ (ns ++ [mkW q j k p])))) te (tE P k p)) Lg (eL (ls ++ [mkE P q j k p te]))) :=
    same_own (same_own (same_own (m.sm.trans s) n5) (same_none (m.sm.trans s) ne)) nL
  have kW : Wd ≠ Lg → (upd (upd (upd H' D5 (dW (ws ++ (ns ++ [mkW q j k p])))) te (tE P k p)) Lg (eL (ls ++ [mkE P q j k p te]))) Wd = some (.lst (es.map fun q => V.ref q.e)) := fun z => by
    rw [upd_ne z, upd_ne teW.symm, upd_ne w5]
    exact hW
  generalize (upd (upd (upd H' D5 (dW (ws ++ (ns ++ [mkW q j k p])))) te (tE P k p)) Lg (eL (ls ++ [mkE P q j k p te]))) = H3 at *
  have wy : Way P own index k (q.ps ++ [(q.part, j)]) := by
    exact .snoc eq.way hr hk (fun e => by have := eq.few e; omega) (Rdy.four okP.four r1)
  have ln' : (q.ps ++ [(q.part, j)]).length = t + 1 := by rw [List.length_append, eq.len]; rfl
  have app : keysW (ws ++ (ns ++ [mkW q j k p])) = keysW (ws ++ ns) ++ [k] := by rw [← List.append_assoc, keysW, List.map_append]; rfl
  refine ⟨kS, k5, kW wdL, kL, ?_, fun x hx => ?_, fun x hx => ?_, fun x hx => ?_, fun x hx => ?_, ?_, fun x hx hf => ?_, ?_, ?_⟩
  · rw [app]
    exact List.nodup_append.mpr ⟨m.nd, by simp, fun a ha b hb => by rw [List.mem_singleton.mp hb]; exact fun e => nk (by rw [← e]; exact ha)⟩
  · rw [← List.append_assoc] at hx
    rcases List.mem_append.mp hx with z | z
    · exact ((m.w x z).mv (.of s)).mv bt
    · rw [List.mem_singleton.mp z]
      exact ⟨same_none m.sm np, rp.mv bt, wy, by show LevP P own index k (q.ps ++ [(q.part, j)]).length; rw [ln']; exact Lev.new okP.four r1 nt⟩
  · rcases List.mem_append.mp hx with z | z
    · exact m.nw x z
    · rw [List.mem_singleton.mp z]
      exact ⟨r1, nt⟩
  · have o := m.en x hx
    have o2 : EntOk P own index t [Lg, D5] H' x := ⟨s _ _ o.tup, o.rep.sm s, o.way, o.few, o.lt, o.len, o.rdy⟩
    exact o2.mv (tup_no o2.tup) bt
  · rcases List.mem_append.mp hx with z | z
    · have o := (m.ln x z).1
      have o2 : EntOk P own index (t + 1) [Lg, D5] H' x := ⟨s _ _ o.tup, o.rep.sm s, o.way, o.few, o.lt, o.len, o.rdy⟩
      exact ⟨o2.mv (tup_no o2.tup) bt, (m.ln x z).2⟩
    · rw [List.mem_singleton.mp z]
      exact ⟨⟨kt, rp.mv bt, wy, fun e => absurd e fr.1, kn, ln', .inr r1⟩, rfl⟩
  · rw [List.map_append, List.map_append, m.lk]
    rfl
  · rw [app]
    rcases hx with z | z
    · exact List.mem_append_left _ (m.cv x z hf)
    · rw [z]
      exact List.mem_append_right _ (List.mem_singleton.mpr rfl)
  · rw [← List.append_assoc, List.map_append (l₁ := ws ++ ns), m.dt]
    rfl
  · rw [List.map_append, List.map_append, m.lt]
    rfl
/-- between two levels -/
structure Top (P : Prog) (own index t : Nat) (H0 : Hp) (D5 Wd : Addr) (es : List Ent) (ws : List WayAt) (H : Hp) : Prop where
  sm : Same H0 H
  d5 : H D5 = some (dW ws)
  wd : H Wd = some (eL es)
  nW : H0 Wd = none
  nd : (keysW ws).Nodup
  w : ∀ q ∈ ws, WayOk P own index [D5] H0 H q
  mem : ∀ k, k ∈ keysW ws ↔ RdyP P own index t k
  en : ∀ q ∈ es, EntOk P own index t [D5] H q
  cv : ∀ k, RdyP P own index (t + 1) k → ¬ RdyP P own index t k → ∃ q ∈ es, Names P q.part q.many k
  few : es.length ≤ 5
  tl : es ≠ [] → t ≤ ws.length
  tb : t ≤ ws.length + 1
  dt : ws.map WayAt.dat = (levelF P own index t).1
  et : es.map Ent.dat = (levelF P own index t).2
theorem Top.done {P : Prog} (n4 : P.parts.length ≤ 4) {own index t : Nat} {H0 H : Hp} {D5 Wd : Addr} {ws : List WayAt} (m : Top P own index t H0 D5 Wd [] ws H) : WaysAt P own index H0 H ws := by
  refine ⟨m.nd, fun k => ?_, fun q hq => ⟨(m.w q hq).new, (m.w q hq).rep.less (fun _ z => absurd z List.not_mem_nil), (m.w q hq).way, (m.w q hq).lev⟩, ?_⟩
  rw [m.mem]
  refine ⟨Rdy.four n4, Rdy.still fun j hj => ?_⟩
  rcases Classical.em (RdyP P own index t j) with c | c
  · exact c
  · obtain ⟨q, hq, _⟩ := m.cv j hj c
    exact nomatch hq
  have z := nodup_lt (n := P.parts.length) m.nd fun k hk => ((m.mem k).mp hk).lt
  rw [List.length_map] at z
  have tb := m.tb
  have y := (levelF_still m.et.symm (5 - t)).1
  rw [show t + (5 - t) = 5 by omega] at y
  rw [m.dt, ← y]
  rfl
theorem Top.mid {P : Prog} {own index t : Nat} {H0 H : Hp} {D5 Wd Lg : Addr} {es : List Ent} {ws : List WayAt} (m : Top P own index t H0 D5 Wd es ws H) (nL : H Lg = none) : Mid P own index t H0 D5 Wd Lg es ws (upd H Lg (.lst [])) [] [] (fun _ => False) (levelF P own index t).1 := by
  have s : Same H (upd H Lg (.lst [])) := same_new nL
  refine ⟨m.sm.trans s, by rw [List.append_nil]; exact s _ _ m.d5, s _ _ m.wd, upd_same, by rw [List.append_nil]; exact m.nd, fun q hq => ?_, fun _ z => (nomatch z), fun q hq => ?_, fun _ z => (nomatch z), rfl, fun _ z => z.elim, by rw [List.append_nil]; exact m.dt, rfl⟩
  · rw [List.append_nil] at hq
    have o := m.w q hq
    exact ⟨o.new, (o.rep.more nL).sm s, o.way, o.lev⟩
  · have o := m.en q hq
    exact ⟨s _ _ o.tup, (o.rep.more nL).sm s, o.way, o.few, o.lt, o.len, o.rdy⟩
theorem Mid.len {P : Prog} (n4 : P.parts.length ≤ 4) {own index t : Nat} {H0 H : Hp} {D5 Wd Lg : Addr} {es : List Ent} {ws : List WayAt} {ns : List WayAt} {ls : List Ent} {C : Nat → Prop} {st : WL} (m : Mid P own index t H0 D5 Wd Lg es ws H ns ls C st) (mem : ∀ k, k ∈ keysW ws ↔ RdyP P own index t k) : ws.length + ns.length ≤ 4 ∧ ls.length = ns.length := by
  have e := congrArg List.length m.lk
  rw [List.length_map, List.length_map] at e
  refine ⟨?_, e⟩
  have z := nodup_lt (n := P.parts.length) m.nd fun k hk => by
    rw [keysW, List.map_append] at hk
    rcases List.mem_append.mp hk with h | h
    · exact ((mem k).mp h).lt
    · obtain ⟨q, hq, rfl⟩ := List.mem_map.mp h
      exact (m.nw q hq).1.lt
  rw [keysW, List.length_map, List.length_append] at z
  omega
theorem Mid.next {P : Prog} (n4 : P.parts.length ≤ 4) {own index t : Nat} {H0 H : Hp} {D5 Wd Lg : Addr} {es : List Ent} {ws : List WayAt} {ns : List WayAt} {ls : List Ent} (m : Mid P own index t H0 D5 Wd Lg es ws H ns ls (fun k => ∃ q ∈ es, Names P q.part q.many k) (entsF P own (levelF P own index t).1 (levelF P own index t).2)) (wdt : ws.map WayAt.dat = (levelF P own index t).1) (nL : H0 Lg = none)
    (mem : ∀ k, k ∈ keysW ws ↔ RdyP P own index t k) (cv : ∀ k, RdyP P own index (t + 1) k → ¬ RdyP P own index t k → ∃ q ∈ es, Names P q.part q.many k) (tl : t ≤ ws.length) : Top P own index (t + 1) H0 D5 Lg ls (ws ++ ns) H := by
  have le := m.len n4 mem
  have mem' : ∀ k, k ∈ keysW (ws ++ ns) ↔ RdyP P own index (t + 1) k := fun k => by
    constructor
    · intro h
      rw [keysW, List.map_append] at h
      rcases List.mem_append.mp h with h | h
      · exact ((mem k).mp h).up
      · obtain ⟨q, hq, rfl⟩ := List.mem_map.mp h
        exact (m.nw q hq).1
    · intro h
      rcases Classical.em (RdyP P own index t k) with c | c
      · rw [keysW, List.map_append]
        exact List.mem_append_left _ ((mem k).mpr c)
      · exact m.cv k (cv k h c) h.fr
  have sub : ∀ a ∈ [D5], a ∈ [Lg, D5] := fun a h => List.mem_cons_of_mem _ h
  refine ⟨m.sm, m.d5, m.lg, nL, m.nd, fun q hq => ?_, mem', fun q hq => ?_, fun k h1 h2 => ?_, by omega, fun nl => ?_, by rw [List.length_append]; omega, m.dt, ?_⟩
  · have o := m.w q hq
    exact ⟨o.new, o.rep.less sub, o.way, o.lev⟩
  · have o := (m.ln q hq).1
    exact ⟨o.tup, o.rep.less sub, o.way, o.few, o.lt, o.len, o.rdy⟩
  · obtain ⟨j, a, b, c⟩ := Rdy.next h1 h2
    have hj := (mem' j).mpr a
    rw [keysW, List.map_append] at hj
    rcases List.mem_append.mp hj with h | h
    · exact (b ((mem j).mp h)).elim
    · rw [← m.lk] at h
      obtain ⟨q, hq, rfl⟩ := List.mem_map.mp h
      exact ⟨q, hq, by rw [(m.ln q hq).2]; exact at_names c⟩
  · have p : 0 < ls.length := List.length_pos_iff.mpr nl
    rw [List.length_append]
    omega
  · rw [m.lt]
    show _ = ((entsF P own (levelF P own index t).1 (levelF P own index t).2).drop (levelF P own index t).1.length).map _
    rw [← m.dt, ← wdt, List.map_append, List.drop_left, List.map_map]
    rfl
def topM (es : List Ent) (ws : List WayAt) : Nat := 2 * (4 - ws.length) + es.length.min 1
theorem Mid.falls {P : Prog} (n4 : P.parts.length ≤ 4) {own index t : Nat} {H0 H : Hp} {D5 Wd Lg : Addr} {es : List Ent} {ws : List WayAt} {ns : List WayAt} {ls : List Ent} {C : Nat → Prop} {st : WL} (m : Mid P own index t H0 D5 Wd Lg es ws H ns ls C st) (mem : ∀ k, k ∈ keysW ws ↔ RdyP P own index t k) (ne : es ≠ []) : topM ls (ws ++ ns) < topM es ws := by
  have le := m.len n4 mem
  have p : 0 < es.length := List.length_pos_iff.mpr ne
  unfold topM
  rw [List.length_append, le.2, show es.length.min 1 = 1 from Nat.min_eq_right p]
  have := Nat.min_le_left ns.length 1
  have := Nat.min_le_right ns.length 1
  show 2 * (4 - (ws.length + ns.length)) + min ns.length 1 < _
  omega
theorem Top.start {P : Prog} (okP : P.Ok) {own index : Nat} (lo : own < P.parts.length) {H0 H : Hp} {D5 Wd e0 a0 : Addr} (sm : Same H0 H) (d5 : H D5 = some (.dK [])) (wd : H Wd = some (.lst [.ref e0])) (nW : H0 Wd = none) (he : H e0 = some (.tup [.ref a0, nV own, nV index])) (ha : H a0 = some (.lst [])) (ne : a0 ≠ D5) : Top P own index 0 H0 D5 Wd [⟨e0, a0, [], own, index⟩] [] H := by
  refine ⟨sm, d5, wd, nW, .nil, fun _ z => (nomatch z), fun k => ⟨fun z => absurd z List.not_mem_nil, fun z => z.elim⟩, fun q hq => ?_, fun k h _ => ?_, by show 1 ≤ 5; omega, fun _ => Nat.le_refl _, Nat.zero_le _, rfl, rfl⟩
  · rw [List.mem_singleton.mp hq]
    exact ⟨he, .lst ha (fun z => ne (List.mem_singleton.mp z)) .nil, .nil, fun _ => Nat.le_refl _, lo, rfl, .inl ⟨rfl, rfl, rfl⟩⟩
  · rcases h.2.2 with h | ⟨j, z, _⟩
    · exact ⟨_, List.mem_singleton.mpr rfl, names_start.mpr h⟩
    · exact z.elim
theorem WaysAt.old {P : Prog} {own index : Nat} {H0 H1 H : Hp} {ws : List WayAt} (w : WaysAt P own index H1 H ws) (s : Same H0 H1) : WaysAt P own index H0 H ws := ⟨w.nd, w.mem, fun q hq => ⟨same_none s (w.ok q hq).new, (w.ok q hq).rep, (w.ok q hq).way, (w.ok q hq).lev⟩, w.dt⟩
/-- all but lists and dicts stands -/
def Keep (H H' : Hp) : Prop := ∀ b o, H b = some o → (∀ xs, o ≠ .lst xs) → (∀ kvs, o ≠ .dK kvs) → H' b = some o
theorem Keep.of {H H' : Hp} (s : Same H H') : Keep H H' := fun b o e _ _ => s b o e
theorem Keep.trans {H H1 H' : Hp} (a : Keep H H1) (c : Keep H1 H') : Keep H H' := fun b o e n1 n2 => c b o (a b o e n1 n2) n1 n2
theorem Keep.lst {H : Hp} {a : Addr} {xs : List V} {o : HO} (h : H a = some (.lst xs)) : Keep H (upd H a o) := fun b u e n1 _ => by
  rw [upd_ne]
  · exact e
  · intro z
    rw [z, h] at e
    injection e with e
    exact n1 xs e.symm
theorem Keep.dk {H : Hp} {a : Addr} {kvs : List (Key × V)} {o : HO} (h : H a = some (.dK kvs)) : Keep H (upd H a o) := fun b u e _ n2 => by
  rw [upd_ne]
  · exact e
  · intro z
    rw [z, h] at e
    injection e with e
    exact n2 kvs e.symm
theorem SqT.keep {K : PySem.W.Frag} {H H' : Hp} {a : Addr} {xs : List V} (k : Keep H H') (h : SqT K H a xs) : SqT K H' a xs := by
  rcases h with (h | ⟨o, h⟩) | h
  · exact .inl (.inl (k _ _ h (fun _ => nofun) (fun _ => nofun)))
  · exact .inl (.inr ⟨o, k _ _ h (fun _ => nofun) (fun _ => nofun)⟩)
  · exact .inr h
theorem valV_last {kvs : List (Key × V)} {k : Key} {v : V} (h : valV kvs k = none) : valV (kvs ++ [(k, v)]) k = some v := by
  induction kvs with
  | nil => exact valV_pos rfl
  | cons p kvs ih =>
    by_cases c : p.1 = k
    · rw [valV_pos c] at h
      exact nomatch h
    · rw [valV_neg c] at h
      rw [List.cons_append, valV_neg c, ih h]
theorem sorted_nats {ys : List Int} {ks : List Nat} (p : ys.Perm (ks.map fun (k : Nat) => (k : Int))) (s : ys.Pairwise (· ≤ ·)) (nd : ks.Nodup) : ∃ l : List Nat, ys.map V.int = l.map nV ∧ l.Pairwise (· < ·) ∧ ∀ k, k ∈ l ↔ k ∈ ks := by
  have mem : ∀ y, y ∈ ys ↔ ∃ k ∈ ks, (k : Int) = y := fun y => by rw [p.mem_iff, List.mem_map]
  have nd2 : ys.Nodup := p.nodup_iff.mpr (List.Pairwise.map _ (fun a b h e => h (by omega)) nd)
  have st : ys.Pairwise (· < ·) := (List.Pairwise.and s nd2).imp fun ⟨a, b⟩ => by
    have b : _ ≠ _ := b
    omega
  have nat : ∀ y ∈ ys, ((y.toNat : Nat) : Int) = y := fun y hy => by
    obtain ⟨k, _, e⟩ := (mem y).mp hy
    omega
  refine ⟨ys.map Int.toNat, ?_, ?_, fun k => ?_⟩
  · rw [List.map_map]
    exact List.map_congr_left fun y hy => (congrArg V.int (nat y hy)).symm
  · rw [List.pairwise_map]
    refine st.imp_of_mem fun ha hb h => ?_
    have := nat _ ha
    have := nat _ hb
    omega
  · rw [List.mem_map]
    constructor
    · rintro ⟨y, hy, rfl⟩
      obtain ⟨k, hk, e⟩ := (mem y).mp hy
      have : y.toNat = k := by omega
      rw [this]
      exact hk
    · intro hk
      exact ⟨(k : Int), (mem _).mpr ⟨k, hk, rfl⟩, Int.toNat_natCast k⟩
def namedZ (r : Row) : Int := match namedOf r with
  | some n => (n : Int)
  | none => -1
theorem namedZ_ge (r : Row) : decide (0 ≤ namedZ r) = (namedOf r).isSome := by
  unfold namedZ
  cases namedOf r with
  | none => rfl
  | some n => exact decide_eq_true (Int.natCast_nonneg n)
def lateN : Row → Option Nat
  | .late _ p _ => if 0 ≤ p then some p.toNat else none
  | _ => none
def doorsL (P : Prog) (i : Nat) : List Nat := P.entries.map Int.toNat ++ (P.parts.take i).flatMap (List.filterMap lateN)
theorem flat_len (f : Row → Option Nat) : ∀ {ps : List (List Row)}, (∀ rs ∈ ps, rs.length ≤ 5) → (ps.flatMap (List.filterMap f)).length ≤ 5 * ps.length
  | [], _ => Nat.le_refl _
  | rs :: ps, h => by
    rw [List.flatMap_cons, List.length_append, List.length_cons]
    have h1 := List.length_filterMap_le f rs
    have h2 := h rs List.mem_cons_self
    have h3 := flat_len f (ps := ps) fun q hq => h q (List.mem_cons_of_mem _ hq)
    omega
theorem doorsL_len {P : Prog} (ok : P.Ok) (i : Nat) : (doorsL P i).length ≤ 25 := by
  unfold doorsL
  rw [List.length_append, List.length_map]
  have h1 := flat_len lateN (ps := P.parts.take i) fun rs h => ok.five rs (List.mem_of_mem_take h)
  have h2 := ok.four
  have h3 := ok.ent3
  rw [List.length_take] at h1
  omega
theorem doorsL_iff {P : Prog} (ok : P.Ok) (j : Nat) : j ∈ doorsL P P.parts.length ↔ IsDoor P j := by
  unfold doorsL IsDoor
  rw [List.take_length, List.mem_append, List.mem_map, List.mem_flatMap]
  constructor
  · rintro (⟨e, he, rfl⟩ | ⟨rs, hrs, h⟩)
    · have := (ok.entIn e he).1
      exact .inl (by rw [Int.toNat_of_nonneg this]; exact he)
    · obtain ⟨r, hr, e⟩ := List.mem_filterMap.mp h
      cases r with
      | late n p ns =>
        have e : (if 0 ≤ p then some p.toNat else none) = some j := e
        split at e
        · rename_i c
          injection e with e
          exact .inr ⟨rs, hrs, _, hr, n, ns, by rw [← e, Int.toNat_of_nonneg c]⟩
        · exact nomatch e
      | _ => exact nomatch e
  · rintro (h | ⟨rs, hrs, r, hr, n, ns, rfl⟩)
    · exact .inl ⟨_, h, Int.toNat_natCast j⟩
    · refine .inr ⟨rs, hrs, List.mem_filterMap.mpr ⟨_, hr, ?_⟩⟩
      show (if (0 : Int) ≤ (j : Int) then some ((j : Int).toNat) else none) = some j
      rw [if_pos (Int.natCast_nonneg j), Int.toNat_natCast]
theorem lay_nats : ∀ l : List Nat, PyData.canLayAll0 (l.map nD) = true
  | [] => by simp only [List.map_nil, PyData.canLayAll0]
  | k :: l => by simp only [List.map_cons, PyData.canLayAll0, nD, PyData.canLay0, lay_nats l, Bool.and_true]
theorem depth_nats : ∀ l : List Nat, PyData.depthAll (l.map nD) ≤ 1
  | [] => by simp only [List.map_nil, PyData.depthAll]; omega
  | k :: l => by
    have := depth_nats l
    simp only [List.map_cons, PyData.depthAll, nD, PyData.depth]
    omega
theorem shaped_nats (l : List Nat) : SeqAt.shaped (nsD l) = true := by
  have := depth_nats l
  unfold SeqAt.shaped nsD
  rw [Bool.and_eq_true, decide_eq_true_eq]
  refine ⟨by simp only [PyData.canLay0]; exact lay_nats l, by simp only [PyData.depth]; omega⟩
theorem noDict_nats : ∀ l : List Nat, noDicts (l.map nD) = true
  | [] => rfl
  | k :: l => by rw [List.map_cons, noDicts, noDict_nats l]; rfl
theorem dp_nats {K : PySem.W.Frag} {H : Hp} {a : Addr} {l : List Nat} (h : H a = some (.lst (l.map nV))) : Dp K H (.ref a) (nsD l) := Rep.dp (st := []) _ _ (noDict_nats l) (.lst h List.not_mem_nil (nats_rep l))
theorem eqv_nats : ∀ l : List Nat, PyData.eqv (nsD l) (nsD []) = l.isEmpty
  | [] => by decide +kernel
  | k :: l => by simp only [nsD, List.map_cons, List.map_nil, PyData.eqv, PyData.eqvAll, List.isEmpty_cons]
theorem inV_int (x : Int) (l : List Int) : inV (V.int x) (l.map V.int) = decide (x ∈ l) := by
  unfold inV
  rw [List.any_map, Bool.eq_iff_iff, List.any_eq_true, decide_eq_true_eq]
  constructor
  · rintro ⟨y, hy, e⟩
    have e : (y == x) = true := e
    rw [beq_iff_eq] at e
    rw [← e]
    exact hy
  · intro hx
    exact ⟨x, hx, beq_iff_eq.mpr rfl⟩
theorem flat_ints (l : List Int) : (l.map V.int).all flatV = true := by
  rw [List.all_map]
  exact List.all_eq_true.mpr fun _ _ => rfl
/-- the lengths that are found up to a level, what the next one may be of -/
structure Lay1 (P : Prog) (own index t : Nat) (ds : List Nat) (xs : List Int) : Prop where
  len : ds.length = P.parts.length
  lev : ∀ k d, ds[k]? = some d → (RdyP P own index t k ∧ LevP P own index k d) ∨ (¬ RdyP P own index t k ∧ d = 0)
  cv : ∀ k, RdyP P own index (t + 1) k → ¬ RdyP P own index t k → (k : Int) ∈ xs
  sound : ∀ k : Nat, (k : Int) ∈ xs → k < P.parts.length → Free P own k → RdyP P own index (t + 1) k
  few : xs.length ≤ 400
theorem named_start {P : Prog} {own index k : Nat} : (k : Int) ∈ ((rowsOfP P own).take index).map namedZ ↔ k ∈ startL P own index := by
  unfold startL
  rw [List.mem_map, List.mem_filterMap]
  constructor
  · rintro ⟨r, hr, e⟩
    refine ⟨r, hr, ?_⟩
    unfold namedZ at e
    cases z : namedOf r with
    | none => rw [z] at e; exact absurd e (by show (-1 : Int) ≠ _; omega)
    | some n =>
      rw [z] at e
      have e : (n : Int) = k := e
      congr 1
      omega
  · rintro ⟨r, hr, e⟩
    refine ⟨r, hr, ?_⟩
    unfold namedZ
    rw [e]
theorem Lay1.start (P : Prog) (ok : P.Ok) (own index : Nat) : Lay1 P own index 0 (List.replicate P.parts.length 0) (((rowsOfP P own).take index).map namedZ) := by
  refine ⟨List.length_replicate, fun k d h => .inr ⟨fun z => z.elim, ?_⟩, fun k h _ => ?_, fun k h hk hf => ⟨hk, hf, .inl (named_start.mp h)⟩, ?_⟩
  · exact List.eq_of_mem_replicate (List.mem_of_getElem? h)
  · rcases h.2.2 with h | ⟨j, z, _⟩
    · exact named_start.mpr h
    · exact z.elim
  · rw [List.length_map, List.length_take]
    have : (rowsOfP P own).length ≤ 5 := by
      unfold rowsOfP
      rw [List.getD_eq_getElem?_getD]
      cases z : P.parts[own]? with
      | none => exact Nat.zero_le _
      | some rs => exact ok.five rs (List.mem_of_getElem? z)
    omega
theorem Lay1.fresh {P : Prog} (ok : P.Ok) {own index t : Nat} {ds : List Nat} {xs : List Int} (l : Lay1 P own index t ds xs) {k d : Nat} (hd : ds[k]? = some d) : ((k : Int) ∈ xs ∧ Free P own k ∧ d = 0) ↔ (RdyP P own index (t + 1) k ∧ ¬ RdyP P own index t k) := by
  have kn : k < P.parts.length := by
    have := (List.getElem?_eq_some_iff.mp hd).1
    have := l.len
    omega
  constructor
  · rintro ⟨h1, h2, rfl⟩
    refine ⟨l.sound k h1 kn h2, fun z => ?_⟩
    rcases l.lev k 0 hd with ⟨_, e⟩ | ⟨e, _⟩
    · exact absurd ((Lev.pos e).mpr (Rdy.four ok.four z)) (Nat.lt_irrefl 0)
    · exact e z
  · rintro ⟨h1, h2⟩
    refine ⟨l.cv k h1 h2, h1.fr, ?_⟩
    rcases l.lev k d hd with ⟨e, _⟩ | ⟨_, e⟩
    · exact (h2 e).elim
    · exact e
theorem Lay1.next {P : Prog} (ok : P.Ok) {own index t : Nat} {ds ds' fs xs' : List Nat} {xs : List Int} (l : Lay1 P own index t ds xs) (mem : ∀ k, k ∈ fs ↔ RdyP P own index (t + 1) k ∧ ¬ RdyP P own index t k) (len : ds'.length = ds.length)
    (h : ∀ k d, ds'[k]? = some d → (k ∈ fs ∧ d = t + 1) ∨ (k ∉ fs ∧ ds[k]? = some d)) (hx : ∀ k, k ∈ xs' ↔ ∃ j ∈ fs, k ∈ at_ (linksL P) j) (few : xs'.length ≤ 400) : Lay1 P own index (t + 1) ds' (xs'.map fun (k : Nat) => (k : Int)) := by
  have inX : ∀ k : Nat, (k : Int) ∈ xs'.map (fun (k : Nat) => (k : Int)) ↔ k ∈ xs' := fun k => by
    rw [List.mem_map]
    exact ⟨fun ⟨j, hj, e⟩ => by have e : (j : Int) = k := e; rw [show k = j by omega]; exact hj, fun hk => ⟨k, hk, rfl⟩⟩
  refine ⟨by rw [len, l.len], fun k d hd => ?_, fun k h1 h2 => ?_, fun k hk kn hf => ?_, by rw [List.length_map]; exact few⟩
  · rcases h k d hd with ⟨hk, rfl⟩ | ⟨hk, e⟩
    · have z := (mem k).mp hk
      exact .inl ⟨z.1, Lev.new ok.four z.1 z.2⟩
    · rcases l.lev k d e with ⟨r, lv⟩ | ⟨r, e0⟩
      · exact .inl ⟨r.up, lv⟩
      · exact .inr ⟨fun z => hk ((mem k).mpr ⟨z, r⟩), e0⟩
  · obtain ⟨j, a, b, c⟩ := Rdy.next h1 h2
    exact (inX k).mpr ((hx k).mpr ⟨j, (mem j).mpr ⟨a, b⟩, c⟩)
  · obtain ⟨j, hj, c⟩ := (hx k).mp ((inX k).mp hk)
    exact ⟨kn, hf, .inr ⟨j, ((mem j).mp hj).1, c⟩⟩
theorem Lay1.done {P : Prog} {own index : Nat} {ds : List Nat} {xs : List Int} (l : Lay1 P own index 4 ds xs) : ∀ k d, ds[k]? = some d → LevP P own index k d := fun k d h => by
  rcases l.lev k d h with ⟨_, e⟩ | ⟨a, b⟩
  · exact e
  · exact .inl ⟨b, a⟩
theorem ixN_n {n j : Nat} (hj : j < n) : ixN n (j : Int) = some j := by
  unfold ixN
  rw [if_pos (by omega), if_pos (by omega), Int.toNat_natCast]
theorem map_setN (ds : List Nat) (p v : Nat) {x : V} (e : x = nV v) : (ds.map nV).set p x = (ds.set p v).map nV := by
  rw [e, List.map_set]
def partPl (P : Prog) (a n : Nat) : List (Nat × Nat) := (List.range n).map fun k => (a, k)
def placesP (P : Prog) (i : Nat) : List (Nat × Nat) := (List.range i).flatMap fun a => partPl P a (rowsOfP P a).length
theorem placesP_succ (P : Prog) (i : Nat) : placesP P (i + 1) = placesP P i ++ partPl P i (rowsOfP P i).length := by
  unfold placesP
  rw [List.range_succ, List.flatMap_append, List.flatMap_singleton]
theorem partPl_succ (P : Prog) (a n : Nat) : partPl P a (n + 1) = partPl P a n ++ [(a, n)] := by
  unfold partPl
  rw [List.range_succ, List.map_append]
  rfl
theorem rowsOfP_len {P : Prog} (ok : P.Ok) (a : Nat) : (rowsOfP P a).length ≤ 5 := by
  unfold rowsOfP
  rw [List.getD_eq_getElem?_getD]
  cases z : P.parts[a]? with
  | none => exact Nat.zero_le _
  | some rs => exact ok.five rs (List.mem_of_getElem? z)
theorem placesP_len {P : Prog} (ok : P.Ok) : ∀ i : Nat, (placesP P i).length ≤ 5 * i
  | 0 => Nat.le_refl _
  | i + 1 => by
    have := placesP_len ok i
    have := rowsOfP_len ok i
    rw [placesP_succ, List.length_append]
    unfold partPl
    rw [List.length_map, List.length_range]
    omega
theorem placesP_mem {P : Prog} {i a k : Nat} : (a, k) ∈ placesP P i ↔ a < i ∧ k < (rowsOfP P a).length := by
  unfold placesP partPl
  rw [List.mem_flatMap]
  constructor
  · rintro ⟨b, hb, h⟩
    obtain ⟨j, hj, e⟩ := List.mem_map.mp h
    injection e with e1 e2
    subst e1 e2
    exact ⟨List.mem_range.mp hb, List.mem_range.mp hj⟩
  · rintro ⟨h1, h2⟩
    exact ⟨a, List.mem_range.mpr h1, List.mem_map.mpr ⟨k, List.mem_range.mpr h2, rfl⟩⟩
theorem int_rep' {S : List Addr} {H : Hp} {n m : Int} (e : n = m) : Rep S H (.int n) (.int m) := by
  subst e
  exact .int _
theorem ascN : ∀ {xs ys : List Nat}, xs.Pairwise (· < ·) → ys.Pairwise (· < ·) → (∀ k, k ∈ xs ↔ k ∈ ys) → xs = ys
  | [], [], _, _, _ => rfl
  | [], b :: ys, _, _, h => absurd ((h b).mpr List.mem_cons_self) List.not_mem_nil
  | a :: xs, [], _, _, h => absurd ((h a).mp List.mem_cons_self) List.not_mem_nil
  | a :: xs, b :: ys, px, py, h => by
    have hx := List.pairwise_cons.mp px
    have hy := List.pairwise_cons.mp py
    have e : a = b := by
      rcases List.mem_cons.mp ((h a).mp List.mem_cons_self) with e | m
      · exact e
      · rcases List.mem_cons.mp ((h b).mpr List.mem_cons_self) with e | m'
        · exact e.symm
        · have := hy.1 a m
          have := hx.1 b m'
          omega
    subst e
    rw [ascN hx.2 hy.2 fun k => ⟨fun m => ?_, fun m => ?_⟩]
    · rcases List.mem_cons.mp ((h k).mp (List.mem_cons_of_mem _ m)) with e | m'
      · have := hx.1 k m
        omega
      · exact m'
    · rcases List.mem_cons.mp ((h k).mpr (List.mem_cons_of_mem _ m)) with e | m'
      · have := hy.1 k m
        omega
      · exact m'
def dueL (ds : List Nat) : List Nat := (List.range ds.length).filter fun i => decide (0 < ds.getD i 0)
theorem due_eq {P : Prog} {own index : Nat} {ds l : List Nat} (len : ds.length = P.parts.length) (lev : ∀ k d, ds[k]? = some d → LevP P own index k d) (up : l.Pairwise (· < ·)) (mem : ∀ k, k ∈ l ↔ RdyP P own index 4 k) : l = dueL ds := by
  refine ascN up (List.Pairwise.filter _ List.pairwise_lt_range) fun k => ?_
  unfold dueL
  rw [mem, List.mem_filter, List.mem_range, decide_eq_true_eq, List.getD_eq_getElem?_getD]
  constructor
  · intro h
    have kl : k < ds.length := by rw [len]; exact h.lt
    refine ⟨kl, ?_⟩
    rw [List.getElem?_eq_getElem kl]
    exact (lev k _ (List.getElem?_eq_getElem kl)).pos.mpr h
  · rintro ⟨kl, h⟩
    rw [List.getElem?_eq_getElem kl] at h
    exact (lev k _ (List.getElem?_eq_getElem kl)).pos.mp h
theorem due_map (ds : List Nat) : (List.range ds.length).filterMap (fun i => if 0 < ds.getD i 0 then some (nV i) else none) = (dueL ds).map nV := flt_map (fun i => 0 < ds.getD i 0) (fun _ => inferInstance) nV _
theorem due_len (ds : List Nat) : (dueL ds).length ≤ ds.length := by
  have z := List.length_filter_le (fun i => decide (0 < ds.getD i 0)) (List.range ds.length)
  rwa [List.length_range] at z
theorem place_ok {P : Prog} {a k : Nat} (h1 : a < P.parts.length) (h2 : k < (rowsOfP P a).length) : placeB P.d (.tuple [nD a, nD k]) = true := by
  have e : itemsD (partD P.d a) = (rowsOfP P a).map Row.d := by
    unfold partD rowsOfP
    show itemsD (nthD (.tuple (P.parts.map rowsD)) a) = _
    unfold nthD itemsD
    show itemsD ((P.parts.map rowsD).getD a .none) = _
    rw [List.getD_eq_getElem?_getD, List.getD_eq_getElem?_getD, List.getElem?_map, List.getElem?_eq_getElem h1]
    rfl
  unfold placeB
  rw [Bool.and_eq_true, Bool.and_eq_true]
  refine ⟨rfl, numB_iff.mpr ⟨a, rfl, by omega, ?_⟩, numB_iff.mpr ⟨k, rfl, by omega, ?_⟩⟩
  · show (a : Int) < ((P.parts.map rowsD).length : Int)
    rw [List.length_map]
    omega
  · show (k : Int) < ((itemsD (partD P.d ((a : Int)).toNat)).length : Int)
    rw [Int.toNat_natCast, e, List.length_map]
    omega
end Lb

set_option Elab.async false
set_option linter.all false
set_option maxRecDepth 100000
set_option maxHeartbeats 4000000
/-! steps of a way -/
namespace Lb
open PySem PySem.Spec PyProof.Rows L2
theorem Way.one {P : Prog} {own index k k' : Nat} {ps : List (Nat × Nat)} (a : Way P own index k ps) (b : Way P own index k' ps) : k = k' := by
  cases a with
  | nil =>
    generalize e : ([] : List (Nat × Nat)) = qs at b
    cases b with
    | nil => rfl
    | snoc _ _ _ _ _ =>
      have z := congrArg List.length e
      rw [List.length_append] at z
      exact absurd z (by show (0 : Nat) ≠ _ + 1; omega)
  | @snoc i j _ r qs w1 h1 n1 _ _ =>
    generalize e : qs ++ [(i, j)] = zs at b
    cases b with
    | nil =>
      have z := congrArg List.length e
      rw [List.length_append] at z
      exact absurd z (by show _ + 1 ≠ (0 : Nat); omega)
    | @snoc i' j' _ r' qs' w2 h2 n2 _ _ =>
      obtain ⟨_, e⟩ := List.append_inj' e rfl
      injection e with e _
      injection e with e1 e2
      subst e1 e2
      rw [h1] at h2
      rw [Option.some.inj h2, n2] at n1
      exact (Option.some.inj n1).symm
theorem Way.at_ {P : Prog} {own index k : Nat} {ps : List (Nat × Nat)} (w : Way P own index k ps) : ∀ n, n < ps.length → ∃ i j r k', Way P own index i (ps.take n) ∧ ps[n]? = some (i, j) ∧ (rowsOfP P i)[j]? = some r ∧ namedOf r = some k' ∧ (i = own → j < index) ∧ RdyP P own index 4 k' ∧ Way P own index k' (ps.take (n + 1)) := by
  induction w with
  | nil => exact fun n h => absurd h (Nat.not_lt_zero n)
  | @snoc i j k r qs w1 h1 n1 f1 r1 ih =>
    intro n h
    rw [List.length_append, List.length_singleton] at h
    rcases Nat.lt_or_ge n qs.length with c | c
    · obtain ⟨i', j', r', k', a1, a2, a3, a4, a5, a6, a7⟩ := ih n c
      exact ⟨i', j', r', k', by rw [List.take_append_of_le_length (by omega)]; exact a1, by rw [List.getElem?_append_left c]; exact a2, a3, a4, a5, a6, by rw [List.take_append_of_le_length (by omega)]; exact a7⟩
    · have e : n = qs.length := by omega
      subst e
      exact ⟨i, j, r, k, by rw [List.take_left]; exact w1, by rw [List.getElem?_append_right (Nat.le_refl _), Nat.sub_self]; rfl, h1, n1, f1, r1, by rw [List.take_of_length_le (by rw [List.length_append]; exact Nat.le_refl _)]; exact .snoc w1 h1 n1 f1 r1⟩
theorem eqv_st (p q : Nat × Nat) : PyData.eqv (stD p) (stD q) = decide (p = q) := by
  obtain ⟨a, b⟩ := p
  obtain ⟨c, d⟩ := q
  simp only [stD, PyData.eqv, PyData.eqvAll, Bool.and_true]
  rw [Bool.eq_iff_iff, Bool.and_eq_true, beq_iff_eq, beq_iff_eq, decide_eq_true_eq, Prod.mk.injEq]
  omega
theorem any_st (l : List (Nat × Nat)) (q : Nat × Nat) : ((l.map stD).any fun z => PyData.eqv z (stD q)) = decide (q ∈ l) := by
  rw [List.any_map, Bool.eq_iff_iff, List.any_eq_true, decide_eq_true_eq]
  constructor
  · rintro ⟨p, hp, e⟩
    have e : PyData.eqv (stD p) (stD q) = true := e
    rw [eqv_st, decide_eq_true_eq] at e
    rw [← e]
    exact hp
  · intro h
    exact ⟨q, h, by show PyData.eqv (stD q) (stD q) = true; rw [eqv_st, decide_eq_true rfl]⟩
theorem lay_sts : ∀ l : List (Nat × Nat), PyData.canLayAll0 (l.map stD) = true
  | [] => by simp only [List.map_nil, PyData.canLayAll0]
  | k :: l => by simp only [List.map_cons, PyData.canLayAll0, stD, PyData.canLay0, lay_sts l, Bool.and_true]
theorem depth_sts : ∀ l : List (Nat × Nat), PyData.depthAll (l.map stD) ≤ 2
  | [] => by simp only [List.map_nil, PyData.depthAll]; omega
  | k :: l => by
    have := depth_sts l
    simp only [List.map_cons, PyData.depthAll, stD, PyData.depth]
    omega
theorem shaped_sts (l : List (Nat × Nat)) : SeqAt.shaped (stsD l) = true := by
  have := depth_sts l
  unfold SeqAt.shaped stsD
  rw [Bool.and_eq_true, decide_eq_true_eq]
  refine ⟨by simp only [PyData.canLay0]; exact lay_sts l, by simp only [PyData.depth]; omega⟩
theorem shaped_st (q : Nat × Nat) : SeqAt.shaped (stD q) = true := by
  unfold SeqAt.shaped stD
  rw [Bool.and_eq_true, decide_eq_true_eq]
  refine ⟨by simp only [PyData.canLay0, PyData.canLayAll0]; rfl, by simp only [PyData.depth, PyData.depthAll]; omega⟩
theorem noDict_sts : ∀ l : List (Nat × Nat), noDicts (l.map stD) = true
  | [] => rfl
  | k :: l => by rw [List.map_cons, noDicts, noDict_sts l]; rfl
theorem row_part {P : Prog} {o i : Nat} {r : Row} (h : (rowsOfP P o)[i]? = some r) : ∃ rs, P.parts[o]? = some rs ∧ rs[i]? = some r := by
  unfold rowsOfP at h
  rw [List.getD_eq_getElem?_getD] at h
  cases e : P.parts[o]? with
  | none => rw [e] at h; exact nomatch h
  | some rs => rw [e] at h; exact ⟨rs, rfl, h⟩
theorem eqv_sts : ∀ l : List (Nat × Nat), PyData.eqv (stsD l) (stsD l) = true := fun l => by
  have z : ∀ l : List (Nat × Nat), PyData.eqvAll (l.map stD) (l.map stD) = true := fun l => by
    induction l with
    | nil => rfl
    | cons q l ih =>
      rw [List.map_cons, PyData.eqvAll, ih, eqv_st, decide_eq_true rfl]
      rfl
  show PyData.eqv (.list _) (.list _) = true
  simp only [PyData.eqv]
  exact z l
theorem ways_uniq : ∀ {ws : List WayAt} {q q' : WayAt}, (keysW ws).Nodup → q ∈ ws → q' ∈ ws → q.k = q'.k → q = q'
  | [], _, _, _, h, _, _ => absurd h List.not_mem_nil
  | w :: ws, q, q', nd, h, h', e => by
    have nd := List.nodup_cons.mp nd
    rcases List.mem_cons.mp h with rfl | h1
    · rcases List.mem_cons.mp h' with rfl | h2
      · rfl
      · exact absurd (List.mem_map.mpr ⟨q', h2, e.symm⟩) nd.1
    · rcases List.mem_cons.mp h' with rfl | h2
      · exact absurd (List.mem_map.mpr ⟨q, h1, e⟩) nd.1
      · exact ways_uniq nd.2 h1 h2 e
theorem WaysAt.only {P : Prog} {own index : Nat} {H0 H : Hp} {ws : List WayAt} (w : WaysAt P own index H0 H ws) {q : WayAt} (hq : q ∈ ws) : (q.k, q.ps) ∈ resF P own index ∧ ∀ ps', (q.k, ps') ∈ resF P own index → ps' = q.ps := by
  rw [← w.dt]
  refine ⟨List.mem_map.mpr ⟨q, hq, rfl⟩, fun ps' h => ?_⟩
  obtain ⟨q', hq', e⟩ := List.mem_map.mp h
  have e : (q'.k, q'.ps) = (q.k, ps') := e
  injection e with e1 e2
  rw [← e2, ways_uniq w.nd hq' hq e1]
end Lb

set_option Elab.async false
set_option linter.all false
set_option maxRecDepth 100000
set_option maxHeartbeats 4000000
/-! which rows give a name, what is surely found -/
namespace Lb
open PySem PySem.Spec PyProof.Rows L2
def givesB : Row → Str → Bool
  | .give n _ _, s => decide (n = s)
  | .pass n _ _, s => decide (n = s)
  | .late n _ _, s => decide (n = s)
  | _, _ => false
def giversP (P : Prog) (part : Nat) (s : Str) : List (Nat × Nat) := ((List.range (rowsOfP P part).length).filter fun i => givesB ((rowsOfP P part).getD i .out) s).map fun i => (part, i)
theorem giversP_len {P : Prog} (ok : P.Ok) (part : Nat) (s : Str) : (giversP P part s).length ≤ 5 := by
  have h := rowsOfP_len ok part
  unfold giversP
  rw [List.length_map]
  have z := List.length_filter_le (fun i => givesB ((rowsOfP P part).getD i .out) s) (List.range (rowsOfP P part).length)
  rw [List.length_range] at z
  omega
theorem giversP_mem {P : Prog} {part : Nat} {s : Str} {q : Nat × Nat} (h : q ∈ giversP P part s) : q.1 = part ∧ ∃ r, (rowsOfP P q.1)[q.2]? = some r ∧ givesB r s = true := by
  obtain ⟨i, hi, rfl⟩ := List.mem_map.mp h
  obtain ⟨h1, h2⟩ := List.mem_filter.mp hi
  have il := List.mem_range.mp h1
  refine ⟨rfl, _, List.getElem?_eq_getElem il, ?_⟩
  rw [List.getD_eq_getElem?_getD, List.getElem?_eq_getElem il] at h2
  exact h2
theorem dec_str {s t : Str} : decide (V.str s = V.str t) = decide (s = t) := by
  rw [Bool.eq_iff_iff, decide_eq_true_eq, decide_eq_true_eq]
  exact ⟨fun e => by injection e, fun e => by rw [e]⟩
def giversTo (P : Prog) (part : Nat) (s : Str) (n : Nat) : List (Nat × Nat) := ((List.range n).filter fun i => givesB ((rowsOfP P part).getD i .out) s).map fun i => (part, i)
theorem giversTo_yes {P : Prog} {part : Nat} {s : Str} {n : Nat} (h : givesB ((rowsOfP P part).getD n .out) s = true) : giversTo P part s (n + 1) = giversTo P part s n ++ [(part, n)] := by
  unfold giversTo
  rw [List.range_succ, List.filter_append, List.map_append, List.filter_cons, if_pos h]
  rfl
theorem giversTo_no {P : Prog} {part : Nat} {s : Str} {n : Nat} (h : ¬ givesB ((rowsOfP P part).getD n .out) s = true) : giversTo P part s (n + 1) = giversTo P part s n := by
  unfold giversTo
  rw [List.range_succ, List.filter_append, List.map_append, List.filter_cons, if_neg h]
  exact List.append_nil _
theorem giversTo_len (P : Prog) (part : Nat) (s : Str) (n : Nat) : (giversTo P part s n).length ≤ n := by
  unfold giversTo
  rw [List.length_map]
  have z := List.length_filter_le (fun i => givesB ((rowsOfP P part).getD i .out) s) (List.range n)
  rwa [List.length_range] at z
/-- surely done ahead of a place -/
def aheadB (own index : Nat) (lr : List Nat) (q : Nat × Nat) : Bool := decide (q.1 ∈ lr) || (decide (q.1 = own) && decide (q.2 < index))
def passB : Row → Bool
  | .pass _ _ _ => true
  | _ => false
def rowP (P : Prog) (q : Nat × Nat) : Row := (rowsOfP P q.1).getD q.2 .out
def sureB (P : Prog) (own index : Nat) (lr : List Nat) (n : Nat × Str) : Bool := !((giversP P n.1 n.2).any fun q => passB (rowP P q)) && (giversP P n.1 n.2).any (aheadB own index lr)
theorem row_word {S : List Addr} {H : Hp} {x : V} {r : Row} (rx : Rep S H x r.d) : ∃ a v rest, x = .ref a ∧ H a = some (.tup (.str v :: rest)) ∧ decide (V.str v = V.str "pass") = passB r := by
  cases r with
  | load p =>
    obtain ⟨a, xs, rfl, ha, _, rs⟩ := rx.tupV
    cases rs with
    | cons r0 rs =>
      obtain rfl := r0.strV
      exact ⟨a, _, _, rfl, ha, (by decide +kernel : decide (V.str ("load" : Str) = V.str "pass") = false)⟩
  | give n ns b =>
    obtain ⟨a, xs, rfl, ha, _, rs⟩ := rx.tupV
    cases rs with
    | cons r0 rs =>
      obtain rfl := r0.strV
      exact ⟨a, _, _, rfl, ha, (by decide +kernel : decide (V.str ("give" : Str) = V.str "pass") = false)⟩
  | pass n p o =>
    obtain ⟨a, xs, rfl, ha, _, rs⟩ := rx.tupV
    cases rs with
    | cons r0 rs =>
      obtain rfl := r0.strV
      exact ⟨a, _, _, rfl, ha, (by decide +kernel : decide (V.str ("pass" : Str) = V.str "pass") = true)⟩
  | show_ ns b =>
    obtain ⟨a, xs, rfl, ha, _, rs⟩ := rx.tupV
    cases rs with
    | cons r0 rs =>
      obtain rfl := r0.strV
      exact ⟨a, _, _, rfl, ha, (by decide +kernel : decide (V.str ("show" : Str) = V.str "pass") = false)⟩
  | out =>
    obtain ⟨a, xs, rfl, ha, _, rs⟩ := rx.tupV
    cases rs with
    | cons r0 rs =>
      obtain rfl := r0.strV
      exact ⟨a, _, _, rfl, ha, (by decide +kernel : decide (V.str ("out" : Str) = V.str "pass") = false)⟩
  | late n p ns =>
    obtain ⟨a, xs, rfl, ha, _, rs⟩ := rx.tupV
    cases rs with
    | cons r0 rs =>
      obtain rfl := r0.strV
      exact ⟨a, _, _, rfl, ha, (by decide +kernel : decide (V.str ("late" : Str) = V.str "pass") = false)⟩
theorem giversP_row {P : Prog} {part : Nat} {s : Str} {q : Nat × Nat} (h : q ∈ giversP P part s) : (rowsOfP P q.1)[q.2]? = some (rowP P q) := by
  obtain ⟨_, r, hr, _⟩ := giversP_mem h
  unfold rowP
  rw [List.getD_eq_getElem?_getD, hr]
  rfl
theorem any_map_id {α : Type} (f : α → Bool) (l : List α) : (l.map f).any id = l.any f := by
  rw [List.any_map]
  rfl
/-- a need, as data -/
def ndD (n : Nat × Str) : PyData := .tuple [nD n.1, .str n.2]
def needsTo (n : Nat) : List (Nat × Str) := (List.range n).flatMap fun p => letters.map fun s => (p, s)
theorem needsTo_succ (n : Nat) : needsTo (n + 1) = needsTo n ++ letters.map fun s => (n, s) := by
  unfold needsTo
  rw [List.range_succ, List.flatMap_append, List.flatMap_singleton]
theorem needsTo_lt {n : Nat} {q : Nat × Str} (h : q ∈ needsTo n) : q.1 < n := by
  unfold needsTo at h
  rw [List.mem_flatMap] at h
  obtain ⟨p, hp, hq⟩ := h
  obtain ⟨s, _, rfl⟩ := List.mem_map.mp hq
  exact List.mem_range.mp hp
/-- what a test tells, said once -/
theorem test_by {t : TT} {σ : L2.St} {H : Hp} {C : Bool → Hp → Prop} (b : Bool) (h1 : ∀ C' : Bool → Hp → Prop, (∀ H4, Same H H4 → C' b H4) → t σ H C') (h2 : ∀ H4, Same H H4 → C b H4) : t σ H C := h1 C h2
theorem giversP_up (P : Prog) (part : Nat) (s : Str) : (giversP P part s).Pairwise fun a b => a.2 < b.2 := by
  unfold giversP
  rw [List.pairwise_map]
  exact List.Pairwise.filter _ List.pairwise_lt_range
/-- the law's test of a need, by the first giver -/
theorem sure_first {P : Prog} {own index part : Nat} {s : Str} {lr : List Nat} (no : own ∉ lr) {q : Nat × Nat} {gs : List (Nat × Nat)} (e : giversP P part s = q :: gs) :
    (giversP P part s).any (aheadB own index lr) = (if q.1 = own then decide (q.2 < index) else decide (q.1 ∈ lr)) := by
  have up := giversP_up P part s
  have all : ∀ z ∈ giversP P part s, z.1 = part := fun z hz => (giversP_mem hz).1
  rw [e] at up all ⊢
  have q1 := all q List.mem_cons_self
  have hup := (List.pairwise_cons.mp up).1
  rw [Bool.eq_iff_iff, List.any_eq_true]
  constructor
  · rintro ⟨z, hz, h⟩
    have z1 := all z hz
    unfold aheadB at h
    rw [Bool.or_eq_true, Bool.and_eq_true, decide_eq_true_eq, decide_eq_true_eq, decide_eq_true_eq] at h
    split
    · rename_i c
      rcases h with h | ⟨_, h⟩
      · exact absurd (by rw [← c, q1, ← z1]; exact h) no
      · rw [decide_eq_true_eq]
        rcases List.mem_cons.mp hz with rfl | m
        · exact h
        · have := hup z m
          omega
    · rename_i c
      rw [decide_eq_true_eq, q1, ← z1]
      rcases h with h | ⟨h, _⟩
      · exact h
      · exact absurd (by rw [q1, ← z1]; exact h) c
  · intro h
    refine ⟨q, List.mem_cons_self, ?_⟩
    unfold aheadB
    rw [Bool.or_eq_true, Bool.and_eq_true, decide_eq_true_eq, decide_eq_true_eq, decide_eq_true_eq]
    split at h
    · rename_i c
      exact .inr ⟨c, by simpa using h⟩
    · exact .inl (by simpa using h)
theorem abcd_at : ∀ j, j < 4 → ∃ c, ("abcd" : Str).cps[j]? = some c ∧ letters[j]? = some ⟨#[c]⟩
  | 0, _ => ⟨97, by decide +kernel, by decide +kernel⟩
  | 1, _ => ⟨98, by decide +kernel, by decide +kernel⟩
  | 2, _ => ⟨99, by decide +kernel, by decide +kernel⟩
  | 3, _ => ⟨100, by decide +kernel, by decide +kernel⟩
theorem row_wordV {S : List Addr} {H : Hp} {x : V} {r : Row} (rx : Rep S H x r.d) : ∃ a rest, x = .ref a ∧ H a = some (.tup (.str r.word :: rest)) := by
  cases r with
  | _ =>
    obtain ⟨a, xs, rfl, ha, _, rs⟩ := rx.tupV
    cases rs with
    | cons r0 rs =>
      obtain rfl := r0.strV
      exact ⟨a, _, rfl, ha⟩
theorem pass_word (r : Row) : (r.word == ("pass" : Str)) = passB r := by
  cases r with
  | load p => exact (by decide +kernel : (("load" : Str) == ("pass" : Str)) = false)
  | give n ns b => exact (by decide +kernel : (("give" : Str) == ("pass" : Str)) = false)
  | pass n p o => exact (by decide +kernel : (("pass" : Str) == ("pass" : Str)) = true)
  | show_ ns b => exact (by decide +kernel : (("show" : Str) == ("pass" : Str)) = false)
  | out => exact (by decide +kernel : (("out" : Str) == ("pass" : Str)) = false)
  | late n p ns => exact (by decide +kernel : (("late" : Str) == ("pass" : Str)) = false)
theorem pass_in (P : Prog) (gs : List (Nat × Nat)) : inV (V.str "pass") (gs.map fun q => V.str (rowP P q).word) = gs.any fun q => passB (rowP P q) := by
  unfold inV
  rw [List.any_map]
  congr 1
  funext q
  exact pass_word (rowP P q)
theorem flat_words (P : Prog) (gs : List (Nat × Nat)) : (gs.map fun q => V.str (rowP P q).word).all flatV = true := by
  rw [List.all_map]
  exact List.all_eq_true.mpr fun _ _ => rfl
theorem eqv_sts0 (l : List (Nat × Nat)) : PyData.eqv (stsD l) (stsD []) = l.isEmpty := by
  cases l with
  | nil => decide +kernel
  | cons q l => simp only [stsD, List.map_cons, List.map_nil, PyData.eqv, PyData.eqvAll, List.isEmpty_cons]
theorem due_own {P : Prog} {own index : Nat} {ds : List Nat} (lev : ∀ k d, ds[k]? = some d → LevP P own index k d) : own ∉ dueL ds := fun h => by
  unfold dueL at h
  rw [List.mem_filter, List.mem_range, decide_eq_true_eq, List.getD_eq_getElem?_getD] at h
  rw [List.getElem?_eq_getElem h.1] at h
  exact ((lev own _ (List.getElem?_eq_getElem h.1)).pos.mp h.2).fr.1 rfl
theorem due_in {ds : List Nat} {k : Nat} (h : k < ds.length) : decide (k ∈ dueL ds) = decide (0 < ds.getD k 0) := by
  unfold dueL
  rw [Bool.eq_iff_iff, decide_eq_true_eq, decide_eq_true_eq, List.mem_filter, List.mem_range, decide_eq_true_eq]
  exact ⟨fun z => z.2, fun z => ⟨h, z⟩⟩
theorem needsTo_len : ∀ n : Nat, (needsTo n).length = 4 * n
  | 0 => rfl
  | n + 1 => by
    rw [needsTo_succ, List.length_append, List.length_map, needsTo_len n]
    show 4 * n + 4 = _
    omega
theorem noLst_nds (l : List (Nat × Str)) : noLsts (l.map ndD) = true := noLst_all' fun d hd => by
  obtain ⟨q, _, rfl⟩ := List.mem_map.mp hd
  rfl
end Lb

set_option Elab.async false
set_option linter.all false
set_option maxRecDepth 100000
set_option maxHeartbeats 4000000
/-! dicts whose keys are tuples of any depth, tracked: what stands there is told by the keys and values; {}, x in d, d[x] = v, d[x], {x: v for ..} -/
namespace Lb
open PySem PySem.Spec PyProof.Rows L2
mutual
/-- the value is this key -/
def NkAt (H : Hp) : NestedKey → V → Prop
  | .none, v => v = .non
  | .num i, v => v = .int i
  | .text x, v => v = .str x
  | .tup ks, v => ∃ b vs, v = .ref b ∧ H b = some (.tup vs) ∧ NkAll H ks vs
def NkAll (H : Hp) : List NestedKey → List V → Prop
  | [], vs => vs = []
  | k :: ks, vs => ∃ v r, vs = v :: r ∧ NkAt H k v ∧ NkAll H ks r
end
mutual
theorem NkAt.sm {H H' : Hp} (s : ∀ b vs, H b = some (.tup vs) → H' b = some (.tup vs)) : ∀ {k : NestedKey} {v : V}, NkAt H k v → NkAt H' k v
  | .none, _, h => by unfold NkAt at h ⊢; exact h
  | .num _, _, h => by unfold NkAt at h ⊢; exact h
  | .text _, _, h => by unfold NkAt at h ⊢; exact h
  | .tup ks, v, h => by
    unfold NkAt at h ⊢
    obtain ⟨b, vs, e, hb, r⟩ := h
    exact ⟨b, vs, e, s _ _ hb, NkAll.sm s r⟩
theorem NkAll.sm {H H' : Hp} (s : ∀ b vs, H b = some (.tup vs) → H' b = some (.tup vs)) : ∀ {ks : List NestedKey} {vs : List V}, NkAll H ks vs → NkAll H' ks vs
  | [], _, h => by unfold NkAll at h ⊢; exact h
  | k :: ks, vs, h => by
    unfold NkAll at h ⊢
    obtain ⟨v, r, e, h1, h2⟩ := h
    exact ⟨v, r, e, NkAt.sm s h1, NkAll.sm s h2⟩
end
section
variable {P : Program} {w : World} {H : Hp} {h : Heap}
mutual
theorem nk_is (ok : HOk P w H h) : ∀ {k : NestedKey} {v : V} {u : Value}, NkAt H k v → RelV v u → NestedIs h k u
  | .none, v, u, a, r => by
    unfold NkAt at a
    subst a
    obtain rfl : u = .none := r
    exact .none
  | .num i, v, u, a, r => by
    unfold NkAt at a
    subst a
    obtain ⟨t, rfl⟩ := (show ∃ t, u = Value.int i t from r)
    exact .int i t
  | .text x, v, u, a, r => by
    unfold NkAt at a
    subst a
    obtain ⟨t, rfl⟩ := (show ∃ t, u = Value.str x t from r)
    exact .text x t
  | .tup ks, v, u, a, r => by
    unfold NkAt at a
    obtain ⟨b, vs, rfl, hb, al⟩ := a
    obtain rfl : u = Value.ref b := r
    obtain ⟨_, its, rv, o, h1, h2, n, h3⟩ := (show ObjOk P w H h b (.tup vs) from ok b _ hb)
    exact .tup h1 h2 h3 (by simpa using nk_all ok al rv)
theorem nk_all (ok : HOk P w H h) : ∀ {ks : List NestedKey} {vs : List V} {us : List Value}, NkAll H ks vs → Vals vs us → NestedAll h ks us
  | [], vs, us, a, r => by
    unfold NkAll at a
    subst a
    cases r
    exact .nil
  | k :: ks, vs, us, a, r => by
    unfold NkAll at a
    obtain ⟨v, rest, rfl, h1, h2⟩ := a
    cases r with
    | cons p q => exact .cons (nk_is ok h1 p) (nk_all ok h2 q)
end
end
/-- at a: such a dict -/
def nkP (P : Program) (w : World) (a : Addr) (xs : List (NestedKey × Addr × Value)) (h : Heap) : Prop := (a == sysModules) = false ∧ ∃ o es ep, h.get? a = some o ∧ o.ExactDict ∧ o.data = .dict es ep ∧ es.toList = xs.map (entryOfKey (nestedKind P w)) ∧ (xs.map (·.1)).Nodup
def NkO (P : Program) (w : World) (a : Addr) (xs : List (NestedKey × Addr × Value)) : HO := .ext (nkP P w a xs)
abbrev KvN (H : Hp) : List (NestedKey × V) → List (NestedKey × Addr × Value) → Prop := Paired fun p q => p.1 = q.1 ∧ NkAt H p.1 (.ref q.2.1) ∧ p.1.depth ≤ 8 ∧ RelV p.2 q.2.2
/-- the dict at a holds these keys and values, in this order -/
def NDict (P : Program) (w : World) (H : Hp) (a : Addr) (kvs : List (NestedKey × V)) : Prop := kvs.length ≤ sizeLine ∧ ∃ xs φ, H a = some (.ext φ) ∧ (∀ h, φ h → nkP P w a xs h) ∧ KvN H kvs xs
theorem KvN.val {H : Hp} {kvs : List (NestedKey × V)} {xs : List (NestedKey × Addr × Value)} (r : KvN H kvs xs) (k : NestedKey) : RelO (valV kvs k) ((atKey xs k).map (·.2)) := by
  induction r with
  | nil => exact True.intro
  | @cons p q ps qs h t ih =>
    obtain ⟨h1, _, _, h2⟩ := h
    by_cases e : p.1 = k
    · have e' : q.1 = k := h1.symm.trans e
      have b : atKey (q :: qs) k = some q.2 := by simp [atKey, List.find?_cons, e']
      rw [valV_pos e, b]
      exact h2
    · have e' : ¬ q.1 = k := fun z => e (h1.trans z)
      have b : atKey (q :: qs) k = atKey qs k := by simp [atKey, List.find?_cons, e']
      rw [valV_neg e, b]
      exact ih
theorem KvN.put {H : Hp} {kvs : List (NestedKey × V)} {xs : List (NestedKey × Addr × Value)} (r : KvN H kvs xs) (k : NestedKey) {b : Addr} {y : V} {u : Value} (hb : NkAt H k (.ref b)) (dp : k.depth ≤ 8) (ry : RelV y u) :
    KvN H (putK kvs k y) (storedH xs k b u) := by
  have e : (kvs.any fun kv => decide (kv.1 = k)) = (atKey xs k).isSome := by
    rw [valV_any, (r.val k).isSome_eq, Option.isSome_map]
  unfold putK storedH
  rw [e]
  by_cases q : (atKey xs k).isSome = true
  · rw [if_pos q, if_pos q]
    clear e q
    induction r with
    | nil => exact .nil
    | @cons p q ps qs h t ih =>
      rw [List.map_cons, List.map_cons]
      refine .cons ?_ ih
      obtain ⟨h1, h2, h3, h4⟩ := h
      unfold putAt
      by_cases e : p.1 = k
      · rw [if_pos e, if_pos (h1.symm.trans e)]
        exact ⟨h1, h2, h3, ry⟩
      · rw [if_neg e, if_neg (fun z => e (h1.trans z))]
        exact ⟨h1, h2, h3, h4⟩
  · rw [if_neg q, if_neg q]
    exact Paired.snoc r ⟨rfl, hb, dp, ry⟩
theorem KvN.keeps {H H' : Hp} {kvs : List (NestedKey × V)} {xs : List (NestedKey × Addr × Value)} (r : KvN H kvs xs) (s : ∀ b vs, H b = some (.tup vs) → H' b = some (.tup vs)) : KvN H' kvs xs :=
  Paired.mapP r fun _ _ z => ⟨z.1, z.2.1.sm s, z.2.2⟩
section
variable {P : Program} {w : World} {H H' : Hp} {h : Heap} {a : Addr} {kvs : List (NestedKey × V)} {k : NestedKey} {b : Addr} {v : V}
theorem NDict.keeps (d : NDict P w H a kvs) (e : ∀ o, H a = some o → H' a = some o) (s : ∀ b vs, H b = some (.tup vs) → H' b = some (.tup vs)) : NDict P w H' a kvs := by
  obtain ⟨z, xs, φ, h1, hp, h2⟩ := d
  exact ⟨z, xs, φ, e _ h1, hp, h2.keeps s⟩
theorem NDict.sm (d : NDict P w H a kvs) (s : Same H H') : NDict P w H' a kvs := d.keeps (fun _ e => s _ _ e) fun _ _ e => s _ _ e
theorem NDict.empty : NDict P w (upd H a (NkO P w a [])) a [] := ⟨Nat.zero_le _, [], _, upd_same, fun _ x => x, .nil⟩
theorem key_is (ok : HOk P w H h) (hb : NkAt H k (.ref b)) (dp : k.depth ≤ 8) : (nestedKind P w).is h k b := ⟨nk_is ok hb rfl, dp⟩
theorem NDict.at_ (ok : HOk P w H h) (d : NDict P w H a kvs) : kvs.length ≤ sizeLine ∧ (a == sysModules) = false ∧ ∃ xs φ, H a = some (.ext φ) ∧ KvN H kvs xs ∧ h.DictOfH (nestedKind P w) a xs := by
  obtain ⟨z, xs, φ, hx, hp, r⟩ := d
  obtain ⟨f, _, _⟩ := (show ObjOk P w H h a (.ext φ) from ok a _ hx)
  obtain ⟨hd, o, es, ep, h1, h2, h3, h4, h5⟩ := hp _ f
  refine ⟨z, hd, xs, φ, hx, r, o, es, ep, h1, h2, h3, h4, fun x hx => ?_, h5⟩
  have all : ∀ {l : List (NestedKey × V)} {m : List (NestedKey × Addr × Value)}, KvN H l m → ∀ x ∈ m, (nestedKind P w).is h x.1 x.2.1 := by
    intro l m q
    induction q with
    | nil => intro x hx; exact nomatch hx
    | @cons p q ps qs hq t ih =>
      intro x hx
      rcases List.mem_cons.mp hx with e | hx
      · subst e
        exact key_is ok (by rw [← hq.1]; exact hq.2.1) (by rw [← hq.1]; exact hq.2.2.1)
      · exact ih x hx
  exact all r x hx
theorem nko_ok {h' : Heap} {xs : List (NestedKey × Addr × Value)} (hd : (a == sysModules) = false) (dd : h'.DictOfH (nestedKind P w) a xs) : ObjOk P w H h' a (NkO P w a xs) := by
  obtain ⟨o, es, ep, h1, h2, h3, h4, _, h5⟩ := dd
  refine ⟨⟨hd, o, es, ep, h1, h2, h3, h4, h5⟩, ⟨o, h1⟩, fun g1 g2 f k => ?_⟩
  obtain ⟨hd, o, es, ep, h1, r⟩ := f
  exact ⟨hd, o, es, ep, k _ h1, r⟩
theorem nko_tup {xs : List (NestedKey × Addr × Value)} {vs : List V} : NkO P w a xs ≠ .tup vs := fun z => nomatch z
end
section
variable {X : Cx} {pins : List (Addr × Obj)} {σ : L2.St} {H : Hp} {s : Shared} {a : Addr} {kvs : List (NestedKey × V)} {k : NestedKey} {b : Addr} {v : V} {u r : Value} {A : Around} {E : Value → Shared → Prop}
/-- what a store leaves -/
theorem n_put {h' : Heap} {t' : Nat} {φ : Heap → Prop} (I : Inv X pins σ H s) (hx : H a = some (.ext φ)) (hd : (a == sysModules) = false) (hs : Heap.SameBut a s.heap h') (ys : List (NestedKey × Addr × Value)) (dd : h'.DictOfH (nestedKind X.prog X.w) a ys) :
    Inv X pins σ (upd H a (NkO X.prog X.w a ys)) { s with heap := h', toks := t' } :=
  d_write I (by rw [hx]; exact True.intro) hs (let ⟨q, _, _, hq, _⟩ := dd; ⟨q, hq⟩) (nko_ok hd dd)
/-- the heap behind d[k] = v -/
def NPut (P : Program) (w : World) (H : Hp) (a : Addr) (kvs : List (NestedKey × V)) (k : NestedKey) (v : V) (Q : Hp → Prop) : Prop := ∀ H', (∀ c, c ≠ a → H' c = H c) → NDict P w H' a (putK kvs k v) → Q H'
theorem n_store {Q : Unit → Shared → Prop} {QH : Hp → Prop} (I : Inv X pins σ H s) (d : NDict X.prog X.w H a kvs) (hz : kvs.length < sizeLine) (hb : NkAt H k (.ref b)) (dp : k.depth ≤ 8) (rv : RelV v r) (q : NPut X.prog X.w H a kvs k v QH)
    (h : ∀ H' s', Inv X pins σ H' s' → QH H' → Q () s')
    (run : ∀ (xs : List (NestedKey × Addr × Value)), s.heap.DictOfH (nestedKind X.prog X.w) a xs → xs.length ≤ sizeLine → (nestedKind X.prog X.w).is s.heap k b →
      (∀ h', h'.DictOfH (nestedKind X.prog X.w) a (storedH xs k b r) → Heap.SameBut a s.heap h' → Q () { s with heap := h', toks := s.toks + (nestedKind X.prog X.w).draws k }) → wpAny (model X.prog X.w) A (setItem (.ref a) (.ref b) r) Q E s) :
    wpAny (model X.prog X.w) A (setItem (.ref a) (.ref b) r) Q E s := by
  obtain ⟨z, hd, xs, φ, hx, rel, dd⟩ := d.at_ I.hok
  refine run xs dd (by rw [← Paired.length rel]; exact z) (key_is I.hok hb dp) fun h' dd' hs => ?_
  refine h _ _ (n_put I hx hd hs _ dd') (q _ (fun c hc => upd_ne hc) ⟨?_, _, _, upd_same, fun _ x => x, (rel.put k hb dp rv).keeps fun c vs ec => ?_⟩)
  · have := length_putK kvs k v
    omega
  · rw [upd_ne (ne_of ec hx (fun z => nomatch z))]
    exact ec
/-- d[k] = v, k a tuple -/
def rSetN (P : Program) (w : World) : TSet := fun o i v H Q => ∃ a b kvs k, o = .ref a ∧ i = .ref b ∧ NDict P w H a kvs ∧ kvs.length < sizeLine ∧ NkAt H k (.ref b) ∧ k.depth ≤ 8 ∧ NPut P w H a kvs k v Q
theorem set_nk (hu : X.A.units + 64 < cLine) : L2.PSet X (rSetN X.prog X.w) := by
  intro pins s σ H o i v ov iv u Q I ro ri rv h
  obtain ⟨a, b, kvs, k, rfl, rfl, d, hz, hb, dp, q⟩ := h
  obtain rfl : ov = Value.ref a := ro
  obtain rfl : iv = Value.ref b := ri
  refine n_store I d hz hb dp rv q (fun H' s' I' q' => ⟨H', I', q'⟩) fun xs dd hsz ki k => ?_
  exact wpAny_setItem_heap (hsz := hsz) (by show X.A.in1.units + 8 < cLine; show X.A.units + 1 + 8 < cLine; omega) ki dd k
/-- k in d, k not in d -/
def rInN (P : Program) (w : World) (neg : Bool) : R2 := fun x y H Q => ∃ a b kvs k, x = .ref b ∧ y = .ref a ∧ NDict P w H a kvs ∧ NkAt H k (.ref b) ∧ k.depth ≤ 8 ∧ Q (.bl (if neg then !(valV kvs k).isSome else (valV kvs k).isSome)) H
theorem op_inN (hu : X.A.units + 64 < cLine) : OpR X (compareOp .In) (rInN X.prog X.w false) := by
  intro pins s σ H x y v u Q I rx ry h
  obtain ⟨a, b, kvs, k, rfl, rfl, d, hb, dp, q⟩ := h
  obtain rfl : v = Value.ref b := rx
  obtain rfl : u = Value.ref a := ry
  obtain ⟨z, hd, xs, φ, hx, rel, dd⟩ := d.at_ I.hok
  refine wpAny_in_heap (by show X.A.units + 1 + 8 < cLine; omega) (key_is I.hok hb dp) hd dd ?_
  have e := (rel.val k).isSome_eq
  rw [Option.isSome_map] at e
  rw [← e]
  exact ⟨.bl _, H, I.tok _, rfl, q⟩
theorem op_notInN (hu : X.A.units + 64 < cLine) : OpR X (compareOp .NotIn) (rInN X.prog X.w true) := by
  intro pins s σ H x y v u Q I rx ry h
  obtain ⟨a, b, kvs, k, rfl, rfl, d, hb, dp, q⟩ := h
  obtain rfl : v = Value.ref b := rx
  obtain rfl : u = Value.ref a := ry
  obtain ⟨z, hd, xs, φ, hx, rel, dd⟩ := d.at_ I.hok
  refine wpAny_notIn_heap (by show X.A.units + 1 + 8 < cLine; omega) (key_is I.hok hb dp) hd dd ?_
  have e := (rel.val k).isSome_eq
  rw [Option.isSome_map] at e
  rw [← e]
  exact ⟨.bl _, H, I.tok _, rfl, q⟩
/-- d[k], there -/
def rIxN (P : Program) (w : World) : R2 := fun x y H Q => ∃ a b kvs k v, x = .ref a ∧ y = .ref b ∧ NDict P w H a kvs ∧ NkAt H k (.ref b) ∧ k.depth ≤ 8 ∧ valV kvs k = some v ∧ Q v H
theorem n_get {Q : Value → Shared → Prop} (hu : A.units + 64 < cLine) (I : Inv X pins σ H s) (d : NDict X.prog X.w H a kvs) (hb : NkAt H k (.ref b)) (dp : k.depth ≤ 8) (hv : valV kvs k = some v) (h : ∀ w' s', Inv X pins σ H s' → RelV v w' → Q w' s') :
    wpAny (model X.prog X.w) A (getItem (.ref a) (.ref b)) Q E s := by
  obtain ⟨z, hd, xs, φ, hx, rel, dd⟩ := d.at_ I.hok
  obtain ⟨w', hw, rw'⟩ := RelO.some_of (v := v) (o := (atKey xs k).map (·.2)) (by rw [← hv]; exact rel.val k)
  obtain ⟨p, hp, hp2⟩ := Option.map_eq_some_iff.mp hw
  refine wpAny_getItem_heap (by show A.units + 1 + 8 < cLine; omega) (key_is I.hok hb dp) dd hp ?_
  rw [hp2]
  exact h w' _ (I.tok _) rw'
/-- {}, to be such a dict -/
def tDNewN (P : Program) (w : World) : TE := fun _ H Q => ∀ p, H p = none → Q (.ref p) (upd H p (NkO P w p []))
theorem n_empty {P : Program} {w : World} {H : Hp} (h : Heap) (hb : sysModules < h.objs.size) : ObjOk P w H (h.push { cls := .type "dict", data := .dict #[] }) h.objs.size (NkO P w h.objs.size []) :=
  nko_ok (beq_eq_false_iff_ne.mpr (Ne.symm (Nat.ne_of_lt hb))) (Heap.DictOfH.new h)
theorem pe_dnewN {pos : Pos} : L2.PE X (.Dict [] [] pos) (tDNewN X.prog X.w) := ⟨fun pins s σ H Q I h =>
  wpAny_Dict_empty ⟨.ref s.heap.objs.size, _, I.laid (a := s.heap.objs.size) (o := NkO X.prog X.w s.heap.objs.size []) (t' := s.toks) (fun _ _ q => Heap.get?_push_of_some _ q) (Nat.le_refl _) (n_empty s.heap I.big), rfl, h _ (I.hok.fresh (Nat.le_refl _))⟩⟩
end
end Lb

set_option Elab.async false
set_option linter.all false
set_option maxRecDepth 100000
set_option maxHeartbeats 4000000
/-! {x: v for target in iter if ..}, x a tuple of any depth -/
namespace Lb
open PySem PySem.Spec PyProof.Rows L2
section
variable {X : Cx} {pins : List (Addr × Obj)} {σ : L2.St} {H : Hp} {s : Shared} {a : Addr} {kvs : List (NestedKey × V)} {k : NestedKey} {b : Addr} {v : V} {u r : Value} {A : Around} {E : Value → Shared → Prop}
theorem n_dictSet {Q : Unit → Shared → Prop} {QH : Hp → Prop} (hu : A.units + 64 < cLine) (I : Inv X pins σ H s) (d : NDict X.prog X.w H a kvs) (hz : kvs.length < sizeLine) (hb : NkAt H k (.ref b)) (dp : k.depth ≤ 8) (rv : RelV v r) (q : NPut X.prog X.w H a kvs k v QH)
    (h : ∀ H' s', Inv X pins σ H' s' → QH H' → Q () s') : wpAny (model X.prog X.w) A (dictSet a (.ref b) r) Q E s := by
  obtain ⟨z, hd, xs, φ, hx, rel, dd⟩ := d.at_ I.hok
  refine wpAny_dictSet_heap (hsz := by rw [← Paired.length rel]; exact z) (by show A.units + 8 < cLine; omega) (key_is I.hok hb dp) dd fun h' dd' hs => ?_
  refine h _ _ (n_put I hx hd hs _ dd') (q _ (fun c hc => upd_ne hc) ⟨?_, _, _, upd_same, fun _ x => x, (rel.put k hb dp rv).keeps fun c vs ec => ?_⟩)
  · have := length_putK kvs k v
    omega
  · rw [upd_ne (ne_of ec hx (fun z => nomatch z))]
    exact ec
end
section
variable {X : Cx}
def tDcN (P : Program) (w : World) (wi : TI) (g : TG) (tt : TT) (tk tv : TE) (vs : List Nat) : TE := fun σ H Q => wi σ H fun J H1 => ∀ D, H1 D = none → ∃ W : Nat → Nat → Hp → Prop, (∃ m, W 0 m (upd H1 D (NkO P w D []))) ∧ ∀ i m H, W i m H →
  (J.stop i H ∧ Q (.ref D) H) ∨ (J.go i H ∧ ∃ Nx : Hp → Prop, (∀ H', Nx H' → ∃ m', m' < m ∧ W (i + 1) m' H') ∧ ∀ x H', J.yld i H x H' → g x (wipe σ vs) H' fun σ2 H2 => wipe σ2 vs = wipe σ vs ∧ tt σ2 H2 fun b H3 =>
    if b = true then tk σ2 H3 fun y H4 => tv σ2 H4 fun z H5 => ∃ c kvs k, y = .ref c ∧ NDict P w H5 D kvs ∧ kvs.length < sizeLine ∧ NkAt H5 k (.ref c) ∧ k.depth ≤ 8 ∧ NPut P w H5 D kvs k z Nx else Nx H3)
/-- the block is walked turn by turn, the dict D kept as NDict; use: what is done with the value -/
theorem dcN_core {pins : List (Addr × Obj)} {s : Shared} {σ : L2.St} {H : Hp} {Q : VK} {kx vx tg iter : Expr} {ifs : List Expr} {scope : Scope} {own : List (Str × Nat)} {pos pos' : Pos} {wi : TI} {g : TG} {tt : TT} {tk tv : TE} {use : Option (Value → Sem Unit)} {Qf : Value → Shared → Prop}
    (hu : X.A.units + 64 < cLine) (hc : X.calm = true) (hN : X.N.Nodup) (I : Inv X pins σ H s) (hi : PI X tg iter wi) (ok : BlkOk X.N X.env.scope scope own)
    (hg : ∀ (s : Shared) (H : Hp) (C : Addr) (cl : List (Str × Addr)) (fp : List Addr), PG (X.blk s H scope (compEnvC scope cl C X.env) fp) tg g) (ht : ∀ (s : Shared) (H : Hp) (C : Addr) (cl : List (Str × Addr)) (fp : List Addr), PTs (X.blk s H scope (compEnvC scope cl C X.env) fp) ifs tt)
    (hk : ∀ (s : Shared) (H : Hp) (C : Addr) (cl : List (Str × Addr)) (fp : List Addr), L2.PE (X.blk s H scope (compEnvC scope cl C X.env) fp) kx tk)
    (he : ∀ (s : Shared) (H : Hp) (C : Addr) (cl : List (Str × Addr)) (fp : List Addr), L2.PE (X.blk s H scope (compEnvC scope cl C X.env) fp) vx tv) (hs : ∀ x, foldedSetIterable iter X.env x = pure x)
    (h : tDcN X.prog X.w wi g tt tk tv (own.map (·.2)) σ H Q)
    (hRR : ∀ D C s' m H', Inv X pins σ H' s' → Q (.ref D) H' → s'.heap.Ns C m → FpOk X pins H' C → compPost (model X.prog X.w) X.A X.xe use Qf (.ref D) C (.ok .next) s') :
    wpAny (model X.prog X.w) X.A (comprehension (.DictComp kx vx [⟨tg, iter, ifs, 0⟩] scope pos) scope X.env pos' newDict false (eval iter X.env) use) Qf X.xe s := by
  have hfree : ∀ y ∈ scope.names, y.2 = .free → ∃ c, X.env.cells.lookup y.1 = some c := fun y hy e => (ok.free y hy e).elim (fun k => I.ok.has _ (.inl k)) fun k => I.ok.has _ (.inr k)
  refine wpAny_comprehension_free (use := use) rfl hs (closure_ok hfree) ok.kind (fun y hy e => by rw [ok.uniq y hy, e]) (thn (hi.run pins s σ H _ I h) fun xv s1 hx => thn hx fun itv s2 h2 => ?_)
  obtain ⟨it, fp, tn, J, H2, e, I2, T, st2, f2, q⟩ := h2
  subst e
  refine wpAny_newObj_type (newEnv_comp ?_)
  generalize hD : s2.heap.objs.size = D
  have hDn : H2 D = none := I2.hok.fresh (Nat.le_of_eq hD)
  obtain ⟨W, ⟨m0, w0⟩, turn⟩ := q D hDn
  generalize hs3 : ({ s2 with heap := s2.heap.push { cls := .type "dict", data := .dict #[] } } : Shared) = s3
  have I3 : Inv X pins σ (upd H2 D (NkO X.prog X.w D [])) s3 := by
    rw [← hs3]
    refine I2.laid (t' := s2.toks) (fun b o e => Heap.get?_push_of_some _ e) (Nat.le_of_eq hD) ?_
    rw [← hD]
    exact n_empty s2.heap I2.big
  have h3 : s3.heap = s2.heap.push { cls := .type "dict", data := .dict #[] } := by rw [← hs3]
  have f3 : ∀ b ∈ fp, FpOk X pins (upd H2 D (NkO X.prog X.w D [])) b ∧ b < s3.heap.objs.size := fun b hb => by
    obtain ⟨o, e, _⟩ := T.obj _ _ st2 b hb
    have hlt := Heap.lt_size e
    refine ⟨⟨?_, (f2 b hb).2⟩, by rw [h3, Heap.size_push]; exact Nat.lt_succ_of_lt hlt⟩
    rw [upd_ne (by rw [← hD]; exact Nat.ne_of_lt hlt)]
    exact (f2 b hb).1
  have st3 : tn 0 s3.heap := T.keep _ _ _ st2 fun b _ o e => by rw [h3]; exact Heap.get?_push_of_some _ e
  have I4 := block_start I3 ok hN f3
  generalize hcl : cellsFrom (s3.heap.objs.size + 1) scope.names (cloFrom X.env.cells scope.names []) = cl at I4
  generalize hH3 : upd H2 D (NkO X.prog X.w D []) = H3 at I3 I4 w0 f3
  have pg := hg s3 H3 s3.heap.objs.size cl fp
  have pt := ht s3 H3 s3.heap.objs.size cl fp
  have pk := hk s3 H3 s3.heap.objs.size cl fp
  have pe := he s3 H3 s3.heap.objs.size cl fp
  have goal : codeAny (model X.prog X.w) X.A (.compStart (.DictComp kx vx [⟨tg, iter, ifs, 0⟩] scope pos) 0 (.ref it) (.ref D) (compEnvC scope cl s3.heap.objs.size X.env)) (compPost (model X.prog X.w) X.A X.xe use Qf (.ref D) s3.heap.objs.size) { s3 with heap := pushCells (s3.heap.push { cls := .type "dict", data := .dict #[] }) scope.names } := by
    have nfp : ∀ b ∈ fp, H3 b = none := fun b hb => (f3 b hb).1.1
    generalize hce : compEnvC scope cl s3.heap.objs.size X.env = ce at I4 pg pt pk pe ⊢
    have cL : ce.locals = s3.heap.objs.size := by subst hce; rfl
    generalize hs4 : ({ s3 with heap := pushCells (s3.heap.push { cls := .type "dict", data := .dict #[] }) scope.names } : Shared) = s4 at I4 ⊢
    have st4 : tn 0 s4.heap := T.keep _ _ _ st3 fun b _ o e => by rw [← hs4]; exact pushCells_keeps _ _ _ _ (Heap.get?_push_of_some _ e)
    have stat : ∀ {σ' : L2.St} {H' : Hp} {s' : Shared}, Inv (X.blk s3 H3 scope ce fp) [] σ' H' s' → (∀ b ∈ fp, H' b = none) → ∀ b ∈ fp, FpOk (X.blk s3 H3 scope ce fp) [] H' b := fun {σ' H' s'} I' hn b hb =>
      ⟨hn b hb, (I'.ok.exf b hb).1, I'.ok.exfs b hb, .inl hb, fun x c e => (I'.ok.exf b hb).2 x c e, fun p hp => absurd (show p ∈ ([] : List (Addr × Obj)) ++ [] from hp) (by simp)⟩
    have loop : codeAny (model X.prog X.w) X.A (.compLoop (.DictComp kx vx [⟨tg, iter, ifs, 0⟩] scope pos) 0 (.ref it) (.ref D) ce) (compPost (model X.prog X.w) X.A X.xe use Qf (.ref D) s3.heap.objs.size) s4 := by
      refine compLoop_anyD (fun n s' => ∃ i H', Inv (X.blk s3 H3 scope ce fp) [] (wipe σ (own.map (·.2))) H' s' ∧ tn i s'.heap ∧ (∀ b ∈ fp, H' b = none) ∧ W i n H') ?_ m0 ⟨0, H3, I4, st4, nfp, w0⟩
      rintro n s5 ⟨i, H5, I5, st5, n5, w5⟩
      rcases turn i n H5 w5 with ⟨stop, qq⟩ | ⟨go, Nx, hNx, step⟩
      · refine thnF (T.done (X.blk s3 H3 scope ce fp) rfl rfl rfl hc i [] s5 _ H5 (fun _ _ => False) I5 (stat I5 n5) st5 stop) fun r s6 ⟨hr, I6⟩ => ?_
        subst hr
        have I7 : Inv X pins σ H5 s6 := I3.call' (ch := fp) I6.os I6.base I6.hok I6.bare fun b hb => ⟨(f3 b hb).1.2.2.2.1, (f3 b hb).1.2.1, (f3 b hb).1.2.2.2.2.1, (f3 b hb).1.2.2.2.2.2⟩
        have nC : H5 s3.heap.objs.size = none := by
          have z : H5 ce.locals = none := I6.free
          rwa [cL] at z
        obtain ⟨m, hn, _⟩ := I6.loc
        have hn : s6.heap.Ns ce.locals m := hn
        rw [cL] at hn
        exact hRR D s3.heap.objs.size s6 m H5 I7 qq hn (I3.fpOk (Nat.le_refl _) nC)
      · refine thnF (T.item (X.blk s3 H3 scope ce fp) rfl rfl rfl hc i [] s5 _ H5 (fun _ _ => False) I5 (stat I5 n5) st5 go) fun r s6 ⟨u, hr, h6⟩ => ?_
        subst hr
        refine thnF h6 fun _ s7 ⟨x, H7, I7, r7, y7, st7, n7⟩ => ?_
        refine thnF (pg.run _ s7 _ H7 x u _ (I7.pinned (stat I7 n7) (T.obj _ _ st7)) r7 (step x H7 y7)) fun _ s8 ⟨σ8, H8, I8, hw8, q8⟩ => ?_
        refine thnF (pt.run _ s8 σ8 H8 _ I8 q8) fun b s9 ⟨H9, I9, q9⟩ => ?_
        have fin : ∀ {s' : Shared} {H' : Hp}, Inv (X.blk s3 H3 scope ce fp) ([] ++ pinsAt fp s7.heap) σ8 H' s' → Nx H' → ∃ m, m < n ∧ ∃ i H', Inv (X.blk s3 H3 scope ce fp) [] (wipe σ (own.map (·.2))) H' s' ∧ tn i s'.heap ∧ (∀ b ∈ fp, H' b = none) ∧ W i m H' := fun {s' H'} I' nx => by
          obtain ⟨m', hm, w'⟩ := hNx H' nx
          have pin' : ∀ b ∈ fp, ∀ o, s7.heap.get? b = some o → s'.heap.get? b = some o ∧ H' b = none := fun b hb o e =>
            let z := I'.pin (b, o) (List.mem_append_right _ (List.mem_append_right _ (mem_pinsAt hb e)))
            ⟨z.1, z.2.1⟩
          have hl : (wipe σ (own.map (·.2))).length = σ8.length := by rw [← hw8, wipe_length]
          refine ⟨m', hm, i + 1, H', (I'.unpinned (pins := [])).weak hl (fun j v e => by rw [← hw8] at e; exact (wipe_some e).1), T.keep _ _ _ st7 fun b hb o e => (pin' b hb o e).1, fun b hb => ?_, w'⟩
          obtain ⟨o, e, _⟩ := T.obj _ _ st7 b hb
          exact (pin' b hb o e).2
        cases b with
        | false =>
          simp only [Bool.false_eq_true, if_false] at q9 ⊢
          exact fin I9 q9
        | true =>
          simp only [if_true] at q9 ⊢
          refine thnF (pk.run _ s9 σ8 H9 _ I9 q9) fun z s10 ⟨yk, H10, I10, r10, q10⟩ => ?_
          refine thnF (pe.run _ s10 σ8 H10 _ I10 q10) fun z2 s11 ⟨yv, H11, I11, r11, c, kvs, k, ek, hD11, hz11, hb11, dp11, nx⟩ => ?_
          subst ek
          obtain rfl : z = Value.ref c := r10
          exact n_dictSet (X := X.blk s3 H3 scope ce fp) (show X.A.units + 64 < cLine from hu) I11 hD11 hz11 hb11 dp11 r11 nx fun H12 s12 I12 q12 => fin I12 q12
    exact codeAny_compStart_dict loop (T.self X.A 0 _ _ _ st4 loop)
  exact goal
/-- as a value -/
theorem pe_dcN {kx vx tg iter : Expr} {ifs : List Expr} {scope : Scope} {own : List (Str × Nat)} {pos : Pos} {wi : TI} {g : TG} {tt : TT} {tk tv : TE} (hu : X.A.units + 64 < cLine) (hc : X.calm = true) (hN : X.N.Nodup) (hi : PI X tg iter wi) (ok : BlkOk X.N X.env.scope scope own)
    (hg : ∀ (s : Shared) (H : Hp) (C : Addr) (cl : List (Str × Addr)) (fp : List Addr), PG (X.blk s H scope (compEnvC scope cl C X.env) fp) tg g) (ht : ∀ (s : Shared) (H : Hp) (C : Addr) (cl : List (Str × Addr)) (fp : List Addr), PTs (X.blk s H scope (compEnvC scope cl C X.env) fp) ifs tt)
    (hk : ∀ (s : Shared) (H : Hp) (C : Addr) (cl : List (Str × Addr)) (fp : List Addr), L2.PE (X.blk s H scope (compEnvC scope cl C X.env) fp) kx tk)
    (he : ∀ (s : Shared) (H : Hp) (C : Addr) (cl : List (Str × Addr)) (fp : List Addr), L2.PE (X.blk s H scope (compEnvC scope cl C X.env) fp) vx tv) (hs : ∀ x, foldedSetIterable iter X.env x = pure x := by intro _; rfl) :
    L2.PE X (.DictComp kx vx [⟨tg, iter, ifs, 0⟩] scope pos) (tDcN X.prog X.w wi g tt tk tv (own.map (·.2))) := by
  refine ⟨fun pins s σ H Q I h => ?_⟩
  rw [arm_eval_DictComp]
  refine dcN_core hu hc hN I hi ok hg ht hk he hs h fun D C s' m H' I' q hn f => ⟨m, hn, fun h'' sb => ?_⟩
  obtain ⟨f0, f1, f2, f3, f4, f5⟩ := f
  exact ⟨.ref D, H', I'.turned (t' := s'.toks) (fun b o hb e => (sb.2 b hb).trans e) f0 f1 f3 f4 f5, rfl, q⟩
/-- given to a plain local name of the same line -/
theorem ps_setDcN {i : Nat} {y : Str} {py : Pos} {kx vx tg iter : Expr} {ifs : List Expr} {scope : Scope} {own : List (Str × Nat)} {pos spos : Pos} {wi : TI} {g : TG} {tt : TT} {tk tv : TE} (hu : X.A.units + 64 < cLine) (hc : X.calm = true) (hN : X.N.Nodup) (hy : X.N[i]? = some y) (hyl : X.env.scope.names.lookup y = some .local)
    (hsw : swapsWith (.DictComp kx vx [⟨tg, iter, ifs, 0⟩] scope pos) (some (.Name y py)) spos.line X.env = pure true) (hi : PI X tg iter wi) (ok : BlkOk X.N X.env.scope scope own)
    (hg : ∀ (s : Shared) (H : Hp) (C : Addr) (cl : List (Str × Addr)) (fp : List Addr), PG (X.blk s H scope (compEnvC scope cl C X.env) fp) tg g) (ht : ∀ (s : Shared) (H : Hp) (C : Addr) (cl : List (Str × Addr)) (fp : List Addr), PTs (X.blk s H scope (compEnvC scope cl C X.env) fp) ifs tt)
    (hk : ∀ (s : Shared) (H : Hp) (C : Addr) (cl : List (Str × Addr)) (fp : List Addr), L2.PE (X.blk s H scope (compEnvC scope cl C X.env) fp) kx tk)
    (he : ∀ (s : Shared) (H : Hp) (C : Addr) (cl : List (Str × Addr)) (fp : List Addr), L2.PE (X.blk s H scope (compEnvC scope cl C X.env) fp) vx tv) (hs : ∀ x, foldedSetIterable iter X.env x = pure x := by intro _; rfl) :
    L2.PS X (.Assign [.Name y py] (.DictComp kx vx [⟨tg, iter, ifs, 0⟩] scope pos) spos) (tAsg (tDcN X.prog X.w wi g tt tk tv (own.map (·.2))) (gName i)) := by
  refine ⟨fun pins s σ H D I h => ?_⟩
  rw [exec_Assign_Name_used _ _ _ _ hsw]
  refine wpAny_bind (wpAny_standAt (wpAny_bind ?_))
  show wpAny _ X.A (do let _ ← comprehension (.DictComp kx vx [⟨tg, iter, ifs, 0⟩] scope pos) scope X.env (firstIterPos [⟨tg, iter, ifs, 0⟩] pos) newDict false (eval iter X.env) (some (assign (.Name y py) X.env))) _ _ s
  have h : tDcN X.prog X.w wi g tt tk tv (own.map (·.2)) σ H (fun x H1 => gName i x σ H1 D.nx) := h
  refine wpAny_bind (thn (dcN_core (Qf := fun _ s' => SP X pins D .next s') hu hc hN I hi ok hg ht hk he hs h fun L C s' m H' I' q hn f => ?_) fun _ s' hq => wpAny_pure (wpAny_pure hq))
  show wpAny _ _ (assign (.Name y py) X.env (.ref L)) _ _ _
  refine wpAny_assign_Name (store_ok2 (v := V.ref L) I' hN hy (.inl hyl) rfl (fun s2 I2 ⟨a, sb, ha⟩ => ?_) (.inr hyl))
  obtain ⟨f0, f1, f2, f3, f4, f5⟩ := f
  have away : C ≠ a := ha.elim (fun z => by rw [z]; exact f1) fun z e => f4 y a z e.symm
  exact ⟨m, hn.sameBut sb away, fun h3 sb3 => ⟨_, H', I2.turned (t' := s2.toks) (fun b o hb e => (sb3.2 b hb).trans e) f0 f1 f3 f4 f5, q⟩⟩
theorem sw_trueD {kx vx : Expr} {gs : List Comprehension} {scope : Scope} {pos py : Pos} {y : Str} {l : Nat} {env : Env} (hk : env.scope.kind = .function) (hy : env.scope.names.lookup y = some .local) (hl : (py.line == pos.line) = true)
    (ha : (scope.names.any fun (n, k) => n == y && (k == .local || k == .cell)) = false) : swapsWith (.DictComp kx vx gs scope pos) (some (.Name y py)) l env = pure true := by
  have ky : env.kindOf y = some .local := hy
  have hb : env.blockKind = .function := by unfold Env.blockKind; rw [hk]; rfl
  unfold swapsWith
  simp only [hb, ky, ha, Expr.pos, hl]
  rfl
end
end Lb

set_option Elab.async false
set_option linter.all false
set_option maxRecDepth 100000
set_option maxHeartbeats 4000000
/-! for x in d, d a dict with nested keys: locked while it is walked -/
namespace Lb
open PySem PySem.Spec PyProof.Rows L2
/-- the dict, its object known -/
def NkF (P : Program) (w : World) (a : Addr) (o : Obj) (xs : List (NestedKey × Addr × Value)) : HO := .ext fun h => h.get? a = some o ∧ nkP P w a xs h
theorem NDict.ofF {P : Program} {w : World} {H : Hp} {a : Addr} {o : Obj} {xs : List (NestedKey × Addr × Value)} {kvs : List (NestedKey × V)} (z : kvs.length ≤ sizeLine) (e : H a = some (NkF P w a o xs)) (r : KvN H kvs xs) : NDict P w H a kvs := ⟨z, xs, _, e, fun _ x => x.2, r⟩
/-- the keys of the dict, in their order -/
def ItN (P : Program) (w : World) (d : Addr) (o : Obj) (xs : List (NestedKey × Addr × Value)) : It :=
  ⟨fun i H => H d = some (NkF P w d o xs) ∧ i < xs.length, fun i H x H' => H' = H ∧ ∃ k q v, xs[i]? = some (k, q, v) ∧ x = .ref q, fun i H => H d = some (NkF P w d o xs) ∧ xs.length ≤ i⟩
section
variable {P : Program} {w : World} {K : PySem.W.Frag} {tg : Expr} {d : Addr} {o : Obj} {es : Array DictEntry} {ep : Nat}
theorem nkF_at {X : Cx} {pins : List (Addr × Obj)} {σ : L2.St} {H : Hp} {s : Shared} {xs : List (NestedKey × Addr × Value)} (I : Inv X pins σ H s) (e : H d = some (NkF X.prog X.w d o xs)) (hod : o.data = .dict es ep) :
    s.heap.get? d = some o ∧ es.toList = xs.map (entryOfKey (nestedKind X.prog X.w)) := by
  obtain ⟨⟨h1, _, o2, es2, ep2, h2, _, h3, h4, _⟩, _, _⟩ := (show ObjOk X.prog X.w H s.heap d (NkF X.prog X.w d o xs) from I.hok d _ e)
  have eo : o = o2 := Option.some.inj (h1.symm.trans h2)
  subst eo
  obtain ⟨rfl, rfl⟩ := dict_ep hod h3
  exact ⟨h1, h4⟩
theorem turn_keysN {xs : List (NestedKey × Addr × Value)} (it : Addr) (hod : o.data = .dict es ep) : Turn P w K tg (ItN P w d o xs) [it] it (fun i h => h.IsKeyIter it d i xs.length ep) where
  mem := by simp
  obj := fun i h st b hb => by
    obtain rfl : b = it := by simpa using hb
    obtain ⟨oi, e, c, dd⟩ := st
    exact ⟨oi, e, fun v z => by rw [dd] at z; cases z⟩
  keep := fun i h h' st k => st.at fun oi e => k it (by simp) oi e
  item := by
    intro X hP hw hK hc i pins s σ H E I hf st hg
    subst hP hw hK
    obtain ⟨hd, hi⟩ := hg
    obtain ⟨f0, f1, f2, f3, f4, f5⟩ := hf it (by simp)
    obtain ⟨hgd, he⟩ := nkF_at I hd hod
    obtain ⟨k, q, v, hkv⟩ : ∃ k q v, xs[i]? = some (k, q, v) := ⟨_, _, _, List.getElem?_eq_getElem hi⟩
    have hsz : es.size = xs.length := by rw [← Array.length_toList, he, List.length_map]
    have hen : es[i]? = some (entryOfKey (nestedKind X.prog X.w) (k, q, v)) := by rw [← Array.getElem?_toList, he, List.getElem?_map, hkv]; rfl
    refine next_key_item st hgd hod hsz hen fun h' st' sb => ?_
    have I1 : Inv X pins σ H { s with heap := h' } := I.turned (t' := s.toks) (fun b ob hb e => (sb.2 b hb).trans e) f0 f1 f3 f4 f5
    obtain ⟨oi, e, c, dd⟩ := id st'
    exact ⟨_, rfl, go_of (s := { s with heap := h' }) e c dd (by decide) ⟨.ref q, H, I1, rfl, ⟨rfl, k, q, v, hkv, rfl⟩, st', fun b hb => (hf b hb).1⟩⟩
  done := by
    intro X hP hw hK hc i pins s σ H E I hf st hg
    subst hP hw hK
    obtain ⟨hd, hi⟩ := hg
    obtain ⟨f0, f1, f2, f3, f4, f5⟩ := hf it (by simp)
    obtain ⟨hgd, he⟩ := nkF_at I hd hod
    have hsz : es.size = xs.length := by rw [← Array.length_toList, he, List.length_map]
    exact next_key_end (I.ok.hd hc) st hgd hod hsz hi fun h' eb => ⟨rfl, I.turned (t' := s.toks) (fun b ob hb e => eb b ob hb e) f0 f1 f3 f4 f5⟩
  self := fun A i s Q E st h => by
    refine wpAny_pyIter_slot st.typeIs F.slot_dict_keyiterator_iter (wpAny_call_entry F.slot_dict_keyiterator_iter st.typeIs F.entry_dict_keyiterator_iter ?_ (F.args_dict_keyiterator_iter_1 _))
    show wpAny _ _ (ret (.ref it)) _ _ s
    exact wpAny_pure ⟨_, rfl, "dict_keyiterator", _, st.typeIs, F.slot_dict_keyiterator_next.lookup, h⟩
end
/-- the walk: from here on the dict is locked (its object is known), until it is written again -/
def iKeysN (P : Program) (w : World) (td : TE) : TI := fun σ H R => td σ H fun x H1 => ∃ d kvs, x = .ref d ∧ NDict P w H1 d kvs ∧ ∀ o xs, KvN (upd H1 d (NkF P w d o xs)) kvs xs → R (ItN P w d o xs) (upd H1 d (NkF P w d o xs))
theorem pi_keysN {X : Cx} {tg e : Expr} {td : TE} (he : L2.PE X e td) : PI X tg e (iKeysN X.prog X.w td) := by
  refine ⟨fun pins s σ H R I h => ?_⟩
  refine thn (he.run pins s σ H _ I h) fun u s1 ⟨x, H1, I1, rx, d, kvs, ex, nd, q⟩ => ?_
  subst ex
  obtain rfl : u = Value.ref d := rx
  obtain ⟨z, hd, xs, φ, hx, rel, o, es, ep, h1, h2, h3, h4, hk, h5⟩ := nd.at_ I1.hok
  have nf : ObjOk X.prog X.w (upd H1 d (NkF X.prog X.w d o xs)) s1.heap d (NkF X.prog X.w d o xs) :=
    ⟨⟨h1, hd, o, es, ep, h1, h2, h3, h4, h5⟩, ⟨o, h1⟩, fun g1 g2 f k => ⟨k _ f.1, hd, o, es, ep, k _ f.1, h2, h3, h4, h5⟩⟩
  have I2 : Inv X pins σ (upd H1 d (NkF X.prog X.w d o xs)) s1 := I1.write (t' := s1.toks) (x := d) (e := d) (by rw [hx]; exact True.intro) (.inl rfl) (fun b u _ e => e) ⟨o, h1⟩ nf
  refine iter_keys hd h1 h2 h3 (pi_one (tk := s1.toks) I2 _ (turn_keysN _ h3) ⟨_, Heap.get?_push_size _ rfl, rfl, ?_⟩ (q o xs (rel.keeps fun c vs ec => ?_)))
  · rw [show es.size = xs.length by rw [← Array.length_toList, h4, List.length_map]] <;> rfl
  · rw [upd_ne (ne_of ec hx (fun z => nomatch z))]
    exact ec
theorem walk_keysN {P : Program} {w : World} {d : Addr} {o : Obj} {xs : List (NestedKey × Addr × Value)} : Walk (ItN P w d o xs) xs.length (fun H => H d = some (NkF P w d o xs)) (fun i H x H' => H' = H ∧ ∃ k q v, xs[i]? = some (k, q, v) ∧ x = .ref q) :=
  ⟨fun i _ hi q => ⟨q, hi⟩, fun _ q => ⟨q, Nat.le_refl _⟩, fun _ _ _ _ _ q y => y⟩
/-- a dict comprehension over a walk: Pv by the turn and the heap, the dict D told by NDict -/
theorem dcN_it {P : Program} {w : World} {J : It} {n : Nat} {G : Hp → Prop} {Y : Nat → Hp → V → Hp → Prop} (wk : Walk J n G Y) {g : TG} {tt : TT} {tk tv : TE} {vs : List Nat} {σ : L2.St} {H1 : Hp} {D : Addr} {Qd : Hp → Prop} (Pv : Nat → Hp → Prop) (h0 : Pv 0 (upd H1 D (NkO P w D []))) (hG : ∀ i H, i ≤ n → Pv i H → G H)
    (hs : ∀ i x H H', i < n → Pv i H → Y i H x H' → g x (wipe σ vs) H' fun σ2 H2 => wipe σ2 vs = wipe σ vs ∧ tt σ2 H2 fun b H3 =>
      if b = true then tk σ2 H3 fun y H4 => tv σ2 H4 fun z H5 => ∃ c kvs k, y = .ref c ∧ NDict P w H5 D kvs ∧ kvs.length < sizeLine ∧ NkAt H5 k (.ref c) ∧ k.depth ≤ 8 ∧ NPut P w H5 D kvs k z (Pv (i + 1)) else Pv (i + 1) H3) (hd : ∀ H, Pv n H → Qd H) :
    ∃ W : Nat → Nat → Hp → Prop, (∃ m, W 0 m (upd H1 D (NkO P w D []))) ∧ ∀ i m H, W i m H →
      (J.stop i H ∧ Qd H) ∨ (J.go i H ∧ ∃ Nx : Hp → Prop, (∀ H', Nx H' → ∃ m', m' < m ∧ W (i + 1) m' H') ∧ ∀ x H', J.yld i H x H' → g x (wipe σ vs) H' fun σ2 H2 => wipe σ2 vs = wipe σ vs ∧ tt σ2 H2 fun b H3 =>
        if b = true then tk σ2 H3 fun y H4 => tv σ2 H4 fun z H5 => ∃ c kvs k, y = .ref c ∧ NDict P w H5 D kvs ∧ kvs.length < sizeLine ∧ NkAt H5 k (.ref c) ∧ k.depth ≤ 8 ∧ NPut P w H5 D kvs k z Nx else Nx H3) := by
  refine ⟨fun i m H => m = n - i ∧ i ≤ n ∧ Pv i H, ⟨n, rfl, Nat.zero_le _, h0⟩, fun i m H h => ?_⟩
  obtain ⟨rfl, hi, p⟩ := h
  have q := hG i H hi p
  by_cases lt : i < n
  · exact .inr ⟨wk.goes i H lt q, Pv (i + 1), fun H' p' => ⟨n - (i + 1), by omega, rfl, lt, p'⟩, fun x H' y => hs i x H H' lt p (wk.yields i H x H' lt q y)⟩
  · obtain rfl : i = n := by omega
    exact .inl ⟨wk.stops H q, hd H p⟩
end Lb

set_option Elab.async false
set_option linter.all false
set_option maxRecDepth 100000
set_option maxHeartbeats 4000000
/-! d[k], d.get(k), d.get(k, x), d.setdefault(k, x), for dicts with nested keys -/
namespace Lb
open PySem PySem.Spec PyProof.Rows L2
section
variable {X : Cx} {pins : List (Addr × Obj)} {σ : L2.St} {H : Hp} {s : Shared} {a : Addr} {kvs : List (NestedKey × V)} {k : NestedKey} {b : Addr} {v z : V} {u r : Value} {A : Around} {E : Value → Shared → Prop}
theorem NDict.typed (I : Inv X pins σ H s) (d : NDict X.prog X.w H a kvs) : s.TypeIs (.ref a) "dict" ∧ ∀ b, Value.ref a = .ref b → ∃ ob, s.heap.get? b = some ob ∧ ob.dict = none := by
  obtain ⟨_, hd, xs, φ, hx, rel, dd⟩ := d.at_ I.hok
  exact ⟨dd.typeIs, dictOfH_noDict dd⟩
theorem n_get1 {Q : Value → Shared → Prop} (hu : A.units + 64 < cLine) (I : Inv X pins σ H s) (d : NDict X.prog X.w H a kvs) (hb : NkAt H k (.ref b)) (dp : k.depth ≤ 8) (h : ∀ w' s', Inv X pins σ H s' → RelV ((valV kvs k).getD .non) w' → Q w' s') :
    wpAny (model X.prog X.w) A (call (.builtin "dict.get") [.ref a, .ref b]) Q E s := by
  obtain ⟨_, hd, xs, φ, hx, rel, dd⟩ := d.at_ I.hok
  refine call_meetsIn PySem.F.slot_dict_get dd.typeIs PySem.F.entry_dict_get (PySem.F.args_dict_get_2 _ _) (meetsH_dict_get (nestedKind X.prog X.w) a b hd) ⟨by show A.units + 1 + 8 < cLine; omega, k, xs, key_is I.hok hb dp, dd, h _ _ (I.tok _) ?_⟩
  exact (rel.val k).getD rfl
theorem n_get2 {Q : Value → Shared → Prop} (hu : A.units + 64 < cLine) (I : Inv X pins σ H s) (d : NDict X.prog X.w H a kvs) (hb : NkAt H k (.ref b)) (dp : k.depth ≤ 8) (rz : RelV z r) (h : ∀ w' s', Inv X pins σ H s' → RelV ((valV kvs k).getD z) w' → Q w' s') :
    wpAny (model X.prog X.w) A (call (.builtin "dict.get") [.ref a, .ref b, r]) Q E s := by
  obtain ⟨_, hd, xs, φ, hx, rel, dd⟩ := d.at_ I.hok
  refine call_meetsIn PySem.F.slot_dict_get dd.typeIs PySem.F.entry_dict_get (PySem.F.args_dict_get_3 _ _ _) (meetsH_dict_get_default (nestedKind X.prog X.w) a b hd r) ⟨by show A.units + 1 + 8 < cLine; omega, k, xs, key_is I.hok hb dp, dd, h _ _ (I.tok _) ?_⟩
  exact (rel.val k).getD rz
theorem n_setd {Q : Value → Shared → Prop} {QH : Hp → Prop} (hu : A.units + 64 < cLine) (I : Inv X pins σ H s) (d : NDict X.prog X.w H a kvs) (hz : kvs.length < sizeLine) (hb : NkAt H k (.ref b)) (dp : k.depth ≤ 8) (rz : RelV z r)
    (h1 : ∀ v, valV kvs k = some v → ∀ w' s', Inv X pins σ H s' → RelV v w' → Q w' s') (q : valV kvs k = none → NPut X.prog X.w H a kvs k z QH) (h2 : ∀ H' s', Inv X pins σ H' s' → QH H' → Q r s') :
    wpAny (model X.prog X.w) A (call (.builtin "dict.setdefault") [.ref a, .ref b, r]) Q E s := by
  obtain ⟨_, hd, xs, φ, hx, rel, dd⟩ := d.at_ I.hok
  have rv := rel.val k
  refine call_setdefault_heap (hsz := by rw [← Paired.length rel]; omega) (by show A.units + 1 + 8 < cLine; omega) (key_is I.hok hb dp) hd dd (fun p hp => ?_) fun hn h' dd' hs => ?_
  · rw [hp] at rv
    cases e : valV kvs k with
    | none => rw [e] at rv; exact rv.elim
    | some v =>
      rw [e] at rv
      exact h1 v e _ _ (I.tok _) rv
  · have en : valV kvs k = none := by
      rw [hn] at rv
      cases e : valV kvs k with
      | none => rfl
      | some v => rw [e] at rv; exact rv.elim
    refine h2 _ _ (n_put I hx hd hs _ dd') (q en _ (fun c hc => upd_ne hc) ⟨?_, _, _, upd_same, fun _ x => x, (rel.put k hb dp rz).keeps fun c vs ec => ?_⟩)
    · have := length_putK kvs k z
      omega
    · rw [upd_ne (ne_of ec hx (fun z => nomatch z))]
      exact ec
end
def tNGet (P : Program) (w : World) (td ty : TE) : TE := fun σ H Q => td σ H fun x H1 => ty σ H1 fun y H2 => ∃ a b kvs k v, x = .ref a ∧ y = .ref b ∧ NDict P w H2 a kvs ∧ NkAt H2 k (.ref b) ∧ k.depth ≤ 8 ∧ valV kvs k = some v ∧ Q v H2
def tNGet1 (P : Program) (w : World) (td ty : TE) : TE := fun σ H Q => td σ H fun x H1 => ∃ a kvs0, x = .ref a ∧ NDict P w H1 a kvs0 ∧ ty σ H1 fun y H2 => ∃ b kvs k, y = .ref b ∧ NDict P w H2 a kvs ∧ NkAt H2 k (.ref b) ∧ k.depth ≤ 8 ∧ Q ((valV kvs k).getD .non) H2
def tNGet2 (P : Program) (w : World) (td ty tx : TE) : TE := fun σ H Q => td σ H fun x H1 => ∃ a kvs0, x = .ref a ∧ NDict P w H1 a kvs0 ∧ ty σ H1 fun y H2 => tx σ H2 fun z H3 => ∃ b kvs k, y = .ref b ∧ NDict P w H3 a kvs ∧ NkAt H3 k (.ref b) ∧ k.depth ≤ 8 ∧ Q ((valV kvs k).getD z) H3
def tNSetd (P : Program) (w : World) (td ty tx : TE) : TE := fun σ H Q => td σ H fun x H1 => ∃ a kvs0, x = .ref a ∧ NDict P w H1 a kvs0 ∧ ty σ H1 fun y H2 => tx σ H2 fun z H3 => ∃ b kvs k, y = .ref b ∧ NDict P w H3 a kvs ∧ kvs.length < sizeLine ∧ NkAt H3 k (.ref b) ∧ k.depth ≤ 8 ∧
  (∀ v, valV kvs k = some v → Q v H3) ∧ (valV kvs k = none → NPut P w H3 a kvs k z (Q z))
section
variable {X : Cx} {o e f i : Expr} {td ty tx : TE} {apos cpos pos : Pos}
theorem pe_nget (hu : X.A.units + 64 < cLine) (ho : L2.PE X o td) (hi : L2.PE X i ty) (hs : NoSl i) : L2.PE X (.Subscript o i pos) (tNGet X.prog X.w td ty) := by
  refine ⟨fun pins s σ H Q I h => ?_⟩
  refine subD_of PySem.F.slot_dict_getitem.lookup hs (thn (ho.run pins s σ H _ I h) fun u s1 ⟨x, H1, I1, rx, q1⟩ => thn (hi.run pins s1 σ H1 _ I1 q1) fun iv s2 ⟨y, H2, I2, ry, a, b, kvs, k, v, ex, ey, d, hb, dp, hv, q2⟩ => ?_)
  subst ex ey
  obtain rfl : u = Value.ref a := rx
  obtain rfl : iv = Value.ref b := ry
  exact ⟨(d.typed I2).1, n_get hu I2 d hb dp hv fun w' s3 I3 rw' => ⟨v, H2, I3, rw', q2⟩⟩
theorem pe_nget1 (hu : X.A.units + 64 < cLine) (ho : L2.PE X o td) (he : L2.PE X e ty) (m : M1 X o "get" apos e cpos) : L2.PE X (.Call (.Attribute o "get" apos) [e] [] cpos) (tNGet1 X.prog X.w td ty) := by
  refine ⟨fun pins s σ H Q I h => ?_⟩
  refine wpAny_Call_method m.base m.few m.line PySem.F.plainAttrs_dict PySem.F.slot_dict_get PySem.F.type_dict_get (thn (ho.run pins s σ H _ I h) fun u s1 ⟨x, H1, I1, rx, a, kvs0, ex, d, q1⟩ => ?_)
  subst ex
  obtain rfl : u = Value.ref a := rx
  refine ⟨(d.typed I1).1, (d.typed I1).2, ?_⟩
  rw [m.trees]
  refine Calls.callWith_builtin rfl (Calls.evalArgs_plain (Calls.spliced_cons (thn (he.run pins s1 σ H1 _ I1 q1) fun iv s2 ⟨y, H2, I2, ry, b, kvs, k, ey, d2, hb, dp, q2⟩ => Calls.spliced_nil ?_)))
  subst ey
  obtain rfl : iv = Value.ref b := ry
  exact n_get1 hu I2 d2 hb dp fun w' s3 I3 rw' => ⟨_, H2, I3, rw', q2⟩
theorem pe_nget2 (hu : X.A.units + 64 < cLine) (ho : L2.PE X o td) (he : L2.PE X e ty) (hf : L2.PE X f tx) (m : M2 X o "get" apos e f cpos) : L2.PE X (.Call (.Attribute o "get" apos) [e, f] [] cpos) (tNGet2 X.prog X.w td ty tx) := by
  refine ⟨fun pins s σ H Q I h => ?_⟩
  refine wpAny_Call_method m.base m.few m.line PySem.F.plainAttrs_dict PySem.F.slot_dict_get PySem.F.type_dict_get (thn (ho.run pins s σ H _ I h) fun u s1 ⟨x, H1, I1, rx, a, kvs0, ex, d, q1⟩ => ?_)
  subst ex
  obtain rfl : u = Value.ref a := rx
  refine ⟨(d.typed I1).1, (d.typed I1).2, ?_⟩
  rw [m.trees]
  refine Calls.callWith_builtin rfl (Calls.evalArgs_plain (Calls.spliced_cons (thn (he.run pins s1 σ H1 _ I1 q1) fun iv s2 ⟨y, H2, I2, ry, q2⟩ =>
    Calls.spliced_cons (thn (hf.run pins s2 σ H2 _ I2 q2) fun fv s3 ⟨z, H3, I3, rz, b, kvs, k, ey, d3, hb, dp, q3⟩ => Calls.spliced_nil ?_))))
  subst ey
  obtain rfl : iv = Value.ref b := ry
  exact n_get2 hu I3 d3 hb dp rz fun w' s4 I4 rw' => ⟨_, H3, I4, rw', q3⟩
theorem pe_nsetd (hu : X.A.units + 64 < cLine) (ho : L2.PE X o td) (he : L2.PE X e ty) (hf : L2.PE X f tx) (m : M2 X o "setdefault" apos e f cpos) : L2.PE X (.Call (.Attribute o "setdefault" apos) [e, f] [] cpos) (tNSetd X.prog X.w td ty tx) := by
  refine ⟨fun pins s σ H Q I h => ?_⟩
  refine wpAny_Call_method m.base m.few m.line PySem.F.plainAttrs_dict PySem.F.slot_dict_setdefault PySem.F.type_dict_setdefault (thn (ho.run pins s σ H _ I h) fun u s1 ⟨x, H1, I1, rx, a, kvs0, ex, d, q1⟩ => ?_)
  subst ex
  obtain rfl : u = Value.ref a := rx
  refine ⟨(d.typed I1).1, (d.typed I1).2, ?_⟩
  rw [m.trees]
  refine Calls.callWith_builtin rfl (Calls.evalArgs_plain (Calls.spliced_cons (thn (he.run pins s1 σ H1 _ I1 q1) fun iv s2 ⟨y, H2, I2, ry, q2⟩ =>
    Calls.spliced_cons (thn (hf.run pins s2 σ H2 _ I2 q2) fun fv s3 ⟨z, H3, I3, rz, b, kvs, k, ey, d3, hz, hb, dp, q3, q4⟩ => Calls.spliced_nil ?_))))
  subst ey
  obtain rfl : iv = Value.ref b := ry
  exact n_setd hu I3 d3 hz hb dp rz (fun v hv w' s4 I4 rw' => ⟨v, _, I4, rw', q3 v hv⟩) q4 fun H' s4 I4 q => ⟨z, H', I4, rz, q⟩
end
end Lb

set_option Elab.async false
set_option linter.all false
set_option maxRecDepth 100000
set_option maxHeartbeats 4000000
/-! the tool: its links, what asks for a row, what stands behind a link; an instance of the class Tool in a heap -/
namespace Lb
open PySem PySem.Spec PyProof.Rows L2
abbrev Ln := Str × (Nat × Nat)
def lnD (l : Ln) : PyData := .tuple [.str l.1, stD l.2]
def plK (q : Nat × Nat) : NestedKey := .tup [.num (q.1 : Nat), .num (q.2 : Nat)]
def lnK (l : Ln) : NestedKey := .tup [.text l.1, plK l.2]
theorem plK_inj {p q : Nat × Nat} : plK p = plK q ↔ p = q := by
  obtain ⟨a, b⟩ := p
  obtain ⟨c, d⟩ := q
  unfold plK
  simp only [NestedKey.tup.injEq, List.cons.injEq, NestedKey.num.injEq, and_true, Prod.mk.injEq]
  constructor
  · rintro ⟨h1, h2⟩
    exact ⟨by omega, by omega⟩
  · rintro ⟨h1, h2⟩
    exact ⟨by omega, by omega⟩
theorem lnK_inj {p q : Ln} : lnK p = lnK q ↔ p = q := by
  obtain ⟨a, b⟩ := p
  obtain ⟨c, d⟩ := q
  unfold lnK
  simp only [NestedKey.tup.injEq, List.cons.injEq, NestedKey.text.injEq, and_true, Prod.mk.injEq, plK_inj]
theorem plK_depth (q : Nat × Nat) : (plK q).depth ≤ 8 := by unfold plK; simp [NestedKey.depth, NestedKey.depthAll]
theorem lnK_depth (l : Ln) : (lnK l).depth ≤ 8 := by unfold lnK plK; simp [NestedKey.depth, NestedKey.depthAll]
theorem pl_at {S : List Addr} {H : Hp} {v : V} {q : Nat × Nat} (r : Rep S H v (stD q)) : NkAt H (plK q) v := by
  obtain ⟨a, x, y, rfl, ha, rx, ry⟩ := r.two
  obtain rfl := rx.intV
  obtain rfl := ry.intV
  unfold plK NkAt
  exact ⟨a, _, rfl, ha, _, _, rfl, rfl, _, _, rfl, rfl, rfl⟩
theorem ln_at {S : List Addr} {H : Hp} {v : V} {l : Ln} (r : Rep S H v (lnD l)) : NkAt H (lnK l) v := by
  obtain ⟨a, x, y, rfl, ha, rx, ry⟩ := Rep.two (show Rep S H v (.tuple [.str l.1, stD l.2]) from r)
  obtain rfl := rx.strV
  unfold lnK NkAt
  exact ⟨a, _, rfl, ha, _, _, rfl, rfl, _, _, rfl, pl_at ry, rfl⟩
theorem ln_ref {S : List Addr} {H : Hp} {v : V} {l : Ln} (r : Rep S H v (lnD l)) : ∃ a, v = .ref a := by
  obtain ⟨a, x, y, rfl, _⟩ := Rep.two (show Rep S H v (.tuple [.str l.1, stD l.2]) from r)
  exact ⟨a, rfl⟩
/-- the words for which the tool asks for a row -/
def asksT (os : List Str) (lk : List (Nat × Nat)) (r : Row) (q : Nat × Nat) : List Str :=
  (if r.word = "show" ∨ r.word = "out" then [("shows" : Str)] else []) ++ ((if riskB r = true ∧ ("risks" : Str) ∉ os then [("risks" : Str)] else []) ++ (if q ∈ lk ∧ ("lookups" : Str) ∉ os then [("lacks" : Str)] else []))
theorem inV_strs (x : Str) (l : List Str) : inV (V.str x) (l.map V.str) = decide (x ∈ l) := by
  unfold inV
  rw [List.any_map, Bool.eq_iff_iff, List.any_eq_true, decide_eq_true_eq]
  constructor
  · rintro ⟨y, hy, e⟩
    obtain rfl : y = x := eq_of_beq e
    exact hy
  · exact fun h => ⟨x, h, beq_self_eq_true x⟩
theorem flat_strs (l : List Str) : (l.map V.str).all flatV = true := by
  rw [List.all_map, List.all_eq_true]
  exact fun _ _ => rfl
theorem flat_nats (l : List Nat) : (l.map nV).all flatV = true := by
  rw [List.all_map, List.all_eq_true]
  exact fun _ _ => rfl
theorem row_of {P : Prog} {q : Nat × Nat} (h : q ∈ placesP P P.parts.length) : (rowsOfP P q.1)[q.2]? = some (rowP P q) := by
  obtain ⟨a, b⟩ := q
  have lt := (placesP_mem.mp h).2
  unfold rowP
  rw [List.getD_eq_getElem?_getD, List.getElem?_eq_getElem lt]
  rfl
def waitsT (P : Prog) (os : List Str) (q : Nat × Nat) : Bool := decide (("marks" : Str) ∈ os) && P.marks.getD q.1 false
def wantsT : Row → List Nm
  | .pass _ p o => [(p, o)]
  | r => needsL r
def loadsT (L : List (List Nat)) (r : Row) (part : Nat) : Prop := ∃ n, namedOf r = some n ∧ (n = part ∨ Reach L n part)
theorem rowT_ok {P : Prog} (ok : P.Ok) {q : Nat × Nat} (h : q ∈ placesP P P.parts.length) : (rowP P q).ok P.c := by
  obtain ⟨rows, h1, h2⟩ := row_part (row_of h)
  exact ok.rows rows (List.mem_of_getElem? h1) _ (List.mem_of_getElem? h2)
theorem named_in {P : Prog} {r : Row} (ok : r.ok P.c) {n : Nat} (e : namedOf r = some n) : n < P.parts.length := by
  unfold Prog.c at ok
  cases r with
  | load p =>
    have e : some p.toNat = some n := e
    obtain rfl := Option.some.inj e
    have := ok.1
    have := ok.2
    omega
  | pass m p o =>
    have e : some p.toNat = some n := e
    obtain rfl := Option.some.inj e
    have := ok.2.1.1
    have := ok.2.1.2
    omega
  | _ => cases e
/-- the field behind: for each part the parts behind it -/
def BhAt (H : Hp) (fs : List (Str × V)) (P : Prog) : Prop := ∃ (ba : Addr) (as : List Addr), fs.lookup ("behind" : Str) = some (.ref ba) ∧ H ba = some (.lst (as.map V.ref)) ∧ as.length = P.parts.length ∧ ∀ j a, as[j]? = some a → ∃ ks : List Nat, H a = some (.lst (ks.map nV)) ∧ ∀ k, k ∈ ks ↔ Reach (linksL P) j k
theorem BhAt.sm {H H' : Hp} {fs : List (Str × V)} {P : Prog} (b : BhAt H fs P) (s : Same H H') : BhAt H' fs P := by
  obtain ⟨ba, as, h1, h2, h3, h4⟩ := b
  exact ⟨ba, as, h1, s _ _ h2, h3, fun j a h => (h4 j a h).elim fun ks z => ⟨ks, s _ _ z.1, z.2⟩⟩
/-- the instance: the fields that are stored so far; none of them is a method's name -/
structure ToolAt (C : Addr) (H : Hp) (t : Addr) (P : Prog) (os : List Str) (fs : List (Str × V)) : Prop where
  ob : ∃ dx, H t = some (.ins C dx fs)
  src : ∃ v, fs.lookup ("source" : Str) = some v ∧ Rep [] H v P.d
  opt : ∃ a, fs.lookup ("options" : Str) = some (.ref a) ∧ H a = some (.tup (os.map V.str))
  met : ∀ m : Str, m ∈ (["asks", "waits", "first_links", "links_behind", "wants", "loads", "kept_ways"] : List Str) → fs.lookup m = none
theorem ToolAt.sm {C : Addr} {H H' : Hp} {t : Addr} {P : Prog} {os : List Str} {fs : List (Str × V)} (x : ToolAt C H t P os fs) (s : Same H H') : ToolAt C H' t P os fs := by
  obtain ⟨⟨dx, h1⟩, ⟨v, h2, h3⟩, ⟨a, h4, h5⟩, h6⟩ := x
  exact ⟨⟨dx, s _ _ h1⟩, ⟨v, h2, h3.sm s⟩, ⟨a, h4, s _ _ h5⟩, h6⟩
end Lb

set_option Elab.async false
set_option linter.all false
set_option maxRecDepth 100000
set_option maxHeartbeats 4000000
/-! the instance of Tool while its fields are stored -/
namespace Lb
open PySem PySem.Spec PyProof.Rows L2
mutual
/-- data stands apart from an instance -/
theorem Rep.ins {st : List Addr} {H : Hp} {x C dx : Addr} {fs : List (Str × V)} (hx : H x = some (.ins C dx fs)) : ∀ (d : PyData) (v : V), Rep st H v d → Rep (x :: st) H v d
  | .none, _, .non => .non
  | .bool _, _, .bl b => .bl b
  | .int _, _, .int i => .int i
  | .str _, _, .str x => .str x
  | .tuple ds, _, .tup (xs := ys) h n r => .tup h (fun m => (List.mem_cons.mp m).elim (ne_of h hx (fun q => nomatch q)) n) (Reps.ins hx ds ys r)
  | .list ds, _, .lst (xs := ys) h n r => .lst h (fun m => (List.mem_cons.mp m).elim (ne_of h hx (fun q => nomatch q)) n) (Reps.ins hx ds ys r)
  | .dict _, _, .dct h n => .dct h (fun m => (List.mem_cons.mp m).elim (ne_of h hx (fun q => nomatch q)) n)
theorem Reps.ins {st : List Addr} {H : Hp} {x C dx : Addr} {fs : List (Str × V)} (hx : H x = some (.ins C dx fs)) : ∀ (ds : List PyData) (vs : List V), Reps st H vs ds → Reps (x :: st) H vs ds
  | [], _, .nil => .nil
  | d :: ds, _, .cons r rs => .cons (Rep.ins hx d _ r) (Reps.ins hx ds _ rs)
end
theorem Rep.put {H : Hp} {x C dx : Addr} {fs : List (Str × V)} {o : HO} (hx : H x = some (.ins C dx fs)) {d : PyData} {v : V} (r : Rep [] H v d) : Rep [] (upd H x o) v d :=
  ((Rep.ins hx d v r).mv (But.refl.upd List.mem_cons_self)).less fun _ z => absurd z List.not_mem_nil
theorem Reps.put {H : Hp} {x C dx : Addr} {fs : List (Str × V)} {o : HO} (hx : H x = some (.ins C dx fs)) {ds : List PyData} {vs : List V} (r : Reps [] H vs ds) : Reps [] (upd H x o) vs ds :=
  ((Reps.ins hx ds vs r).mv (But.refl.upd List.mem_cons_self)).less fun _ z => absurd z List.not_mem_nil
theorem lk_eq (f : Str) (v : V) (fs : List (Str × V)) : (putF f v fs).lookup f = some v := by rw [lookup_putF, if_pos rfl]
theorem lk_ne {f g : Str} (v : V) (fs : List (Str × V)) (h : ¬ g = f) : (putF f v fs).lookup g = fs.lookup g := by rw [lookup_putF, if_neg h]
/-- the places of the program, as the two ways to say them -/
theorem places_two (P : Prog) : placesD P.d = (placesP P P.parts.length).map stD := by
  have key : ∀ i, i ≤ P.parts.length → upTo (P.parts.map rowsD) i = (placesP P i).map stD := by
    intro i
    induction i with
    | zero => intro _; rfl
    | succ n ih =>
      intro h
      have hn : n < P.parts.length := h
      have e : (P.parts.map rowsD)[n]? = some (.tuple ((rowsOfP P n).map Row.d)) := by
        rw [List.getElem?_map, List.getElem?_eq_getElem hn]
        unfold rowsOfP
        rw [List.getD_eq_getElem?_getD, List.getElem?_eq_getElem hn]
        rfl
      rw [upTo_snoc e, ih (Nat.le_of_lt h), placesP_succ, List.map_append, List.length_map]
      congr 1
      unfold inPart partPl
      rw [List.map_map]
      rfl
  show upTo (P.parts.map rowsD) (P.parts.map rowsD).length = _
  rw [List.length_map]
  exact key _ (Nat.le_refl _)
/-- what the tool asks for, with its words -/
def askedT (P : Prog) (os : List Str) (lk : List (Nat × Nat)) : List Ln := (placesP P P.parts.length).flatMap fun q => (asksT os lk (rowP P q) q).map fun w => (w, q)
/-- the links that are there at first -/
def firstT (P : Prog) (os : List Str) (lk : List (Nat × Nat)) : List Ln :=
  ((askedT P os lk).filter fun l => !waitsT P os l.2) ++ ((P.opens.flatMap fun n => (giversP P n.1.toNat n.2).map fun g => (("open" : Str), g)) ++
    (if ("loads" : Str) ∈ os then [] else ((placesP P P.parts.length).filter fun q => (namedOf (rowP P q)).isSome).map fun q => (("loads" : Str), q)))
/-- q's row loads the part p or one that leads there -/
noncomputable def loadsB (P : Prog) (q : Nat × Nat) (p : Nat) : Bool := open Classical in decide (loadsT (linksL P) (rowP P q) p)
/-- the links behind a link -/
noncomputable def nextT (P : Prog) (os : List Str) (lk : List (Nat × Nat)) (l : Ln) : List Ln :=
  ((wantsT (rowP P l.2)).flatMap fun n => (giversP P n.1.toNat n.2).map fun g => (("needs" : Str), g)) ++
    ((if ("loads" : Str) ∈ os then ((placesP P P.parts.length).filter fun q => loadsB P q l.2.1).map fun q => (("loads" : Str), q) else []) ++
      (if (l.1 = "open" ∨ l.1 = "needs") ∧ waitsT P os l.2 = true then ((askedT P os lk).filter fun a => decide (a.2.1 = l.2.1)).map fun a => (("marked" : Str), a.2) else []))
/-- what the search reaches -/
inductive Kept (P : Prog) (os : List Str) (lk : List (Nat × Nat)) : Ln → Prop
  | first {l : Ln} : l ∈ firstT P os lk → Kept P os lk l
  | next {l m : Ln} : Kept P os lk l → m ∈ nextT P os lk l → Kept P os lk m
/-- the field places -/
def PlAt (H : Hp) (fs : List (Str × V)) (P : Prog) : Prop := ∃ (pa : Addr) (ps : List V), fs.lookup ("places" : Str) = some (.ref pa) ∧ H pa = some (.lst ps) ∧ Reps [] H ps ((placesP P P.parts.length).map stD)
/-- the field asked -/
def AkAt (H : Hp) (fs : List (Str × V)) (P : Prog) (os : List Str) (lk : List (Nat × Nat)) : Prop := ∃ (aa : Addr) (as : List V), fs.lookup ("asked" : Str) = some (.ref aa) ∧ H aa = some (.lst as) ∧ Reps [] H as ((askedT P os lk).map lnD)
theorem PlAt.sm {H H' : Hp} {fs : List (Str × V)} {P : Prog} (x : PlAt H fs P) (s : Same H H') : PlAt H' fs P := by
  obtain ⟨pa, ps, h1, h2, h3⟩ := x
  exact ⟨pa, ps, h1, s _ _ h2, h3.sm s⟩
theorem AkAt.sm {H H' : Hp} {fs : List (Str × V)} {P : Prog} {os : List Str} {lk : List (Nat × Nat)} (x : AkAt H fs P os lk) (s : Same H H') : AkAt H' fs P os lk := by
  obtain ⟨pa, ps, h1, h2, h3⟩ := x
  exact ⟨pa, ps, h1, s _ _ h2, h3.sm s⟩
abbrev fields4 (a b c d : V) : List (Str × V) := putF "behind" d (putF "places" c (putF "options" b (putF "source" a [])))
abbrev fields5 (a b c d e : V) : List (Str × V) := putF "asked" e (fields4 a b c d)
theorem apart_names : ∀ m : Str, m ∈ (["asks", "waits", "first_links", "links_behind", "wants", "loads", "kept_ways"] : List Str) → ¬ m = "source" ∧ ¬ m = "options" ∧ ¬ m = "places" ∧ ¬ m = "behind" ∧ ¬ m = "asked" := by decide +kernel
theorem none4 (a b c d : V) : ∀ m : Str, m ∈ (["asks", "waits", "first_links", "links_behind", "wants", "loads", "kept_ways"] : List Str) → (fields4 a b c d).lookup m = none := fun m hm => by
  obtain ⟨h1, h2, h3, h4, h5⟩ := apart_names m hm
  unfold fields4
  rw [lk_ne _ _ h4, lk_ne _ _ h3, lk_ne _ _ h2, lk_ne _ _ h1]
  rfl
theorem none5 (a b c d e : V) : ∀ m : Str, m ∈ (["asks", "waits", "first_links", "links_behind", "wants", "loads", "kept_ways"] : List Str) → (fields5 a b c d e).lookup m = none := fun m hm => by
  obtain ⟨h1, h2, h3, h4, h5⟩ := apart_names m hm
  unfold fields5
  rw [lk_ne _ _ h5]
  exact none4 a b c d m hm
theorem src4 (a b c d : V) : (fields4 a b c d).lookup ("source" : Str) = some a := by
  unfold fields4
  rw [lk_ne _ _ (by decide +kernel), lk_ne _ _ (by decide +kernel), lk_ne _ _ (by decide +kernel), lk_eq]
theorem opt4 (a b c d : V) : (fields4 a b c d).lookup ("options" : Str) = some b := by
  unfold fields4
  rw [lk_ne _ _ (by decide +kernel), lk_ne _ _ (by decide +kernel), lk_eq]
theorem plc4 (a b c d : V) : (fields4 a b c d).lookup ("places" : Str) = some c := by
  unfold fields4
  rw [lk_ne _ _ (by decide +kernel), lk_eq]
theorem beh4 (a b c d : V) : (fields4 a b c d).lookup ("behind" : Str) = some d := lk_eq _ _ _
theorem in5 {f : Str} (a b c d e : V) (h : ¬ f = "asked") : (fields5 a b c d e).lookup f = (fields4 a b c d).lookup f := lk_ne _ _ h
theorem many4 (a b c d : V) : (fields4 a b c d).length ≤ 4 := by
  have h1 := length_putF "source" a []
  have h2 := length_putF "options" b (putF "source" a [])
  have h3 := length_putF "places" c (putF "options" b (putF "source" a []))
  have h4 := length_putF "behind" d (putF "places" c (putF "options" b (putF "source" a [])))
  simp only [List.length_nil] at h1
  show (putF "behind" d (putF "places" c (putF "options" b (putF "source" a [])))).length ≤ 4
  omega
end Lb

set_option Elab.async false
set_option linter.all false
set_option maxRecDepth 100000
set_option maxHeartbeats 4000000
/-! the search by levels, as functions: ways to places, links met, ways that are to be followed -/
namespace Lb
open PySem PySem.Spec PyProof.Rows L2
abbrev Wy := List Ln
/-- met | longer, while one link is looked at behind the way x -/
def linkS (x : Wy) (s : List Ln × List Wy) (l : Ln) : List Ln × List Wy := if l ∈ s.1 then s else (s.1 ++ [l], s.2 ++ [x ++ [l]])
def putW (ws : List ((Nat × Nat) × Wy)) (q : Nat × Nat) (x : Wy) : List ((Nat × Nat) × Wy) := if q ∈ ws.map Prod.fst then ws else ws ++ [(q, x)]
def lastW (x : Wy) : Ln := x.getLastD ("", (0, 0))
structure Ks where
  ways : List ((Nat × Nat) × Wy)
  met : List Ln
  level : List Wy
/-- one way of the level: (ways, met, longer) -/
noncomputable def wayS (P : Prog) (os : List Str) (lk : List (Nat × Nat)) (s : Ks) (x : Wy) : Ks :=
  let r := (nextT P os lk (lastW x)).foldl (linkS x) (s.met, s.level)
  ⟨putW s.ways (lastW x).2 x, r.1, r.2⟩
noncomputable def lvlS (P : Prog) (os : List Str) (lk : List (Nat × Nat)) (s : Ks) : Ks := s.level.foldl (wayS P os lk) ⟨s.ways, s.met, []⟩
def meet (s : List Ln) (l : Ln) : List Ln := if l ∈ s then s else s ++ [l]
noncomputable def startS (P : Prog) (os : List Str) (lk : List (Nat × Nat)) : Ks := ⟨[], (firstT P os lk).foldl meet [], ((firstT P os lk).foldl meet []).map fun l => [l]⟩
noncomputable def runS (P : Prog) (os : List Str) (lk : List (Nat × Nat)) : Nat → Ks
  | 0 => startS P os lk
  | n + 1 => lvlS P os lk (runS P os lk n)
theorem putW_keys {ws : List ((Nat × Nat) × Wy)} {q p : Nat × Nat} {x : Wy} : p ∈ (putW ws q x).map Prod.fst ↔ p ∈ ws.map Prod.fst ∨ p = q := by
  unfold putW
  split
  · rename_i h
    exact ⟨.inl, fun z => z.elim id fun e => by rw [e]; exact h⟩
  · rw [List.map_append, List.mem_append, List.map_cons, List.map_nil, List.mem_singleton]
theorem meet_fold (l : List Ln) : ∀ s : List Ln, s.Nodup → (l.foldl meet s).Nodup ∧ (∀ x, x ∈ l.foldl meet s ↔ x ∈ s ∨ x ∈ l) := by
  induction l with
  | nil => exact fun s h => ⟨h, fun x => by simp⟩
  | cons a l ih =>
    intro s h
    rw [List.foldl_cons]
    have hm : (meet s a).Nodup ∧ ∀ x, x ∈ meet s a ↔ x ∈ s ∨ x = a := by
      unfold meet
      split
      · rename_i c
        exact ⟨h, fun x => ⟨.inl, fun z => z.elim id fun e => by rw [e]; exact c⟩⟩
      · rename_i c
        refine ⟨List.nodup_append.mpr ⟨h, List.nodup_cons.mpr ⟨List.not_mem_nil, .nil⟩, fun p hp q hq e => ?_⟩, fun x => by rw [List.mem_append, List.mem_singleton]⟩
        rw [List.mem_singleton.mp hq] at e
        rw [e] at hp
        exact c hp
    obtain ⟨n1, m1⟩ := ih _ hm.1
    refine ⟨n1, fun x => ?_⟩
    rw [m1, hm.2, List.mem_cons]
    constructor
    · rintro ((z | z) | z)
      · exact .inl z
      · exact .inr (.inl z)
      · exact .inr (.inr z)
    · rintro (z | z | z)
      · exact .inl (.inl z)
      · exact .inl (.inr z)
      · exact .inr z
/-- what the fold over the links behind a way leaves -/
theorem link_fold (x : Wy) (l : List Ln) : ∀ s : List Ln × List Wy, s.1.Nodup → (l.foldl (linkS x) s).1.Nodup ∧ (∀ m, m ∈ (l.foldl (linkS x) s).1 ↔ m ∈ s.1 ∨ m ∈ l) ∧
    (∀ w, w ∈ s.2 → w ∈ (l.foldl (linkS x) s).2) ∧ (∀ m, m ∈ (l.foldl (linkS x) s).1 → m ∉ s.1 → x ++ [m] ∈ (l.foldl (linkS x) s).2) ∧ (∀ w, w ∈ (l.foldl (linkS x) s).2 → w ∈ s.2 ∨ ∃ m ∈ l, w = x ++ [m]) := by
  induction l with
  | nil => exact fun s h => ⟨h, fun m => by simp, fun w h => h, fun m h n => absurd h n, fun w h => .inl h⟩
  | cons a l ih =>
    intro s h
    rw [List.foldl_cons]
    by_cases c : a ∈ s.1
    · have e : linkS x s a = s := if_pos c
      rw [e]
      obtain ⟨i1, i2, i3, i4, i5⟩ := ih s h
      refine ⟨i1, fun m => ?_, i3, i4, fun w hw => (i5 w hw).imp_right fun ⟨m, hm, e⟩ => ⟨m, List.mem_cons_of_mem _ hm, e⟩⟩
      rw [i2, List.mem_cons]
      constructor
      · rintro (z | z)
        · exact .inl z
        · exact .inr (.inr z)
      · rintro (z | z | z)
        · exact .inl z
        · rw [z]
          exact .inl c
        · exact .inr z
    · have e : linkS x s a = (s.1 ++ [a], s.2 ++ [x ++ [a]]) := if_neg c
      rw [e]
      have h2 : (s.1 ++ [a]).Nodup := List.nodup_append.mpr ⟨h, List.nodup_cons.mpr ⟨List.not_mem_nil, .nil⟩, fun p hp q hq e => by
        rw [List.mem_singleton.mp hq] at e
        rw [e] at hp
        exact c hp⟩
      obtain ⟨i1, i2, i3, i4, i5⟩ := ih (s.1 ++ [a], s.2 ++ [x ++ [a]]) h2
      refine ⟨i1, fun m => ?_, fun w hw => i3 w (List.mem_append_left _ hw), fun m hm n => ?_, fun w hw => ?_⟩
      · rw [i2, List.mem_cons, List.mem_append, List.mem_singleton]
        constructor
        · rintro ((z | z) | z)
          · exact .inl z
          · exact .inr (.inl z)
          · exact .inr (.inr z)
        · rintro (z | z | z)
          · exact .inl (.inl z)
          · exact .inl (.inr z)
          · exact .inr z
      · by_cases ea : m = a
        · rw [ea]
          exact i3 _ (List.mem_append_right _ (List.mem_singleton.mpr rfl))
        · exact i4 m hm fun z => (List.mem_append.mp z).elim n fun z => ea (List.mem_singleton.mp z)
      · rcases i5 w hw with z | ⟨m, hm, e⟩
        · rcases List.mem_append.mp z with z | z
          · exact .inl z
          · exact .inr ⟨a, List.mem_cons_self, List.mem_singleton.mp z⟩
        · exact .inr ⟨m, List.mem_cons_of_mem _ hm, e⟩
theorem lastW_app (x : Wy) (l : Ln) : lastW (x ++ [l]) = l := by unfold lastW; simp
/-- amid a level: rest is still to be followed -/
structure MidK (P : Prog) (os : List Str) (lk : List (Nat × Nat)) (s : Ks) (rest : List Wy) : Prop where
  nd : s.met.Nodup
  kept : ∀ l ∈ s.met, Kept P os lk l
  todo : ∀ w ∈ rest, lastW w ∈ s.met
  long : ∀ w ∈ s.level, lastW w ∈ s.met
  each : ∀ l ∈ s.met, (∃ w ∈ rest, lastW w = l) ∨ (∃ w ∈ s.level, lastW w = l) ∨ (l.2 ∈ s.ways.map Prod.fst ∧ ∀ m ∈ nextT P os lk l, m ∈ s.met)
  keys : ∀ q ∈ s.ways.map Prod.fst, ∃ l ∈ s.met, l.2 = q
  first : ∀ l ∈ firstT P os lk, l ∈ s.met
theorem MidK.way {P : Prog} {os : List Str} {lk : List (Nat × Nat)} {s : Ks} {x : Wy} {rest : List Wy} (h : MidK P os lk s (x :: rest)) : MidK P os lk (wayS P os lk s x) rest := by
  obtain ⟨f1, f2, f3, f4, f5⟩ := link_fold x (nextT P os lk (lastW x)) (s.met, s.level) h.nd
  have hx := h.todo x List.mem_cons_self
  have up : ∀ m, m ∈ s.met → m ∈ (wayS P os lk s x).met := fun m hm => (f2 m).mpr (.inl hm)
  refine ⟨f1, fun l hl => ?_, fun w hw => up _ (h.todo w (List.mem_cons_of_mem _ hw)), fun w hw => ?_, fun l hl => ?_, fun q hq => ?_, fun l hl => up _ (h.first l hl)⟩
  · rcases (f2 l).mp hl with z | z
    · exact h.kept l z
    · exact .next (h.kept _ hx) z
  · rcases f5 w hw with z | ⟨m, hm, rfl⟩
    · exact up _ (h.long w z)
    · rw [lastW_app]
      exact (f2 m).mpr (.inr hm)
  · by_cases c : l ∈ s.met
    · rcases h.each l c with ⟨w, hw, e⟩ | ⟨w, hw, e⟩ | ⟨z1, z2⟩
      · rcases List.mem_cons.mp hw with rfl | hw
        · refine .inr (.inr ⟨putW_keys.mpr (.inr (by rw [e])), fun m hm => (f2 m).mpr (.inr ?_)⟩)
          rw [e]
          exact hm
        · exact .inl ⟨w, hw, e⟩
      · exact .inr (.inl ⟨w, f3 w hw, e⟩)
      · exact .inr (.inr ⟨putW_keys.mpr (.inl z1), fun m hm => up _ (z2 m hm)⟩)
    · exact .inr (.inl ⟨_, f4 l hl c, lastW_app _ _⟩)
  · rcases putW_keys.mp hq with z | rfl
    · obtain ⟨l, hl, e⟩ := h.keys q z
      exact ⟨l, up _ hl, e⟩
    · exact ⟨_, up _ hx, rfl⟩
theorem MidK.fold {P : Prog} {os : List Str} {lk : List (Nat × Nat)} : ∀ {rest : List Wy} {s : Ks}, MidK P os lk s rest → MidK P os lk (rest.foldl (wayS P os lk) s) []
  | [], _, h => h
  | _ :: _, _, h => (h.way).fold
theorem midK_start (P : Prog) (os : List Str) (lk : List (Nat × Nat)) : MidK P os lk (startS P os lk) [] := by
  obtain ⟨n, m⟩ := meet_fold (firstT P os lk) [] .nil
  have m2 : ∀ x, x ∈ (startS P os lk).met ↔ x ∈ firstT P os lk := fun x => (m x).trans ⟨fun z => z.elim (fun z => absurd z List.not_mem_nil) id, .inr⟩
  refine ⟨n, fun l hl => .first ((m2 l).mp hl), fun w hw => absurd hw List.not_mem_nil, fun w hw => ?_, fun l hl => .inr (.inl ⟨[l], List.mem_map.mpr ⟨l, hl, rfl⟩, rfl⟩), fun q hq => absurd hq List.not_mem_nil, fun l hl => (m2 l).mpr hl⟩
  obtain ⟨l, hl, rfl⟩ := List.mem_map.mp hw
  exact hl
theorem midK_level {P : Prog} {os : List Str} {lk : List (Nat × Nat)} {s : Ks} (h : MidK P os lk s []) : MidK P os lk (lvlS P os lk s) [] := by
  have z : MidK P os lk ⟨s.ways, s.met, []⟩ s.level := ⟨h.nd, h.kept, h.long, fun w hw => absurd hw List.not_mem_nil, fun l hl => (h.each l hl).elim (fun ⟨w, hw, _⟩ => absurd hw List.not_mem_nil) fun e => e.elim .inl fun e => .inr (.inr e), h.keys, h.first⟩
  exact z.fold
theorem midK_run (P : Prog) (os : List Str) (lk : List (Nat × Nat)) : ∀ n, MidK P os lk (runS P os lk n) []
  | 0 => midK_start P os lk
  | n + 1 => midK_level (midK_run P os lk n)
/-- at the end: exactly the places that a kept link tells of have a way -/
theorem run_end {P : Prog} {os : List Str} {lk : List (Nat × Nat)} {n : Nat} (e : (runS P os lk n).level = []) : (∀ l, l ∈ (runS P os lk n).met ↔ Kept P os lk l) ∧ ∀ q, q ∈ (runS P os lk n).ways.map Prod.fst ↔ ∃ w, Kept P os lk (w, q) := by
  have h := midK_run P os lk n
  have all : ∀ l ∈ (runS P os lk n).met, l.2 ∈ (runS P os lk n).ways.map Prod.fst ∧ ∀ m ∈ nextT P os lk l, m ∈ (runS P os lk n).met := fun l hl => by
    rcases h.each l hl with ⟨w, hw, _⟩ | ⟨w, hw, _⟩ | z
    · exact absurd hw List.not_mem_nil
    · rw [e] at hw
      exact absurd hw List.not_mem_nil
    · exact z
  have back : ∀ l, Kept P os lk l → l ∈ (runS P os lk n).met := fun l k => by
    induction k with
    | first hl => exact h.first _ hl
    | next _ hm ih => exact (all _ ih).2 _ hm
  refine ⟨fun l => ⟨h.kept l, back l⟩, fun q => ⟨fun hq => ?_, fun ⟨w, k⟩ => (all _ (back _ k)).1⟩⟩
  obtain ⟨l, hl, rfl⟩ := h.keys q hq
  exact ⟨l.1, h.kept l hl⟩
end Lb

set_option Elab.async false
set_option linter.all false
set_option maxRecDepth 100000
set_option maxHeartbeats 4000000
/-! what more options do -/
namespace Lb
open PySem PySem.Spec PyProof.Rows L2
section
variable {P : Prog} {os ss : List Str} {lk : List (Nat × Nat)}
theorem mem_asked {l : Ln} : l ∈ askedT P os lk ↔ l.2 ∈ placesP P P.parts.length ∧ l.1 ∈ asksT os lk (rowP P l.2) l.2 := by
  unfold askedT
  rw [List.mem_flatMap]
  constructor
  · rintro ⟨q, hq, h⟩
    obtain ⟨w, hw, rfl⟩ := List.mem_map.mp h
    exact ⟨hq, hw⟩
  · rintro ⟨h1, h2⟩
    exact ⟨l.2, h1, List.mem_map.mpr ⟨l.1, h2, rfl⟩⟩
theorem mem_first {l : Ln} : l ∈ firstT P os lk ↔ (l ∈ askedT P os lk ∧ waitsT P os l.2 = false) ∨ (∃ n ∈ P.opens, ∃ g ∈ giversP P n.1.toNat n.2, l = (("open" : Str), g)) ∨ (("loads" : Str) ∉ os ∧ ∃ q ∈ placesP P P.parts.length, (namedOf (rowP P q)).isSome = true ∧ l = (("loads" : Str), q)) := by
  unfold firstT
  rw [List.mem_append, List.mem_append, List.mem_filter, List.mem_flatMap]
  refine or_congr (by simp) (or_congr ?_ ?_)
  · constructor
    · rintro ⟨n, hn, h⟩
      obtain ⟨g, hg, rfl⟩ := List.mem_map.mp h
      exact ⟨n, hn, g, hg, rfl⟩
    · rintro ⟨n, hn, g, hg, rfl⟩
      exact ⟨n, hn, List.mem_map.mpr ⟨g, hg, rfl⟩⟩
  · by_cases c : ("loads" : Str) ∈ os
    · rw [if_pos c]
      exact ⟨fun z => absurd z List.not_mem_nil, fun z => absurd c z.1⟩
    · rw [if_neg c]
      constructor
      · intro h
        obtain ⟨q, hq, rfl⟩ := List.mem_map.mp h
        obtain ⟨h1, h2⟩ := List.mem_filter.mp hq
        exact ⟨c, q, h1, h2, rfl⟩
      · rintro ⟨_, q, h1, h2, rfl⟩
        exact List.mem_map.mpr ⟨q, List.mem_filter.mpr ⟨h1, h2⟩, rfl⟩
theorem mem_next {l m : Ln} : m ∈ nextT P os lk l ↔ (∃ n ∈ wantsT (rowP P l.2), ∃ g ∈ giversP P n.1.toNat n.2, m = (("needs" : Str), g)) ∨ (("loads" : Str) ∈ os ∧ ∃ q ∈ placesP P P.parts.length, loadsT (linksL P) (rowP P q) l.2.1 ∧ m = (("loads" : Str), q)) ∨
    ((l.1 = "open" ∨ l.1 = "needs") ∧ waitsT P os l.2 = true ∧ ∃ a ∈ askedT P os lk, a.2.1 = l.2.1 ∧ m = (("marked" : Str), a.2)) := by
  classical
  unfold nextT
  rw [List.mem_append, List.mem_append, List.mem_flatMap]
  refine or_congr ?_ (or_congr ?_ ?_)
  · constructor
    · rintro ⟨n, hn, h⟩
      obtain ⟨g, hg, rfl⟩ := List.mem_map.mp h
      exact ⟨n, hn, g, hg, rfl⟩
    · rintro ⟨n, hn, g, hg, rfl⟩
      exact ⟨n, hn, List.mem_map.mpr ⟨g, hg, rfl⟩⟩
  · by_cases c : ("loads" : Str) ∈ os
    · rw [if_pos c]
      constructor
      · intro h
        obtain ⟨q, hq, rfl⟩ := List.mem_map.mp h
        obtain ⟨h1, h2⟩ := List.mem_filter.mp hq
        unfold loadsB at h2
        exact ⟨c, q, h1, of_decide_eq_true h2, rfl⟩
      · rintro ⟨_, q, h1, h2, rfl⟩
        refine List.mem_map.mpr ⟨q, List.mem_filter.mpr ⟨h1, ?_⟩, rfl⟩
        unfold loadsB
        exact decide_eq_true h2
    · rw [if_neg c]
      exact ⟨fun z => absurd z List.not_mem_nil, fun z => absurd z.1 c⟩
  · by_cases c : (l.1 = "open" ∨ l.1 = "needs") ∧ waitsT P os l.2 = true
    · rw [if_pos c]
      constructor
      · intro h
        obtain ⟨a, ha, rfl⟩ := List.mem_map.mp h
        obtain ⟨h1, h2⟩ := List.mem_filter.mp ha
        exact ⟨c.1, c.2, a, h1, of_decide_eq_true h2, rfl⟩
      · rintro ⟨_, _, a, h1, h2, rfl⟩
        exact List.mem_map.mpr ⟨a, List.mem_filter.mpr ⟨h1, decide_eq_true h2⟩, rfl⟩
    · rw [if_neg c]
      exact ⟨fun z => absurd z List.not_mem_nil, fun z => absurd ⟨z.1, z.2.1⟩ c⟩
/-- fewer options ask for more -/
theorem asks_more (sub : ∀ w ∈ ss, w ∈ os) {r : Row} {q : Nat × Nat} {w : Str} (h : w ∈ asksT os lk r q) : w ∈ asksT ss lk r q := by
  unfold asksT at h ⊢
  rw [List.mem_append, List.mem_append] at h ⊢
  refine h.imp id (Or.imp (fun z => ?_) fun z => ?_)
  · by_cases c : riskB r = true ∧ ("risks" : Str) ∉ os
    · rw [if_pos c] at z
      rw [if_pos ⟨c.1, fun y => c.2 (sub _ y)⟩]
      exact z
    · rw [if_neg c] at z
      exact absurd z List.not_mem_nil
  · by_cases c : q ∈ lk ∧ ("lookups" : Str) ∉ os
    · rw [if_pos c] at z
      rw [if_pos ⟨c.1, fun y => c.2 (sub _ y)⟩]
      exact z
    · rw [if_neg c] at z
      exact absurd z List.not_mem_nil
theorem waits_more (sub : ∀ w ∈ ss, w ∈ os) {q : Nat × Nat} (h : waitsT P ss q = true) : waitsT P os q = true := by
  unfold waitsT at h ⊢
  rw [Bool.and_eq_true, decide_eq_true_eq] at h ⊢
  exact ⟨sub _ h.1, h.2⟩
/-- what more options keep, fewer keep, too -/
theorem kept_more (sub : ∀ w ∈ ss, w ∈ os) {l : Ln} (h : Kept P os lk l) : (∃ w, Kept P ss lk (w, l.2)) ∧ ((l.1 = "open" ∨ l.1 = "needs") → ∃ w : Str, (w = "open" ∨ w = "needs") ∧ Kept P ss lk (w, l.2)) := by
  have ask : ∀ a : Ln, a ∈ askedT P os lk → waitsT P ss a.2 = false → Kept P ss lk a := fun a ha hw =>
    .first (mem_first.mpr (.inl ⟨mem_asked.mpr ⟨(mem_asked.mp ha).1, asks_more sub (mem_asked.mp ha).2⟩, hw⟩))
  have no : ¬ (("loads" : Str) = "open" ∨ ("loads" : Str) = "needs") ∧ ¬ (("marked" : Str) = "open" ∨ ("marked" : Str) = "needs") := by decide +kernel
  have noAsk : ∀ w ∈ ([("shows" : Str), "risks", "lacks"] : List Str), ¬ (w = "open" ∨ w = "needs") := by decide +kernel
  have words : ∀ {a : Ln}, a ∈ askedT P os lk → a.1 ∈ ([("shows" : Str), "risks", "lacks"] : List Str) := fun {a} ha => by
    have z := (mem_asked.mp ha).2
    unfold asksT at z
    rw [List.mem_append, List.mem_append] at z
    rcases z with z | z | z
    all_goals
      split at z
      · rw [List.mem_singleton.mp z]
        simp
      · exact absurd z List.not_mem_nil
  induction h with
  | @first l hl =>
    rcases mem_first.mp hl with ⟨ha, hw⟩ | ⟨n, hn, g, hg, rfl⟩ | ⟨c, q, hq, hs, rfl⟩
    · have hw2 : waitsT P ss l.2 = false := by
        cases e : waitsT P ss l.2 with
        | false => rfl
        | true => rw [waits_more sub e] at hw; cases hw
      exact ⟨⟨l.1, ask l ha hw2⟩, fun z => absurd z (noAsk _ (words ha))⟩
    · have k : Kept P ss lk (("open" : Str), g) := .first (mem_first.mpr (.inr (.inl ⟨n, hn, g, hg, rfl⟩)))
      exact ⟨⟨_, k⟩, fun _ => ⟨_, .inl rfl, k⟩⟩
    · have k : Kept P ss lk (("loads" : Str), q) := .first (mem_first.mpr (.inr (.inr ⟨fun z => c (sub _ z), q, hq, hs, rfl⟩)))
      exact ⟨⟨_, k⟩, fun z => absurd z no.1⟩
  | @next l m _ hm ih =>
    obtain ⟨⟨w0, k0⟩, ih2⟩ := ih
    rcases mem_next.mp hm with ⟨n, hn, g, hg, rfl⟩ | ⟨c, q, hq, hs, rfl⟩ | ⟨ho, hw, a, ha, e, rfl⟩
    · have k : Kept P ss lk (("needs" : Str), g) := .next k0 (mem_next.mpr (.inl ⟨n, hn, g, hg, rfl⟩))
      exact ⟨⟨_, k⟩, fun _ => ⟨_, .inr rfl, k⟩⟩
    · refine ⟨⟨"loads", ?_⟩, fun z => absurd z no.1⟩
      by_cases cs : ("loads" : Str) ∈ ss
      · exact .next k0 (mem_next.mpr (.inr (.inl ⟨cs, q, hq, hs, rfl⟩)))
      · obtain ⟨n, en, _⟩ := hs
        exact .first (mem_first.mpr (.inr (.inr ⟨cs, q, hq, by rw [en]; rfl, rfl⟩)))
    · refine ⟨?_, fun z => absurd z no.2⟩
      cases ew : waitsT P ss a.2 with
      | false => exact ⟨a.1, ask a ha ew⟩
      | true =>
        obtain ⟨w, hw1, kw⟩ := ih2 ho
        have same : waitsT P ss l.2 = true := by
          unfold waitsT at ew ⊢
          rw [← e]
          exact ew
        have ha2 : a ∈ askedT P ss lk := mem_asked.mpr ⟨(mem_asked.mp ha).1, asks_more sub (mem_asked.mp ha).2⟩
        exact ⟨"marked", .next kw (mem_next.mpr (.inr (.inr ⟨hw1, same, a, ha2, e, rfl⟩)))⟩
theorem kept_loads (c : ("loads" : Str) ∉ os) {q : Nat × Nat} (hq : q ∈ placesP P P.parts.length) (hn : (namedOf (rowP P q)).isSome = true) : Kept P os lk (("loads" : Str), q) :=
  .first (mem_first.mpr (.inr (.inr ⟨c, q, hq, hn, rfl⟩)))
theorem giver_place {part : Nat} {s : Str} {g : Nat × Nat} (h : g ∈ giversP P part s) : g ∈ placesP P P.parts.length ∧ givesB (rowP P g) s = true := by
  obtain ⟨_, r, hr, hg⟩ := giversP_mem h
  have lt := (List.getElem?_eq_some_iff.mp hr).1
  have e : rowP P g = r := by
    unfold rowP
    rw [List.getD_eq_getElem?_getD, hr]
    rfl
  refine ⟨?_, by rw [e]; exact hg⟩
  obtain ⟨a, b⟩ := g
  refine placesP_mem.mpr ⟨?_, lt⟩
  rcases Nat.lt_or_ge a P.parts.length with z | z
  · exact z
  · have : rowsOfP P a = [] := by
      unfold rowsOfP
      rw [List.getD_eq_getElem?_getD, List.getElem?_eq_none z]
      rfl
    have lt : b < (rowsOfP P a).length := lt
    rw [this] at lt
    exact absurd lt (Nat.not_lt_zero _)
theorem kept_place {l : Ln} (h : Kept P os lk l) : l.2 ∈ placesP P P.parts.length := by
  cases h with
  | first hl =>
    rcases mem_first.mp hl with ⟨ha, _⟩ | ⟨n, _, g, hg, rfl⟩ | ⟨_, q, hq, _, rfl⟩
    · exact (mem_asked.mp ha).1
    · exact (giver_place hg).1
    · exact hq
  | next _ hm =>
    rcases mem_next.mp hm with ⟨n, _, g, hg, rfl⟩ | ⟨_, q, hq, _, rfl⟩ | ⟨_, _, a, ha, _, rfl⟩
    · exact (giver_place hg).1
    · exact hq
    · exact (mem_asked.mp ha).1
theorem kept_empty (cl : ("loads" : Str) ∈ os) (hlk : ∀ q ∈ lk, (rowP P q).word = ("give" : Str)) {q : Nat × Nat} {k : Int} (hr : rowP P q = .load k) (he : rowsOfP P k.toNat = []) (w : Str) : ¬ Kept P os lk (w, q) := by
  have none_ : ∀ x, x ∉ asksT os lk (rowP P q) q := fun x hx => by
    unfold asksT at hx
    rw [hr, List.mem_append, List.mem_append] at hx
    rcases hx with z | z | z
    · rw [if_neg (by show ¬ (("load" : Str) = "show" ∨ ("load" : Str) = "out"); decide +kernel)] at z
      exact absurd z List.not_mem_nil
    · rw [if_neg (fun c => (nomatch (show (false : Bool) = true from c.1)))] at z
      exact absurd z List.not_mem_nil
    · rw [if_neg (fun c => by
        have y := hlk q c.1
        rw [hr] at y
        exact absurd (show ("load" : Str) = "give" from y) (by decide +kernel))] at z
      exact absurd z List.not_mem_nil
  have noG : ∀ {part : Nat} {s : Str}, q ∉ giversP P part s := fun {part s} h => by
    have z := (giver_place h).2
    rw [hr] at z
    cases z
  have noR : ∀ x, ¬ Reach (linksL P) k.toNat x := fun x h => by
    have none1 : ∀ y, y ∉ at_ (linksL P) k.toNat := fun y hy => by
      obtain ⟨i, r, hi, hri, _⟩ := at_names hy
      rw [he] at hi
      exact absurd hi (Nat.not_lt_zero _)
    induction h with
    | one h => exact none1 _ h
    | more _ _ ih => exact ih
  intro h
  cases h with
  | first hl =>
    rcases mem_first.mp hl with ⟨ha, _⟩ | ⟨n, _, g, hg, e⟩ | ⟨c, _⟩
    · exact none_ _ (mem_asked.mp ha).2
    · rw [← (Prod.mk.inj e).2] at hg
      exact noG hg
    · exact c cl
  | @next l _ hk hm =>
    rcases mem_next.mp hm with ⟨n, _, g, hg, e⟩ | ⟨_, p, _, hs, e⟩ | ⟨_, _, a, ha, _, e⟩
    · rw [← (Prod.mk.inj e).2] at hg
      exact noG hg
    · rw [← (Prod.mk.inj e).2, hr] at hs
      obtain ⟨n, en, z⟩ := hs
      have en : some k.toNat = some n := en
      obtain rfl := Option.some.inj en
      rcases z with z | z
      · have y := kept_place hk
        obtain ⟨a, i, j⟩ := l
        have y2 := (placesP_mem.mp y).2
        rw [show i = k.toNat from z.symm, he] at y2
        exact absurd y2 (Nat.not_lt_zero _)
      · exact noR _ z
    · have y := (mem_asked.mp ha).2
      rw [← (Prod.mk.inj e).2] at y
      exact none_ _ y
end
end Lb

set_option Elab.async false
set_option linter.all false
set_option maxRecDepth 100000
set_option maxHeartbeats 4000000
/-! len(set(xs)) of lists of tuples of numbers and of tuples of numbers; t[::-1] of a tuple -/
namespace SL
open PySem PySem.Spec PyProof.Rows L2
section
variable {X : Cx}
/-- len(set(xs)), xs a list of tuples of numbers -/
def tLenSetT (K : PySem.W.Frag) (ta : TE) : TE := fun σ H Q => ta σ H fun x H1 => ∃ (l : Addr) (ks : List (Addr × List Int)), x = V.ref l ∧ SqL K H1 l (ks.map fun p => V.ref p.1) ∧ (∀ p ∈ ks, SqT K H1 p.1 (p.2.map V.int)) ∧ ks.length < 64 ∧
  ∀ L : List (Addr × List Int), (L.map (·.2)).Nodup → (∀ p ∈ L, p ∈ ks) → (∀ p ∈ ks, p.2 ∈ L.map (·.2)) → Q (.int (L.length : Nat)) H1
theorem pe_lenSetT {a : Expr} {ta : TE} {p p2 q pos : Pos} (hc : X.calm = true) (hu : X.A.units + 64 < cLine) (hg : Gl X "len") (hm : X.mg "len" = none) (hg2 : Gl X "set") (hm2 : X.mg "set" = none) (ha : PE X a ta)
    (na : starEach [a] X.env = (false, eval a X.env) :: starEach [] X.env := by rfl) : PE X (.Call (.Name "len" p) [.Call (.Name "set" p2) [a] [] q] [] pos) (tLenSetT X.K ta) := by
  refine ⟨fun pins s σ H Q I h => ?_⟩
  refine Call_ (ld_blt I hg hm PySem.boot_len ?_)
  refine PyProof.Rows.callWith_builtin1 (PyProof.Rows.args_cons ?_ rfl) rfl rfl
  refine Call_ (ld_blt I hg2 hm2 PyProof.Rows.boot_set ?_)
  refine PyProof.Rows.callWith_type1 (PyProof.Rows.args_cons (thn (ha.run pins s σ H _ I h) fun v s1 ⟨x, H1, I1, r1, q1⟩ => PyProof.Rows.args_nil ?_) na) na rfl
  obtain ⟨l, ks, rfl, hq, hk, hf, q1⟩ := q1
  cases r1
  obtain ⟨its, r, pl, hz⟩ := I1.list hq
  refine call_set_tups (P := X.prog) (w := X.w) ks (I1.ok.hd hc) pl.isList (by simpa using refs_of_vals r) (fun p hp => I1.isT (hk p hp)) hf (by omega) fun h' tk L es ep t R g k => ?_
  refine PyProof.Rows.args_nil ?_
  obtain ⟨o, ho, hex, hd⟩ := R.ob
  have sz : es.size = L.length := by
    have h := congrArg List.length R.rows
    unfold rowsOf at h
    rw [Array.length_toList, List.length_map] at h
    exact h
  have few := R.few
  have room := R.room
  have I2 : Inv X pins σ H1 { s1 with heap := h', toks := tk } := I1.kept fun b o e => k b o e
  have fits : t.fits es.size = true := SetTR.fits (s := { s1 with heap := h', toks := tk }) R
  refine call_len_set ho hex hd fits (by rw [sz] <;> omega) ⟨.int L.length, H1, I2.tok _, ⟨_, by rw [sz]⟩, q1 L R.nd (fun p hp => List.mem_of_mem_take (g.sub p hp)) fun p hp => g.all p (by rw [List.take_length]; exact hp)⟩
/-- len(set(t)), t a tuple of numbers -/
def tLenSetTI (K : PySem.W.Frag) (ta : TE) : TE := fun σ H Q => ta σ H fun x H1 => ∃ (l : Addr) (ns : List Int), x = V.ref l ∧ SqT K H1 l (ns.map V.int) ∧ ns.length < 60 ∧ ∀ L : List Int, L.Nodup → (∀ j, j ∈ L ↔ j ∈ ns) → Q (.int (L.length : Nat)) H1
theorem pe_lenSetTI {a : Expr} {ta : TE} {p p2 q pos : Pos} (hc : X.calm = true) (hg : Gl X "len") (hm : X.mg "len" = none) (hg2 : Gl X "set") (hm2 : X.mg "set" = none) (ha : PE X a ta)
    (na : starEach [a] X.env = (false, eval a X.env) :: starEach [] X.env := by rfl) : PE X (.Call (.Name "len" p) [.Call (.Name "set" p2) [a] [] q] [] pos) (tLenSetTI X.K ta) := by
  refine ⟨fun pins s σ H Q I h => ?_⟩
  refine Call_ (ld_blt I hg hm PySem.boot_len ?_)
  refine PyProof.Rows.callWith_builtin1 (PyProof.Rows.args_cons ?_ rfl) rfl rfl
  refine Call_ (ld_blt I hg2 hm2 PyProof.Rows.boot_set ?_)
  refine PyProof.Rows.callWith_type1 (PyProof.Rows.args_cons (thn (ha.run pins s σ H _ I h) fun v s1 ⟨x, H1, I1, r1, q1⟩ => PyProof.Rows.args_nil ?_) na) na rfl
  obtain ⟨l, ns, rfl, hq, hf, q1⟩ := q1
  cases r1
  obtain ⟨its, r, pl, hz⟩ := I1.tuple hq
  refine call_set_tupI (P := X.prog) (w := X.w) ns (I1.ok.hd hc) pl (by simpa using r.ints) (by unfold scanBound; omega) fun h' tk c S cn k => ?_
  refine PyProof.Rows.args_nil ?_
  obtain ⟨o, es, ep, t, ho, hex, hd, _, nd, mem, _, fits, sz, _⟩ := S
  have I2 : Inv X pins σ H1 { s1 with heap := h', toks := tk } := I1.kept fun b o e => k b o e
  have lz : (es.toList.map keyOf).length = es.size := by rw [List.length_map, Array.length_toList]
  have q2 := q1 (es.toList.map keyOf) nd (fun j => (mem j).symm.trans (by simp))
  rw [lz] at q2
  exact call_len_set ho hex hd fits (by omega) ⟨.int es.size, H1, I2.tok _, ⟨_, rfl⟩, q2⟩
end
end SL
namespace HT
open PySem PySem.Spec PyProof.Rows L2
section
variable {prog : Program} {w : World} {A : Around} {E : Value → Shared → Prop} {s : Shared}
theorem back_adjust (n : Nat) : Builtin.Slice.sliceAdjust none none (-1) (n : Int) = ((n : Int) - 1, -1) := by
  unfold Builtin.Slice.sliceAdjust
  simp
theorem back_places (n : Nat) : Builtin.Slice.slicePlaces ((n : Int) - 1) (-1) (-1) = n := by
  unfold Builtin.Slice.slicePlaces
  simp
  omega
theorem back_applied {sl : Addr} {vs : Value} {n : Nat} {Q : Int × Int × Nat → Shared → Prop} (hs : s.heap.IsSliceOf sl .none .none vs) (ps : IsPart vs (some (-1))) (h : Q ((n : Int) - 1, -1, n) s) : wpAny (model prog w) A (Builtin.Slice.sliceApplied (.ref sl) (pure (n : Int))) Q E s := by
  obtain ⟨os, hos, hcs, hds⟩ := id hs
  unfold Builtin.Slice.sliceApplied Builtin.Slice.sliceFields
  refine wpAny_bind (wpAny_bind (wpAny_field hos hds (x := .none) rfl (wpAny_bind (wpAny_field hos hds (x := .none) rfl (wpAny_bind (wpAny_field hos hds (x := vs) rfl (wpAny_pure ?_)))))))
  refine wpAny_bind (slicePart_ ps ?_)
  show wpAny _ _ (if ((-1 : Int) == 0) = true then _ else _) _ _ s
  rw [if_neg (by decide)]
  refine wpAny_bind (slicePart_ .none (wpAny_bind (slicePart_ .none (wpAny_bind (wpAny_pure ?_)))))
  show wpAny _ _ (match Builtin.Slice.sliceAdjust none none (-1) (n : Int) with | (lo, hi) => pure (lo, (-1 : Int), Builtin.Slice.slicePlaces lo hi (-1))) _ _ s
  rw [back_adjust]
  show wpAny _ _ (pure ((n : Int) - 1, (-1 : Int), Builtin.Slice.slicePlaces ((n : Int) - 1) (-1) (-1))) _ _ s
  rw [back_places]
  exact wpAny_pure h
theorem fm_congr {α β : Type} {f g : α → Option β} : ∀ {l : List α}, (∀ x ∈ l, f x = g x) → l.filterMap f = l.filterMap g
  | [], _ => rfl
  | x :: l, h => by
    rw [List.filterMap_cons, List.filterMap_cons, h x List.mem_cons_self, fm_congr fun y hy => h y (List.mem_cons_of_mem _ hy)]
theorem back_pick (xs : Array Value) : ((List.range xs.size).filterMap fun (m : Nat) => xs[(((xs.size : Nat) : Int) - 1 + (m : Int) * (-1)).toNat]?).toArray = xs.toList.reverse.toArray := by
  have h : ((List.range xs.size).map fun k => xs.size - 1 - k).filterMap (xs[·]?) = xs.toList.reverse := by
    rw [PySem.W.krv_range, List.filterMap_reverse, PySem.W.krv_all]
  rw [List.filterMap_map] at h
  have e : (List.range xs.size).filterMap (fun (m : Nat) => xs[(((xs.size : Nat) : Int) - 1 + (m : Int) * (-1)).toNat]?) = (List.range xs.size).filterMap ((xs[·]?) ∘ fun k => xs.size - 1 - k) := by
    apply fm_congr
    intro k hk
    have lt := List.mem_range.mp hk
    have e2 : (((xs.size : Nat) : Int) - 1 + (k : Int) * (-1)).toNat = xs.size - 1 - k := by omega
    rw [e2]
    rfl
  rw [e, h]
theorem getItem_tuple_back {t sl : Addr} {items : Array Value} {vs : Value} {Q : Value → Shared → Prop} (ht : IsTup s.heap t items) (hs : s.heap.IsSliceOf sl .none .none vs) (ps : IsPart vs (some (-1)))
    (h : Q (.ref s.heap.objs.size) { s with heap := s.heap.push { cls := .type "tuple", data := .seq items.toList.reverse.toArray } })
    (hsz : items.size ≤ sizeLine) : wpAny (model prog w) A (getItem (.ref t) (.ref sl)) Q E s := by
  have htake : sizeOk (.seq items.toList.reverse.toArray) := by
    show items.toList.reverse.toArray.size ≤ sizeLine
    rw [List.size_toArray, List.length_reverse, Array.length_toList]
    exact hsz
  obtain ⟨os, hos, hcs, hds⟩ := id hs
  have hTs : s.TypeIs (.ref sl) "slice" := ⟨os, hos, hcs⟩
  unfold getItem
  try with_reducible refine wpAny_holding ?_
  first | refine wpAny_bind (wpAny_pure ?_) | skip
  refine wpAny_bind (wpAny_sequenceKey ht.typeIs (by decide) ?_)
  refine wpAny_bind (wpAny_callSpecial?_slot (name := Str.ofString "__getitem__") ht.typeIs PyProof.Rows.slot_tuple_getitem
    (wpAny_call_entry PyProof.Rows.slot_tuple_getitem ht.typeIs entry_tuple_getitem ?_ (args_tuple_getitem _ _)))
  show wpAny _ _ (Builtin.Tuple.tupleItemsOf (.ref t) >>= _) _ _ s
  refine wpAny_bind (tupleItemsOf_ ht ?_)
  refine wpAny_bind (wpAny_typeOf hTs ?_)
  rw [if_pos (by decide)]
  refine wpAny_bind (back_applied hs ps ?_)
  have hno : ¬ ((((items.size : Nat) : Int) - 1 == 0 && (-1 : Int) == 1 && items.size == items.size) = true) := by
    intro q
    rw [Bool.and_eq_true, Bool.and_eq_true] at q
    exact absurd q.1.2 (by decide)
  show wpAny _ _ (if (((items.size : Nat) : Int) - 1 == 0 && (-1 : Int) == 1 && items.size == items.size) = true then _ else _) _ _ s
  rw [if_neg hno, back_pick]
  first
    | exact wpAny_bind (m := Builtin.Tuple.tupleExact _) (wpAny_newObj_type (wpAny_pure ⟨_, rfl, wpAny_pure h⟩) htake)
    | exact wpAny_bind (m := Builtin.Tuple.tupleExact _) (wpAny_newObj_type (wpAny_bind (wpAny_pure (wpAny_pure ⟨_, rfl, wpAny_pure h⟩))) htake)
end
end HT
namespace SL
open PySem PySem.Spec PyProof.Rows L2
/-- t[::-1], t a tuple: a new tuple -/
def tRevT (K : PySem.W.Frag) (te : TE) : TE := fun σ H Q => te σ H fun x H1 => ∃ a xs, x = .ref a ∧ SqT K H1 a xs ∧ ∀ p, H1 p = none → Q (.ref p) (upd H1 p (.tup xs.reverse))
section
variable {X : Cx}
theorem pe_revT {e : Expr} {te : TE} {k : Nat} {p1 p2 p3 pos : Pos} (he : PE X e te) : PE X (.Subscript e (.Slice none none (some (.UnaryOp .USub (.Constant (.int 1) k p1) p2)) p3) pos) (tRevT X.K te) := by
  refine ⟨fun pins s σ H Q I h => ?_⟩
  refine Subscript_ (thn (he.run pins s σ H _ I h) fun v s1 ⟨x, H1, I1, r1, q1⟩ => ?_)
  obtain ⟨a, xs, ex, hx, q⟩ := q1
  subst ex
  cases r1
  have hst : PO X (some (.UnaryOp .USub (.Constant (.int 1) k p1) p2)) (tPart (tUn (rU fun i => .int (-i)) (tC (.int 1)))) := po_some (pe_un un_neg pe_int)
  refine wpAny_Slice (thn (po_none.run pins s1 σ H1 (fun o H2 => o = none ∧ H2 = H1) I1 ⟨rfl, rfl⟩) fun vl s2 ⟨l, H2, I2, pl, el, e2⟩ => ?_)
  subst el e2
  refine thn (po_none.run pins s2 σ H2 (fun o H3 => o = none ∧ H3 = H2) I2 ⟨rfl, rfl⟩) fun vu s3 ⟨u, H3, I3, pu, eu, e3⟩ => ?_
  subst eu e3
  refine thn (hst.run pins s3 σ H3 (fun o H4 => o = some (-1) ∧ H4 = H3) I3 ⟨1, rfl, -1, rfl, rfl, rfl⟩) fun vs s4 ⟨o, H4, I4, ps, eo, e4⟩ => ?_
  subst eo e4
  have I5 : Inv X pins σ H4 { s4 with heap := s4.heap.push { cls := .type "slice", data := .fields #[vl, vu, vs] } } := I4.kept (t' := s4.toks) fun b ob q => Heap.get?_push_of_some _ q
  obtain ⟨its, r, ht, hz⟩ := I5.tuple hx
  have hlen := r.length
  show wpAny (model X.prog X.w) X.A (subscriptTail e (.Slice none none (some (.UnaryOp .USub (.Constant (.int 1) k p1) p2)) p3) (.ref a) (.ref s4.heap.objs.size)) (EP X pins σ Q) X.xe { s4 with heap := s4.heap.push { cls := .type "slice", data := .fields #[vl, vu, vs] } }
  refine tail_any (ops := [.ref a, .ref s4.heap.objs.size]) ht.typeIs PyProof.Rows.slot_tuple_getitem.lookup ?_ (by with_unfolding_all rfl)
  cases pl
  cases pu
  refine HT.getItem_tuple_back ht (Heap.IsSliceOf.new _ .none .none vs) ps ?_ (by rw [List.size_toArray]; omega)
  refine ⟨.ref _, _, I5.laid (t' := s4.toks) (o := .tup xs.reverse) (fun b ob q => Heap.get?_push_of_some _ q) (Nat.le_refl _) ?_, rfl, q _ (I5.hok.fresh (Nat.le_refl _))⟩
  exact ⟨by rw [List.length_reverse]; exact hz, its.reverse, r.reverse, IsTup.new _ _⟩
end
end SL

set_option Elab.async false
set_option linter.all false
set_option maxRecDepth 100000
set_option maxHeartbeats 4000000
/-! zip of a tuple and a list -/
namespace ZL
open PySem PySem.Spec PyProof.Rows L2
/-- the tuple at a and the list at b, in new pairs -/
def ItzM (K : PySem.W.Frag) (a b : Addr) : It where
  go := fun i H => ∃ (xs ys : List V) (x y : V), SqT K H a xs ∧ SqL K H b ys ∧ xs[i]? = some x ∧ ys[i]? = some y
  yld := fun i H v H' => ∃ T x y, v = .ref T ∧ H T = none ∧ H' = upd H T (.tup [x, y]) ∧ (∀ xs, SqT K H a xs → xs[i]? = some x) ∧ ∀ ys, SqL K H b ys → ys[i]? = some y
  stop := fun i H => ∃ xs ys : List V, SqT K H a xs ∧ SqL K H b ys ∧ i ≤ xs.length ∧ i ≤ ys.length ∧ (i = xs.length ∨ i = ys.length)
theorem sepM {a b z TI TO i1 i2 : Addr} (D : ZipApart z TI TO i1 i2 a b) : ZipSep2 z TI TO i1 i2 [i1, a] [i2, b] where
  TIz := D.TIz
  TOz := D.TOz
  TITO := D.TITO
  TIi1 := D.TIi1
  mem1 := List.mem_cons_self
  zf1 := by simp [D.i1z.symm, D.l1z.symm]
  Tf1 := by simp [D.TOi1, D.l1TO.symm]
  TIi2 := D.TIi2
  mem2 := List.mem_cons_self
  zf2 := by simp [D.i2z.symm, D.l2z.symm]
  Tf2 := by simp [D.TOi2, D.l2TO.symm]
  sep1_2 := by simp [D.i12, D.l2i1.symm]
  sep2_1 := by simp [D.i12.symm, D.l1i2.symm]
def ZSt (z TI TO i1 i2 a b : Addr) (i : Nat) (h : Heap) : Prop := IsZip h z TI TO .none ∧ IsPair h TI (.ref i1) (.ref i2) ∧ (∃ x y, IsPair h TO x y) ∧ h.IsTupleIter i1 a i ∧ h.IsListIter i2 b i
theorem five {z TI TO i1 i2 c : Addr} (h : c ∈ [z, TI, TO, i1, i2]) : c = z ∨ c = TI ∨ c = TO ∨ c = i1 ∨ c = i2 := by simpa using h
theorem turnM {P : Program} {w : World} {K : PySem.W.Frag} {elts : List Expr} {kk : Nat} {tpos : Pos} {a b z TI TO i1 i2 : Addr} (D : ZipApart z TI TO i1 i2 a b) :
    Turn P w K (.Tuple elts kk tpos) (ItzM K a b) [z, TI, TO, i1, i2] z (ZSt z TI TO i1 i2 a b) where
  mem := List.mem_cons_self
  obj := fun i h st c hc => by
    have ⟨hz, hTI, ⟨x, y, hTO⟩, ⟨o1, e1, _, d1⟩, ⟨o2, e2, _, d2⟩⟩ := st
    rcases five hc with q | q | q | q | q <;> subst q
    · exact ⟨_, hz, fun v q => nomatch q⟩
    · exact ⟨_, hTI, fun v q => nomatch q⟩
    · exact ⟨_, hTO, fun v q => nomatch q⟩
    · exact ⟨o1, e1, fun v q => by rw [d1] at q; exact nomatch q⟩
    · exact ⟨o2, e2, fun v q => by rw [d2] at q; exact nomatch q⟩
  keep := fun i h h' st k => by
    have ⟨hz, hTI, ⟨x, y, hTO⟩, h1, h2⟩ := st
    exact ⟨k _ (by simp) _ hz, k _ (by simp) _ hTI, ⟨x, y, k _ (by simp) _ hTO⟩, h1.at fun o q => k _ (by simp) o q, h2.at fun o q => k _ (by simp) o q⟩
  item := by
    intro X hP hw hK hc i pins s σ H E I hf st hg
    subst hP hw hK
    have ⟨hz, hTI, ⟨x0, y0, hTO⟩, h1, h2⟩ := st
    have ⟨xs, ys, x, y, hqx, hqy, hx, hy⟩ := hg
    have ⟨its, rv, p, _⟩ := I.tuple hqx
    have ⟨its2, rv2, p2, _⟩ := I.list hqy
    have ⟨u, hu, ru⟩ := rv.get hx
    have ⟨u2, hu2, ru2⟩ := rv2.get hy
    have hh := I.ok.hd hc
    have lt1 : i < its.toArray.size := by
      rw [List.size_toArray]
      exact (List.getElem?_eq_some_iff.mp hu).1
    have lt2 : i < its2.toArray.size := by
      rw [List.size_toArray]
      exact (List.getElem?_eq_some_iff.mp hu2).1
    refine wpAny_pyNext_zipD2_item (sepM D) (Draws.tuple (A := X.A.in1) hh i1 a D.l1i1 its.toArray) (Draws.list (A := X.A.in1) hh i2 b D.l2i2 its2.toArray) hz hTI hTO ⟨h1, p⟩ ⟨h2, p2.isList⟩ lt1 lt2 fun x1 x2 h' tk e1 e2 z' TO' st1 st2 hT hsz hk => ?_
    obtain rfl : u = x1 := by
      have e : its.toArray[i]? = some x1 := e1
      rw [List.getElem?_toArray, hu] at e
      exact Option.some.inj e
    obtain rfl : u2 = x2 := by
      have e : its2.toArray[i]? = some x2 := e2
      rw [List.getElem?_toArray, hu2] at e
      exact Option.some.inj e
    refine ⟨_, rfl, wpAny_letOwnedTupleGo_zip (s := { s with heap := h', toks := tk }) z' fun h'' z'' sb => ?_⟩
    have ge : ∀ {c o}, s.heap.get? c = some o → s.heap.objs.size ≠ c := fun e => Nat.ne_of_gt (Heap.lt_size e)
    have hT2 : h''.get? s.heap.objs.size = some { cls := .type "tuple", data := .seq #[u, u2] } := (sb.2 _ (ge hz)).trans hT
    have new : ObjOk X.prog X.w (upd H s.heap.objs.size (.tup [x, y])) h'' s.heap.objs.size (.tup [x, y]) :=
      ⟨by show 2 ≤ sizeLine; decide, [u, u2], .cons ru (.cons ru2 .nil), ⟨_, hT2, rfl, _, rfl⟩⟩
    have old : ∀ c o, c ∉ [z, TI, TO, i1, i2] → s.heap.get? c = some o → h''.get? c = some o := fun c o hb q => by
      have n : c ≠ z ∧ c ≠ TI ∧ c ≠ TO ∧ c ≠ i1 ∧ c ≠ i2 := by simpa using hb
      exact (sb.2 c n.1).trans (hk c o n.1 n.2.2.1 n.2.2.2.1 n.2.2.2.2 q)
    have I1 : Inv X pins σ (upd H s.heap.objs.size (.tup [x, y])) { s with heap := h'', toks := tk } := I.turnedNew (t' := tk) (ch := [z, TI, TO, i1, i2]) old hf (Nat.le_refl _) new
    refine ⟨.ref s.heap.objs.size, _, I1, rfl, ⟨_, x, y, rfl, I.hok.fresh (Nat.le_refl _), rfl, fun l hl => by rw [I.tuple_inj hl hqx]; exact hx, fun l hl => by rw [I.list_inj hl hqy]; exact hy⟩, ⟨z'', (sb.2 _ D.TIz).trans (hk _ _ D.TIz D.TITO D.TIi1 D.TIi2 hTI), ⟨u, u2, (sb.2 _ D.TOz).trans TO'⟩, st1.1.at fun o q => (sb.2 _ D.i1z).trans q, st2.1.at fun o q => (sb.2 _ D.i2z).trans q⟩, fun c hcm => ?_⟩
    have hlt : s.heap.objs.size ≠ c := by
      rcases five hcm with q | q | q | q | q <;> subst q
      · exact ge hz
      · exact ge hTI
      · exact ge hTO
      · obtain ⟨_, e1, _⟩ := h1
        exact ge e1
      · obtain ⟨_, e2, _⟩ := h2
        exact ge e2
    rw [upd_ne hlt.symm]
    exact (hf c hcm).1
  done := by
    intro X hP hw hK hc i pins s σ H E I hf st hg
    subst hP hw hK
    have ⟨hz, hTI, ⟨x0, y0, hTO⟩, h1, h2⟩ := st
    have ⟨xs, ys, hqx, hqy, le1, le2, hend⟩ := hg
    have ⟨its, rv, p, _⟩ := I.tuple hqx
    have ⟨its2, rv2, p2, _⟩ := I.list hqy
    have n1 : its.toArray.size = xs.length := by rw [List.size_toArray]; exact rv.length.symm
    have n2 : its2.toArray.size = ys.length := by rw [List.size_toArray]; exact rv2.length.symm
    have hh := I.ok.hd hc
    refine wpAny_pyNext_zipD2_end (sepM D) (Draws.tuple (A := X.A.in1) hh i1 a D.l1i1 its.toArray) (Draws.list (A := X.A.in1) hh i2 b D.l2i2 its2.toArray) hz hTI hTO ⟨h1, p⟩ ⟨h2, p2.isList⟩ (by rw [n1]; exact le1) (by rw [n2]; exact le2) (by rw [n1, n2]; exact hend) fun h' tk hk => ?_
    refine ⟨rfl, I.turnedL (t' := tk) (ch := [z, TI, TO, i1, i2]) (fun c o hb q => ?_) hf⟩
    have n : c ≠ z ∧ c ≠ TI ∧ c ≠ TO ∧ c ≠ i1 ∧ c ≠ i2 := by simpa using hb
    exact hk c o n.1 n.2.2.1 n.2.2.2.1 n.2.2.2.2 q
  self := fun A i s Q E st h => wpAny_pyIter_zip st.1 h
/-! the call -/
def g1 (h : Heap) (a : Addr) : Heap := h.push { cls := .type "tuple_iterator", data := .fields #[.ref a, .int 0 0] }
def g2 (h : Heap) (a b : Addr) : Heap := (g1 h a).push { cls := .type "list_iterator", data := .fields #[.ref b, .int 0 0] }
def g3 (h : Heap) (a b : Addr) : Heap := (g2 h a b).push { cls := .type "tuple", data := .seq #[.ref h.objs.size, .ref (g1 h a).objs.size] }
def g4 (h : Heap) (a b : Addr) : Heap := (g3 h a b).push { cls := .type "tuple", data := .seq #[.none, .none] }
def g5 (h : Heap) (a b : Addr) : Heap := (g4 h a b).push { cls := .type "zip", data := .fields #[.none, .bool false, .bool false, .ref (g2 h a b).objs.size, .ref (g3 h a b).objs.size] }
theorem meetsM (a b : Addr) (xs ys : Array Value) :
    Meets (Builtin.«zip.__new__» ⟨[.type "zip", .ref a, .ref b], []⟩) (fun _ R s => s.heap.IsTuple a xs ∧ s.heap.IsList b ys ∧ R (.ok (.ret (.ref (g4 s.heap a b).objs.size))) { s with heap := g5 s.heap a b }) :=
  .of_wp fun prog w A R s h => by
    obtain ⟨hp, g, d, tk, os⟩ := s
    obtain ⟨hl1, hl2, h⟩ := h
    have hsub := sub_zip
    have hL1 : Heap.IsTuple (Shared.heap ⟨hp, g, d, tk, os⟩) a xs := hl1
    have hL2 : Heap.IsList (Shared.heap ⟨hp.push { cls := .type "tuple_iterator", data := .fields #[.ref a, .int 0 0] }, g, d, tk, os⟩) b ys := hl2.push _
    wp_walk using wpAny_pyIter_tuple hL1, wpAny_pyIter_list hL2
    exact ⟨_, rfl, h⟩
theorem push5 {h : Heap} {a b c : Addr} {o : Obj} (x : h.get? c = some o) : (g5 h a b).get? c = some o := Heap.get?_push_of_some _ (Heap.get?_push_of_some _ (Heap.get?_push_of_some _ (Heap.get?_push_of_some _ (Heap.get?_push_of_some _ x))))
section
variable {prog : Program} {w : World} {A : Around} {E : Value → Shared → Prop} {s : Shared}
theorem callM {a b : Addr} {xs ys : Array Value} {Q : Value → Shared → Prop} (hl1 : s.heap.IsTuple a xs) (hl2 : s.heap.IsList b ys)
    (h : ∀ h', ZSt (s.heap.objs.size + 4) (s.heap.objs.size + 2) (s.heap.objs.size + 3) s.heap.objs.size (s.heap.objs.size + 1) a b 0 h' →
      (∀ c o, s.heap.get? c = some o → h'.get? c = some o) → Q (.ref (s.heap.objs.size + 4)) { s with heap := h' }) :
    wpAny (model prog w) A (call (.type "zip") [.ref a, .ref b]) Q E s := by
  refine callType_new F.called_zip (by decide) (F.typeCall_zip_2 _ _) (F.newCall_zip_2 _ _) (fun obj => F.args_object_init_3 obj _ _) F.entry_zip_new (meetsM a b xs ys) ⟨hl1, hl2, ?_⟩
  have z1 : (g1 s.heap a).objs.size = s.heap.objs.size + 1 := Heap.size_push ..
  have z2 : (g2 s.heap a b).objs.size = s.heap.objs.size + 2 := by unfold g2; rw [Heap.size_push, z1]
  have z3 : (g3 s.heap a b).objs.size = s.heap.objs.size + 3 := by unfold g3; rw [Heap.size_push, z2]
  have z4 : (g4 s.heap a b).objs.size = s.heap.objs.size + 4 := by unfold g4; rw [Heap.size_push, z3]
  have a5 : (g5 s.heap a b).get? (g4 s.heap a b).objs.size = some _ := Heap.get?_push_size _ rfl
  have a4 : (g5 s.heap a b).get? (g3 s.heap a b).objs.size = some _ := Heap.get?_push_of_some _ (Heap.get?_push_size _ rfl)
  have a3 : (g5 s.heap a b).get? (g2 s.heap a b).objs.size = some _ := Heap.get?_push_of_some _ (Heap.get?_push_of_some _ (Heap.get?_push_size _ rfl))
  have a2 : (g5 s.heap a b).get? (g1 s.heap a).objs.size = some _ := Heap.get?_push_of_some _ (Heap.get?_push_of_some _ (Heap.get?_push_of_some _ (Heap.get?_push_size _ rfl)))
  have a1 : (g5 s.heap a b).get? s.heap.objs.size = some _ := Heap.get?_push_of_some _ (Heap.get?_push_of_some _ (Heap.get?_push_of_some _ (Heap.get?_push_of_some _ (Heap.get?_push_size _ rfl))))
  show _ ∧ _
  rw [z2, z3, z4] at a5
  rw [z1, z2] at a3
  rw [z3] at a4
  rw [z1] at a2
  rw [z4]
  exact ⟨⟨_, a5, rfl⟩, h _ ⟨a5, a3, ⟨_, _, a4⟩, ⟨_, a1, rfl, rfl⟩, ⟨_, a2, rfl, rfl⟩⟩ fun c o x => push5 x⟩
end
/-- zip(t, xs), t a tuple, xs a list -/
def iZipM (K : PySem.W.Frag) (ta : TA) : TI := fun σ H R => ta σ H fun vs H1 => ∃ a b xs ys, vs = [.ref a, .ref b] ∧ SqT K H1 a xs ∧ SqL K H1 b ys ∧ R (ItzM K a b) H1
theorem pi_zipM {X : Cx} {e e2 : Expr} {ta : TA} {p pos tpos : Pos} {elts : List Expr} {kk : Nat} (hg : Gl X "zip") (hm : X.mg "zip" = none) (ha : PA X [e, e2] ta)
    (hs : starEach [e, e2] X.env = (false, eval e X.env) :: starEach [e2] X.env := by rfl) (hpl : (backTo pos (starEach [e2] X.env)).any (·.1) = false := by rfl) :
    PI X (.Tuple elts kk tpos) (.Call (.Name "zip" p) [e, e2] [] pos) (iZipM X.K ta) := by
  refine ⟨fun pins s σ H R I h => ?_⟩
  refine Call_ (ld_blt I hg hm PyProof.Rows.boot_zip (PyProof.Rows.callWith_type1 (thn (ha.run pos pins s σ H _ I h) fun us s1 ⟨vs, H1, I1, r1, q1⟩ => ?_) hs hpl))
  obtain ⟨a, b, xs, ys, ex, hqx, hqy, q⟩ := q1
  subst ex
  cases r1 with
  | cons r rr =>
    cases rr with
    | cons r' rr =>
      cases rr
      cases r
      cases r'
      have fresh : ∀ c, c ∈ [s1.heap.objs.size + 4, s1.heap.objs.size + 2, s1.heap.objs.size + 3, s1.heap.objs.size, s1.heap.objs.size + 1] → FpOk X pins H1 c := fun c hcm => by
        have hle : s1.heap.objs.size ≤ c := by
          rcases five hcm with z | z | z | z | z <;> rw [z]
          · exact Nat.le_add_right _ _
          · exact Nat.le_add_right _ _
          · exact Nat.le_add_right _ _
          · exact Nat.le_refl _
          · exact Nat.le_add_right _ _
        exact I1.fpOk hle (I1.hok.fresh hle)
      obtain ⟨its, rv, p1, _⟩ := I1.tuple hqx
      obtain ⟨its2, rv2, p2, _⟩ := I1.list hqy
      obtain ⟨o1, ho1, _⟩ := id p1
      refine callM (show s1.heap.IsTuple a its.toArray from p1) p2.isList fun h' st hk => wpAny_pyIter_zip st.1 ?_
      have I2 : Inv X pins σ H1 { s1 with heap := h' } := I1.kept (t' := s1.toks) hk
      exact ⟨s1.heap.objs.size + 4, [s1.heap.objs.size + 4, s1.heap.objs.size + 2, s1.heap.objs.size + 3, s1.heap.objs.size, s1.heap.objs.size + 1], _, _, H1, rfl, I2, turnM (PySem.W.ktu_apart s1.heap.objs.size a b (Heap.lt_size ho1) p2.lt), st, fresh, q⟩
/-- its walk -/
theorem walkM {K : PySem.W.Frag} {a b : Addr} {xs ys : List V} {n : Nat} (hn : n = min xs.length ys.length) : Walk (ItzM K a b) n (fun H => SqT K H a xs ∧ SqL K H b ys) (YPair (fun i => xs[i]?) (fun i => ys[i]?)) := by
  subst hn
  refine ⟨fun i _ hi q => ?_, fun _ q => ⟨xs, ys, q.1, q.2, by omega, by omega, by omega⟩, fun i H v H' _ q y => ?_⟩
  · have c1 : i < xs.length := by omega
    have c2 : i < ys.length := by omega
    exact ⟨xs, ys, xs[i], ys[i], q.1, q.2, List.getElem?_eq_getElem c1, List.getElem?_eq_getElem c2⟩
  · obtain ⟨T, x, z, h1, h2, h3, h4, h5⟩ := y
    exact ⟨T, x, z, h1, h2, h3, h4 xs q.1, h5 ys q.2⟩
end ZL

set_option Elab.async false
set_option linter.all false
set_option maxRecDepth 100000
set_option maxHeartbeats 4000000
/-! layouts of a program, as data -/
namespace Lb
open PySem PySem.Spec PyProof.Rows L2
theorem card_iff {α : Type} [DecidableEq α] : ∀ {ns L : List α}, L.Nodup → (∀ j, j ∈ L ↔ j ∈ ns) → (L.length = ns.length ↔ ns.Nodup)
  | [], L, _, m => by
    have e : L = [] := List.eq_nil_iff_forall_not_mem.mpr fun x h => nomatch (m x).mp h
    rw [e]
    exact ⟨fun _ => .nil, fun _ => rfl⟩
  | y :: t, L, nd, m => by
    have yL : y ∈ L := (m y).mpr List.mem_cons_self
    have pos : 0 < L.length := List.length_pos_of_mem yL
    have le : (L.erase y).length = L.length - 1 := List.length_erase_of_mem yL
    by_cases yt : y ∈ t
    · constructor
      · intro e
        exfalso
        have few : ∀ {L M : List α}, L.Nodup → (∀ x ∈ L, x ∈ M) → L.length ≤ M.length := fun {L} => by
          induction L with
          | nil => intro M _ _; exact Nat.zero_le _
          | cons x L ih =>
            intro M nd h
            rw [List.nodup_cons] at nd
            have xm := h x List.mem_cons_self
            have z := ih (M := M.erase x) nd.2 fun z hz => (List.mem_erase_of_ne fun e => nd.1 (by rw [← e]; exact hz)).mpr (h z (List.mem_cons_of_mem _ hz))
            rw [List.length_erase_of_mem xm] at z
            have := List.length_pos_of_mem xm
            show L.length + 1 ≤ M.length
            omega
        have z := few nd (M := t) fun x hx => by
          rcases List.mem_cons.mp ((m x).mp hx) with q | q
          · rw [q]
            exact yt
          · exact q
        rw [e, List.length_cons] at z
        omega
      · intro h
        exact absurd yt (List.nodup_cons.mp h).1
    · have ih := card_iff (ns := t) (L := L.erase y) (nd.erase y) fun j => by
        rw [nd.mem_erase_iff]
        constructor
        · rintro ⟨ne, h⟩
          exact (List.mem_cons.mp ((m j).mp h)).resolve_left ne
        · intro h
          exact ⟨fun e => yt (by rw [← e]; exact h), (m j).mpr (List.mem_cons_of_mem _ h)⟩
      rw [List.nodup_cons, List.length_cons]
      constructor
      · intro e
        exact ⟨yt, ih.mp (by omega)⟩
      · intro h
        have := ih.mpr h.2
        omega
def plQ (x : PyData) : Nat × Nat := ((valI (nthD x 0)).toNat, (valI (nthD x 1)).toNat)
theorem plQ_pD (q : Nat × Nat) : plQ (pD q) = q := by
  show (((q.1 : Int).toNat), ((q.2 : Int).toNat)) = q
  rw [Int.toNat_natCast, Int.toNat_natCast]
theorem plQ_map (qs : List (Nat × Nat)) : (qs.map pD).map plQ = qs := by
  rw [List.map_map]
  have e : plQ ∘ pD = id := funext plQ_pD
  rw [e, List.map_id]
def packsB (P d : PyData) : Bool := tupB d 0 8 && ((itemsD d).all isTup && ((rowsOfD d).all (fun x => placeB P x) && decide ((rowsOfD d).map plQ).Nodup))
def laidB (d : PyData) (door many : Int) : Bool := tupB d 2 2 && (intB (nthD d 0) && (decide (valI (nthD d 0) = door) && (isTup (nthD d 1) && ((itemsD (nthD d 1)).all (fun x => numB x many) && decide ((itemsD (nthD d 1)).map valI).Nodup))))
def laidsB (d : PyData) (ns : List Int) (many : Int) : Bool := tupB d ns.length ns.length && ((List.range ns.length).map fun i => laidB ((itemsD d).getD i .none) (ns.getD i 0) many).all id
def layB (P : PyData) (ns : List Int) (d : PyData) : Bool := tupB d 2 2 && (packsB P (nthD d 0) && laidsB (nthD d 1) ns ((itemsD (nthD d 0)).length : Int))
theorem places_of {P : PyData} {l : List PyData} (h : l.all (fun x => placeB P x) = true) : l = (l.map plQ).map pD := by
  rw [List.map_map]
  conv => lhs; rw [← List.map_id l]
  apply List.map_congr_left
  intro x hx
  obtain ⟨i, j, rfl, _⟩ := placeB_iff.mp (List.all_eq_true.mp h x hx)
  show placeD i j = pD (plQ (pD (i, j)))
  rw [plQ_pD]
  rfl
/-- a drawn layout -/
structure Lay where
  packs : List (List (Nat × Nat))
  nums : List (Int × List Int)
def packD (qs : List (Nat × Nat)) : PyData := .tuple (qs.map pD)
def doorD (p : Int × List Int) : PyData := .tuple [.int p.1, .tuple (p.2.map .int)]
def Lay.d (L : Lay) : PyData := .tuple [.tuple (L.packs.map packD), .tuple (L.nums.map doorD)]
structure Lay.Ok (P : PyData) (ns : List Int) (L : Lay) : Prop where
  eight : L.packs.length ≤ 8
  once : L.packs.flatten.Nodup
  places : ∀ q ∈ L.packs.flatten, q ∈ pairsOf P
  doors : L.nums.map Prod.fst = ns
  nums : ∀ p ∈ L.nums, p.2.Nodup ∧ ∀ k ∈ p.2, 0 ≤ k ∧ k < (L.packs.length : Int)
theorem rows_packs (ps : List (List (Nat × Nat))) : rowsOfD (.tuple (ps.map packD)) = ps.flatten.map pD := by
  show (ps.map packD).flatMap itemsD = _
  rw [List.flatMap_map, List.map_flatten, List.flatMap_def]
  rfl
theorem packs_ok {P : PyData} {ps : List (List (Nat × Nat))} {qs : List PyData} (hP : nthD P 0 = .tuple qs) (h8 : ps.length ≤ 8) (nd : ps.flatten.Nodup) (pl : ∀ q ∈ ps.flatten, q ∈ pairsOf P) : packsB P (.tuple (ps.map packD)) = true := by
  unfold packsB
  rw [rows_packs, plQ_map, decide_eq_true nd]
  have e : pairsOf P = pairsTo qs qs.length := by unfold pairsOf; rw [hP]; rfl
  rw [place_all hP (fun q hq => by rw [← e]; exact pl q hq), tupB_ok (by omega) (by rw [List.length_map]; omega)]
  have z : (itemsD (.tuple (ps.map packD))).all isTup = true := by
    rw [List.all_eq_true]
    intro x hx
    obtain ⟨q, _, rfl⟩ := List.mem_map.mp hx
    rfl
  rw [z]
  rfl
theorem laid_ok {door many : Int} {ks : List Int} (nd : ks.Nodup) (h : ∀ k ∈ ks, 0 ≤ k ∧ k < many) : laidB (doorD (door, ks)) door many = true := by
  unfold laidB doorD
  have e1 : (itemsD (nthD (PyData.tuple [.int door, .tuple (ks.map .int)]) 1)).map valI = ks := by
    show (ks.map PyData.int).map valI = ks
    rw [List.map_map]
    have e : valI ∘ PyData.int = id := funext fun _ => rfl
    rw [e, List.map_id]
  rw [e1, decide_eq_true nd]
  have e2 : (itemsD (nthD (PyData.tuple [.int door, .tuple (ks.map .int)]) 1)).all (fun x => numB x many) = true := by
    show (ks.map PyData.int).all (fun x => numB x many) = true
    rw [List.all_map, List.all_eq_true]
    intro k hk
    exact numB_ok (h k hk).1 (h k hk).2
  rw [e2]
  show (true && (true && (decide (door = door) && (true && (true && true))))) = true
  rw [decide_eq_true rfl]
  rfl
theorem laids_ok {ns : List Int} {many : Int} {l : List (Int × List Int)} (hf : l.map Prod.fst = ns) (h : ∀ p ∈ l, p.2.Nodup ∧ ∀ k ∈ p.2, 0 ≤ k ∧ k < many) : laidsB (.tuple (l.map doorD)) ns many = true := by
  unfold laidsB
  have ln : l.length = ns.length := by rw [← hf, List.length_map]
  rw [tupB_ok (by rw [List.length_map, ln]; exact Int.le_refl _) (by rw [List.length_map, ln]; exact Int.le_refl _), Bool.true_and, List.all_map, List.all_eq_true]
  intro i hi
  have lt : i < l.length := by rw [ln]; exact List.mem_range.mp hi
  have e1 : (itemsD (PyData.tuple (l.map doorD))).getD i .none = doorD l[i] := getD_of (by rw [show itemsD (PyData.tuple (l.map doorD)) = l.map doorD from rfl, List.getElem?_map, List.getElem?_eq_getElem lt]; rfl)
  have e2 : ns.getD i 0 = l[i].1 := by
    rw [← hf, List.getD_eq_getElem?_getD, List.getElem?_map, List.getElem?_eq_getElem lt]
    rfl
  show laidB _ _ _ = true
  rw [e1, e2]
  have z := h _ (List.getElem_mem lt)
  exact laid_ok z.1 z.2
theorem lay_ok {P : PyData} {ns : List Int} {qs : List PyData} {L : Lay} (hP : nthD P 0 = .tuple qs) (h : L.Ok P ns) : layB P ns L.d = true := by
  unfold layB
  show (true && (packsB P (.tuple (L.packs.map packD)) && laidsB (.tuple (L.nums.map doorD)) ns ((L.packs.map packD).length : Int))) = true
  rw [packs_ok hP h.eight h.once h.places, List.length_map, laids_ok h.doors h.nums]
  rfl
/-! spoilt ones -/
section
variable {P x y : PyData} {ns : List Int}
theorem bad_two {ds : List PyData} (h : ds.length ≠ 2) : layB P ns (.tuple ds) = false := by
  have e : tupB (.tuple ds) 2 2 = false := by
    show (true && (decide (2 ≤ (ds.length : Int)) && decide ((ds.length : Int) ≤ 2))) = false
    by_cases c : 2 ≤ (ds.length : Int)
    · rw [decide_eq_false (p := (ds.length : Int) ≤ 2) (by omega)]
      simp
    · rw [decide_eq_false c]
      rfl
  unfold layB
  rw [e]
  rfl
theorem bad_packs (h : packsB P x = false) : layB P ns (.tuple [x, y]) = false := by
  show (true && (packsB P x && _)) = false
  rw [h]
  rfl
theorem bad_laids {many : Int} (hm : ((itemsD x).length : Int) = many) (h : laidsB y ns many = false) : layB P ns (.tuple [x, y]) = false := by
  show (true && (packsB P x && laidsB y ns ((itemsD x).length : Int))) = false
  rw [hm, h]
  simp
theorem packs_dup {ps : List PyData} {p : PyData} (h : ∃ i j : Nat, i < j ∧ (ps.flatMap itemsD)[i]? = some p ∧ (ps.flatMap itemsD)[j]? = some p) : packsB P (.tuple ps) = false := by
  obtain ⟨i, j, lt, hi, hj⟩ := h
  have e : decide ((rowsOfD (.tuple ps)).map plQ).Nodup = false := by
    apply decide_eq_false
    intro nd
    have nd2 : ((ps.flatMap itemsD).map plQ).Nodup := nd
    have ei : ((ps.flatMap itemsD).map plQ)[i]? = some (plQ p) := by rw [List.getElem?_map, hi]; rfl
    have ej : ((ps.flatMap itemsD).map plQ)[j]? = some (plQ p) := by rw [List.getElem?_map, hj]; rfl
    have := (List.getElem?_inj (List.getElem?_eq_some_iff.mp ei).1 nd2).mp (ei.trans ej.symm)
    omega
  unfold packsB
  rw [e]
  simp
theorem packs_no {ps : List PyData} {p : PyData} (hp : p ∈ ps.flatMap itemsD) (h : placeB P p = false) : packsB P (.tuple ps) = false := by
  have e : (rowsOfD (.tuple ps)).all (fun x => placeB P x) = false := by
    rw [List.all_eq_false]
    exact ⟨p, hp, by rw [h]; exact fun z => nomatch z⟩
  unfold packsB
  rw [e]
  simp
theorem packs_list {ps : List PyData} {p : PyData} (hp : p ∈ ps) (h : isTup p = false) : packsB P (.tuple ps) = false := by
  have e : (itemsD (.tuple ps)).all isTup = false := by
    rw [List.all_eq_false]
    exact ⟨p, hp, by rw [h]; exact fun z => nomatch z⟩
  unfold packsB
  rw [e]
  simp
theorem laids_len {many : Int} {ds : List PyData} (h : ds.length ≠ ns.length) : laidsB (.tuple ds) ns many = false := by
  have e : tupB (.tuple ds) ns.length ns.length = false := by
    show (true && (decide ((ns.length : Int) ≤ (ds.length : Int)) && decide ((ds.length : Int) ≤ (ns.length : Int)))) = false
    by_cases c : (ns.length : Int) ≤ (ds.length : Int)
    · rw [decide_eq_false (p := (ds.length : Int) ≤ (ns.length : Int)) (by omega)]
      simp
    · rw [decide_eq_false c]
      rfl
  unfold laidsB
  rw [e]
  rfl
theorem laids_at {many : Int} {ds : List PyData} {i : Nat} {d : PyData} (hi : i < ns.length) (hd : ds[i]? = some d) (h : laidB d (ns.getD i 0) many = false) : laidsB (.tuple ds) ns many = false := by
  have e : ((List.range ns.length).map fun i => laidB ((itemsD (PyData.tuple ds)).getD i .none) (ns.getD i 0) many).all id = false := by
    rw [List.all_map, List.all_eq_false]
    refine ⟨i, List.mem_range.mpr hi, ?_⟩
    show ¬ laidB (ds.getD i .none) (ns.getD i 0) many = true
    rw [getD_of hd, h]
    exact fun z => nomatch z
  unfold laidsB
  rw [e]
  simp
theorem laid_nums {door k many : Int} {ks : List PyData} (hk : PyData.int k ∈ ks) (h : ¬ (0 ≤ k ∧ k < many)) (d : Int) : laidB (.tuple [.int d, .tuple ks]) door many = false := by
  have e : ks.all (fun x => numB x many) = false := by
    rw [List.all_eq_false]
    refine ⟨_, hk, fun z => ?_⟩
    obtain ⟨i, e, h0, h1⟩ := numB_iff.mp z
    injection e with e
    exact h ⟨by omega, by omega⟩
  show (true && (true && (_ && (true && (ks.all (fun x => numB x many) && _))))) = false
  rw [e]
  simp
theorem laid_other {door many d : Int} {y : PyData} (h : d ≠ door) : laidB (.tuple [.int d, y]) door many = false := by
  show (true && (true && (decide (d = door) && _))) = false
  rw [decide_eq_false h]
  rfl
end
end Lb
namespace Lb
open PySem PySem.Spec PyProof.Rows L2
def pNs (q : Nat × Nat) : List Int := [(q.1 : Int), (q.2 : Int)]
theorem pNs_inj {p q : Nat × Nat} (h : pNs p = pNs q) : p = q := by
  unfold pNs at h
  injection h with h1 h
  injection h with h2 _
  exact Prod.ext (by omega) (by omega)
theorem pairs_nodup {qs : List (Nat × Nat)} : (qs.map pNs).Nodup ↔ qs.Nodup := by
  constructor
  · intro h
    exact List.Pairwise.of_map pNs (fun a b ne e => ne (by rw [e])) h
  · intro h
    refine List.pairwise_map.mpr (h.imp fun ne e => ne (pNs_inj e))
theorem places_keys {S : List Addr} {H : Hp} : ∀ {vs : List V} {qs : List (Nat × Nat)}, Reps S H vs (qs.map pD) → ∃ ks : List (Addr × List Int), vs = ks.map (fun p => V.ref p.1) ∧ ks.map Prod.snd = qs.map pNs ∧ ∀ p ∈ ks, H p.1 = some (.tup (p.2.map V.int))
  | _, [], .nil => ⟨[], rfl, rfl, fun _ z => nomatch z⟩
  | _, q :: qs, .cons r rs => by
    obtain ⟨ks, e1, e2, h⟩ := places_keys rs
    obtain ⟨a, x, y, rfl, ha, rx, ry⟩ := Rep.two r
    obtain rfl := rx.intV
    obtain rfl := ry.intV
    refine ⟨(a, pNs q) :: ks, by rw [e1, List.map_cons], by rw [List.map_cons, e2, List.map_cons], fun p hp => ?_⟩
    rcases List.mem_cons.mp hp with z | z
    · rw [z]
      exact ha
    · exact h p z
end Lb
namespace Lb
open PySem PySem.Spec PyProof.Rows L2
/-! lists that change, and what stands in them -/
theorem Rep.avoids {H : Hp} {v : V} {d : PyData} (no : noLst d = true) (r : Rep [] H v d) : ∀ S : List Addr, (∀ z ∈ S, ∃ zs, H z = some (.lst zs)) → Rep S H v d
  | [], _ => r
  | z :: S, h => by
    obtain ⟨zs, hz⟩ := h z List.mem_cons_self
    exact Rep.avoid hz d v no (Rep.avoids no r S fun y hy => h y (List.mem_cons_of_mem _ hy))
theorem Reps.avoids {H : Hp} {vs : List V} {ds : List PyData} (no : noLsts ds = true) (r : Reps [] H vs ds) : ∀ S : List Addr, (∀ z ∈ S, ∃ zs, H z = some (.lst zs)) → Reps S H vs ds
  | [], _ => r
  | z :: S, h => by
    obtain ⟨zs, hz⟩ := h z List.mem_cons_self
    exact Reps.avoid hz ds vs no (Reps.avoids no r S fun y hy => h y (List.mem_cons_of_mem _ hy))
theorem Reps.bare {S : List Addr} {H : Hp} {vs : List V} {ds : List PyData} (r : Reps S H vs ds) : Reps [] H vs ds := r.less fun a z => absurd z List.not_mem_nil
theorem Rep.bare {S : List Addr} {H : Hp} {v : V} {d : PyData} (r : Rep S H v d) : Rep [] H v d := Rep.less (fun a z => absurd z List.not_mem_nil) _ _ r
theorem Reps.past {S : List Addr} {H H' : Hp} {vs : List V} {ds : List PyData} (no : noLsts ds = true) (r : Reps [] H vs ds) (h : ∀ z ∈ S, ∃ zs, H z = some (.lst zs)) (b : But S H H') : Reps [] H' vs ds := ((r.avoids no S h).mv b).bare
theorem Rep.past {S : List Addr} {H H' : Hp} {v : V} {d : PyData} (no : noLst d = true) (r : Rep [] H v d) (h : ∀ z ∈ S, ∃ zs, H z = some (.lst zs)) (b : But S H H') : Rep [] H' v d := ((r.avoids no S h).mv b).bare
theorem But.thin {S T : List Addr} {H H' : Hp} (a : But S H H') (h : ∀ x ∈ S, x ∉ T → H x = none) : But T H H' := fun b o nb e => by
  refine a b o (fun m => ?_) e
  have z := h b m nb
  rw [e] at z
  exact nomatch z
theorem noLst_pairs (qs : List (Nat × Nat)) : noLsts (qs.map pD) = true := noLst_all fun x hx => by
  obtain ⟨y, _, rfl⟩ := List.mem_map.mp hx
  rfl
theorem noLst_ints (ks : List Int) : noLsts (ks.map PyData.int) = true := noLst_all fun x hx => by
  obtain ⟨y, _, rfl⟩ := List.mem_map.mp hx
  rfl
theorem noLst_door (p : Int × List Int) : noLst (doorD p) = true := by
  show (noLst (.int p.1) && (noLst (.tuple (p.2.map .int)) && true)) = true
  rw [show noLst (PyData.tuple (p.2.map .int)) = noLsts (p.2.map .int) from rfl, noLst_ints]
  rfl
theorem noLst_doors (l : List (Int × List Int)) : noLsts (l.map doorD) = true := noLst_all fun x hx => by
  obtain ⟨y, _, rfl⟩ := List.mem_map.mp hx
  exact noLst_door y
theorem noLst_pack (qs : List (Nat × Nat)) : noLst (packD qs) = true := noLst_pairs qs
theorem noLst_packs (l : List (List (Nat × Nat))) : noLsts (l.map packD) = true := noLst_all fun x hx => by
  obtain ⟨y, _, rfl⟩ := List.mem_map.mp hx
  exact noLst_pack y
/-- the lists ls hold these places -/
def PksAt (H : Hp) (ls : List Addr) (qss : List (List (Nat × Nat))) : Prop := ls.length = qss.length ∧ ∀ (j : Nat) (x : Addr), ls[j]? = some x → ∃ vs qs, H x = some (.lst vs) ∧ qss[j]? = some qs ∧ Reps [] H vs (qs.map pD)
theorem PksAt.past {S : List Addr} {H H' : Hp} {ls : List Addr} {qss : List (List (Nat × Nat))} (p : PksAt H ls qss) (h : ∀ z ∈ S, ∃ zs, H z = some (.lst zs)) (b : But S H H') (ap : ∀ x ∈ ls, x ∉ S) : PksAt H' ls qss := by
  refine ⟨p.1, fun j x hj => ?_⟩
  obtain ⟨vs, qs, h1, h2, h3⟩ := p.2 j x hj
  exact ⟨vs, qs, b x _ (ap x (List.mem_of_getElem? hj)) h1, h2, Reps.past (noLst_pairs qs) h3 h b⟩
theorem PksAt.sm {H H' : Hp} {ls : List Addr} {qss : List (List (Nat × Nat))} (p : PksAt H ls qss) (s : Same H H') : PksAt H' ls qss :=
  p.past (S := []) (fun _ z => absurd z List.not_mem_nil) (.of s) fun _ _ => List.not_mem_nil
theorem PksAt.lists {H : Hp} {ls : List Addr} {qss : List (List (Nat × Nat))} (p : PksAt H ls qss) : ∀ z ∈ ls, ∃ zs, H z = some (.lst zs) := fun z hz => by
  obtain ⟨j, hj⟩ := List.mem_iff_getElem?.mp hz
  obtain ⟨vs, _, h, _⟩ := p.2 j z hj
  exact ⟨vs, h⟩
theorem PksAt.put {H : Hp} {ls : List Addr} {qss : List (List (Nat × Nat))} (p : PksAt H ls qss) (nd : ls.Nodup) {a : Nat} {x : Addr} {vs' : List V} {qs' : List (Nat × Nat)} (hx : ls[a]? = some x) (r : Reps [] H vs' (qs'.map pD)) :
    PksAt (upd H x (.lst vs')) ls (qss.set a qs') := by
  obtain ⟨vs0, qs0, h0, hq0, _⟩ := p.2 a x hx
  have b : But [x] H (upd H x (.lst vs')) := But.refl.upd List.mem_cons_self
  have hz : ∀ z ∈ [x], ∃ zs, H z = some (.lst zs) := fun z hz => by rw [List.mem_singleton.mp hz]; exact ⟨_, h0⟩
  refine ⟨by rw [List.length_set]; exact p.1, fun j y hj => ?_⟩
  by_cases e : j = a
  · subst e
    obtain rfl : x = y := Option.some.inj (hx.symm.trans hj)
    exact ⟨vs', qs', upd_same, by rw [List.getElem?_set_self (List.getElem?_eq_some_iff.mp hq0).1], Reps.past (noLst_pairs _) r hz b⟩
  · have yx : y ≠ x := fun z => e ((List.getElem?_inj (List.getElem?_eq_some_iff.mp hj).1 nd).mp (by rw [hj, hx, z]))
    obtain ⟨vs, qs, h1, h2, h3⟩ := p.2 j y hj
    exact ⟨vs, qs, by rw [upd_ne yx]; exact h1, by rw [List.getElem?_set_ne (Ne.symm e)]; exact h2, Reps.past (noLst_pairs _) h3 hz b⟩
theorem flat_put {α : Type} {qs : List α} (u : Nat) (q : α) : ∀ {qss : List (List α)} {a : Nat}, qss[a]? = some qs → (qss.set a (qs.take u ++ [q] ++ qs.drop u)).flatten.Perm (q :: qss.flatten)
  | [], _, h => by simp at h
  | x :: xs, 0, h => by
    obtain rfl : x = qs := by simpa using h
    have e : (x.take u ++ [q] ++ x.drop u).Perm (q :: x) := by
      have z := List.perm_middle (a := q) (l₁ := x.take u) (l₂ := x.drop u)
      rw [List.take_append_drop] at z
      rw [List.append_assoc]
      exact z
    exact e.append_right xs.flatten
  | x :: xs, a + 1, h => by
    have ih := flat_put u q (qss := xs) (a := a) (by simpa using h)
    exact (ih.append_left x).trans List.perm_middle
theorem many_at {u : Int} (h0 : 0 ≤ u) (h1 : u < 6) : ∃ m : Nat, atI [V.int 1, .int 2, .int 3, .int 4, .int 0, .int 8] u = some (.int (m : Nat)) ∧ m ≤ 8 := by
  rcases (by omega : u = 0 ∨ u = 1 ∨ u = 2 ∨ u = 3 ∨ u = 4 ∨ u = 5) with e | e | e | e | e | e <;> subst e
  · exact ⟨1, rfl, by decide⟩
  · exact ⟨2, rfl, by decide⟩
  · exact ⟨3, rfl, by decide⟩
  · exact ⟨4, rfl, by decide⟩
  · exact ⟨0, rfl, by decide⟩
  · exact ⟨8, rfl, by decide⟩
theorem ins_perm {α : Type} (ks : List α) (u : Nat) (q : α) : (ks.take u ++ [q] ++ ks.drop u).Perm (q :: ks) := by
  have z := List.perm_middle (a := q) (l₁ := ks.take u) (l₂ := ks.drop u)
  rw [List.take_append_drop] at z
  rw [List.append_assoc]
  exact z
end Lb
namespace Lb
open PySem PySem.Spec PyProof.Rows L2
theorem flat_rep {α : Type} : ∀ m : Nat, (List.replicate m ([] : List α)).flatten = []
  | 0 => rfl
  | m + 1 => by
    rw [List.replicate_succ, List.flatten_cons, flat_rep m]
    rfl
theorem pairs_len {d : PyData} (h : progB d = true) : (pairsOf d).length ≤ 20 := by
  obtain ⟨ps, m, es, o, rfl, F⟩ := prog_of h
  have z := upTo_len F.five ps.length
  have four := F.four
  have e : (placesD (.tuple [.tuple ps, m, .tuple es, o])).length = (pairsOf (.tuple [.tuple ps, m, .tuple es, o])).length := by rw [places_pairs, List.length_map]
  have e2 : (placesD (.tuple [.tuple ps, m, .tuple es, o])).length ≤ 5 * ps.length := z
  omega
end Lb
namespace Lb
theorem card_le {α : Type} [DecidableEq α] : ∀ {L M : List α}, L.Nodup → (∀ x ∈ L, x ∈ M) → L.length ≤ M.length
  | [], _, _, _ => Nat.zero_le _
  | x :: L, M, nd, h => by
    rw [List.nodup_cons] at nd
    have xm := h x List.mem_cons_self
    have z := card_le (M := M.erase x) nd.2 fun z hz => (List.mem_erase_of_ne fun e => nd.1 (by rw [← e]; exact hz)).mpr (h z (List.mem_cons_of_mem _ hz))
    rw [List.length_erase_of_mem xm] at z
    have := List.length_pos_of_mem xm
    show L.length + 1 ≤ M.length
    omega
end Lb

set_option Elab.async false
set_option linter.all false
set_option maxRecDepth 100000
set_option maxHeartbeats 4000000
/-! the search in a heap: what kept_ways' reading needs -/
namespace Lb
open PySem PySem.Spec PyProof.Rows L2
mutual
/-- data stands apart from a dict that is told by an .ext -/
theorem Rep.extn {st : List Addr} {H : Hp} {x : Addr} {φ : Heap → Prop} (hx : H x = some (.ext φ)) : ∀ (d : PyData) (v : V), Rep st H v d → Rep (x :: st) H v d
  | .none, _, .non => .non
  | .bool _, _, .bl b => .bl b
  | .int _, _, .int i => .int i
  | .str _, _, .str x => .str x
  | .tuple ds, _, .tup (xs := ys) h n r => .tup h (fun m => (List.mem_cons.mp m).elim (ne_of h hx (fun q => nomatch q)) n) (Reps.extn hx ds ys r)
  | .list ds, _, .lst (xs := ys) h n r => .lst h (fun m => (List.mem_cons.mp m).elim (ne_of h hx (fun q => nomatch q)) n) (Reps.extn hx ds ys r)
  | .dict _, _, .dct h n => .dct h (fun m => (List.mem_cons.mp m).elim (ne_of h hx (fun q => nomatch q)) n)
theorem Reps.extn {st : List Addr} {H : Hp} {x : Addr} {φ : Heap → Prop} (hx : H x = some (.ext φ)) : ∀ (ds : List PyData) (vs : List V), Reps st H vs ds → Reps (x :: st) H vs ds
  | [], _, .nil => .nil
  | d :: ds, _, .cons r rs => .cons (Rep.extn hx d _ r) (Reps.extn hx ds _ rs)
end
/-- behind a store into such a dict data stays -/
theorem Rep.kept {S : List Addr} {H H' : Hp} {x : Addr} {φ : Heap → Prop} {d : PyData} {v : V} (hx : H x = some (.ext φ)) (r : Rep S H v d) (k : ∀ c, c ≠ x → H' c = H c) : Rep S H' v d := by
  have z := Rep.extn hx d v r
  have b : But (x :: S) H H' := fun c o n e => by rw [k c (fun y => n (by rw [y]; exact List.mem_cons_self))]; exact e
  exact (z.mv b).less fun _ y => List.mem_cons_of_mem _ y
theorem Reps.kept {S : List Addr} {H H' : Hp} {x : Addr} {φ : Heap → Prop} {ds : List PyData} {vs : List V} (hx : H x = some (.ext φ)) (r : Reps S H vs ds) (k : ∀ c, c ≠ x → H' c = H c) : Reps S H' vs ds := by
  have z := Reps.extn hx ds vs r
  have b : But (x :: S) H H' := fun c o n e => by rw [k c (fun y => n (by rw [y]; exact List.mem_cons_self))]; exact e
  exact (z.mv b).less fun _ y => List.mem_cons_of_mem _ y
/-- a key read back as data -/
theorem at_pl {H : Hp} {v : V} {q : Nat × Nat} (h : NkAt H (plK q) v) : Rep [] H v (stD q) := by
  unfold plK NkAt at h
  obtain ⟨b, vs, rfl, hb, al⟩ := h
  unfold NkAll at al
  obtain ⟨v1, r1, rfl, e1, al⟩ := al
  unfold NkAll at al
  obtain ⟨v2, r2, rfl, e2, al⟩ := al
  unfold NkAll at al
  subst al
  unfold NkAt at e1 e2
  subst e1 e2
  exact .tup hb List.not_mem_nil (.cons (.int _) (.cons (.int _) .nil))
theorem at_ln {H : Hp} {v : V} {l : Ln} (h : NkAt H (lnK l) v) : Rep [] H v (lnD l) := by
  unfold lnK NkAt at h
  obtain ⟨b, vs, rfl, hb, al⟩ := h
  unfold NkAll at al
  obtain ⟨v1, r1, rfl, e1, al⟩ := al
  unfold NkAll at al
  obtain ⟨v2, r2, rfl, e2, al⟩ := al
  unfold NkAll at al
  subst al
  unfold NkAt at e1
  subst e1
  exact .tup hb List.not_mem_nil (.cons (.str _) (.cons (at_pl e2) .nil))
abbrev wyD (w : Wy) : PyData := .list (w.map lnD)
/-- the dict's entries are these ways -/
abbrev KW (S : List Addr) (H : Hp) : List (NestedKey × V) → List ((Nat × Nat) × Wy) → Prop := Paired fun p q => p.1 = plK q.1 ∧ Rep S H p.2 (wyD q.2)
theorem KW.look {S : List Addr} {H : Hp} {kvs : List (NestedKey × V)} {ws : List ((Nat × Nat) × Wy)} (r : KW S H kvs ws) (q : Nat × Nat) : (valV kvs (plK q)).isSome = decide (q ∈ ws.map Prod.fst) := by
  induction r with
  | nil => rfl
  | @cons p w ps ws h t ih =>
    by_cases e : p.1 = plK q
    · have e2 : w.1 = q := plK_inj.mp (h.1.symm.trans e)
      rw [valV_pos e, List.map_cons, decide_eq_true (by rw [e2]; exact List.mem_cons_self)]
      rfl
    · have e2 : ¬ q = w.1 := fun z => e (by rw [h.1, z])
      rw [valV_neg e, ih, List.map_cons, Bool.eq_iff_iff, decide_eq_true_eq, decide_eq_true_eq, List.mem_cons]
      exact ⟨.inr, fun z => z.resolve_left e2⟩
theorem KW.put {S : List Addr} {H : Hp} {kvs : List (NestedKey × V)} {ws : List ((Nat × Nat) × Wy)} (r : KW S H kvs ws) {q : Nat × Nat} (n : valV kvs (plK q) = none) {v : V} {x : Wy} (rx : Rep S H v (wyD x)) : KW S H (putK kvs (plK q) v) (putW ws q x) := by
  have z := r.look q
  rw [n] at z
  have z : ¬ q ∈ ws.map Prod.fst := of_decide_eq_false z.symm
  unfold putW
  rw [if_neg z, putK_new _ n]
  exact Paired.snoc r ⟨rfl, rx⟩
theorem putW_in {ws : List ((Nat × Nat) × Wy)} {q : Nat × Nat} {x : Wy} (h : q ∈ ws.map Prod.fst) : putW ws q x = ws := if_pos h
/-- how the search grows -/
theorem link_grow (x : Wy) (l : List Ln) : ∀ s : List Ln × List Wy, (l.foldl (linkS x) s).1.length + s.2.length = s.1.length + (l.foldl (linkS x) s).2.length := by
  induction l with
  | nil => exact fun s => rfl
  | cons a l ih =>
    intro s
    rw [List.foldl_cons]
    have z := ih (linkS x s a)
    unfold linkS at z ⊢
    split at z
    · rename_i c
      rw [if_pos c]
      exact z
    · rename_i c
      rw [if_neg c]
      simp only [List.length_append, List.length_singleton] at z
      omega
theorem way_grow (P : Prog) (os : List Str) (lk : List (Nat × Nat)) : ∀ (ls : List Wy) (s : Ks), (ls.foldl (wayS P os lk) s).met.length + s.level.length = s.met.length + (ls.foldl (wayS P os lk) s).level.length
  | [], s => rfl
  | x :: ls, s => by
    rw [List.foldl_cons]
    have h1 := way_grow P os lk ls (wayS P os lk s x)
    have h2 := link_grow x (nextT P os lk (lastW x)) (s.met, s.level)
    have e1 : (wayS P os lk s x).met.length = ((nextT P os lk (lastW x)).foldl (linkS x) (s.met, s.level)).1.length := rfl
    have e2 : (wayS P os lk s x).level.length = ((nextT P os lk (lastW x)).foldl (linkS x) (s.met, s.level)).2.length := rfl
    have h2 : ((nextT P os lk (lastW x)).foldl (linkS x) (s.met, s.level)).1.length + s.level.length = s.met.length + ((nextT P os lk (lastW x)).foldl (linkS x) (s.met, s.level)).2.length := h2
    omega
theorem lvl_grow (P : Prog) (os : List Str) (lk : List (Nat × Nat)) (s : Ks) : (lvlS P os lk s).met.length = s.met.length + (lvlS P os lk s).level.length := by
  have z := way_grow P os lk s.level ⟨s.ways, s.met, []⟩
  exact z
def words7 : List Str := ["shows", "risks", "lacks", "open", "needs", "loads", "marked"]
theorem kept_word {P : Prog} {os : List Str} {lk : List (Nat × Nat)} {l : Ln} (h : Kept P os lk l) : l.1 ∈ words7 := by
  have ask : ∀ a : Ln, a ∈ askedT P os lk → a.1 ∈ words7 := fun a ha => by
    have z := (mem_asked.mp ha).2
    unfold asksT at z
    rw [List.mem_append, List.mem_append] at z
    unfold words7
    rcases z with z | z | z
    all_goals
      split at z
      · rw [List.mem_singleton.mp z]
        simp
      · exact absurd z List.not_mem_nil
  cases h with
  | first hl =>
    rcases mem_first.mp hl with ⟨ha, _⟩ | ⟨n, _, g, _, rfl⟩ | ⟨_, q, _, _, rfl⟩
    · exact ask _ ha
    · unfold words7; simp
    · unfold words7; simp
  | next _ hm =>
    rcases mem_next.mp hm with ⟨n, _, g, _, rfl⟩ | ⟨_, q, _, _, rfl⟩ | ⟨_, _, a, _, _, rfl⟩
    · unfold words7; simp
    · unfold words7; simp
    · unfold words7; simp
/-- what is met is few -/
theorem met_few {P : Prog} (ok : P.Ok) {os : List Str} {lk : List (Nat × Nat)} {ms : List Ln} (nd : ms.Nodup) (k : ∀ l ∈ ms, Kept P os lk l) : ms.length ≤ 140 := by
  have tot := placesP_len ok P.parts.length
  have four := ok.four
  have sub : ∀ l ∈ ms, l ∈ words7.flatMap fun w => (placesP P P.parts.length).map fun q => (w, q) := fun l hl =>
    List.mem_flatMap.mpr ⟨l.1, kept_word (k l hl), List.mem_map.mpr ⟨l.2, kept_place (k l hl), rfl⟩⟩
  have z := card_le nd sub
  have e : (words7.flatMap fun w => (placesP P P.parts.length).map fun q => (w, q)).length = 7 * (placesP P P.parts.length).length := by
    simp [words7]
    omega
  rw [e] at z
  omega
end Lb

set_option Elab.async false
set_option linter.all false
set_option maxRecDepth 100000
set_option maxHeartbeats 4000000
/-! the search of the tool in a heap: its states -/
namespace Lb
open PySem PySem.Spec PyProof.Rows L2
theorem keys_put {kvs : List (NestedKey × V)} {k : NestedKey} {v : V} : (putK kvs k v).map Prod.fst = if k ∈ kvs.map Prod.fst then kvs.map Prod.fst else kvs.map Prod.fst ++ [k] := by
  unfold putK
  have e : (kvs.any fun kv => decide (kv.1 = k)) = decide (k ∈ kvs.map Prod.fst) := by
    rw [Bool.eq_iff_iff, List.any_eq_true, decide_eq_true_eq, List.mem_map]
    exact ⟨fun ⟨p, hp, e⟩ => ⟨p, hp, of_decide_eq_true e⟩, fun ⟨p, hp, e⟩ => ⟨p, hp, decide_eq_true e⟩⟩
  rw [e]
  by_cases c : k ∈ kvs.map Prod.fst
  · rw [if_pos (decide_eq_true c), if_pos c, List.map_map]
    refine List.map_congr_left fun p _ => ?_
    show (if p.1 = k then (p.1, v) else p).1 = p.1
    split <;> rfl
  · rw [if_neg (by simpa using c), if_neg c, List.map_append]
    rfl
theorem keys_val {kvs : List (NestedKey × V)} {k : NestedKey} : (valV kvs k).isSome = decide (k ∈ kvs.map Prod.fst) := by
  rw [← valV_any, Bool.eq_iff_iff, List.any_eq_true, decide_eq_true_eq, List.mem_map]
  exact ⟨fun ⟨p, hp, e⟩ => ⟨p, hp, of_decide_eq_true e⟩, fun ⟨p, hp, e⟩ => ⟨p, hp, decide_eq_true e⟩⟩
theorem paired_at {α β : Type} {F : α → β → Prop} : ∀ {l1 : List α} {l2 : List β}, Paired F l1 l2 → ∀ {i : Nat} {b : β}, l2[i]? = some b → ∃ a, l1[i]? = some a ∧ F a b
  | _, _, .nil, i, b, h => by simp at h
  | _, _, .cons r t, 0, b, h => by
    have h := Option.some.inj h
    subst h
    exact ⟨_, rfl, r⟩
  | _, _, .cons r t, i + 1, b, h => paired_at t (i := i) h
theorem lnK_mem {l : Ln} {ls : List Ln} : lnK l ∈ ls.map lnK ↔ l ∈ ls := by
  rw [List.mem_map]
  exact ⟨fun ⟨m, hm, e⟩ => by rw [← lnK_inj.mp e]; exact hm, fun h => ⟨l, h, rfl⟩⟩
structure KM (Pg : Program) (w : World) (H0 : Hp) (W M G : Addr) (s : Ks) (kW kM : List (NestedKey × V)) (acc : List V) (H : Hp) : Prop where
  bt : But [W, M, G] H0 H
  dw : NDict Pg w H W kW
  kw : KW [W, M, G] H kW s.ways
  dm : NDict Pg w H M kM
  km : kM.map Prod.fst = s.met.map lnK
  lg : H G = some (.lst acc)
  rg : Reps [W, M, G] H acc (s.level.map wyD)
  wm : W ≠ M
section
variable {Pg : Program} {w : World} {H0 H H' : Hp} {W M G : Addr} {s : Ks} {kW kM : List (NestedKey × V)} {acc : List V}
theorem NDict.ext (d : NDict Pg w H W kW) : ∃ φ, H W = some (.ext φ) := d.2.elim fun _ z => z.elim fun φ z => ⟨φ, z.1⟩
theorem KM.wg (x : KM Pg w H0 W M G s kW kM acc H) : W ≠ G := by
  obtain ⟨φ, e⟩ := x.dw.ext
  exact fun z => by rw [z, x.lg] at e; cases e
theorem KM.mg (x : KM Pg w H0 W M G s kW kM acc H) : M ≠ G := by
  obtain ⟨φ, e⟩ := x.dm.ext
  exact fun z => by rw [z, x.lg] at e; cases e
theorem KM.sm (x : KM Pg w H0 W M G s kW kM acc H) (e : Same H H') : KM Pg w H0 W M G s kW kM acc H' :=
  ⟨x.bt.trans (.of e), x.dw.sm e, Paired.mapP x.kw fun _ _ z => ⟨z.1, z.2.sm e⟩, x.dm.sm e, x.km, e _ _ x.lg, x.rg.sm e, x.wm⟩
/-- a place of the dict's own changes only -/
theorem but_one {S : List Addr} {x : Addr} (hx : x ∈ S) (e : ∀ c, c ≠ x → H' c = H c) : But S H H' := fun b o n h => by
  rw [e b (fun z => n (by rw [z]; exact hx))]
  exact h
theorem tup_stays {x : Addr} {φ : Heap → Prop} (hx : H x = some (.ext φ)) (e : ∀ c, c ≠ x → H' c = H c) : ∀ b vs, H b = some (.tup vs) → H' b = some (.tup vs) := fun b vs h => by
  rw [e b (ne_of h hx (fun z => nomatch z))]
  exact h
/-- a new way -/
theorem KM.way (x : KM Pg w H0 W M G s kW kM acc H) {q : Nat × Nat} {v : V} {y : Wy} (rv : Rep [W, M, G] H v (wyD y)) (n : valV kW (plK q) = none) (e : ∀ c, c ≠ W → H' c = H c) (d : NDict Pg w H' W (putK kW (plK q) v)) :
    KM Pg w H0 W M G ⟨putW s.ways q y, s.met, s.level⟩ (putK kW (plK q) v) kM acc H' := by
  obtain ⟨φ, hφ⟩ := x.dw.ext
  have b : But [W, M, G] H H' := but_one List.mem_cons_self e
  refine ⟨x.bt.trans b, d, KW.put (Paired.mapP x.kw fun _ _ z => ⟨z.1, z.2.mv b⟩) n (rv.mv b), x.dm.keeps (fun o h => by rw [e _ (Ne.symm x.wm)]; exact h) (tup_stays hφ e), x.km, by rw [e _ (Ne.symm x.wg)]; exact x.lg, x.rg.mv b, x.wm⟩
/-- a link met -/
theorem KM.see (x : KM Pg w H0 W M G s kW kM acc H) {l : Ln} {v : V} (n : l ∉ s.met) (e : ∀ c, c ≠ M → H' c = H c) (d : NDict Pg w H' M (putK kM (lnK l) v)) :
    KM Pg w H0 W M G ⟨s.ways, s.met ++ [l], s.level⟩ kW (putK kM (lnK l) v) acc H' := by
  obtain ⟨φ, hφ⟩ := x.dm.ext
  have b : But [W, M, G] H H' := but_one (List.mem_cons_of_mem _ List.mem_cons_self) e
  refine ⟨x.bt.trans b, x.dw.keeps (fun o h => by rw [e _ x.wm]; exact h) (tup_stays hφ e), Paired.mapP x.kw fun _ _ z => ⟨z.1, z.2.mv b⟩, d, ?_, by rw [e _ (Ne.symm x.mg)]; exact x.lg, x.rg.mv b, x.wm⟩
  rw [keys_put, x.km, if_neg (fun z => n (lnK_mem.mp z)), List.map_append]
  rfl
/-- a way to be followed -/
theorem KM.app (x : KM Pg w H0 W M G s kW kM acc H) {v : V} {y : Wy} (rv : Rep [W, M, G] H v (wyD y)) :
    KM Pg w H0 W M G ⟨s.ways, s.met, s.level ++ [y]⟩ kW kM (acc ++ [v]) (upd H G (.lst (acc ++ [v]))) := by
  have e : ∀ c, c ≠ G → upd H G (.lst (acc ++ [v])) c = H c := fun c n => upd_ne n
  have b : But [W, M, G] H (upd H G (.lst (acc ++ [v]))) := but_one (List.mem_cons_of_mem _ (List.mem_cons_of_mem _ List.mem_cons_self)) e
  have t : ∀ b vs, H b = some (.tup vs) → upd H G (.lst (acc ++ [v])) b = some (.tup vs) := fun b vs h => by
    rw [e b (ne_of h x.lg (fun z => nomatch z))]
    exact h
  refine ⟨x.bt.trans b, x.dw.keeps (fun o h => by rw [e _ x.wg]; exact h) t, Paired.mapP x.kw fun _ _ z => ⟨z.1, z.2.mv b⟩, x.dm.keeps (fun o h => by rw [e _ x.mg]; exact h) t, x.km, upd_same, ?_, x.wm⟩
  rw [List.map_append]
  exact (x.rg.mv b).app (.one (rv.mv b))
/-- at the top of a round -/
structure KT (Pg : Program) (w : World) (H0 : Hp) (W M Lv : Addr) (s : Ks) (kW kM : List (NestedKey × V)) (xs : List V) (H : Hp) : Prop where
  sm : Same H0 H
  dw : NDict Pg w H W kW
  kw : KW [] H kW s.ways
  dm : NDict Pg w H M kM
  km : kM.map Prod.fst = s.met.map lnK
  lv : H Lv = some (.lst xs)
  rg : Reps [] H xs (s.level.map wyD)
  wm : W ≠ M
  nw : H0 W = none
  nm : H0 M = none
theorem KT.mid {Lv : Addr} {xs : List V} (x : KT Pg w H0 W M Lv s kW kM xs H) (nG : H G = none) :
    KM Pg w (upd H G (.lst [])) W M G ⟨s.ways, s.met, []⟩ kW kM [] (upd H G (.lst [])) ∧ Reps [W, M, G] (upd H G (.lst [])) xs (s.level.map wyD) ∧ upd H G (.lst []) Lv = some (.lst xs) ∧ Lv ∉ [W, M, G] := by
  obtain ⟨φ, hφ⟩ := x.dw.ext
  obtain ⟨ψ, hψ⟩ := x.dm.ext
  have s1 : Same H (upd H G (.lst [])) := same_new nG
  have up : ∀ {d : PyData} {v : V}, Rep [] H v d → Rep [W, M, G] (upd H G (.lst [])) v d := fun {d v} r => Rep.sm (Rep.extn hφ _ _ (Rep.extn hψ _ _ (Rep.more nG _ _ r))) s1
  refine ⟨⟨.refl, x.dw.sm s1, Paired.mapP x.kw fun _ _ z => ⟨z.1, up z.2⟩, x.dm.sm s1, x.km, upd_same, .nil, x.wm⟩, Reps.sm (Reps.extn hφ _ _ (Reps.extn hψ _ _ (Reps.more nG _ _ x.rg))) s1, s1 _ _ x.lv, fun z => ?_⟩
  have lw := ne_of x.lv hφ (fun z => nomatch z)
  have lm := ne_of x.lv hψ (fun z => nomatch z)
  have lg := ne_of_none x.lv nG
  rcases List.mem_cons.mp z with z | z
  · exact lw z
  · rcases List.mem_cons.mp z with z | z
    · exact lm z
    · exact lg (List.mem_singleton.mp z)
/-- back to the top -/
theorem KM.top {Lv : Addr} {xs : List V} (t : KT Pg w H0 W M Lv s kW kM xs H) (nG : H G = none) {s' : Ks} {kW' kM' : List (NestedKey × V)} {acc : List V} (x : KM Pg w (upd H G (.lst [])) W M G s' kW' kM' acc H') : KT Pg w H0 W M G s' kW' kM' acc H' := by
  have no : ∀ a ∈ ([] : List Addr), a ∈ [W, M, G] := fun _ z => absurd z List.not_mem_nil
  have nG0 : H0 G = none := same_none t.sm nG
  refine ⟨fun b o e => x.bt b o (fun z => ?_) (same_new nG _ _ (t.sm _ _ e)), x.dw, Paired.mapP x.kw fun _ _ z => ⟨z.1, z.2.less no⟩, x.dm, x.km, x.lg, x.rg.less no, x.wm, t.nw, t.nm⟩
  rcases List.mem_cons.mp z with rfl | z
  · rw [t.nw] at e; exact nomatch e
  · rcases List.mem_cons.mp z with rfl | z
    · rw [t.nm] at e; exact nomatch e
    · rw [List.mem_singleton.mp z, nG0] at e; exact nomatch e
/-- amid a round: what stood before the search stands -/
theorem KM.sm0 {Lv : Addr} {xs : List V} (t : KT Pg w H0 W M Lv s kW kM xs H) (nG : H G = none) {s' : Ks} {kW' kM' : List (NestedKey × V)} {acc : List V} (x : KM Pg w (upd H G (.lst [])) W M G s' kW' kM' acc H') : Same H0 H' := (KM.top t nG x).sm
end
/-- ways: each place once -/
theorem putW_nd {ws : List ((Nat × Nat) × Wy)} {q : Nat × Nat} {x : Wy} (h : (ws.map Prod.fst).Nodup) : ((putW ws q x).map Prod.fst).Nodup := by
  unfold putW
  split
  · exact h
  · rename_i c
    rw [List.map_append]
    refine List.nodup_append.mpr ⟨h, List.nodup_cons.mpr ⟨List.not_mem_nil, .nil⟩, fun p hp r hr e => ?_⟩
    rw [show r = q from List.mem_singleton.mp hr] at e
    rw [e] at hp
    exact c hp
theorem fold_nd {P : Prog} {os : List Str} {lk : List (Nat × Nat)} : ∀ (rest : List Wy) (s : Ks), (s.ways.map Prod.fst).Nodup → ((rest.foldl (wayS P os lk) s).ways.map Prod.fst).Nodup
  | [], _, h => h
  | x :: rest, s, h => fold_nd rest (wayS P os lk s x) (putW_nd h)
theorem run_nd (P : Prog) (os : List Str) (lk : List (Nat × Nat)) : ∀ n, ((runS P os lk n).ways.map Prod.fst).Nodup
  | 0 => .nil
  | n + 1 => fold_nd _ _ (run_nd P os lk n)
theorem ways_few {P : Prog} (ok : P.Ok) {os : List Str} {lk : List (Nat × Nat)} {s : Ks} {rest : List Wy} (m : MidK P os lk s rest) (nd : (s.ways.map Prod.fst).Nodup) : s.ways.length ≤ 20 := by
  have tot := placesP_len ok P.parts.length
  have four := ok.four
  have z := card_le nd (fun q hq => by
    obtain ⟨l, hl, e⟩ := m.keys q hq
    rw [← e]
    exact kept_place (m.kept l hl))
  rw [List.length_map] at z
  omega
/-- part of a fold -/
theorem MidK.part {P : Prog} {os : List Str} {lk : List (Nat × Nat)} : ∀ (a b : List Wy) {s : Ks}, MidK P os lk s (a ++ b) → MidK P os lk (a.foldl (wayS P os lk) s) b
  | [], _, _, h => h
  | _ :: a, b, _, h => MidK.part a b h.way
def keptM (s : Ks) : Nat := 2 * (140 - s.met.length) + (if s.level.isEmpty then 0 else 1)
theorem lvl_of_nil {P : Prog} {os : List Str} {lk : List (Nat × Nat)} {s : Ks} (e : s.level = []) : lvlS P os lk s = ⟨s.ways, s.met, []⟩ := by
  unfold lvlS
  rw [e]
  rfl
theorem kept_falls {P : Prog} (ok : P.Ok) {os : List Str} {lk : List (Nat × Nat)} {n : Nat} (ne : (runS P os lk n).level ≠ []) : keptM (runS P os lk (n + 1)) < keptM (runS P os lk n) := by
  have g : (runS P os lk (n + 1)).met.length = (runS P os lk n).met.length + (runS P os lk (n + 1)).level.length := lvl_grow P os lk _
  have m1 := midK_run P os lk (n + 1)
  have f1 := met_few ok m1.nd m1.kept
  unfold keptM
  rw [if_neg (c := (runS P os lk n).level.isEmpty = true) (by simpa using ne)]
  by_cases c : (runS P os lk (n + 1)).level = []
  · rw [c] at g ⊢
    rw [List.length_nil] at g
    rw [if_pos List.isEmpty_nil]
    omega
  · have := List.length_pos_iff.mpr c
    split <;> omega
theorem link_lvl (x : Wy) (l : List Ln) : ∀ s : List Ln × List Wy, ∀ v ∈ (l.foldl (linkS x) s).2, v ∈ s.2 ∨ ∃ m, v = x ++ [m] := by
  induction l with
  | nil => exact fun s v h => .inl h
  | cons a l ih =>
    intro s v h
    rw [List.foldl_cons] at h
    rcases ih _ v h with z | z
    · unfold linkS at z
      split at z
      · exact .inl z
      · rcases List.mem_append.mp z with z | z
        · exact .inl z
        · exact .inr ⟨a, List.mem_singleton.mp z⟩
    · exact .inr z
theorem way_lvl {P : Prog} {os : List Str} {lk : List (Nat × Nat)} : ∀ (rest : List Wy) (s : Ks), ∀ v ∈ (rest.foldl (wayS P os lk) s).level, v ∈ s.level ∨ ∃ x ∈ rest, ∃ m, v = x ++ [m]
  | [], s, v, h => .inl h
  | x :: rest, s, v, h => by
    rcases way_lvl rest (wayS P os lk s x) v h with z | ⟨y, hy, m, e⟩
    · rcases link_lvl x _ (s.met, s.level) v z with z | ⟨m, e⟩
      · exact .inl z
      · exact .inr ⟨x, List.mem_cons_self, m, e⟩
    · exact .inr ⟨y, List.mem_cons_of_mem _ hy, m, e⟩
/-- the ways of a level are as long as the level is deep -/
theorem run_len (P : Prog) (os : List Str) (lk : List (Nat × Nat)) : ∀ n, ∀ v ∈ (runS P os lk n).level, v.length = n + 1
  | 0, v, h => by
    obtain ⟨l, _, rfl⟩ := List.mem_map.mp (show v ∈ ((firstT P os lk).foldl meet []).map fun l => [l] from h)
    rfl
  | n + 1, v, h => by
    rcases way_lvl _ _ v (show v ∈ (lvlS P os lk (runS P os lk n)).level from h) with z | ⟨x, hx, m, rfl⟩
    · exact absurd z List.not_mem_nil
    · rw [List.length_append, run_len P os lk n x hx]
      rfl
theorem run_deep (P : Prog) (os : List Str) (lk : List (Nat × Nat)) : ∀ n, (runS P os lk n).level ≠ [] → n + 1 ≤ (runS P os lk n).met.length
  | 0, ne => by
    have e : (runS P os lk 0).level.length = (runS P os lk 0).met.length := List.length_map _
    have := List.length_pos_iff.mpr ne
    omega
  | n + 1, ne => by
    have g : (runS P os lk (n + 1)).met.length = (runS P os lk n).met.length + (runS P os lk (n + 1)).level.length := lvl_grow P os lk _
    have ne0 : (runS P os lk n).level ≠ [] := fun e => ne (by show (lvlS P os lk (runS P os lk n)).level = []; rw [lvl_of_nil e])
    have := run_deep P os lk n ne0
    have := List.length_pos_iff.mpr ne
    omega
theorem way_last {x : Wy} (n : 0 < x.length) : ∃ pre l, x = pre ++ [l] := by
  have ne : x ≠ [] := fun e => by rw [e] at n; exact Nat.lt_irrefl _ n
  exact ⟨x.dropLast, x.getLast ne, (List.dropLast_concat_getLast ne).symm⟩
theorem atI_lastT {xs : List V} {n : Nat} {z : V} (l : xs.length = n + 1) (h : xs[n]? = some z) : L2.atI xs (-1) = some z := by
  unfold L2.atI L2.ixN
  rw [if_neg (by decide), if_pos (by omega)]
  show xs[(-1 + (xs.length : Int)).toNat]? = some z
  rw [show (-1 + (xs.length : Int)).toNat = n by omega]
  exact h
theorem way_at {S : List Addr} {H : Hp} {a : Addr} {pre : Wy} {l : Ln} (r : Rep S H (.ref a) (wyD (pre ++ [l]))) : ∃ xs za zb, H a = some (.lst xs) ∧ a ∉ S ∧ Reps S H xs ((pre ++ [l]).map lnD) ∧ xs.length = pre.length + 1 ∧
    L2.atI xs (-1) = some (.ref za) ∧ H za = some (.tup [.str l.1, .ref zb]) ∧ Rep S H (.ref za) (lnD l) ∧ Rep S H (.ref zb) (stD l.2) := by
  obtain ⟨xs, ha, na, rs⟩ := r.lstI
  have lx : xs.length = pre.length + 1 := by rw [rs.length, List.length_map, List.length_append]; rfl
  obtain ⟨z, hz, rz⟩ := rs.at_ (i := pre.length) (d := lnD l) (by rw [List.map_append, List.getElem?_append_right (by rw [List.length_map]; exact Nat.le_refl _), List.length_map, Nat.sub_self]; rfl)
  obtain ⟨za, z0, z1, rfl, hza, rz0, rz1⟩ := Rep.two (show Rep S H z (.tuple [.str l.1, stD l.2]) from rz)
  obtain rfl := rz0.strV
  obtain ⟨zb, y0, y1, rfl, hzb, ry0, ry1⟩ := rz1.two
  exact ⟨xs, za, zb, ha, na, rs, lx, atI_lastT lx hz, hza, rz, rz1⟩
theorem not_three {H : Hp} {W M G p : Addr} {o1 o2 o3 : HO} (h1 : H W = some o1) (h2 : H M = some o2) (h3 : H G = some o3) (np : H p = none) : p ∉ [W, M, G] := fun z => by
  rcases List.mem_cons.mp z with e | z
  · rw [e, h1] at np; exact nomatch np
  · rcases List.mem_cons.mp z with e | z
    · rw [e, h2] at np; exact nomatch np
    · rw [List.mem_singleton.mp z, h3] at np; exact nomatch np
theorem KM.apart {Pg : Program} {w : World} {H0 H : Hp} {W M G p : Addr} {s : Ks} {kW kM : List (NestedKey × V)} {acc : List V} (x : KM Pg w H0 W M G s kW kM acc H) (np : H p = none) : p ∉ [W, M, G] := by
  obtain ⟨φ, hφ⟩ := x.dw.ext
  obtain ⟨ψ, hψ⟩ := x.dm.ext
  exact not_three hφ hψ x.lg np
theorem KM.data {Pg : Program} {w : World} {H0 H : Hp} {W M G : Addr} {s : Ks} {kW kM : List (NestedKey × V)} {acc : List V} (x : KM Pg w H0 W M G s kW kM acc H) {ds : List PyData} {vs : List V} (n : noLsts ds = true) (r : Reps [] H vs ds) : Reps [W, M, G] H vs ds := by
  obtain ⟨φ, hφ⟩ := x.dw.ext
  obtain ⟨ψ, hψ⟩ := x.dm.ext
  exact Reps.extn hφ _ _ (Reps.extn hψ _ _ (Reps.avoid x.lg _ _ n r))
/-- the links met while the links behind a way are looked at -/
theorem part_few {P : Prog} (ok : P.Ok) {os : List Str} {lk : List (Nat × Nat)} {s : Ks} {rest : List Wy} (m : MidK P os lk s rest) {y : Wy} {l : Ln} (hl : l ∈ s.met) (j : Nat) :
    (((nextT P os lk l).take j).foldl (linkS y) (s.met, s.level)).1.length ≤ 140 := by
  obtain ⟨f1, f2, _⟩ := link_fold y ((nextT P os lk l).take j) (s.met, s.level) m.nd
  exact met_few ok f1 fun x hx => ((f2 x).mp hx).elim (m.kept x) fun z => .next (m.kept l hl) (List.mem_of_mem_take z)
end Lb

set_option Elab.async false
set_option linter.all false
set_option maxRecDepth 100000
set_option maxHeartbeats 4000000
/-! needs that are handed on; the shortened program -/
namespace Lb
open PySem PySem.Spec PyProof.Rows L2
abbrev Nd := Nat × Str
def behindP (P : Prog) (own index : Nat) (lr : List Nat) (n : Nd) : Option Nd :=
  match giversP P n.1 n.2 with
  | [q] => if aheadB own index lr q then (match rowP P q with | .pass _ p o => some (p.toNat, o) | _ => none) else none
  | _ => none
def lastF (f : Nd → Option Nd) : Nat → List Nd → Nd → Nd
  | 0, _, x => x
  | n + 1, met, x => match f x with
    | some y => if y ∈ met then x else lastF f n (met ++ [y]) y
    | none => x
def lastP (P : Prog) (own index : Nat) (lr : List Nat) (n : Nd) : Nd := lastF (behindP P own index lr) 20 [n] n
def ndOk (P : Prog) (n : Nd) : Prop := n.1 < P.parts.length ∧ n.2 ∈ letters
theorem rowP_ok {P : Prog} (ok : P.Ok) {part : Nat} {s : Str} {q : Nat × Nat} (h : q ∈ giversP P part s) : (rowP P q).ok P.c := by
  have h1 := giversP_row h
  obtain ⟨rs, hrs, hr⟩ := row_part h1
  exact ok.rows _ (List.mem_of_getElem? hrs) _ (List.mem_of_getElem? hr)
theorem behind_ok {P : Prog} (ok : P.Ok) {own index : Nat} {lr : List Nat} {n y : Nd} (h : behindP P own index lr n = some y) : ndOk P y := by
  unfold behindP at h
  split at h
  · rename_i q hq
    have rok := rowP_ok ok (part := n.1) (s := n.2) (q := q) (by rw [hq]; exact List.mem_singleton.mpr rfl)
    split at h
    · cases hr : rowP P q with
      | pass a p o =>
        rw [hr] at h rok
        obtain rfl := Option.some.inj h
        obtain ⟨_, ⟨p0, p1⟩, oo⟩ := rok
        unfold Prog.c at p1
        exact ⟨by show p.toNat < _; omega, oo⟩
      | _ => rw [hr] at h; cases h
    · cases h
  · cases h
theorem mem_needsTo {n : Nat} {q : Nd} : q ∈ needsTo n ↔ q.1 < n ∧ q.2 ∈ letters := by
  unfold needsTo
  rw [List.mem_flatMap]
  constructor
  · rintro ⟨p, hp, h⟩
    obtain ⟨s, hs, rfl⟩ := List.mem_map.mp h
    exact ⟨List.mem_range.mp hp, hs⟩
  · rintro ⟨h1, h2⟩
    exact ⟨q.1, List.mem_range.mpr h1, List.mem_map.mpr ⟨q.2, h2, rfl⟩⟩
theorem nodup_sub {α : Type} [DecidableEq α] : ∀ {l m : List α}, l.Nodup → (∀ x ∈ l, x ∈ m) → l.length ≤ m.length
  | [], _, _, _ => Nat.zero_le _
  | x :: l, m, nd, h => by
    have xm := h x List.mem_cons_self
    have nd' := List.nodup_cons.mp nd
    have z := nodup_sub (l := l) (m := m.erase x) nd'.2 fun y hy => (List.mem_erase_of_ne (fun e => nd'.1 (by rw [← e]; exact hy))).mpr (h y (List.mem_cons_of_mem _ hy))
    rw [List.length_erase_of_mem xm] at z
    have := List.length_pos_of_mem xm
    simp only [List.length_cons]
    omega
/-- what has stood so far: no need twice -/
structure Stood (P : Prog) (own index : Nat) (lr : List Nat) (n : Nd) (met : List Nd) (x : Nd) : Prop where
  last : ∃ m0, met = m0 ++ [x]
  nd : met.Nodup
  ok : ∀ q ∈ met, ndOk P q
  eq : met.length ≤ 20 ∧ lastP P own index lr n = lastF (behindP P own index lr) (21 - met.length) met x
theorem Stood.start {P : Prog} {own index : Nat} {lr : List Nat} {n : Nd} (h : ndOk P n) : Stood P own index lr n [n] n :=
  ⟨⟨[], rfl⟩, by simp, fun q hq => by rw [List.mem_singleton.mp hq]; exact h, by simp [lastP]⟩
theorem Stood.few {P : Prog} (ok : P.Ok) {own index : Nat} {lr : List Nat} {n x : Nd} {met : List Nd} (s : Stood P own index lr n met x) : met.length ≤ 16 := by
  have z := nodup_sub (m := needsTo P.parts.length) s.nd fun q hq => mem_needsTo.mpr (s.ok q hq)
  rw [needsTo_len] at z
  have := ok.four
  omega
theorem Stood.end_ {P : Prog} (ok : P.Ok) {own index : Nat} {lr : List Nat} {n x : Nd} {met : List Nd} (s : Stood P own index lr n met x) (h : ∀ y, behindP P own index lr x = some y → y ∈ met) : lastP P own index lr n = x := by
  have l := s.few ok
  rw [s.eq.2]
  obtain ⟨k, hk⟩ : ∃ k, 21 - met.length = k + 1 := ⟨20 - met.length, by omega⟩
  rw [hk, lastF]
  cases e : behindP P own index lr x with
  | none => rfl
  | some y => simp only [if_pos (h y e)]
theorem Stood.next {P : Prog} (ok : P.Ok) {own index : Nat} {lr : List Nat} {n x y : Nd} {met : List Nd} (s : Stood P own index lr n met x) (h : behindP P own index lr x = some y) (hy : y ∉ met) : Stood P own index lr n (met ++ [y]) y := by
  have l := s.few ok
  refine ⟨⟨met, rfl⟩, ?_, fun q hq => ?_, by rw [List.length_append, List.length_singleton]; omega, ?_⟩
  · rw [List.nodup_append]
    refine ⟨s.nd, by simp, fun a ha b hb => ?_⟩
    rw [List.mem_singleton.mp hb]
    exact fun e => hy (by rw [← e]; exact ha)
  · rcases List.mem_append.mp hq with z | z
    · exact s.ok q z
    · rw [List.mem_singleton.mp z]
      exact behind_ok ok h
  · obtain ⟨k, hk⟩ : ∃ k, 21 - met.length = k + 1 := ⟨20 - met.length, by omega⟩
    rw [s.eq.2, hk, lastF, h]
    simp only [if_neg hy]
    rw [List.length_append, List.length_singleton, show 21 - (met.length + 1) = k by omega]
theorem last_ok {P : Prog} (ok : P.Ok) {own index : Nat} {lr : List Nat} {n : Nd} (h : ndOk P n) : ndOk P (lastP P own index lr n) := by
  have go : ∀ k met x, Stood P own index lr n met x → 21 - met.length = k → ndOk P (lastP P own index lr n) := by
    intro k
    induction k with
    | zero => intro met x s e; have := s.few ok; omega
    | succ k ih =>
      intro met x s e
      have xo : ndOk P x := by
        obtain ⟨m0, hm⟩ := s.last
        exact s.ok x (by rw [hm]; exact List.mem_append_right _ (List.mem_singleton.mpr rfl))
      by_cases c : ∀ y, behindP P own index lr x = some y → y ∈ met
      · rw [s.end_ ok c]
        exact xo
      · have c := Classical.not_forall.mp c
        obtain ⟨y, hy⟩ := c
        have c := Classical.not_imp.mp hy
        exact ih _ _ (s.next ok c.1 c.2) (by rw [List.length_append, List.length_singleton]; omega)
  exact go _ _ _ (.start h) rfl
theorem eqv_nd (p q : Nd) : PyData.eqv (ndD p) (ndD q) = decide (p = q) := by
  obtain ⟨a, b⟩ := p
  obtain ⟨c, d⟩ := q
  simp only [ndD, nD, PyData.eqv, PyData.eqvAll, Bool.and_true]
  rw [Bool.eq_iff_iff, Bool.and_eq_true, beq_iff_eq, beq_iff_eq, decide_eq_true_eq, Prod.mk.injEq]
  exact ⟨fun z => ⟨Int.ofNat_inj.mp z.1, z.2⟩, fun z => ⟨congrArg _ z.1, z.2⟩⟩
theorem any_nd (l : List Nd) (q : Nd) : ((l.map ndD).any fun z => PyData.eqv z (ndD q)) = decide (q ∈ l) := by
  rw [List.any_map, Bool.eq_iff_iff, List.any_eq_true, decide_eq_true_eq]
  constructor
  · rintro ⟨p, hp, e⟩
    have e : PyData.eqv (ndD p) (ndD q) = true := e
    rw [eqv_nd, decide_eq_true_eq] at e
    rw [← e]
    exact hp
  · intro h
    exact ⟨q, h, by show PyData.eqv (ndD q) (ndD q) = true; rw [eqv_nd, decide_eq_true rfl]⟩
theorem lay_nds : ∀ {ps : List Nd}, (∀ p ∈ ps, p.2 ∈ letters) → PyData.canLayAll0 (ps.map ndD) = true
  | [], _ => by simp only [List.map_nil, PyData.canLayAll0]
  | p :: ps, h => by
    have h1 := strOk_letter (h p List.mem_cons_self)
    have h2 := lay_nds (ps := ps) fun q hq => h q (List.mem_cons_of_mem _ hq)
    simp only [List.map_cons, PyData.canLayAll0, ndD, nD, PyData.canLay0, h2, Bool.and_true, Bool.true_and]
    simpa only [PyData.canLay0] using h1
theorem depth_nds : ∀ ps : List Nd, PyData.depthAll (ps.map ndD) ≤ 2
  | [] => by simp only [List.map_nil, PyData.depthAll]; omega
  | p :: ps => by
    have := depth_nds ps
    simp only [List.map_cons, PyData.depthAll, ndD, nD, PyData.depth]
    omega
theorem shaped_nds {ps : List Nd} (h : ∀ p ∈ ps, p.2 ∈ letters) : SeqAt.shaped (.list (ps.map ndD)) = true := by
  have := depth_nds ps
  unfold SeqAt.shaped
  rw [Bool.and_eq_true, decide_eq_true_eq]
  refine ⟨by simp only [PyData.canLay0]; exact lay_nds h, by simp only [PyData.depth]; omega⟩
theorem shaped_nd {p : Nd} (h : p.2 ∈ letters) : SeqAt.shaped (ndD p) = true := by
  have h1 := lay_nds (ps := [p]) fun q hq => by rw [List.mem_singleton.mp hq]; exact h
  have h2 := depth_nds [p]
  simp only [List.map_cons, List.map_nil, PyData.canLayAll0, Bool.and_true] at h1
  simp only [List.map_cons, List.map_nil, PyData.depthAll] at h2
  unfold SeqAt.shaped
  rw [Bool.and_eq_true, decide_eq_true_eq]
  exact ⟨h1, by omega⟩
theorem noDicts_nds (ps : List Nd) : noDicts (ps.map ndD) = true := by
  induction ps with
  | nil => rfl
  | cons p ps ih => rw [List.map_cons, noDicts, ih]; rfl
/-- names of needs as they stand in rows -/
def nmN (p : Nm) : Nd := (p.1.toNat, p.2)
def ndM (n : Nd) : Nm := ((n.1 : Int), n.2)
theorem nm_nd {c : Int} {p : Nm} (h : nmOk c p) : nmD p = ndD (nmN p) := by
  have e : ((p.1.toNat : Nat) : Int) = p.1 := Int.toNat_of_nonneg h.1
  show PyData.tuple [.int p.1, .str p.2] = .tuple [.int ((p.1.toNat : Nat) : Int), .str p.2]
  rw [e]
theorem nms_nds {c : Int} {ps : List Nm} (h : ∀ p ∈ ps, nmOk c p) : ps.map nmD = (ps.map nmN).map ndD := by
  rw [List.map_map]
  exact List.map_congr_left fun p hp => nm_nd (h p hp)
theorem nm_ok {P : Prog} {p : Nm} (h : nmOk P.c p) : ndOk P (nmN p) := by
  have := h.1
  have := h.2.1
  unfold Prog.c at this
  exact ⟨by show p.1.toNat < _; omega, h.2.2⟩
/-- sorted numbers of the ready parts -/
noncomputable def rdyL (P : Prog) (own index : Nat) : List Nat := (List.range P.parts.length).filter fun k => @decide (RdyP P own index 4 k) (Classical.propDecidable _)
theorem rdyL_mem {P : Prog} {own index k : Nat} : k ∈ rdyL P own index ↔ RdyP P own index 4 k := by
  unfold rdyL
  rw [List.mem_filter, List.mem_range]
  exact ⟨fun z => @of_decide_eq_true _ (Classical.propDecidable _) z.2, fun z => ⟨z.lt, @decide_eq_true _ (Classical.propDecidable _) z⟩⟩
theorem rdy_eq {P : Prog} {own index : Nat} {l : List Nat} (up : l.Pairwise (· < ·)) (mem : ∀ k, k ∈ l ↔ RdyP P own index 4 k) : l = rdyL P own index :=
  ascN up (List.Pairwise.filter _ List.pairwise_lt_range) fun k => by rw [mem, rdyL_mem]
theorem due_rdy {P : Prog} {own index : Nat} {ds : List Nat} (len : ds.length = P.parts.length) (lev : ∀ k d, ds[k]? = some d → LevP P own index k d) : dueL ds = rdyL P own index :=
  (due_eq len lev (List.Pairwise.filter _ List.pairwise_lt_range) fun k => rdyL_mem).symm
theorem before_eq {P : Prog} {own index : Nat} {ds : List Nat} (len : ds.length = P.parts.length) (lev : ∀ k d, ds[k]? = some d → LevP P own index k d) {o i : Nat} (ol : o < ds.length) :
    (if o = own then decide (i < index) else decide (0 < ds.getD o 0)) = aheadB own index (rdyL P own index) (o, i) := by
  have no := due_own lev
  rw [← due_in ol, ← due_rdy len lev]
  unfold aheadB
  dsimp only
  by_cases e : o = own
  · subst e
    simp [no]
  · simp [e]
noncomputable def shortNm (P : Prog) (own index : Nat) (p : Nm) : Nm := ndM (lastP P own index (rdyL P own index) (nmN p))
noncomputable def shortR (P : Prog) (own index : Nat) : Row → Row
  | .give n ns b => .give n (ns.map (shortNm P own index)) b
  | .show_ ns b => .show_ (ns.map (shortNm P own index)) b
  | r => r
noncomputable def shortRows (P : Prog) (own : Nat) (rs : List Row) : List Row := (List.range rs.length).map fun i => shortR P own i (rs.getD i .out)
noncomputable def shortP (P : Prog) : Prog := { P with parts := (List.range P.parts.length).map fun o => shortRows P o (rowsOfP P o) }
end Lb

set_option Elab.async false
set_option linter.all false
set_option maxRecDepth 100000
set_option maxHeartbeats 4000000
/-! the give rows with a need that is not sure; what the tool leaves out -/
namespace Lb
open PySem PySem.Spec PyProof.Rows L2
def giveL (P : Prog) : List (Nat × Nat) := (placesP P P.parts.length).filter fun q => decide ((rowP P q).word = ("give" : Str))
noncomputable def sureL (P : Prog) (q : Nat × Nat) : List Nd := (needsTo P.parts.length).filter (sureB P q.1 q.2 (rdyL P q.1 q.2))
noncomputable def unsureQ (P : Prog) (q : Nat × Nat) : Bool := !((needsL (rowP P q)).all fun n => decide (nmN n ∈ sureL P q))
noncomputable def unsureL (P : Prog) : List (Nat × Nat) := (giveL P).filter (unsureQ P)
theorem unsure_give {P : Prog} {q : Nat × Nat} (h : q ∈ unsureL P) : (rowP P q).word = ("give" : Str) := by
  have z := (List.mem_filter.mp h).1
  exact of_decide_eq_true (List.mem_filter.mp z).2
theorem needs_ok {c : Int} {r : Row} (ok : r.ok c) : (∀ n ∈ needsL r, nmOk c n) ∧ (needsL r).length ≤ 4 := by
  cases r with
  | load p => exact ⟨fun n h => absurd h List.not_mem_nil, Nat.zero_le _⟩
  | out => exact ⟨fun n h => absurd h List.not_mem_nil, Nat.zero_le _⟩
  | pass m p o => exact ⟨fun n h => absurd h List.not_mem_nil, Nat.zero_le _⟩
  | give m ns b => exact ⟨ok.2.2, Nat.le_trans ok.2.1 (by decide)⟩
  | show_ ns b => exact ⟨ok.2, Nat.le_trans ok.1 (by decide)⟩
  | late m p ns => exact ⟨ok.2.2.2, Nat.le_trans ok.2.2.1 (by decide)⟩
noncomputable def keptB (P : Prog) (os : List Str) (lk : List (Nat × Nat)) (q : Nat × Nat) : Bool := open Classical in decide (∃ w, Kept P os lk (w, q))
theorem keptB_iff {P : Prog} {os : List Str} {lk : List (Nat × Nat)} {q : Nat × Nat} : keptB P os lk q = true ↔ ∃ w, Kept P os lk (w, q) := by
  classical
  unfold keptB
  rw [decide_eq_true_eq]
/-- the places that no way keeps -/
noncomputable def leftL (P : Prog) (os : List Str) (lk : List (Nat × Nat)) : List (Nat × Nat) := (placesP P P.parts.length).filter fun q => !keptB P os lk q
theorem leftL_mem {P : Prog} {os : List Str} {lk : List (Nat × Nat)} {q : Nat × Nat} : q ∈ leftL P os lk ↔ q ∈ placesP P P.parts.length ∧ ¬ ∃ w, Kept P os lk (w, q) := by
  unfold leftL
  rw [List.mem_filter, Bool.not_eq_true', ← keptB_iff, Bool.not_eq_true]
/-- what the dict of ways holds, told by the search's end -/
theorem KW.kept {S : List Addr} {H : Hp} {kvs : List (NestedKey × V)} {P : Prog} {os : List Str} {lk : List (Nat × Nat)} {n : Nat} (e : (runS P os lk n).level = []) (r : KW S H kvs (runS P os lk n).ways) (q : Nat × Nat) :
    (valV kvs (plK q)).isSome = keptB P os lk q := by
  rw [r.look q, Bool.eq_iff_iff, decide_eq_true_eq, keptB_iff]
  exact (run_end e).2 q
section
variable {X : Cx}
def rNotInTD (K : PySem.W.Frag) : R2 := fun x y H Q => ∃ d ds, Dp K H x d ∧ Dp K H y (.tuple ds) ∧ SeqAt.shaped d = true ∧ SeqAt.shaped (.tuple ds) = true ∧ Q (.bl (!ds.any fun z => PyData.eqv z d)) H
theorem op_notInTD (hu : X.A.units + 65 < cLine) : OpR X (compareOp .NotIn) (rNotInTD X.K) := by
  intro pins s σ H x y v u Q I rx ry h
  obtain ⟨d, ds, dx, dy, sx, sy, q⟩ := h
  obtain ⟨as, reads1⟩ := Dp.reads I d x v dx rx
  obtain ⟨bs, reads2⟩ := Dp.reads I (.tuple ds) y u dy ry
  exact SeqAt.notIn_tuple_reads reads2 reads1 (SeqAt.canLay_of_shaped sy) (SeqAt.canLay_of_shaped sx) (room_in_shaped sx hu) ⟨.bl _, H, I, rfl, q⟩
end
def emptyL (P : Prog) : List Nat := (List.range P.parts.length).filter fun k => (rowsOfP P k).isEmpty
theorem emptyL_mem {P : Prog} {k : Nat} : k ∈ emptyL P ↔ k < P.parts.length ∧ rowsOfP P k = [] := by
  unfold emptyL
  rw [List.mem_filter, List.mem_range, List.isEmpty_iff]
theorem eqv_rows0 (rs : List Row) : PyData.eqv (rowsD rs) (.tuple []) = rs.isEmpty := by
  cases rs with
  | nil => decide +kernel
  | cons q l => simp only [rowsD, List.map_cons, PyData.eqv, PyData.eqvAll, List.isEmpty_cons]
theorem strs_rep {S : List Addr} {H : Hp} : ∀ l : List Str, Reps S H (l.map V.str) (l.map PyData.str)
  | [] => .nil
  | s :: l => .cons (.str s) (strs_rep l)
theorem strs_of {S : List Addr} {H : Hp} : ∀ {os : List Str} {xs : List V}, Reps S H xs (os.map PyData.str) → xs = os.map V.str
  | [], _, .nil => rfl
  | o :: os, _, .cons r t => by
    obtain rfl := r.strV
    rw [strs_of t]
    rfl
end Lb

set_option Elab.async false
set_option linter.all false
set_option maxRecDepth 100000
set_option maxHeartbeats 4000000

namespace Lb
open PySem PySem.Spec PyProof.Rows L2
def top (i : Nat) : Stmt := PySem.Challenge.pw_leanbundle_k75_whole_more_options_leave.main.body.getD i (.Pass ⟨0, 0, 0, 0⟩)
abbrev s_is_integer : Stmt := top 17
abbrev N_is_integer : List Str := ["thing"]
theorem sc_is_integer : FnScope N_is_integer ["thing"] (defScope s_is_integer) := ⟨rfl, rfl, rfl, by decide +kernel, rfl, by decide +kernel, by decide +kernel⟩
abbrev s_is_number : Stmt := top 18
abbrev N_is_number : List Str := ["thing", "many"]
theorem sc_is_number : FnScope N_is_number ["thing", "many"] (defScope s_is_number) := ⟨rfl, rfl, rfl, by decide +kernel, rfl, by decide +kernel, by decide +kernel⟩
abbrev s_is_name : Stmt := top 19
abbrev N_is_name : List Str := ["thing"]
theorem sc_is_name : FnScope N_is_name ["thing"] (defScope s_is_name) := ⟨rfl, rfl, rfl, by decide +kernel, rfl, by decide +kernel, by decide +kernel⟩
abbrev s_is_tuple : Stmt := top 20
abbrev N_is_tuple : List Str := ["thing", "least", "most"]
theorem sc_is_tuple : FnScope N_is_tuple ["thing", "least", "most"] (defScope s_is_tuple) := ⟨rfl, rfl, rfl, by decide +kernel, rfl, by decide +kernel, by decide +kernel⟩
abbrev s_is_ascending : Stmt := top 21
abbrev N_is_ascending : List Str := ["things", "low", "high"]
theorem sc_is_ascending : FnScope N_is_ascending ["things"] (defScope s_is_ascending) := ⟨rfl, rfl, rfl, by decide +kernel, rfl, by decide +kernel, by decide +kernel⟩
abbrev s_is_need : Stmt := top 22
abbrev N_is_need : List Str := ["thing", "many_parts"]
theorem sc_is_need : FnScope N_is_need ["thing", "many_parts"] (defScope s_is_need) := ⟨rfl, rfl, rfl, by decide +kernel, rfl, by decide +kernel, by decide +kernel⟩
abbrev s_are_needs : Stmt := top 23
abbrev N_are_needs : List Str := ["thing", "many_parts", "most", "need"]
theorem sc_are_needs : FnScope N_are_needs ["thing", "many_parts", "most"] (defScope s_are_needs) := ⟨rfl, rfl, rfl, by decide +kernel, rfl, by decide +kernel, by decide +kernel⟩
abbrev s_starts_with_word : Stmt := top 24
abbrev N_starts_with_word : List Str := ["thing"]
theorem sc_starts_with_word : FnScope N_starts_with_word ["thing"] (defScope s_starts_with_word) := ⟨rfl, rfl, rfl, by decide +kernel, rfl, by decide +kernel, by decide +kernel⟩
abbrev s_is_row : Stmt := top 25
abbrev N_is_row : List Str := ["thing", "many_parts", "word"]
theorem sc_is_row : FnScope N_is_row ["thing", "many_parts"] (defScope s_is_row) := ⟨rfl, rfl, rfl, by decide +kernel, rfl, by decide +kernel, by decide +kernel⟩
abbrev s_is_give : Stmt := top 26
abbrev N_is_give : List Str := ["row", "many_parts"]
theorem sc_is_give : FnScope N_is_give ["row", "many_parts"] (defScope s_is_give) := ⟨rfl, rfl, rfl, by decide +kernel, rfl, by decide +kernel, by decide +kernel⟩
abbrev s_is_late : Stmt := top 27
abbrev N_is_late : List Str := ["row", "many_parts"]
theorem sc_is_late : FnScope N_is_late ["row", "many_parts"] (defScope s_is_late) := ⟨rfl, rfl, rfl, by decide +kernel, rfl, by decide +kernel, by decide +kernel⟩
abbrev s_are_parts : Stmt := top 28
abbrev N_are_parts : List Str := ["thing", "rows", "part", "row"]
theorem sc_are_parts : FnScope N_are_parts ["thing"] (defScope s_are_parts) := ⟨rfl, rfl, rfl, by decide +kernel, rfl, by decide +kernel, by decide +kernel⟩
abbrev s_are_marks : Stmt := top 29
abbrev N_are_marks : List Str := ["thing", "many_parts", "mark"]
theorem sc_are_marks : FnScope N_are_marks ["thing", "many_parts"] (defScope s_are_marks) := ⟨rfl, rfl, rfl, by decide +kernel, rfl, by decide +kernel, by decide +kernel⟩
abbrev s_are_entries : Stmt := top 30
abbrev N_are_entries : List Str := ["thing", "many_parts", "part"]
theorem sc_are_entries : FnScope N_are_entries ["thing", "many_parts"] (defScope s_are_entries) := ⟨rfl, rfl, rfl, by decide +kernel, rfl, by decide +kernel, by decide +kernel⟩
abbrev s_are_opens : Stmt := top 31
abbrev N_are_opens : List Str := ["thing", "many_parts"]
theorem sc_are_opens : FnScope N_are_opens ["thing", "many_parts"] (defScope s_are_opens) := ⟨rfl, rfl, rfl, by decide +kernel, rfl, by decide +kernel, by decide +kernel⟩
abbrev s_is_program : Stmt := top 32
abbrev N_is_program : List Str := ["thing", "many_parts"]
theorem sc_is_program : FnScope N_is_program ["thing"] (defScope s_is_program) := ⟨rfl, rfl, rfl, by decide +kernel, rfl, by decide +kernel, by decide +kernel⟩
abbrev s_demand_program : Stmt := top 33
abbrev N_demand_program : List Str := ["thing"]
theorem sc_demand_program : FnScope N_demand_program ["thing"] (defScope s_demand_program) := ⟨rfl, rfl, rfl, by decide +kernel, rfl, by decide +kernel, by decide +kernel⟩
abbrev s_is_place : Stmt := top 34
abbrev N_is_place : List Str := ["program", "thing", "parts"]
theorem sc_is_place : FnScope N_is_place ["program", "thing"] (defScope s_is_place) := ⟨rfl, rfl, rfl, by decide +kernel, rfl, by decide +kernel, by decide +kernel⟩
abbrev s_demand_place : Stmt := top 35
abbrev N_demand_place : List Str := ["program", "thing"]
theorem sc_demand_place : FnScope N_demand_place ["program", "thing"] (defScope s_demand_place) := ⟨rfl, rfl, rfl, by decide +kernel, rfl, by decide +kernel, by decide +kernel⟩
abbrev s_row_at : Stmt := top 36
abbrev N_row_at : List Str := ["program", "place"]
theorem sc_row_at : FnScope N_row_at ["program", "place"] (defScope s_row_at) := ⟨rfl, rfl, rfl, by decide +kernel, rfl, by decide +kernel, by decide +kernel⟩
abbrev s_is_risky : Stmt := top 37
abbrev N_is_risky : List Str := ["row"]
theorem sc_is_risky : FnScope N_is_risky ["row"] (defScope s_is_risky) := ⟨rfl, rfl, rfl, by decide +kernel, rfl, by decide +kernel, by decide +kernel⟩
abbrev s_needs_of : Stmt := top 38
abbrev N_needs_of : List Str := ["row"]
theorem sc_needs_of : FnScope N_needs_of ["row"] (defScope s_needs_of) := ⟨rfl, rfl, rfl, by decide +kernel, rfl, by decide +kernel, by decide +kernel⟩
abbrev s_is_loading : Stmt := top 39
abbrev N_is_loading : List Str := ["row"]
theorem sc_is_loading : FnScope N_is_loading ["row"] (defScope s_is_loading) := ⟨rfl, rfl, rfl, by decide +kernel, rfl, by decide +kernel, by decide +kernel⟩
abbrev s_part_named : Stmt := top 40
abbrev N_part_named : List Str := ["row"]
theorem sc_part_named : FnScope N_part_named ["row"] (defScope s_part_named) := ⟨rfl, rfl, rfl, by decide +kernel, rfl, by decide +kernel, by decide +kernel⟩
abbrev s_gives_name : Stmt := top 41
abbrev N_gives_name : List Str := ["row", "name"]
theorem sc_gives_name : FnScope N_gives_name ["row", "name"] (defScope s_gives_name) := ⟨rfl, rfl, rfl, by decide +kernel, rfl, by decide +kernel, by decide +kernel⟩
abbrev s_givers_of : Stmt := top 42
abbrev N_givers_of : List Str := ["program", "need", "part", "name", "index", "row"]
theorem sc_givers_of : FnScope N_givers_of ["program", "need"] (defScope s_givers_of) := ⟨rfl, rfl, rfl, by decide +kernel, rfl, by decide +kernel, by decide +kernel⟩
abbrev s_all_rows : Stmt := top 43
abbrev N_all_rows : List Str := ["program", "part", "rows", "index"]
theorem sc_all_rows : FnScope N_all_rows ["program"] (defScope s_all_rows) := ⟨rfl, rfl, rfl, by decide +kernel, rfl, by decide +kernel, by decide +kernel⟩
abbrev s_doors_of : Stmt := top 44
abbrev N_doors_of : List Str := ["program", "named", "rows", "row"]
theorem sc_doors_of : FnScope N_doors_of ["program"] (defScope s_doors_of) := ⟨rfl, rfl, rfl, by decide +kernel, rfl, by decide +kernel, by decide +kernel⟩
abbrev s_links_of : Stmt := top 46
abbrev N_links_of : List Str := ["program", "rows", "row"]
theorem sc_links_of : FnScope N_links_of ["program"] (defScope s_links_of) := ⟨rfl, rfl, rfl, by decide +kernel, rfl, by decide +kernel, by decide +kernel⟩
abbrev s_coming_links_of : Stmt := top 47
abbrev N_coming_links_of : List Str := ["program", "doors", "named", "rows"]
theorem sc_coming_links_of : FnScope N_coming_links_of ["program"] (defScope s_coming_links_of) := ⟨rfl, rfl, rfl, by decide +kernel, rfl, by decide +kernel, by decide +kernel⟩
abbrev s_parts_behind : Stmt := top 48
abbrev N_parts_behind : List Str := ["links", "part", "found", "waiting", "named"]
theorem sc_parts_behind : FnScope N_parts_behind ["links", "part"] (defScope s_parts_behind) := ⟨rfl, rfl, rfl, by decide +kernel, rfl, by decide +kernel, by decide +kernel⟩
abbrev s_ready_parts : Stmt := top 50
abbrev N_ready_parts : List Str := ["program", "place"]
theorem sc_ready_parts : FnScope N_ready_parts ["program", "place"] (defScope s_ready_parts) := ⟨rfl, rfl, rfl, by decide +kernel, rfl, by decide +kernel, by decide +kernel⟩
abbrev s_ways_to_ready_parts : Stmt := top 51
abbrev N_ways_to_ready_parts : List Str := ["program", "place", "own", "index", "free", "ways", "waiting", "longer", "way", "part", "many", "at", "row", "named"]
theorem sc_ways_to_ready_parts : FnScope N_ways_to_ready_parts ["program", "place"] (defScope s_ways_to_ready_parts) := ⟨rfl, rfl, rfl, by decide +kernel, rfl, by decide +kernel, by decide +kernel⟩
abbrev s_parts_that_stay_away : Stmt := top 52
abbrev N_parts_that_stay_away : List Str := ["program", "own", "links", "part"]
theorem sc_parts_that_stay_away : FnScope N_parts_that_stay_away ["program", "own"] (defScope s_parts_that_stay_away) := ⟨rfl, rfl, rfl, by decide +kernel, rfl, by decide +kernel, by decide +kernel⟩
abbrev s_sure_names : Stmt := top 53
abbrev N_sure_names : List Str := ["program", "place", "ready", "needs", "part", "name", "need"]
theorem sc_sure_names : FnScope N_sure_names ["program", "place"] (defScope s_sure_names) := ⟨rfl, rfl, rfl, by decide +kernel, rfl, by decide +kernel, by decide +kernel⟩
abbrev s_is_sure : Stmt := top 54
abbrev N_is_sure : List Str := ["program", "place", "ready", "need", "givers", "giver"]
theorem sc_is_sure : FnScope N_is_sure ["program", "place", "ready", "need"] (defScope s_is_sure) := ⟨rfl, rfl, rfl, by decide +kernel, rfl, by decide +kernel, by decide +kernel⟩
abbrev s_is_done_before : Stmt := top 55
abbrev N_is_done_before : List Str := ["place", "ready", "other"]
theorem sc_is_done_before : FnScope N_is_done_before ["place", "ready", "other"] (defScope s_is_done_before) := ⟨rfl, rfl, rfl, by decide +kernel, rfl, by decide +kernel, by decide +kernel⟩
abbrev s_is_options : Stmt := top 58
abbrev N_is_options : List Str := ["thing", "word"]
theorem sc_is_options : FnScope N_is_options ["thing"] (defScope s_is_options) := ⟨rfl, rfl, rfl, by decide +kernel, rfl, by decide +kernel, by decide +kernel⟩
abbrev s_demand_options : Stmt := top 59
abbrev N_demand_options : List Str := ["thing"]
theorem sc_demand_options : FnScope N_demand_options ["thing"] (defScope s_demand_options) := ⟨rfl, rfl, rfl, by decide +kernel, rfl, by decide +kernel, by decide +kernel⟩
abbrev s_Tool___init__ : Stmt := inClass (top 60) 0
abbrev N_Tool___init__ : List Str := ["self", "program", "options", "lacking", "links", "part", "place", "why"]
theorem sc_Tool___init__ : FnScope N_Tool___init__ ["self", "program", "options", "lacking"] (defScope s_Tool___init__) := ⟨rfl, rfl, rfl, by decide +kernel, rfl, by decide +kernel, by decide +kernel⟩
abbrev s_Tool_asks : Stmt := inClass (top 60) 1
abbrev N_Tool_asks : List Str := ["self", "place", "lacking", "row", "whys"]
theorem sc_Tool_asks : FnScope N_Tool_asks ["self", "place", "lacking"] (defScope s_Tool_asks) := ⟨rfl, rfl, rfl, by decide +kernel, rfl, by decide +kernel, by decide +kernel⟩
abbrev s_Tool_waits : Stmt := inClass (top 60) 2
abbrev N_Tool_waits : List Str := ["self", "place"]
theorem sc_Tool_waits : FnScope N_Tool_waits ["self", "place"] (defScope s_Tool_waits) := ⟨rfl, rfl, rfl, by decide +kernel, rfl, by decide +kernel, by decide +kernel⟩
abbrev s_Tool_first_links : Stmt := inClass (top 60) 3
abbrev N_Tool_first_links : List Str := ["self", "found", "why", "place", "need", "giver"]
theorem sc_Tool_first_links : FnScope N_Tool_first_links ["self"] (defScope s_Tool_first_links) := ⟨rfl, rfl, rfl, by decide +kernel, rfl, by decide +kernel, by decide +kernel⟩
abbrev s_Tool_links_behind : Stmt := inClass (top 60) 4
abbrev N_Tool_links_behind : List Str := ["self", "link", "why", "place", "found", "need", "giver", "other", "_"]
theorem sc_Tool_links_behind : FnScope N_Tool_links_behind ["self", "link"] (defScope s_Tool_links_behind) := ⟨rfl, rfl, rfl, by decide +kernel, rfl, by decide +kernel, by decide +kernel⟩
abbrev s_Tool_wants : Stmt := inClass (top 60) 5
abbrev N_Tool_wants : List Str := ["self", "place", "row"]
theorem sc_Tool_wants : FnScope N_Tool_wants ["self", "place"] (defScope s_Tool_wants) := ⟨rfl, rfl, rfl, by decide +kernel, rfl, by decide +kernel, by decide +kernel⟩
abbrev s_Tool_loads : Stmt := inClass (top 60) 6
abbrev N_Tool_loads : List Str := ["self", "place", "part", "row"]
theorem sc_Tool_loads : FnScope N_Tool_loads ["self", "place", "part"] (defScope s_Tool_loads) := ⟨rfl, rfl, rfl, by decide +kernel, rfl, by decide +kernel, by decide +kernel⟩
abbrev s_Tool_kept_ways : Stmt := inClass (top 60) 7
abbrev N_Tool_kept_ways : List Str := ["self", "ways", "met", "level", "longer", "way", "link"]
theorem sc_Tool_kept_ways : FnScope N_Tool_kept_ways ["self"] (defScope s_Tool_kept_ways) := ⟨rfl, rfl, rfl, by decide +kernel, rfl, by decide +kernel, by decide +kernel⟩
abbrev s_give_rows : Stmt := top 61
abbrev N_give_rows : List Str := ["program", "place"]
theorem sc_give_rows : FnScope N_give_rows ["program"] (defScope s_give_rows) := ⟨rfl, rfl, rfl, by decide +kernel, rfl, by decide +kernel, by decide +kernel⟩
abbrev s_unsure_rows : Stmt := top 62
abbrev N_unsure_rows : List Str := ["program", "place", "need"]
theorem sc_unsure_rows : FnScope N_unsure_rows ["program"] (defScope s_unsure_rows) := ⟨rfl, rfl, rfl, by decide +kernel, rfl, by decide +kernel, by decide +kernel⟩
abbrev s_left_out : Stmt := top 63
abbrev N_left_out : List Str := ["program", "options", "lacking", "kept", "place"]
theorem sc_left_out : FnScope N_left_out ["program", "options", "lacking"] (defScope s_left_out) := ⟨rfl, rfl, rfl, by decide +kernel, rfl, by decide +kernel, by decide +kernel⟩
abbrev s_shaken_lot : Stmt := top 64
abbrev N_shaken_lot : List Str := ["program", "options"]
theorem sc_shaken_lot : FnScope N_shaken_lot ["program", "options"] (defScope s_shaken_lot) := ⟨rfl, rfl, rfl, by decide +kernel, rfl, by decide +kernel, by decide +kernel⟩
abbrev s_law_pool : Stmt := top 66
abbrev N_law_pool : List Str := ["script", "cell"]
theorem sc_law_pool : FnScope N_law_pool ["script"] (defScope s_law_pool) := ⟨rfl, rfl, rfl, by decide +kernel, rfl, by decide +kernel, by decide +kernel⟩
abbrev s_law_draw : Stmt := top 67
abbrev N_law_draw : List Str := ["pool", "limit", "k", "at", "cell", "number", "mixed", "prime"]
theorem sc_law_draw : FnScope N_law_draw ["pool", "limit"] (defScope s_law_draw) := ⟨rfl, rfl, rfl, by decide +kernel, rfl, by decide +kernel, by decide +kernel⟩
abbrev s_law_subset : Stmt := top 68
abbrev N_law_subset : List Str := ["pool", "items", "most", "kept", "item"]
theorem sc_law_subset : FnScope N_law_subset ["pool", "items", "most"] (defScope s_law_subset) := ⟨rfl, rfl, rfl, by decide +kernel, rfl, by decide +kernel, by decide +kernel⟩
abbrev s_law_need : Stmt := top 69
abbrev N_law_need : List Str := ["pool", "count", "given"]
theorem sc_law_need : FnScope N_law_need ["pool", "count", "given"] (defScope s_law_need) := ⟨rfl, rfl, rfl, by decide +kernel, rfl, by decide +kernel, by decide +kernel⟩
abbrev s_law_needs : Stmt := top 70
abbrev N_law_needs : List Str := ["pool", "count", "given", "most", "k"]
theorem sc_law_needs : FnScope N_law_needs ["pool", "count", "given", "most"] (defScope s_law_needs) := ⟨rfl, rfl, rfl, by decide +kernel, rfl, by decide +kernel, by decide +kernel⟩
abbrev s_law_words : Stmt := top 71
abbrev N_law_words : List Str := ["pool", "count", "most_rows", "most_outs", "words", "left", "outs", "part", "row", "k", "word"]
theorem sc_law_words : FnScope N_law_words ["pool", "count", "most_rows", "most_outs"] (defScope s_law_words) := ⟨rfl, rfl, rfl, by decide +kernel, rfl, by decide +kernel, by decide +kernel⟩
abbrev s_law_with_show : Stmt := top 72
abbrev N_law_with_show : List Str := ["words", "row", "word", "name", "full", "at", "k"]
theorem sc_law_with_show : FnScope N_law_with_show ["words"] (defScope s_law_with_show) := ⟨rfl, rfl, rfl, by decide +kernel, rfl, by decide +kernel, by decide +kernel⟩
abbrev s_law_row : Stmt := top 73
abbrev N_law_row : List Str := ["pool", "word", "name", "count", "given"]
theorem sc_law_row : FnScope N_law_row ["pool", "word", "name", "count", "given"] (defScope s_law_row) := ⟨rfl, rfl, rfl, by decide +kernel, rfl, by decide +kernel, by decide +kernel⟩
abbrev s_law_program : Stmt := top 74
abbrev N_law_program : List Str := ["pool", "most_parts", "most_rows", "most_outs", "most_entries", "most_opens", "count", "entries", "words", "given", "part", "one", "opens", "marks", "parts", "row", "word", "name"]
theorem sc_law_program : FnScope N_law_program ["pool", "most_parts", "most_rows", "most_outs", "most_entries", "most_opens"] (defScope s_law_program) := ⟨rfl, rfl, rfl, by decide +kernel, rfl, by decide +kernel, by decide +kernel⟩
abbrev s_law_places : Stmt := top 75
abbrev N_law_places : List Str := ["program", "places", "part", "k"]
theorem sc_law_places : FnScope N_law_places ["program"] (defScope s_law_places) := ⟨rfl, rfl, rfl, by decide +kernel, rfl, by decide +kernel, by decide +kernel⟩
abbrev s_law_at : Stmt := top 76
abbrev N_law_at : List Str := ["program", "place"]
theorem sc_law_at : FnScope N_law_at ["program", "place"] (defScope s_law_at) := ⟨rfl, rfl, rfl, by decide +kernel, rfl, by decide +kernel, by decide +kernel⟩
abbrev s_law_options : Stmt := top 77
abbrev N_law_options : List Str := ["pool", "word"]
theorem sc_law_options : FnScope N_law_options ["pool"] (defScope s_law_options) := ⟨rfl, rfl, rfl, by decide +kernel, rfl, by decide +kernel, by decide +kernel⟩
abbrev s_law_is_lot : Stmt := top 78
abbrev N_law_is_lot : List Str := ["program", "lot", "place"]
theorem sc_law_is_lot : FnScope N_law_is_lot ["program", "lot"] (defScope s_law_is_lot) := ⟨rfl, rfl, rfl, by decide +kernel, rfl, by decide +kernel, by decide +kernel⟩
abbrev s_law : Stmt := top 79
abbrev N_law : List Str := ["script", "pool", "options", "some", "program", "empty", "lot", "greater", "place", "row", "word", "k"]
theorem sc_law : FnScope N_law ["script"] (defScope s_law) := ⟨rfl, rfl, rfl, by decide +kernel, rfl, by decide +kernel, by decide +kernel⟩
structure Ad where
  (f_is_integer f_is_number f_is_name f_is_tuple f_is_ascending f_is_need f_are_needs f_starts_with_word f_is_row f_is_give f_is_late f_are_parts f_are_marks f_are_entries f_are_opens f_is_program f_demand_program f_is_place f_demand_place f_row_at f_is_risky f_needs_of f_is_loading f_part_named f_gives_name f_givers_of f_all_rows f_doors_of f_links_of f_coming_links_of f_parts_behind f_ready_parts f_ways_to_ready_parts f_parts_that_stay_away f_sure_names f_is_sure f_is_done_before f_is_options f_demand_options f_Tool___init__ f_Tool_asks f_Tool_waits f_Tool_first_links f_Tool_links_behind f_Tool_wants f_Tool_loads f_Tool_kept_ways f_give_rows f_unsure_rows f_left_out f_shaken_lot f_law_pool f_law_draw f_law_subset f_law_need f_law_needs f_law_words f_law_with_show f_law_row f_law_program f_law_places f_law_at f_law_options f_law_is_lot f_law o_NAMES o_NEEDS_AT o_OPTIONS k_Tool : Addr)
  (d_is_integer d_is_number d_is_name d_is_tuple d_is_ascending d_is_need d_are_needs d_starts_with_word d_is_row d_is_give d_is_late d_are_parts d_are_marks d_are_entries d_are_opens d_is_program d_demand_program d_is_place d_demand_place d_row_at d_is_risky d_needs_of d_is_loading d_part_named d_gives_name d_givers_of d_all_rows d_doors_of d_links_of d_coming_links_of d_parts_behind d_ready_parts d_ways_to_ready_parts d_parts_that_stay_away d_sure_names d_is_sure d_is_done_before d_is_options d_demand_options d_Tool___init__ d_Tool_asks d_Tool_waits d_Tool_first_links d_Tool_links_behind d_Tool_wants d_Tool_loads d_Tool_kept_ways d_give_rows d_unsure_rows d_left_out d_shaken_lot d_law_pool d_law_draw d_law_subset d_law_need d_law_needs d_law_words d_law_with_show d_law_row d_law_program d_law_places d_law_at d_law_options d_law_is_lot d_law : FuncData)
abbrev FnP (K : PySem.W.Frag) (x : Str) (st : Stmt) (f : Addr) (fd : FuncData) : Prop := FunD K x x (defArgs st) (defBody st) (defScope st) [] [] f fd
structure Txt (K : PySem.W.Frag) (w : World) (mg : Str → Option Value) (A : Ad) : Prop where
  m_is_integer : mg "is_integer" = some (.ref A.f_is_integer)
  F_is_integer : FnP K "is_integer" s_is_integer A.f_is_integer A.d_is_integer
  m_is_number : mg "is_number" = some (.ref A.f_is_number)
  F_is_number : FnP K "is_number" s_is_number A.f_is_number A.d_is_number
  m_is_name : mg "is_name" = some (.ref A.f_is_name)
  F_is_name : FnP K "is_name" s_is_name A.f_is_name A.d_is_name
  m_is_tuple : mg "is_tuple" = some (.ref A.f_is_tuple)
  F_is_tuple : FnP K "is_tuple" s_is_tuple A.f_is_tuple A.d_is_tuple
  m_is_ascending : mg "is_ascending" = some (.ref A.f_is_ascending)
  F_is_ascending : FnP K "is_ascending" s_is_ascending A.f_is_ascending A.d_is_ascending
  m_is_need : mg "is_need" = some (.ref A.f_is_need)
  F_is_need : FnP K "is_need" s_is_need A.f_is_need A.d_is_need
  m_are_needs : mg "are_needs" = some (.ref A.f_are_needs)
  F_are_needs : FnP K "are_needs" s_are_needs A.f_are_needs A.d_are_needs
  m_starts_with_word : mg "starts_with_word" = some (.ref A.f_starts_with_word)
  F_starts_with_word : FnP K "starts_with_word" s_starts_with_word A.f_starts_with_word A.d_starts_with_word
  m_is_row : mg "is_row" = some (.ref A.f_is_row)
  F_is_row : FnP K "is_row" s_is_row A.f_is_row A.d_is_row
  m_is_give : mg "is_give" = some (.ref A.f_is_give)
  F_is_give : FnP K "is_give" s_is_give A.f_is_give A.d_is_give
  m_is_late : mg "is_late" = some (.ref A.f_is_late)
  F_is_late : FnP K "is_late" s_is_late A.f_is_late A.d_is_late
  m_are_parts : mg "are_parts" = some (.ref A.f_are_parts)
  F_are_parts : FnP K "are_parts" s_are_parts A.f_are_parts A.d_are_parts
  m_are_marks : mg "are_marks" = some (.ref A.f_are_marks)
  F_are_marks : FnP K "are_marks" s_are_marks A.f_are_marks A.d_are_marks
  m_are_entries : mg "are_entries" = some (.ref A.f_are_entries)
  F_are_entries : FnP K "are_entries" s_are_entries A.f_are_entries A.d_are_entries
  m_are_opens : mg "are_opens" = some (.ref A.f_are_opens)
  F_are_opens : FnP K "are_opens" s_are_opens A.f_are_opens A.d_are_opens
  m_is_program : mg "is_program" = some (.ref A.f_is_program)
  F_is_program : FnP K "is_program" s_is_program A.f_is_program A.d_is_program
  m_demand_program : mg "demand_program" = some (.ref A.f_demand_program)
  F_demand_program : FnP K "demand_program" s_demand_program A.f_demand_program A.d_demand_program
  m_is_place : mg "is_place" = some (.ref A.f_is_place)
  F_is_place : FnP K "is_place" s_is_place A.f_is_place A.d_is_place
  m_demand_place : mg "demand_place" = some (.ref A.f_demand_place)
  F_demand_place : FnP K "demand_place" s_demand_place A.f_demand_place A.d_demand_place
  m_row_at : mg "row_at" = some (.ref A.f_row_at)
  F_row_at : FnP K "row_at" s_row_at A.f_row_at A.d_row_at
  m_is_risky : mg "is_risky" = some (.ref A.f_is_risky)
  F_is_risky : FnP K "is_risky" s_is_risky A.f_is_risky A.d_is_risky
  m_needs_of : mg "needs_of" = some (.ref A.f_needs_of)
  F_needs_of : FnP K "needs_of" s_needs_of A.f_needs_of A.d_needs_of
  m_is_loading : mg "is_loading" = some (.ref A.f_is_loading)
  F_is_loading : FnP K "is_loading" s_is_loading A.f_is_loading A.d_is_loading
  m_part_named : mg "part_named" = some (.ref A.f_part_named)
  F_part_named : FnP K "part_named" s_part_named A.f_part_named A.d_part_named
  m_gives_name : mg "gives_name" = some (.ref A.f_gives_name)
  F_gives_name : FnP K "gives_name" s_gives_name A.f_gives_name A.d_gives_name
  m_givers_of : mg "givers_of" = some (.ref A.f_givers_of)
  F_givers_of : FnP K "givers_of" s_givers_of A.f_givers_of A.d_givers_of
  m_all_rows : mg "all_rows" = some (.ref A.f_all_rows)
  F_all_rows : FnP K "all_rows" s_all_rows A.f_all_rows A.d_all_rows
  m_doors_of : mg "doors_of" = some (.ref A.f_doors_of)
  F_doors_of : FnP K "doors_of" s_doors_of A.f_doors_of A.d_doors_of
  m_links_of : mg "links_of" = some (.ref A.f_links_of)
  F_links_of : FnP K "links_of" s_links_of A.f_links_of A.d_links_of
  m_coming_links_of : mg "coming_links_of" = some (.ref A.f_coming_links_of)
  F_coming_links_of : FnP K "coming_links_of" s_coming_links_of A.f_coming_links_of A.d_coming_links_of
  m_parts_behind : mg "parts_behind" = some (.ref A.f_parts_behind)
  F_parts_behind : FnP K "parts_behind" s_parts_behind A.f_parts_behind A.d_parts_behind
  m_ready_parts : mg "ready_parts" = some (.ref A.f_ready_parts)
  F_ready_parts : FnP K "ready_parts" s_ready_parts A.f_ready_parts A.d_ready_parts
  m_ways_to_ready_parts : mg "ways_to_ready_parts" = some (.ref A.f_ways_to_ready_parts)
  F_ways_to_ready_parts : FnP K "ways_to_ready_parts" s_ways_to_ready_parts A.f_ways_to_ready_parts A.d_ways_to_ready_parts
  m_parts_that_stay_away : mg "parts_that_stay_away" = some (.ref A.f_parts_that_stay_away)
  F_parts_that_stay_away : FnP K "parts_that_stay_away" s_parts_that_stay_away A.f_parts_that_stay_away A.d_parts_that_stay_away
  m_sure_names : mg "sure_names" = some (.ref A.f_sure_names)
  F_sure_names : FnP K "sure_names" s_sure_names A.f_sure_names A.d_sure_names
  m_is_sure : mg "is_sure" = some (.ref A.f_is_sure)
  F_is_sure : FnP K "is_sure" s_is_sure A.f_is_sure A.d_is_sure
  m_is_done_before : mg "is_done_before" = some (.ref A.f_is_done_before)
  F_is_done_before : FnP K "is_done_before" s_is_done_before A.f_is_done_before A.d_is_done_before
  m_is_options : mg "is_options" = some (.ref A.f_is_options)
  F_is_options : FnP K "is_options" s_is_options A.f_is_options A.d_is_options
  m_demand_options : mg "demand_options" = some (.ref A.f_demand_options)
  F_demand_options : FnP K "demand_options" s_demand_options A.f_demand_options A.d_demand_options
  F_Tool___init__ : FunD K "__init__" "Tool.__init__" (defArgs s_Tool___init__) (defBody s_Tool___init__) (defScope s_Tool___init__) [] [] A.f_Tool___init__ A.d_Tool___init__
  F_Tool_asks : FunD K "asks" "Tool.asks" (defArgs s_Tool_asks) (defBody s_Tool_asks) (defScope s_Tool_asks) [] [] A.f_Tool_asks A.d_Tool_asks
  me_Tool_asks : Meth K A.k_Tool "asks" A.f_Tool_asks
  F_Tool_waits : FunD K "waits" "Tool.waits" (defArgs s_Tool_waits) (defBody s_Tool_waits) (defScope s_Tool_waits) [] [] A.f_Tool_waits A.d_Tool_waits
  me_Tool_waits : Meth K A.k_Tool "waits" A.f_Tool_waits
  F_Tool_first_links : FunD K "first_links" "Tool.first_links" (defArgs s_Tool_first_links) (defBody s_Tool_first_links) (defScope s_Tool_first_links) [] [] A.f_Tool_first_links A.d_Tool_first_links
  me_Tool_first_links : Meth K A.k_Tool "first_links" A.f_Tool_first_links
  F_Tool_links_behind : FunD K "links_behind" "Tool.links_behind" (defArgs s_Tool_links_behind) (defBody s_Tool_links_behind) (defScope s_Tool_links_behind) [] [] A.f_Tool_links_behind A.d_Tool_links_behind
  me_Tool_links_behind : Meth K A.k_Tool "links_behind" A.f_Tool_links_behind
  F_Tool_wants : FunD K "wants" "Tool.wants" (defArgs s_Tool_wants) (defBody s_Tool_wants) (defScope s_Tool_wants) [] [] A.f_Tool_wants A.d_Tool_wants
  me_Tool_wants : Meth K A.k_Tool "wants" A.f_Tool_wants
  F_Tool_loads : FunD K "loads" "Tool.loads" (defArgs s_Tool_loads) (defBody s_Tool_loads) (defScope s_Tool_loads) [] [] A.f_Tool_loads A.d_Tool_loads
  me_Tool_loads : Meth K A.k_Tool "loads" A.f_Tool_loads
  F_Tool_kept_ways : FunD K "kept_ways" "Tool.kept_ways" (defArgs s_Tool_kept_ways) (defBody s_Tool_kept_ways) (defScope s_Tool_kept_ways) [] [] A.f_Tool_kept_ways A.d_Tool_kept_ways
  me_Tool_kept_ways : Meth K A.k_Tool "kept_ways" A.f_Tool_kept_ways
  m_give_rows : mg "give_rows" = some (.ref A.f_give_rows)
  F_give_rows : FnP K "give_rows" s_give_rows A.f_give_rows A.d_give_rows
  m_unsure_rows : mg "unsure_rows" = some (.ref A.f_unsure_rows)
  F_unsure_rows : FnP K "unsure_rows" s_unsure_rows A.f_unsure_rows A.d_unsure_rows
  m_left_out : mg "left_out" = some (.ref A.f_left_out)
  F_left_out : FnP K "left_out" s_left_out A.f_left_out A.d_left_out
  m_shaken_lot : mg "shaken_lot" = some (.ref A.f_shaken_lot)
  F_shaken_lot : FnP K "shaken_lot" s_shaken_lot A.f_shaken_lot A.d_shaken_lot
  m_law_pool : mg "_law_pool" = some (.ref A.f_law_pool)
  F_law_pool : FnP K "_law_pool" s_law_pool A.f_law_pool A.d_law_pool
  m_law_draw : mg "_law_draw" = some (.ref A.f_law_draw)
  F_law_draw : FnP K "_law_draw" s_law_draw A.f_law_draw A.d_law_draw
  m_law_subset : mg "_law_subset" = some (.ref A.f_law_subset)
  F_law_subset : FnP K "_law_subset" s_law_subset A.f_law_subset A.d_law_subset
  m_law_need : mg "_law_need" = some (.ref A.f_law_need)
  F_law_need : FnP K "_law_need" s_law_need A.f_law_need A.d_law_need
  m_law_needs : mg "_law_needs" = some (.ref A.f_law_needs)
  F_law_needs : FnP K "_law_needs" s_law_needs A.f_law_needs A.d_law_needs
  m_law_words : mg "_law_words" = some (.ref A.f_law_words)
  F_law_words : FnP K "_law_words" s_law_words A.f_law_words A.d_law_words
  m_law_with_show : mg "_law_with_show" = some (.ref A.f_law_with_show)
  F_law_with_show : FnP K "_law_with_show" s_law_with_show A.f_law_with_show A.d_law_with_show
  m_law_row : mg "_law_row" = some (.ref A.f_law_row)
  F_law_row : FnP K "_law_row" s_law_row A.f_law_row A.d_law_row
  m_law_program : mg "_law_program" = some (.ref A.f_law_program)
  F_law_program : FnP K "_law_program" s_law_program A.f_law_program A.d_law_program
  m_law_places : mg "_law_places" = some (.ref A.f_law_places)
  F_law_places : FnP K "_law_places" s_law_places A.f_law_places A.d_law_places
  m_law_at : mg "_law_at" = some (.ref A.f_law_at)
  F_law_at : FnP K "_law_at" s_law_at A.f_law_at A.d_law_at
  m_law_options : mg "_law_options" = some (.ref A.f_law_options)
  F_law_options : FnP K "_law_options" s_law_options A.f_law_options A.d_law_options
  m_law_is_lot : mg "_law_is_lot" = some (.ref A.f_law_is_lot)
  F_law_is_lot : FnP K "_law_is_lot" s_law_is_lot A.f_law_is_lot A.d_law_is_lot
  m_law : mg "law" = some (.ref A.f_law)
  F_law : FnP K "law" s_law A.f_law A.d_law
  zlen : mg "len" = none
  zint : mg "int" = none
  zabs : mg "abs" = none
  zisinstance : mg "isinstance" = none
  zrange : mg "range" = none
  zlist : mg "list" = none
  ztuple : mg "tuple" = none
  zsorted : mg "sorted" = none
  zset : mg "set" = none
  zmin : mg "min" = none
  zall : mg "all" = none
  zany : mg "any" = none
  zzip : mg "zip" = none
  zenumerate : mg "enumerate" = none
  zbool : mg "bool" = none
  zstr : mg "str" = none
  zmap : mg "map" = none
  zreversed : mg "reversed" = none
  i_MOST_ENTRIES : ∃ t, mg "MOST_ENTRIES" = some (.int (3) t)
  i_MOST_NEEDS : ∃ t, mg "MOST_NEEDS" = some (.int (2) t)
  i_MOST_NEEDS_OF_GIVE : ∃ t, mg "MOST_NEEDS_OF_GIVE" = some (.int (1) t)
  i_MOST_OPENS : ∃ t, mg "MOST_OPENS" = some (.int (4) t)
  i_MOST_OUTS : ∃ t, mg "MOST_OUTS" = some (.int (2) t)
  i_MOST_PARTS : ∃ t, mg "MOST_PARTS" = some (.int (4) t)
  i_MOST_ROWS : ∃ t, mg "MOST_ROWS" = some (.int (12) t)
  i_MOST_ROWS_OF_PART : ∃ t, mg "MOST_ROWS_OF_PART" = some (.int (5) t)
  m_NAMES : mg "NAMES" = some (.ref A.o_NAMES)
  t_NAMES : ∀ H : Hp, SqT K H A.o_NAMES [V.str "a", V.str "b", V.str "c", V.str "d"]
  m_NEEDS_AT : mg "NEEDS_AT" = some (.ref A.o_NEEDS_AT)
  D_NEEDS_AT : ∃ es n, KDict K w A.o_NEEDS_AT es n
  V_NEEDS_AT_give : ∃ u, PySem.W.nsIn K A.o_NEEDS_AT "give" = some (some u) ∧ RelV (V.int 2) u
  V_NEEDS_AT_show : ∃ u, PySem.W.nsIn K A.o_NEEDS_AT "show" = some (some u) ∧ RelV (V.int 1) u
  V_NEEDS_AT_late : ∃ u, PySem.W.nsIn K A.o_NEEDS_AT "late" = some (some u) ∧ RelV (V.int 3) u
  V_NEEDS_AT_load : PySem.W.nsIn K A.o_NEEDS_AT "load" = some none
  V_NEEDS_AT_pass : PySem.W.nsIn K A.o_NEEDS_AT "pass" = some none
  V_NEEDS_AT_out : PySem.W.nsIn K A.o_NEEDS_AT "out" = some none
  i_NO_PART : ∃ t, mg "NO_PART" = some (.int (-1) t)
  m_OPTIONS : mg "OPTIONS" = some (.ref A.o_OPTIONS)
  t_OPTIONS : ∀ H : Hp, SqT K H A.o_OPTIONS [V.str "loads", V.str "lookups", V.str "marks", V.str "risks"]
  m_Tool : mg "Tool" = some (.ref A.k_Tool)
  c_Tool : Cls K A.k_Tool
  mk_Tool : Mk K A.k_Tool A.f_Tool___init__
  n_Tool_source : NoAttr K A.k_Tool "source"
  n_Tool_options : NoAttr K A.k_Tool "options"
  n_Tool_places : NoAttr K A.k_Tool "places"
  n_Tool_behind : NoAttr K A.k_Tool "behind"
  n_Tool_asked : NoAttr K A.k_Tool "asked"
section
variable {P : Program} {w : World} {K : PySem.W.Frag} {mg : Str → Option Value} {base : Heap} {A : Ad}
theorem b_is_integer (T : Txt K w mg A) : Binds K A.d_is_integer ["thing"] [] := T.F_is_integer.bindsN fun _ _ _ _ _ _ us hl => match us, hl with | [_], _ => rfl
theorem b_is_number (T : Txt K w mg A) : Binds K A.d_is_number ["thing", "many"] [] := T.F_is_number.bindsN fun _ _ _ _ _ _ us hl => match us, hl with | [_, _], _ => rfl
theorem b_is_name (T : Txt K w mg A) : Binds K A.d_is_name ["thing"] [] := T.F_is_name.bindsN fun _ _ _ _ _ _ us hl => match us, hl with | [_], _ => rfl
theorem b_is_tuple (T : Txt K w mg A) : Binds K A.d_is_tuple ["thing", "least", "most"] [] := T.F_is_tuple.bindsN fun _ _ _ _ _ _ us hl => match us, hl with | [_, _, _], _ => rfl
theorem b_is_ascending (T : Txt K w mg A) : Binds K A.d_is_ascending ["things"] [] := T.F_is_ascending.bindsN fun _ _ _ _ _ _ us hl => match us, hl with | [_], _ => rfl
theorem b_is_need (T : Txt K w mg A) : Binds K A.d_is_need ["thing", "many_parts"] [] := T.F_is_need.bindsN fun _ _ _ _ _ _ us hl => match us, hl with | [_, _], _ => rfl
theorem b_are_needs (T : Txt K w mg A) : Binds K A.d_are_needs ["thing", "many_parts", "most"] [] := T.F_are_needs.bindsN fun _ _ _ _ _ _ us hl => match us, hl with | [_, _, _], _ => rfl
theorem b_starts_with_word (T : Txt K w mg A) : Binds K A.d_starts_with_word ["thing"] [] := T.F_starts_with_word.bindsN fun _ _ _ _ _ _ us hl => match us, hl with | [_], _ => rfl
theorem b_is_row (T : Txt K w mg A) : Binds K A.d_is_row ["thing", "many_parts"] [] := T.F_is_row.bindsN fun _ _ _ _ _ _ us hl => match us, hl with | [_, _], _ => rfl
theorem b_is_give (T : Txt K w mg A) : Binds K A.d_is_give ["row", "many_parts"] [] := T.F_is_give.bindsN fun _ _ _ _ _ _ us hl => match us, hl with | [_, _], _ => rfl
theorem b_is_late (T : Txt K w mg A) : Binds K A.d_is_late ["row", "many_parts"] [] := T.F_is_late.bindsN fun _ _ _ _ _ _ us hl => match us, hl with | [_, _], _ => rfl
theorem b_are_parts (T : Txt K w mg A) : Binds K A.d_are_parts ["thing"] [] := T.F_are_parts.bindsN fun _ _ _ _ _ _ us hl => match us, hl with | [_], _ => rfl
theorem b_are_marks (T : Txt K w mg A) : Binds K A.d_are_marks ["thing", "many_parts"] [] := T.F_are_marks.bindsN fun _ _ _ _ _ _ us hl => match us, hl with | [_, _], _ => rfl
theorem b_are_entries (T : Txt K w mg A) : Binds K A.d_are_entries ["thing", "many_parts"] [] := T.F_are_entries.bindsN fun _ _ _ _ _ _ us hl => match us, hl with | [_, _], _ => rfl
theorem b_are_opens (T : Txt K w mg A) : Binds K A.d_are_opens ["thing", "many_parts"] [] := T.F_are_opens.bindsN fun _ _ _ _ _ _ us hl => match us, hl with | [_, _], _ => rfl
theorem b_is_program (T : Txt K w mg A) : Binds K A.d_is_program ["thing"] [] := T.F_is_program.bindsN fun _ _ _ _ _ _ us hl => match us, hl with | [_], _ => rfl
theorem b_demand_program (T : Txt K w mg A) : Binds K A.d_demand_program ["thing"] [] := T.F_demand_program.bindsN fun _ _ _ _ _ _ us hl => match us, hl with | [_], _ => rfl
theorem b_is_place (T : Txt K w mg A) : Binds K A.d_is_place ["program", "thing"] [] := T.F_is_place.bindsN fun _ _ _ _ _ _ us hl => match us, hl with | [_, _], _ => rfl
theorem b_demand_place (T : Txt K w mg A) : Binds K A.d_demand_place ["program", "thing"] [] := T.F_demand_place.bindsN fun _ _ _ _ _ _ us hl => match us, hl with | [_, _], _ => rfl
theorem b_row_at (T : Txt K w mg A) : Binds K A.d_row_at ["program", "place"] [] := T.F_row_at.bindsN fun _ _ _ _ _ _ us hl => match us, hl with | [_, _], _ => rfl
theorem b_is_risky (T : Txt K w mg A) : Binds K A.d_is_risky ["row"] [] := T.F_is_risky.bindsN fun _ _ _ _ _ _ us hl => match us, hl with | [_], _ => rfl
theorem b_needs_of (T : Txt K w mg A) : Binds K A.d_needs_of ["row"] [] := T.F_needs_of.bindsN fun _ _ _ _ _ _ us hl => match us, hl with | [_], _ => rfl
theorem b_is_loading (T : Txt K w mg A) : Binds K A.d_is_loading ["row"] [] := T.F_is_loading.bindsN fun _ _ _ _ _ _ us hl => match us, hl with | [_], _ => rfl
theorem b_part_named (T : Txt K w mg A) : Binds K A.d_part_named ["row"] [] := T.F_part_named.bindsN fun _ _ _ _ _ _ us hl => match us, hl with | [_], _ => rfl
theorem b_gives_name (T : Txt K w mg A) : Binds K A.d_gives_name ["row", "name"] [] := T.F_gives_name.bindsN fun _ _ _ _ _ _ us hl => match us, hl with | [_, _], _ => rfl
theorem b_givers_of (T : Txt K w mg A) : Binds K A.d_givers_of ["program", "need"] [] := T.F_givers_of.bindsN fun _ _ _ _ _ _ us hl => match us, hl with | [_, _], _ => rfl
theorem b_all_rows (T : Txt K w mg A) : Binds K A.d_all_rows ["program"] [] := T.F_all_rows.bindsN fun _ _ _ _ _ _ us hl => match us, hl with | [_], _ => rfl
theorem b_doors_of (T : Txt K w mg A) : Binds K A.d_doors_of ["program"] [] := T.F_doors_of.bindsN fun _ _ _ _ _ _ us hl => match us, hl with | [_], _ => rfl
theorem b_links_of (T : Txt K w mg A) : Binds K A.d_links_of ["program"] [] := T.F_links_of.bindsN fun _ _ _ _ _ _ us hl => match us, hl with | [_], _ => rfl
theorem b_coming_links_of (T : Txt K w mg A) : Binds K A.d_coming_links_of ["program"] [] := T.F_coming_links_of.bindsN fun _ _ _ _ _ _ us hl => match us, hl with | [_], _ => rfl
theorem b_parts_behind (T : Txt K w mg A) : Binds K A.d_parts_behind ["links", "part"] [] := T.F_parts_behind.bindsN fun _ _ _ _ _ _ us hl => match us, hl with | [_, _], _ => rfl
theorem b_ready_parts (T : Txt K w mg A) : Binds K A.d_ready_parts ["program", "place"] [] := T.F_ready_parts.bindsN fun _ _ _ _ _ _ us hl => match us, hl with | [_, _], _ => rfl
theorem b_ways_to_ready_parts (T : Txt K w mg A) : Binds K A.d_ways_to_ready_parts ["program", "place"] [] := T.F_ways_to_ready_parts.bindsN fun _ _ _ _ _ _ us hl => match us, hl with | [_, _], _ => rfl
theorem b_parts_that_stay_away (T : Txt K w mg A) : Binds K A.d_parts_that_stay_away ["program", "own"] [] := T.F_parts_that_stay_away.bindsN fun _ _ _ _ _ _ us hl => match us, hl with | [_, _], _ => rfl
theorem b_sure_names (T : Txt K w mg A) : Binds K A.d_sure_names ["program", "place"] [] := T.F_sure_names.bindsN fun _ _ _ _ _ _ us hl => match us, hl with | [_, _], _ => rfl
theorem b_is_sure (T : Txt K w mg A) : Binds K A.d_is_sure ["program", "place", "ready", "need"] [] := T.F_is_sure.bindsN fun _ _ _ _ _ _ us hl => match us, hl with | [_, _, _, _], _ => rfl
theorem b_is_done_before (T : Txt K w mg A) : Binds K A.d_is_done_before ["place", "ready", "other"] [] := T.F_is_done_before.bindsN fun _ _ _ _ _ _ us hl => match us, hl with | [_, _, _], _ => rfl
theorem b_is_options (T : Txt K w mg A) : Binds K A.d_is_options ["thing"] [] := T.F_is_options.bindsN fun _ _ _ _ _ _ us hl => match us, hl with | [_], _ => rfl
theorem b_demand_options (T : Txt K w mg A) : Binds K A.d_demand_options ["thing"] [] := T.F_demand_options.bindsN fun _ _ _ _ _ _ us hl => match us, hl with | [_], _ => rfl
theorem b_Tool___init__ (T : Txt K w mg A) : Binds K A.d_Tool___init__ ["self", "program", "options", "lacking"] [] := T.F_Tool___init__.bindsN fun _ _ _ _ _ _ us hl => match us, hl with | [_, _, _, _], _ => rfl
theorem b_Tool_asks (T : Txt K w mg A) : Binds K A.d_Tool_asks ["self", "place", "lacking"] [] := T.F_Tool_asks.bindsN fun _ _ _ _ _ _ us hl => match us, hl with | [_, _, _], _ => rfl
theorem b_Tool_waits (T : Txt K w mg A) : Binds K A.d_Tool_waits ["self", "place"] [] := T.F_Tool_waits.bindsN fun _ _ _ _ _ _ us hl => match us, hl with | [_, _], _ => rfl
theorem b_Tool_first_links (T : Txt K w mg A) : Binds K A.d_Tool_first_links ["self"] [] := T.F_Tool_first_links.bindsN fun _ _ _ _ _ _ us hl => match us, hl with | [_], _ => rfl
theorem b_Tool_links_behind (T : Txt K w mg A) : Binds K A.d_Tool_links_behind ["self", "link"] [] := T.F_Tool_links_behind.bindsN fun _ _ _ _ _ _ us hl => match us, hl with | [_, _], _ => rfl
theorem b_Tool_wants (T : Txt K w mg A) : Binds K A.d_Tool_wants ["self", "place"] [] := T.F_Tool_wants.bindsN fun _ _ _ _ _ _ us hl => match us, hl with | [_, _], _ => rfl
theorem b_Tool_loads (T : Txt K w mg A) : Binds K A.d_Tool_loads ["self", "place", "part"] [] := T.F_Tool_loads.bindsN fun _ _ _ _ _ _ us hl => match us, hl with | [_, _, _], _ => rfl
theorem b_Tool_kept_ways (T : Txt K w mg A) : Binds K A.d_Tool_kept_ways ["self"] [] := T.F_Tool_kept_ways.bindsN fun _ _ _ _ _ _ us hl => match us, hl with | [_], _ => rfl
theorem b_give_rows (T : Txt K w mg A) : Binds K A.d_give_rows ["program"] [] := T.F_give_rows.bindsN fun _ _ _ _ _ _ us hl => match us, hl with | [_], _ => rfl
theorem b_unsure_rows (T : Txt K w mg A) : Binds K A.d_unsure_rows ["program"] [] := T.F_unsure_rows.bindsN fun _ _ _ _ _ _ us hl => match us, hl with | [_], _ => rfl
theorem b_left_out (T : Txt K w mg A) : Binds K A.d_left_out ["program", "options", "lacking"] [] := T.F_left_out.bindsN fun _ _ _ _ _ _ us hl => match us, hl with | [_, _, _], _ => rfl
theorem b_shaken_lot (T : Txt K w mg A) : Binds K A.d_shaken_lot ["program", "options"] [] := T.F_shaken_lot.bindsN fun _ _ _ _ _ _ us hl => match us, hl with | [_, _], _ => rfl
theorem b_law_pool (T : Txt K w mg A) : Binds K A.d_law_pool ["script"] [] := T.F_law_pool.bindsN fun _ _ _ _ _ _ us hl => match us, hl with | [_], _ => rfl
theorem b_law_draw (T : Txt K w mg A) : Binds K A.d_law_draw ["pool", "limit"] [] := T.F_law_draw.bindsN fun _ _ _ _ _ _ us hl => match us, hl with | [_, _], _ => rfl
theorem b_law_subset (T : Txt K w mg A) : Binds K A.d_law_subset ["pool", "items", "most"] [] := T.F_law_subset.bindsN fun _ _ _ _ _ _ us hl => match us, hl with | [_, _, _], _ => rfl
theorem b_law_need (T : Txt K w mg A) : Binds K A.d_law_need ["pool", "count", "given"] [] := T.F_law_need.bindsN fun _ _ _ _ _ _ us hl => match us, hl with | [_, _, _], _ => rfl
theorem b_law_needs (T : Txt K w mg A) : Binds K A.d_law_needs ["pool", "count", "given", "most"] [] := T.F_law_needs.bindsN fun _ _ _ _ _ _ us hl => match us, hl with | [_, _, _, _], _ => rfl
theorem b_law_words (T : Txt K w mg A) : Binds K A.d_law_words ["pool", "count", "most_rows", "most_outs"] [] := T.F_law_words.bindsN fun _ _ _ _ _ _ us hl => match us, hl with | [_, _, _, _], _ => rfl
theorem b_law_with_show (T : Txt K w mg A) : Binds K A.d_law_with_show ["words"] [] := T.F_law_with_show.bindsN fun _ _ _ _ _ _ us hl => match us, hl with | [_], _ => rfl
theorem b_law_row (T : Txt K w mg A) : Binds K A.d_law_row ["pool", "word", "name", "count", "given"] [] := T.F_law_row.bindsN fun _ _ _ _ _ _ us hl => match us, hl with | [_, _, _, _, _], _ => rfl
theorem b_law_program (T : Txt K w mg A) : Binds K A.d_law_program ["pool", "most_parts", "most_rows", "most_outs", "most_entries", "most_opens"] [] := T.F_law_program.bindsN fun _ _ _ _ _ _ us hl => match us, hl with | [_, _, _, _, _, _], _ => rfl
theorem b_law_places (T : Txt K w mg A) : Binds K A.d_law_places ["program"] [] := T.F_law_places.bindsN fun _ _ _ _ _ _ us hl => match us, hl with | [_], _ => rfl
theorem b_law_at (T : Txt K w mg A) : Binds K A.d_law_at ["program", "place"] [] := T.F_law_at.bindsN fun _ _ _ _ _ _ us hl => match us, hl with | [_, _], _ => rfl
theorem b_law_options (T : Txt K w mg A) : Binds K A.d_law_options ["pool"] [] := T.F_law_options.bindsN fun _ _ _ _ _ _ us hl => match us, hl with | [_], _ => rfl
theorem b_law_is_lot (T : Txt K w mg A) : Binds K A.d_law_is_lot ["program", "lot"] [] := T.F_law_is_lot.bindsN fun _ _ _ _ _ _ us hl => match us, hl with | [_, _], _ => rfl
theorem b_law (T : Txt K w mg A) : Binds K A.d_law ["script"] [] := T.F_law.bindsN fun _ _ _ _ _ _ us hl => match us, hl with | [_], _ => rfl
end

local macro_rules | `(tactic| walk_at "rd") => `(tactic| simp only [tSeq, tAsg, tRet, tRetN, tDrop, tNext, tIfS, tTest, tB, tVar, tC, tOp, tUn, tCB, tCons, tNil, tCall, tAnd, tOr, tNot, tAndV, tOrV, tNotV, tIf, tTup, tLst, tChain, gName, gCons, gNil, gTup, rI0, rI, rU, rEq, rNe, scal, List.append_nil, List.getElem?_cons_zero, List.getElem?_cons_succ, List.set_cons_zero, List.set_cons_succ, Option.some.injEq, V.int.injEq, V.bl.injEq, V.ref.injEq, V.str.injEq, List.cons.injEq, and_true, true_and, exists_eq_left', exists_eq_left, exists_and_left, exists_eq', exists_eq])

end Lb

set_option Elab.async false
set_option linter.all false
set_option maxRecDepth 100000
set_option maxHeartbeats 4000000

namespace Lb
open PySem PySem.Spec PyProof.Rows L2
section
variable {P Pg : Program} {w : World} {K : PySem.W.Frag} {mg : Str → Option Value} {base : Heap} {A : Ad}
def sp_law_pool (K : PySem.W.Frag) : Sp := fun vs H Q _ => ∃ (a : Addr) (ns : List Int), vs = [.ref a] ∧ SqL K H a (ns.map V.int) ∧ ns.length ≤ 63 ∧ ∀ H' l, Same H H' → H l = none → Pool 0 l H' → Q (.ref l) H'
theorem ok_law_pool (T : Txt K w mg A) : FnOk Pg w K mg base CX0 1 A.f_law_pool A.d_law_pool ["script"] (sp_law_pool K) := by
  refine T.F_law_pool.ok sc_law_pool (fun vs H Q E h => ?_) (fun cdv Ar outer s H vs Q E hr h => ?_)
  · obtain ⟨a, ns, rfl, hS, few, k⟩ := h
    rfl
  · obtain ⟨a, ns, rfl, hS, few, k⟩ := h
    refine ⟨_, PSs.nox ((pss_one (ps_ret (pe_op op_cat (pe_op op_cat (pe_lst (pa_cons pe_int pa_nil)) (pe_lc (own := [("cell", 1)]) (g := (gName 1)) (tt := tYes) rfl sc_law_pool.nd (pi_list (pv 0)) (blkOk_by (N := N_law_pool) (sc := defScope s_law_pool) (by decide +kernel)) (fun _ _ _ _ _ => (pg_name (i := 1) sc_law_pool.nd rfl (Or.inl rfl))) (fun _ _ _ _ _ => pts_nil) (fun _ _ _ _ _ => (pe_callTy call_int1 (by rfl) T.zint (by decide +kernel) (pa_cons (pv 1) pa_nil))))) (pe_op op_rep (pe_lst (pa_cons pe_int pa_nil)) (pe_callTy call_int1 (by rfl) T.zint (by decide +kernel) (pa_cons (pe_cmpR op_eq (pe_callB call_len_seq (by rfl) T.zlen (by decide +kernel) (pa_cons (pv 0) pa_nil)) pe_int (nomark _)) pa_nil))))))), ?_⟩
    rw [show start N_law_pool [.ref a] = [some (.ref a), none] from rfl]
    refine ⟨(by show 1 ≤ sizeLine; decide), fun p np => ?_⟩
    have sp : Same H (upd H p (.lst [V.int 0])) := same_new np
    have hp : (upd H p (.lst [V.int 0])) p = some (.lst [V.int 0]) := upd_same
    generalize upd H p (.lst [V.int 0]) = H1 at sp hp ⊢
    refine ⟨_, rfl, a, rfl, ⟨_, sp.seq hS⟩, fun D nD => ?_⟩
    refine lc_pure (walk_list (xs := ns.map V.int)) nD (fun i => V.int (ns.getD i 0)) (by rw [List.length_map, sizeLine_eq]; omega) (fun H' s' => s'.seq (sp.seq hS)) ?_ ?_
    · rintro i x H' H'' F hi s' ⟨rfl, hx⟩ fin
      rw [List.getElem?_map] at hx
      obtain ⟨z, hz, rfl⟩ := Option.map_eq_some_iff.mp hx
      refine ⟨rfl, ⟨_, rfl, .inl ⟨z, rfl, ?_⟩⟩⟩
      have e := fin _ (.refl _)
      rw [List.getD_eq_getElem?_getD, hz, Option.getD_some] at e
      exact e
    · intro H2 s2 hD
      have eD : (List.range (ns.map V.int).length).map (fun i => V.int (ns.getD i 0)) = ns.map V.int := by
        refine List.ext_getElem (by simp) fun i h1 h2 => ?_
        simp only [List.getElem_map, List.getElem_range, List.getD_eq_getElem?_getD]
        rw [List.getElem?_eq_getElem (by simpa using h2), Option.getD_some]
      rw [eD] at hD
      refine ⟨p, D, _, _, rfl, rfl, s2 _ _ hp, hD, by simp only [List.length_map, List.length_cons, List.length_nil]; rw [sizeLine_eq]; omega, fun q nq => ⟨(by show 1 ≤ sizeLine; decide), fun r nr => ?_⟩⟩
      have s3 : Same H2 (upd (upd H2 q (.lst ([V.int 0] ++ ns.map V.int))) r (.lst [V.int 0])) := (same_new nq).trans (same_new nr)
      have hr : (upd (upd H2 q (.lst ([V.int 0] ++ ns.map V.int))) r (.lst [V.int 0])) r = some (.lst [V.int 0]) := upd_same
      have hq : (upd (upd H2 q (.lst ([V.int 0] ++ ns.map V.int))) r (.lst [V.int 0])) q = some (.lst ([V.int 0] ++ ns.map V.int)) := by
        rw [upd_ne (ne_of_none upd_same nr)]
        exact upd_same
      generalize upd (upd H2 q (.lst ([V.int 0] ++ ns.map V.int))) r (.lst [V.int 0]) = H3 at s3 hr hq ⊢
      refine ⟨_, rfl, a, _, rfl, .inl (s3.seq (s2.seq (sp.seq hS))), rfl, .inr ⟨_, rfl, ?_⟩⟩
      have last : ∀ j : Nat, j ≤ 1 → (j = 0 → 0 < ns.length) → (∃ l k xs, V.ref r = .ref l ∧ V.int (j : Int) = .int k ∧ H3 l = some (.lst xs) ∧ -(2 ^ 63) ≤ k ∧ k < 2 ^ 63 ∧ xs.length * k.toNat ≤ sizeLine ∧ ∀ p, H3 p = none → rCat (.ref q) (.ref p) (upd H3 p (.lst (List.replicate k.toNat xs).flatten)) fun v H' => Q v H') := by
        intro j j1 j0
        refine ⟨r, (j : Int), _, rfl, rfl, hr, by omega, by omega, by simp only [List.length_cons, List.length_nil]; rw [sizeLine_eq]; omega, fun z nz => ⟨q, z, _, _, rfl, rfl, by rw [upd_ne (ne_of_none hq nz)]; exact hq, upd_same, ?_, fun l nl => ?_⟩⟩
        · have : ((List.replicate ((j : Int)).toNat [V.int 0]).flatten).length ≤ 1 := by
            rw [Int.toNat_natCast]
            rcases (by omega : j = 0 ∨ j = 1) with e | e <;> subst e <;> decide
          simp only [List.length_append, List.length_map, List.length_cons, List.length_nil]
          rw [sizeLine_eq]
          omega
        · have nH : H l = none := (sp.trans (s2.trans (s3.trans (same_new nz)))).free nl
          refine k _ l (sp.trans (s2.trans (s3.trans ((same_new nz).trans (same_new nl))))) nH ?_
          rcases (by omega : j = 0 ∨ j = 1) with e | e
          · subst e
            exact ⟨0, ns, by rw [upd_same]; simp, by omega, by omega, by have := j0 rfl; omega, by omega⟩
          · subst e
            exact ⟨0, ns ++ [0], by rw [upd_same]; simp, by omega, by omega, by simp, by simp; omega⟩
      by_cases c : ns.length = 0
      · have e : decide (V.int ((ns.map V.int).length : Int) = V.int 0) = true := by simp [c]
        rw [e]
        exact last 1 (by omega) (by omega)
      · have e : decide (V.int ((ns.map V.int).length : Int) = V.int 0) = false := by simp [c]
        rw [e]
        exact last 0 (by omega) (by omega)
def sp_law_draw : Sp := fun vs H Q _ => ∃ (l : Addr) (m : Nat) (n : Int), vs = [.ref l, .int n] ∧ Pool m l H ∧ m ≤ 60000 ∧ 0 < n ∧ n < 1073741824 ∧ ∀ (H' : Hp) (v : Int), But [l] H H' → Pool (m + 1) l H' → 0 ≤ v → v < n → Q (.int v) H'
theorem ok_law_draw (T : Txt K w mg A) : FnOk Pg w K mg base CX0 1 A.f_law_draw A.d_law_draw ["pool", "limit"] (sp_law_draw) := by
  refine T.F_law_draw.ok sc_law_draw (fun vs H Q E h => ?_) (fun cdv Ar outer s H vs Q E hr h => ?_)
  · obtain ⟨l, m, n, rfl, hp, m6, n0, n1, k⟩ := h
    rfl
  · obtain ⟨l, m, n, rfl, hp, m6, n0, n1, k⟩ := h
    refine ⟨_, PSs.nox ((pss_cons (ps_set (i := 2) sc_law_draw.nd rfl (Or.inl rfl) (pe_ix ix_list (pv 0) pe_int (fun _ _ => rfl)))
 (pss_cons (ps_asg (pe_op op_add (pv 2) pe_int) (pg_sub (pv 0) pe_int set_list))
 (pss_cons (ps_set (i := 3) sc_law_draw.nd rfl (Or.inl rfl) (pe_op op_add pe_int (pe_op op_mod (pe_callTy call_int1 (by rfl) T.zint (by decide +kernel) (pa_cons (pv 2) pa_nil)) (pe_op op_sub (pe_callB call_len_seq (by rfl) T.zlen (by decide +kernel) (pa_cons (pv 0) pa_nil)) pe_int))))
 (pss_cons (ps_set (i := 4) sc_law_draw.nd rfl (Or.inl rfl) (pe_ix ix_list (pv 0) (pv 3) (fun _ _ => rfl)))
 (pss_cons (ps_if (pt_cmpR op_ge (pv 4) (pe_op op_pow pe_int pe_int) (nomark _)) (pss_cons (ps_asg (pe_op op_fdiv (pv 4) (pv 1)) (pg_sub (pv 0) (pv 3) set_list))
 (pss_one (ps_ret (pe_op op_mod (pe_callTy call_int1 (by rfl) T.zint (by decide +kernel) (pa_cons (pv 4) pa_nil)) (pv 1))))) pss_nil)
 (pss_cons (ps_set (i := 5) sc_law_draw.nd rfl (Or.inl rfl) (pe_op op_add (pe_op op_mod (pe_callTy call_int1 (by rfl) T.zint (by decide +kernel) (pa_cons (pv 4) pa_nil)) pe_int) pe_int))
 (pss_cons (ps_set (i := 6) sc_law_draw.nd rfl (Or.inl rfl) (pe_op op_add (pe_op op_add (pe_op op_mul (pe_op op_mul (pv 5) (pv 5)) (pe_op op_add (pv 2) pe_int)) (pe_op op_mul (pv 5) (pe_op op_add (pe_op op_mul (pv 2) (pv 2)) pe_int))) (pe_op op_pow (pe_op op_add (pv 2) pe_int) pe_int)))
 (pss_cons (ps_set (i := 7) sc_law_draw.nd rfl (Or.inl rfl) (pe_ix ix_list (pe_lst (pa_cons pe_int (pa_cons pe_int (pa_cons pe_int (pa_cons pe_int (pa_cons pe_int pa_nil)))))) (pe_op op_mod (pe_callTy call_int1 (by rfl) T.zint (by decide +kernel) (pa_cons (pv 2) pa_nil)) pe_int) (fun _ _ => rfl)))
 (pss_one (ps_ret (pe_op op_mod (pe_op op_mod (pe_callTy call_int1 (by rfl) T.zint (by decide +kernel) (pa_cons (pe_op op_fdiv (pe_op op_mul (pv 6) (pv 6)) pe_int) pa_nil)) (pv 7)) (pv 1))))))))))))), ?_⟩
    rw [show start N_law_draw [.ref l, .int n] = [some (.ref l), some (.int n), none, none, none, none, none, none] from rfl]
    obtain ⟨k0, cs, hl, k00, k0m, c1, c64⟩ := hp
    refine ⟨_, rfl, l, _, 0, _, rfl, rfl, SqL.of hl, atI_nat (j := 0) rfl, ?_⟩
    refine ⟨_, rfl, _, _, rfl, rfl, _, rfl, l, _, 0, 0, rfl, rfl, hl, by simp [ixN], ?_⟩
    have b1 : But [l] H (upd H l (.lst ((V.int k0 :: cs.map V.int).set 0 (V.int (k0 + 1))))) := .upd .refl List.mem_cons_self
    have hl1 : (upd H l (.lst ((V.int k0 :: cs.map V.int).set 0 (V.int (k0 + 1))))) l = some (.lst (V.int (k0 + 1) :: cs.map V.int)) := upd_same
    show tSeq _ _ _ _ (upd H l (.lst ((V.int k0 :: cs.map V.int).set 0 (V.int (k0 + 1)))))
    generalize upd H l (.lst ((V.int k0 :: cs.map V.int).set 0 (V.int (k0 + 1)))) = H1 at b1 hl1 ⊢
    have rest0 : 0 ≤ k0 % (cs.length : Int) := Int.emod_nonneg _ (by omega)
    have rest1 : k0 % (cs.length : Int) < (cs.length : Int) := Int.emod_lt_of_pos _ (by omega)
    refine ⟨_, rfl, .inl ⟨k0, rfl, _, rfl, l, _, rfl, .inl (SqL.of hl1), _, _, rfl, rfl, _, _, rfl, rfl, ?_, ?_⟩⟩
    · simp only [List.length_cons, List.length_map]
      omega
    rw [show (((V.int (k0 + 1) :: cs.map V.int).length : Int) - 1) = (cs.length : Int) by simp only [List.length_cons, List.length_map]; omega]
    refine ⟨_, _, rfl, rfl, ?_⟩
    obtain ⟨j, ej⟩ : ∃ j : Nat, k0 % (cs.length : Int) = (j : Int) := ⟨(k0 % (cs.length : Int)).toNat, by omega⟩
    dsimp only [List.set]
    rw [ej] at rest0 rest1 ⊢
    obtain ⟨x, hx⟩ : ∃ x, cs[j]? = some x := ⟨_, List.getElem?_eq_getElem (by omega)⟩
    have at_j : atI (V.int (k0 + 1) :: cs.map V.int) (1 + (j : Int)) = some (V.int x) := by
      have e := atI_nat (xs := V.int (k0 + 1) :: cs.map V.int) (j := j + 1) (v := V.int x) (by rw [List.getElem?_cons_succ, List.getElem?_map, hx]; rfl)
      rwa [show ((j + 1 : Nat) : Int) = 1 + (j : Int) by omega] at e
    have mod0 : ∀ y : Int, 0 ≤ y % n ∧ y % n < n := fun y => ⟨Int.emod_nonneg _ (by omega), Int.emod_lt_of_pos _ n0⟩
    refine ⟨_, rfl, _, rfl, l, _, _, _, rfl, rfl, SqL.of hl1, at_j, ?_⟩
    refine ⟨_, rfl, _, _, rfl, rfl, ⟨by omega, by omega, by decide⟩, _, _, rfl, rfl, _, rfl, ?_⟩
    refine ite2 (fun c => ?_) (fun c => ?_)
    · refine ⟨_, rfl, _, rfl, _, _, rfl, rfl, ⟨n0, n1⟩, _, rfl, _, rfl, l, _, _, j + 1, rfl, rfl, hl1, ?_, ?_⟩
      · simp only [ixN, List.length_cons, List.length_map]
        rw [if_pos (by omega), if_pos (by omega)]
        congr 1
        omega
      have b2 : But [l] H (upd H1 l (.lst ((V.int (k0 + 1) :: cs.map V.int).set (j + 1) (V.int (x / n))))) := b1.upd List.mem_cons_self
      have hl2 : (upd H1 l (.lst ((V.int (k0 + 1) :: cs.map V.int).set (j + 1) (V.int (x / n))))) l = some (.lst (V.int (k0 + 1) :: (cs.set j (x / n)).map V.int)) := by
        rw [upd_same, List.set_cons_succ, List.map_set]
      dsimp only
      generalize upd H1 l (.lst ((V.int (k0 + 1) :: cs.map V.int).set (j + 1) (V.int (x / n)))) = H2 at b2 hl2 ⊢
      refine ⟨_, rfl, .inl ⟨_, rfl, _, rfl, _, _, rfl, rfl, n0, ?_⟩⟩
      exact k _ _ b2 ⟨k0 + 1, _, hl2, by omega, by omega, by rw [List.length_set]; exact c1, by rw [List.length_set]; exact c64⟩ (mod0 x).1 (mod0 x).2
    · have P1 : Pool (m + 1) l H1 := ⟨k0 + 1, cs, hl1, by omega, by omega, c1, c64⟩
      refine ⟨_, rfl, .inl ⟨_, rfl, _, _, rfl, rfl, (by show (0 : Int) < 1000003; decide), _, _, rfl, rfl, ?_⟩⟩
      have f0 : 0 ≤ x % 1000003 := Int.emod_nonneg _ (by decide)
      have f1 : x % 1000003 < 1000003 := Int.emod_lt_of_pos _ (by decide)
      obtain ⟨f, ef⟩ : ∃ f : Int, x % 1000003 + 5 = f := ⟨_, rfl⟩
      dsimp only [List.set]
      rw [ef]
      have M := mixed_small (f := f) (k := k0) (by omega) (by omega) k00 (by omega)
      refine ⟨_, rfl, _, rfl, _, _, rfl, rfl, .inl ⟨by omega, by omega⟩, _, rfl, _, _, rfl, rfl, _, _, rfl, rfl, .inr ⟨by omega, by omega⟩, ?_⟩
      refine ⟨_, rfl, _, rfl, _, rfl, _, _, rfl, rfl, .inl ⟨by omega, by omega⟩, _, _, rfl, rfl, _, _, rfl, rfl, .inl ⟨by omega, by omega⟩, _, _, rfl, rfl, ?_⟩
      refine ⟨_, rfl, _, _, rfl, rfl, _, _, rfl, rfl, ⟨by decide, by decide, by omega⟩, _, _, rfl, rfl, ?_⟩
      dsimp only [List.set]
      generalize f * f * (k0 + 7) + f * (k0 * k0 + 13) + (k0 + 11) ^ (3 : Int).toNat = mx at M ⊢
      obtain ⟨pr, hpr, p0, p1⟩ := prime_at (Int.emod_nonneg k0 (by decide : (5 : Int) ≠ 0)) (Int.emod_lt_of_pos k0 (by decide : (0 : Int) < 5))
      refine ⟨(by show 5 ≤ sizeLine; decide), fun q nq => ⟨_, rfl, .inl ⟨_, rfl, _, _, rfl, rfl, (by show (0 : Int) < 5; decide), q, _, _, _, rfl, rfl, SqL.of upd_same, hpr, ?_⟩⟩⟩
      have b3 : But [l] H (upd H1 q (.lst [V.int 999979, V.int 999961, V.int 999953, V.int 999931, V.int 999917])) := b1.new nq
      refine ⟨_, rfl, _, rfl, _, _, rfl, rfl, .inl M, _, _, rfl, rfl, ⟨by decide, by decide⟩, .inl ⟨_, rfl, _, rfl, _, _, rfl, rfl, p0, _, rfl, _, _, rfl, rfl, n0, ?_⟩⟩
      exact k _ _ b3 (P1.new nq) (mod0 _).1 (mod0 _).2
end
end Lb

set_option Elab.async false
set_option linter.all false
set_option maxRecDepth 100000
set_option maxHeartbeats 4000000

namespace Lb
open PySem PySem.Spec PyProof.Rows L2
section
variable {P Pg : Program} {w : World} {K : PySem.W.Frag} {mg : Str → Option Value} {base : Heap} {A : Ad}
def sp_law_subset : Sp := fun vs H Q _ => ∃ (l a : Addr) (m : Nat) (most : Int) (xs : List V), vs = [.ref l, .ref a, .int most] ∧ Pool m l H ∧ m ≤ 50000 ∧ H a = some (.lst xs) ∧ a ≠ l ∧ xs.length ≤ 25 ∧ 0 ≤ most ∧ ∀ (H' : Hp) (p : Addr) (ys : List V), But [l] H H' → Pool (m + 25) l H' → H p = none → H' p = some (.lst ys) → ys.Sublist xs → (ys.length : Int) ≤ most → Q (.ref p) H'
theorem ok_law_subset (T : Txt K w mg A) : FnOk Pg w K mg base CX0 2 A.f_law_subset A.d_law_subset ["pool", "items", "most"] (sp_law_subset) := by
  refine T.F_law_subset.ok sc_law_subset (fun vs H Q E h => ?_) (fun cdv Ar outer s H vs Q E hr h => ?_)
  · obtain ⟨l, a, m, most, xs, rfl, hp, m5, ha, al, x20, most0, k⟩ := h
    rfl
  · obtain ⟨l, a, m, most, xs, rfl, hp, m5, ha, al, x20, most0, k⟩ := h
    refine ⟨_, PSs.nox ((pss_cons (ps_set (i := 3) sc_law_subset.nd rfl (Or.inl rfl) (pe_lst pa_nil))
 (pss_cons (ps_for PassesOwn.never rfl (pi_list (pv 1)) (pg_name (i := 4) sc_law_subset.nd rfl (Or.inl rfl)) (pss_one (ps_if (PW.pt (pw_and (pt_cmpR op_lt (pe_callB call_len_seq (by rfl) T.zlen (by decide +kernel) (pa_cons (pv 3) pa_nil)) (pv 2) (nomark _)) (pw_and1 (pt_cmpR op_eq (pe_call (ok_law_draw T) hr rfl T.m_law_draw T.F_law_draw.kp (b_law_draw T) .nil pass0 (pa_cons (pv 0) (pa_cons pe_int pa_nil))) pe_int (nomark _))))) (pss_one (ps_expr (pe_bm PySem.F.plainAttrs_list PySem.F.slot_list_append PySem.F.type_list_append mt_append (pv 3) (pa_cons (pv 4) pa_nil)))) pss_nil)))
 (pss_one (ps_ret (pv 3)))))), ?_⟩
    rw [show start N_law_subset [.ref l, .ref a, .int most] = [some (.ref l), some (.ref a), some (.int most), none, none] from rfl]
    refine ⟨Nat.zero_le _, fun p np => ?_⟩
    have pl := hp.ne np
    have ap : a ≠ p := ne_of_none ha np
    refine ⟨_, rfl, a, rfl, ⟨_, SqL.of (by rw [upd_ne ap]; exact ha)⟩, for_list (K := K) (a := a) (xs := xs) (fun i σ H' => ∃ (ys : List V) (o : Option V), σ = [some (.ref l), some (.ref a), some (.int most), some (.ref p), o] ∧
      But [p, l] H H' ∧ Pool (m + i) l H' ∧ H' p = some (.lst ys) ∧ ys.Sublist (xs.take i) ∧ (ys.length : Int) ≤ most) ?_ (fun i σ H' _ q => ?_) ?_ ?_⟩
    · exact ⟨[], _, rfl, But.refl.new np, hp.new np, upd_same, List.nil_sublist _, most0⟩
    · obtain ⟨_, _, _, bb, _⟩ := q
      exact SqL.of (bb a _ (fun z => (List.mem_cons.mp z).elim ap (fun z => al (List.mem_singleton.mp z))) ha)
    · rintro i y σ H' hi ⟨ys, o, rfl, b2, p2, h2, sub, len⟩
      have il : i < xs.length := (List.getElem?_eq_some_iff.mp hi).1
      have ly := sub.length_le
      rw [List.length_take] at ly
      refine ⟨_, rfl, p, _, rfl, .inl (SqL.of h2), _, rfl, _, _, rfl, rfl, _, rfl, ?_⟩
      have tk : xs.take (i + 1) = xs.take i ++ [y] := by rw [List.take_succ, hi]; rfl
      have skip_ : ∀ H3, But [p, l] H' H3 → Pool (m + (i + 1)) l H3 → H3 p = some (.lst ys) → ∃ (ys : List V) (o : Option V), [some (.ref l), some (.ref a), some (.int most), some (.ref p), some y] = [some (.ref l), some (.ref a), some (.int most), some (.ref p), o] ∧
          But [p, l] H H3 ∧ Pool (m + (i + 1)) l H3 ∧ H3 p = some (.lst ys) ∧ ys.Sublist (xs.take (i + 1)) ∧ (ys.length : Int) ≤ most := fun H3 b3 p3 h3 => ⟨ys, _, rfl, b2.trans b3, p3, h3, by rw [tk]; exact sub.trans (List.sublist_append_left _ _), len⟩
      refine ite2 (fun c => ?_) (fun c => iteF (skip_ H' .refl (p2.le (by omega)) h2))
      have c' : (ys.length : Int) < most := of_decide_eq_true c
      refine ⟨_, rfl, l, m + i, 2, rfl, p2, by omega, by decide, by decide, fun H3 u b3 p3 u0 u1 => ⟨rfl, _, rfl, ?_⟩⟩
      have h3 := b3.at1 h2 pl
      have b3' : But [p, l] H' H3 := b3.mono fun x z => List.mem_cons_of_mem _ z
      refine ite2 (fun c2 => ?_) (fun c2 => skip_ H3 b3' p3 h3)
      refine ⟨_, rfl, .inl ⟨rfl, _, SqL.of h3⟩, _, rfl, p, ys, _, rfl, rfl, h3, by rw [sizeLine_eq]; omega, ?_⟩
      exact ⟨ys ++ [y], _, rfl, b2.trans (b3'.upd List.mem_cons_self), p3.away pl, upd_same, by rw [tk]; exact sub.append (.refl _), by rw [List.length_append]; show ((ys.length + 1 : Nat) : Int) ≤ most; omega⟩
    · rintro σ H' ⟨ys, o, rfl, b2, p2, h2, sub, len⟩
      rw [List.take_length] at sub
      refine ⟨_, rfl, k _ p ys (fun b u n e => ?_) (p2.le (by omega)) np h2 sub len⟩
      exact b2 b u (fun z => (List.mem_cons.mp z).elim (ne_of_none e np) n) e
theorem letter_ix {v : Int} (h0 : 0 ≤ v) (h1 : v < 4) : ∃ c, atI ("abcd" : Str).cps.toList v = some c ∧ (⟨#[c]⟩ : Str) ∈ letters := letter_at h0 h1
theorem eqv_nil (ps : List Nm) : PyData.eqv (.list (ps.map nmD)) (.list []) = decide (ps = []) := by
  cases ps with
  | nil => rfl
  | cons p r => rfl
def sp_law_need : Sp := fun vs H Q _ => ∃ (l g : Addr) (m : Nat) (c : Int) (gs : List V) (ps : List Nm), vs = [.ref l, .int c, .ref g] ∧ Pool m l H ∧ m ≤ 50000 ∧ H g = some (.lst gs) ∧ g ≠ l ∧ Reps [l] H gs (ps.map nmD) ∧ (∀ p ∈ ps, nmOk c p) ∧ ps.length ≤ 40 ∧ 0 < c ∧ c ≤ 4 ∧ ∀ (H' : Hp) (v : V) (p : Nm), But [l] H H' → Pool (m + 4) l H' → Rep [l] H' v (nmD p) → nmOk c p → Q v H'
theorem ok_law_need (T : Txt K w mg A) : FnOk Pg w K mg base CX0 2 A.f_law_need A.d_law_need ["pool", "count", "given"] (sp_law_need) := by
  refine T.F_law_need.ok sc_law_need (fun vs H Q E h => ?_) (fun cdv Ar outer s H vs Q E hr h => ?_)
  · obtain ⟨l, g, m, c, gs, ps, rfl, hp, m5, hg, gl, rg, gok, g40, c0, c4, k⟩ := h
    rfl
  · obtain ⟨l, g, m, c, gs, ps, rfl, hp, m5, hg, gl, rg, gok, g40, c0, c4, k⟩ := h
    refine ⟨_, PSs.nox ((pss_cons (ps_if (PW.pt (pw_and (pt_cmpR (op_neD hr.units) (pv 2) (pe_lst pa_nil) (nomark _)) (pw_and1 (pt_cmpR op_gt (pe_call (ok_law_draw T) hr rfl T.m_law_draw T.F_law_draw.kp (b_law_draw T) .nil pass0 (pa_cons (pv 0) (pa_cons pe_int pa_nil))) pe_int (nomark _))))) (pss_one (ps_ret (pe_ix ix_list (pv 2) (pe_call (ok_law_draw T) hr rfl T.m_law_draw T.F_law_draw.kp (b_law_draw T) .nil pass0 (pa_cons (pv 0) (pa_cons (pe_callB call_len_seq (by rfl) T.zlen (by decide +kernel) (pa_cons (pv 2) pa_nil)) pa_nil))) (fun _ _ => rfl)))) pss_nil)
 (pss_one (ps_ret (pe_tup (pa_cons (pe_call (ok_law_draw T) hr rfl T.m_law_draw T.F_law_draw.kp (b_law_draw T) .nil pass0 (pa_cons (pv 0) (pa_cons (pv 1) pa_nil))) (pa_cons (pe_ix ix_str pe_str (pe_call (ok_law_draw T) hr rfl T.m_law_draw T.F_law_draw.kp (b_law_draw T) .nil pass0 (pa_cons (pv 0) (pa_cons pe_int pa_nil))) (fun _ _ => rfl)) pa_nil))))))), ?_⟩
    rw [show start N_law_need [.ref l, .int c, .ref g] = [some (.ref l), some (.int c), some (.ref g)] from rfl]
    refine ⟨_, rfl, Nat.zero_le _, fun e ne => ?_⟩
    have he : Same H (upd H e (.lst [])) := same_new ne
    refine ⟨_, _, Rep.dp (st := [l]) (.list (ps.map nmD)) _ (noDict_nms ps) (.lst (he _ _ hg) (fun z => gl (List.mem_singleton.mp z)) (rg.sm he)), Rep.dp (st := [l]) (.list []) _ rfl (.lst upd_same (fun z => hp.ne ne (List.mem_singleton.mp z)) .nil), shaped_nms gok, (by decide +kernel), _, rfl, ?_⟩
    rw [eqv_nil]
    have last : ∀ (n : Nat) (H1 : Hp), n ≤ 1 → But [l] H H1 → Pool (m + n) l H1 → tRet (tTup (tCons (tCall sp_law_draw [] E0 (tCons (tVar 0) (tCons (tVar 1) tNil))) (tCons (tOp rIxS (tC (.str "abcd")) (tCall sp_law_draw [] E0 (tCons (tVar 0) (tCons (tC (.int 4)) tNil)))) tNil)))
        { nx := fun _ H' => Q .non H', rt := Q } [some (.ref l), some (.int c), some (.ref g)] H1 := by
      intro n H1 n1 b1 s1
      refine ⟨_, rfl, _, rfl, l, m + n, c, rfl, s1, by omega, c0, by omega, fun H2 v b2 s2 v0 v1 => ⟨_, rfl, l, m + n + 1, 4, rfl, s2, by omega, by decide, by decide, fun H3 u b3 s3 u0 u1 => ?_⟩⟩
      obtain ⟨ch, e, mem⟩ := letter_at u0 u1
      refine ⟨_, _, ch, rfl, rfl, (by decide +kernel), e, (by show 2 ≤ sizeLine; decide), fun p np => ?_⟩
      have bn : But [l] H3 (upd H3 p (.tup [.int v, .str ⟨#[ch]⟩])) := .new .refl np
      exact k _ _ (v, ⟨#[ch]⟩) (((b1.trans b2).trans b3).trans bn) ((s3.new np).le (by omega)) (.tup upd_same (fun z => s3.ne np (List.mem_singleton.mp z)) (.cons (.int _) (.cons (.str _) .nil))) ⟨v0, v1, mem⟩
    have hpe : Pool m l (upd H e (.lst [])) := hp.same he
    refine ite2 (fun c1 => ?_) (fun c1 => iteF (last 0 _ (by omega) (.of he) hpe))
    have some_ : ps ≠ [] := by simpa using c1
    have lgs : gs.length = ps.length := by rw [rg.length, List.length_map]
    have pos : 0 < ps.length := List.length_pos_iff.mpr some_
    refine ⟨_, rfl, l, m, 6, rfl, hpe, by omega, by decide, by decide, fun H1 v b1 s1 v0 v1 => ⟨_, _, rfl, rfl, _, rfl, ?_⟩⟩
    have b01 := (But.of he).trans b1
    refine ite2 (fun c2 => ?_) (fun c2 => last 1 H1 (by omega) b01 s1)
    have hg1 := b01.at1 hg gl
    refine ⟨_, rfl, _, rfl, _, rfl, g, _, rfl, .inl (SqL.of hg1), l, m + 1, _, rfl, s1, by omega, (by omega), (by omega), fun H2 u b2 s2 u0 u1 => ?_⟩
    have b02 := b01.trans b2
    have hg2 := b2.at1 hg1 gl
    obtain ⟨x, hx⟩ : ∃ x, gs[u.toNat]? = some x := ⟨_, List.getElem?_eq_getElem (by omega)⟩
    have at_u : atI gs u = some x := by
      have e := atI_nat (xs := gs) (j := u.toNat) hx
      rwa [Int.toNat_of_nonneg u0] at e
    obtain ⟨d, hd, rx⟩ := rg.get hx
    rw [List.getElem?_map] at hd
    obtain ⟨p, hp2, rfl⟩ := Option.map_eq_some_iff.mp hd
    exact ⟨g, gs, u, x, rfl, rfl, SqL.of hg2, at_u, k _ _ p b02 (s2.le (by omega)) (rx.mv b02) (gok p (List.mem_of_getElem? hp2))⟩
def sp_law_needs : Sp := fun vs H Q _ => ∃ (l g : Addr) (m t : Nat) (c : Int) (gs : List V) (ps : List Nm), vs = [.ref l, .int c, .ref g, .int (t : Nat)] ∧ t ≤ 2 ∧ Pool m l H ∧ m ≤ 40000 ∧ H g = some (.lst gs) ∧ g ≠ l ∧ Reps [l] H gs (ps.map nmD) ∧ (∀ p ∈ ps, nmOk c p) ∧ ps.length ≤ 40 ∧ 0 < c ∧ c ≤ 4 ∧ ∀ (H' : Hp) (v : V) (qs : List Nm), But [l] H H' → Pool (m + 10) l H' → Rep [l] H' v (needsD qs) → needsOk c t qs → Q v H'
theorem ok_law_needs (T : Txt K w mg A) : FnOk Pg w K mg base CX0 3 A.f_law_needs A.d_law_needs ["pool", "count", "given", "most"] (sp_law_needs) := by
  refine T.F_law_needs.ok sc_law_needs (fun vs H Q E h => ?_) (fun cdv Ar outer s H vs Q E hr h => ?_)
  · obtain ⟨l, g, m, t, c, gs, ps, rfl, t2, hp, m4, hg, gl, rg, gok, g40, c0, c4, k⟩ := h
    rfl
  · obtain ⟨l, g, m, t, c, gs, ps, rfl, t2, hp, m4, hg, gl, rg, gok, g40, c0, c4, k⟩ := h
    refine ⟨_, PSs.nox ((pss_one (ps_ret (pe_callTy call_tuple_of (by rfl) T.ztuple (by decide +kernel) (pa_cons (pe_lc (own := [("k", 4)]) (g := (gName 4)) (tt := tYes) rfl sc_law_needs.nd (pi_range1 (by rfl) T.zrange (pa_cons (pe_call (ok_law_draw T) (hr.mono (by decide)) rfl T.m_law_draw T.F_law_draw.kp (b_law_draw T) .nil pass0 (pa_cons (pv 0) (pa_cons (pe_op op_add (pv 3) pe_int) pa_nil))) pa_nil)) (blkOk_by (N := N_law_needs) (sc := defScope s_law_needs) (by decide +kernel)) (fun _ _ _ _ _ => (pg_name (i := 4) sc_law_needs.nd rfl (Or.inl rfl))) (fun _ _ _ _ _ => pts_nil) (fun _ _ _ _ _ => (pe_call (ok_law_need T) hr rfl T.m_law_need T.F_law_need.kp (b_law_need T) .nil pass0 (pa_cons (pv 0) (pa_cons (pv 1) (pa_cons (pv 2) pa_nil)))))) pa_nil))))), ?_⟩
    rw [show start N_law_needs [.ref l, .int c, .ref g, .int (t : Nat)] = [some (.ref l), some (.int c), some (.ref g), some (.int (t : Nat)), none] from rfl]
    refine ⟨_, rfl, _, rfl, _, _, rfl, rfl, l, m, (t : Int) + 1, rfl, hp, by omega, by omega, by omega, fun H1 n b1 s1 n0 n1 => ⟨n, rfl, by omega, by omega, fun D nD => ?_⟩⟩
    have Dl : D ≠ l := s1.ne nD
    refine lc_range (lo := 0) (n := n.toNat) (fun i H' => But [l] H1 H' ∧ Pool (m + 1 + 4 * i) l H' ∧ ∃ (acc : List V) (qs : List Nm), H' D = some (.lst acc) ∧ Reps [D, l] H' acc (qs.map nmD) ∧ qs.length = i ∧ ∀ q ∈ qs, nmOk c q) ?_ ?_ ?_
    · exact ⟨.new .refl nD, s1.new nD, [], [], upd_same, .nil, rfl, fun _ z => nomatch z⟩
    · rintro i H' hi ⟨b2, s2, acc, qs, hD, ra, ql, qo⟩
      have b := b1.trans b2
      refine ⟨rfl, ?_⟩
      refine ⟨_, rfl, _, rfl, _, rfl, l, g, m + 1 + 4 * i, c, gs, ps, rfl, s2, by omega, b.at1 hg gl, gl, rg.mv b, gok, g40, c0, c4, fun H3 v p b3 s3 rv okp => ?_⟩
      have hD3 := b3.at1 hD Dl
      have lq : acc.length = qs.length := by rw [ra.length, List.length_map]
      have ra3 := ra.mv (b3.mono fun x z => List.mem_cons_of_mem _ z)
      have u3 : But [D, l] H3 (upd H3 D (.lst (acc ++ [v]))) := But.upd .refl List.mem_cons_self
      refine ⟨acc, hD3, by rw [lq, ql, sizeLine_eq]; omega, (b2.trans b3).own nD, (s3.away Dl).le (by omega), acc ++ [v], qs ++ [p], upd_same, ?_, by rw [List.length_append, ql]; rfl, fun q hq => ?_⟩
      · rw [List.map_append]
        exact (ra3.app (.one (Rep.avoid hD3 _ _ rfl rv))).mv u3
      · rcases List.mem_append.mp hq with z | z
        · exact qo q z
        · rw [List.mem_singleton.mp z]
          exact okp
    · rintro H' ⟨b2, s2, acc, qs, hD, ra, ql, qo⟩
      refine ⟨D, acc, rfl, .inl ⟨SqL.of hD, fun t nt => ?_⟩⟩
      have bt : But [l] H' (upd H' t (.tup acc)) := .new .refl nt
      refine k _ _ qs ((b1.trans b2).trans bt) ((s2.new nt).le (by omega)) (.tup upd_same (fun z => s2.ne nt (List.mem_singleton.mp z)) ((ra.less fun a z => List.mem_cons_of_mem _ z).mv bt)) ⟨by omega, qo⟩
def sp_law_words : Sp := fun vs H Q _ => ∃ (l : Addr) (m : Nat) (c R O : Int), vs = [.ref l, .int c, .int R, .int O] ∧ Pool m l H ∧ m ≤ 40000 ∧ 0 < c ∧ c ≤ 4 ∧ 0 ≤ R ∧ R ≤ 12 ∧ 0 ≤ O ∧ O ≤ 2 ∧ ∀ (H' : Hp) (v : V) (ws : List (List Wd)), But [l] H H' → Pool (m + 44) l H' → Rep [l] H' v (.list (ws.map wdsD)) → WsOk ws → (ws.length : Int) = c → Q v H'
theorem ok_law_words (T : Txt K w mg A) : FnOk Pg w K mg base CX0 2 A.f_law_words A.d_law_words ["pool", "count", "most_rows", "most_outs"] (sp_law_words) := by
  refine T.F_law_words.ok sc_law_words (fun vs H Q E h => ?_) (fun cdv Ar outer s H vs Q E hr h => ?_)
  · obtain ⟨l, m, c, R, O, rfl, hp, m4, c0, c4, R0, R1, O0, O1, k⟩ := h
    rfl
  · obtain ⟨l, m, c, R, O, rfl, hp, m4, c0, c4, R0, R1, O0, O1, k⟩ := h
    refine ⟨_, PSs.nox ((pss_cons (ps_set (i := 4) sc_law_words.nd rfl (Or.inl rfl) (pe_lst pa_nil))
 (pss_cons (ps_set (i := 5) sc_law_words.nd rfl (Or.inl rfl) (pv 2))
 (pss_cons (ps_set (i := 6) sc_law_words.nd rfl (Or.inl rfl) (pv 3))
 (pss_cons (ps_for PassesOwn.never rfl (pi_range1 (by rfl) T.zrange (pa_cons (pv 1) pa_nil)) (pg_name (i := 7) sc_law_words.nd rfl (Or.inl rfl)) (pss_cons (ps_set (i := 8) sc_law_words.nd rfl (Or.inl rfl) (pe_lst pa_nil))
 (pss_cons (ps_for PassesOwn.never rfl (pi_range1 (by rfl) T.zrange (pa_cons (pe_callB (call_min2 rfl) (by rfl) T.zmin (by decide +kernel) (pa_cons (pv 5) (pa_cons (pe_call (ok_law_draw T) hr rfl T.m_law_draw T.F_law_draw.kp (b_law_draw T) .nil pass0 (pa_cons (pv 0) (pa_cons pe_int pa_nil))) pa_nil))) pa_nil)) (pg_name (i := 9) sc_law_words.nd rfl (Or.inl rfl)) (pss_cons (ps_set (i := 10) sc_law_words.nd rfl (Or.inl rfl) (pe_ix ix_list (pe_lst (pa_cons pe_str (pa_cons pe_str (pa_cons pe_str (pa_cons pe_str (pa_cons pe_str (pa_cons pe_str (pa_cons pe_str (pa_cons pe_str pa_nil))))))))) (pe_call (ok_law_draw T) hr rfl T.m_law_draw T.F_law_draw.kp (b_law_draw T) .nil pass0 (pa_cons (pv 0) (pa_cons pe_int pa_nil))) (fun _ _ => rfl)))
 (pss_cons (ps_if (PW.pt (pw_and (pt_cmpR op_eq (pv 10) pe_str (nomark _)) (pw_and1 (pt_cmpR op_eq (pv 6) pe_int (nomark _))))) (pss_one (ps_set (i := 10) sc_law_words.nd rfl (Or.inl rfl) pe_str)) pss_nil)
 (pss_cons (ps_set (i := 6) sc_law_words.nd rfl (Or.inl rfl) (pe_op op_sub (pv 6) (pe_callTy call_int1 (by rfl) T.zint (by decide +kernel) (pa_cons (pe_cmpR op_eq (pv 10) pe_str (nomark _)) pa_nil))))
 (pss_one (ps_expr (pe_bm PySem.F.plainAttrs_list PySem.F.slot_list_append PySem.F.type_list_append mt_append (pv 8) (pa_cons (pe_tup (pa_cons (pv 10) (pa_cons (pe_ix ix_str pe_str (pe_call (ok_law_draw T) hr rfl T.m_law_draw T.F_law_draw.kp (b_law_draw T) .nil pass0 (pa_cons (pv 0) (pa_cons pe_int pa_nil))) (fun _ _ => rfl)) pa_nil))) pa_nil))))))))
 (pss_cons (ps_set (i := 5) sc_law_words.nd rfl (Or.inl rfl) (pe_op op_sub (pv 5) (pe_callB call_len_seq (by rfl) T.zlen (by decide +kernel) (pa_cons (pv 8) pa_nil))))
 (pss_one (ps_expr (pe_bm PySem.F.plainAttrs_list PySem.F.slot_list_append PySem.F.type_list_append mt_append (pv 4) (pa_cons (pv 8) pa_nil))))))))
 (pss_one (ps_ret (pv 4)))))))), ?_⟩
    rw [show start N_law_words [.ref l, .int c, .int R, .int O] = [some (.ref l), some (.int c), some (.int R), some (.int O), none, none, none, none, none, none, none] from rfl]
    refine ⟨Nat.zero_le _, fun wl nwl => ?_⟩
    have wll := hp.ne nwl
    refine ⟨_, rfl, _, rfl, _, rfl, c, rfl, by omega, by omega, for_range (lo := 0) (n := c.toNat) (fun i σ H' => ∃ (wvs : List V) (ws : List (List Wd)) (o7 o8 o9 o10 : Option V), σ = [some (.ref l), some (.int c), some (.int R), some (.int O), some (.ref wl), some (.int (R - (totW ws : Int))), some (.int (O - (outW ws : Int))), o7, o8, o9, o10] ∧
      But [l] H H' ∧ Pool (m + 11 * i) l H' ∧ H' wl = some (.lst wvs) ∧ Reps [wl, l] H' wvs (ws.map wdsD) ∧ (∀ x ∈ ws, x.length ≤ 5) ∧ (∀ x ∈ ws, ∀ q ∈ x, Wd.ok q) ∧ (totW ws : Int) ≤ R ∧ (outW ws : Int) ≤ O ∧ ws.length = i) ?_ ?_ ?_⟩
    · refine ⟨[], [], none, none, none, none, ?_, But.refl.new nwl, hp.new nwl, upd_same, .nil, fun _ z => (nomatch z), fun _ z => (nomatch z), R0, O0, rfl⟩
      show _ = [some (V.ref l), some (.int c), some (.int R), some (.int O), some (.ref wl), some (.int (R - 0)), some (.int (O - 0)), none, none, none, none]
      rw [Int.sub_zero, Int.sub_zero]
      rfl
    · rintro i σ H' hi ⟨wvs, ws, o7, o8, o9, o10, rfl, b2, s2, hwl2, rw2, five, wsok, tot, out, wi⟩
      refine ⟨Nat.zero_le _, fun ln nln => ?_⟩
      have lnl := s2.ne nln
      have lnwl : ln ≠ wl := (ne_of_none hwl2 nln).symm
      have nlnH : H ln = none := by
        cases e : H ln with
        | none => rfl
        | some o => rw [b2.at1 e lnl] at nln; exact nomatch nln
      refine ⟨_, rfl, _, rfl, l, m + 11 * i, 6, rfl, s2.new nln, by omega, by decide, by decide, fun H3 u b3 s3 u0 u1 => ⟨_, _, rfl, ?_⟩⟩
      have mm : ∃ n : Nat, (if u < R - (totW ws : Int) then u else R - (totW ws : Int)) = (n : Int) ∧ n ≤ 5 ∧ (totW ws : Int) + n ≤ R := by
        by_cases q : u < R - (totW ws : Int)
        · rw [if_pos q]
          exact ⟨u.toNat, by omega, by omega, by omega⟩
        · rw [if_neg q]
          exact ⟨(R - (totW ws : Int)).toNat, by omega, by omega, by omega⟩
      obtain ⟨n, en, n5, nR⟩ := mm
      rw [en]
      have hln3 : H3 ln = some (.lst []) := b3.at1 upd_same lnl
      have hwl3 : H3 wl = some (.lst wvs) := b3.at1 (by rw [upd_ne lnwl.symm]; exact hwl2) wll
      have b13 : But [l] H H3 := (b2.new nln).trans b3
      have rw3 : Reps [ln, wl, l] H3 wvs (ws.map wdsD) := ((Reps.more nln _ _ rw2).mv (.of (same_new nln))).mv (b3.mono fun x q => List.mem_cons_of_mem _ (List.mem_cons_of_mem _ q))
      refine ⟨(n : Int), rfl, by omega, by omega, for_range (lo := 0) (n := ((n : Int)).toNat) (fun j σ H4 => ∃ (acc : List V) (qs : List Wd) (oo : Int) (o9 o10 : Option V), σ = [some (.ref l), some (.int c), some (.int R), some (.int O), some (.ref wl), some (.int (R - (totW ws : Int))), some (.int oo), some (.int (0 + (i : Int))), some (.ref ln), o9, o10] ∧
        But [l] H H4 ∧ Pool (m + 11 * i + 1 + 2 * j) l H4 ∧ H4 wl = some (.lst wvs) ∧ Reps [ln, wl, l] H4 wvs (ws.map wdsD) ∧ H4 ln = some (.lst acc) ∧ Reps [ln, wl, l] H4 acc (qs.map wdD) ∧ qs.length = j ∧ (∀ q ∈ qs, Wd.ok q) ∧ (oo = O - (outW ws : Int) - (outsW qs : Int) ∧ 0 ≤ oo)) ?_ ?_ ?_⟩
      · exact ⟨[], [], O - (outW ws : Int), _, _, rfl, b13, s3, hwl3, rw3, hln3, .nil, rfl, fun _ q => (nomatch q), by show _ = O - (outW ws : Int) - 0; omega, by omega⟩
      · rintro j σ H4 hj ⟨acc, qs, oo, o9, o10, rfl, b4, s4, hwl4, rw4, hln4, ra4, ql, qo, oe, o0⟩
        have lacc : acc.length = qs.length := by rw [ra4.length, List.length_map]
        have j5 : j < 5 := by
          have : j < ((n : Int)).toNat := hj
          omega
        refine ⟨(by show 8 ≤ sizeLine; decide), fun w8 nw8 => ?_⟩
        have w8ln : w8 ≠ ln := (ne_of_none hln4 nw8).symm
        refine ⟨_, rfl, l, m + 11 * i + 1 + 2 * j, 8, rfl, s4.new nw8, by omega, by decide, by decide, fun H5 u5 b5' s5 u50 u51 => ?_⟩
        have hw8 : H5 w8 = some (.lst (wordsL.map V.str)) := b5'.at1 upd_same (s4.ne nw8)
        have b5 : But [l] H4 H5 := (But.refl.new nw8).trans b5'
        have hln5 := b5.at1 hln4 lnl
        obtain ⟨wd, atw, wok⟩ := wordL_at u50 u51
        refine ⟨w8, _, u5, _, rfl, rfl, SqL.of hw8, atw, ?_⟩
        refine ⟨_, rfl, rfl, _, rfl, ?_⟩
        refine ite2 (fun q => ?_) (fun q => iteF ?_)
        · have ew : wd = "out" := by simpa using q
          refine ⟨_, rfl, rfl, _, rfl, ?_⟩
          refine ite2 (fun q2 => ?_) (fun q2 => ?_)
          · have oz : oo = 0 := by simpa using q2
            replace wok : ("give" : Str) ∈ wordsOf := by decide +kernel
            have ooE : oo - (if decide (V.str "give" = V.str "out") = true then 1 else 0) = oo := by rw [if_neg (by decide +kernel)]; omega
            refine ⟨_, rfl, _, rfl, rfl, .inr ⟨_, rfl, _, _, rfl, rfl, ?_⟩⟩
            refine ⟨_, rfl, .inl ⟨rfl, _, SqL.of hln5⟩, _, rfl, _, rfl, l, m + 11 * i + 1 + 2 * j + 1, 4, rfl, s5, by omega, by decide, by decide, fun H6 u6 b6 s6 u60 u61 => ?_⟩
            obtain ⟨ch, at_c, mem⟩ := letter_at u60 u61
            refine ⟨_, _, ch, rfl, rfl, (by decide +kernel), at_c, (by show 2 ≤ sizeLine; decide), fun t nt => ?_⟩
            have hln6 := b6.at1 hln5 lnl
            have tln : t ≠ ln := (ne_of_none hln6 nt).symm
            refine ⟨ln, acc, .ref t, rfl, rfl, by rw [upd_ne tln.symm]; exact hln6, by rw [lacc, ql, sizeLine_eq]; omega, ?_⟩
            have b46 := b5.trans b6
            have hwl6 := b46.at1 hwl4 wll
            have bw : But [ln, wl, l] H4 (upd (upd H6 t (.tup [.str "give", .str ⟨#[ch]⟩])) ln (.lst (acc ++ [.ref t]))) := ((b46.mono fun x z => List.mem_cons_of_mem _ (List.mem_cons_of_mem _ z)).new nt).upd List.mem_cons_self
            refine ⟨acc ++ [.ref t], qs ++ [(("give" : Str), (⟨#[ch]⟩ : Str))], oo, some (.int (0 + (j : Int))), some (.str "give"), ?_, ?_, ((s6.new nt).away lnl).le (by omega), ?_, rw4.mv bw, upd_same, ?_, by rw [List.length_append, ql]; rfl, ?_, ?_⟩
            · dsimp only [List.set]
              rw [ooE]
            · exact ((b4.trans b46).new nt).own nlnH
            · rw [upd_ne lnwl.symm, upd_ne (ne_of_none hwl6 nt)]
              exact hwl6
            · rw [List.map_append]
              refine (ra4.mv bw).app (.one (.tup (by rw [upd_ne tln]; exact upd_same) (fun z => ?_) (.cons (.str _) (.cons (.str _) .nil))))
              rcases List.mem_cons.mp z with e | z
              · exact tln e
              · rcases List.mem_cons.mp z with e | z
                · exact ne_of_none hwl6 nt e.symm
                · exact s6.ne nt (List.mem_singleton.mp z)
            · intro q hq
              rcases List.mem_append.mp hq with e | e
              · exact qo q e
              · rw [List.mem_singleton.mp e]
                exact ⟨wok, mem⟩
            · rw [outsW_snoc]
              dsimp only
              rw [if_neg (by decide +kernel)]
              exact ⟨by omega, o0⟩
          · have nz : oo ≠ 0 := by simpa using q2
            have ooE : oo - (if decide (V.str wd = V.str "out") = true then 1 else 0) = oo - 1 := by rw [if_pos (by rw [ew]; decide +kernel)]
            refine ⟨_, rfl, _, rfl, rfl, .inr ⟨_, rfl, _, _, rfl, rfl, ?_⟩⟩
            refine ⟨_, rfl, .inl ⟨rfl, _, SqL.of hln5⟩, _, rfl, _, rfl, l, m + 11 * i + 1 + 2 * j + 1, 4, rfl, s5, by omega, by decide, by decide, fun H6 u6 b6 s6 u60 u61 => ?_⟩
            obtain ⟨ch, at_c, mem⟩ := letter_at u60 u61
            refine ⟨_, _, ch, rfl, rfl, (by decide +kernel), at_c, (by show 2 ≤ sizeLine; decide), fun t nt => ?_⟩
            have hln6 := b6.at1 hln5 lnl
            have tln : t ≠ ln := (ne_of_none hln6 nt).symm
            refine ⟨ln, acc, .ref t, rfl, rfl, by rw [upd_ne tln.symm]; exact hln6, by rw [lacc, ql, sizeLine_eq]; omega, ?_⟩
            have b46 := b5.trans b6
            have hwl6 := b46.at1 hwl4 wll
            have bw : But [ln, wl, l] H4 (upd (upd H6 t (.tup [.str wd, .str ⟨#[ch]⟩])) ln (.lst (acc ++ [.ref t]))) := ((b46.mono fun x z => List.mem_cons_of_mem _ (List.mem_cons_of_mem _ z)).new nt).upd List.mem_cons_self
            refine ⟨acc ++ [.ref t], qs ++ [((wd : Str), (⟨#[ch]⟩ : Str))], oo - 1, some (.int (0 + (j : Int))), some (.str wd), ?_, ?_, ((s6.new nt).away lnl).le (by omega), ?_, rw4.mv bw, upd_same, ?_, by rw [List.length_append, ql]; rfl, ?_, ?_⟩
            · dsimp only [List.set]
              rw [ooE]
            · exact ((b4.trans b46).new nt).own nlnH
            · rw [upd_ne lnwl.symm, upd_ne (ne_of_none hwl6 nt)]
              exact hwl6
            · rw [List.map_append]
              refine (ra4.mv bw).app (.one (.tup (by rw [upd_ne tln]; exact upd_same) (fun z => ?_) (.cons (.str _) (.cons (.str _) .nil))))
              rcases List.mem_cons.mp z with e | z
              · exact tln e
              · rcases List.mem_cons.mp z with e | z
                · exact ne_of_none hwl6 nt e.symm
                · exact s6.ne nt (List.mem_singleton.mp z)
            · intro q hq
              rcases List.mem_append.mp hq with e | e
              · exact qo q e
              · rw [List.mem_singleton.mp e]
                exact ⟨wok, mem⟩
            · rw [outsW_snoc]
              dsimp only
              rw [if_pos ew]
              exact ⟨by omega, by omega⟩
        · have ew : ¬ wd = "out" := fun e => q (by simp [e])
          have ooE : oo - (if decide (V.str wd = V.str "out") = true then 1 else 0) = oo := by rw [if_neg (by simpa using ew)]; omega
          refine ⟨_, rfl, _, rfl, rfl, .inr ⟨_, rfl, _, _, rfl, rfl, ?_⟩⟩
          refine ⟨_, rfl, .inl ⟨rfl, _, SqL.of hln5⟩, _, rfl, _, rfl, l, m + 11 * i + 1 + 2 * j + 1, 4, rfl, s5, by omega, by decide, by decide, fun H6 u6 b6 s6 u60 u61 => ?_⟩
          obtain ⟨ch, at_c, mem⟩ := letter_at u60 u61
          refine ⟨_, _, ch, rfl, rfl, (by decide +kernel), at_c, (by show 2 ≤ sizeLine; decide), fun t nt => ?_⟩
          have hln6 := b6.at1 hln5 lnl
          have tln : t ≠ ln := (ne_of_none hln6 nt).symm
          refine ⟨ln, acc, .ref t, rfl, rfl, by rw [upd_ne tln.symm]; exact hln6, by rw [lacc, ql, sizeLine_eq]; omega, ?_⟩
          have b46 := b5.trans b6
          have hwl6 := b46.at1 hwl4 wll
          have bw : But [ln, wl, l] H4 (upd (upd H6 t (.tup [.str wd, .str ⟨#[ch]⟩])) ln (.lst (acc ++ [.ref t]))) := ((b46.mono fun x z => List.mem_cons_of_mem _ (List.mem_cons_of_mem _ z)).new nt).upd List.mem_cons_self
          refine ⟨acc ++ [.ref t], qs ++ [((wd : Str), (⟨#[ch]⟩ : Str))], oo, some (.int (0 + (j : Int))), some (.str wd), ?_, ?_, ((s6.new nt).away lnl).le (by omega), ?_, rw4.mv bw, upd_same, ?_, by rw [List.length_append, ql]; rfl, ?_, ?_⟩
          · dsimp only [List.set]
            rw [ooE]
          · exact ((b4.trans b46).new nt).own nlnH
          · rw [upd_ne lnwl.symm, upd_ne (ne_of_none hwl6 nt)]
            exact hwl6
          · rw [List.map_append]
            refine (ra4.mv bw).app (.one (.tup (by rw [upd_ne tln]; exact upd_same) (fun z => ?_) (.cons (.str _) (.cons (.str _) .nil))))
            rcases List.mem_cons.mp z with e | z
            · exact tln e
            · rcases List.mem_cons.mp z with e | z
              · exact ne_of_none hwl6 nt e.symm
              · exact s6.ne nt (List.mem_singleton.mp z)
          · intro q hq
            rcases List.mem_append.mp hq with e | e
            · exact qo q e
            · rw [List.mem_singleton.mp e]
              exact ⟨wok, mem⟩
          · rw [outsW_snoc]
            dsimp only
            rw [if_neg ew]
            exact ⟨by omega, o0⟩
      · rintro σ H4 ⟨acc, qs, oo, o9, o10, rfl, b4, s4, hwl4, rw4, hln4, ra4, ql, qo, oe, o0⟩
        rw [Int.toNat_natCast] at ql
        have lacc : acc.length = qs.length := by rw [ra4.length, List.length_map]
        have lwv : wvs.length = ws.length := by rw [rw4.length, List.length_map]
        have i4 : i < 4 := by omega
        refine ⟨_, rfl, _, rfl, ln, acc, rfl, .inl (SqL.of hln4), _, _, rfl, rfl, ?_⟩
        refine ⟨_, rfl, .inl ⟨rfl, _, SqL.of hwl4⟩, _, rfl, wl, wvs, _, rfl, rfl, hwl4, by rw [lwv, wi, sizeLine_eq]; omega, ?_⟩
        have bw : But [wl, l] H4 (upd H4 wl (.lst (wvs ++ [.ref ln]))) := But.refl.upd List.mem_cons_self
        have lt := totW_snoc ws qs
        have lo := outW_snoc ws qs
        refine ⟨wvs ++ [.ref ln], ws ++ [qs], some (.int (0 + (i : Int))), some (.ref ln), o9, o10, ?_, b4.own nwl, (s4.away wll).le (by omega), upd_same, ?_, fun y hy => ?_, fun y hy => ?_, by omega, by omega, by rw [List.length_append, wi]; rfl⟩
        · dsimp only [List.set]
          rw [show (R - (totW ws : Int)) - (acc.length : Int) = R - (totW (ws ++ [qs]) : Int) by rw [lacc]; omega, show oo = O - (outW (ws ++ [qs]) : Int) by omega]
        · rw [List.map_append]
          refine ((rw4.less fun a q => List.mem_cons_of_mem _ q).mv bw).app (.one (.lst (by rw [upd_ne lnwl]; exact hln4) (fun q => ?_) ((ra4.less fun a q => List.mem_cons_of_mem _ q).mv bw)))
          rcases List.mem_cons.mp q with e | q
          · exact lnwl e
          · exact lnl (List.mem_singleton.mp q)
        · rcases List.mem_append.mp hy with e | e
          · exact five y e
          · rw [List.mem_singleton.mp e, ql]
            exact n5
        · rcases List.mem_append.mp hy with e | e
          · exact wsok y e
          · rw [List.mem_singleton.mp e]
            exact qo
    · rintro σ H' ⟨wvs, ws, o7, o8, o9, o10, rfl, b2, s2, hwl2, rw2, five, wsok, tot, out, wi⟩
      refine ⟨_, rfl, k _ _ ws b2 (s2.le (by omega)) (.lst hwl2 (fun q => wll (List.mem_singleton.mp q)) (rw2.less fun a q => List.mem_cons_of_mem _ q)) ⟨five, wsok, by omega, by omega⟩ (by omega)⟩
def sp_law_with_show : Sp := fun vs H Q _ => ∃ (l a : Addr) (wvs : List V) (ws : List (List Wd)), vs = [.ref a] ∧ H a = some (.lst wvs) ∧ a ≠ l ∧ Reps [l] H wvs (ws.map wdsD) ∧ WsOk ws ∧ 1 ≤ ws.length ∧ ws.length ≤ 4 ∧ (∃ xs, H l = some (.lst xs)) ∧ ∀ (H' : Hp) (v : V) (us : List (List Wd)), Same H H' → Rep [l] H' v (.list (us.map wdsD)) → WsOk us → us.length = ws.length → (∃ x ∈ us, ∃ q ∈ x, q.1 = ("give" : Str) ∨ q.1 = ("show" : Str)) → Q v H'
theorem ok_law_with_show (T : Txt K w mg A) : FnOk Pg w K mg base CX0 1 A.f_law_with_show A.d_law_with_show ["words"] (sp_law_with_show) := by
  refine T.F_law_with_show.ok sc_law_with_show (fun vs H Q E h => ?_) (fun cdv Ar outer s H vs Q E hr h => ?_)
  · obtain ⟨l, a, wvs, ws, rfl, ha, al, rw_, ok, one, four, ⟨lx, hl⟩, k⟩ := h
    rfl
  · obtain ⟨l, a, wvs, ws, rfl, ha, al, rw_, ok, one, four, ⟨lx, hl⟩, k⟩ := h
    refine ⟨_, PSs.nox ((pss_cons (ps_for PassesOwn.never rfl (pi_list (pv 0)) (pg_name (i := 1) sc_law_with_show.nd rfl (Or.inl rfl)) (pss_one (ps_for PassesOwn.never rfl (pi_list (pv 1)) (pg_tup (by rfl) (pgs_cons (pg_name (i := 2) sc_law_with_show.nd rfl (Or.inl rfl)) (pgs_cons (pg_name (i := 3) sc_law_with_show.nd rfl (Or.inl rfl)) pgs_nil))) (pss_one (ps_if (PW.pt (pw_or (pt_cmpR op_eq (pv 2) pe_str (nomark _)) (pw_or1 (pt_cmpR op_eq (pv 2) pe_str (nomark _))))) (pss_one (ps_ret (pv 0))) pss_nil)))))
 (pss_cons (ps_setLc (i := 4) (own := [("k", 6)]) (g := (gName 6)) (tt := _) rfl sc_law_with_show.nd rfl rfl (sw_true rfl rfl rfl (by decide +kernel)) (pi_range1 (by rfl) T.zrange (pa_cons (pe_callB call_len_seq (by rfl) T.zlen (by decide +kernel) (pa_cons (pv 0) pa_nil)) pa_nil)) (blkOk_by (N := N_law_with_show) (sc := defScope s_law_with_show) (by decide +kernel)) (fun _ _ _ _ _ => (pg_name (i := 6) sc_law_with_show.nd rfl (Or.inl rfl))) (fun _ _ _ _ _ => (pts_one (pt_cmpR (show OpR _ (compareOp .NotEq) (rNeD K) from op_neD hr.units) (pe_ix (show IxR _ (rIxL K) from ix_list) (pv 0) (pv 6) (fun _ _ => rfl)) (pe_lst pa_nil) (nomark _)))) (fun _ _ _ _ _ => (pv 6)))
 (pss_cons (ps_set (i := 5) sc_law_with_show.nd rfl (Or.inr rfl) (pe_ix ix_list (pe_op op_cat (pv 4) (pe_lst (pa_cons pe_int pa_nil))) pe_int (fun _ _ => rfl)))
 (pss_one (ps_ret (pe_lc (own := [("k", 6), ("row", 1)]) (g := (gTup _ 2 (gCons (gName 6) (gCons (gName 1) gNil)))) (tt := tYes) rfl sc_law_with_show.nd (pi_enum (by rfl) T.zenumerate (pa_cons (pv 0) pa_nil)) (blkOk_by (N := N_law_with_show) (sc := defScope s_law_with_show) (by decide +kernel)) (fun _ _ _ _ _ => (pg_tup (by rfl) (pgs_cons (pg_name (i := 6) sc_law_with_show.nd rfl (Or.inl rfl)) (pgs_cons (pg_name (i := 1) sc_law_with_show.nd rfl (Or.inl rfl)) pgs_nil)))) (fun _ _ _ _ _ => pts_nil) (fun _ _ _ _ _ => (pe_ifExp (pt_cmpR op_eq (pv 6) (pv 5) (nomark _)) (pe_op op_cat (pe_slice (show SlR _ (rSlL K) from sl_list) (pv 1) po_none (po_some (pe_un un_neg pe_int))) (pe_lst (pa_cons (pe_tup (pa_cons pe_str (pa_cons pe_str pa_nil))) pa_nil))) (pv 1)))))))))), ?_⟩
    rw [show start N_law_with_show [.ref a] = [some (.ref a), none, none, none, none, none, none] from rfl]
    have lw : wvs.length = ws.length := by rw [rw_.length, List.length_map]
    refine ⟨_, rfl, a, rfl, ⟨_, SqL.of ha⟩, for_list (K := K) (a := a) (xs := wvs) (fun i σ H' => H' = H ∧ ∃ o1 o2 o3 : Option V, σ = [some (.ref a), o1, o2, o3, none, none, none]) ⟨rfl, _, _, _, rfl⟩ (fun i σ H' _ q => by rw [q.1]; exact SqL.of ha) ?_ ?_⟩
    · rintro i y σ H' hi ⟨rfl, o1, o2, o3, rfl⟩
      obtain ⟨d, hd, ry⟩ := rw_.get hi
      rw [List.getElem?_map] at hd
      obtain ⟨x, hx, rfl⟩ := Option.map_eq_some_iff.mp hd
      obtain ⟨b, bvs, rfl, hb, _, rb⟩ := ry.lstV
      refine ⟨_, rfl, b, rfl, ⟨_, SqL.of hb⟩, for_list (K := K) (a := b) (xs := bvs) (fun i σ H'' => H'' = H' ∧ ∃ o2 o3 : Option V, σ = [some (.ref a), some (.ref b), o2, o3, none, none, none]) ⟨rfl, _, _, rfl⟩ (fun i σ H'' _ q => by rw [q.1]; exact SqL.of hb) ?_ ?_⟩
      · rintro j z σ H'' hj ⟨rfl, o2, o3, rfl⟩
        obtain ⟨d2, hd2, rz⟩ := rb.get hj
        rw [List.getElem?_map] at hd2
        obtain ⟨q, hq, rfl⟩ := Option.map_eq_some_iff.mp hd2
        obtain ⟨t, p1, p2, rfl, ht, r1, r2⟩ := rz.two
        obtain rfl := r1.strV
        obtain rfl := r2.strV
        refine ⟨t, _, rfl, SqT.of ht, rfl, _, _, rfl, _, _, rfl, rfl, ?_⟩
        have fin_ : q.1 = ("give" : Str) ∨ q.1 = ("show" : Str) → Q (.ref a) H'' := fun c => k H'' _ ws (.refl _) (.lst ha (fun z => al (List.mem_singleton.mp z)) rw_) ok rfl ⟨x, List.mem_of_getElem? hx, q, List.mem_of_getElem? hq, c⟩
        refine ⟨_, rfl, rfl, _, rfl, ?_⟩
        refine ite2 (fun c => iteT ?_) (fun c => ?_)
        · exact ⟨_, rfl, fin_ (.inl (by simpa using c))⟩
        · refine ⟨_, rfl, rfl, _, rfl, ?_⟩
          refine ite2 (fun c => ?_) (fun c => ?_)
          · exact ⟨_, rfl, fin_ (.inr (by simpa using c))⟩
          · exact ⟨rfl, _, _, rfl⟩
      · rintro σ H'' ⟨rfl, o2, o3, rfl⟩
        exact ⟨rfl, _, _, _, rfl⟩
    · rintro σ H' ⟨rfl, o1, o2, o3, rfl⟩
      refine ⟨_, rfl, a, _, rfl, .inl (SqL.of ha), (ws.length : Int), by rw [lw], by omega, by omega, fun D nD => ?_⟩
      refine lc_range (lo := 0) (n := ((ws.length : Int)).toNat) (fun i H2 => Same H' H2 ∧ ∃ ks : List Nat, H2 D = some (.lst (ks.map fun (n : Nat) => V.int (n : Int))) ∧ (∀ n ∈ ks, n < ws.length ∧ ws.getD n [] ≠ []) ∧ ks.length ≤ i ∧ (ks = [] → ∀ j, j < i → ws.getD j [] = [])) ?_ ?_ ?_
      · exact ⟨same_new nD, [], upd_same, fun _ z => (nomatch z), Nat.le_refl _, fun _ j z => (nomatch z)⟩
      · rintro i H2 hi ⟨s2, ks, hD, kok, kl, kn⟩
        have il : i < ws.length := by omega
        obtain ⟨x, hx⟩ : ∃ x, ws[i]? = some x := ⟨_, List.getElem?_eq_getElem il⟩
        have gx : ws.getD i [] = x := by rw [List.getD_eq_getElem?_getD, hx, Option.getD_some]
        obtain ⟨y, hy, ry⟩ := rw_.at_ (i := i) (d := wdsD x) (by rw [List.getElem?_map, hx]; rfl)
        have at_i : atI wvs (0 + (i : Int)) = some y := by
          rw [Int.zero_add]
          exact atI_nat hy
        have xok := ok.ok x (List.mem_of_getElem? hx)
        refine ⟨rfl, _, rfl, _, rfl, a, wvs, _, y, rfl, rfl, SqL.of (s2 _ _ ha), at_i, (Nat.zero_le _), fun e ne => ?_⟩
        have se : Same H2 (upd H2 e (.lst [])) := same_new ne
        refine ⟨_, _, Rep.dp (st := [l]) (wdsD x) y (noDict_wds x) ((ry.sm s2).sm se), Rep.dp (st := [l]) (.list []) _ rfl (.lst upd_same (fun z => ne_of_none (s2 _ _ hl) ne (List.mem_singleton.mp z).symm) .nil), shaped_wds xok, (by decide +kernel), _, rfl, ?_⟩
        rw [eqv_wds]
        refine ite2 (fun c => ?_) (fun c => ?_)
        · have xn : x ≠ [] := by simpa using c
          refine ⟨_, rfl, _, se _ _ hD, by rw [List.length_map, sizeLine_eq]; omega, same_own (s2.trans se) nD, ks ++ [i], ?_, fun n hn => ?_, by rw [List.length_append]; show ks.length + 1 ≤ i + 1; omega, fun z => ?_⟩
          · rw [upd_same, List.map_append, Int.zero_add]
            rfl
          · rcases List.mem_append.mp hn with z | z
            · exact kok n z
            · rw [List.mem_singleton.mp z, gx]
              exact ⟨il, xn⟩
          · simp at z
        · have xn : x = [] := by simpa using c
          refine ⟨s2.trans se, ks, se _ _ hD, kok, by omega, fun z j hj => ?_⟩
          rcases (by omega : j < i ∨ j = i) with e | e
          · exact kn z j e
          · rw [e, gx]
            exact xn
      · rintro H2 ⟨s2, ks, hD, kok, kl, kn⟩
        refine ⟨_, rfl, (by show 1 ≤ sizeLine; decide), fun z nz => ⟨D, z, _, _, rfl, rfl, same_new nz _ _ hD, upd_same, by simp only [List.length_map, List.length_singleton]; rw [sizeLine_eq]; omega, fun q nq => ?_⟩⟩
        have s3 : Same H2 (upd (upd H2 z (.lst [V.int 0])) q (.lst (ks.map (fun (n : Nat) => V.int (n : Int)) ++ [V.int 0]))) := (same_new nz).trans (same_new nq)
        have hq : (upd (upd H2 z (.lst [V.int 0])) q (.lst (ks.map (fun (n : Nat) => V.int (n : Int)) ++ [V.int 0]))) q = some (.lst (ks.map (fun (n : Nat) => V.int (n : Int)) ++ [V.int 0])) := upd_same
        generalize upd (upd H2 z (.lst [V.int 0])) q (.lst (ks.map (fun (n : Nat) => V.int (n : Int)) ++ [V.int 0])) = H3 at s3 hq ⊢
        have s23 := s2.trans s3
        obtain ⟨n, hn, nl, nn⟩ : ∃ n : Nat, atI (ks.map (fun (n : Nat) => V.int (n : Int)) ++ [V.int 0]) 0 = some (V.int (n : Int)) ∧ n < ws.length ∧ (ws.getD n [] ≠ [] ∨ totW ws = 0) := by
          cases ks with
          | nil => exact ⟨0, atI_nat (j := 0) rfl, by omega, .inr (totW_zero fun j hj => kn rfl j (by omega))⟩
          | cons n r => exact ⟨n, atI_nat (j := 0) rfl, (kok n List.mem_cons_self).1, .inl (kok n List.mem_cons_self).2⟩
        refine ⟨q, _, 0, _, rfl, rfl, SqL.of hq, hn, ?_⟩
        refine ⟨_, rfl, a, wvs, rfl, SqL.of (s23 _ _ ha), fun D2 nD2 => ?_⟩
        have wl := withShow_len ws n
        refine lc_it walk_enum (fun i H4 => Same H3 H4 ∧ ∃ acc : List V, H4 D2 = some (.lst acc) ∧ Reps [D2, l] H4 acc (((withShow ws n).take i).map wdsD)) ?_ (fun i H4 _ p => SqL.of (p.1 _ _ (s23 _ _ ha))) ?_ ?_
        · exact ⟨same_new nD2, [], upd_same, .nil⟩
        · rintro i x0 H4 H5 hi ⟨s4, acc, hD2, ra⟩ ⟨T, x1, x2, rfl, nt, rfl, h1, h2⟩
          obtain rfl := Option.some.inj h1
          have il : i < ws.length := by omega
          obtain ⟨x, hx⟩ : ∃ x, ws[i]? = some x := ⟨_, List.getElem?_eq_getElem il⟩
          have gx : ws.getD i [] = x := by rw [List.getD_eq_getElem?_getD, hx, Option.getD_some]
          obtain ⟨y, hy, ry⟩ := rw_.at_ (i := i) (d := wdsD x) (by rw [List.getElem?_map, hx]; rfl)
          obtain rfl := Option.some.inj (hy.symm.trans h2)
          have s5 : Same H4 (upd H4 T (.tup [V.int (i : Int), y])) := same_new nt
          have hD5 := s5 _ _ hD2
          have lacc : acc.length = i := by rw [ra.length, List.length_map, List.length_take, wl]; omega
          have tk : (withShow ws n).take (i + 1) = (withShow ws n).take i ++ [if i = n then (ws.getD n []).dropLast ++ [showA] else x] := by
            rw [List.take_succ, withShow_at ws n i il, gx]
            rfl
          refine ⟨T, _, rfl, SqT.of upd_same, rfl, _, _, rfl, _, _, rfl, rfl, rfl, ?_⟩
          refine ⟨_, rfl, _, rfl, rfl, _, rfl, ?_⟩
          generalize upd H4 T (.tup [V.int (i : Int), y]) = H5 at s5 hD5 ⊢
          have s35 := s4.trans s5
          have ry5 : Rep [D2, l] H5 y (wdsD x) := (Rep.more nD2 _ _ ((ry.sm s23))).sm s35
          have ra5 := ra.sm s5
          have small : acc.length < sizeLine := by rw [lacc, sizeLine_eq]; omega
          refine ite2 (fun c => ?_) (fun c => ?_)
          · have ei : i = n := by
              have e : V.int (i : Int) = V.int (n : Int) := by simpa using c
              injection e with e
              omega
            obtain ⟨b, bvs, rfl, hb, _, rb⟩ := ry5.lstV
            refine ⟨_, rfl, _, rfl, _, rfl, b, bvs, rfl, SqL.of hb, fun p np => ⟨(by show 2 ≤ sizeLine; decide), fun t nt2 => ⟨(by show 1 ≤ sizeLine; decide), fun z2 nz2 => ?_⟩⟩⟩
            rw [cut_last] at nt2 nz2 ⊢
            have hp2 : (upd (upd (upd H5 p (.lst bvs.dropLast)) t (.tup [V.str "show", V.str "a"])) z2 (.lst [V.ref t])) p = some (.lst bvs.dropLast) := (same_new nz2) _ _ ((same_new nt2) _ _ upd_same)
            refine ⟨p, z2, _, _, rfl, rfl, hp2, upd_same, by rw [List.length_dropLast, rb.length, List.length_map, List.length_singleton, sizeLine_eq]; have := ok.five x (List.mem_of_getElem? hx); omega, fun r nr => ?_⟩
            have s6 : Same H5 (upd (upd (upd (upd H5 p (.lst bvs.dropLast)) t (.tup [V.str "show", V.str "a"])) z2 (.lst [V.ref t])) r (.lst (bvs.dropLast ++ [V.ref t]))) := (same_new np).trans ((same_new nt2).trans ((same_new nz2).trans (same_new nr)))
            have ht6 : (upd (upd (upd (upd H5 p (.lst bvs.dropLast)) t (.tup [V.str "show", V.str "a"])) z2 (.lst [V.ref t])) r (.lst (bvs.dropLast ++ [V.ref t]))) t = some (.tup [V.str "show", V.str "a"]) := (same_new nr) _ _ ((same_new nz2) _ _ upd_same)
            have hr6 : (upd (upd (upd (upd H5 p (.lst bvs.dropLast)) t (.tup [V.str "show", V.str "a"])) z2 (.lst [V.ref t])) r (.lst (bvs.dropLast ++ [V.ref t]))) r = some (.lst (bvs.dropLast ++ [V.ref t])) := upd_same
            have rD : r ≠ D2 := (ne_of_none (((same_new np).trans ((same_new nt2).trans (same_new nz2))) _ _ hD5) nr).symm
            have rl : r ≠ l := (ne_of_none (((same_new np).trans ((same_new nt2).trans (same_new nz2))) _ _ (s35 _ _ (s23 _ _ hl))) nr).symm
            have tD : t ≠ D2 := (ne_of_none ((same_new np) _ _ hD5) nt2).symm
            have tl : t ≠ l := (ne_of_none ((same_new np) _ _ (s35 _ _ (s23 _ _ hl))) nt2).symm
            generalize upd (upd (upd (upd H5 p (.lst bvs.dropLast)) t (.tup [V.str "show", V.str "a"])) z2 (.lst [V.ref t])) r (.lst (bvs.dropLast ++ [V.ref t])) = H6 at s6 ht6 hr6 ⊢
            have in2 : ∀ {x : Addr}, x ≠ D2 → x ≠ l → x ∉ [D2, l] := fun n1 n2 z => (List.mem_cons.mp z).elim n1 (fun z => n2 (List.mem_singleton.mp z))
            refine ⟨acc, s6 _ _ hD5, small, same_own (s35.trans s6) nD2, acc ++ [.ref r], upd_same, ?_⟩
            rw [tk, if_pos ei, List.map_append]
            have bD : But [D2, l] H6 (upd H6 D2 (.lst (acc ++ [.ref r]))) := But.refl.upd List.mem_cons_self
            refine ((ra5.sm s6).mv bD).app (.one ?_)
            rw [show ws.getD n [] = x by rw [← ei]; exact gx]
            refine .lst (by rw [upd_ne rD]; exact hr6) (in2 rD rl) ?_
            rw [List.map_append]
            refine Reps.app ?_ (.one (.tup (by rw [upd_ne tD]; exact ht6) (in2 tD tl) (.cons (.str _) (.cons (.str _) .nil))))
            have rb2 := ((rb.sm s6).mv bD).cut (bvs.length - 1)
            rw [← List.dropLast_eq_take, show (x.map wdD).take (bvs.length - 1) = x.dropLast.map wdD by rw [rb.length, List.length_map, ← List.map_take, List.dropLast_eq_take]] at rb2
            exact rb2
          · have ei : i ≠ n := fun e => c (by rw [e]; simp)
            refine ⟨_, rfl, acc, hD5, small, same_own s35 nD2, acc ++ [y], upd_same, ?_⟩
            rw [tk, if_neg ei, List.map_append]
            exact (ra5.app (.one ry5)).mv (But.refl.upd List.mem_cons_self)
        · rintro H4 ⟨s4, acc, hD2, ra⟩
          rw [lw, ← wl, List.take_length] at ra
          have Dl : D2 ≠ l := (ne_of_none (s23 _ _ hl) nD2).symm
          refine k H4 _ (withShow ws n) (s23.trans s4) (.lst hD2 (fun z => Dl (List.mem_singleton.mp z)) (ra.less fun x z => List.mem_cons_of_mem _ z)) (wsOk_set ok nl nn) wl ?_
          refine ⟨(ws.getD n []).dropLast ++ [showA], List.mem_of_getElem? (i := n) (by rw [withShow_at ws n n nl, if_pos rfl]), showA, List.mem_append_right _ (List.mem_singleton.mpr rfl), .inr rfl⟩
def sp_law_row : Sp := fun vs H Q _ => ∃ (l g : Addr) (m : Nat) (wd n : Str) (c : Int) (gs : List V) (ps : List Nm), vs = [.ref l, .str wd, .str n, .int c, .ref g] ∧ wd ∈ wordsOf ∧ n ∈ letters ∧ Pool m l H ∧ m ≤ 30000 ∧ H g = some (.lst gs) ∧ g ≠ l ∧ Reps [l] H gs (ps.map nmD) ∧ (∀ p ∈ ps, nmOk c p) ∧ ps.length ≤ 40 ∧ 0 < c ∧ c ≤ 4 ∧ ∀ (H' : Hp) (v : V) (r : Row), But [l] H H' → Pool (m + 12) l H' → Rep [l] H' v r.d → r.ok c → r.word = wd → Q v H'
theorem ok_law_row (T : Txt K w mg A) : FnOk Pg w K mg base CX0 4 A.f_law_row A.d_law_row ["pool", "word", "name", "count", "given"] (sp_law_row) := by
  refine T.F_law_row.ok sc_law_row (fun vs H Q E h => ?_) (fun cdv Ar outer s H vs Q E hr h => ?_)
  · obtain ⟨l, g, m, wd, n, c, gs, ps, rfl, xw, hn, hp, m3, hg, gl, rg, gok, g40, c0, c4, k⟩ := h
    rfl
  · obtain ⟨l, g, m, wd, n, c, gs, ps, rfl, xw, hn, hp, m3, hg, gl, rg, gok, g40, c0, c4, k⟩ := h
    refine ⟨_, PSs.nox ((pss_cons (ps_if (pt_cmpR op_eq (pv 1) pe_str (nomark _)) (pss_one (ps_ret (pe_tup (pa_cons (pv 1) (pa_cons (pe_call (ok_law_draw T) (hr.mono (by decide)) rfl T.m_law_draw T.F_law_draw.kp (b_law_draw T) .nil pass0 (pa_cons (pv 0) (pa_cons (pv 3) pa_nil))) pa_nil))))) pss_nil)
 (pss_cons (ps_if (pt_cmpR op_eq (pv 1) pe_str (nomark _)) (pss_one (ps_ret (pe_tup (pa_cons (pv 1) (pa_cons (pv 2) (pa_cons (pe_call (ok_law_needs T) hr rfl T.m_law_needs T.F_law_needs.kp (b_law_needs T) .nil pass0 (pa_cons (pv 0) (pa_cons (pv 3) (pa_cons (pv 4) (pa_cons pe_int pa_nil))))) (pa_cons (pe_cmpR op_eq (pe_call (ok_law_draw T) (hr.mono (by decide)) rfl T.m_law_draw T.F_law_draw.kp (b_law_draw T) .nil pass0 (pa_cons (pv 0) (pa_cons pe_int pa_nil))) pe_int (nomark _)) pa_nil))))))) pss_nil)
 (pss_cons (ps_if (pt_cmpR op_eq (pv 1) pe_str (nomark _)) (pss_one (ps_ret (pe_op op_catT (pe_tup (pa_cons (pv 1) (pa_cons (pv 2) pa_nil))) (pe_call (ok_law_need T) (hr.mono (by decide)) rfl T.m_law_need T.F_law_need.kp (b_law_need T) .nil pass0 (pa_cons (pv 0) (pa_cons (pv 3) (pa_cons (pv 4) pa_nil))))))) pss_nil)
 (pss_cons (ps_if (pt_cmpR op_eq (pv 1) pe_str (nomark _)) (pss_one (ps_ret (pe_tup (pa_cons (pv 1) (pa_cons (pe_call (ok_law_needs T) hr rfl T.m_law_needs T.F_law_needs.kp (b_law_needs T) .nil pass0 (pa_cons (pv 0) (pa_cons (pv 3) (pa_cons (pv 4) (pa_cons pe_int pa_nil))))) (pa_cons (pe_cmpR op_eq (pe_call (ok_law_draw T) (hr.mono (by decide)) rfl T.m_law_draw T.F_law_draw.kp (b_law_draw T) .nil pass0 (pa_cons (pv 0) (pa_cons pe_int pa_nil))) pe_int (nomark _)) pa_nil)))))) pss_nil)
 (pss_cons (ps_if (pt_cmpR op_eq (pv 1) pe_str (nomark _)) (pss_one (ps_ret (pe_tup (pa_cons (pv 1) (pa_cons (pv 2) (pa_cons (pe_op op_sub (pe_call (ok_law_draw T) (hr.mono (by decide)) rfl T.m_law_draw T.F_law_draw.kp (b_law_draw T) .nil pass0 (pa_cons (pv 0) (pa_cons (pe_op op_add (pv 3) pe_int) pa_nil))) pe_int) (pa_cons (pe_call (ok_law_needs T) hr rfl T.m_law_needs T.F_law_needs.kp (b_law_needs T) .nil pass0 (pa_cons (pv 0) (pa_cons (pv 3) (pa_cons (pv 4) (pa_cons pe_int pa_nil))))) pa_nil))))))) pss_nil)
 (pss_one (ps_ret (pe_tup (pa_cons (pv 1) pa_nil)))))))))), ?_⟩
    rw [show start N_law_row [.ref l, .str wd, .str n, .int c, .ref g] = [some (.ref l), some (.str wd), some (.str n), some (.int c), some (.ref g)] from rfl]
    simp only [wordsOf, List.mem_cons, List.not_mem_nil, or_false] at xw
    rcases xw with e | e | e | e | e | e <;> subst e
    · refine ⟨_, rfl, rfl, _, rfl, ?_⟩
      refine ite2 (fun c => absurd c (by decide +kernel)) (fun _ => ?_)
      refine ⟨_, rfl, rfl, _, rfl, ?_⟩
      refine ite2 (fun _ => ?_) (fun c => absurd (by decide +kernel) c)
      refine ⟨_, rfl, _, rfl, _, rfl, _, rfl, _, rfl, l, g, m, 1, c, gs, ps, rfl, by decide, hp, by omega, hg, gl, rg, gok, g40, c0, c4, fun H1 u qs b1 s1 ru oq => ?_⟩
      refine ⟨_, rfl, l, m + 10, 4, rfl, s1, by omega, by decide, by decide, fun H2 v b2 s2 v0 v1 => ⟨rfl, ?_⟩⟩
      generalize decide (V.int v = V.int 0) = rk
      refine ⟨(by show 4 ≤ sizeLine; decide), fun t nt => ?_⟩
      have bt : But [l] H2 (upd H2 t (.tup [.str "give", .str n, u, .bl rk])) := .new .refl nt
      exact k _ _ (.give n qs rk) ((b1.trans b2).trans bt) ((s2.new nt).le (by omega)) (.tup upd_same (fun z => s2.ne nt (List.mem_singleton.mp z)) (.cons (.str _) (.cons (.str _) (.cons ((ru.mv b2).mv bt) (.cons (.bl _) .nil))))) ⟨hn, oq⟩ rfl
    · refine ⟨_, rfl, rfl, _, rfl, ?_⟩
      refine ite2 (fun c => absurd c (by decide +kernel)) (fun _ => ?_)
      refine ⟨_, rfl, rfl, _, rfl, ?_⟩
      refine ite2 (fun c => absurd c (by decide +kernel)) (fun _ => ?_)
      refine ⟨_, rfl, rfl, _, rfl, ?_⟩
      refine ite2 (fun c => absurd c (by decide +kernel)) (fun _ => ?_)
      refine ⟨_, rfl, rfl, _, rfl, ?_⟩
      refine ite2 (fun _ => ?_) (fun c => absurd (by decide +kernel) c)
      refine ⟨_, rfl, _, rfl, _, rfl, _, rfl, l, g, m, 2, c, gs, ps, rfl, by decide, hp, by omega, hg, gl, rg, gok, g40, c0, c4, fun H1 u qs b1 s1 ru oq => ?_⟩
      refine ⟨_, rfl, l, m + 10, 4, rfl, s1, by omega, by decide, by decide, fun H2 v b2 s2 v0 v1 => ⟨rfl, ?_⟩⟩
      generalize decide (V.int v = V.int 0) = rk
      refine ⟨(by show 3 ≤ sizeLine; decide), fun t nt => ?_⟩
      have bt : But [l] H2 (upd H2 t (.tup [.str "show", u, .bl rk])) := .new .refl nt
      exact k _ _ (.show_ qs rk) ((b1.trans b2).trans bt) ((s2.new nt).le (by omega)) (.tup upd_same (fun z => s2.ne nt (List.mem_singleton.mp z)) (.cons (.str _) (.cons ((ru.mv b2).mv bt) (.cons (.bl _) .nil)))) oq rfl
    · refine ⟨_, rfl, rfl, _, rfl, ?_⟩
      refine ite2 (fun _ => ?_) (fun c => absurd (by decide +kernel) c)
      refine ⟨_, rfl, _, rfl, _, rfl, l, m, c, rfl, hp, by omega, c0, by omega, fun H1 v b1 s1 v0 v1 => ⟨(by show 2 ≤ sizeLine; decide), fun t nt => ?_⟩⟩
      exact k _ _ (.load v) (b1.new nt) ((s1.new nt).le (by omega)) (.tup upd_same (fun z => s1.ne nt (List.mem_singleton.mp z)) (.cons (.str _) (.cons (.int _) .nil))) ⟨v0, v1⟩ rfl
    · refine ⟨_, rfl, rfl, _, rfl, ?_⟩
      refine ite2 (fun c => absurd c (by decide +kernel)) (fun _ => ?_)
      refine ⟨_, rfl, rfl, _, rfl, ?_⟩
      refine ite2 (fun c => absurd c (by decide +kernel)) (fun _ => ?_)
      refine ⟨_, rfl, rfl, _, rfl, ?_⟩
      refine ite2 (fun _ => ?_) (fun c => absurd (by decide +kernel) c)
      refine ⟨_, rfl, _, rfl, (by show 2 ≤ sizeLine; decide), fun p np => ?_⟩
      have s0 : Same H (upd H p (.tup [.str "pass", .str n])) := same_new np
      have hp0 : (upd H p (.tup [.str "pass", .str n])) p = some (.tup [.str "pass", .str n]) := upd_same
      have pl := hp.ne np
      have P0 : Pool m l (upd H p (.tup [.str "pass", .str n])) := hp.new np
      generalize upd H p (.tup [.str "pass", .str n]) = H0 at s0 hp0 P0 ⊢
      refine ⟨_, rfl, _, rfl, _, rfl, l, g, m, c, gs, ps, rfl, P0, by omega, s0 _ _ hg, gl, rg.sm s0, gok, g40, c0, c4, fun H1 v q b1 s1 rv okq => ?_⟩
      obtain ⟨b, x, y, rfl, hb, rx, ry⟩ := rv.two
      obtain rfl := rx.intV
      obtain rfl := ry.strV
      refine ⟨p, b, _, _, rfl, rfl, SqT.of (b1.at1 hp0 pl), SqT.of hb, (fun z => nomatch z), (by show 4 ≤ sizeLine; decide), (fun z => nomatch z), fun _ t nt => ?_⟩
      exact k _ _ (.pass n q.1 q.2) (((But.of s0).trans b1).new nt) ((s1.new nt).le (by omega)) (.tup upd_same (fun z => s1.ne nt (List.mem_singleton.mp z)) (.cons (.str _) (.cons (.str _) (.cons (.int _) (.cons (.str _) .nil))))) ⟨hn, ⟨okq.1, okq.2.1⟩, okq.2.2⟩ rfl
    · refine ⟨_, rfl, rfl, _, rfl, ?_⟩
      refine ite2 (fun c => absurd c (by decide +kernel)) (fun _ => ?_)
      refine ⟨_, rfl, rfl, _, rfl, ?_⟩
      refine ite2 (fun c => absurd c (by decide +kernel)) (fun _ => ?_)
      refine ⟨_, rfl, rfl, _, rfl, ?_⟩
      refine ite2 (fun c => absurd c (by decide +kernel)) (fun _ => ?_)
      refine ⟨_, rfl, rfl, _, rfl, ?_⟩
      refine ite2 (fun c => absurd c (by decide +kernel)) (fun _ => ?_)
      refine ⟨_, rfl, rfl, _, rfl, ?_⟩
      refine ite2 (fun _ => ?_) (fun c => absurd (by decide +kernel) c)
      refine ⟨_, rfl, _, rfl, _, rfl, _, rfl, _, _, rfl, rfl, l, m, c + 1, rfl, hp, by omega, by omega, by omega, fun H1 v b1 s1 v0 v1 => ⟨_, _, rfl, rfl, ?_⟩⟩
      refine ⟨_, rfl, _, rfl, _, rfl, l, g, m + 1, 2, c, gs, ps, rfl, by decide, s1, by omega, b1.at1 hg gl, gl, rg.mv b1, gok, g40, c0, c4, fun H2 u qs b2 s2 ru oq => ⟨(by show 4 ≤ sizeLine; decide), fun t nt => ?_⟩⟩
      have bt : But [l] H2 (upd H2 t (.tup [.str "late", .str n, .int (v - 1), u])) := .new .refl nt
      exact k _ _ (.late n (v - 1) qs) ((b1.trans b2).trans bt) ((s2.new nt).le (by omega)) (.tup upd_same (fun z => s2.ne nt (List.mem_singleton.mp z)) (.cons (.str _) (.cons (.str _) (.cons (.int _) (.cons (ru.mv bt) .nil))))) ⟨hn, ⟨by omega, by omega⟩, oq⟩ rfl
    · refine ⟨_, rfl, rfl, _, rfl, ?_⟩
      refine ite2 (fun c => absurd c (by decide +kernel)) (fun _ => ?_)
      refine ⟨_, rfl, rfl, _, rfl, ?_⟩
      refine ite2 (fun c => absurd c (by decide +kernel)) (fun _ => ?_)
      refine ⟨_, rfl, rfl, _, rfl, ?_⟩
      refine ite2 (fun c => absurd c (by decide +kernel)) (fun _ => ?_)
      refine ⟨_, rfl, rfl, _, rfl, ?_⟩
      refine ite2 (fun c => absurd c (by decide +kernel)) (fun _ => ?_)
      refine ⟨_, rfl, rfl, _, rfl, ?_⟩
      refine ite2 (fun c => absurd c (by decide +kernel)) (fun _ => ?_)
      refine ⟨_, rfl, (by show 1 ≤ sizeLine; decide), fun t nt => ?_⟩
      exact k _ _ .out (.new .refl nt) ((hp.new nt).le (by omega)) (.tup upd_same (fun z => hp.ne nt (List.mem_singleton.mp z)) (.cons (.str _) .nil)) trivial rfl
def sp_law_program : Sp := fun vs H Q _ => ∃ (l : Addr) (m : Nat) (mp R O me mo : Int), vs = [.ref l, .int mp, .int R, .int O, .int me, .int mo] ∧ Pool m l H ∧ m ≤ 20000 ∧ 1 ≤ mp ∧ mp ≤ 4 ∧ 0 ≤ R ∧ R ≤ 12 ∧ 0 ≤ O ∧ O ≤ 2 ∧ 1 ≤ me ∧ me ≤ 3 ∧ 0 ≤ mo ∧ mo ≤ 4 ∧ ∀ (H' : Hp) (v : V) (P : Prog), But [l] H H' → Pool (m + 400) l H' → Rep [l] H' v P.d → P.Ok → P.c ≤ mp → (∃ rs ∈ P.parts, ∃ r ∈ rs, r.word = ("give" : Str) ∨ r.word = ("show" : Str)) → Q v H'
theorem ok_law_program (T : Txt K w mg A) : FnOk Pg w K mg base CX0 5 A.f_law_program A.d_law_program ["pool", "most_parts", "most_rows", "most_outs", "most_entries", "most_opens"] (sp_law_program) := by
  refine T.F_law_program.ok sc_law_program (fun vs H Q E h => ?_) (fun cdv Ar outer s H vs Q E hr h => ?_)
  · obtain ⟨l, m, mp, R, O, me, mo, rfl, hp, m2, mp1, mp4, R0, R1, O0, O1, me1, me3, mo0, mo4, k⟩ := h
    rfl
  · obtain ⟨l, m, mp, R, O, me, mo, rfl, hp, m2, mp1, mp4, R0, R1, O0, O1, me1, me3, mo0, mo4, k⟩ := h
    refine ⟨_, PSs.nox ((pss_cons (ps_set (i := 6) sc_law_program.nd rfl (Or.inr rfl) (pe_op op_add pe_int (pe_call (ok_law_draw T) (hr.mono (by decide)) rfl T.m_law_draw T.F_law_draw.kp (b_law_draw T) .nil pass0 (pa_cons (pv 0) (pa_cons (pv 1) pa_nil)))))
 (pss_cons (ps_set (i := 7) sc_law_program.nd rfl (Or.inl rfl) (pe_call (ok_law_subset T) (hr.mono (by decide)) rfl T.m_law_subset T.F_law_subset.kp (b_law_subset T) .nil pass0 (pa_cons (pv 0) (pa_cons (pe_listRg rfl (by rfl) T.zlist (prg_1 (by rfl) T.zrange (pv 6))) (pa_cons (pv 4) pa_nil)))))
 (pss_cons (ps_if (pt_cmpR (op_eqD hr.units) (pv 7) (pe_lst pa_nil) (nomark _)) (pss_one (ps_set (i := 7) sc_law_program.nd rfl (Or.inl rfl) (pe_lst (pa_cons (pe_call (ok_law_draw T) (hr.mono (by decide)) rfl T.m_law_draw T.F_law_draw.kp (b_law_draw T) .nil pass0 (pa_cons (pv 0) (pa_cons (pv 6) pa_nil))) pa_nil)))) pss_nil)
 (pss_cons (ps_set (i := 8) sc_law_program.nd rfl (Or.inl rfl) (pe_call (ok_law_with_show T) (hr.mono (by decide)) rfl T.m_law_with_show T.F_law_with_show.kp (b_law_with_show T) .nil pass0 (pa_cons (pe_call (ok_law_words T) (hr.mono (by decide)) rfl T.m_law_words T.F_law_words.kp (b_law_words T) .nil pass0 (pa_cons (pv 0) (pa_cons (pv 6) (pa_cons (pv 2) (pa_cons (pv 3) pa_nil))))) pa_nil)))
 (pss_cons (ps_set (i := 9) sc_law_program.nd rfl (Or.inr rfl) (pe_lst pa_nil))
 (pss_cons (ps_for PassesOwn.never rfl (pi_range1 (by rfl) T.zrange (pa_cons (pv 6) pa_nil)) (pg_name (i := 10) sc_law_program.nd rfl (Or.inr rfl)) (pss_one (ps_set (i := 9) sc_law_program.nd rfl (Or.inr rfl) (pe_op op_cat (pv 9) (pe_lc (own := [("word", 16), ("name", 17)]) (g := (gTup _ 2 (gCons (gName 16) (gCons (gName 17) gNil)))) (tt := _) rfl sc_law_program.nd (pi_list (pe_ix ix_list (pv 8) (pv 10) (fun _ _ => rfl))) (blkOk_by (N := N_law_program) (sc := defScope s_law_program) (by decide +kernel)) (fun _ _ _ _ _ => (pg_tup (by rfl) (pgs_cons (pg_name (i := 16) sc_law_program.nd rfl (Or.inl rfl)) (pgs_cons (pg_name (i := 17) sc_law_program.nd rfl (Or.inl rfl)) pgs_nil)))) (fun _ _ _ _ _ => (pts_one (pt_cmpR (show OpR _ (compareOp .In) (rIn K false) from op_in_seq) (pv 16) (pe_lst (pa_cons pe_str (pa_cons pe_str (pa_cons pe_str pa_nil)))) rfl))) (fun _ _ _ _ _ => (pe_tup (pa_cons (pv 10) (pa_cons (pv 17) pa_nil)))))))))
 (pss_cons (ps_set (i := 9) sc_law_program.nd rfl (Or.inr rfl) (pe_callB (cr_sortNm rfl hr.units) (by rfl) T.zsorted (by decide +kernel) (pa_cons (pe_callTy (cr_setNm rfl hr.units) (by rfl) T.zset (by decide +kernel) (pa_cons (pv 9) pa_nil)) pa_nil)))
 (pss_cons (ps_set (i := 11) sc_law_program.nd rfl (Or.inl rfl) (pe_tup (pa_cons (pe_call (ok_law_draw T) (hr.mono (by decide)) rfl T.m_law_draw T.F_law_draw.kp (b_law_draw T) .nil pass0 (pa_cons (pv 0) (pa_cons (pv 6) pa_nil))) (pa_cons (pe_ix ix_str pe_str (pe_call (ok_law_draw T) (hr.mono (by decide)) rfl T.m_law_draw T.F_law_draw.kp (b_law_draw T) .nil pass0 (pa_cons (pv 0) (pa_cons pe_int pa_nil))) (fun _ _ => rfl)) pa_nil))))
 (pss_cons (ps_set (i := 12) sc_law_program.nd rfl (Or.inl rfl) (pe_call (ok_law_subset T) (hr.mono (by decide)) rfl T.m_law_subset T.F_law_subset.kp (b_law_subset T) .nil pass0 (pa_cons (pv 0) (pa_cons (pe_callB (cr_sortNm rfl hr.units) (by rfl) T.zsorted (by decide +kernel) (pa_cons (pe_callTy (cr_setNm rfl hr.units) (by rfl) T.zset (by decide +kernel) (pa_cons (pe_op op_cat (pv 9) (pe_lst (pa_cons (pv 11) pa_nil))) pa_nil)) pa_nil)) (pa_cons (pv 5) pa_nil)))))
 (pss_cons (ps_set (i := 13) sc_law_program.nd rfl (Or.inl rfl) (pe_callTy call_tuple_of (by rfl) T.ztuple (by decide +kernel) (pa_cons (pe_lc (own := [("part", 10)]) (g := (gName 10)) (tt := tYes) rfl sc_law_program.nd (pi_range1 (by rfl) T.zrange (pa_cons (pv 6) pa_nil)) (blkOk_by (N := N_law_program) (sc := defScope s_law_program) (by decide +kernel)) (fun _ _ _ _ _ => (pg_name (i := 10) sc_law_program.nd rfl (Or.inl rfl))) (fun _ _ _ _ _ => pts_nil) (fun _ _ _ _ _ => (pe_cmpR op_eq (pe_call (ok_law_draw T) (hr.mono (by decide)) rfl T.m_law_draw T.F_law_draw.kp (b_law_draw T) .nil pass0 (pa_cons (pv 0) (pa_cons pe_int pa_nil))) pe_int (nomark _)))) pa_nil)))
 (pss_cons (ps_set (i := 14) sc_law_program.nd rfl (Or.inl rfl) (pe_lst pa_nil))
 (pss_cons (ps_for PassesOwn.never rfl (pi_list (pv 8)) (pg_name (i := 15) sc_law_program.nd rfl (Or.inl rfl)) (pss_one (ps_expr (pe_bm PySem.F.plainAttrs_list PySem.F.slot_list_append PySem.F.type_list_append mt_append (pv 14) (pa_cons (pe_callTy call_tuple_of (by rfl) T.ztuple (by decide +kernel) (pa_cons (pe_lc (own := [("word", 16), ("name", 17)]) (g := (gTup _ 2 (gCons (gName 16) (gCons (gName 17) gNil)))) (tt := tYes) rfl sc_law_program.nd (pi_list (pv 15)) (blkOk_by (N := N_law_program) (sc := defScope s_law_program) (by decide +kernel)) (fun _ _ _ _ _ => (pg_tup (by rfl) (pgs_cons (pg_name (i := 16) sc_law_program.nd rfl (Or.inl rfl)) (pgs_cons (pg_name (i := 17) sc_law_program.nd rfl (Or.inl rfl)) pgs_nil)))) (fun _ _ _ _ _ => pts_nil) (fun _ _ _ _ _ => (pe_call (ok_law_row T) hr rfl T.m_law_row T.F_law_row.kp (b_law_row T) .nil pass0 (pa_cons (pv 0) (pa_cons (pv 16) (pa_cons (pv 17) (pa_cons (pv 6) (pa_cons (pv 9) pa_nil)))))))) pa_nil)) pa_nil)))))
 (pss_one (ps_ret (pe_tup (pa_cons (pe_callTy call_tuple_of (by rfl) T.ztuple (by decide +kernel) (pa_cons (pv 14) pa_nil)) (pa_cons (pv 13) (pa_cons (pe_callTy call_tuple_of (by rfl) T.ztuple (by decide +kernel) (pa_cons (pv 7) pa_nil)) (pa_cons (pe_callTy call_tuple_of (by rfl) T.ztuple (by decide +kernel) (pa_cons (pv 12) pa_nil)) pa_nil)))))))))))))))))))), ?_⟩
    rw [show start N_law_program [.ref l, .int mp, .int R, .int O, .int me, .int mo] = [some (.ref l), some (.int mp), some (.int R), some (.int O), some (.int me), some (.int mo), none, none, none, none, none, none, none, none, none, none, none, none] from rfl]
    have in1 : ∀ {x : Addr}, x ≠ l → x ∉ [l] := fun n z => n (List.mem_singleton.mp z)
    refine ⟨_, rfl, _, rfl, l, m, mp, rfl, hp, by omega, by omega, by omega, fun H1 v b1 s1 v0 v1 => ⟨_, _, rfl, rfl, ?_⟩⟩
    dsimp only [List.set]
    have c0 : 0 < 1 + v := by omega
    have cm : 1 + v ≤ mp := by omega
    generalize 1 + v = c at c0 cm ⊢
    have c4 : c ≤ 4 := by omega
    refine ⟨_, rfl, _, rfl, c, rfl, RgOk.of_le (by omega) (by omega) (by omega) (by omega), fun q nq => ⟨_, rfl, l, q, m + 1, me, _, rfl, s1.new nq, by omega, upd_same, s1.ne nq, by rw [rgV_length]; omega, by omega, fun H2 p ys b2 s2 np hp2 sub yl => ?_⟩⟩
    obtain ⟨es, rfl, eok, eup⟩ := sub_range sub
    have pl : p ≠ l := (s1.new nq).ne np
    have b12 : But [l] H H2 := (b1.new nq).trans b2
    rw [List.length_map] at yl
    clear b1 b2 s1 hp sub np nq
    dsimp only [gName, List.set]
    refine cut_by (fun σ H' => ∃ (p : Addr) (es : List Int), σ = [some (.ref l), some (.int mp), some (.int R), some (.int O), some (.int me), some (.int mo), some (.int c), some (.ref p), none, none, none, none, none, none, none, none, none, none] ∧
      But [l] H H' ∧ Pool (m + 27) l H' ∧ H' p = some (.lst (es.map V.int)) ∧ p ≠ l ∧ (∀ e ∈ es, 0 ≤ e ∧ e < c) ∧ es.Pairwise (· < ·) ∧ 1 ≤ es.length ∧ es.length ≤ 3) ?_ ?_
    rotate_left
    · intro nx
      refine ⟨_, rfl, Nat.zero_le _, fun e ne => ?_⟩
      have se : Same H2 (upd H2 e (.lst [])) := same_new ne
      refine ⟨_, _, Rep.dp (st := [l]) (.list (es.map PyData.int)) _ (noDict_ints es) (.lst (se _ _ hp2) (in1 pl) (ints_rep es)), Rep.dp (st := [l]) (.list []) _ rfl (.lst upd_same (in1 (s2.ne ne)) .nil), shaped_ints es, (by decide +kernel), _, rfl, ?_⟩
      rw [eqv_ints]
      refine ite2 (fun q => ?_) (fun q => ?_)
      · refine ⟨_, rfl, _, rfl, l, m + 26, c, rfl, s2.new ne, by omega, c0, by omega, fun H3 u b3 s3 u0 u1 => ⟨(by show 1 ≤ sizeLine; decide), fun q nq => ?_⟩⟩
        exact nx _ _ ⟨q, [u], rfl, ((b12.new ne).trans b3).new nq, s3.new nq, upd_same, s3.ne nq, fun x hx => by rw [List.mem_singleton.mp hx]; exact ⟨u0, u1⟩, List.pairwise_singleton _ _, Nat.le_refl _, (by decide : 1 ≤ 3)⟩
      · have en : es ≠ [] := by simpa using q
        exact nx _ _ ⟨p, es, rfl, b12.new ne, (s2.new ne).le (by omega), se _ _ hp2, pl, eok, eup, List.length_pos_iff.mpr en, by omega⟩
    clear b12 s2 hp2 pl eok eup yl es p H2
    rintro σ H2 ⟨p, es, rfl, b12, s2, hp2, pl, eok, eup, e1, e3⟩
    refine ⟨_, rfl, _, rfl, _, rfl, _, rfl, l, m + 27, c, R, O, rfl, s2, by omega, c0, c4, R0, R1, O0, O1, fun H4 v4 ws4 b4 s4 rv4 ok4 l4 => ?_⟩
    obtain ⟨a4, wv4, rfl, ha4, an4, rw4⟩ := rv4.lstV
    refine ⟨l, a4, wv4, ws4, rfl, ha4, (fun z => an4 (List.mem_singleton.mpr z)), rw4, ok4, by omega, by omega, s4.lst, fun H5 v5 ws s5 rv5 wok wl gos => ?_⟩
    obtain ⟨wa, wvs, rfl, hwa, wan, rwa⟩ := rv5.lstV
    have wal : wa ≠ l := fun z => wan (List.mem_singleton.mpr z)
    have b5 : But [l] H H5 := (b12.trans b4).trans (.of s5)
    have P5 := s4.same s5
    have hp5 : H5 p = some (.lst (es.map V.int)) := s5 _ _ (b4.at1 hp2 pl)
    have lws : (ws.length : Int) = c := by omega
    have lwv : wvs.length = ws.length := by rw [rwa.length, List.length_map]
    clear b12 b4 s4 s5 rv4 rv5 ok4 l4 rw4 ha4 an4 hp2 s2
    refine ⟨Nat.zero_le _, fun g0 ng0 => ?_⟩
    refine ⟨_, rfl, c, rfl, by omega, by omega, for_range (lo := 0) (n := c.toNat) (fun i σ H' => ∃ (g : Addr) (gs : List V) (ps : List Nm) (o10 : Option V), σ = [some (.ref l), some (.int mp), some (.int R), some (.int O), some (.int me), some (.int mo), some (.int c), some (.ref p), some (.ref wa), some (.ref g), o10, none, none, none, none, none, none, none] ∧
      But [l] H5 H' ∧ Pool (m + 71) l H' ∧ H' g = some (.lst gs) ∧ g ≠ l ∧ Reps [l] H' gs (ps.map nmD) ∧ (∀ q ∈ ps, nmOk c q) ∧ ps.length ≤ 5 * i) ?_ ?_ ?_⟩
    · exact ⟨g0, [], [], _, rfl, But.refl.new ng0, P5.new ng0, upd_same, P5.ne ng0, .nil, fun _ z => (nomatch z), Nat.le_refl _⟩
    · rintro i σ H' hi ⟨g, gs, ps, o10, rfl, b6, P6, hg, gl, rg, gok, gn⟩
      have il : i < ws.length := by omega
      obtain ⟨xs, hxs⟩ : ∃ xs, ws[i]? = some xs := ⟨_, List.getElem?_eq_getElem il⟩
      obtain ⟨lv, hlv, rlv⟩ := rwa.at_ (i := i) (d := wdsD xs) (by rw [List.getElem?_map, hxs]; rfl)
      obtain ⟨la, lvs, rfl, hla, lan, rla⟩ := rlv.lstV
      have lal : la ≠ l := fun z => lan (List.mem_singleton.mpr z)
      have at_i : atI wvs (0 + (i : Int)) = some (.ref la) := by
        rw [Int.zero_add]
        exact atI_nat hlv
      have xm := List.mem_of_getElem? hxs
      have five := wok.five xs xm
      have lgs : gs.length = ps.length := by rw [rg.length, List.length_map]
      refine ⟨_, rfl, _, rfl, _, rfl, wa, wvs, _, _, rfl, rfl, SqL.of (b6.at1 hwa wal), at_i, la, rfl, ⟨_, SqL.of (b6.at1 hla lal)⟩, fun D nD => ?_⟩
      have Dl := P6.ne nD
      refine lc_list (K := K) (a := la) (xs := lvs) (fun j H'' => But [l] H' H'' ∧ Pool (m + 71) l H'' ∧ ∃ (acc : List V) (qs : List Nm), H'' D = some (.lst acc) ∧ Reps [D, l] H'' acc (qs.map nmD) ∧ (∀ q ∈ qs, nmOk c q) ∧ qs.length ≤ j) ?_ (fun j H'' _ q => SqL.of ((b6.trans q.1).at1 hla lal)) ?_ ?_
      · exact ⟨.new .refl nD, P6.new nD, [], [], upd_same, .nil, fun _ z => (nomatch z), Nat.le_refl _⟩
      · rintro j y H'' hj ⟨b7, P7, acc, qs, hD, ra, qok, qn⟩
        obtain ⟨d2, hd2, rz⟩ := ((rla.mv b6).mv b7).get hj
        rw [List.getElem?_map] at hd2
        obtain ⟨q, hq, rfl⟩ := Option.map_eq_some_iff.mp hd2
        obtain ⟨t, p1, p2, rfl, ht, r1, r2⟩ := rz.two
        obtain rfl := r1.strV
        obtain rfl := r2.strV
        have jl : j < xs.length := (List.getElem?_eq_some_iff.mp hq).1
        have qw := wok.ok xs xm q (List.mem_of_getElem? hq)
        have lacc : acc.length = qs.length := by rw [ra.length, List.length_map]
        refine ⟨t, _, rfl, SqT.of ht, rfl, _, _, rfl, _, _, rfl, rfl, rfl, ?_⟩
        refine ⟨_, rfl, (by show 3 ≤ sizeLine; decide), fun w3 nw3 => ⟨w3, _, rfl, .inl (SqL.of upd_same), rfl, rfl, _, rfl, ?_⟩⟩
        have b8 : But [l] H'' (upd H'' w3 (.lst [.str "give", .str "pass", .str "late"])) := .new .refl nw3
        have s8 : Same H'' (upd H'' w3 (.lst [.str "give", .str "pass", .str "late"])) := same_new nw3
        have P8 : Pool (m + 71) l (upd H'' w3 (.lst [.str "give", .str "pass", .str "late"])) := P7.new nw3
        generalize upd H'' w3 (.lst [.str "give", .str "pass", .str "late"]) = H8 at b8 s8 P8 ⊢
        have hD8 := s8 _ _ hD
        refine ite2 (fun _ => ?_) (fun _ => ⟨b7.trans b8, P8, acc, qs, hD8, ra.sm s8, qok, by omega⟩)
        refine ⟨_, rfl, _, rfl, (by show 2 ≤ sizeLine; decide), fun t2 nt2 => ?_⟩
        have s9 : Same H8 (upd H8 t2 (.tup [.int (0 + (i : Int)), .str q.2])) := same_new nt2
        have tD : t2 ≠ D := (ne_of_none hD8 nt2).symm
        have bu : But [D, l] (upd H8 t2 (.tup [.int (0 + (i : Int)), .str q.2])) (upd (upd H8 t2 (.tup [.int (0 + (i : Int)), .str q.2])) D (.lst (acc ++ [.ref t2]))) := But.refl.upd List.mem_cons_self
        refine ⟨acc, s9 _ _ hD8, by rw [lacc, sizeLine_eq]; omega, ((b7.trans b8).new nt2).own nD, (P8.new nt2).away Dl, acc ++ [.ref t2], qs ++ [((0 + (i : Int)), q.2)], upd_same, ?_, fun r hr => ?_, by rw [List.length_append]; show qs.length + 1 ≤ j + 1; omega⟩
        · rw [List.map_append]
          refine (((ra.sm s8).sm s9).mv bu).app (.one (.tup (by rw [upd_ne tD]; exact upd_same) (fun z => (List.mem_cons.mp z).elim tD (fun z => P8.ne nt2 (List.mem_singleton.mp z))) (.cons (.int _) (.cons (.str _) .nil))))
        · rcases List.mem_append.mp hr with z | z
          · exact qok r z
          · rw [List.mem_singleton.mp z]
            exact ⟨by show 0 ≤ 0 + (i : Int); omega, by show 0 + (i : Int) < c; omega, qw.2⟩
      · rintro H'' ⟨b7, P7, acc, qs, hD, ra, qok, qn⟩
        have lacc : acc.length = qs.length := by rw [ra.length, List.length_map]
        have llv : lvs.length = xs.length := by rw [rla.length, List.length_map]
        refine ⟨g, D, gs, acc, rfl, rfl, b7.at1 hg gl, hD, by rw [lgs, lacc, sizeLine_eq]; omega, fun g2 ng2 => ?_⟩
        have sg : Same H'' (upd H'' g2 (.lst (gs ++ acc))) := same_new ng2
        refine ⟨g2, gs ++ acc, ps ++ qs, _, rfl, (b6.trans b7).new ng2, P7.new ng2, upd_same, P7.ne ng2, ?_, fun q hq => ?_, by rw [List.length_append]; omega⟩
        · rw [List.map_append]
          exact ((rg.mv b7).sm sg).app ((ra.less fun a z => List.mem_cons_of_mem _ z).sm sg)
        · rcases List.mem_append.mp hq with z | z
          · exact gok q z
          · exact qok q z
    rintro σ H6 ⟨g, gs, ps, o10, rfl, b6, P6, hg, gl, rg, gok, gn⟩
    have gn2 : ps.length ≤ 20 := by omega
    clear ng0 gn
    have b56 := b5.trans b6
    have hwa6 := b6.at1 hwa wal
    have hp6 := b6.at1 hp5 pl
    have rwa6 := rwa.mv b6
    obtain ⟨ks, rfl, ek, hks⟩ := nms_keys rg
    have kl : ks.length ≤ 20 := by
      rw [← List.length_map (f := Prod.snd), ek]
      exact gn2
    refine ⟨_, rfl, g, ks, rfl, SqL.of hg, fun q hq => SqT.of (hks q hq).1, by omega, fun a2 l2 na2 ln2 nd2 sub2 all2 => ⟨a2, l2, rfl, upd_same, fun q hq => SqT.of ((same_new na2) _ _ (hks q (sub2 q hq)).1), fun l3 p2 perm3 pw3 len3 l360 np2 => ?_⟩⟩
    have s7 := (same_new na2).trans (same_new (o := .lst (l3.map fun q => V.ref q.1)) np2)
    have p2l : p2 ≠ l := ((P6.same (same_new na2)).ne np2)
    dsimp only [gName, List.set]
    refine at_heap (fun H7 => Same H6 H7 ∧ H7 p2 = some (.lst (l3.map fun q => V.ref q.1))) ⟨s7, upd_same⟩ ?_
    clear s7
    rintro H7 ⟨s7, hp27⟩
    have h3 : ∀ q ∈ l3, H7 q.1 = some (.tup [.int q.2.1, .str q.2.2]) ∧ q.1 ∉ [l] := fun q hq => by
      have z := hks q (sub2 q (perm3.mem_iff.mp hq))
      exact ⟨s7 _ _ z.1, z.2⟩
    have ok3 : ∀ q ∈ l3.map Prod.snd, nmOk c q := fun q hq => by
      obtain ⟨r, hr, rfl⟩ := List.mem_map.mp hq
      refine gok _ ?_
      rw [← ek]
      exact List.mem_map.mpr ⟨r, sub2 r (perm3.mem_iff.mp hr), rfl⟩
    have len20 : l3.length ≤ 20 := by omega
    have rg7 := keys_nms l3 h3
    have P7 := P6.same s7
    have b57 := b56.trans (.of s7)
    replace hwa6 := s7 _ _ hwa6
    replace hp6 := s7 _ _ hp6
    replace rwa6 := rwa6.sm s7
    clear s7 P6 hks sub2 all2 nd2 ln2 na2 np2 perm3 pw3 len3 l360 gok ek kl gn2 rg hg gl b56 b6 b5 hp5 hwa rwa P5
    -- one more name
    refine ⟨_, rfl, _, rfl, l, m + 71, c, rfl, P7, by omega, c0, by omega, fun H8 v8 b8 P8 v80 v81 => ⟨_, rfl, l, m + 72, 4, rfl, P8, by omega, by decide, by decide, fun H9 u9 b9 P9 u90 u91 => ?_⟩⟩
    obtain ⟨ch, ech, mem⟩ := letter_at u90 u91
    refine ⟨_, _, ch, rfl, rfl, (by decide +kernel), ech, (by show 2 ≤ sizeLine; decide), fun t1 nt1 => ?_⟩
    have t1l := P9.ne nt1
    dsimp only [gName, List.set]
    have b10 : But [l] H7 (upd H9 t1 (.tup [V.int v8, .str ⟨#[ch]⟩])) := (b8.trans b9).new nt1
    refine at_heap (fun H10 => But [l] H7 H10 ∧ Pool (m + 73) l H10 ∧ H10 t1 = some (.tup [V.int v8, .str ⟨#[ch]⟩])) ⟨b10, P9.new nt1, upd_same⟩ ?_
    clear b10 b8 b9 P9 P8 nt1
    rintro H10 ⟨b10, P10, ht1⟩
    have hp210 := b10.at1 hp27 p2l
    -- the open names
    refine ⟨_, rfl, _, rfl, _, rfl, (by show 1 ≤ sizeLine; decide), fun z nz => ⟨p2, z, _, _, rfl, rfl, (same_new nz) _ _ hp210, upd_same, by rw [List.length_map, List.length_singleton, sizeLine_eq]; omega, fun q nq => ?_⟩⟩
    have s11 : Same H10 (upd (upd H10 z (.lst [V.ref t1])) q (.lst ((l3.map fun q => V.ref q.1) ++ [V.ref t1]))) := (same_new nz).trans (same_new nq)
    refine ⟨q, l3 ++ [(t1, (v8, ⟨#[ch]⟩))], rfl, SqL.of (by rw [upd_same, List.map_append]; rfl), ?_, by rw [List.length_append, List.length_singleton]; omega, fun a3 k3 na3 ln3 nd3 sub3 all3 => ⟨a3, k3, rfl, upd_same, ?_, fun l4 p4 perm4 pw4 len4 l460 np4 => ?_⟩⟩
    · intro r hr
      rcases List.mem_append.mp hr with e | e
      · exact SqT.of (s11 _ _ (b10.at1 (h3 r e).1 (fun x => (h3 r e).2 (List.mem_singleton.mpr x))))
      · rw [List.mem_singleton.mp e]
        exact SqT.of (s11 _ _ ht1)
    · intro r hr
      rcases List.mem_append.mp (sub3 r hr) with e | e
      · exact SqT.of ((same_new na3) _ _ (s11 _ _ (b10.at1 (h3 r e).1 (fun x => (h3 r e).2 (List.mem_singleton.mpr x)))))
      · rw [List.mem_singleton.mp e]
        exact SqT.of ((same_new na3) _ _ (s11 _ _ ht1))
    have s12 := s11.trans ((same_new na3).trans (same_new (o := .lst (l4.map fun q => V.ref q.1)) np4))
    have P12 := P10.same s12
    have l4len : l4.length ≤ 21 := by
      rw [List.length_append, List.length_singleton] at ln3
      omega
    refine ⟨_, rfl, l, p4, m + 73, mo, _, rfl, P12, by omega, upd_same, (P10.same (s11.trans (same_new na3))).ne np4, by rw [List.length_map]; omega, mo0, fun H13 p13 ys b13 P13 np13 hp13 sub13 ly => ?_⟩
    obtain ⟨l5, sub5, rfl⟩ := List.sublist_map_iff.mp sub13
    have p13l : p13 ≠ l := P12.ne np13
    have b713 := (b10.trans (.of s12)).trans b13
    have h5 : ∀ r ∈ l5, H13 r.1 = some (.tup [.int r.2.1, .str r.2.2]) ∧ r.1 ∉ [l] := fun r hr => by
      rcases List.mem_append.mp (sub3 r (perm4.mem_iff.mp (sub5.subset hr))) with e | e
      · exact ⟨b713.at1 (h3 r e).1 (fun x => (h3 r e).2 (List.mem_singleton.mpr x)), (h3 r e).2⟩
      · rw [List.mem_singleton.mp e]
        exact ⟨b13.at1 (s12 _ _ ht1) t1l, in1 t1l⟩
    have ok5 : ∀ r ∈ l5.map Prod.snd, nmOk c r := fun r hr => by
      obtain ⟨x, hx, rfl⟩ := List.mem_map.mp hr
      rcases List.mem_append.mp (sub3 x (perm4.mem_iff.mp (sub5.subset hx))) with e | e
      · exact ok3 _ (List.mem_map.mpr ⟨x, e, rfl⟩)
      · rw [List.mem_singleton.mp e]
        exact ⟨v80, v81, mem⟩
    have up5 : (l5.map Prod.snd).Pairwise (fun p q => nmLt p q = true) := List.pairwise_map.mpr (pw4.sublist sub5)
    have len5 : l5.length ≤ 4 := by
      rw [List.length_map] at ly
      omega
    clear sub13 ly sub5 l4len P12 s12 s11 pw4 perm4 len4 l460 np4 nd3 sub3 all3 ln3 na3 nz nq ht1 hp210 P10 b10 np13 b13
    have hp213 := b713.at1 hp27 p2l
    have hwa13 := b713.at1 hwa6 wal
    have hp013 := b713.at1 hp6 pl
    have rwa13 := rwa6.mv b713
    have rg13 := rg7.mv b713
    have b13 := b57.trans b713
    clear b713 b57 h3 hp27 hwa6 hp6 rwa6 rg7 P7
    dsimp only [gName, List.set]
    -- the marks
    refine ⟨_, rfl, c, rfl, by omega, by omega, fun D nD => ?_⟩
    have Dl := P13.ne nD
    refine lc_range (lo := 0) (n := c.toNat) (fun i H' => But [l] H13 H' ∧ Pool (m + 98 + i) l H' ∧ ∃ bs : List Bool, H' D = some (.lst (bs.map V.bl)) ∧ bs.length = i) ?_ ?_ ?_
    · exact ⟨.new .refl nD, P13.new nD, [], upd_same, rfl⟩
    · rintro i H' hi ⟨b14, P14, bs, hD, lb⟩
      refine ⟨rfl, ?_⟩
      refine ⟨_, rfl, l, m + 98 + i, 2, rfl, P14, by omega, by decide, by decide, fun H6 u b6 s6 u0 u1 => ⟨rfl, ?_⟩⟩
      have hD6 := b6.at1 hD Dl
      exact ⟨_, hD6, by rw [List.length_map, lb, sizeLine_eq]; omega, (b14.trans b6).own nD, (s6.away Dl).le (by omega), bs ++ [decide (V.int u = V.int 1)], by rw [upd_same, List.map_append]; rfl, by rw [List.length_append, lb]; rfl⟩
    rintro H14 ⟨b14, P14, bs, hD, lb⟩
    refine ⟨D, _, rfl, .inl ⟨SqL.of hD, fun mk nm => ?_⟩⟩
    have mkl := P14.ne nm
    dsimp only [gName, List.set]
    refine at_heap (fun H15 => But [l] H13 H15 ∧ Pool (m + 102) l H15 ∧ H15 mk = some (.tup (bs.map V.bl))) ⟨b14.new nm, (P14.new nm).le (by omega), upd_same⟩ ?_
    clear hD nD b14 P14 nm Dl
    rintro H15 ⟨b15, P15, hmk⟩
    have hp215 := b15.at1 hp213 p2l
    have hwa15 := b15.at1 hwa13 wal
    have hp015 := b15.at1 hp013 pl
    have hp15 := b15.at1 hp13 p13l
    have rwa15 := rwa13.mv b15
    have rg15 := rg13.mv b15
    have h515 : ∀ r ∈ l5, H15 r.1 = some (.tup [.int r.2.1, .str r.2.2]) ∧ r.1 ∉ [l] := fun r hr => ⟨b15.at1 (h5 r hr).1 (fun x => (h5 r hr).2 (List.mem_singleton.mpr x)), (h5 r hr).2⟩
    have bb := b13.trans b15
    clear b13 b15 hp213 hwa13 hp013 hp13 rwa13 rg13 h5 P13
    -- the parts
    refine ⟨Nat.zero_le _, fun pt npt => ?_⟩
    have ptl := P15.ne npt
    have ptp2 : p2 ≠ pt := ne_of_none hp215 npt
    have ptwa : wa ≠ pt := ne_of_none hwa15 npt
    have s16 : Same H15 (upd H15 pt (.lst [])) := same_new npt
    have in2 : ∀ {x : Addr}, x ≠ pt → x ≠ l → x ∉ [pt, l] := fun n1 n2 z => (List.mem_cons.mp z).elim n1 (fun z => n2 (List.mem_singleton.mp z))
    have rg16 : Reps [pt, l] (upd H15 pt (.lst [])) (l3.map fun q => V.ref q.1) ((l3.map Prod.snd).map nmD) := (Reps.more npt _ _ rg15).sm s16
    have rwa16 : Reps [pt, l] (upd H15 pt (.lst [])) wvs (ws.map wdsD) := (Reps.more npt _ _ rwa15).sm s16
    have P16 : Pool (m + 102) l (upd H15 pt (.lst [])) := P15.new npt
    have nptH : H pt = none := by
      cases e : H pt with
      | none => rfl
      | some o => rw [bb.at1 e ptl] at npt; exact nomatch npt
    dsimp only [gName, List.set]
    refine at_heap (fun H16 => Same H15 H16 ∧ H16 pt = some (.lst []) ∧ Pool (m + 102) l H16 ∧ Reps [pt, l] H16 (l3.map fun q => V.ref q.1) ((l3.map Prod.snd).map nmD) ∧ Reps [pt, l] H16 wvs (ws.map wdsD)) ⟨s16, upd_same, P16, rg16, rwa16⟩ ?_
    clear s16 P16 rg16 rwa16 rg15 rwa15
    rintro H16 ⟨s16, hpt16, P16, rg16, rwa16⟩
    refine ⟨_, rfl, wa, rfl, ⟨_, SqL.of (s16 _ _ hwa15)⟩, for_list (K := K) (a := wa) (xs := wvs) (fun i σ H' => ∃ (tvs : List V) (prs : List (List Row)) (o15 : Option V), σ = [some (.ref l), some (.int mp), some (.int R), some (.int O), some (.int me), some (.int mo), some (.int c), some (.ref p), some (.ref wa), some (.ref p2), o10, some (.ref t1), some (.ref p13), some (.ref mk), some (.ref pt), o15, none, none] ∧
      But [pt, l] H16 H' ∧ Pool (m + 102 + 60 * i) l H' ∧ H' pt = some (.lst tvs) ∧ Reps [pt, l] H' tvs (prs.map rowsD) ∧ prs.map (List.map Row.word) = (ws.take i).map (List.map Prod.fst) ∧ ∀ rs ∈ prs, ∀ r ∈ rs, r.ok c) ?_ (fun i σ H' _ q => ?_) ?_ ?_⟩
    · exact ⟨[], [], _, rfl, .refl, P16, hpt16, .nil, rfl, fun _ z => (nomatch z)⟩
    · obtain ⟨_, _, _, _, b17, _⟩ := q
      exact SqL.of (b17 _ _ (in2 ptwa wal) (s16 _ _ hwa15))
    · rintro i y σ H' hi ⟨tvs, prs, o15, rfl, b17, P17, hpt, rpt, pw, pok⟩
      have il : i < ws.length := by
        have := (List.getElem?_eq_some_iff.mp hi).1
        omega
      obtain ⟨d, hd, ry⟩ := (rwa16.mv b17).get hi
      rw [List.getElem?_map] at hd
      obtain ⟨xs, hxs, rfl⟩ := Option.map_eq_some_iff.mp hd
      have xm := List.mem_of_getElem? hxs
      have five := wok.five xs xm
      obtain ⟨la, lvs, rfl, hla, lan, rla⟩ := ry.lstV
      have lal : la ≠ l := fun z => lan (List.mem_cons_of_mem _ (List.mem_singleton.mpr z))
      have lapt : la ≠ pt := fun z => lan (by rw [z]; exact List.mem_cons_self)
      have lx : lvs.length = xs.length := by rw [rla.length, List.length_map]
      refine ⟨_, rfl, .inl ⟨rfl, _, SqL.of hpt⟩, _, rfl, la, rfl, ⟨_, SqL.of hla⟩, fun D nD => ?_⟩
      have Dl := P17.ne nD
      refine lc_list (K := K) (a := la) (xs := lvs) (fun j H'' => But [l] H' H'' ∧ Pool (m + 102 + 60 * i + 12 * j) l H'' ∧ ∃ (acc : List V) (rs : List Row), H'' D = some (.lst acc) ∧ Reps [D, l] H'' acc (rs.map Row.d) ∧ rs.map Row.word = (xs.take j).map Prod.fst ∧ ∀ r ∈ rs, r.ok c) ?_ (fun j H'' _ q => SqL.of (q.1.at1 hla lal)) ?_ ?_
      · exact ⟨.new .refl nD, P17.new nD, [], [], upd_same, .nil, rfl, fun _ z => (nomatch z)⟩
      · rintro j y H'' hj ⟨b18, P18, acc, rs, hD, ra, rw_, ro⟩
        obtain ⟨d2, hd2, rz⟩ := (rla.mv (b18.mono fun x z => List.mem_cons_of_mem _ z)).get hj
        rw [List.getElem?_map] at hd2
        obtain ⟨q, hq, rfl⟩ := Option.map_eq_some_iff.mp hd2
        obtain ⟨t, q1, q2, rfl, ht, r1, r2⟩ := rz.two
        obtain rfl := r1.strV
        obtain rfl := r2.strV
        have qw := wok.ok xs xm q (List.mem_of_getElem? hq)
        have jl : j < xs.length := (List.getElem?_eq_some_iff.mp hq).1
        have i4 : i < 4 := by omega
        have b1618 : But [pt, l] H16 H'' := b17.trans (b18.mono fun x z => List.mem_cons_of_mem _ z)
        refine ⟨t, _, rfl, SqT.of ht, rfl, _, _, rfl, _, _, rfl, rfl, rfl, ?_⟩
        refine ⟨_, rfl, _, rfl, _, rfl, _, rfl, _, rfl, l, p2, m + 102 + 60 * i + 12 * j, q.1, q.2, c, l3.map (fun q => V.ref q.1), l3.map Prod.snd, rfl, qw.1, qw.2, P18, by omega, b1618 _ _ (in2 ptp2 p2l) (s16 _ _ hp215), p2l, (rg16.mv b1618).less (fun a z => List.mem_cons_of_mem _ z), ok3, by rw [List.length_map]; omega, c0, c4, fun H19 v r b19 P19 rv rok rwd => ?_⟩
        have hD19 := b19.at1 hD Dl
        have lr : rs.length ≤ 5 := by
          have e := congrArg List.length rw_
          rw [List.length_map, List.length_map, List.length_take] at e
          omega
        have lq : acc.length = rs.length := by rw [ra.length, List.length_map]
        have u19 : But [D, l] H19 (upd H19 D (.lst (acc ++ [v]))) := But.upd .refl List.mem_cons_self
        refine ⟨acc, hD19, by rw [lq, sizeLine_eq]; omega, (b18.trans b19).own nD, (P19.away Dl).le (by omega), acc ++ [v], rs ++ [r], upd_same, ?_, ?_, fun q hq => ?_⟩
        · rw [List.map_append]
          exact ((ra.mv (b19.mono fun x z => List.mem_cons_of_mem _ z)).app (.one (Rep.avoid hD19 _ _ (noLst_row r) rv))).mv u19
        · rw [List.map_append, rw_, List.take_succ, hq, List.map_append]
          show _ ++ [r.word] = _ ++ [q.1]
          rw [rwd]
        · rcases List.mem_append.mp hq with z | z
          · exact ro q z
          · rw [List.mem_singleton.mp z]
            exact rok
      · rintro H'' ⟨b18, P18, acc, rs, hD, ra, rw_, ro⟩
        rw [lx, List.take_length] at rw_
        have hpt5 := b18.at1 hpt ptl
        refine ⟨D, acc, rfl, .inl ⟨SqL.of hD, fun t nt => ?_⟩⟩
        have tpt : t ≠ pt := (ne_of_none hpt5 nt).symm
        have i4 : i < 4 := by omega
        have lt : tvs.length = i := by
          have e := congrArg List.length pw
          rw [List.length_map, List.length_map, List.length_take] at e
          have := rpt.length
          rw [List.length_map] at this
          omega
        refine ⟨pt, tvs, .ref t, rfl, rfl, (same_new nt) _ _ hpt5, by rw [lt, sizeLine_eq]; omega, ?_⟩
        have bu : But [pt, l] H' (upd (upd H'' t (.tup acc)) pt (.lst (tvs ++ [.ref t]))) := ((b18.mono fun x z => List.mem_cons_of_mem _ z).new nt).upd List.mem_cons_self
        refine ⟨tvs ++ [.ref t], prs ++ [rs], _, rfl, b17.trans bu, ((P18.new nt).away ptl).le (by omega), upd_same, ?_, ?_, fun rs' hrs => ?_⟩
        · rw [List.map_append]
          refine (rpt.mv bu).app (.one (.tup (by rw [upd_ne tpt]; exact upd_same) (in2 tpt (P18.ne nt)) ?_))
          have r1 : Reps [l] (upd H'' t (.tup acc)) acc (rs.map Row.d) := (ra.less fun a z => List.mem_cons_of_mem _ z).sm (same_new nt)
          exact (Reps.avoid ((same_new nt) _ _ hpt5) _ _ (noLst_rows rs) r1).mv (But.refl.upd List.mem_cons_self)
        · rw [List.map_append, pw, List.take_succ, hxs, List.map_append]
          show _ ++ [rs.map Row.word] = _ ++ [xs.map Prod.fst]
          rw [rw_]
        · rcases List.mem_append.mp hrs with z | z
          · exact pok rs' z
          · rw [List.mem_singleton.mp z]
            exact ro
    rintro σ H17 ⟨tvs, prs, o15, rfl, b17, P17, hpt, rpt, pw, pok⟩
    rw [lwv, List.take_length] at pw
    obtain ⟨pl0, p5, p12, pout⟩ := prog_shapeW pw wok
    have b1517 : But [pt, l] H15 H17 := (But.of s16).trans b17
    have at17 : ∀ {x : Addr} {o : HO}, H15 x = some o → x ≠ l → H17 x = some o := fun e n => b1517 _ _ (in2 (ne_of_none e npt) n) e
    have cl : c = (prs.length : Int) := by omega
    have reps17 : Reps [l] H17 tvs (prs.map rowsD) := rpt.less fun a z => List.mem_cons_of_mem _ z
    have h517 : ∀ r ∈ l5, H17 r.1 = some (.tup [.int r.2.1, .str r.2.2]) ∧ r.1 ∉ [l] := fun r hr => ⟨at17 (h515 r hr).1 (fun x => (h515 r hr).2 (List.mem_singleton.mpr x)), (h515 r hr).2⟩
    refine ⟨_, rfl, pt, tvs, rfl, .inl ⟨SqL.of hpt, fun tp ntp => ?_⟩⟩
    have s18 : Same H17 (upd H17 tp (.tup tvs)) := same_new ntp
    refine ⟨_, rfl, _, rfl, p, _, rfl, .inl ⟨SqL.of (s18 _ _ (at17 hp015 pl)), fun te nte => ?_⟩⟩
    have s19 := s18.trans (same_new (o := .tup (es.map V.int)) nte)
    refine ⟨_, rfl, p13, _, rfl, .inl ⟨SqL.of (s19 _ _ (at17 hp15 p13l)), fun to nto => ⟨(by show 4 ≤ sizeLine; decide), fun tt ntt => ?_⟩⟩⟩
    have s20 := s19.trans (same_new (o := .tup (l5.map fun q => V.ref q.1)) nto)
    have s21 := s20.trans (same_new (o := .tup [.ref tp, .ref mk, .ref te, .ref to]) ntt)
    have s1821 : Same (upd H17 tp (.tup tvs)) _ := (same_new (o := .tup (es.map V.int)) nte).trans ((same_new (o := .tup (l5.map fun q => V.ref q.1)) nto).trans (same_new (o := .tup [.ref tp, .ref mk, .ref te, .ref to]) ntt))
    have s1921 : Same (upd (upd H17 tp (.tup tvs)) te (.tup (es.map V.int))) _ := (same_new (o := .tup (l5.map fun q => V.ref q.1)) nto).trans (same_new (o := .tup [.ref tp, .ref mk, .ref te, .ref to]) ntt)
    have bAll : But [l] H H17 := fun b o n e => by
      have z := bb b o n e
      exact at17 z (fun y => n (List.mem_singleton.mpr y))
    refine k _ _ ⟨prs, bs, es, l5.map Prod.snd⟩ (bAll.trans (.of s21)) ((P17.same s21).le (by omega)) (.tup upd_same (in1 ((P17.same s20).ne ntt)) (.cons (.tup (s1821 _ _ upd_same) (in1 (P17.ne ntp)) (reps17.sm s21)) (.cons (.tup (s21 _ _ (at17 hmk mkl)) (in1 mkl) (bls_rep bs)) (.cons (.tup (s1921 _ _ upd_same) (in1 ((P17.same s18).ne nte)) (ints_rep es)) (.cons (.tup ((same_new (o := .tup [.ref tp, .ref mk, .ref te, .ref to]) ntt) _ _ upd_same) (in1 ((P17.same s19).ne nto)) (keys_nms l5 fun r hr => ⟨s21 _ _ (h517 r hr).1, (h517 r hr).2⟩)) .nil))))) ?_ (by show (prs.length : Int) ≤ mp; omega) (with_show_rows pw gos)
    have pc : Prog.c ⟨prs, bs, es, l5.map Prod.snd⟩ = c := cl.symm
    refine ⟨by show 1 ≤ prs.length; omega, by show prs.length ≤ 4; omega, p5, p12, pout, fun rs hr r h => by rw [pc]; exact pok rs hr r h, by show bs.length = prs.length; omega, e1, e3, fun e he => by rw [pc]; exact eok e he, eup, by show (l5.map Prod.snd).length ≤ 4; rw [List.length_map]; exact len5, fun q hq => by rw [pc]; exact ok5 q hq, up5⟩
end
end Lb

set_option Elab.async false
set_option linter.all false
set_option maxRecDepth 100000
set_option maxHeartbeats 4000000

namespace Lb
open PySem PySem.Spec PyProof.Rows L2
section
variable {P Pg : Program} {w : World} {K : PySem.W.Frag} {mg : Str → Option Value} {base : Heap} {A : Ad}
def sp_is_integer : Sp := fun vs H Q _ => ∃ (v : V) (S : List Addr) (d : PyData), vs = [v] ∧ Rep S H v d ∧ ∀ H', Same H H' → Q (.bl (intB d)) H'
theorem ok_is_integer (T : Txt K w mg A) : FnOk Pg w K mg base CX0 1 A.f_is_integer A.d_is_integer ["thing"] (sp_is_integer) := by
  refine T.F_is_integer.ok sc_is_integer (fun vs H Q E h => ?_) (fun cdv Ar outer s H vs Q E hr h => ?_)
  · obtain ⟨v, S, d, rfl, r, k⟩ := h
    rfl
  · obtain ⟨v, S, d, rfl, r, k⟩ := h
    refine ⟨_, PSs.nox ((pss_one (ps_ret (pe_and (pe_callB call_isiD (by rfl) T.zisinstance (by decide +kernel) (pa_cons (pv 0) (pa_cons (pe_bltn (v := .ty "int") (by rfl) T.zint (by decide +kernel) rfl) pa_nil))) (pe_one (pe_not (pe_callB call_isiD (by rfl) T.zisinstance (by decide +kernel) (pa_cons (pv 0) (pa_cons (pe_bltn (v := .ty "bool") (by rfl) T.zbool (by decide +kernel) rfl) pa_nil))))))))), ?_⟩
    rw [show start N_is_integer [v] = [some (v)] from rfl]
    refine ⟨_, rfl, _, "int", S, d, _, rfl, r, kit_int d, _, rfl, ?_⟩
    refine ite2 (fun c => ?_) (fun c => ?_)
    · refine ⟨_, rfl, _, "bool", S, d, _, rfl, r, kit_bool d, _, rfl, ?_⟩
      have e := k H (Same.refl _)
      rwa [show intB d = !isBl d by simp [intB, c]] at e
    · have e := k H (Same.refl _)
      rwa [show intB d = false by simp [intB, c]] at e
def sp_is_number : Sp := fun vs H Q _ => ∃ (v : V) (S : List Addr) (d : PyData) (n : Int), vs = [v, .int n] ∧ Rep S H v d ∧ ∀ H', Same H H' → Q (.bl (numB d n)) H'
theorem ok_is_number (T : Txt K w mg A) : FnOk Pg w K mg base CX0 2 A.f_is_number A.d_is_number ["thing", "many"] (sp_is_number) := by
  refine T.F_is_number.ok sc_is_number (fun vs H Q E h => ?_) (fun cdv Ar outer s H vs Q E hr h => ?_)
  · obtain ⟨v, S, d, n, rfl, r, k⟩ := h
    rfl
  · obtain ⟨v, S, d, n, rfl, r, k⟩ := h
    refine ⟨_, PSs.nox ((pss_one (ps_ret (pe_and (pe_call (ok_is_integer T) hr rfl T.m_is_integer T.F_is_integer.kp (b_is_integer T) .nil pass0 (pa_cons (pv 0) pa_nil)) (pe_one (pe_chain op_le op_lt pe_int (pv 0) (pv 1))))))), ?_⟩
    rw [show start N_is_number [v, .int n] = [some (v), some (.int n)] from rfl]
    refine ⟨_, rfl, v, S, d, rfl, r, fun H1 s1 => ⟨_, rfl, ?_⟩⟩
    refine ite2 (fun c => ?_) (fun c => ?_)
    · obtain ⟨i, rfl⟩ := int_of c
      obtain rfl := r.intV
      refine ⟨_, rfl, _, _, rfl, rfl, _, rfl, ?_⟩
      refine ite2 (fun c1 => ?_) (fun c1 => ?_)
      · refine ⟨_, rfl, _, _, rfl, rfl, ?_⟩
        have e := k H1 s1
        rwa [show numB (.int i) n = decide (i < n) by simp [numB, c, valI, of_decide_eq_true c1] <;> rfl] at e
      · have e := k H1 s1
        have c2 : ¬ 0 ≤ i := fun z => c1 (decide_eq_true z)
        rwa [show numB (.int i) n = false by simp [numB, c, valI, c2]] at e
    · have e := k H1 s1
      rwa [show numB d n = false by simp [numB, c]] at e
def sp_is_name : Sp := fun vs H Q _ => ∃ (v : V) (S : List Addr) (d : PyData), vs = [v] ∧ Rep S H v d ∧ ∀ H', Same H H' → Q (.bl (nameB d)) H'
theorem ok_is_name (T : Txt K w mg A) : FnOk Pg w K mg base CX0 1 A.f_is_name A.d_is_name ["thing"] (sp_is_name) := by
  refine T.F_is_name.ok sc_is_name (fun vs H Q E h => ?_) (fun cdv Ar outer s H vs Q E hr h => ?_)
  · obtain ⟨v, S, d, rfl, r, k⟩ := h
    rfl
  · obtain ⟨v, S, d, rfl, r, k⟩ := h
    refine ⟨_, PSs.nox ((pss_one (ps_ret (pe_and (pe_callB call_isiD (by rfl) T.zisinstance (by decide +kernel) (pa_cons (pv 0) (pa_cons (pe_bltn (v := .ty "str") (by rfl) T.zstr (by decide +kernel) rfl) pa_nil))) (pe_one (pe_cmpR op_in_seq (pv 0) (pe_glob (v := .ref A.o_NAMES) (by rfl) T.m_NAMES rfl) rfl)))))), ?_⟩
    rw [show start N_is_name [v] = [some (v)] from rfl]
    refine ⟨_, rfl, _, "str", S, d, _, rfl, r, kit_str d, _, rfl, ?_⟩
    refine ite2 (fun c => ?_) (fun c => ?_)
    · obtain ⟨x, rfl⟩ := str_of c
      obtain rfl := r.strV
      refine ⟨_, rfl, A.o_NAMES, _, rfl, .inr (T.t_NAMES H), rfl, rfl, ?_⟩
      have e := k H (Same.refl _)
      rw [show nameB (.str x) = inV (.str x) [V.str "a", V.str "b", V.str "c", V.str "d"] by rw [in_letters]; simp [nameB, isStr, strOf] <;> rfl] at e
      exact e
    · have e := k H (Same.refl _)
      rwa [show nameB d = false by simp [nameB, c]] at e
def sp_is_tuple : Sp := fun vs H Q _ => ∃ (v : V) (S : List Addr) (d : PyData) (lo hi : Int), vs = [v, .int lo, .int hi] ∧ Rep S H v d ∧ ∀ H', Same H H' → Q (.bl (tupB d lo hi)) H'
theorem ok_is_tuple (T : Txt K w mg A) : FnOk Pg w K mg base CX0 1 A.f_is_tuple A.d_is_tuple ["thing", "least", "most"] (sp_is_tuple) := by
  refine T.F_is_tuple.ok sc_is_tuple (fun vs H Q E h => ?_) (fun cdv Ar outer s H vs Q E hr h => ?_)
  · obtain ⟨v, S, d, lo, hi, rfl, r, k⟩ := h
    rfl
  · obtain ⟨v, S, d, lo, hi, rfl, r, k⟩ := h
    refine ⟨_, PSs.nox ((pss_one (ps_ret (pe_and (pe_callB call_isiD (by rfl) T.zisinstance (by decide +kernel) (pa_cons (pv 0) (pa_cons (pe_bltn (v := .ty "tuple") (by rfl) T.ztuple (by decide +kernel) rfl) pa_nil))) (pe_one (pe_chain op_le op_le (pv 1) (pe_callB call_len_seq (by rfl) T.zlen (by decide +kernel) (pa_cons (pv 0) pa_nil)) (pv 2))))))), ?_⟩
    rw [show start N_is_tuple [v, .int lo, .int hi] = [some (v), some (.int lo), some (.int hi)] from rfl]
    refine ⟨_, rfl, _, "tuple", S, d, _, rfl, r, kit_tup d, _, rfl, ?_⟩
    refine ite2 (fun c => ?_) (fun c => ?_)
    · obtain ⟨ds, rfl⟩ := tup_of c
      obtain ⟨a, xs, rfl, ha, _, rs⟩ := r.tupV
      refine ⟨_, rfl, _, rfl, a, xs, rfl, .inr (SqT.of ha), _, _, rfl, rfl, _, rfl, ?_⟩
      rw [rs.length]
      refine ite2 (fun c1 => ?_) (fun c1 => ?_)
      · refine ⟨_, rfl, _, _, rfl, rfl, ?_⟩
        have e := k H (Same.refl _)
        rwa [show tupB (.tuple ds) lo hi = decide ((ds.length : Int) ≤ hi) by simp [tupB, isTup, itemsD, of_decide_eq_true c1] <;> rfl] at e
      · have e := k H (Same.refl _)
        have c2 : ¬ lo ≤ (ds.length : Int) := fun z => c1 (decide_eq_true z)
        rwa [show tupB (.tuple ds) lo hi = false by simp [tupB, isTup, itemsD, c2]] at e
    · have e := k H (Same.refl _)
      rwa [show tupB d lo hi = false by simp [tupB, c]] at e
def sp_is_ascending : Sp := fun vs H Q _ => ∃ (v : V) (S : List Addr) (ds : List PyData), vs = [v] ∧ Rep S H v (.tuple ds) ∧ ds.length ≤ 1000 ∧ (∀ d ∈ ds, ∀ e ∈ ds, PySem.W.alike d e = true) ∧ (∀ d ∈ ds, d ≠ .none ∧ d.depth ≤ 64 ∧ noDict d = true) ∧ ∀ H', Same H H' → Q (.bl (ascB ds)) H'
theorem ok_is_ascending (T : Txt K w mg A) : FnOk Pg w K mg base CX0 1 A.f_is_ascending A.d_is_ascending ["things"] (sp_is_ascending) := by
  refine T.F_is_ascending.ok sc_is_ascending (fun vs H Q E h => ?_) (fun cdv Ar outer s H vs Q E hr h => ?_)
  · obtain ⟨v, S, ds, rfl, r, dl, al, nn, k⟩ := h
    rfl
  · obtain ⟨v, S, ds, rfl, r, dl, al, nn, k⟩ := h
    refine ⟨_, PSs.nox ((pss_one (ps_ret (pe_callB (cr_all rfl) (by rfl) T.zall (by decide +kernel) (pa_cons (pe_lc (own := [("low", 1), ("high", 2)]) (g := (gTup _ 2 (gCons (gName 1) (gCons (gName 2) gNil)))) (tt := tYes) rfl sc_is_ascending.nd (RZ.pi_zipA (by rfl) T.zzip (pa_cons (pv 0) (pa_cons (pe_slice sl_tupA (pv 0) (po_some pe_int) po_none) pa_nil))) (blkOk_by (N := N_is_ascending) (sc := defScope s_is_ascending) (by decide +kernel)) (fun _ _ _ _ _ => (pg_tup (by rfl) (pgs_cons (pg_name (i := 1) sc_is_ascending.nd rfl (Or.inl rfl)) (pgs_cons (pg_name (i := 2) sc_is_ascending.nd rfl (Or.inl rfl)) pgs_nil)))) (fun _ _ _ _ _ => pts_nil) (fun _ _ _ _ _ => (pe_cmpR (show OpR _ (compareOp .Lt) (rLtD K) from op_ltD hr.units) (pv 1) (pv 2) (nomark _)))) pa_nil))))), ?_⟩
    rw [show start N_is_ascending [v] = [some (v), none, none] from rfl]
    obtain ⟨a, xs, rfl, ha, na, rs⟩ := r.tupV
    have ln := rs.length
    have few : ∀ {H1 : Hp}, Same H H1 → H a = some (.tup xs) → xs.length - 1 < sizeLine := fun _ _ => by
      rw [ln, sizeLine_eq]
      omega
    refine ⟨_, rfl, _, rfl, _, rfl, a, xs, rfl, SqT.of ha, fun w => ?_, fun w b nb => ?_⟩
    · have e0 := whole_one w.1
      have ha2 : H a = some (.tup (xs.drop 1)) := by rw [ha, e0]; rfl
      refine ⟨a, a, xs, xs.drop 1, rfl, .inr ⟨SqT.of ((Same.refl H) _ _ ha), SqT.of ((Same.refl H) _ _ ha2), fun D nD => ?_⟩⟩
      refine lc_pure (walk_zipT (xs := xs) (ys := xs.drop 1) (n := xs.length - 1) (by rw [List.length_drop]; omega)) nD (fun i => V.bl (PySem.W.dataLt (ds.getD i .none) (ds.getD (i + 1) .none))) (few (Same.refl H) ha) (fun H' s' => ⟨SqT.of (s' _ _ ((Same.refl H) _ _ ha)), SqT.of (s' _ _ ((Same.refl H) _ _ ha2))⟩) ?_ ?_
      · rintro i x H' H'' F hi s' ⟨t, x1, x2, rfl, nt, rfl, h1, h2⟩ fin
        replace h1 : xs[i]? = some x1 := h1
        replace h2 : xs[1 + i]? = some x2 := by rw [← List.getElem?_drop]; exact h2
        obtain ⟨d1, e1, r1⟩ := rs.get h1
        obtain ⟨d2, e2, r2⟩ := rs.get h2
        have sA := (Same.refl H).trans (s'.trans (same_new (o := .tup [x1, x2]) nt))
        have m1 := List.mem_of_getElem? e1
        have m2 := List.mem_of_getElem? e2
        refine ⟨t, _, rfl, SqT.of upd_same, rfl, _, _, rfl, _, _, rfl, rfl, rfl, ?_⟩
        refine ⟨_, rfl, _, rfl, d1, d2, Rep.dp d1 x1 (nn d1 m1).2.2 (r1.sm sA), Rep.dp d2 x2 (nn d2 m2).2.2 (r2.sm sA), al d1 m1 d2 m2, (nn d1 m1).1, (nn d1 m1).2.1, ?_⟩
        have e := fin _ (same_new (o := .tup [x1, x2]) nt)
        rw [getD_of e1, Nat.add_comm i 1, getD_of e2] at e
        exact e
      · intro H' s' hD
        rw [bl_map] at hD
        refine ⟨D, _, rfl, SqL.of hD, ?_⟩
        have e := k H' ((Same.refl H).trans s')
        rw [asc_range, ← ln] at e
        exact e
    · rw [cut_one]
      have sb : Same H (upd H b (.tup (xs.drop 1))) := same_new nb
      refine ⟨a, b, xs, xs.drop 1, rfl, .inr ⟨SqT.of (sb _ _ ha), SqT.of (upd_same), fun D nD => ?_⟩⟩
      refine lc_pure (walk_zipT (xs := xs) (ys := xs.drop 1) (n := xs.length - 1) (by rw [List.length_drop]; omega)) nD (fun i => V.bl (PySem.W.dataLt (ds.getD i .none) (ds.getD (i + 1) .none))) (few sb ha) (fun H' s' => ⟨SqT.of (s' _ _ (sb _ _ ha)), SqT.of (s' _ _ (upd_same))⟩) ?_ ?_
      · rintro i x H' H'' F hi s' ⟨t, x1, x2, rfl, nt, rfl, h1, h2⟩ fin
        replace h1 : xs[i]? = some x1 := h1
        replace h2 : xs[1 + i]? = some x2 := by rw [← List.getElem?_drop]; exact h2
        obtain ⟨d1, e1, r1⟩ := rs.get h1
        obtain ⟨d2, e2, r2⟩ := rs.get h2
        have sA := (sb).trans (s'.trans (same_new (o := .tup [x1, x2]) nt))
        have m1 := List.mem_of_getElem? e1
        have m2 := List.mem_of_getElem? e2
        refine ⟨t, _, rfl, SqT.of upd_same, rfl, _, _, rfl, _, _, rfl, rfl, rfl, ?_⟩
        refine ⟨_, rfl, _, rfl, d1, d2, Rep.dp d1 x1 (nn d1 m1).2.2 (r1.sm sA), Rep.dp d2 x2 (nn d2 m2).2.2 (r2.sm sA), al d1 m1 d2 m2, (nn d1 m1).1, (nn d1 m1).2.1, ?_⟩
        have e := fin _ (same_new (o := .tup [x1, x2]) nt)
        rw [getD_of e1, Nat.add_comm i 1, getD_of e2] at e
        exact e
      · intro H' s' hD
        rw [bl_map] at hD
        refine ⟨D, _, rfl, SqL.of hD, ?_⟩
        have e := k H' ((sb).trans s')
        rw [asc_range, ← ln] at e
        exact e
def sp_is_need : Sp := fun vs H Q _ => ∃ (v : V) (S : List Addr) (d : PyData) (n : Int), vs = [v, .int n] ∧ Rep S H v d ∧ ∀ H', Same H H' → Q (.bl (needB d n)) H'
theorem ok_is_need (T : Txt K w mg A) : FnOk Pg w K mg base CX0 3 A.f_is_need A.d_is_need ["thing", "many_parts"] (sp_is_need) := by
  refine T.F_is_need.ok sc_is_need (fun vs H Q E h => ?_) (fun cdv Ar outer s H vs Q E hr h => ?_)
  · obtain ⟨v, S, d, n, rfl, r, k⟩ := h
    rfl
  · obtain ⟨v, S, d, n, rfl, r, k⟩ := h
    refine ⟨_, PSs.nox ((pss_one (ps_ret (pe_and (pe_call (ok_is_tuple T) (hr.mono (by decide)) rfl T.m_is_tuple T.F_is_tuple.kp (b_is_tuple T) .nil pass0 (pa_cons (pv 0) (pa_cons pe_int (pa_cons pe_int pa_nil)))) (pe_and (pe_call (ok_is_number T) hr rfl T.m_is_number T.F_is_number.kp (b_is_number T) .nil pass0 (pa_cons (pe_ix ix_tup (pv 0) pe_int (fun _ _ => rfl)) (pa_cons (pv 1) pa_nil))) (pe_one (pe_call (ok_is_name T) (hr.mono (by decide)) rfl T.m_is_name T.F_is_name.kp (b_is_name T) .nil pass0 (pa_cons (pe_ix ix_tup (pv 0) pe_int (fun _ _ => rfl)) pa_nil)))))))), ?_⟩
    rw [show start N_is_need [v, .int n] = [some (v), some (.int n)] from rfl]
    refine ⟨_, rfl, v, S, d, 2, 2, rfl, r, fun H1 s1 => ⟨_, rfl, ?_⟩⟩
    refine ite2 (fun c => ?_) (fun c => ?_)
    · obtain ⟨ds, rfl, h1, h2⟩ := tupB_len c
      obtain ⟨x, y, rfl⟩ := len2 h1 h2
      obtain ⟨a, p, q, rfl, ha, rp, rq⟩ := r.two
      refine ⟨_, rfl, a, _, 0, _, rfl, rfl, SqT.of (s1 _ _ ha), atI_nat (j := 0) rfl, _, rfl, p, S, x, n, rfl, rp.sm s1, fun H2 s2 => ⟨_, rfl, ?_⟩⟩
      refine ite2 (fun c2 => ?_) (fun c2 => ?_)
      · refine ⟨_, rfl, a, _, 1, _, rfl, rfl, SqT.of (s2 _ _ (s1 _ _ ha)), atI_nat (j := 1) rfl, q, S, y, rfl, rq.sm (s1.trans s2), fun H3 s3 => ?_⟩
        have e := k H3 (s1.trans (s2.trans s3))
        rwa [show needB (.tuple [x, y]) n = nameB y by simp [needB, c, nthD, itemsD, c2]] at e
      · have e := k H2 (s1.trans s2)
        rwa [show needB (.tuple [x, y]) n = false by simp [needB, c, nthD, itemsD, c2]] at e
    · have e := k H1 s1
      rwa [show needB d n = false by simp [needB, c]] at e
def sp_are_needs : Sp := fun vs H Q _ => ∃ (v : V) (S : List Addr) (d : PyData) (n m : Int), vs = [v, .int n, .int m] ∧ Rep S H v d ∧ m ≤ 100 ∧ ∀ H', Same H H' → Q (.bl (needsB d n m)) H'
theorem ok_are_needs (T : Txt K w mg A) : FnOk Pg w K mg base CX0 4 A.f_are_needs A.d_are_needs ["thing", "many_parts", "most"] (sp_are_needs) := by
  refine T.F_are_needs.ok sc_are_needs (fun vs H Q E h => ?_) (fun cdv Ar outer s H vs Q E hr h => ?_)
  · obtain ⟨v, S, d, n, m, rfl, r, m100, k⟩ := h
    rfl
  · obtain ⟨v, S, d, n, m, rfl, r, m100, k⟩ := h
    refine ⟨_, PSs.nox ((pss_one (ps_ret (pe_and (pe_call (ok_is_tuple T) (hr.mono (by decide)) rfl T.m_is_tuple T.F_is_tuple.kp (b_is_tuple T) .nil pass0 (pa_cons (pv 0) (pa_cons pe_int (pa_cons (pv 2) pa_nil)))) (pe_one (pe_callB (cr_all rfl) (by rfl) T.zall (by decide +kernel) (pa_cons (pe_lc (own := [("need", 3)]) (g := (gName 3)) (tt := tYes) rfl sc_are_needs.nd (pi_tup (pv 0)) (blkOk_by (N := N_are_needs) (sc := defScope s_are_needs) (by decide +kernel)) (fun _ _ _ _ _ => (pg_name (i := 3) sc_are_needs.nd rfl (Or.inl rfl))) (fun _ _ _ _ _ => pts_nil) (fun _ _ _ _ _ => (pe_call (ok_is_need T) hr rfl T.m_is_need T.F_is_need.kp (b_is_need T) .nil pass0 (pa_cons (pv 3) (pa_cons (pv 1) pa_nil))))) pa_nil))))))), ?_⟩
    rw [show start N_are_needs [v, .int n, .int m] = [some (v), some (.int n), some (.int m), none] from rfl]
    refine ⟨_, rfl, _, rfl, v, S, d, 0, m, rfl, r, fun H1 s1 => ⟨_, rfl, ?_⟩⟩
    refine ite2 (fun c => ?_) (fun c => ?_)
    · obtain ⟨ds, rfl, h1, h2⟩ := tupB_len c
      obtain ⟨a, xs, rfl, ha, _, rs⟩ := r.tupV
      refine ⟨_, rfl, a, rfl, ⟨_, SqT.of (s1 _ _ ha)⟩, fun D nD => ?_⟩
      refine lc_pure (walk_tup (xs := xs)) nD (fun i => V.bl ((fun z => needB z n) (ds.getD i .none))) (by rw [rs.length, sizeLine_eq]; omega) (fun H' s' => SqT.of (s' _ _ (s1 _ _ ha))) ?_ ?_
      · rintro i x H' H'' F hi s' ⟨rfl, hx⟩ fin
        obtain ⟨d1, e1, r0⟩ := rs.get hx
        have r1 := r0.sm (s1.trans s')
        refine ⟨rfl, ?_⟩
        rw [getD_of e1] at fin
        exact ⟨_, rfl, _, rfl, x, S, d1, n, rfl, r1, fun H3 s3 => fin H3 s3⟩
      · intro H' s' hD
        have e2 : (List.range xs.length).map (fun i => V.bl ((fun z => needB z n) (ds.getD i .none))) = ((List.range ds.length).map fun i => (fun z => needB z n) (ds.getD i .none)).map V.bl := by rw [rs.length, bl_map (fun i => (fun z => needB z n) (ds.getD i .none))]
        rw [e2] at hD
        refine ⟨D, _, rfl, SqL.of hD, ?_⟩
        rw [range_all (fun z => (fun z => needB z n) z)]
        have e := k H' (s1.trans s')
        rwa [show needsB (.tuple ds) n m = ds.all (fun z => needB z n) by simp [needsB, c, itemsD]] at e
    · have e := k H1 s1
      rwa [show needsB d n m = false by simp [needsB, c]] at e
def sp_starts_with_word : Sp := fun vs H Q _ => ∃ (v : V) (S : List Addr) (d : PyData), vs = [v] ∧ Rep S H v d ∧ ∀ H', Same H H' → Q (.bl (wordB d)) H'
theorem ok_starts_with_word (T : Txt K w mg A) : FnOk Pg w K mg base CX0 1 A.f_starts_with_word A.d_starts_with_word ["thing"] (sp_starts_with_word) := by
  refine T.F_starts_with_word.ok sc_starts_with_word (fun vs H Q E h => ?_) (fun cdv Ar outer s H vs Q E hr h => ?_)
  · obtain ⟨v, S, d, rfl, r, k⟩ := h
    rfl
  · obtain ⟨v, S, d, rfl, r, k⟩ := h
    refine ⟨_, PSs.nox ((pss_one (ps_ret (pe_and (pe_callB call_isiD (by rfl) T.zisinstance (by decide +kernel) (pa_cons (pv 0) (pa_cons (pe_bltn (v := .ty "tuple") (by rfl) T.ztuple (by decide +kernel) rfl) pa_nil))) (pe_and (pe_cmpR op_gt (pe_callB call_len_seq (by rfl) T.zlen (by decide +kernel) (pa_cons (pv 0) pa_nil)) pe_int (nomark _)) (pe_one (pe_callB call_isiD (by rfl) T.zisinstance (by decide +kernel) (pa_cons (pe_ix ix_tup (pv 0) pe_int (fun _ _ => rfl)) (pa_cons (pe_bltn (v := .ty "str") (by rfl) T.zstr (by decide +kernel) rfl) pa_nil))))))))), ?_⟩
    rw [show start N_starts_with_word [v] = [some (v)] from rfl]
    refine ⟨_, rfl, _, "tuple", S, d, _, rfl, r, kit_tup d, _, rfl, ?_⟩
    refine ite2 (fun c => ?_) (fun c => ?_)
    · obtain ⟨ds, rfl⟩ := tup_of c
      obtain ⟨a, xs, rfl, ha, _, rs⟩ := r.tupV
      refine ⟨_, rfl, a, xs, rfl, .inr (SqT.of ha), _, _, rfl, rfl, _, rfl, ?_⟩
      rw [rs.length]
      refine ite2 (fun c2 => ?_) (fun c2 => ?_)
      · have c3 : 0 < (ds.length : Int) := of_decide_eq_true c2
        obtain ⟨x, hx⟩ : ∃ x, xs[0]? = some x := ⟨_, List.getElem?_eq_getElem (by rw [rs.length]; omega)⟩
        obtain ⟨d1, e1, r1⟩ := rs.get hx
        refine ⟨_, rfl, a, xs, 0, x, rfl, rfl, SqT.of ha, atI_nat (j := 0) hx, _, "str", S, d1, _, rfl, r1, kit_str d1, ?_⟩
        have e := k H (Same.refl _)
        have z : nthD (.tuple ds) 0 = d1 := getD_of e1
        rwa [show wordB (.tuple ds) = isStr d1 by show (true && (decide (0 < (ds.length : Int)) && isStr (nthD (.tuple ds) 0))) = isStr d1; rw [c2, z]; rfl] at e
      · have e := k H (Same.refl _)
        have c3 : decide (0 < (ds.length : Int)) = false := Bool.eq_false_iff.mpr c2
        rwa [show wordB (.tuple ds) = false by show (true && (decide (0 < (ds.length : Int)) && isStr (nthD (.tuple ds) 0))) = false; rw [c3]; rfl] at e
    · have e := k H (Same.refl _)
      rwa [show wordB d = false by simp [wordB, c]] at e
def sp_is_give : Sp := fun vs H Q _ => ∃ (v : V) (S : List Addr) (d : PyData) (n : Int), vs = [v, .int n] ∧ Rep S H v d ∧ isTup d = true ∧ ∀ H', Same H H' → Q (.bl (giveB d n)) H'
theorem ok_is_give (T : Txt K w mg A) : FnOk Pg w K mg base CX0 5 A.f_is_give A.d_is_give ["row", "many_parts"] (sp_is_give) := by
  refine T.F_is_give.ok sc_is_give (fun vs H Q E h => ?_) (fun cdv Ar outer s H vs Q E hr h => ?_)
  · obtain ⟨v, S, d, n, rfl, r, td, k⟩ := h
    rfl
  · obtain ⟨v, S, d, n, rfl, r, td, k⟩ := h
    obtain ⟨t_MOST_NEEDS_OF_GIVE, c_MOST_NEEDS_OF_GIVE⟩ := T.i_MOST_NEEDS_OF_GIVE
    refine ⟨_, PSs.nox ((pss_cons (ps_if (PW.pt (pw_or (pt_cmpR op_ne (pe_callB call_len_seq (by rfl) T.zlen (by decide +kernel) (pa_cons (pv 0) pa_nil)) pe_int (nomark _)) (pw_or1 (pt_not (pt_val (pe_call (ok_is_name T) (hr.mono (by decide)) rfl T.m_is_name T.F_is_name.kp (b_is_name T) .nil pass0 (pa_cons (pe_ix ix_tup (pv 0) pe_int (fun _ _ => rfl)) pa_nil))))))) (pss_one (ps_ret pe_bl)) pss_nil)
 (pss_one (ps_ret (pe_and (pe_call (ok_are_needs T) hr rfl T.m_are_needs T.F_are_needs.kp (b_are_needs T) .nil pass0 (pa_cons (pe_ix ix_tup (pv 0) pe_int (fun _ _ => rfl)) (pa_cons (pv 1) (pa_cons (pe_glob (v := .int (1)) (by rfl) c_MOST_NEEDS_OF_GIVE ⟨_, rfl⟩) pa_nil)))) (pe_one (pe_callB call_isiD (by rfl) T.zisinstance (by decide +kernel) (pa_cons (pe_ix ix_tup (pv 0) pe_int (fun _ _ => rfl)) (pa_cons (pe_bltn (v := .ty "bool") (by rfl) T.zbool (by decide +kernel) rfl) pa_nil))))))))), ?_⟩
    rw [show start N_is_give [v, .int n] = [some (v), some (.int n)] from rfl]
    obtain ⟨ds, rfl⟩ := tup_of td
    obtain ⟨a, xs, rfl, ha, _, rs⟩ := r.tupV
    refine ⟨_, rfl, a, _, rfl, .inr (SqT.of (ha)), rfl, _, rfl, ?_⟩
    rw [rs.length]
    have eq4 : (!decide (V.int (ds.length : Int) = V.int 4)) = !lenIs (.tuple ds) 4 := by
      unfold lenIs
      simp [itemsD] <;> rfl
    refine ite2 (fun c => iteT ?_) (fun c => ?_)
    · rw [eq4] at c
      have e := k H (Same.refl _)
      rwa [show giveB (.tuple ds) n = false by simp only [giveB]; rw [show lenIs (.tuple ds) 4 = false by simpa using c]; rfl] at e
    · rw [eq4] at c
      have c4 : lenIs (.tuple ds) 4 = true := by simpa using c
      obtain ⟨x, y, z, u, rfl⟩ := len4 (of_decide_eq_true c4)
      obtain ⟨a', p, q, s', t, e0, ha', rp, rq, rz, ru⟩ := r.four
      obtain rfl : a = a' := by injection e0
      rw [ha] at ha'
      obtain rfl : xs = [p, q, s', t] := by injection (Option.some.inj ha')
      refine ⟨_, rfl, a, _, 1, _, rfl, rfl, SqT.of (ha), atI_nat (j := 1) rfl, q, S, y, rfl, rq, fun H1 s1 => ⟨_, rfl, ?_⟩⟩
      refine ite2 (fun c1 => ?_) (fun c1 => ?_)
      · have e := k H1 s1
        rwa [show giveB (.tuple [x, y, z, u]) n = false by simp only [giveB, c4]; rw [show nameB (nthD (.tuple [x, y, z, u]) 1) = false from nbF c1]; rfl] at e
      · have c5 : nameB (nthD (.tuple [x, y, z, u]) 1) = true := nbT c1
        refine ⟨_, rfl, a, _, 2, _, rfl, rfl, SqT.of (s1 _ _ ha), atI_nat (j := 2) rfl, _, rfl, s', S, z, n, 1, rfl, rz.sm s1, by decide, fun H2 s2 => ⟨_, rfl, ?_⟩⟩
        refine ite2 (fun c6 => ?_) (fun c6 => ?_)
        · refine ⟨_, rfl, a, _, 3, _, rfl, rfl, SqT.of (s2 _ _ (s1 _ _ ha)), atI_nat (j := 3) rfl, _, "bool", S, u, _, rfl, ru.sm (s1.trans s2), kit_bool u, ?_⟩
          have e := k H2 (s1.trans s2)
          rwa [show giveB (.tuple [x, y, z, u]) n = isBl u by simp only [giveB, c4, c5]; rw [show needsB (nthD (.tuple [x, y, z, u]) 2) n 1 = true from c6]; rfl] at e
        · have e := k H2 (s1.trans s2)
          rwa [show giveB (.tuple [x, y, z, u]) n = false by simp only [giveB, c4, c5]; rw [show needsB (nthD (.tuple [x, y, z, u]) 2) n 1 = false from bF c6]; rfl] at e
def sp_is_late : Sp := fun vs H Q _ => ∃ (v : V) (S : List Addr) (d : PyData) (n : Int), vs = [v, .int n] ∧ Rep S H v d ∧ isTup d = true ∧ ∀ H', Same H H' → Q (.bl (lateB d n)) H'
theorem ok_is_late (T : Txt K w mg A) : FnOk Pg w K mg base CX0 5 A.f_is_late A.d_is_late ["row", "many_parts"] (sp_is_late) := by
  refine T.F_is_late.ok sc_is_late (fun vs H Q E h => ?_) (fun cdv Ar outer s H vs Q E hr h => ?_)
  · obtain ⟨v, S, d, n, rfl, r, td, k⟩ := h
    rfl
  · obtain ⟨v, S, d, n, rfl, r, td, k⟩ := h
    obtain ⟨t_MOST_NEEDS, c_MOST_NEEDS⟩ := T.i_MOST_NEEDS
    obtain ⟨t_NO_PART, c_NO_PART⟩ := T.i_NO_PART
    refine ⟨_, PSs.nox ((pss_cons (ps_if (PW.pt (pw_or (pt_cmpR op_ne (pe_callB call_len_seq (by rfl) T.zlen (by decide +kernel) (pa_cons (pv 0) pa_nil)) pe_int (nomark _)) (pw_or (pt_not (pt_val (pe_call (ok_is_name T) (hr.mono (by decide)) rfl T.m_is_name T.F_is_name.kp (b_is_name T) .nil pass0 (pa_cons (pe_ix ix_tup (pv 0) pe_int (fun _ _ => rfl)) pa_nil)))) (pw_or1 (pt_not (pt_val (pe_call (ok_is_integer T) (hr.mono (by decide)) rfl T.m_is_integer T.F_is_integer.kp (b_is_integer T) .nil pass0 (pa_cons (pe_ix ix_tup (pv 0) pe_int (fun _ _ => rfl)) pa_nil)))))))) (pss_one (ps_ret pe_bl)) pss_nil)
 (pss_one (ps_ret (pe_and (pe_or (pe_cmpR op_eq (pe_ix ix_tup (pv 0) pe_int (fun _ _ => rfl)) (pe_glob (v := .int (-1)) (by rfl) c_NO_PART ⟨_, rfl⟩) (nomark _)) (pe_one (pe_call (ok_is_number T) (hr.mono (by decide)) rfl T.m_is_number T.F_is_number.kp (b_is_number T) .nil pass0 (pa_cons (pe_ix ix_tup (pv 0) pe_int (fun _ _ => rfl)) (pa_cons (pv 1) pa_nil))))) (pe_one (pe_call (ok_are_needs T) hr rfl T.m_are_needs T.F_are_needs.kp (b_are_needs T) .nil pass0 (pa_cons (pe_ix ix_tup (pv 0) pe_int (fun _ _ => rfl)) (pa_cons (pv 1) (pa_cons (pe_glob (v := .int (2)) (by rfl) c_MOST_NEEDS ⟨_, rfl⟩) pa_nil)))))))))), ?_⟩
    rw [show start N_is_late [v, .int n] = [some (v), some (.int n)] from rfl]
    obtain ⟨ds, rfl⟩ := tup_of td
    obtain ⟨a, xs, rfl, ha, _, rs⟩ := r.tupV
    refine ⟨_, rfl, a, _, rfl, .inr (SqT.of (ha)), rfl, _, rfl, ?_⟩
    rw [rs.length]
    have eq4 : (!decide (V.int (ds.length : Int) = V.int 4)) = !lenIs (.tuple ds) 4 := by
      unfold lenIs
      simp [itemsD] <;> rfl
    refine ite2 (fun c => iteT ?_) (fun c => ?_)
    · rw [eq4] at c
      have e := k H (Same.refl _)
      rwa [show lateB (.tuple ds) n = false by simp only [lateB]; rw [show lenIs (.tuple ds) 4 = false by simpa using c]; rfl] at e
    · rw [eq4] at c
      have c4 : lenIs (.tuple ds) 4 = true := by simpa using c
      obtain ⟨x, y, z, u, rfl⟩ := len4 (of_decide_eq_true c4)
      obtain ⟨a', p, q, s', t, e0, ha', rp, rq, rz, ru⟩ := r.four
      obtain rfl : a = a' := by injection e0
      rw [ha] at ha'
      obtain rfl : xs = [p, q, s', t] := by injection (Option.some.inj ha')
      refine ⟨_, rfl, a, _, 1, _, rfl, rfl, SqT.of (ha), atI_nat (j := 1) rfl, q, S, y, rfl, rq, fun H1 s1 => ⟨_, rfl, ?_⟩⟩
      refine ite2 (fun c1 => iteT ?_) (fun c1 => ?_)
      · have e := k H1 s1
        rwa [show lateB (.tuple [x, y, z, u]) n = false by simp only [lateB, c4]; rw [show nameB (nthD (.tuple [x, y, z, u]) 1) = false from nbF c1]; rfl] at e
      · have c5 : nameB (nthD (.tuple [x, y, z, u]) 1) = true := nbT c1
        refine ⟨_, rfl, a, _, 2, _, rfl, rfl, SqT.of (s1 _ _ ha), atI_nat (j := 2) rfl, s', S, z, rfl, rz.sm s1, fun H2 s2 => ⟨_, rfl, ?_⟩⟩
        have ha2 := s2 _ _ (s1 _ _ ha)
        refine ite2 (fun c6 => ?_) (fun c6 => ?_)
        · have e := k H2 (s1.trans s2)
          rwa [show lateB (.tuple [x, y, z, u]) n = false by simp only [lateB, c4, c5]; rw [show intB (nthD (.tuple [x, y, z, u]) 2) = false from nbF c6]; rfl] at e
        · have c7 : intB z = true := by simpa using c6
          obtain ⟨i, rfl⟩ := int_of c7
          obtain rfl := rz.intV
          have c8 : intB (nthD (.tuple [x, y, .int i, u]) 2) = true := c7
          have fin : ∀ (H3 : Hp), Same H H3 → numB (.int i) n = true ∨ i = -1 → tCall sp_are_needs [] E0 (tCons (tOp (rIxT K) (tVar 0) (tC (.int 3))) (tCons (tVar 1) (tCons (tC (.int 2)) tNil))) [some (.ref a), some (.int n)] H3 Q := by
            intro H3 s3 yes
            refine ⟨_, rfl, a, _, 3, _, rfl, rfl, SqT.of (s3 _ _ ha), atI_nat (j := 3) rfl, _, rfl, t, S, u, n, 2, rfl, ru.sm s3, by decide, fun H4 s4 => ?_⟩
            have e := k H4 (s3.trans s4)
            rwa [show lateB (.tuple [x, y, .int i, u]) n = needsB u n 2 by
              simp only [lateB, c4, c5, c8]
              rw [show (decide (valI (nthD (.tuple [x, y, .int i, u]) 2) = -1) || numB (nthD (.tuple [x, y, .int i, u]) 2) n) = true by
                rw [Bool.or_eq_true, decide_eq_true_eq]
                exact yes.symm]
              rfl] at e
          refine ⟨_, rfl, a, _, 2, _, rfl, rfl, SqT.of (ha2), atI_nat (j := 2) rfl, rfl, _, rfl, ?_⟩
          refine ite2 (fun c9 => ?_) (fun c9 => ?_)
          · exact ⟨_, rfl, fin H2 (s1.trans s2) (.inr (by simpa using c9))⟩
          · refine ⟨_, rfl, a, _, 2, _, rfl, rfl, SqT.of (ha2), atI_nat (j := 2) rfl, _, rfl, _, S, .int i, n, rfl, rz.sm (s1.trans s2), fun H3 s3 => ⟨_, rfl, ?_⟩⟩
            refine ite2 (fun c10 => fin H3 (s1.trans (s2.trans s3)) (.inl c10)) (fun c10 => ?_)
            have e := k H3 (s1.trans (s2.trans s3))
            rwa [show lateB (.tuple [x, y, .int i, u]) n = false by
              simp only [lateB, c4, c5, c8]
              rw [show (decide (valI (nthD (.tuple [x, y, .int i, u]) 2) = -1) || numB (nthD (.tuple [x, y, .int i, u]) 2) n) = false by
                rw [Bool.or_eq_false_iff]
                exact ⟨decide_eq_false fun z => c9 (decide_eq_true (congrArg V.int (show i = -1 from z))), Bool.eq_false_iff.mpr c10⟩]
              rfl] at e
def sp_is_row : Sp := fun vs H Q _ => ∃ (v : V) (S : List Addr) (d : PyData) (n : Int), vs = [v, .int n] ∧ Rep S H v d ∧ ∀ H', Same H H' → Q (.bl (rowB d n)) H'
theorem ok_is_row (T : Txt K w mg A) : FnOk Pg w K mg base CX0 6 A.f_is_row A.d_is_row ["thing", "many_parts"] (sp_is_row) := by
  refine T.F_is_row.ok sc_is_row (fun vs H Q E h => ?_) (fun cdv Ar outer s H vs Q E hr h => ?_)
  · obtain ⟨v, S, d, n, rfl, r, k⟩ := h
    rfl
  · obtain ⟨v, S, d, n, rfl, r, k⟩ := h
    obtain ⟨t_MOST_NEEDS, c_MOST_NEEDS⟩ := T.i_MOST_NEEDS
    refine ⟨_, PSs.nox ((pss_cons (ps_if (pt_not (pt_val (pe_call (ok_starts_with_word T) (hr.mono (by decide)) rfl T.m_starts_with_word T.F_starts_with_word.kp (b_starts_with_word T) .nil pass0 (pa_cons (pv 0) pa_nil)))) (pss_one (ps_ret pe_bl)) pss_nil)
 (pss_cons (ps_set (i := 2) sc_is_row.nd rfl (Or.inl rfl) (pe_ix ix_tup (pv 0) pe_int (fun _ _ => rfl)))
 (pss_cons (ps_if (pt_cmpR op_eq (pv 2) pe_str (nomark _)) (pss_one (ps_ret (pe_and (pe_cmpR op_eq (pe_callB call_len_seq (by rfl) T.zlen (by decide +kernel) (pa_cons (pv 0) pa_nil)) pe_int (nomark _)) (pe_one (pe_call (ok_is_number T) (hr.mono (by decide)) rfl T.m_is_number T.F_is_number.kp (b_is_number T) .nil pass0 (pa_cons (pe_ix ix_tup (pv 0) pe_int (fun _ _ => rfl)) (pa_cons (pv 1) pa_nil))))))) pss_nil)
 (pss_cons (ps_if (pt_cmpR op_eq (pv 2) pe_str (nomark _)) (pss_one (ps_ret (pe_call (ok_is_give T) hr rfl T.m_is_give T.F_is_give.kp (b_is_give T) .nil pass0 (pa_cons (pv 0) (pa_cons (pv 1) pa_nil))))) pss_nil)
 (pss_cons (ps_if (pt_cmpR op_eq (pv 2) pe_str (nomark _)) (pss_one (ps_ret (pe_and (pe_cmpR op_eq (pe_callB call_len_seq (by rfl) T.zlen (by decide +kernel) (pa_cons (pv 0) pa_nil)) pe_int (nomark _)) (pe_and (pe_call (ok_is_need T) (hr.mono (by decide)) rfl T.m_is_need T.F_is_need.kp (b_is_need T) .nil pass0 (pa_cons (pe_tup (pa_cons (pe_ix ix_tup (pv 0) pe_int (fun _ _ => rfl)) (pa_cons (pe_ix ix_tup (pv 0) pe_int (fun _ _ => rfl)) pa_nil))) (pa_cons (pv 1) pa_nil))) (pe_one (pe_call (ok_is_name T) (hr.mono (by decide)) rfl T.m_is_name T.F_is_name.kp (b_is_name T) .nil pass0 (pa_cons (pe_ix ix_tup (pv 0) pe_int (fun _ _ => rfl)) pa_nil))))))) pss_nil)
 (pss_cons (ps_if (pt_cmpR op_eq (pv 2) pe_str (nomark _)) (pss_one (ps_ret (pe_and (pe_cmpR op_eq (pe_callB call_len_seq (by rfl) T.zlen (by decide +kernel) (pa_cons (pv 0) pa_nil)) pe_int (nomark _)) (pe_and (pe_call (ok_are_needs T) (hr.mono (by decide)) rfl T.m_are_needs T.F_are_needs.kp (b_are_needs T) .nil pass0 (pa_cons (pe_ix ix_tup (pv 0) pe_int (fun _ _ => rfl)) (pa_cons (pv 1) (pa_cons (pe_glob (v := .int (2)) (by rfl) c_MOST_NEEDS ⟨_, rfl⟩) pa_nil)))) (pe_one (pe_callB call_isiD (by rfl) T.zisinstance (by decide +kernel) (pa_cons (pe_ix ix_tup (pv 0) pe_int (fun _ _ => rfl)) (pa_cons (pe_bltn (v := .ty "bool") (by rfl) T.zbool (by decide +kernel) rfl) pa_nil)))))))) pss_nil)
 (pss_cons (ps_if (pt_cmpR op_eq (pv 2) pe_str (nomark _)) (pss_one (ps_ret (pe_call (ok_is_late T) hr rfl T.m_is_late T.F_is_late.kp (b_is_late T) .nil pass0 (pa_cons (pv 0) (pa_cons (pv 1) pa_nil))))) pss_nil)
 (pss_one (ps_ret (pe_and (pe_cmpR op_eq (pv 2) pe_str (nomark _)) (pe_one (pe_cmpR op_eq (pe_callB call_len_seq (by rfl) T.zlen (by decide +kernel) (pa_cons (pv 0) pa_nil)) pe_int (nomark _)))))))))))))), ?_⟩
    rw [show start N_is_row [v, .int n] = [some (v), some (.int n), none] from rfl]
    refine ⟨_, rfl, v, S, d, rfl, r, fun H1 s1 => ?_⟩
    have k1 : ∀ b, rowB d n = b → ∀ H', Same H1 H' → Q (.bl b) H' := fun b e H' s' => by
      have z := k H' (s1.trans s')
      rwa [e] at z
    refine ⟨_, rfl, ?_⟩
    refine ite2 (fun c => ?_) (fun c => ?_)
    · exact k1 false (by simp only [rowB]; rw [nbF c]; rfl) H1 (.refl _)
    replace c := nbT c
    obtain ⟨ds, rfl⟩ : ∃ ds, d = .tuple ds := tup_of (by
      have z := c
      unfold wordB at z
      exact (Bool.and_eq_true_iff.mp z).1)
    obtain ⟨a, xs, rfl, ha, _, rs⟩ := r.tupV
    have ha1 := s1 _ _ ha
    have rs1 := rs.sm s1
    have cw : decide (0 < (ds.length : Int)) = true ∧ isStr (nthD (.tuple ds) 0) = true := by
      have z : (true && (decide (0 < (ds.length : Int)) && isStr (nthD (.tuple ds) 0))) = true := c
      simpa using z
    have pos := of_decide_eq_true cw.1
    obtain ⟨w0, hw0⟩ : ∃ x, xs[0]? = some x := ⟨_, List.getElem?_eq_getElem (by rw [rs.length]; omega)⟩
    obtain ⟨d0, e0, r0⟩ := rs1.get hw0
    have n0 : nthD (.tuple ds) 0 = d0 := getD_of e0
    rw [n0] at cw
    obtain ⟨wd, rfl⟩ := str_of cw.2
    obtain rfl := r0.strV
    have rw0 : ∀ b, (if wd = "load" then lenIs (.tuple ds) 2 && numB (nthD (.tuple ds) 1) n
       else if wd = "give" then giveB (.tuple ds) n
       else if wd = "pass" then lenIs (.tuple ds) 4 && ((numB (nthD (.tuple ds) 2) n && nameB (nthD (.tuple ds) 1)) && nameB (nthD (.tuple ds) 3))
       else if wd = "show" then lenIs (.tuple ds) 3 && (needsB (nthD (.tuple ds) 1) n 2 && isBl (nthD (.tuple ds) 2))
       else if wd = "late" then lateB (.tuple ds) n
       else decide (wd = "out") && lenIs (.tuple ds) 1) = b → ∀ H', Same H1 H' → Q (.bl b) H' := fun b e => k1 b (by
      unfold rowB
      rw [c, n0]
      exact e)
    clear k1 k
    refine ⟨_, rfl, a, xs, 0, _, rfl, rfl, SqT.of ha1, atI_nat (j := 0) hw0, ?_⟩
    dsimp only [List.set]
    have lenE : ∀ m : Int, decide (V.int (xs.length : Int) = V.int m) = lenIs (.tuple ds) m := fun m => by
      rw [rs.length]
      unfold lenIs
      simp [itemsD] <;> rfl
    -- load
    refine ⟨_, rfl, rfl, _, rfl, ?_⟩
    refine ite2 (fun q => ?_) (fun q => ?_)
    · replace q : wd = "load" := by simpa using q
      rw [if_pos q] at rw0
      refine ⟨_, rfl, a, _, rfl, .inr (SqT.of (ha1)), rfl, _, rfl, ?_⟩
      rw [lenE]
      refine ite2 (fun c2 => ?_) (fun c2 => rw0 false (by rw [bF c2]; rfl) H1 (.refl _))
      obtain ⟨x, y, rfl⟩ := len2' (of_decide_eq_true c2)
      obtain ⟨a', p0, p1, e1, ha', rp0, rp1⟩ := (Rep.tup ha1 ‹_› rs1 : Rep S H1 (.ref a) (.tuple [x, y])).two
      obtain rfl : a = a' := by injection e1
      rw [ha1] at ha'
      obtain rfl : xs = [p0, p1] := by injection (Option.some.inj ha')
      refine ⟨_, rfl, a, _, 1, _, rfl, rfl, SqT.of (ha1), atI_nat (j := 1) rfl, _, rfl, p1, S, y, n, rfl, rp1, fun H2 s2 => rw0 _ (by rw [c2]; rfl) H2 s2⟩
    rw [if_neg (by simpa using q)] at rw0
    -- give
    refine ⟨_, rfl, rfl, _, rfl, ?_⟩
    refine ite2 (fun q => ?_) (fun q => ?_)
    · replace q : wd = "give" := by simpa using q
      rw [if_pos q] at rw0
      exact ⟨_, rfl, _, rfl, .ref a, S, .tuple ds, n, rfl, r.sm s1, rfl, fun H2 s2 => rw0 _ rfl H2 s2⟩
    rw [if_neg (by simpa using q)] at rw0
    -- pass
    refine ⟨_, rfl, rfl, _, rfl, ?_⟩
    refine ite2 (fun q => ?_) (fun q => ?_)
    · replace q : wd = "pass" := by simpa using q
      rw [if_pos q] at rw0
      refine ⟨_, rfl, a, _, rfl, .inr (SqT.of (ha1)), rfl, _, rfl, ?_⟩
      rw [lenE]
      refine ite2 (fun c2 => ?_) (fun c2 => rw0 false (by rw [bF c2]; rfl) H1 (.refl _))
      obtain ⟨x, y, z, u, rfl⟩ := len4 (of_decide_eq_true c2)
      obtain ⟨a', p0, p1, p2, p3, e1, ha', rp0, rp1, rp2, rp3⟩ := (Rep.tup ha1 ‹_› rs1 : Rep S H1 (.ref a) (.tuple [x, y, z, u])).four
      obtain rfl : a = a' := by injection e1
      rw [ha1] at ha'
      obtain rfl : xs = [p0, p1, p2, p3] := by injection (Option.some.inj ha')
      refine ⟨_, rfl, a, _, 2, _, rfl, rfl, SqT.of (ha1), atI_nat (j := 2) rfl, _, rfl, a, _, 1, _, rfl, rfl, SqT.of (ha1), atI_nat (j := 1) rfl, (by show 2 ≤ sizeLine; decide), fun t nt => ?_⟩
      have st : Same H1 (upd H1 t (.tup [p2, p1])) := same_new nt
      have rt : Rep [] (upd H1 t (.tup [p2, p1])) (.ref t) (.tuple [z, y]) := .tup upd_same (fun m => nomatch m) (.cons (Rep.less (fun _ m => absurd m (List.not_mem_nil)) _ _ (rp2.sm st)) (.cons (Rep.less (fun _ m => absurd m (List.not_mem_nil)) _ _ (rp1.sm st)) .nil))
      refine ⟨_, rfl, .ref t, [], .tuple [z, y], n, rfl, rt, fun H2 s2 => ⟨_, rfl, ?_⟩⟩
      have nb : needB (.tuple [z, y]) n = (numB z n && nameB y) := rfl
      refine ite2 (fun c3 => ?_) (fun c3 => rw0 false (by rw [c2]; show (true && ((numB z n && nameB y) && nameB u)) = false; rw [← nb, bF c3]; rfl) H2 (st.trans s2))
      refine ⟨_, rfl, a, _, 3, _, rfl, rfl, SqT.of ((st.trans s2) _ _ ha1), atI_nat (j := 3) rfl, p3, S, u, rfl, rp3.sm (st.trans s2), fun H3 s3 => rw0 _ (by rw [c2]; show (true && ((numB z n && nameB y) && nameB u)) = _; rw [← nb, c3]; rfl) H3 (st.trans (s2.trans s3))⟩
    rw [if_neg (by simpa using q)] at rw0
    -- show
    refine ⟨_, rfl, rfl, _, rfl, ?_⟩
    refine ite2 (fun q => ?_) (fun q => ?_)
    · replace q : wd = "show" := by simpa using q
      rw [if_pos q] at rw0
      refine ⟨_, rfl, a, _, rfl, .inr (SqT.of (ha1)), rfl, _, rfl, ?_⟩
      rw [lenE]
      refine ite2 (fun c2 => ?_) (fun c2 => rw0 false (by rw [bF c2]; rfl) H1 (.refl _))
      obtain ⟨x, y, z, rfl⟩ := len3 (of_decide_eq_true c2)
      obtain ⟨a', p0, p1, p2, e1, ha', rp0, rp1, rp2⟩ := (Rep.tup ha1 ‹_› rs1 : Rep S H1 (.ref a) (.tuple [x, y, z])).three
      obtain rfl : a = a' := by injection e1
      rw [ha1] at ha'
      obtain rfl : xs = [p0, p1, p2] := by injection (Option.some.inj ha')
      refine ⟨_, rfl, a, _, 1, _, rfl, rfl, SqT.of (ha1), atI_nat (j := 1) rfl, _, rfl, p1, S, y, n, 2, rfl, rp1, by decide, fun H2 s2 => ⟨_, rfl, ?_⟩⟩
      refine ite2 (fun c3 => ?_) (fun c3 => rw0 false (by rw [c2]; show (true && (needsB y n 2 && isBl z)) = false; rw [bF c3]; rfl) H2 s2)
      refine ⟨_, rfl, a, _, 2, _, rfl, rfl, SqT.of (s2 _ _ ha1), atI_nat (j := 2) rfl, _, "bool", S, z, _, rfl, rp2.sm s2, kit_bool z, rw0 _ (by rw [c2]; show (true && (needsB y n 2 && isBl z)) = _; rw [c3]; rfl) H2 s2⟩
    rw [if_neg (by simpa using q)] at rw0
    -- late
    refine ⟨_, rfl, rfl, _, rfl, ?_⟩
    refine ite2 (fun q => ?_) (fun q => ?_)
    · replace q : wd = "late" := by simpa using q
      rw [if_pos q] at rw0
      exact ⟨_, rfl, _, rfl, .ref a, S, .tuple ds, n, rfl, r.sm s1, rfl, fun H2 s2 => rw0 _ rfl H2 s2⟩
    rw [if_neg (by simpa using q)] at rw0
    -- out
    refine ⟨_, rfl, rfl, _, rfl, ?_⟩
    refine ite2 (fun q => ?_) (fun q => ?_)
    · refine ⟨_, rfl, a, _, rfl, .inr (SqT.of (ha1)), rfl, ?_⟩
      rw [lenE]
      exact rw0 _ (by rw [show decide (wd = ("out" : Str)) = true by simpa using q]; rfl) H1 (.refl _)
    · exact rw0 false (by rw [show decide (wd = ("out" : Str)) = false by simpa using q]; rfl) H1 (.refl _)
def sp_are_parts : Sp := fun vs H Q _ => ∃ (v : V) (S : List Addr) (d : PyData), vs = [v] ∧ Rep S H v d ∧ ∀ H', Same H H' → Q (.bl (partsB d)) H'
theorem ok_are_parts (T : Txt K w mg A) : FnOk Pg w K mg base CX0 7 A.f_are_parts A.d_are_parts ["thing"] (sp_are_parts) := by
  refine T.F_are_parts.ok sc_are_parts (fun vs H Q E h => ?_) (fun cdv Ar outer s H vs Q E hr h => ?_)
  · obtain ⟨v, S, d, rfl, r, k⟩ := h
    rfl
  · obtain ⟨v, S, d, rfl, r, k⟩ := h
    obtain ⟨t_MOST_PARTS, c_MOST_PARTS⟩ := T.i_MOST_PARTS
    obtain ⟨t_MOST_ROWS_OF_PART, c_MOST_ROWS_OF_PART⟩ := T.i_MOST_ROWS_OF_PART
    obtain ⟨t_MOST_ROWS, c_MOST_ROWS⟩ := T.i_MOST_ROWS
    obtain ⟨t_MOST_OUTS, c_MOST_OUTS⟩ := T.i_MOST_OUTS
    refine ⟨_, PSs.nox ((pss_cons (ps_if (pt_not (pt_val (pe_call (ok_is_tuple T) (hr.mono (by decide)) rfl T.m_is_tuple T.F_is_tuple.kp (b_is_tuple T) .nil pass0 (pa_cons (pv 0) (pa_cons pe_int (pa_cons (pe_glob (v := .int (4)) (by rfl) c_MOST_PARTS ⟨_, rfl⟩) pa_nil)))))) (pss_one (ps_ret pe_bl)) pss_nil)
 (pss_cons (ps_if (pt_not (pt_val (pe_callB (cr_all rfl) (by rfl) T.zall (by decide +kernel) (pa_cons (pe_lc (own := [("part", 2)]) (g := (gName 2)) (tt := tYes) rfl sc_are_parts.nd (pi_tup (pv 0)) (blkOk_by (N := N_are_parts) (sc := defScope s_are_parts) (by decide +kernel)) (fun _ _ _ _ _ => (pg_name (i := 2) sc_are_parts.nd rfl (Or.inl rfl))) (fun _ _ _ _ _ => pts_nil) (fun _ _ _ _ _ => (pe_call (ok_is_tuple T) (hr.mono (by decide)) rfl T.m_is_tuple T.F_is_tuple.kp (b_is_tuple T) .nil pass0 (pa_cons (pv 2) (pa_cons pe_int (pa_cons (pe_glob (v := .int (5)) (by rfl) c_MOST_ROWS_OF_PART ⟨_, rfl⟩) pa_nil)))))) pa_nil)))) (pss_one (ps_ret pe_bl)) pss_nil)
 (pss_cons (ps_setLc2 (i := 1) (own := [("part", 2), ("row", 3)]) (vs1 := [3]) (g := (gName 2)) (tt := tYes) (g1 := (gName 3)) (tt1 := tYes) rfl sc_are_parts.nd rfl rfl (sw_true rfl rfl rfl (by decide +kernel)) (pi_tup (pv 0)) (blkOk_by (N := N_are_parts) (sc := defScope s_are_parts) (by decide +kernel)) (by decide) (fun _ _ _ _ _ => (pg_name (i := 2) sc_are_parts.nd rfl (Or.inl rfl))) (fun _ _ _ _ _ => pts_nil) (fun _ _ _ _ _ => (show PI _ _ _ (iTup K (tVar 2)) from pi_tup (pv 2))) (fun _ _ _ _ _ => (pg_name (i := 3) sc_are_parts.nd rfl (Or.inl rfl))) (fun _ _ _ _ _ => pts_nil) (fun _ _ _ _ _ => (pv 3)))
 (pss_cons (ps_if (PW.pt (pw_or (pt_cmpR op_gt (pe_callB call_len_seq (by rfl) T.zlen (by decide +kernel) (pa_cons (pv 1) pa_nil)) (pe_glob (v := .int (12)) (by rfl) c_MOST_ROWS ⟨_, rfl⟩) (nomark _)) (pw_or1 (pt_not (pt_val (pe_callB (cr_all rfl) (by rfl) T.zall (by decide +kernel) (pa_cons (pe_lc (own := [("row", 3)]) (g := (gName 3)) (tt := tYes) rfl sc_are_parts.nd (pi_list (pv 1)) (blkOk_by (N := N_are_parts) (sc := defScope s_are_parts) (by decide +kernel)) (fun _ _ _ _ _ => (pg_name (i := 3) sc_are_parts.nd rfl (Or.inl rfl))) (fun _ _ _ _ _ => pts_nil) (fun _ _ _ _ _ => (pe_call (ok_is_row T) hr rfl T.m_is_row T.F_is_row.kp (b_is_row T) .nil pass0 (pa_cons (pv 3) (pa_cons (pe_callB (show CallR _ _ (rLen2 K) from len_k) (by rfl) T.zlen (by decide +kernel) (pa_cons (pv 0) pa_nil)) pa_nil))))) pa_nil))))))) (pss_one (ps_ret pe_bl)) pss_nil)
 (pss_one (ps_ret (pe_cmpR op_le (pe_callB call_len_seq (by rfl) T.zlen (by decide +kernel) (pa_cons (pe_lc (own := [("row", 3)]) (g := (gName 3)) (tt := _) rfl sc_are_parts.nd (pi_list (pv 1)) (blkOk_by (N := N_are_parts) (sc := defScope s_are_parts) (by decide +kernel)) (fun _ _ _ _ _ => (pg_name (i := 3) sc_are_parts.nd rfl (Or.inl rfl))) (fun _ _ _ _ _ => (pts_one (pt_cmpR op_eq (pe_ix (show IxR _ (rIxT K) from ix_tup) (pv 3) pe_int (fun _ _ => rfl)) pe_str (nomark _)))) (fun _ _ _ _ _ => (pv 3))) pa_nil)) (pe_glob (v := .int (2)) (by rfl) c_MOST_OUTS ⟨_, rfl⟩) (nomark _))))))))), ?_⟩
    rw [show start N_are_parts [v] = [some (v), none, none, none] from rfl]
    refine ⟨_, rfl, v, S, d, 1, 4, rfl, r, fun H1 s1 => ⟨_, rfl, ?_⟩⟩
    refine ite2 (fun c => ?_) (fun c => ?_)
    · have e := k H1 s1
      rwa [show partsB d = false by unfold partsB; rw [nbF c]; rfl] at e
    replace c := nbT c
    obtain ⟨ps, rfl, p1, p4⟩ := tupB_len c
    obtain ⟨a, xs, rfl, ha, _, rs⟩ := r.tupV
    have dl : ps.length ≤ 1000 := by omega
    have H1' := s1
    
    refine ⟨_, rfl, a, rfl, ⟨_, SqT.of (s1 _ _ ha)⟩, fun D nD => ?_⟩
    refine lc_pure (walk_tup (xs := xs)) nD (fun i => V.bl ((fun z => tupB z 0 5) (ps.getD i .none))) (by rw [rs.length, sizeLine_eq]; omega) (fun H' s' => SqT.of (s' _ _ (s1 _ _ ha))) ?_ ?_
    · rintro i x H' H'' F hi s' ⟨rfl, hx⟩ fin
      obtain ⟨d1, e1, r0⟩ := rs.get hx
      have r1 := r0.sm (s1.trans s')
      refine ⟨rfl, ?_⟩
      rw [getD_of e1] at fin
      exact ⟨_, rfl, x, S, d1, 0, 5, rfl, r1, fun H3 s3 => fin H3 s3⟩
    · intro H' s' hD
      have e2 : (List.range xs.length).map (fun i => V.bl ((fun z => tupB z 0 5) (ps.getD i .none))) = ((List.range ps.length).map fun i => (fun z => tupB z 0 5) (ps.getD i .none)).map V.bl := by rw [rs.length, bl_map (fun i => (fun z => tupB z 0 5) (ps.getD i .none))]
      rw [e2] at hD
      refine ⟨D, _, rfl, SqL.of hD, ?_⟩
      rw [range_all (fun z => (fun z => tupB z 0 5) z)]
    
      refine ⟨_, rfl, ?_⟩
      refine ite2 (fun c2 => ?_) (fun c2 => ?_)
      · have e := k H' (s1.trans s')
        rwa [show partsB (.tuple ps) = false by
          unfold partsB
          rw [c]
          show (true && (ps.all (fun p => tupB p 0 5) && _)) = false
          rw [nbF c2]
          rfl] at e
      replace c2 := nbT c2
      have all5 : ∀ p ∈ ps, ∃ rows, p = .tuple rows ∧ rows.length ≤ 5 := fun p hp => by
        obtain ⟨rows, e, _, h5⟩ := tupB_len (List.all_eq_true.mp c2 p hp)
        exact ⟨rows, e, by omega⟩
      have s2 := s1.trans s'
      clear hD e2 s' c2 nD
      -- rows
      refine ⟨_, rfl, a, rfl, ⟨_, SqT.of (s2 _ _ ha)⟩, fun R nR => ?_⟩
      have rsR : Reps (R :: S) H' xs ps := Reps.more nR _ _ (rs.sm s2)
      refine lc2_out (walk_tup (xs := xs)) (fun i H3 => Same H' H3 ∧ ∃ acc, H3 R = some (.lst acc) ∧ Reps (R :: S) H3 acc ((ps.take i).flatMap itemsD)) ⟨same_new nR, [], upd_same, .nil⟩ (fun i H3 _ p => SqT.of (p.1 _ _ (s2 _ _ ha))) ?_ ?_
      · rintro i x H3 H3' hi ⟨s3, acc, hR, rA⟩ ⟨rfl, hx⟩
        obtain ⟨p, hp, rp⟩ := rsR.get hx
        have pm := List.mem_of_getElem? hp
        obtain ⟨rows, rfl, l5⟩ := all5 p pm
        obtain ⟨b, ys, rfl, hb, _, rb⟩ := rp.tupV
        have ip : i < ps.length := (List.getElem?_eq_some_iff.mp hp).1
        have accl : acc.length ≤ 5 * i := by
          rw [rA.length, List.length_flatMap]
          have key : ∀ l : List PyData, (∀ p ∈ l, ∃ rows, p = .tuple rows ∧ rows.length ≤ 5) → (l.map fun p => (itemsD p).length).sum ≤ 5 * l.length := by
            intro l
            induction l with
            | nil => intro _; simp
            | cons q l ih =>
              intro h
              obtain ⟨rows, rfl, h5⟩ := h _ List.mem_cons_self
              have := ih fun p hp => h p (List.mem_cons_of_mem _ hp)
              rw [List.map_cons, List.sum_cons]
              show rows.length + (l.map fun p => (itemsD p).length).sum ≤ 5 * (l.length + 1)
              omega
          have := key (ps.take i) fun p hp => all5 p (List.mem_of_mem_take hp)
          rw [List.length_take] at this
          omega
        refine ⟨rfl, _, rfl, b, rfl, ⟨_, SqT.of (s3 _ _ hb)⟩, ?_⟩
        refine lc2_in (walk_tup (xs := ys)) (fun j H4 => Same H' H4 ∧ ∃ acc', H4 R = some (.lst acc') ∧ Reps (R :: S) H4 acc' ((ps.take i).flatMap itemsD ++ rows.take j)) ⟨s3, acc, hR, by rw [List.take_zero, List.append_nil]; exact rA⟩ (fun j H4 _ p => SqT.of (p.1 _ _ hb)) ?_ ?_
        · rintro j y H4 H4' hj ⟨s4, acc', hR4, rA4⟩ ⟨rfl, hy⟩
          obtain ⟨q, hq, rq⟩ := (rb.sm s4).get hy
          have lb := rb.length
          have l4 : acc'.length < sizeLine := by
            rw [rA4.length, List.length_append, ← rA.length, List.length_take, sizeLine_eq]
            omega
          have bu : But (R :: S) H4' (upd H4' R (.lst (acc' ++ [y]))) := But.refl.upd List.mem_cons_self
          refine ⟨rfl, y, rfl, acc', hR4, l4, ?_, acc' ++ [y], upd_same, ?_⟩
          · intro b' o e
            rw [upd_ne (ne_of_none e nR)]
            exact s4 _ _ e
          · rw [List.take_succ, hq, ← List.append_assoc]
            exact (rA4.app (.one rq)).mv bu
        · rintro H4 ⟨s4, acc', hR4, rA4⟩
          refine ⟨s4, acc', hR4, ?_⟩
          rw [rb.length, List.take_length] at rA4
          rw [List.take_succ, hp, List.flatMap_append]
          simpa [itemsD] using rA4
      · rintro H3 ⟨s3, acc, hR, rA⟩
        rw [rs.length, List.take_length] at rA
        have s23 := s2.trans s3
        have rA' : Reps S H3 acc (rowsOfD (.tuple ps)) := rA.less fun b z => List.mem_cons_of_mem _ z
        have pb : partsB (.tuple ps) = (decide (((rowsOfD (.tuple ps)).length : Int) ≤ 12) && ((rowsOfD (.tuple ps)).all (fun r => rowB r (ps.length : Int)) && decide ((((rowsOfD (.tuple ps)).filter fun r => decide (strOf (nthD r 0) = "out")).length : Int) ≤ 2))) := by
          unfold partsB
          rw [c]
          show (true && (ps.all (fun p => tupB p 0 5) && _)) = _
          rw [show ps.all (fun p => tupB p 0 5) = true from List.all_eq_true.mpr fun p hp => by
            obtain ⟨rows, rfl, h5⟩ := all5 p hp
            show (true && (decide (0 ≤ (rows.length : Int)) && decide ((rows.length : Int) ≤ 5))) = true
            rw [decide_eq_true (by omega), decide_eq_true (by omega)]
            rfl]
          rfl
        rw [pb] at k
        clear pb rA all5 c p1
        generalize rowsOfD (.tuple ps) = rows at rA' k
        refine ⟨_, rfl, R, acc, rfl, .inl (SqL.of hR), _, _, rfl, rfl, _, rfl, ?_⟩
        rw [rA'.length]
        refine ite2 (fun c => iteT ?_) (fun c => ?_)
        · have c12 : 12 < (rows.length : Int) := of_decide_eq_true c
          have e := k H3 s23
          rwa [show decide ((rows.length : Int) ≤ 12) = false from decide_eq_false (by omega)] at e
        have c12 : ¬ 12 < (rows.length : Int) := fun z => c (decide_eq_true z)
        rw [show decide ((rows.length : Int) ≤ 12) = true from decide_eq_true (by omega)] at k
        refine ⟨_, rfl, R, rfl, ⟨_, SqL.of hR⟩, fun D nD => ?_⟩
        refine lc_pure (walk_list (xs := acc)) nD (fun i => V.bl ((fun r => rowB r (ps.length : Int)) (rows.getD i .none))) (by rw [rA'.length, sizeLine_eq]; omega) (fun H4 s4 => SqL.of (s4 _ _ hR)) ?_ ?_
        · rintro i x H4 H4' F hi s4 ⟨rfl, hx⟩ fin
          obtain ⟨d1, e1, r1⟩ := rA'.get hx
          rw [getD_of e1] at fin
          refine ⟨rfl, _, rfl, _, rfl, a, xs, rfl, .inr (SqT.of (s4 _ _ (s23 _ _ ha))), ?_⟩
          rw [rs.length]
          exact ⟨x, S, d1, _, rfl, r1.sm s4, fun H5 s5 => fin H5 s5⟩
        · intro H4 s4 hD
          have e2 : (List.range acc.length).map (fun i => V.bl ((fun r => rowB r (ps.length : Int)) (rows.getD i .none))) = ((List.range rows.length).map fun i => (fun r => rowB r (ps.length : Int)) (rows.getD i .none)).map V.bl := by rw [rA'.length, bl_map (fun i => (fun r => rowB r (ps.length : Int)) (rows.getD i .none))]
          rw [e2] at hD
          refine ⟨D, _, rfl, SqL.of hD, ?_⟩
          rw [range_all (fun r => rowB r (ps.length : Int))]
          refine ⟨_, rfl, ?_⟩
          refine ite2 (fun c2 => ?_) (fun c2 => ?_)
          · have e := k H4 (s23.trans s4)
            rwa [show rows.all (fun r => rowB r (ps.length : Int)) = false from nbF c2] at e
          replace c2 := nbT c2
          rw [c2] at k
          clear hD e2 nD
          have hR4 := s4 _ _ hR
          have rA4 := rA'.sm s4
          have s24 := s23.trans s4
          refine ⟨_, rfl, R, rfl, ⟨_, SqL.of hR4⟩, fun D nD => ?_⟩
          refine lc_it (walk_list (xs := acc)) (fun i H5 => Same H4 H5 ∧ ∃ kept, H5 D = some (.lst kept) ∧ kept.length = ((rows.take i).filter fun r => decide (strOf (nthD r 0) = "out")).length) ⟨same_new nD, [], upd_same, rfl⟩ (fun i H5 _ p => SqL.of (p.1 _ _ hR4)) ?_ ?_
          · rintro i x H5 H5' hi ⟨s5, kept, hD5, kl⟩ ⟨rfl, hx⟩
            obtain ⟨d1, e1, r1⟩ := (rA4.sm s5).get hx
            have rb := List.all_eq_true.mp c2 d1 (List.mem_of_getElem? e1)
            have wb : wordB d1 = true := by
              unfold rowB at rb
              exact (Bool.and_eq_true_iff.mp rb).1
            unfold wordB at wb
            rw [Bool.and_eq_true, Bool.and_eq_true, decide_eq_true_eq] at wb
            obtain ⟨wt, wl, ws⟩ := wb
            obtain ⟨ws', rfl⟩ := tup_of wt
            obtain ⟨t, tv, rfl, ht, _, rt⟩ := r1.tupV
            have wl' : 0 < (ws'.length : Int) := wl
            obtain ⟨w0, hw0⟩ : ∃ x, tv[0]? = some x := ⟨_, List.getElem?_eq_getElem (by rw [rt.length]; omega)⟩
            obtain ⟨d0, e0, r0⟩ := rt.get hw0
            have n0 : nthD (.tuple ws') 0 = d0 := getD_of e0
            rw [n0] at ws
            obtain ⟨wd, rfl⟩ := str_of ws
            obtain rfl := r0.strV
            have tk : (rows.take (i + 1)).filter (fun r => decide (strOf (nthD r 0) = "out")) = (rows.take i).filter (fun r => decide (strOf (nthD r 0) = "out")) ++ (if wd = "out" then [.tuple ws'] else []) := by
              rw [List.take_succ, e1, List.filter_append]
              congr 1
              show List.filter _ [PyData.tuple ws'] = _
              by_cases q : wd = "out"
              · rw [if_pos q, List.filter_cons_of_pos (by show decide (strOf (nthD (.tuple ws') 0) = "out") = true; rw [n0]; exact decide_eq_true q), List.filter_nil]
              · rw [if_neg q, List.filter_cons_of_neg (by show ¬ decide (strOf (nthD (.tuple ws') 0) = "out") = true; rw [n0]; exact fun z => q (of_decide_eq_true z)), List.filter_nil]
            have kk_ : kept.length ≤ i := by
              rw [kl]
              refine Nat.le_trans (List.length_filter_le _ _) ?_
              rw [List.length_take]
              omega
            have il : i < rows.length := (List.getElem?_eq_some_iff.mp e1).1
            refine ⟨rfl, _, rfl, t, tv, 0, _, rfl, rfl, SqT.of ht, atI_nat (j := 0) hw0, rfl, _, rfl, ?_⟩
            refine ite2 (fun q => ?_) (fun q => ?_)
            · refine ⟨_, rfl, kept, hD5, by rw [sizeLine_eq]; omega, fun b o e => ?_, _, upd_same, ?_⟩
              · rw [upd_ne (ne_of_none e nD)]
                exact s5 _ _ e
              · rw [tk, if_pos (by simpa using q), List.length_append, List.length_append, kl]
                rfl
            · refine ⟨s5, kept, hD5, ?_⟩
              rw [tk, if_neg (by simpa using q), List.append_nil]
              exact kl
          · rintro H5 ⟨s5, kept, hD5, kl⟩
            rw [rA'.length, List.take_length] at kl
            refine ⟨D, kept, rfl, .inl (SqL.of hD5), _, _, rfl, rfl, ?_⟩
            rw [kl]
            exact k H5 (s24.trans s5)
def sp_are_marks : Sp := fun vs H Q _ => ∃ (v : V) (S : List Addr) (d : PyData) (n : Int), vs = [v, .int n] ∧ Rep S H v d ∧ n ≤ 100 ∧ ∀ H', Same H H' → Q (.bl (marksB d n)) H'
theorem ok_are_marks (T : Txt K w mg A) : FnOk Pg w K mg base CX0 2 A.f_are_marks A.d_are_marks ["thing", "many_parts"] (sp_are_marks) := by
  refine T.F_are_marks.ok sc_are_marks (fun vs H Q E h => ?_) (fun cdv Ar outer s H vs Q E hr h => ?_)
  · obtain ⟨v, S, d, n, rfl, r, m100, k⟩ := h
    rfl
  · obtain ⟨v, S, d, n, rfl, r, m100, k⟩ := h
    refine ⟨_, PSs.nox ((pss_one (ps_ret (pe_and (pe_call (ok_is_tuple T) hr rfl T.m_is_tuple T.F_is_tuple.kp (b_is_tuple T) .nil pass0 (pa_cons (pv 0) (pa_cons (pv 1) (pa_cons (pv 1) pa_nil)))) (pe_one (pe_callB (cr_all rfl) (by rfl) T.zall (by decide +kernel) (pa_cons (pe_lc (own := [("mark", 2)]) (g := (gName 2)) (tt := tYes) rfl sc_are_marks.nd (pi_tup (pv 0)) (blkOk_by (N := N_are_marks) (sc := defScope s_are_marks) (by decide +kernel)) (fun _ _ _ _ _ => (pg_name (i := 2) sc_are_marks.nd rfl (Or.inl rfl))) (fun _ _ _ _ _ => pts_nil) (fun _ _ _ _ _ => (pe_callB call_isiD (by rfl) T.zisinstance (by decide +kernel) (pa_cons (pv 2) (pa_cons (pe_bltn (v := .ty "bool") (by rfl) T.zbool (by decide +kernel) rfl) pa_nil))))) pa_nil))))))), ?_⟩
    rw [show start N_are_marks [v, .int n] = [some (v), some (.int n), none] from rfl]
    refine ⟨_, rfl, _, rfl, _, rfl, v, S, d, n, n, rfl, r, fun H1 s1 => ⟨_, rfl, ?_⟩⟩
    refine ite2 (fun c => ?_) (fun c => ?_)
    · obtain ⟨ds, rfl, h1, h2⟩ := tupB_len c
      obtain ⟨a, xs, rfl, ha, _, rs⟩ := r.tupV
      refine ⟨_, rfl, a, rfl, ⟨_, SqT.of (s1 _ _ ha)⟩, fun D nD => ?_⟩
      refine lc_pure (walk_tup (xs := xs)) nD (fun i => V.bl (isBl (ds.getD i .none))) (by rw [rs.length, sizeLine_eq]; omega) (fun H' s' => SqT.of (s' _ _ (s1 _ _ ha))) ?_ ?_
      · rintro i x H' H'' F hi s' ⟨rfl, hx⟩ fin
        obtain ⟨d1, e1, r0⟩ := rs.get hx
        have r1 := r0.sm (s1.trans s')
        refine ⟨rfl, ?_⟩
        rw [getD_of e1] at fin
        exact ⟨_, rfl, x, "bool", S, d1, _, rfl, r1, kit_bool d1, fin _ (.refl _)⟩
      · intro H' s' hD
        have e2 : (List.range xs.length).map (fun i => V.bl (isBl (ds.getD i .none))) = ((List.range ds.length).map fun i => isBl (ds.getD i .none)).map V.bl := by rw [rs.length, bl_map (fun i => isBl (ds.getD i .none))]
        rw [e2] at hD
        refine ⟨D, _, rfl, SqL.of hD, ?_⟩
        rw [range_all (fun z => isBl z)]
        have e := k H' (s1.trans s')
        rwa [show marksB (.tuple ds) n = ds.all (fun z => isBl z) by simp [marksB, c, itemsD]] at e
    · have e := k H1 s1
      rwa [show marksB d n = false by simp [marksB, c]] at e
def sp_are_entries : Sp := fun vs H Q _ => ∃ (v : V) (S : List Addr) (d : PyData) (n : Int), vs = [v, .int n] ∧ Rep S H v d ∧ ∀ H', Same H H' → Q (.bl (entriesB d n)) H'
theorem ok_are_entries (T : Txt K w mg A) : FnOk Pg w K mg base CX0 3 A.f_are_entries A.d_are_entries ["thing", "many_parts"] (sp_are_entries) := by
  refine T.F_are_entries.ok sc_are_entries (fun vs H Q E h => ?_) (fun cdv Ar outer s H vs Q E hr h => ?_)
  · obtain ⟨v, S, d, n, rfl, r, k⟩ := h
    rfl
  · obtain ⟨v, S, d, n, rfl, r, k⟩ := h
    obtain ⟨t_MOST_ENTRIES, c_MOST_ENTRIES⟩ := T.i_MOST_ENTRIES
    refine ⟨_, PSs.nox ((pss_cons (ps_if (PW.pt (pw_or (pt_not (pt_val (pe_call (ok_is_tuple T) (hr.mono (by decide)) rfl T.m_is_tuple T.F_is_tuple.kp (b_is_tuple T) .nil pass0 (pa_cons (pv 0) (pa_cons pe_int (pa_cons (pe_glob (v := .int (3)) (by rfl) c_MOST_ENTRIES ⟨_, rfl⟩) pa_nil)))))) (pw_or1 (pt_not (pt_val (pe_callB (cr_all rfl) (by rfl) T.zall (by decide +kernel) (pa_cons (pe_lc (own := [("part", 2)]) (g := (gName 2)) (tt := tYes) rfl sc_are_entries.nd (pi_tup (pv 0)) (blkOk_by (N := N_are_entries) (sc := defScope s_are_entries) (by decide +kernel)) (fun _ _ _ _ _ => (pg_name (i := 2) sc_are_entries.nd rfl (Or.inl rfl))) (fun _ _ _ _ _ => pts_nil) (fun _ _ _ _ _ => (pe_call (ok_is_number T) hr rfl T.m_is_number T.F_is_number.kp (b_is_number T) .nil pass0 (pa_cons (pv 2) (pa_cons (pv 1) pa_nil))))) pa_nil))))))) (pss_one (ps_ret pe_bl)) pss_nil)
 (pss_one (ps_ret (pe_call (ok_is_ascending T) (hr.mono (by decide)) rfl T.m_is_ascending T.F_is_ascending.kp (b_is_ascending T) .nil pass0 (pa_cons (pv 0) pa_nil)))))), ?_⟩
    rw [show start N_are_entries [v, .int n] = [some (v), some (.int n), none] from rfl]
    refine ⟨_, rfl, v, S, d, 1, 3, rfl, r, fun H1 s1 => ⟨_, rfl, ?_⟩⟩
    refine ite2 (fun c => iteT ?_) (fun c => ?_)
    · have e := k H1 s1
      rwa [show entriesB d n = false by unfold entriesB; rw [nbF c]; rfl] at e
    replace c := nbT c
    obtain ⟨ds, rfl, h1, h2⟩ := tupB_len c
    obtain ⟨a, xs, rfl, ha, _, rs⟩ := r.tupV
    
    refine ⟨_, rfl, a, rfl, ⟨_, SqT.of (s1 _ _ ha)⟩, fun D nD => ?_⟩
    refine lc_pure (walk_tup (xs := xs)) nD (fun i => V.bl ((fun z => numB z n) (ds.getD i .none))) (by rw [rs.length, sizeLine_eq]; omega) (fun H' s' => SqT.of (s' _ _ (s1 _ _ ha))) ?_ ?_
    · rintro i x H' H'' F hi s' ⟨rfl, hx⟩ fin
      obtain ⟨d1, e1, r0⟩ := rs.get hx
      have r1 := r0.sm (s1.trans s')
      refine ⟨rfl, ?_⟩
      rw [getD_of e1] at fin
      exact ⟨_, rfl, _, rfl, x, S, d1, n, rfl, r1, fun H3 s3 => fin H3 s3⟩
    · intro H' s' hD
      have e2 : (List.range xs.length).map (fun i => V.bl ((fun z => numB z n) (ds.getD i .none))) = ((List.range ds.length).map fun i => (fun z => numB z n) (ds.getD i .none)).map V.bl := by rw [rs.length, bl_map (fun i => (fun z => numB z n) (ds.getD i .none))]
      rw [e2] at hD
      refine ⟨D, _, rfl, SqL.of hD, ?_⟩
      rw [range_all (fun z => (fun z => numB z n) z)]
    
      refine ⟨_, rfl, ?_⟩
      refine ite2 (fun c2 => ?_) (fun c2 => ?_)
      · have e := k H' (s1.trans s')
        rwa [show entriesB (.tuple ds) n = false by
          unfold entriesB
          rw [c]
          show (true && (ds.all (fun x => numB x n) && _)) = false
          rw [nbF c2]
          rfl] at e
      replace c2 := nbT c2
      have allI : ∀ d ∈ ds, ∃ i, d = .int i := fun d hd => by
        have z := List.all_eq_true.mp c2 d hd
        exact int_of (Bool.and_eq_true_iff.mp z).1
      refine ⟨_, rfl, .ref a, S, ds, rfl, r.sm (s1.trans s'), by omega, fun d hd e he => ?_, fun d hd => ?_, fun H4 s4 => ?_⟩
      · obtain ⟨i, rfl⟩ := allI d hd
        obtain ⟨j, rfl⟩ := allI e he
        simp [PySem.W.alike]
      · obtain ⟨i, rfl⟩ := allI d hd
        exact ⟨(fun z => nomatch z), by simp [PyData.depth], rfl⟩
      · have e := k H4 (s1.trans (s'.trans s4))
        rwa [show entriesB (.tuple ds) n = ascB ds by
          unfold entriesB
          rw [c]
          show (true && (ds.all (fun x => numB x n) && _)) = _
          rw [c2]
          rfl] at e
def sp_are_opens : Sp := fun vs H Q _ => ∃ (v : V) (S : List Addr) (d : PyData) (n : Int), vs = [v, .int n] ∧ Rep S H v d ∧ ∀ H', Same H H' → Q (.bl (opensB d n)) H'
theorem ok_are_opens (T : Txt K w mg A) : FnOk Pg w K mg base CX0 5 A.f_are_opens A.d_are_opens ["thing", "many_parts"] (sp_are_opens) := by
  refine T.F_are_opens.ok sc_are_opens (fun vs H Q E h => ?_) (fun cdv Ar outer s H vs Q E hr h => ?_)
  · obtain ⟨v, S, d, n, rfl, r, k⟩ := h
    rfl
  · obtain ⟨v, S, d, n, rfl, r, k⟩ := h
    obtain ⟨t_MOST_OPENS, c_MOST_OPENS⟩ := T.i_MOST_OPENS
    refine ⟨_, PSs.nox ((pss_one (ps_ret (pe_and (pe_call (ok_are_needs T) hr rfl T.m_are_needs T.F_are_needs.kp (b_are_needs T) .nil pass0 (pa_cons (pv 0) (pa_cons (pv 1) (pa_cons (pe_glob (v := .int (4)) (by rfl) c_MOST_OPENS ⟨_, rfl⟩) pa_nil)))) (pe_one (pe_call (ok_is_ascending T) (hr.mono (by decide)) rfl T.m_is_ascending T.F_is_ascending.kp (b_is_ascending T) .nil pass0 (pa_cons (pv 0) pa_nil))))))), ?_⟩
    rw [show start N_are_opens [v, .int n] = [some (v), some (.int n)] from rfl]
    refine ⟨_, rfl, _, rfl, v, S, d, n, 4, rfl, r, by decide, fun H1 s1 => ⟨_, rfl, ?_⟩⟩
    refine ite2 (fun c => ?_) (fun c => ?_)
    · have cc := c
      unfold needsB at cc
      rw [Bool.and_eq_true] at cc
      obtain ⟨ds, rfl, h1, h2⟩ := tupB_len cc.1
      have nms : ∀ d ∈ ds, ∃ i x, d = .tuple [.int i, .str x] := fun d hd => by
        have z := List.all_eq_true.mp cc.2 d hd
        unfold needB at z
        rw [Bool.and_eq_true, Bool.and_eq_true] at z
        obtain ⟨es, rfl, l1, l2⟩ := tupB_len z.1
        obtain ⟨x, y, rfl⟩ := len2 l1 l2
        obtain ⟨i, hi⟩ := int_of (Bool.and_eq_true_iff.mp z.2.1).1
        obtain ⟨w, hw⟩ := str_of (Bool.and_eq_true_iff.mp z.2.2).1
        have ex : x = .int i := hi
        have ey : y = .str w := hw
        exact ⟨i, w, by rw [ex, ey]⟩
      refine ⟨_, rfl, v, S, ds, rfl, r.sm s1, by omega, fun d hd e he => ?_, fun d hd => ?_, fun H4 s4 => ?_⟩
      · obtain ⟨i, x, rfl⟩ := nms d hd
        obtain ⟨j, y, rfl⟩ := nms e he
        simp [PySem.W.alike, PySem.W.alikeAll]
      · obtain ⟨i, x, rfl⟩ := nms d hd
        exact ⟨(fun z => nomatch z), by simp [PyData.depth, PyData.depthAll], rfl⟩
      · have e := k H4 (s1.trans s4)
        rwa [show opensB (.tuple ds) n = ascB ds by
          unfold opensB
          rw [c]
          rfl] at e
    · have e := k H1 s1
      rwa [show opensB d n = false by unfold opensB; rw [bF c]; rfl] at e
def sp_is_program : Sp := fun vs H Q _ => ∃ (v : V) (S : List Addr) (d : PyData), vs = [v] ∧ Rep S H v d ∧ ∀ H', Same H H' → Q (.bl (progB d)) H'
theorem ok_is_program (T : Txt K w mg A) : FnOk Pg w K mg base CX0 8 A.f_is_program A.d_is_program ["thing"] (sp_is_program) := by
  refine T.F_is_program.ok sc_is_program (fun vs H Q E h => ?_) (fun cdv Ar outer s H vs Q E hr h => ?_)
  · obtain ⟨v, S, d, rfl, r, k⟩ := h
    rfl
  · obtain ⟨v, S, d, rfl, r, k⟩ := h
    refine ⟨_, PSs.nox ((pss_cons (ps_if (PW.pt (pw_or (pt_not (pt_val (pe_call (ok_is_tuple T) (hr.mono (by decide)) rfl T.m_is_tuple T.F_is_tuple.kp (b_is_tuple T) .nil pass0 (pa_cons (pv 0) (pa_cons pe_int (pa_cons pe_int pa_nil)))))) (pw_or1 (pt_not (pt_val (pe_call (ok_are_parts T) hr rfl T.m_are_parts T.F_are_parts.kp (b_are_parts T) .nil pass0 (pa_cons (pe_ix ix_tup (pv 0) pe_int (fun _ _ => rfl)) pa_nil))))))) (pss_one (ps_ret pe_bl)) pss_nil)
 (pss_cons (ps_set (i := 1) sc_is_program.nd rfl (Or.inl rfl) (pe_callB call_len_seq (by rfl) T.zlen (by decide +kernel) (pa_cons (pe_ix ix_tup (pv 0) pe_int (fun _ _ => rfl)) pa_nil)))
 (pss_one (ps_ret (pe_and (pe_call (ok_are_marks T) (hr.mono (by decide)) rfl T.m_are_marks T.F_are_marks.kp (b_are_marks T) .nil pass0 (pa_cons (pe_ix ix_tup (pv 0) pe_int (fun _ _ => rfl)) (pa_cons (pv 1) pa_nil))) (pe_and (pe_call (ok_are_entries T) (hr.mono (by decide)) rfl T.m_are_entries T.F_are_entries.kp (b_are_entries T) .nil pass0 (pa_cons (pe_ix ix_tup (pv 0) pe_int (fun _ _ => rfl)) (pa_cons (pv 1) pa_nil))) (pe_one (pe_call (ok_are_opens T) (hr.mono (by decide)) rfl T.m_are_opens T.F_are_opens.kp (b_are_opens T) .nil pass0 (pa_cons (pe_ix ix_tup (pv 0) pe_int (fun _ _ => rfl)) (pa_cons (pv 1) pa_nil))))))))))), ?_⟩
    rw [show start N_is_program [v] = [some (v), none] from rfl]
    refine ⟨_, rfl, v, S, d, 4, 4, rfl, r, fun H1 s1 => ⟨_, rfl, ?_⟩⟩
    refine ite2 (fun c => iteT ?_) (fun c => ?_)
    · have e := k H1 s1
      rwa [show progB d = false by unfold progB; rw [nbF c]; rfl] at e
    replace c := nbT c
    obtain ⟨ds, rfl, h1, h2⟩ := tupB_len c
    obtain ⟨x, y, z, u, rfl⟩ := len4 (by omega : (ds.length : Int) = 4)
    obtain ⟨a, p, q, s', t, rfl, ha, rp, rq, rz, ru⟩ := r.four
    have pb : progB (.tuple [x, y, z, u]) = (partsB x && (marksB y ((itemsD x).length : Int) && (entriesB z ((itemsD x).length : Int) && opensB u ((itemsD x).length : Int)))) := by
      unfold progB
      rw [c]
      rfl
    rw [pb] at k
    refine ⟨_, rfl, a, _, 0, _, rfl, rfl, SqT.of (s1 _ _ ha), atI_nat (j := 0) rfl, p, S, x, rfl, rp.sm s1, fun H2 s2 => ⟨_, rfl, ?_⟩⟩
    have s12 := s1.trans s2
    refine ite2 (fun c2 => ?_) (fun c2 => ?_)
    · have e := k H2 s12
      rwa [nbF c2] at e
    replace c2 := nbT c2
    rw [c2] at k
    have x4 : ∃ ps, x = .tuple ps ∧ ps.length ≤ 4 := by
      have z := c2
      unfold partsB at z
      rw [Bool.and_eq_true] at z
      obtain ⟨ps, e, _, h4⟩ := tupB_len z.1
      exact ⟨ps, e, by omega⟩
    obtain ⟨ps, rfl, l4⟩ := x4
    obtain ⟨b, xs, rfl, hb, _, rs⟩ := rp.tupV
    refine ⟨_, rfl, a, _, 0, _, rfl, rfl, SqT.of (s12 _ _ ha), atI_nat (j := 0) rfl, b, xs, rfl, .inr (SqT.of (s12 _ _ hb)), ?_⟩
    rw [rs.length]
    have e0 : ((itemsD (.tuple ps)).length : Int) = (ps.length : Int) := rfl
    rw [e0] at k
    refine ⟨_, rfl, a, _, 1, _, rfl, rfl, SqT.of (s12 _ _ ha), atI_nat (j := 1) rfl, _, rfl, q, S, y, _, rfl, rq.sm s12, by omega, fun H3 s3 => ⟨_, rfl, ?_⟩⟩
    have s13 := s12.trans s3
    refine ite2 (fun c3 => ?_) (fun c3 => ?_)
    · rw [c3] at k
      refine ⟨_, rfl, a, _, 2, _, rfl, rfl, SqT.of (s13 _ _ ha), atI_nat (j := 2) rfl, _, rfl, s', S, z, _, rfl, rz.sm s13, fun H4 s4 => ⟨_, rfl, ?_⟩⟩
      have s14 := s13.trans s4
      refine ite2 (fun c4 => ?_) (fun c4 => ?_)
      · rw [c4] at k
        refine ⟨_, rfl, a, _, 3, _, rfl, rfl, SqT.of (s14 _ _ ha), atI_nat (j := 3) rfl, _, rfl, t, S, u, _, rfl, ru.sm s14, fun H5 s5 => k H5 (s14.trans s5)⟩
      · have e := k H4 s14
        rwa [bF c4] at e
    · have e := k H3 s13
      rwa [bF c3] at e
def sp_demand_program : Sp := fun vs H Q _ => ∃ (v : V) (S : List Addr) (d : PyData), vs = [v] ∧ Rep S H v d ∧ progB d = true ∧ ∀ H', Same H H' → Q .non H'
theorem ok_demand_program (T : Txt K w mg A) : FnOk Pg w K mg base CX0 9 A.f_demand_program A.d_demand_program ["thing"] (sp_demand_program) := by
  refine T.F_demand_program.ok sc_demand_program (fun vs H Q E h => ?_) (fun cdv Ar outer s H vs Q E hr h => ?_)
  · obtain ⟨v, S, d, rfl, r, ok, k⟩ := h
    rfl
  · obtain ⟨v, S, d, rfl, r, ok, k⟩ := h
    refine ⟨_, PSs.nox ((pss_one (ps_if (pt_not (pt_val (pe_call (ok_is_program T) hr rfl T.m_is_program T.F_is_program.kp (b_is_program T) .nil pass0 (pa_cons (pv 0) pa_nil)))) (pss_one ps_never) pss_nil))), ?_⟩
    rw [show start N_demand_program [v] = [some (v)] from rfl]
    refine ⟨_, rfl, v, S, d, rfl, r, fun H1 s1 => ⟨_, rfl, ?_⟩⟩
    rw [ok]
    exact k H1 s1
def sp_is_place : Sp := fun vs H Q _ => ∃ (pr v : V) (S : List Addr) (P d : PyData), vs = [pr, v] ∧ Rep S H pr P ∧ progB P = true ∧ Rep S H v d ∧ ∀ H', Same H H' → Q (.bl (placeB P d)) H'
theorem ok_is_place (T : Txt K w mg A) : FnOk Pg w K mg base CX0 3 A.f_is_place A.d_is_place ["program", "thing"] (sp_is_place) := by
  refine T.F_is_place.ok sc_is_place (fun vs H Q E h => ?_) (fun cdv Ar outer s H vs Q E hr h => ?_)
  · obtain ⟨pr, v, S, P, d, rfl, rP, okp, r, k⟩ := h
    rfl
  · obtain ⟨pr, v, S, P, d, rfl, rP, okp, r, k⟩ := h
    refine ⟨_, PSs.nox ((pss_cons (ps_set (i := 2) sc_is_place.nd rfl (Or.inl rfl) (pe_ix ix_tup (pv 0) pe_int (fun _ _ => rfl)))
 (pss_one (ps_ret (pe_and (pe_call (ok_is_tuple T) (hr.mono (by decide)) rfl T.m_is_tuple T.F_is_tuple.kp (b_is_tuple T) .nil pass0 (pa_cons (pv 1) (pa_cons pe_int (pa_cons pe_int pa_nil)))) (pe_and (pe_call (ok_is_number T) hr rfl T.m_is_number T.F_is_number.kp (b_is_number T) .nil pass0 (pa_cons (pe_ix ix_tup (pv 1) pe_int (fun _ _ => rfl)) (pa_cons (pe_callB call_len_seq (by rfl) T.zlen (by decide +kernel) (pa_cons (pv 2) pa_nil)) pa_nil))) (pe_one (pe_call (ok_is_number T) hr rfl T.m_is_number T.F_is_number.kp (b_is_number T) .nil pass0 (pa_cons (pe_ix ix_tup (pv 1) pe_int (fun _ _ => rfl)) (pa_cons (pe_callB call_len_seq (by rfl) T.zlen (by decide +kernel) (pa_cons (pe_ix ix_tup (pv 2) (pe_ix ix_tup (pv 1) pe_int (fun _ _ => rfl)) (fun _ _ => rfl)) pa_nil)) pa_nil)))))))))), ?_⟩
    rw [show start N_is_place [pr, v] = [some (pr), some (v), none] from rfl]
    obtain ⟨ps, m, es, o, rfl, F⟩ := prog_of okp
    obtain ⟨a, p, q, s', t, rfl, ha, rp, rq, rz, ru⟩ := rP.four
    obtain ⟨b, xs, rfl, hb, _, rs⟩ := rp.tupV
    
    refine ⟨_, rfl, a, _, 0, _, rfl, rfl, SqT.of (ha), atI_nat (j := 0) rfl, _, rfl, v, S, d, 2, 2, rfl, r, fun H1 s1 => ⟨_, rfl, ?_⟩⟩
    have e0 : itemsD (nthD (.tuple [.tuple ps, m, .tuple es, o]) 0) = ps := rfl
    unfold placeB at k
    rw [e0] at k
    refine ite2 (fun c => ?_) (fun c => ?_)
    · rw [c] at k
      obtain ⟨ds, rfl, h1, h2⟩ := tupB_len c
      obtain ⟨x, y, rfl⟩ := len2 h1 h2
      obtain ⟨a2, p2, q2, rfl, ha2, rp2, rq2⟩ := r.two
      have k2 : ∀ H', Same H H' → Q (.bl (numB x (ps.length : Int) && numB y ((itemsD (partD (.tuple [.tuple ps, m, .tuple es, o]) (valI x).toNat)).length : Int))) H' := k
      refine ⟨_, rfl, a2, _, 0, _, rfl, rfl, SqT.of (s1 _ _ ha2), atI_nat (j := 0) rfl, _, rfl, b, xs, rfl, .inr (SqT.of (s1 _ _ hb)), p2, S, x, _, rfl, rp2.sm s1, fun H2 s2 => ⟨_, rfl, ?_⟩⟩
      rw [rs.length]
      refine ite2 (fun c2 => ?_) (fun c2 => ?_)
      · rw [c2] at k2
        obtain ⟨i, rfl, i0, i1⟩ := numB_iff.mp c2
        obtain rfl := rp2.intV
        have s12 := s1.trans s2
        have ei : i = ((i.toNat : Nat) : Int) := (Int.toNat_of_nonneg i0).symm
        obtain ⟨z, hz⟩ : ∃ z, ps[i.toNat]? = some z := ⟨_, List.getElem?_eq_getElem (by omega)⟩
        obtain ⟨rows, rfl, l5⟩ := F.five z (List.mem_of_getElem? hz)
        obtain ⟨zv, hzv, rz2⟩ := rs.at_ hz
        obtain ⟨c3, zs, rfl, hc3, _, rb⟩ := rz2.tupV
        have ep : partD (.tuple [.tuple ps, m, .tuple es, o]) i.toNat = .tuple rows := getD_of hz
        have at_i : atI xs i = some (.ref c3) := by
          rw [ei]
          exact atI_nat hzv
        refine ⟨_, rfl, a2, _, 1, _, rfl, rfl, SqT.of (s12 _ _ ha2), atI_nat (j := 1) rfl, _, rfl, _, rfl, a2, _, 0, _, rfl, rfl, SqT.of (s12 _ _ ha2), atI_nat (j := 0) rfl, b, xs, i, _, rfl, rfl, SqT.of (s12 _ _ hb), at_i, c3, zs, rfl, .inr (SqT.of (s12 _ _ hc3)), q2, S, y, _, rfl, rq2.sm s12, fun H3 s3 => ?_⟩
        have e := k2 H3 (s12.trans s3)
        rw [show valI (.int i) = i from rfl, ep] at e
        rw [rb.length]
        exact e
      · have e := k2 H2 (s1.trans s2)
        rwa [bF c2] at e
    · have e := k H1 s1
      rwa [bF c] at e
def sp_doors_of : Sp := fun vs H Q _ => ∃ (v : V) (S : List Addr) (d : PyData), vs = [v] ∧ Rep S H v d ∧ progB d = true ∧ ∀ (H' : Hp) (p : Addr) (ns : List Int), Same H H' → H p = none → H' p = some (.lst (ns.map V.int)) → ns.Pairwise (· < ·) → (∀ k, k ∈ ns ↔ k ∈ doorsD d) → ns.length ≤ 15 → Q (.ref p) H'
theorem ok_doors_of (T : Txt K w mg A) : FnOk Pg w K mg base CX0 10 A.f_doors_of A.d_doors_of ["program"] (sp_doors_of) := by
  refine T.F_doors_of.ok sc_doors_of (fun vs H Q E h => ?_) (fun cdv Ar outer s H vs Q E hr h => ?_)
  · obtain ⟨v, S, d, rfl, r, ok, k⟩ := h
    rfl
  · obtain ⟨v, S, d, rfl, r, ok, k⟩ := h
    obtain ⟨t_NO_PART, c_NO_PART⟩ := T.i_NO_PART
    refine ⟨_, PSs.nox ((pss_cons (ps_expr (pe_call (ok_demand_program T) hr rfl T.m_demand_program T.F_demand_program.kp (b_demand_program T) .nil pass0 (pa_cons (pv 0) pa_nil)))
 (pss_cons (ps_setLc2 (i := 1) (own := [("rows", 2), ("row", 3)]) (vs1 := [3]) (g := (gName 2)) (tt := tYes) (g1 := (gName 3)) (tt1 := _) rfl sc_doors_of.nd rfl rfl (sw_true rfl rfl rfl (by decide +kernel)) (pi_tup (pe_ix ix_tup (pv 0) pe_int (fun _ _ => rfl))) (blkOk_by (N := N_doors_of) (sc := defScope s_doors_of) (by decide +kernel)) (by decide) (fun _ _ _ _ _ => (pg_name (i := 2) sc_doors_of.nd rfl (Or.inl rfl))) (fun _ _ _ _ _ => pts_nil) (fun _ _ _ _ _ => (show PI _ _ _ (iTup K (tVar 2)) from pi_tup (pv 2))) (fun _ _ _ _ _ => (pg_name (i := 3) sc_doors_of.nd rfl (Or.inl rfl))) (fun _ _ _ _ _ => (pts_one (PW.pt (pw_and (pt_cmpR op_eq (pe_ix (show IxR _ (rIxT K) from ix_tup) (pv 3) pe_int (fun _ _ => rfl)) pe_str (nomark _)) (pw_and1 (pt_cmpR op_ne (pe_ix (show IxR _ (rIxT K) from ix_tup) (pv 3) pe_int (fun _ _ => rfl)) (pe_glob (v := .int (-1)) (by rfl) c_NO_PART ⟨_, rfl⟩) (nomark _))))))) (fun _ _ _ _ _ => (pe_ix (show IxR _ (rIxT K) from ix_tup) (pv 3) pe_int (fun _ _ => rfl))))
 (pss_one (ps_ret (pe_callB (cr_sortedSet rfl) (by rfl) T.zsorted (by decide +kernel) (pa_cons (pe_callTy (cr_setI rfl) (by rfl) T.zset (by decide +kernel) (pa_cons (pe_op op_cat (pe_callTy call_list_of (by rfl) T.zlist (by decide +kernel) (pa_cons (pe_ix ix_tup (pv 0) pe_int (fun _ _ => rfl)) pa_nil)) (pv 1)) pa_nil)) pa_nil))))))), ?_⟩
    rw [show start N_doors_of [v] = [some (v), none, none, none] from rfl]
    refine ⟨_, rfl, v, S, d, rfl, r, ok, fun H1 s1 => ?_⟩
    obtain ⟨ps, m, es, o, rfl, F⟩ := prog_of ok
    obtain ⟨a, p, q, s', t, rfl, ha, rp, rq, rz, ru⟩ := r.four
    obtain ⟨b, xs, rfl, hb, _, rs⟩ := rp.tupV
    obtain ⟨ea, ys, rfl, hea, _, re⟩ := rz.tupV
    obtain rfl := re.asInts F.allI
    
    refine ⟨_, rfl, a, _, 0, _, rfl, rfl, SqT.of (s1 _ _ ha), atI_nat (j := 0) rfl, b, rfl, ⟨_, SqT.of (s1 _ _ hb)⟩, fun R nR => ?_⟩
    have rsR : Reps (R :: S) H1 xs ps := Reps.more nR _ _ (rs.sm s1)
    refine lc2_out (walk_tup (xs := xs)) (fun i H3 => Same H1 H3 ∧ H3 R = some (.lst (goV ((ps.take i).flatMap itemsD)))) ⟨same_new nR, upd_same⟩ (fun i H3 _ p => SqT.of (p.1 _ _ (s1 _ _ hb))) ?_ ?_
    · rintro i x H3 H3' hi ⟨s3, hR⟩ ⟨rfl, hx⟩
      obtain ⟨p1, hp, rp1⟩ := rsR.get hx
      obtain ⟨rows, rfl, l5⟩ := F.five p1 (List.mem_of_getElem? hp)
      obtain ⟨c, zs, rfl, hc, _, rb⟩ := rp1.tupV
      refine ⟨rfl, _, rfl, c, rfl, ⟨_, SqT.of (s3 _ _ hc)⟩, ?_⟩
      refine lc2_in (walk_tup (xs := zs)) (fun j H4 => Same H1 H4 ∧ H4 R = some (.lst (goV ((ps.take i).flatMap itemsD ++ rows.take j)))) ⟨s3, by rw [List.take_zero, List.append_nil]; exact hR⟩ (fun j H4 _ p => SqT.of (p.1 _ _ hc)) ?_ ?_
      · rintro j y H4 H4' hj ⟨s4, hR4⟩ ⟨rfl, hy⟩
        obtain ⟨q1, hq, rq1⟩ := (rb.sm s4).get hy
        obtain ⟨w, rest, rfl, sh⟩ := late_shape (F.rows q1 (flat_mem hp (List.mem_of_getElem? hq)))
        obtain ⟨ra, rv, rfl, hra, _, rr⟩ := rq1.tupV
        have few := flat_few (j := j) hp F.twelve
        have tk : (ps.take i).flatMap itemsD ++ rows.take (j + 1) = ((ps.take i).flatMap itemsD ++ rows.take j) ++ [.tuple (.str w :: rest)] := by rw [List.take_succ, hq, List.append_assoc]; rfl
        rw [tk]
        cases rr with
        | cons r0 rr =>
          obtain rfl := r0.strV
          refine ⟨rfl, _, rfl, ra, _, 0, _, rfl, rfl, SqT.of hra, atI_nat (j := 0) rfl, rfl, _, rfl, ?_⟩
          refine ite2 (fun c1 => ?_) (fun c1 => ?_)
          · have ew : w = "late" := by simpa using c1
            obtain ⟨nm, pt, ns, rfl, lo⟩ := sh ew
            cases rr with
            | cons r1 rr => cases rr with
              | cons r2 rr => cases rr with
                | cons r3 rr =>
                  cases rr
                  obtain rfl := r2.intV
                  refine ⟨_, rfl, ra, _, 2, _, rfl, rfl, SqT.of hra, atI_nat (j := 2) rfl, rfl, _, rfl, ?_⟩
                  have g0 : goB (.tuple [.str w, nm, .int pt, ns]) = !decide (pt = -1) := by
                    show (decide (w = "late") && !decide (pt = -1)) = _
                    rw [decide_eq_true ew, Bool.true_and]
                  refine ite2 (fun c2 => ?_) (fun c2 => ?_)
                  · have n1 : ¬ pt = -1 := by simpa using c2
                    rw [goV_yes (by rw [g0, decide_eq_false n1]; rfl)]
                    refine ⟨_, rfl, ra, _, 2, _, rfl, rfl, SqT.of hra, atI_nat (j := 2) rfl, _, hR4, by rw [goV_len, sizeLine_eq]; omega, fun b' o' e => ?_, upd_same⟩
                    rw [upd_ne (ne_of_none e nR)]
                    exact s4 _ _ e
                  · have n1 : pt = -1 := by simpa using c2
                    rw [goV_no (by rw [g0, decide_eq_true n1]; decide)]
                    exact ⟨s4, hR4⟩
          · have ew : ¬ w = "late" := by simpa using c1
            rw [goV_no (by
              show ¬ (decide (w = "late") && _) = true
              rw [decide_eq_false ew]
              exact fun z => nomatch z)]
            exact ⟨s4, hR4⟩
      · rintro H4 ⟨s4, hR4⟩
        refine ⟨s4, ?_⟩
        rw [rb.length, List.take_length] at hR4
        rw [flat_snoc hp]
        exact hR4
    · rintro H3 ⟨s3, hR⟩
      rw [rs.length, List.take_length] at hR
      have s13 := s1.trans s3
      have dg := doors_goV ps es m o
      have dl := doors_len m o F
      generalize doorsD (.tuple [.tuple ps, m, .tuple es, o]) = ds at k dg dl
      refine ⟨_, rfl, a, _, 2, _, rfl, rfl, SqT.of (s13 _ _ ha), atI_nat (j := 2) rfl, ea, _, rfl, .inr (SqT.of (s13 _ _ hea)), fun l nl => ?_⟩
      have lR := ne_of_none hR nl
      have e1 : (upd H3 l (.lst ((es.map valI).map V.int))) R = some (.lst (goV (ps.flatMap itemsD))) := by rw [upd_ne lR]; exact hR
      have ll := congrArg List.length dg
      rw [List.length_append, List.length_map] at ll
      refine ⟨_, rfl, l, R, _, _, rfl, rfl, upd_same, e1, by rw [sizeLine_eq]; omega, fun u nu => ?_⟩
      rw [← dg]
      refine ⟨u, ds, rfl, SqL.of upd_same, by omega, fun sa c nsa cle => ?_⟩
      refine ⟨sa, _, c, rfl, upd_same, by omega, fun ns pp up mem len np => ?_⟩
      refine k _ pp ns ?_ ?_ upd_same up (fun j => by rw [mem j, decide_eq_true_eq]) (by omega)
      · exact (((s13.trans (same_new nl)).trans (same_new nu)).trans (same_new nsa)).trans (same_new np)
      · exact none_back (((s13.trans (same_new nl)).trans (same_new nu)).trans (same_new nsa)) np
end
end Lb

set_option Elab.async false
set_option linter.all false
set_option maxRecDepth 100000
set_option maxHeartbeats 4000000

namespace Lb
open PySem PySem.Spec PyProof.Rows L2
section
variable {P Pg : Program} {w : World} {K : PySem.W.Frag} {mg : Str → Option Value} {base : Heap} {A : Ad}
def sp_demand_place : Sp := fun vs H Q _ => ∃ (pr v : V) (S : List Addr) (P d : PyData), vs = [pr, v] ∧ Rep S H pr P ∧ progB P = true ∧ Rep S H v d ∧ placeB P d = true ∧ ∀ H', Same H H' → Q .non H'
theorem ok_demand_place (T : Txt K w mg A) : FnOk Pg w K mg base CX0 4 A.f_demand_place A.d_demand_place ["program", "thing"] (sp_demand_place) := by
  refine T.F_demand_place.ok sc_demand_place (fun vs H Q E h => ?_) (fun cdv Ar outer s H vs Q E hr h => ?_)
  · obtain ⟨pr, v, S, P, d, rfl, rP, okp, r, ok, k⟩ := h
    rfl
  · obtain ⟨pr, v, S, P, d, rfl, rP, okp, r, ok, k⟩ := h
    refine ⟨_, PSs.nox ((pss_one (ps_if (pt_not (pt_val (pe_call (ok_is_place T) hr rfl T.m_is_place T.F_is_place.kp (b_is_place T) .nil pass0 (pa_cons (pv 0) (pa_cons (pv 1) pa_nil))))) (pss_one ps_never) pss_nil))), ?_⟩
    rw [show start N_demand_place [pr, v] = [some (pr), some (v)] from rfl]
    refine ⟨_, rfl, _, rfl, pr, v, S, P, d, rfl, rP, okp, r, fun H1 s1 => ⟨_, rfl, ?_⟩⟩
    rw [ok]
    exact k H1 s1
def sp_is_loading : Sp := fun vs H Q _ => ∃ (v : V) (S : List Addr) (rw_ : Row), vs = [v] ∧ Rep S H v rw_.d ∧ ∀ H', Same H H' → Q (.bl (namedOf rw_).isSome) H'
theorem ok_is_loading (T : Txt K w mg A) : FnOk Pg w K mg base CX0 1 A.f_is_loading A.d_is_loading ["row"] (sp_is_loading) := by
  refine T.F_is_loading.ok sc_is_loading (fun vs H Q E h => ?_) (fun cdv Ar outer s H vs Q E hr h => ?_)
  · obtain ⟨v, S, rw_, rfl, r, k⟩ := h
    rfl
  · obtain ⟨v, S, rw_, rfl, r, k⟩ := h
    refine ⟨_, PSs.nox ((pss_one (ps_ret (pe_cmpR op_in_seq (pe_ix ix_tup (pv 0) pe_int (fun _ _ => rfl)) (pe_tup (pa_cons pe_str (pa_cons pe_str pa_nil))) rfl)))), ?_⟩
    rw [show start N_is_loading [v] = [some (v)] from rfl]
    cases rw_ with
    | load p =>
      obtain ⟨a, v0, v1, rfl, ha, r0, r1⟩ := r.two
      obtain rfl := r0.strV
      obtain rfl := r1.intV
      refine ⟨_, rfl, a, _, 0, _, rfl, rfl, SqT.of ha, atI_nat (j := 0) rfl, (by show 2 ≤ sizeLine; decide), fun t nt => ⟨t, _, rfl, .inr (SqT.of upd_same), rfl, rfl, ?_⟩⟩
      exact k _ (same_new nt)
    | give n ns b =>
      obtain ⟨a, v0, v1, v2, v3, rfl, ha, r0, r1, r2, r3⟩ := r.four
      obtain rfl := r0.strV
      obtain rfl := r1.strV
      obtain rfl := r3.blV
      refine ⟨_, rfl, a, _, 0, _, rfl, rfl, SqT.of ha, atI_nat (j := 0) rfl, (by show 2 ≤ sizeLine; decide), fun t nt => ⟨t, _, rfl, .inr (SqT.of upd_same), rfl, rfl, ?_⟩⟩
      exact k _ (same_new nt)
    | pass n p o =>
      obtain ⟨a, v0, v1, v2, v3, rfl, ha, r0, r1, r2, r3⟩ := r.four
      obtain rfl := r0.strV
      obtain rfl := r1.strV
      obtain rfl := r2.intV
      obtain rfl := r3.strV
      refine ⟨_, rfl, a, _, 0, _, rfl, rfl, SqT.of ha, atI_nat (j := 0) rfl, (by show 2 ≤ sizeLine; decide), fun t nt => ⟨t, _, rfl, .inr (SqT.of upd_same), rfl, rfl, ?_⟩⟩
      exact k _ (same_new nt)
    | show_ ns b =>
      obtain ⟨a, v0, v1, v2, rfl, ha, r0, r1, r2⟩ := r.three
      obtain rfl := r0.strV
      obtain rfl := r2.blV
      refine ⟨_, rfl, a, _, 0, _, rfl, rfl, SqT.of ha, atI_nat (j := 0) rfl, (by show 2 ≤ sizeLine; decide), fun t nt => ⟨t, _, rfl, .inr (SqT.of upd_same), rfl, rfl, ?_⟩⟩
      exact k _ (same_new nt)
    | out  =>
      obtain ⟨a, xs, rfl, ha, _, rs⟩ := r.tupV
      obtain ⟨v0, rfl, r0⟩ := rs.single
      obtain rfl := r0.strV
      refine ⟨_, rfl, a, _, 0, _, rfl, rfl, SqT.of ha, atI_nat (j := 0) rfl, (by show 2 ≤ sizeLine; decide), fun t nt => ⟨t, _, rfl, .inr (SqT.of upd_same), rfl, rfl, ?_⟩⟩
      exact k _ (same_new nt)
    | late n p ns =>
      obtain ⟨a, v0, v1, v2, v3, rfl, ha, r0, r1, r2, r3⟩ := r.four
      obtain rfl := r0.strV
      obtain rfl := r1.strV
      obtain rfl := r2.intV
      refine ⟨_, rfl, a, _, 0, _, rfl, rfl, SqT.of ha, atI_nat (j := 0) rfl, (by show 2 ≤ sizeLine; decide), fun t nt => ⟨t, _, rfl, .inr (SqT.of upd_same), rfl, rfl, ?_⟩⟩
      exact k _ (same_new nt)
def sp_part_named : Sp := fun vs H Q _ => ∃ (v : V) (S : List Addr) (rw_ : Row) (c : Int) (n0 : Nat), vs = [v] ∧ Rep S H v rw_.d ∧ rw_.ok c ∧ namedOf rw_ = some n0 ∧ Q (.int (n0 : Nat)) H
theorem ok_part_named (T : Txt K w mg A) : FnOk Pg w K mg base CX0 1 A.f_part_named A.d_part_named ["row"] (sp_part_named) := by
  refine T.F_part_named.ok sc_part_named (fun vs H Q E h => ?_) (fun cdv Ar outer s H vs Q E hr h => ?_)
  · obtain ⟨v, S, rw_, c, n0, rfl, r, ok, e, k⟩ := h
    rfl
  · obtain ⟨v, S, rw_, c, n0, rfl, r, ok, e, k⟩ := h
    refine ⟨_, PSs.nox ((pss_one (ps_ret (pe_ifExp (pt_cmpR op_eq (pe_ix ix_tup (pv 0) pe_int (fun _ _ => rfl)) pe_str (nomark _)) (pe_ix ix_tup (pv 0) pe_int (fun _ _ => rfl)) (pe_ix ix_tup (pv 0) pe_int (fun _ _ => rfl)))))), ?_⟩
    rw [show start N_part_named [v] = [some (v)] from rfl]
    cases rw_ with
    | load p =>
      obtain ⟨a, v0, v1, rfl, ha, r0, r1⟩ := r.two
      obtain rfl := r0.strV
      obtain rfl := r1.intV
      have e : some p.toNat = some n0 := e
      injection e with e
      have lo := ok.1
      rw [show V.int ((n0 : Nat) : Int) = V.int p by rw [← e, Int.toNat_of_nonneg lo]] at k
      refine ⟨_, rfl, a, _, 0, _, rfl, rfl, SqT.of ha, atI_nat (j := 0) rfl, rfl, _, rfl, ?_⟩
      refine ite2 (fun _ => ?_) (fun c => absurd (by decide +kernel) c)
      exact ⟨_, rfl, a, _, 1, _, rfl, rfl, SqT.of ha, atI_nat (j := 1) rfl, k⟩
    | give n ns b =>
      obtain ⟨a, v0, v1, v2, v3, rfl, ha, r0, r1, r2, r3⟩ := r.four
      obtain rfl := r0.strV
      obtain rfl := r1.strV
      obtain rfl := r3.blV
      exact nomatch e
    | pass n p o =>
      obtain ⟨a, v0, v1, v2, v3, rfl, ha, r0, r1, r2, r3⟩ := r.four
      obtain rfl := r0.strV
      obtain rfl := r1.strV
      obtain rfl := r2.intV
      obtain rfl := r3.strV
      have e : some p.toNat = some n0 := e
      injection e with e
      have lo := ok.2.1.1
      rw [show V.int ((n0 : Nat) : Int) = V.int p by rw [← e, Int.toNat_of_nonneg lo]] at k
      refine ⟨_, rfl, a, _, 0, _, rfl, rfl, SqT.of ha, atI_nat (j := 0) rfl, rfl, _, rfl, ?_⟩
      refine ite2 (fun c => absurd c (by decide +kernel)) (fun _ => ?_)
      exact ⟨_, rfl, a, _, 2, _, rfl, rfl, SqT.of ha, atI_nat (j := 2) rfl, k⟩
    | show_ ns b =>
      obtain ⟨a, v0, v1, v2, rfl, ha, r0, r1, r2⟩ := r.three
      obtain rfl := r0.strV
      obtain rfl := r2.blV
      exact nomatch e
    | out  =>
      obtain ⟨a, xs, rfl, ha, _, rs⟩ := r.tupV
      obtain ⟨v0, rfl, r0⟩ := rs.single
      obtain rfl := r0.strV
      exact nomatch e
    | late n p ns =>
      obtain ⟨a, v0, v1, v2, v3, rfl, ha, r0, r1, r2, r3⟩ := r.four
      obtain rfl := r0.strV
      obtain rfl := r1.strV
      obtain rfl := r2.intV
      exact nomatch e
def sp_links_of : Sp := fun vs H Q _ => ∃ (v : V) (S : List Addr) (P : Prog), vs = [v] ∧ Rep S H v P.d ∧ P.Ok ∧ ∀ p H', Same H H' → LksAt H H' p (linksL P) → Q p H'
theorem ok_links_of (T : Txt K w mg A) : FnOk Pg w K mg base CX0 2 A.f_links_of A.d_links_of ["program"] (sp_links_of) := by
  refine T.F_links_of.ok sc_links_of (fun vs H Q E h => ?_) (fun cdv Ar outer s H vs Q E hr h => ?_)
  · obtain ⟨v, S, P, rfl, r, ok, k⟩ := h
    rfl
  · obtain ⟨v, S, P, rfl, r, ok, k⟩ := h
    refine ⟨_, PSs.nox ((pss_one (ps_ret (pe_lc (own := [("rows", 1)]) (g := (gName 1)) (tt := tYes) rfl sc_links_of.nd (pi_tup (pe_ix ix_tup (pv 0) pe_int (fun _ _ => rfl))) (blkOk_by (N := N_links_of) (sc := defScope s_links_of) (by decide +kernel)) (fun _ _ _ _ _ => (pg_name (i := 1) sc_links_of.nd rfl (Or.inl rfl))) (fun _ _ _ _ _ => pts_nil) (fun _ _ _ _ _ => (pe_lc (own := [("row", 2)]) (g := (gName 2)) (tt := _) rfl sc_links_of.nd (show PI _ _ _ (iTup K (tVar 1)) from pi_tup (pv 1)) (blkOk_by (by rfl)) (fun _ _ _ _ _ => (pg_name (i := 2) sc_links_of.nd rfl (Or.inl rfl))) (fun _ _ _ _ _ => (pts_one (pt_val (pe_call (ok_is_loading T) hr rfl T.m_is_loading T.F_is_loading.kp (b_is_loading T) .nil pass0 (pa_cons (pv 2) pa_nil))))) (fun _ _ _ _ _ => (pe_call (ok_part_named T) hr rfl T.m_part_named T.F_part_named.kp (b_part_named T) .nil pass0 (pa_cons (pv 2) pa_nil))))))))), ?_⟩
    rw [show start N_links_of [v] = [some (v), none, none] from rfl]
    obtain ⟨a, u0, u1, u2, u3, rfl, ha, r0, r1, r2, r3⟩ := r.four
    obtain ⟨b, xs, rfl, hb, _, rs⟩ := r0.tupV
    have four := ok.four
    have lx : xs.length = P.parts.length := by rw [rs.length, List.length_map]
    refine ⟨_, rfl, a, _, 0, _, rfl, rfl, SqT.of (ha), atI_nat (j := 0) rfl, b, rfl, ⟨_, SqT.of hb⟩, fun R nR => ?_⟩
    refine lc_lks (H0 := H) (walk_tup (xs := xs)) (.refl H) nR (fun i => (P.parts.getD i []).filterMap namedOf) (by rw [sizeLine_eq]; omega) (fun H3 s3 => SqT.of (s3 _ _ hb)) ?_ ?_
    · rintro i x H3 H4 F hi s3 ⟨acc, hR⟩ ⟨rfl, hx⟩ fin
      obtain ⟨d, hd, rd⟩ := rs.get hx
      rw [List.getElem?_map] at hd
      have il : i < P.parts.length := by omega
      have eg : P.parts.getD i [] = P.parts[i] := by rw [List.getD_eq_getElem?_getD, List.getElem?_eq_getElem il]; rfl
      rw [List.getElem?_eq_getElem il] at hd
      obtain rfl : rowsD P.parts[i] = d := Option.some.inj hd
      rw [eg] at fin
      have five := ok.five _ (List.getElem_mem il)
      have rok := ok.rows _ (List.getElem_mem il)
      generalize P.parts[i] = rows at *
      obtain ⟨c, zs, rfl, hc, _, rz⟩ := rd.tupV
      have lz : zs.length = rows.length := by rw [rz.length, List.length_map]
      refine ⟨rfl, _, rfl, c, rfl, ⟨_, SqT.of (s3 _ _ hc)⟩, fun R2 nR2 => ?_⟩
      refine lc_flt (walk_tup (xs := zs)) nR2 (fun j => (namedOf (rows.getD j .out)).map nV) (by rw [sizeLine_eq]; omega) (fun H5 s5 => SqT.of ((s3.trans s5) _ _ hc)) ?_ ?_
      · rintro j y H5 H6 F2 N2 hj s5 ⟨rfl, hy⟩ yes no
        obtain ⟨d, hd, rd2⟩ := rz.get hy
        have jl : j < rows.length := by omega
        rw [List.getElem?_map, List.getElem?_eq_getElem jl] at hd
        obtain rfl : rows[j].d = d := Option.some.inj hd
        have eg2 : rows.getD j .out = rows[j] := by rw [List.getD_eq_getElem?_getD, List.getElem?_eq_getElem jl]; rfl
        rw [eg2] at yes no
        have ro := rok _ (List.getElem_mem jl)
        generalize rows[j] = row at *
        refine ⟨rfl, _, rfl, y, S, row, rfl, rd2.sm (s3.trans s5), fun H7 s7 => ?_⟩
        cases e : namedOf row with
        | none => exact ⟨_, rfl, iteF (no (by rw [e]; rfl) _ s7)⟩
        | some n0 => exact ⟨_, rfl, iteT ⟨_, rfl, y, S, row, P.c, n0, rfl, rd2.sm ((s3.trans s5).trans s7), ro, e, yes _ (by rw [e]; rfl) _ s7⟩⟩
      · intro H5 s5 h5
        rw [lz, range_flt (fun row => (namedOf row).map nV) .out rows] at h5
        have e5 : rows.filterMap (fun row => (namedOf row).map nV) = (rows.filterMap namedOf).map nV := by rw [List.map_filterMap]
        rw [e5] at h5
        exact fin R2 H5 s5 (same_none s3 nR2) (fun e => by rw [e, hR] at nR2; exact nomatch nR2) h5
    · intro H3 s3 L3
      rw [lx, range_map (fun rs : List Row => rs.filterMap namedOf) [] P.parts] at L3
      exact k _ H3 s3 L3
def sp_coming_links_of : Sp := fun vs H Q _ => ∃ (v : V) (S : List Addr) (P : Prog), vs = [v] ∧ Rep S H v P.d ∧ P.Ok ∧ ∀ p H' ds, Same H H' → (∀ j, j ∈ ds ↔ IsDoor P j) → ds.length ≤ 15 → LksAt H H' p (wideL P ds) → Q p H'
theorem ok_coming_links_of (T : Txt K w mg A) : FnOk Pg w K mg base CX0 11 A.f_coming_links_of A.d_coming_links_of ["program"] (sp_coming_links_of) := by
  refine T.F_coming_links_of.ok sc_coming_links_of (fun vs H Q E h => ?_) (fun cdv Ar outer s H vs Q E hr h => ?_)
  · obtain ⟨v, S, P, rfl, r, ok, k⟩ := h
    rfl
  · obtain ⟨v, S, P, rfl, r, ok, k⟩ := h
    refine ⟨_, PSs.nox ((pss_cons (ps_set (i := 1) sc_coming_links_of.nd rfl (Or.inr rfl) (pe_call (ok_doors_of T) hr rfl T.m_doors_of T.F_doors_of.kp (b_doors_of T) .nil pass0 (pa_cons (pv 0) pa_nil)))
 (pss_one (ps_ret (pe_lc (own := [("named", 2), ("rows", 3)]) (g := (gTup _ 2 (gCons (gName 2) (gCons (gName 3) gNil)))) (tt := tYes) rfl sc_coming_links_of.nd (ZLT.pi_zipM (by rfl) T.zzip (pa_cons (pe_call (ok_links_of T) (hr.mono (by decide)) rfl T.m_links_of T.F_links_of.kp (b_links_of T) .nil pass0 (pa_cons (pv 0) pa_nil)) (pa_cons (pe_ix ix_tup (pv 0) pe_int (fun _ _ => rfl)) pa_nil))) (blkOk_by (N := N_coming_links_of) (sc := defScope s_coming_links_of) (by decide +kernel)) (fun _ _ _ _ _ => (pg_tup (by rfl) (pgs_cons (pg_name (i := 2) sc_coming_links_of.nd rfl (Or.inl rfl)) (pgs_cons (pg_name (i := 3) sc_coming_links_of.nd rfl (Or.inl rfl)) pgs_nil)))) (fun _ _ _ _ _ => pts_nil) (fun _ _ _ _ _ => (pe_ifExp (pt_cmpR (show OpR _ (compareOp .In) (rInTD K) from op_inTD (room65 hr)) (pe_tup (pa_cons pe_str pa_nil)) (pv 3) rfl) (pe_op op_cat (pv 2) (pv 1)) (pv 2)))))))), ?_⟩
    rw [show start N_coming_links_of [v] = [some (v), none, none, none] from rfl]
    obtain ⟨a, u0, u1, u2, u3, rfl, ha, r0, r1, r2, r3⟩ := r.four
    obtain ⟨b, xs, rfl, hb, _, rs⟩ := r0.tupV
    have four := ok.four
    have lx : xs.length = P.parts.length := by rw [rs.length, List.length_map]
    refine ⟨_, rfl, .ref a, S, P.d, rfl, r, prog_ok ok, fun H1 dr ns s1 nd hdr up mem few => ?_⟩
    obtain ⟨e1, idoor⟩ := doors_nat ok mem
    rw [e1] at hdr
    have few2 : (ns.map Int.toNat).length ≤ 15 := by rw [List.length_map]; exact few
    generalize ns.map Int.toNat = ds at *
    dsimp only [gName, List.set]
    refine ⟨_, rfl, .ref a, S, P, rfl, r.sm s1, ok, fun p H2 s2 lk => ?_⟩
    obtain ⟨D, as, rfl, nD, hD, las, each⟩ := lk
    have s02 := s1.trans s2
    refine ⟨_, rfl, a, _, 0, _, rfl, rfl, SqT.of (s02 _ _ ha), atI_nat (j := 0) rfl, D, b, _, _, rfl, SqL.of hD, SqT.of (s02 _ _ hb), fun R nR => ?_⟩
    have ll : as.length = P.parts.length := by rw [las]; exact List.length_map ..
    refine lc_lks (H0 := H) (ZLT.walkM (xs := as.map V.ref) (ys := xs) (n := P.parts.length) (by rw [List.length_map]; omega)) s02 nR (at_ (wideL P ds)) (by rw [sizeLine_eq]; omega) (fun H3 s3 => ⟨SqL.of (s3 _ _ hD), SqT.of (s3 _ _ (s02 _ _ hb))⟩) ?_ ?_
    · rintro i x H3 H4 F hi s3 ⟨acc, hR⟩ ⟨T0, x1, x2, rfl, nT0, rfl, hx1, hx2⟩ fin
      dsimp only at hx1 hx2
      rw [List.getElem?_map] at hx1
      have il : i < as.length := by omega
      rw [List.getElem?_eq_getElem il] at hx1
      obtain rfl : V.ref as[i] = x1 := Option.some.inj hx1
      obtain ⟨n1, ne1, h1⟩ := each i _ (List.getElem?_eq_getElem il)
      obtain ⟨d, hd, rd⟩ := rs.get hx2
      have ip : i < P.parts.length := by omega
      rw [List.getElem?_map, List.getElem?_eq_getElem ip] at hd
      obtain rfl : rowsD P.parts[i] = d := Option.some.inj hd
      have rok := ok.rows _ (List.getElem_mem ip)
      have five := ok.five _ (List.getElem_mem ip)
      have eL : at_ (linksL P) i = P.parts[i].filterMap namedOf := by
        unfold at_ linksL
        rw [List.getD_eq_getElem?_getD, List.getElem?_map, List.getElem?_eq_getElem ip]
        rfl
      have eW : at_ (wideL P ds) i = P.parts[i].filterMap namedOf ++ (if P.parts[i].any outR then ds else []) := by
        unfold at_ wideL
        rw [List.getD_eq_getElem?_getD, List.getElem?_map, List.getElem?_eq_getElem ip]
        rfl
      rw [eW] at fin
      rw [eL] at h1
      have fm := List.length_filterMap_le namedOf P.parts[i]
      have sT : Same H3 (upd H3 T0 (.tup [V.ref as[i], x2])) := same_new nT0
      have s4 := s3.trans sT
      refine ⟨T0, _, rfl, SqT.of upd_same, rfl, _, _, rfl, _, _, rfl, rfl, rfl, ?_⟩
      refine ⟨by show 1 ≤ sizeLine; decide, fun t nt => ?_⟩
      have s5 := s4.trans (same_new (o := HO.tup [V.str "out"]) nt)
      refine ⟨_, rfl, .tuple [.str "out"], P.parts[i].map Row.d, (Rep.tup (st := []) upd_same List.not_mem_nil (.cons (.str _) .nil)).dp _ _ rfl, (rd.sm (s02.trans s5)).dp _ _ (noDict_rows _), shaped_out, shaped_rows rok, _, rfl, ?_⟩
      rw [out_any]
      have ha5 := s5 _ _ h1
      have neR : as[i] ≠ R := fun e => by rw [← e, h1] at nR; exact nomatch nR
      refine ite2 (fun c => ?_) (fun c => ?_)
      · rw [if_pos c] at fin
        refine ⟨_, rfl, _, rfl, as[i], dr, _, _, rfl, rfl, ha5, (s2.trans s5) _ _ hdr, by rw [sizeLine_eq, List.length_map, List.length_map]; omega, fun q nq => ?_⟩
        have s6 := s5.trans (same_new (o := HO.lst ((P.parts[i].filterMap namedOf).map nV ++ ds.map nV)) nq)
        exact fin q _ ((sT.trans (same_new nt)).trans (same_new nq)) (same_none (s02.trans s5) nq) (fun e => by rw [e] at nq; rw [(sT.trans (same_new nt)) _ _ hR] at nq; exact nomatch nq) (by rw [upd_same, List.map_append])
      · rw [if_neg c, List.append_nil] at fin
        exact ⟨_, rfl, fin _ _ ((sT.trans (same_new nt))) (same_none s1 n1) neR ha5⟩
    · intro H3 s3 L3
      refine k _ H3 ds (s02.trans s3) idoor few2 ?_
      have e : (List.range P.parts.length).map (at_ (wideL P ds)) = wideL P ds := by
        have z := range_map (fun l : List Nat => l) [] (wideL P ds)
        rw [show (wideL P ds).length = P.parts.length from List.length_map .., List.map_id''] at z
        · exact z
        · exact fun _ => rfl
      rw [e] at L3
      exact L3
end
end Lb

set_option Elab.async false
set_option linter.all false
set_option maxRecDepth 100000
set_option maxHeartbeats 4000000

namespace Lb
open PySem PySem.Spec PyProof.Rows L2
section
variable {P Pg : Program} {w : World} {K : PySem.W.Frag} {mg : Str → Option Value} {base : Heap} {A : Ad}
def sp_parts_behind : Sp := fun vs H Q _ => ∃ (v : V) (H0 : Hp) (L : List (List Nat)) (n part : Nat), vs = [v, nV part] ∧ LkOk n L ∧ n ≤ 100 ∧ part < n ∧ LksAt H0 H v L ∧ ∀ (p : Addr) (H' : Hp) (fs : List Nat), Same H H' → H p = none → H' p = some (.lst (fs.map nV)) → fs.Nodup → (∀ k, k ∈ fs ↔ Reach L part k) → Q (.ref p) H'
theorem ok_parts_behind (T : Txt K w mg A) : FnOk Pg w K mg base CX0 1 A.f_parts_behind A.d_parts_behind ["links", "part"] (sp_parts_behind) := by
  refine T.F_parts_behind.ok sc_parts_behind (fun vs H Q E h => ?_) (fun cdv Ar outer s H vs Q E hr h => ?_)
  · obtain ⟨v, H0, L, n, part, rfl, ok, n1, pn, lk, k⟩ := h
    rfl
  · obtain ⟨v, H0, L, n, part, rfl, ok, n1, pn, lk, k⟩ := h
    refine ⟨_, PSs.nox ((pss_cons (ps_set (i := 2) sc_parts_behind.nd rfl (Or.inl rfl) (pe_lst pa_nil))
 (pss_cons (ps_set (i := 3) sc_parts_behind.nd rfl (Or.inl rfl) (pe_callTy call_list_of (by rfl) T.zlist (by decide +kernel) (pa_cons (pe_ix ix_list (pv 0) (pv 1) (fun _ _ => rfl)) pa_nil)))
 (pss_cons (ps_while PassesOwn.never (pt_truth (pv 3) (fun _ => rfl)) (pss_cons (ps_set (i := 4) sc_parts_behind.nd rfl (Or.inl rfl) (pe_bm0 PySem.F.plainAttrs_list PySem.F.slot_list_pop PySem.F.type_list_pop mt_pop (pv 3)))
 (pss_one (ps_if (pt_cmpR op_notIn_seq (pv 4) (pv 2) rfl) (pss_cons (ps_expr (pe_bm PySem.F.plainAttrs_list PySem.F.slot_list_append PySem.F.type_list_append mt_append (pv 2) (pa_cons (pv 4) pa_nil)))
 (pss_one (ps_expr (pe_bm PySem.F.plainAttrs_list PySem.F.slot_list_extend PySem.F.type_list_extend mt_extend (pv 3) (pa_cons (pe_ix ix_list (pv 0) (pv 4) (fun _ _ => rfl)) pa_nil))))) pss_nil))))
 (pss_one (ps_ret (pv 2))))))), ?_⟩
    rw [show start N_parts_behind [v, nV part] = [some (v), some (nV part), none, none, none] from rfl]
    obtain ⟨Dd, as, rfl, nD, hD, las, each⟩ := lk
    have lL := ok.len
    have atE : ∀ j, j < n → ∃ a, as[j]? = some a ∧ H a = some (.lst ((at_ L j).map nV)) := fun j hj => by
      have z : as[j]? = some as[j] := List.getElem?_eq_getElem (by omega)
      exact ⟨_, z, (each j _ z).2.2⟩
    refine ⟨Nat.zero_le _, fun F nF => ?_⟩
    have s1 : Same H (upd H F (.lst [])) := same_new nF
    dsimp only [gName, List.set]
    obtain ⟨a0, ea0, ha0⟩ := atE part pn
    refine ⟨_, rfl, _, rfl, Dd, as.map V.ref, (part : Int), .ref a0, rfl, rfl, SqL.of (s1 _ _ hD), atI_nat (by rw [List.getElem?_map, ea0]; rfl), a0, _, rfl, .inl (SqL.of (s1 _ _ ha0)), fun Wd nW => ?_⟩
    have s2 := s1.trans (same_new (o := HO.lst ((at_ L part).map nV)) nW)
    have fw : F ≠ Wd := fun e => by rw [← e, upd_same] at nW; exact nomatch nW
    have nW0 := same_none s1 nW
    dsimp only [gName, List.set]
    refine cut_by (R := fun σ H3 => ∃ (o : Option V) (fs : List Nat), σ = [some (.ref Dd), some (nV part), some (.ref F), some (.ref Wd), o] ∧ Same H H3 ∧ H3 F = some (.lst (fs.map nV)) ∧ Srch L part fs []) ?_ ?_
    · rintro σ H3 ⟨o, fs, rfl, s3, hF, sr⟩
      exact ⟨_, rfl, k F H3 fs s3 nF hF sr.nd sr.done⟩
    intro fin
    refine while_m (fun m σ H3 => ∃ (o : Option V) (fs ws : List Nat), σ = [some (.ref Dd), some (nV part), some (.ref F), some (.ref Wd), o] ∧ Same H H3 ∧ H3 F = some (.lst (fs.map nV)) ∧ H3 Wd = some (.lst (ws.map nV)) ∧ Srch L part fs ws ∧ (∀ k ∈ fs, k < n) ∧ (∀ k ∈ ws, k < n) ∧ ws.length ≤ 40 * (fs.length + 1) ∧ m = ws.length + (n - fs.length) * 50) _ ⟨none, [], at_ L part, rfl, s2, by rw [upd_ne fw]; exact upd_same, upd_same, .start L part, fun _ z => (nomatch z), (ok.at part).2, by have := (ok.at part).1; simpa using this, rfl⟩ ?_
    rintro m σ H3 ⟨o, fs, ws, rfl, s3, hF, hW, sr, ltf, ltw, many, rfl⟩
    have fewF := nodup_lt sr.nd ltf
    refine ⟨_, rfl, !(ws.map nV).isEmpty, .inl ⟨_, SqL.of hW, rfl⟩, ?_⟩
    refine ite2 (fun c => ?_) (fun c => ?_)
    · have ne : ws ≠ [] := fun e => by rw [e] at c; exact nomatch c
      obtain ⟨w0, x, rfl⟩ : ∃ w0 x, ws = w0 ++ [x] := ⟨ws.dropLast, ws.getLast ne, (List.dropLast_concat_getLast ne).symm⟩
      rw [List.length_append, List.length_singleton] at many
      refine ⟨fun σ' H' => ∃ m', m' < (w0 ++ [x]).length + (n - fs.length) * 50 ∧ ∃ (o : Option V) (fs ws : List Nat), σ' = [some (.ref Dd), some (nV part), some (.ref F), some (.ref Wd), o] ∧ Same H H' ∧ H' F = some (.lst (fs.map nV)) ∧ H' Wd = some (.lst (ws.map nV)) ∧ Srch L part fs ws ∧ (∀ k ∈ fs, k < n) ∧ (∀ k ∈ ws, k < n) ∧ ws.length ≤ 40 * (fs.length + 1) ∧ m' = ws.length + (n - fs.length) * 50, fun _ _ z => z, ?_⟩
      rw [List.length_append, List.length_singleton]
      have xn : x < n := ltw x (List.mem_append_right _ (List.mem_singleton.mpr rfl))
      have ltw0 : ∀ k ∈ w0, k < n := fun k hk => ltw k (List.mem_append_left _ hk)
      refine ⟨_, rfl, .inl ⟨rfl, _, SqL.of hW⟩, Wd, _, nV x, rfl, rfl, hW, by simp, ?_⟩
      rw [List.map_append, List.map_singleton, List.dropLast_concat]
      have s4 : Same H (upd H3 Wd (.lst (w0.map nV))) := same_own s3 nW0
      have hF4 : upd H3 Wd (.lst (w0.map nV)) F = some (.lst (fs.map nV)) := by rw [upd_ne fw]; exact hF
      have hW4 : upd H3 Wd (.lst (w0.map nV)) Wd = some (.lst (w0.map nV)) := upd_same
      generalize upd H3 Wd (.lst (w0.map nV)) = H4 at *
      dsimp only [gName, List.set]
      refine ⟨_, rfl, _, rfl, F, _, rfl, .inl (SqL.of hF4), rfl, flat_nat fs, _, rfl, ?_⟩
      rw [inV_nat, if_pos rfl]
      refine ite2 (fun c2 => ?_) (fun c2 => ?_)
      · have xf : x ∉ fs := by simpa using c2
        have fewF2 : fs.length + 1 ≤ n := by
          have z := nodup_lt (sr.take xf).nd (fun k hk => (List.mem_append.mp hk).elim (ltf k) fun z => by rw [List.mem_singleton.mp z]; exact xn)
          rwa [List.length_append] at z
        refine ⟨_, rfl, .inl ⟨rfl, _, SqL.of hF4⟩, _, rfl, F, _, _, rfl, rfl, hF4, by rw [List.length_map, sizeLine_eq]; omega, ?_⟩
        have s5 : Same H (upd H4 F (.lst (fs.map nV ++ [nV x]))) := same_own s4 nF
        have hF5 : upd H4 F (.lst (fs.map nV ++ [nV x])) F = some (.lst ((fs ++ [x]).map nV)) := by rw [upd_same, List.map_append]; rfl
        have hW5 : upd H4 F (.lst (fs.map nV ++ [nV x])) Wd = some (.lst (w0.map nV)) := by rw [upd_ne fw.symm]; exact hW4
        generalize upd H4 F (.lst (fs.map nV ++ [nV x])) = H5 at *
        obtain ⟨ax, eax, hax⟩ := atE x xn
        have fewL := (ok.at x).1
        refine ⟨_, rfl, .inl ⟨rfl, _, SqL.of hW5⟩, _, rfl, _, rfl, Dd, as.map V.ref, (x : Int), .ref ax, rfl, rfl, SqL.of (s5 _ _ hD), atI_nat (by rw [List.getElem?_map, eax]; rfl), Wd, ax, _, _, rfl, rfl, hW5, s5 _ _ hax, by rw [List.length_map, List.length_map, sizeLine_eq]; omega, ?_⟩
        refine ⟨_, ?_, some (nV x), fs ++ [x], w0 ++ at_ L x, rfl, same_own s5 nW0, by rw [upd_ne fw]; exact hF5, by rw [upd_same, List.map_append], sr.take xf, fun k hk => (List.mem_append.mp hk).elim (ltf k) fun z => by rw [List.mem_singleton.mp z]; exact xn, fun k hk => (List.mem_append.mp hk).elim (ltw0 k) ((ok.at x).2 k), by simp only [List.length_append, List.length_singleton]; omega, rfl⟩
        simp only [List.length_append, List.length_singleton]
        omega
      · have xf : x ∈ fs := by simpa using c2
        exact ⟨_, by omega, some (nV x), fs, w0, rfl, s4, hF4, hW4, sr.skip xf, ltf, ltw0, by omega, rfl⟩
    · have e : ws = [] := by
        cases ws with
        | nil => rfl
        | cons _ _ => exact absurd rfl c
      rw [e] at sr
      exact fin _ _ ⟨o, fs, rfl, s3, hF, sr⟩
def sp_parts_that_stay_away : Sp := fun vs H Q _ => ∃ (v : V) (S : List Addr) (P : Prog) (own : Nat), vs = [v, nV own] ∧ Rep S H v P.d ∧ P.Ok ∧ own < P.parts.length ∧ ∀ (p : Addr) (H' : Hp) (l : List Nat), Same H H' → H p = none → H' p = some (.lst (l.map nV)) → (∀ k, k ∈ l ↔ k < P.parts.length ∧ Free P own k) → l.length ≤ 4 → Q (.ref p) H'
theorem ok_parts_that_stay_away (T : Txt K w mg A) : FnOk Pg w K mg base CX0 12 A.f_parts_that_stay_away A.d_parts_that_stay_away ["program", "own"] (sp_parts_that_stay_away) := by
  refine T.F_parts_that_stay_away.ok sc_parts_that_stay_away (fun vs H Q E h => ?_) (fun cdv Ar outer s H vs Q E hr h => ?_)
  · obtain ⟨v, S, P, own, rfl, r, ok, lo, k⟩ := h
    rfl
  · obtain ⟨v, S, P, own, rfl, r, ok, lo, k⟩ := h
    refine ⟨_, PSs.nox ((pss_cons (ps_set (i := 2) sc_parts_that_stay_away.nd rfl (Or.inr rfl) (pe_call (ok_coming_links_of T) hr rfl T.m_coming_links_of T.F_coming_links_of.kp (b_coming_links_of T) .nil pass0 (pa_cons (pv 0) pa_nil)))
 (pss_one (ps_ret (pe_lc (own := [("part", 3)]) (g := (gName 3)) (tt := _) rfl sc_parts_that_stay_away.nd (pi_range1 (by rfl) T.zrange (pa_cons (pe_callB call_len_seq (by rfl) T.zlen (by decide +kernel) (pa_cons (pv 2) pa_nil)) pa_nil)) (blkOk_by (N := N_parts_that_stay_away) (sc := defScope s_parts_that_stay_away) (by decide +kernel)) (fun _ _ _ _ _ => (pg_name (i := 3) sc_parts_that_stay_away.nd rfl (Or.inl rfl))) (fun _ _ _ _ _ => (pts_one (PW.pt (pw_and (pt_cmpR op_ne (pv 3) (pv 1) (nomark _)) (pw_and1 (pt_cmpR (show OpR _ (compareOp .NotIn) (rIn K true) from op_notIn_seq) (pv 1) (pe_call (ok_parts_behind T) (hr.mono (by decide)) rfl T.m_parts_behind T.F_parts_behind.kp (b_parts_behind T) .nil pass0 (pa_cons (pv 2) (pa_cons (pv 3) pa_nil))) rfl)))))) (fun _ _ _ _ _ => (pv 3))))))), ?_⟩
    rw [show start N_parts_that_stay_away [v, nV own] = [some (v), some (nV own), none, none] from rfl]
    refine ⟨_, rfl, v, S, P, rfl, r, ok, fun p H1 ds s1 idoor few lk => ?_⟩
    have four := ok.four
    have wok : LkOk P.parts.length (wideL P ds) := wide_ok ok (by omega) fun j hj => door_lt ok ((idoor j).mp hj)
    have lk0 := lk
    obtain ⟨Dd, as, rfl, nD, hD, las, each⟩ := lk
    have lw : as.length = P.parts.length := by rw [las]; exact wok.len
    dsimp only [gName, List.set]
    refine ⟨_, rfl, Dd, as.map V.ref, rfl, .inl (SqL.of hD), (P.parts.length : Int), by rw [List.length_map, lw], by omega, by omega, fun R nR => ?_⟩
    have cl := fun k => Classical.propDecidable (Free P own k)
    refine lc_flt walk_range nR (fun i => @ite _ (Free P own i) (cl i) (some (nV i)) none) (by rw [sizeLine_eq]; omega) (fun _ _ => trivial) ?_ ?_
    · rintro i x H3 H4 F2 N2 hi s3 ⟨rfl, rfl⟩ yes no
      have hi : i < P.parts.length := by omega
      refine ⟨rfl, ?_⟩
      dsimp only
      rw [Int.zero_add]
      have fr : Free P own i → ∀ H3_1, Same H4 H3_1 → F2 (nV i) H3_1 := fun f => yes (nV i) (@if_pos _ (cl i) f _ _ _)
      have nf : ¬ Free P own i → ∀ H3_1, Same H4 H3_1 → N2 H3_1 := fun f => no (@if_neg _ (cl i) f _ _ _)
      have fi := free_iff (P := P) (own := own) (k := i) idoor
      refine ⟨_, rfl, _, rfl, rfl, _, rfl, ?_⟩
      rw [dec_nat]
      refine ite2 (fun c => ?_) (fun c => ?_)
      · have ne : i ≠ own := by simpa using c
        refine ⟨_, rfl, _, rfl, _, rfl, .ref Dd, H, wideL P ds, P.parts.length, i, rfl, wok, by omega, hi, lk0.sm s3, fun p H5 fs s5 np hp nd mem => ?_⟩
        refine ⟨p, _, rfl, .inl (SqL.of hp), rfl, flat_nat fs, _, rfl, ?_⟩
        rw [inV_nat, if_pos rfl]
        refine ite2 (fun c2 => ?_) (fun c2 => ?_)
        · have out : own ∉ fs := by simpa using c2
          exact ⟨_, rfl, fr (fi.mpr ⟨ne, fun z => out ((mem own).mpr z)⟩) _ s5⟩
        · have inn : own ∈ fs := by simpa using c2
          exact nf (fun f => (fi.mp f).2 ((mem own).mp inn)) _ s5
      · have e : i = own := by simpa using c
        exact nf (fun f => (fi.mp f).1 e) _ (.refl _)
    · intro H3 s3 h3
      have e3 : (List.range ((P.parts.length : Int)).toNat).filterMap (fun i => @ite _ (Free P own i) (cl i) (some (nV i)) none) = ((List.range P.parts.length).filter fun i => @decide (Free P own i) (cl i)).map nV := by
        rw [Int.toNat_natCast]
        exact flt_map _ cl nV _
      rw [e3] at h3
      refine k R H3 _ (s1.trans s3) (same_none s1 nR) h3 (fun k => ?_) ?_
      · rw [List.mem_filter, List.mem_range, decide_eq_true_eq]
      · have z := List.length_filter_le (fun i => @decide (Free P own i) (cl i)) (List.range P.parts.length)
        rw [List.length_range] at z
        omega
def sp_ways_to_ready_parts : Sp := fun vs H Q _ => ∃ (v u : V) (S : List Addr) (P : Prog) (own index : Nat), vs = [v, u] ∧ Rep S H v P.d ∧ P.Ok ∧ Rep S H u (.tuple [nD own, nD index]) ∧ own < P.parts.length ∧ ∀ (p : Addr) (H' : Hp) (ws : List WayAt), Same H H' → H p = none → H' p = some (dW ws) → WaysAt P own index H H' ws → Q (.ref p) H'
theorem ok_ways_to_ready_parts (T : Txt K w mg A) : FnOk Pg w K mg base CX0 13 A.f_ways_to_ready_parts A.d_ways_to_ready_parts ["program", "place"] (sp_ways_to_ready_parts) := by
  refine T.F_ways_to_ready_parts.ok sc_ways_to_ready_parts (fun vs H Q E h => ?_) (fun cdv Ar outer s H vs Q E hr h => ?_)
  · obtain ⟨v, u, S, P, own, index, rfl, r, ok, ru, lo, k⟩ := h
    rfl
  · obtain ⟨v, u, S, P, own, index, rfl, r, ok, ru, lo, k⟩ := h
    refine ⟨_, PSs.nox ((pss_cons (ps_asg (pv 1) (pg_tup (by rfl) (pgs_cons (pg_name (i := 2) sc_ways_to_ready_parts.nd rfl (Or.inl rfl)) (pgs_cons (pg_name (i := 3) sc_ways_to_ready_parts.nd rfl (Or.inl rfl)) pgs_nil))))
 (pss_cons (ps_set (i := 4) sc_ways_to_ready_parts.nd rfl (Or.inl rfl) (pe_call (ok_parts_that_stay_away T) hr rfl T.m_parts_that_stay_away T.F_parts_that_stay_away.kp (b_parts_that_stay_away T) .nil pass0 (pa_cons (pv 0) (pa_cons (pv 2) pa_nil))))
 (pss_cons (ps_set (i := 5) sc_ways_to_ready_parts.nd rfl (Or.inl rfl) pe_dnewK)
 (pss_cons (ps_set (i := 6) sc_ways_to_ready_parts.nd rfl (Or.inl rfl) (pe_lst (pa_cons (pe_tup (pa_cons (pe_lst pa_nil) (pa_cons (pv 2) (pa_cons (pv 3) pa_nil)))) pa_nil)))
 (pss_cons (ps_while PassesOwn.never (pt_truth (pv 6) (fun _ => rfl)) (pss_cons (ps_set (i := 7) sc_ways_to_ready_parts.nd rfl (Or.inl rfl) (pe_lst pa_nil))
 (pss_cons (ps_for PassesOwn.never rfl (pi_list (pv 6)) (pg_tup (by rfl) (pgs_cons (pg_name (i := 8) sc_ways_to_ready_parts.nd rfl (Or.inl rfl)) (pgs_cons (pg_name (i := 9) sc_ways_to_ready_parts.nd rfl (Or.inl rfl)) (pgs_cons (pg_name (i := 10) sc_ways_to_ready_parts.nd rfl (Or.inl rfl)) pgs_nil)))) (pss_one (ps_for PassesOwn.never rfl (pi_enumT (by rfl) T.zenumerate (pa_cons (pe_slice sl_tupS (pe_ix ix_tup (pe_ix ix_tup (pv 0) pe_int (fun _ _ => rfl)) (pv 9) (fun _ _ => rfl)) po_none (po_some (pv 10))) pa_nil)) (pg_tup (by rfl) (pgs_cons (pg_name (i := 11) sc_ways_to_ready_parts.nd rfl (Or.inl rfl)) (pgs_cons (pg_name (i := 12) sc_ways_to_ready_parts.nd rfl (Or.inl rfl)) pgs_nil))) (pss_one (ps_if (PW.pt (pw_and (pt_val (pe_call (ok_is_loading T) (hr.mono (by decide)) rfl T.m_is_loading T.F_is_loading.kp (b_is_loading T) .nil pass0 (pa_cons (pv 12) pa_nil))) (pw_and (pt_cmpR op_in_seq (pe_call (ok_part_named T) (hr.mono (by decide)) rfl T.m_part_named T.F_part_named.kp (b_part_named T) .nil pass0 (pa_cons (pv 12) pa_nil)) (pv 4) rfl) (pw_and1 (pt_cmp (pc_dnotin (hu_of hr) (pe_call (ok_part_named T) (hr.mono (by decide)) rfl T.m_part_named T.F_part_named.kp (b_part_named T) .nil pass0 (pa_cons (pv 12) pa_nil)) (pv 5))))))) (pss_cons (ps_set (i := 13) sc_ways_to_ready_parts.nd rfl (Or.inl rfl) (pe_call (ok_part_named T) (hr.mono (by decide)) rfl T.m_part_named T.F_part_named.kp (b_part_named T) .nil pass0 (pa_cons (pv 12) pa_nil)))
 (pss_cons (ps_dput (hu_of hr) (pv 5) (pv 13) (pe_op op_cat (pv 8) (pe_lst (pa_cons (pe_tup (pa_cons (pv 9) (pa_cons (pv 11) pa_nil))) pa_nil))) rfl)
 (pss_one (ps_expr (pe_bm PySem.F.plainAttrs_list PySem.F.slot_list_append PySem.F.type_list_append mt_append (pv 7) (pa_cons (pe_tup (pa_cons (pe_dget (hu_of hr) (pv 5) (pv 13) (fun _ _ => rfl)) (pa_cons (pv 13) (pa_cons (pe_callB call_len_seq (by rfl) T.zlen (by decide +kernel) (pa_cons (pe_ix ix_tup (pe_ix ix_tup (pv 0) pe_int (fun _ _ => rfl)) (pv 13) (fun _ _ => rfl)) pa_nil)) pa_nil)))) pa_nil)))))) pss_nil)))))
 (pss_one (ps_set (i := 6) sc_ways_to_ready_parts.nd rfl (Or.inl rfl) (pv 7))))))
 (pss_one (ps_ret (pv 5))))))))), ?_⟩
    rw [show start N_ways_to_ready_parts [v, u] = [some (v), some (u), none, none, none, none, none, none, none, none, none, none, none, none] from rfl]
    have four := ok.four
    have rP := r
    obtain ⟨a, u0, u1, u2, u3, rfl, ha, r0, r1, r2, r3⟩ := r.four
    obtain ⟨b, xs, rfl, hb, _, rs⟩ := r0.tupV
    have lx : xs.length = P.parts.length := by rw [rs.length, List.length_map]
    obtain ⟨c0, v0, v1, rfl, hc0, rv0, rv1⟩ := ru.two
    obtain rfl := rv0.intV
    obtain rfl := rv1.intV
    refine ⟨_, rfl, c0, _, rfl, SqT.of hc0, rfl, _, _, rfl, _, _, rfl, rfl, ?_⟩
    dsimp only [gName, List.set]
    refine ⟨_, rfl, _, rfl, .ref a, S, P, own, rfl, rP, ok, lo, fun Fr H1 l s1 nF hF memF fewF => ?_⟩
    dsimp only [gName, List.set]
    intro D5 n5
    have n50 := same_none s1 n5
    have s2 : Same H1 _ := same_new (o := HO.dK []) n5
    have hF2 := (same_new (o := HO.dK []) n5) _ _ hF
    have hd2 : upd H1 D5 (.dK []) D5 = some (HO.dK []) := upd_same
    generalize upd H1 D5 (.dK []) = H2 at *
    dsimp only [gName, List.set]
    refine ⟨Nat.zero_le _, fun a0 na0 => ⟨_, rfl, _, rfl, by show 3 ≤ sizeLine; decide, fun e0 ne0 => ⟨by show 1 ≤ sizeLine; decide, fun Wd nWd => ?_⟩⟩⟩
    have s3 := s2.trans (same_new (o := HO.lst []) na0)
    have s4 := s3.trans (same_new (o := HO.tup [.ref a0, nV own, nV index]) ne0)
    have s5 := s4.trans (same_new (o := HO.lst [.ref e0]) nWd)
    have top := Top.start ok (index := index) lo s5 ((same_new (o := HO.lst [.ref e0]) nWd) _ _ ((same_new (o := HO.tup [.ref a0, nV own, nV index]) ne0) _ _ ((same_new (o := HO.lst []) na0) _ _ hd2))) (upd_same : upd _ Wd (.lst [.ref e0]) Wd = _) (same_none s4 nWd) ((same_new (o := HO.lst [.ref e0]) nWd) _ _ upd_same)
      ((same_new (o := HO.lst [.ref e0]) nWd) _ _ ((same_new (o := HO.tup [.ref a0, nV own, nV index]) ne0) _ _ upd_same)) (fun e => by rw [e, hd2] at na0; exact nomatch na0)
    dsimp only [gName, List.set]
    refine cut_by (R := fun σ H3 => ∃ (o6 o7 o8 o9 o10 o11 o12 o13 : Option V) (ws : List WayAt), σ = [some (.ref a), some (.ref c0), some (nV own), some (nV index), some (.ref Fr), some (.ref D5), o6, o7, o8, o9, o10, o11, o12, o13] ∧ Same H1 H3 ∧ H3 D5 = some (dW ws) ∧ WaysAt P own index H1 H3 ws) ?_ ?_
    · rintro σ H3 ⟨o6, o7, o8, o9, o10, o11, o12, o13, ws, rfl, s6, hd, wa⟩
      exact ⟨_, rfl, k D5 H3 ws (s1.trans s6) n50 hd (wa.old s1)⟩
    intro fin
    refine while_m (fun m σ H3 => ∃ (o7 o8 o9 o10 o11 o12 o13 : Option V) (Wd : Addr) (t : Nat) (es : List Ent) (ws : List WayAt), σ = [some (.ref a), some (.ref c0), some (nV own), some (nV index), some (.ref Fr), some (.ref D5), some (.ref Wd), o7, o8, o9, o10, o11, o12, o13] ∧ Top P own index t H1 D5 Wd es ws H3 ∧ m = topM es ws) _ ⟨none, none, none, none, none, none, none, Wd, 0, _, [], rfl, top, rfl⟩ ?_
    clear top s5 s4 s3 nWd ne0 na0
    rintro m σ H3 ⟨o7, o8, o9, o10, o11, o12, o13, Wd, t, es, ws, rfl, top, rfl⟩
    have hF3 : H3 Fr = some (.lst (l.map nV)) := top.sm _ _ hF
    refine ⟨_, rfl, !(es.map fun q => V.ref q.e).isEmpty, .inl ⟨_, SqL.of top.wd, rfl⟩, ?_⟩
    refine ite2 (fun c => ?_) (fun c => ?_)
    · have ne : es ≠ [] := fun e => by rw [e] at c; exact nomatch c
      refine ⟨fun σ' H' => ∃ m', m' < topM es ws ∧ ∃ (o7 o8 o9 o10 o11 o12 o13 : Option V) (Wd : Addr) (t : Nat) (es : List Ent) (ws : List WayAt), σ' = [some (.ref a), some (.ref c0), some (nV own), some (nV index), some (.ref Fr), some (.ref D5), some (.ref Wd), o7, o8, o9, o10, o11, o12, o13] ∧ Top P own index t H1 D5 Wd es ws H' ∧ m' = topM es ws, fun _ _ z => z, ?_⟩
      refine ⟨Nat.zero_le _, fun Lg nL => ?_⟩
      have mid := top.mid nL
      have nL0 := same_none top.sm nL
      have d5L : D5 ≠ Lg := ne_of_none top.d5 nL
      have wdL : Wd ≠ Lg := ne_of_none top.wd nL
      have hF4 := (same_new (o := HO.lst []) nL) _ _ hF3
      have frL : Fr ≠ Lg := ne_of_none hF3 nL
      generalize upd H3 Lg (.lst []) = H4 at *
      dsimp only [gName, List.set]
      refine cut_by (R := fun σ H3 => ∃ (o8 o9 o10 o11 o12 o13 : Option V) (ns : List WayAt) (ls : List Ent), σ = [some (.ref a), some (.ref c0), some (nV own), some (nV index), some (.ref Fr), some (.ref D5), some (.ref Wd), some (.ref Lg), o8, o9, o10, o11, o12, o13] ∧ Mid P own index t H1 D5 Wd Lg es ws H3 ns ls (fun k => ∃ q ∈ es, Names P q.part q.many k) (entsF P own (levelF P own index t).1 (levelF P own index t).2)) ?_ ?_
      · rintro σ H5 ⟨o8, o9, o10, o11, o12, o13, ns, ls, rfl, m⟩
        exact ⟨_, rfl, _, m.falls four top.mem ne, some (.ref Lg), o8, o9, o10, o11, o12, o13, Lg, t + 1, ls, ws ++ ns, rfl, m.next four top.dt nL0 top.mem top.cv (top.tl ne), rfl⟩
      intro fin2
      refine ⟨_, rfl, Wd, rfl, ⟨_, SqL.of mid.wd⟩, ?_⟩
      refine for_it (walk_list (xs := es.map fun q => V.ref q.e)) (fun i σ H5 => ∃ (o8 o9 o10 o11 o12 o13 : Option V) (ns : List WayAt) (ls : List Ent), σ = [some (.ref a), some (.ref c0), some (nV own), some (nV index), some (.ref Fr), some (.ref D5), some (.ref Wd), some (.ref Lg), o8, o9, o10, o11, o12, o13] ∧ Mid P own index t H1 D5 Wd Lg es ws H5 ns ls (fun k => ∃ q ∈ es.take i, Names P q.part q.many k) (entsF P own (levelF P own index t).1 ((levelF P own index t).2.take i)))
        ⟨o8, o9, o10, o11, o12, o13, [], [], rfl, mid.cover (.refl _) fun k hk _ => by obtain ⟨q, hq, _⟩ := hk; exact absurd hq List.not_mem_nil⟩ (fun i σ H5 _ z => by obtain ⟨o8, o9, o10, o11, o12, o13, ns, ls, _, m⟩ := z; exact SqL.of m.wd) ?_ ?_
      · rintro i x σ H5 H6 hi ⟨o8, o9, o10, o11, o12, o13, ns, ls, rfl, m⟩ ⟨rfl, hx⟩
        rw [List.length_map] at hi
        rw [List.getElem?_map, List.getElem?_eq_getElem hi] at hx
        obtain rfl := Option.some.inj hx
        have hq := List.getElem_mem hi
        have hqi : es[i]? = some es[i] := List.getElem?_eq_getElem hi
        have tk : es.take (i + 1) = es.take i ++ [es[i]] := by rw [List.take_succ, List.getElem?_eq_getElem hi]; rfl
        generalize es[i] = q at *
        have eo := m.en q hq
        refine ⟨q.e, _, rfl, SqT.of eo.tup, rfl, _, _, rfl, _, _, rfl, _, _, rfl, rfl, ?_⟩
        dsimp only [gName, List.set]
        have ip : q.part < P.parts.length := eo.lt
        have sH5 := s1.trans m.sm
        obtain ⟨y0, hy0, ry0⟩ := rs.at_ (i := q.part) (d := rowsD P.parts[q.part]) (by rw [List.getElem?_map, List.getElem?_eq_getElem ip]; rfl)
        obtain ⟨c, zs, rfl, hc, _, rz⟩ := ry0.tupV
        have eR : P.parts[q.part] = rowsOfP P q.part := by unfold rowsOfP; rw [List.getD_eq_getElem?_getD, List.getElem?_eq_getElem ip]; rfl
        have rok := ok.rows _ (List.getElem_mem ip)
        have five := ok.five _ (List.getElem_mem ip)
        rw [eR] at rz rok five
        have lz : zs.length = (rowsOfP P q.part).length := by rw [rz.length, List.length_map]
        refine ⟨_, rfl, a, _, 0, _, rfl, rfl, SqT.of (sH5 _ _ ha), atI_nat (j := 0) rfl, _, rfl, b, xs, (q.part : Int), .ref c, rfl, rfl, SqT.of (sH5 _ _ hb), atI_nat hy0, _, rfl, _, rfl, c, zs, rfl, SqT.of (sH5 _ _ hc), fun sl H7 s7 hsl => ?_⟩
        rw [cut_take] at hsl
        refine ⟨sl, _, rfl, hsl, ?_⟩
        refine for_it (walk_enumT (xs := zs.take q.many)) (fun j σ H8 => ∃ (o11 o12 o13 : Option V) (ns : List WayAt) (ls : List Ent), σ = [some (.ref a), some (.ref c0), some (nV own), some (nV index), some (.ref Fr), some (.ref D5), some (.ref Wd), some (.ref Lg), some (.ref q.a), some (nV q.part), some (nV q.many), o11, o12, o13] ∧ Keep H7 H8 ∧ Mid P own index t H1 D5 Wd Lg es ws H8 ns ls (fun k => (∃ q ∈ es.take i, Names P q.part q.many k) ∨ Names P q.part j k) (rowsF P own q.part q.ps (entsF P own (levelF P own index t).1 ((levelF P own index t).2.take i)) j))
          ⟨o11, o12, o13, ns, ls, rfl, .of (.refl _), m.cover s7 fun k hk _ => .inl (hk.elim id fun z => by obtain ⟨j, _, hj, _⟩ := z; exact absurd hj (Nat.not_lt_zero j))⟩ (fun j σ H8 _ z => by obtain ⟨o11, o12, o13, ns, ls, _, kp, _⟩ := z; exact SqT.keep kp hsl) ?_ ?_
        · rintro j y σ H8 H9 hj ⟨p11, p12, p13, ns, ls, rfl, kp, m⟩ ⟨T0, y1, y2, rfl, nT0, rfl, h1, h2⟩
          obtain rfl : V.int (j : Nat) = y1 := Option.some.inj h1
          have hz : (zs.take q.many)[j]? = some y2 := h2
          have jm : j < q.many ∧ j < zs.length := by rw [List.length_take] at hj; omega
          rw [List.getElem?_take, if_pos jm.1] at hz
          obtain ⟨d, hd, rd⟩ := rz.get hz
          have jl : j < (rowsOfP P q.part).length := by omega
          rw [List.getElem?_map, List.getElem?_eq_getElem jl] at hd
          obtain rfl := Option.some.inj hd
          have hr0 : (rowsOfP P q.part)[j]? = some (rowsOfP P q.part)[j] := List.getElem?_eq_getElem jl
          have ro := rok _ (List.getElem_mem jl)
          generalize (rowsOfP P q.part)[j] = row at *
          refine ⟨T0, _, rfl, SqT.of upd_same, rfl, _, _, rfl, _, _, rfl, rfl, ?_⟩
          have sT : Same H8 (upd H8 T0 (.tup [.int (j : Nat), y2])) := same_new nT0
          have kT := kp.trans (.of sT)
          have mT := m.cover sT (C' := fun k => (∃ q ∈ es.take i, Names P q.part q.many k) ∨ Names P q.part j k) fun k hk _ => .inl hk
          have hT : upd H8 T0 (.tup [.int (j : Nat), y2]) T0 = some (HO.tup [.int (j : Nat), y2]) := upd_same
          generalize upd H8 T0 (.tup [.int (j : Nat), y2]) = H9 at *
          dsimp only [gName, List.set]
          have cov : ∀ {k : Nat}, Names P q.part (j + 1) k → Names P q.part j k ∨ namedOf row = some k := fun {k} h => by
            obtain ⟨j2, r2, hj2, hr2, hk2⟩ := h
            rcases Nat.lt_or_ge j2 j with z | z
            · exact .inl ⟨j2, r2, z, hr2, hk2⟩
            · have e : j2 = j := by omega
              rw [e, hr0] at hr2
              exact .inr (by rw [Option.some.inj hr2]; exact hk2)
          refine ⟨_, rfl, y2, S, row, rfl, rd.sm (s1.trans mT.sm), fun H10 s10 => ⟨_, rfl, ?_⟩⟩
          have mT := mT.cover s10 (C' := fun k => (∃ q ∈ es.take i, Names P q.part q.many k) ∨ Names P q.part j k) fun k hk _ => .inl hk
          have kT := kT.trans (.of s10)
          have skip : ∀ H11, Same H10 H11 → (∀ k, namedOf row = some k → Free P own k → k ∈ keysW (ws ++ ns)) → rowF P own q.part q.ps (rowsF P own q.part q.ps (entsF P own (levelF P own index t).1 ((levelF P own index t).2.take i)) j) j = rowsF P own q.part q.ps (entsF P own (levelF P own index t).1 ((levelF P own index t).2.take i)) j → ∃ (o11 o12 o13 : Option V) (ns : List WayAt) (ls : List Ent), [some (V.ref a), some (.ref c0), some (nV own), some (nV index), some (.ref Fr), some (.ref D5), some (.ref Wd), some (.ref Lg), some (.ref q.a), some (nV q.part), some (nV q.many), some (.int (j : Nat)), some y2, p13] = [some (V.ref a), some (.ref c0), some (nV own), some (nV index), some (.ref Fr), some (.ref D5), some (.ref Wd), some (.ref Lg), some (.ref q.a), some (nV q.part), some (nV q.many), o11, o12, o13] ∧ Keep H7 H11 ∧ Mid P own index t H1 D5 Wd Lg es ws H11 ns ls (fun k => (∃ q ∈ es.take i, Names P q.part q.many k) ∨ Names P q.part (j + 1) k) (rowsF P own q.part q.ps (entsF P own (levelF P own index t).1 ((levelF P own index t).2.take i)) (j + 1)) := fun H11 s11 h hF =>
            ⟨_, _, _, ns, ls, rfl, kT.trans (.of s11), mT.cover s11 (fun k hk hf => hk.elim (fun z => .inl (.inl z)) (fun z => (cov z).elim (fun z => .inl (.inr z)) fun z => .inr (h k z hf))) (by rw [rowsF_succ, hF])⟩
          cases e : namedOf row with
          | none =>
            refine iteF (iteF ?_)
            exact skip _ (.refl _) (fun k z => by rw [e] at z; exact nomatch z) (rowF_none (by rw [hr0]; exact e))
          | some n0 =>
            refine iteT ?_
            have rr := fun H' (s : Same H10 H') => rd.sm (s1.trans (mT.sm.trans s))
            refine ⟨_, rfl, y2, S, row, P.c, n0, rfl, rr _ (.refl _), ro, e, _, rfl, Fr, _, rfl, .inl (SqL.of (mT.sm _ _ hF)), rfl, flat_nat l, _, rfl, ?_⟩
            rw [if_neg (by decide), show inV (V.int (n0 : Nat)) (l.map nV) = inV (nV n0) (l.map nV) from rfl, inV_nat]
            refine ite2 (fun c1 => ?_) (fun c1 => ?_)
            · have fr : Free P own n0 := ((memF n0).mp (by simpa using c1)).2
              refine ⟨_, rfl, y2, S, row, P.c, n0, rfl, rr _ (.refl _), ro, e, _, rfl, D5, _, rfl, DGet.k (k := .inl (n0 : Int)) mT.d5, _, rfl, ?_⟩
              by_cases kin : n0 ∈ keysW (ws ++ ns)
              · obtain ⟨z, _, _, ev⟩ := valW_some mT.nd kin
                rw [ev]
                refine iteF ?_
                exact skip _ (.refl _) (fun k z _ => by rw [e] at z; injection z with z; rw [← z]; exact kin) (rowF_skip (by rw [hr0]; exact e) fun z => z.2 (by rw [← mT.dt, keys_dat]; exact kin))
              · rw [valW_none kin]
                refine iteT ?_
                have mln := mT.len four top.mem
                have mtl := top.tl ne
                have eo2 := mT.en q hq
                obtain ⟨wxs, hwa, nwa, rwx⟩ := eo2.rep.lstI
                have lwx : wxs.length = t := by rw [rwx.length, List.length_map, eo2.len]
                refine ⟨_, rfl, y2, S, row, P.c, n0, rfl, rr _ (.refl _), ro, e, ?_⟩
                dsimp only [gName, List.set]
                refine ⟨_, rfl, _, rfl, _, rfl, by show 2 ≤ sizeLine; decide, fun tp ntp => ⟨by show 1 ≤ sizeLine; decide, fun bq nbq => ?_⟩⟩
                have s11 : Same H10 (upd H10 tp (.tup [nV q.part, .int (j : Nat)])) := same_new ntp
                have htp : upd H10 tp (.tup [nV q.part, .int (j : Nat)]) tp = some (HO.tup [nV q.part, .int (j : Nat)]) := upd_same
                generalize upd H10 tp (.tup [nV q.part, .int (j : Nat)]) = H11 at *
                have s12 : Same H11 (upd H11 bq (.lst [.ref tp])) := same_new nbq
                have hbq : upd H11 bq (.lst [.ref tp]) bq = some (HO.lst [.ref tp]) := upd_same
                generalize upd H11 bq (.lst [.ref tp]) = H12 at *
                refine ⟨q.a, bq, wxs, [.ref tp], rfl, rfl, s12 _ _ (s11 _ _ hwa), hbq, by rw [lwx, sizeLine_eq]; show t + 1 ≤ _; omega, fun p np => ?_⟩
                have s13 : Same H12 (upd H12 p (.lst (wxs ++ [.ref tp]))) := same_new np
                have hp : upd H12 p (.lst (wxs ++ [.ref tp])) p = some (HO.lst (wxs ++ [.ref tp])) := upd_same
                have s03 := (s11.trans s12).trans s13
                generalize upd H12 p (.lst (wxs ++ [.ref tp])) = H13 at *
                have np0 : H10 p = none := same_none (s11.trans s12) np
                have isL := mT.lg
                have is5 := mT.d5
                have rp : Rep [Lg, D5] H13 (.ref p) (stsD (q.ps ++ [(q.part, j)])) := by
                  unfold stsD
                  rw [List.map_append]
                  refine .lst hp (fun z => ?_) ((rwx.sm s03).app (.cons (.tup (s13 _ _ (s12 _ _ htp)) (fun z => ?_) (.cons (.int _) (.cons (.int _) .nil))) .nil))
                  · rcases List.mem_cons.mp z with z | z
                    · rw [z, isL] at np0; exact nomatch np0
                    · rw [List.mem_singleton.mp z, is5] at np0; exact nomatch np0
                  · rcases List.mem_cons.mp z with z | z
                    · rw [z, isL] at ntp; exact nomatch ntp
                    · rw [List.mem_singleton.mp z, is5] at ntp; exact nomatch ntp
                have h5 := s03 _ _ is5
                have hL := s03 _ _ isL
                have kv : valV ((ws ++ ns).map WayAt.kv) (.inl (n0 : Int)) = none := valW_none kin
                refine ⟨_, rfl, _, rfl, D5, _, rfl, DPut.k (k := .inl (n0 : Int)) h5 (by rw [List.length_map, List.length_append, sizeLine_eq]; omega), ?_⟩
                have ed : HO.dK (putK ((ws ++ ns).map WayAt.kv) (.inl (n0 : Int)) (.ref p)) = dW (ws ++ (ns ++ [mkW q j n0 p])) := by
                  rw [putK_new _ kv]
                  unfold dW
                  rw [← List.append_assoc, List.map_append (l₁ := ws ++ ns) (l₂ := [mkW q j n0 p])]
                  rfl
                have vd : valV ((ws ++ (ns ++ [mkW q j n0 p])).map WayAt.kv) (.inl (n0 : Int)) = some (.ref p) := by
                  rw [← List.append_assoc, List.map_append (l₁ := ws ++ ns) (l₂ := [mkW q j n0 p])]
                  exact valV_last kv
                rw [ed]
                have kn : n0 < P.parts.length := ((links_ok ok).at q.part).2 _ (names_at ⟨j, row, jm.1, hr0, e⟩)
                obtain ⟨y3, hy3, ry3⟩ := rs.at_ (i := n0) (d := rowsD P.parts[n0]) (by rw [List.getElem?_map, List.getElem?_eq_getElem kn]; rfl)
                obtain ⟨c2, zs2, rfl, hc2, _, rz2⟩ := ry3.tupV
                have eR2 : P.parts[n0] = rowsOfP P n0 := by unfold rowsOfP; rw [List.getD_eq_getElem?_getD, List.getElem?_eq_getElem kn]; rfl
                have lz2 : zs2.length = (rowsOfP P n0).length := by rw [rz2.length, List.length_map, eR2]
                have sA : Same H (upd H13 D5 (dW (ws ++ (ns ++ [mkW q j n0 p])))) := same_own (s1.trans (mT.sm.trans s03)) n50
                have hLA : upd H13 D5 (dW (ws ++ (ns ++ [mkW q j n0 p]))) Lg = some (.lst (ls.map fun q => V.ref q.e)) := by rw [upd_ne d5L.symm]; exact hL
                refine ⟨_, rfl, .inl ⟨rfl, _, SqL.of hLA⟩, _, rfl, _, rfl, D5, .ref p, rfl, by rw [← vd]; exact DGet.k (k := .inl (n0 : Int)) upd_same, _, rfl, _, rfl, a, _, 0, _, rfl, rfl, SqT.of (sA _ _ ha), atI_nat (j := 0) rfl, _, rfl, b, xs, (n0 : Int), .ref c2, rfl, rfl, SqT.of (sA _ _ hb), atI_nat hy3, c2, zs2, rfl, .inr (SqT.of (sA _ _ hc2)), by show 3 ≤ sizeLine; decide, fun te nte => ?_⟩
                rw [lz2]
                have hLB : upd (upd H13 D5 (dW (ws ++ (ns ++ [mkW q j n0 p])))) te (tE P n0 p) Lg = some (.lst (ls.map fun q => V.ref q.e)) := same_new nte _ _ hLA
                refine ⟨Lg, _, _, rfl, rfl, hLB, by rw [List.length_map, sizeLine_eq]; omega, ?_⟩
                have nte0 : H13 te = none := by
                  rw [upd_ne fun z => ?_] at nte
                  · exact nte
                  · rw [z, upd_same] at nte; exact nomatch nte
                have el : HO.lst ((ls.map fun q => V.ref q.e) ++ [V.ref te]) = eL (ls ++ [mkE P q j n0 p te]) := by
                  unfold eL
                  rw [List.map_append]
                  rfl
                rw [el]
                have fin3 := (Mid.add ok mT top.mem n5 nL0 d5L wdL hq jm.1 hr0 e fr kin s03 np0 rp nte0)
                refine ⟨_, _, _, ns ++ [mkW q j n0 p], ls ++ [mkE P q j n0 p te], rfl, kT.trans ((Keep.of s03).trans ((Keep.dk h5).trans ((Keep.of (same_new nte)).trans (Keep.lst hLB)))), fin3.cover (.refl _) (fun k hk _ => .inl ?_) (by rw [rowsF_succ, rowF_add (by rw [hr0]; exact e) fr (by rw [← mT.dt, keys_dat]; exact kin)])⟩
                rcases hk with z | z
                · exact .inl (.inl z)
                · rcases cov z with z | z
                  · exact .inl (.inr z)
                  · rw [e] at z
                    injection z with z
                    exact .inr z.symm
            · have nf : ¬ Free P own n0 := fun f => by
                have z := (links_ok ok).at q.part
                exact absurd ((memF n0).mpr ⟨z.2 _ (names_at ⟨j, row, jm.1, hr0, e⟩), f⟩) (by simpa using c1)
              refine iteF ?_
              exact skip _ (.refl _) (fun k z hf => by rw [e] at z; injection z with z; rw [← z] at hf; exact absurd hf nf) (rowF_skip (by rw [hr0]; exact e) fun z => nf z.1)
        · rintro σ H8 ⟨p11, p12, p13, ns, ls, rfl, kp, m⟩
          refine ⟨some (.ref q.a), some (nV q.part), some (nV q.many), p11, p12, p13, ns, ls, rfl, m.cover (.refl _) (fun k hk _ => .inl ?_) (by rw [entsF_succ (e := q.dat) (by rw [← top.et, List.getElem?_map, hqi]; rfl), List.length_take, rowsF_min lz.symm]; rfl)⟩
          obtain ⟨q2, hq2, nm⟩ := hk
          rw [tk] at hq2
          rcases List.mem_append.mp hq2 with z | z
          · exact .inl ⟨q2, z, nm⟩
          · rw [List.mem_singleton.mp z] at nm
            obtain ⟨j, r, hj, hr, hk⟩ := nm
            have := (List.getElem?_eq_some_iff.mp hr).1
            exact .inr ⟨j, r, by rw [List.length_take]; omega, hr, hk⟩
      · rintro σ H5 ⟨o8, o9, o10, o11, o12, o13, ns, ls, rfl, m⟩
        rw [List.length_map, List.take_length, List.take_of_length_le (by rw [← top.et, List.length_map]; exact Nat.le_refl _)] at m
        exact fin2 _ _ ⟨o8, o9, o10, o11, o12, o13, ns, ls, rfl, m⟩
    · have e : es = [] := by
        cases es with
        | nil => rfl
        | cons _ _ => exact absurd rfl c
      subst e
      exact fin _ _ ⟨some (.ref Wd), o7, o8, o9, o10, o11, o12, o13, ws, rfl, top.sm, top.d5, top.done four⟩
end
end Lb

set_option Elab.async false
set_option linter.all false
set_option maxRecDepth 100000
set_option maxHeartbeats 4000000

namespace Lb
open PySem PySem.Spec PyProof.Rows L2
section
variable {P Pg : Program} {w : World} {K : PySem.W.Frag} {mg : Str → Option Value} {base : Heap} {A : Ad}
def sp_ready_parts : Sp := fun vs H Q _ => ∃ (v u : V) (S : List Addr) (P : Prog) (own index : Nat), vs = [v, u] ∧ Rep S H v P.d ∧ P.Ok ∧ Rep S H u (.tuple [nD own, nD index]) ∧ placeB P.d (.tuple [nD own, nD index]) = true ∧ own < P.parts.length ∧ ∀ (p : Addr) (H' : Hp) (l : List Nat), Same H H' → H p = none → H' p = some (.lst (l.map nV)) → l.Pairwise (· < ·) → (∀ k, k ∈ l ↔ RdyP P own index 4 k) → Q (.ref p) H'
theorem ok_ready_parts (T : Txt K w mg A) : FnOk Pg w K mg base CX0 14 A.f_ready_parts A.d_ready_parts ["program", "place"] (sp_ready_parts) := by
  refine T.F_ready_parts.ok sc_ready_parts (fun vs H Q E h => ?_) (fun cdv Ar outer s H vs Q E hr h => ?_)
  · obtain ⟨v, u, S, P, own, index, rfl, r, ok, ru, pb, lo, k⟩ := h
    rfl
  · obtain ⟨v, u, S, P, own, index, rfl, r, ok, ru, pb, lo, k⟩ := h
    refine ⟨_, PSs.nox ((pss_cons (ps_expr (pe_call (ok_demand_program T) (hr.mono (by decide)) rfl T.m_demand_program T.F_demand_program.kp (b_demand_program T) .nil pass0 (pa_cons (pv 0) pa_nil)))
 (pss_cons (ps_expr (pe_call (ok_demand_place T) (hr.mono (by decide)) rfl T.m_demand_place T.F_demand_place.kp (b_demand_place T) .nil pass0 (pa_cons (pv 0) (pa_cons (pv 1) pa_nil))))
 (pss_one (ps_ret (pe_callB (call_sortedDI rfl) (by rfl) T.zsorted (by decide +kernel) (pa_cons (pe_call (ok_ways_to_ready_parts T) hr rfl T.m_ways_to_ready_parts T.F_ways_to_ready_parts.kp (b_ways_to_ready_parts T) .nil pass0 (pa_cons (pv 0) (pa_cons (pv 1) pa_nil))) pa_nil))))))), ?_⟩
    rw [show start N_ready_parts [v, u] = [some (v), some (u)] from rfl]
    refine ⟨_, rfl, v, S, P.d, rfl, r, prog_ok ok, fun H1 s1 => ?_⟩
    refine ⟨_, rfl, _, rfl, v, u, S, P.d, _, rfl, r.sm s1, prog_ok ok, ru.sm s1, pb, fun H2 s2 => ?_⟩
    have s02 := s1.trans s2
    refine ⟨_, rfl, _, rfl, v, u, S, P, own, index, rfl, r.sm s02, ok, ru.sm s02, lo, fun p H3 ws s3 np hp wa => ?_⟩
    have four := ok.four
    have lw := nodup_lt (n := P.parts.length) wa.nd fun k hk => ((wa.mem k).mp hk).lt
    refine ⟨p, _, (keysW ws).map fun (k : Nat) => (k : Int), rfl, .inl hp, ?_, by rw [List.length_map]; omega, fun ys q pm st nq => ?_⟩
    · rw [List.map_map, List.map_map, List.map_map]
      rfl
    obtain ⟨l, el, up, mem⟩ := sorted_nats pm st wa.nd
    rw [el]
    exact k q _ l (s02.trans (s3.trans (same_new nq))) (same_none (s02.trans s3) nq) upd_same up fun k => by rw [mem, wa.mem]
end
end Lb

set_option Elab.async false
set_option linter.all false
set_option maxRecDepth 100000
set_option maxHeartbeats 4000000

namespace Lb
open PySem PySem.Spec PyProof.Rows L2
section
variable {P Pg : Program} {w : World} {K : PySem.W.Frag} {mg : Str → Option Value} {base : Heap} {A : Ad}
def sp_gives_name : Sp := fun vs H Q _ => ∃ (v : V) (S : List Addr) (rw_ : Row) (s : Str), vs = [v, .str s] ∧ Rep S H v rw_.d ∧ ∀ H', Same H H' → Q (.bl (givesB rw_ s)) H'
theorem ok_gives_name (T : Txt K w mg A) : FnOk Pg w K mg base CX0 1 A.f_gives_name A.d_gives_name ["row", "name"] (sp_gives_name) := by
  refine T.F_gives_name.ok sc_gives_name (fun vs H Q E h => ?_) (fun cdv Ar outer s H vs Q E hr h => ?_)
  · obtain ⟨v, S, rw_, s, rfl, r, k⟩ := h
    rfl
  · obtain ⟨v, S, rw_, s, rfl, r, k⟩ := h
    refine ⟨_, PSs.nox ((pss_one (ps_ret (pe_and (pe_cmpR op_in_seq (pe_ix ix_tup (pv 0) pe_int (fun _ _ => rfl)) (pe_tup (pa_cons pe_str (pa_cons pe_str (pa_cons pe_str pa_nil)))) rfl) (pe_one (pe_cmpR op_eq (pe_ix ix_tup (pv 0) pe_int (fun _ _ => rfl)) (pv 1) (nomark _))))))), ?_⟩
    rw [show start N_gives_name [v, .str s] = [some (v), some (.str s)] from rfl]
    cases rw_ with
    | load p =>
      obtain ⟨a, v0, v1, rfl, ha, r0, r1⟩ := r.two
      obtain rfl := r0.strV
      obtain rfl := r1.intV
      refine ⟨_, rfl, a, _, 0, _, rfl, rfl, SqT.of ha, atI_nat (j := 0) rfl, (by show 3 ≤ sizeLine; decide), fun t nt => ⟨t, _, rfl, .inr (SqT.of upd_same), rfl, rfl, _, rfl, ?_⟩⟩
      refine ite2 (fun c => absurd c (by decide +kernel)) (fun _ => ?_)
      exact k _ (same_new nt)
    | give n ns b =>
      obtain ⟨a, v0, v1, v2, v3, rfl, ha, r0, r1, r2, r3⟩ := r.four
      obtain rfl := r0.strV
      obtain rfl := r1.strV
      obtain rfl := r3.blV
      refine ⟨_, rfl, a, _, 0, _, rfl, rfl, SqT.of ha, atI_nat (j := 0) rfl, (by show 3 ≤ sizeLine; decide), fun t nt => ⟨t, _, rfl, .inr (SqT.of upd_same), rfl, rfl, _, rfl, ?_⟩⟩
      refine ite2 (fun _ => ?_) (fun c => absurd (by decide +kernel) c)
      refine ⟨_, rfl, a, _, 1, _, rfl, rfl, SqT.of ((same_new nt) _ _ ha), atI_nat (j := 1) rfl, _, rfl, rfl, ?_⟩
      rw [dec_str]
      exact k _ (same_new nt)
    | pass n p o =>
      obtain ⟨a, v0, v1, v2, v3, rfl, ha, r0, r1, r2, r3⟩ := r.four
      obtain rfl := r0.strV
      obtain rfl := r1.strV
      obtain rfl := r2.intV
      obtain rfl := r3.strV
      refine ⟨_, rfl, a, _, 0, _, rfl, rfl, SqT.of ha, atI_nat (j := 0) rfl, (by show 3 ≤ sizeLine; decide), fun t nt => ⟨t, _, rfl, .inr (SqT.of upd_same), rfl, rfl, _, rfl, ?_⟩⟩
      refine ite2 (fun _ => ?_) (fun c => absurd (by decide +kernel) c)
      refine ⟨_, rfl, a, _, 1, _, rfl, rfl, SqT.of ((same_new nt) _ _ ha), atI_nat (j := 1) rfl, _, rfl, rfl, ?_⟩
      rw [dec_str]
      exact k _ (same_new nt)
    | show_ ns b =>
      obtain ⟨a, v0, v1, v2, rfl, ha, r0, r1, r2⟩ := r.three
      obtain rfl := r0.strV
      obtain rfl := r2.blV
      refine ⟨_, rfl, a, _, 0, _, rfl, rfl, SqT.of ha, atI_nat (j := 0) rfl, (by show 3 ≤ sizeLine; decide), fun t nt => ⟨t, _, rfl, .inr (SqT.of upd_same), rfl, rfl, _, rfl, ?_⟩⟩
      refine ite2 (fun c => absurd c (by decide +kernel)) (fun _ => ?_)
      exact k _ (same_new nt)
    | out  =>
      obtain ⟨a, xs, rfl, ha, _, rs⟩ := r.tupV
      obtain ⟨v0, rfl, r0⟩ := rs.single
      obtain rfl := r0.strV
      refine ⟨_, rfl, a, _, 0, _, rfl, rfl, SqT.of ha, atI_nat (j := 0) rfl, (by show 3 ≤ sizeLine; decide), fun t nt => ⟨t, _, rfl, .inr (SqT.of upd_same), rfl, rfl, _, rfl, ?_⟩⟩
      refine ite2 (fun c => absurd c (by decide +kernel)) (fun _ => ?_)
      exact k _ (same_new nt)
    | late n p ns =>
      obtain ⟨a, v0, v1, v2, v3, rfl, ha, r0, r1, r2, r3⟩ := r.four
      obtain rfl := r0.strV
      obtain rfl := r1.strV
      obtain rfl := r2.intV
      refine ⟨_, rfl, a, _, 0, _, rfl, rfl, SqT.of ha, atI_nat (j := 0) rfl, (by show 3 ≤ sizeLine; decide), fun t nt => ⟨t, _, rfl, .inr (SqT.of upd_same), rfl, rfl, _, rfl, ?_⟩⟩
      refine ite2 (fun _ => ?_) (fun c => absurd (by decide +kernel) c)
      refine ⟨_, rfl, a, _, 1, _, rfl, rfl, SqT.of ((same_new nt) _ _ ha), atI_nat (j := 1) rfl, _, rfl, rfl, ?_⟩
      rw [dec_str]
      exact k _ (same_new nt)
end
end Lb

set_option Elab.async false
set_option linter.all false
set_option maxRecDepth 100000
set_option maxHeartbeats 4000000

namespace Lb
open PySem PySem.Spec PyProof.Rows L2
section
variable {P Pg : Program} {w : World} {K : PySem.W.Frag} {mg : Str → Option Value} {base : Heap} {A : Ad}
def sp_row_at : Sp := fun vs H Q _ => ∃ (v u : V) (S S' : List Addr) (P : Prog) (o i : Nat) (r_ : Row), vs = [v, u] ∧ Rep S H v P.d ∧ Rep S' H u (.tuple [nD o, nD i]) ∧ (rowsOfP P o)[i]? = some r_ ∧ ∀ x, Rep S H x r_.d → Q x H
theorem ok_row_at (T : Txt K w mg A) : FnOk Pg w K mg base CX0 1 A.f_row_at A.d_row_at ["program", "place"] (sp_row_at) := by
  refine T.F_row_at.ok sc_row_at (fun vs H Q E h => ?_) (fun cdv Ar outer s H vs Q E hr h => ?_)
  · obtain ⟨v, u, S, S', P, o, i, r_, rfl, r, ru, hr_, k⟩ := h
    rfl
  · obtain ⟨v, u, S, S', P, o, i, r_, rfl, r, ru, hr_, k⟩ := h
    refine ⟨_, PSs.nox ((pss_one (ps_ret (pe_ix ix_tup (pe_ix ix_tup (pe_ix ix_tup (pv 0) pe_int (fun _ _ => rfl)) (pe_ix ix_tup (pv 1) pe_int (fun _ _ => rfl)) (fun _ _ => rfl)) (pe_ix ix_tup (pv 1) pe_int (fun _ _ => rfl)) (fun _ _ => rfl))))), ?_⟩
    rw [show start N_row_at [v, u] = [some (v), some (u)] from rfl]
    obtain ⟨a, u0, u1, u2, u3, rfl, ha, r0, r1, r2, r3⟩ := r.four
    obtain ⟨b, xs, rfl, hb, _, rs⟩ := r0.tupV
    obtain ⟨c, v0, v1, rfl, hc, rv0, rv1⟩ := ru.two
    obtain rfl := rv0.intV
    obtain rfl := rv1.intV
    obtain ⟨rows, h1, h2⟩ := row_part hr_
    obtain ⟨y, hy, ry⟩ := rs.at_ (i := o) (d := rowsD rows) (by rw [List.getElem?_map, h1]; rfl)
    obtain ⟨cz, zs, rfl, hcz, _, rz⟩ := ry.tupV
    obtain ⟨x, hx, rx⟩ := rz.at_ (i := i) (d := r_.d) (by rw [List.getElem?_map, h2]; rfl)
    exact ⟨_, rfl, a, _, 0, _, rfl, rfl, SqT.of (ha), atI_nat (j := 0) rfl, _, rfl, c, _, 0, _, rfl, rfl, SqT.of hc, atI_nat (j := 0) rfl, b, xs, (o : Int), .ref cz, rfl, rfl, SqT.of hb, atI_nat hy, _, rfl, c, _, 1, _, rfl, rfl, SqT.of hc, atI_nat (j := 1) rfl, cz, zs, (i : Int), x, rfl, rfl, SqT.of hcz, atI_nat hx, k x rx⟩
def sp_givers_of : Sp := fun vs H Q _ => ∃ (v u : V) (S S' : List Addr) (P : Prog) (part : Nat) (s : Str), vs = [v, u] ∧ Rep S H v P.d ∧ P.Ok ∧ Rep S' H u (.tuple [nD part, .str s]) ∧ part < P.parts.length ∧ ∀ (p : Addr) (H' : Hp) (ys : List V), Same H H' → H p = none → H' p = some (.lst ys) → Reps [] H' ys ((giversP P part s).map stD) → Q (.ref p) H'
theorem ok_givers_of (T : Txt K w mg A) : FnOk Pg w K mg base CX0 2 A.f_givers_of A.d_givers_of ["program", "need"] (sp_givers_of) := by
  refine T.F_givers_of.ok sc_givers_of (fun vs H Q E h => ?_) (fun cdv Ar outer s H vs Q E hr h => ?_)
  · obtain ⟨v, u, S, S', P, part, s, rfl, r, ok, ru, lp, k⟩ := h
    rfl
  · obtain ⟨v, u, S, S', P, part, s, rfl, r, ok, ru, lp, k⟩ := h
    refine ⟨_, PSs.nox ((pss_cons (ps_asg (pv 1) (pg_tup (by rfl) (pgs_cons (pg_name (i := 2) sc_givers_of.nd rfl (Or.inr rfl)) (pgs_cons (pg_name (i := 3) sc_givers_of.nd rfl (Or.inr rfl)) pgs_nil))))
 (pss_one (ps_ret (pe_lc (own := [("index", 4), ("row", 5)]) (g := (gTup _ 2 (gCons (gName 4) (gCons (gName 5) gNil)))) (tt := _) rfl sc_givers_of.nd (pi_enumT (by rfl) T.zenumerate (pa_cons (pe_ix ix_tup (pe_ix ix_tup (pv 0) pe_int (fun _ _ => rfl)) (pv 2) (fun _ _ => rfl)) pa_nil)) (blkOk_by (N := N_givers_of) (sc := defScope s_givers_of) (by decide +kernel)) (fun _ _ _ _ _ => (pg_tup (by rfl) (pgs_cons (pg_name (i := 4) sc_givers_of.nd rfl (Or.inl rfl)) (pgs_cons (pg_name (i := 5) sc_givers_of.nd rfl (Or.inl rfl)) pgs_nil)))) (fun _ _ _ _ _ => (pts_one (pt_val (pe_call (ok_gives_name T) hr rfl T.m_gives_name T.F_gives_name.kp (b_gives_name T) .nil pass0 (pa_cons (pv 5) (pa_cons (pv 3) pa_nil)))))) (fun _ _ _ _ _ => (pe_tup (pa_cons (pv 2) (pa_cons (pv 4) pa_nil))))))))), ?_⟩
    rw [show start N_givers_of [v, u] = [some (v), some (u), none, none, none, none] from rfl]
    obtain ⟨a, u0, u1, u2, u3, rfl, ha, r0, r1, r2, r3⟩ := r.four
    obtain ⟨b, xs, rfl, hb, _, rs⟩ := r0.tupV
    obtain ⟨c0, v0, v1, rfl, hc0, rv0, rv1⟩ := ru.two
    obtain rfl := rv0.intV
    obtain rfl := rv1.strV
    obtain ⟨y0, hy0, ry0⟩ := rs.at_ (i := part) (d := rowsD P.parts[part]) (by rw [List.getElem?_map, List.getElem?_eq_getElem lp]; rfl)
    obtain ⟨c, zs, rfl, hc, _, rz⟩ := ry0.tupV
    have eR : P.parts[part] = rowsOfP P part := by unfold rowsOfP; rw [List.getD_eq_getElem?_getD, List.getElem?_eq_getElem lp]; rfl
    rw [eR] at rz
    have five := rowsOfP_len ok part
    have lz : zs.length = (rowsOfP P part).length := by rw [rz.length, List.length_map]
    refine ⟨_, rfl, c0, _, rfl, SqT.of hc0, rfl, _, _, rfl, _, _, rfl, rfl, ?_⟩
    dsimp only [gName, List.set]
    refine ⟨_, rfl, a, _, 0, _, rfl, rfl, SqT.of (ha), atI_nat (j := 0) rfl, _, rfl, b, xs, (part : Int), .ref c, rfl, rfl, SqT.of hb, atI_nat hy0, c, zs, rfl, SqT.of hc, fun D nD => ?_⟩
    refine lc_it (walk_enumT (xs := zs)) (fun i H' => Same H H' ∧ ∃ acc : List V, H' D = some (.lst acc) ∧ acc.length ≤ i ∧ Reps [D] H' acc ((giversTo P part s i).map stD)) ⟨same_new nD, [], upd_same, Nat.le_refl _, .nil⟩ (fun i H' _ p => SqT.of (p.1 _ _ hc)) ?_ ?_
    · rintro i x H2 H3 hi ⟨s2, acc, hD, la, rA⟩ ⟨T0, x1, x2, rfl, nT0, rfl, h1, h2⟩
      obtain rfl : V.int (i : Nat) = x1 := Option.some.inj h1
      have h2 : zs[i]? = some x2 := h2
      obtain ⟨d, hd, rd⟩ := rz.get h2
      have il : i < (rowsOfP P part).length := by omega
      have hr0 : (rowsOfP P part)[i]? = some (rowsOfP P part)[i] := List.getElem?_eq_getElem il
      rw [List.getElem?_map, hr0] at hd
      obtain rfl := Option.some.inj hd
      have eg : (rowsOfP P part).getD i .out = (rowsOfP P part)[i] := by rw [List.getD_eq_getElem?_getD, hr0]; rfl
      have yes := @giversTo_yes P part s i
      have no := @giversTo_no P part s i
      rw [eg] at yes no
      generalize (rowsOfP P part)[i] = row at *
      have sT : Same H2 (upd H2 T0 (.tup [.int (i : Nat), x2])) := same_new nT0
      refine ⟨T0, _, rfl, SqT.of upd_same, rfl, _, _, rfl, _, _, rfl, rfl, rfl, ?_⟩
      refine ⟨_, rfl, _, rfl, x2, S, row, s, rfl, rd.sm (s2.trans sT), fun H4 s4 => ⟨_, rfl, ?_⟩⟩
      have s24 := sT.trans s4
      have hD4 := s24 _ _ hD
      refine ite2 (fun c => ?_) (fun c => ?_)
      · refine ⟨_, rfl, _, rfl, by show 2 ≤ sizeLine; decide, fun t nt => ?_⟩
        have st : Same H4 (upd H4 t (.tup [.int (part : Nat), .int (i : Nat)])) := same_new nt
        have tD : t ≠ D := fun e => by rw [e, hD4] at nt; exact nomatch nt
        refine ⟨acc, st _ _ hD4, by rw [sizeLine_eq]; omega, same_own ((s2.trans s24).trans st) nD, acc ++ [.ref t], upd_same, by rw [List.length_append]; show acc.length + 1 ≤ i + 1; omega, ?_⟩
        have bt : But [D] H2 (upd (upd H4 t (.tup [.int (part : Nat), .int (i : Nat)])) D (.lst (acc ++ [.ref t]))) := (But.of (s24.trans st)).upd List.mem_cons_self
        rw [yes c, List.map_append]
        exact (rA.mv bt).app (.one (.tup (by rw [upd_ne tD]; exact upd_same) (fun z => tD (List.mem_singleton.mp z)) (.cons (.int _) (.cons (.int _) .nil))))
      · refine ⟨s2.trans s24, acc, hD4, by omega, ?_⟩
        rw [no c]
        exact rA.sm s24
    · rintro H2 ⟨s2, acc, hD, la, rA⟩
      rw [lz] at rA
      exact k D H2 acc s2 nD hD (rA.less fun _ z => absurd z List.not_mem_nil)
def sp_is_done_before : Sp := fun vs H Q _ => ∃ (u w_ : V) (S S' : List Addr) (own index o i : Nat) (rd : Addr) (lr : List Nat), vs = [u, .ref rd, w_] ∧ Rep S H u (.tuple [nD own, nD index]) ∧ H rd = some (.lst (lr.map nV)) ∧ Rep S' H w_ (stD (o, i)) ∧ Q (.bl (aheadB own index lr (o, i))) H
theorem ok_is_done_before (T : Txt K w mg A) : FnOk Pg w K mg base CX0 1 A.f_is_done_before A.d_is_done_before ["place", "ready", "other"] (sp_is_done_before) := by
  refine T.F_is_done_before.ok sc_is_done_before (fun vs H Q E h => ?_) (fun cdv Ar outer s H vs Q E hr h => ?_)
  · obtain ⟨u, w_, S, S', own, index, o, i, rd, lr, rfl, ru, hrd, rw_, k⟩ := h
    rfl
  · obtain ⟨u, w_, S, S', own, index, o, i, rd, lr, rfl, ru, hrd, rw_, k⟩ := h
    refine ⟨_, PSs.nox ((pss_one (ps_ret (pe_or (pe_cmpR op_in_seq (pe_ix ix_tup (pv 2) pe_int (fun _ _ => rfl)) (pv 1) rfl) (pe_one (pe_and (pe_cmpR op_eq (pe_ix ix_tup (pv 2) pe_int (fun _ _ => rfl)) (pe_ix ix_tup (pv 0) pe_int (fun _ _ => rfl)) (nomark _)) (pe_one (pe_cmpR op_lt (pe_ix ix_tup (pv 2) pe_int (fun _ _ => rfl)) (pe_ix ix_tup (pv 0) pe_int (fun _ _ => rfl)) (nomark _))))))))), ?_⟩
    rw [show start N_is_done_before [u, .ref rd, w_] = [some (u), some (.ref rd), some (w_)] from rfl]
    obtain ⟨c0, v0, v1, rfl, hc0, rv0, rv1⟩ := ru.two
    obtain rfl := rv0.intV
    obtain rfl := rv1.intV
    obtain ⟨c1, w0, w1, rfl, hc1, rw0, rw1⟩ := rw_.two
    obtain rfl := rw0.intV
    obtain rfl := rw1.intV
    refine ⟨_, rfl, c1, _, 0, _, rfl, rfl, SqT.of hc1, atI_nat (j := 0) rfl, _, rfl, rd, _, rfl, .inl (SqL.of hrd), rfl, flat_nat lr, _, rfl, ?_⟩
    rw [show (if false = true then !inV (V.int ((o, i).1 : Nat)) (lr.map nV) else inV (V.int ((o, i).1 : Nat)) (lr.map nV)) = decide (o ∈ lr) from inV_nat o lr]
    unfold aheadB at k
    dsimp only at k
    refine ite2 (fun c => ?_) (fun c => ?_)
    · rw [c, Bool.true_or] at k
      exact k
    · rw [Bool.eq_false_iff.mpr c, Bool.false_or] at k
      refine ⟨_, rfl, c1, _, 0, _, rfl, rfl, SqT.of hc1, atI_nat (j := 0) rfl, _, rfl, c0, _, 0, _, rfl, rfl, SqT.of hc0, atI_nat (j := 0) rfl, rfl, _, rfl, ?_⟩
      dsimp only
      rw [show V.int (own : Nat) = nV own from rfl, dec_nat]
      refine ite2 (fun c2 => ?_) (fun c2 => ?_)
      · rw [c2, Bool.true_and] at k
        refine ⟨_, rfl, c1, _, 1, _, rfl, rfl, SqT.of hc1, atI_nat (j := 1) rfl, _, rfl, c0, _, 1, _, rfl, rfl, SqT.of hc0, atI_nat (j := 1) rfl, _, _, rfl, rfl, ?_⟩
        dsimp only
        rw [show decide ((i : Int) < (index : Int)) = decide (i < index) by rw [Bool.eq_iff_iff, decide_eq_true_eq, decide_eq_true_eq]; omega]
        exact k
      · rw [Bool.eq_false_iff.mpr c2, Bool.false_and] at k
        exact k
end
end Lb

set_option Elab.async false
set_option linter.all false
set_option maxRecDepth 100000
set_option maxHeartbeats 4000000

namespace Lb
open PySem PySem.Spec PyProof.Rows L2
section
variable {P Pg : Program} {w : World} {K : PySem.W.Frag} {mg : Str → Option Value} {base : Heap} {A : Ad}
def sp_is_sure : Sp := fun vs H Q _ => ∃ (v u w_ : V) (S S' : List Addr) (P : Prog) (own index part : Nat) (s : Str) (rd : Addr) (lr : List Nat), vs = [v, u, .ref rd, w_] ∧ Rep S H v P.d ∧ P.Ok ∧ Rep S H u (.tuple [nD own, nD index]) ∧ H rd = some (.lst (lr.map nV)) ∧ Rep S' H w_ (.tuple [nD part, .str s]) ∧ part < P.parts.length ∧ ∀ H', Same H H' → Q (.bl (sureB P own index lr (part, s))) H'
theorem ok_is_sure (T : Txt K w mg A) : FnOk Pg w K mg base CX0 3 A.f_is_sure A.d_is_sure ["program", "place", "ready", "need"] (sp_is_sure) := by
  refine T.F_is_sure.ok sc_is_sure (fun vs H Q E h => ?_) (fun cdv Ar outer s H vs Q E hr h => ?_)
  · obtain ⟨v, u, w_, S, S', P, own, index, part, s, rd, lr, rfl, r, ok, ru, hrd, rw_, lp, k⟩ := h
    rfl
  · obtain ⟨v, u, w_, S, S', P, own, index, part, s, rd, lr, rfl, r, ok, ru, hrd, rw_, lp, k⟩ := h
    refine ⟨_, PSs.nox ((pss_cons (ps_set (i := 4) sc_is_sure.nd rfl (Or.inl rfl) (pe_call (ok_givers_of T) hr rfl T.m_givers_of T.F_givers_of.kp (b_givers_of T) .nil pass0 (pa_cons (pv 0) (pa_cons (pv 3) pa_nil))))
 (pss_cons (ps_if (pt_val (pe_callB (cr_any rfl) (by rfl) T.zany (by decide +kernel) (pa_cons (pe_lc (own := [("giver", 5)]) (g := (gName 5)) (tt := tYes) rfl sc_is_sure.nd (pi_list (pv 4)) (blkOk_by (N := N_is_sure) (sc := defScope s_is_sure) (by decide +kernel)) (fun _ _ _ _ _ => (pg_name (i := 5) sc_is_sure.nd rfl (Or.inl rfl))) (fun _ _ _ _ _ => pts_nil) (fun _ _ _ _ _ => (pe_cmpR op_eq (pe_ix (show IxR _ (rIxT K) from ix_tup) (pe_call (ok_row_at T) (hr.mono (by decide)) rfl T.m_row_at T.F_row_at.kp (b_row_at T) .nil pass0 (pa_cons (pv 0) (pa_cons (pv 5) pa_nil))) pe_int (fun _ _ => rfl)) pe_str (nomark _)))) pa_nil))) (pss_one (ps_ret pe_bl)) pss_nil)
 (pss_one (ps_ret (pe_callB (cr_any rfl) (by rfl) T.zany (by decide +kernel) (pa_cons (pe_lc (own := [("giver", 5)]) (g := (gName 5)) (tt := tYes) rfl sc_is_sure.nd (pi_list (pv 4)) (blkOk_by (N := N_is_sure) (sc := defScope s_is_sure) (by decide +kernel)) (fun _ _ _ _ _ => (pg_name (i := 5) sc_is_sure.nd rfl (Or.inl rfl))) (fun _ _ _ _ _ => pts_nil) (fun _ _ _ _ _ => (pe_call (ok_is_done_before T) (hr.mono (by decide)) rfl T.m_is_done_before T.F_is_done_before.kp (b_is_done_before T) .nil pass0 (pa_cons (pv 1) (pa_cons (pv 2) (pa_cons (pv 5) pa_nil)))))) pa_nil))))))), ?_⟩
    rw [show start N_is_sure [v, u, .ref rd, w_] = [some (v), some (u), some (.ref rd), some (w_), none, none] from rfl]
    refine ⟨_, rfl, _, rfl, v, w_, S, S', P, part, s, rfl, r, ok, rw_, lp, fun g H1 ys s1 ng hg ry => ?_⟩
    have few := giversP_len ok part s
    have ly : ys.length = (giversP P part s).length := by rw [ry.length, List.length_map]
    have rowq : ∀ q ∈ giversP P part s, (rowsOfP P q.1)[q.2]? = some (rowP P q) := fun q hq => giversP_row hq
    unfold sureB at k
    dsimp only at k
    generalize giversP P part s = gs at *
    dsimp only [gName, List.set]
    have itemE : ∀ {i : Nat} {x : V} {H' : Hp}, Same H1 H' → i < gs.length → ys[i]? = some x → Rep [] H' x (stD (gs.getD i (0, 0))) ∧ gs.getD i (0, 0) ∈ gs := fun {i x H'} s' il hx => by
      obtain ⟨d, hd, rx⟩ := (ry.sm s').get hx
      have eg : gs.getD i (0, 0) = gs[i] := by rw [List.getD_eq_getElem?_getD, List.getElem?_eq_getElem il]; rfl
      rw [List.getElem?_map, List.getElem?_eq_getElem il] at hd
      obtain rfl := Option.some.inj hd
      rw [eg]
      exact ⟨rx, List.getElem_mem il⟩
    refine ⟨_, rfl, g, rfl, ⟨_, SqL.of hg⟩, fun D nD => ?_⟩
    refine lc_pure (walk_list (xs := ys)) nD (fun i => V.bl (passB (rowP P (gs.getD i (0, 0))))) (by rw [sizeLine_eq]; omega) (fun H' s' => SqL.of (s' _ _ hg)) ?_ ?_
    · rintro i x H3 H2 F2 hi s2 ⟨rfl, hx⟩ yes
      obtain ⟨rx, hq⟩ := itemE s2 (by omega) hx
      have hrow := rowq _ hq
      generalize gs.getD i (0, 0) = q at *
      obtain ⟨o, j⟩ := q
      refine ⟨rfl, _, rfl, _, rfl, v, x, S, [], P, o, j, rowP P (o, j), rfl, r.sm (s1.trans s2), rx, hrow, fun y ry2 => ?_⟩
      obtain ⟨a, wd, rest, rfl, ha, ew⟩ := row_word ry2
      refine ⟨a, _, 0, _, rfl, rfl, SqT.of ha, atI_nat (j := 0) rfl, rfl, ?_⟩
      rw [ew]
      exact yes _ (.refl _)
    intro H2 s2 hD
    rw [ly, range_map (fun q => V.bl (passB (rowP P q))) (0, 0) gs] at hD
    have eb : gs.map (fun q => V.bl (passB (rowP P q))) = (gs.map fun q => passB (rowP P q)).map V.bl := by rw [List.map_map]; rfl
    rw [eb] at hD
    refine ⟨D, _, rfl, SqL.of hD, _, rfl, ?_⟩
    rw [any_map_id]
    refine ite2 (fun c => ?_) (fun c => ?_)
    · rw [c] at k
      exact k H2 (s1.trans s2)
    rw [Bool.eq_false_iff.mpr c, Bool.not_false, Bool.true_and] at k
    refine ⟨_, rfl, g, rfl, ⟨_, SqL.of (s2 _ _ hg)⟩, fun D2 nD2 => ?_⟩
    refine lc_pure (walk_list (xs := ys)) nD2 (fun i => V.bl (aheadB own index lr (gs.getD i (0, 0)))) (by rw [sizeLine_eq]; omega) (fun H' s' => SqL.of (s' _ _ (s2 _ _ hg))) ?_ ?_
    · rintro i x H4 H3 F2 hi s3 ⟨rfl, hx⟩ yes
      obtain ⟨rx, hq⟩ := itemE (s2.trans s3) (by omega) hx
      generalize gs.getD i (0, 0) = q at *
      obtain ⟨o, j⟩ := q
      have s03 := s1.trans (s2.trans s3)
      exact ⟨rfl, _, rfl, _, rfl, _, rfl, u, x, S, [], own, index, o, j, rd, lr, rfl, ru.sm s03, s03 _ _ hrd, rx, yes _ (.refl _)⟩
    intro H3 s3 hD2
    rw [ly, range_map (fun q => V.bl (aheadB own index lr q)) (0, 0) gs] at hD2
    have eb2 : gs.map (fun q => V.bl (aheadB own index lr q)) = (gs.map (aheadB own index lr)).map V.bl := by rw [List.map_map]; rfl
    rw [eb2] at hD2
    refine ⟨D2, _, rfl, SqL.of hD2, ?_⟩
    rw [any_map_id]
    exact k H3 (s1.trans (s2.trans s3))
end
end Lb

set_option Elab.async false
set_option linter.all false
set_option maxRecDepth 100000
set_option maxHeartbeats 4000000

namespace Lb
open PySem PySem.Spec PyProof.Rows L2
section
variable {P Pg : Program} {w : World} {K : PySem.W.Frag} {mg : Str → Option Value} {base : Heap} {A : Ad}
def sp_sure_names : Sp := fun vs H Q _ => ∃ (v u : V) (S : List Addr) (P : Prog) (own index : Nat), vs = [v, u] ∧ Rep S H v P.d ∧ P.Ok ∧ Rep S H u (.tuple [nD own, nD index]) ∧ placeB P.d (.tuple [nD own, nD index]) = true ∧ own < P.parts.length ∧ ∀ (p : Addr) (H' : Hp) (ys : List V) (lr : List Nat), Same H H' → H p = none → H' p = some (.lst ys) → lr.Pairwise (· < ·) → (∀ k, k ∈ lr ↔ RdyP P own index 4 k) → Reps [] H' ys (((needsTo P.parts.length).filter (sureB P own index lr)).map ndD) → Q (.ref p) H'
theorem ok_sure_names (T : Txt K w mg A) : FnOk Pg w K mg base CX0 15 A.f_sure_names A.d_sure_names ["program", "place"] (sp_sure_names) := by
  refine T.F_sure_names.ok sc_sure_names (fun vs H Q E h => ?_) (fun cdv Ar outer s H vs Q E hr h => ?_)
  · obtain ⟨v, u, S, P, own, index, rfl, r, ok, ru, pb, lo, k⟩ := h
    rfl
  · obtain ⟨v, u, S, P, own, index, rfl, r, ok, ru, pb, lo, k⟩ := h
    refine ⟨_, PSs.nox ((pss_cons (ps_set (i := 2) sc_sure_names.nd rfl (Or.inr rfl) (pe_call (ok_ready_parts T) hr rfl T.m_ready_parts T.F_ready_parts.kp (b_ready_parts T) .nil pass0 (pa_cons (pv 0) (pa_cons (pv 1) pa_nil))))
 (pss_cons (ps_setLc2 (i := 3) (own := [("part", 4), ("name", 5)]) (vs1 := [5]) (g := (gName 4)) (tt := tYes) (g1 := (gName 5)) (tt1 := tYes) rfl sc_sure_names.nd rfl rfl (sw_true rfl rfl rfl (by decide +kernel)) (pi_range1 (by rfl) T.zrange (pa_cons (pe_callB call_len_seq (by rfl) T.zlen (by decide +kernel) (pa_cons (pe_ix ix_tup (pv 0) pe_int (fun _ _ => rfl)) pa_nil)) pa_nil)) (blkOk_by (N := N_sure_names) (sc := defScope s_sure_names) (by decide +kernel)) (by decide) (fun _ _ _ _ _ => (pg_name (i := 4) sc_sure_names.nd rfl (Or.inl rfl))) (fun _ _ _ _ _ => pts_nil) (fun _ _ _ _ _ => (show PI _ _ _ (iTup K (tC (.ref A.o_NAMES))) from pi_tup (pe_glob (v := .ref A.o_NAMES) (by rfl) T.m_NAMES rfl))) (fun _ _ _ _ _ => (pg_name (i := 5) sc_sure_names.nd rfl (Or.inl rfl))) (fun _ _ _ _ _ => pts_nil) (fun _ _ _ _ _ => (pe_tup (pa_cons (pv 4) (pa_cons (pv 5) pa_nil)))))
 (pss_one (ps_ret (pe_lc (own := [("need", 6)]) (g := (gName 6)) (tt := _) rfl sc_sure_names.nd (pi_list (pv 3)) (blkOk_by (N := N_sure_names) (sc := defScope s_sure_names) (by decide +kernel)) (fun _ _ _ _ _ => (pg_name (i := 6) sc_sure_names.nd rfl (Or.inl rfl))) (fun _ _ _ _ _ => (pts_one (pt_val (pe_call (ok_is_sure T) (hr.mono (by decide)) rfl T.m_is_sure T.F_is_sure.kp (b_is_sure T) .nil pass0 (pa_cons (pv 0) (pa_cons (pv 1) (pa_cons (pv 2) (pa_cons (pv 6) pa_nil)))))))) (fun _ _ _ _ _ => (pv 6)))))))), ?_⟩
    rw [show start N_sure_names [v, u] = [some (v), some (u), none, none, none, none, none] from rfl]
    have four := ok.four
    have rP := r
    obtain ⟨a, u0, u1, u2, u3, rfl, ha, r0, r1, r2, r3⟩ := r.four
    obtain ⟨b, xs, rfl, hb, _, rs⟩ := r0.tupV
    have lx : xs.length = P.parts.length := by rw [rs.length, List.length_map]
    refine ⟨_, rfl, _, rfl, .ref a, u, S, P, own, index, rfl, rP, ok, ru, pb, lo, fun rd H1 lr s1 nrd hrd up mem => ?_⟩
    dsimp only [gName, List.set]
    refine ⟨_, rfl, a, _, 0, _, rfl, rfl, SqT.of (s1 _ _ ha), atI_nat (j := 0) rfl, b, xs, rfl, .inr (SqT.of (s1 _ _ hb)), (P.parts.length : Int), by rw [lx], by omega, by omega, fun R nR => ?_⟩
    have lenN : ∀ i, i ≤ P.parts.length → (needsTo i).length ≤ 4 * i := fun i _ => by
      induction i with
      | zero => exact Nat.le_refl _
      | succ i ih =>
        rw [needsTo_succ, List.length_append, List.length_map]
        have := ih (by omega)
        have : letters.length = 4 := rfl
        omega
    refine lc2_out walk_range (fun i H3 => Same H1 H3 ∧ ∃ acc : List V, H3 R = some (.lst acc) ∧ Reps [R] H3 acc ((needsTo i).map ndD)) ⟨same_new nR, [], upd_same, .nil⟩ (fun _ _ _ _ => trivial) ?_ ?_
    · rintro i x H4 H3 hi ⟨s3, acc, hR, rA⟩ ⟨rfl, rfl⟩
      have hi : i < P.parts.length := by omega
      refine ⟨rfl, A.o_NAMES, rfl, ⟨_, T.t_NAMES _⟩, ?_⟩
      refine lc2_in (walk_tup (xs := [V.str "a", V.str "b", V.str "c", V.str "d"])) (fun j H4 => Same H1 H4 ∧ ∃ acc : List V, H4 R = some (.lst acc) ∧ Reps [R] H4 acc ((needsTo i ++ (letters.take j).map fun s => (i, s)).map ndD)) ⟨s3, acc, hR, by rw [List.take_zero, List.map_nil, List.append_nil]; exact rA⟩ (fun _ H4 _ _ => T.t_NAMES H4) ?_ ?_
      · rintro j y H5 H4 hj ⟨s4, acc, hR4, rA4⟩ ⟨rfl, hy⟩
        have hy : (letters.map V.str)[j]? = some y := hy
        rw [List.getElem?_map] at hy
        obtain ⟨s, hs, rfl⟩ := Option.map_eq_some_iff.mp hy
        have ll : letters.length = 4 := rfl
        have l1 := lenN i (by omega)
        have l2 := rA4.length
        rw [List.length_map, List.length_append, List.length_map, List.length_take] at l2
        refine ⟨rfl, _, rfl, _, rfl, by show 2 ≤ sizeLine; decide, fun t nt => ?_⟩
        dsimp only at nt ⊢
        have st : Same H4 (upd H4 t (.tup [.int (0 + (i : Nat)), .str s])) := same_new nt
        have tR : t ≠ R := fun e => by rw [e, hR4] at nt; exact nomatch nt
        refine ⟨acc, st _ _ hR4, by rw [sizeLine_eq]; omega, same_own (s4.trans st) nR, acc ++ [.ref t], upd_same, ?_⟩
        have bt : But [R] H4 (upd (upd H4 t (.tup [.int (0 + (i : Nat)), .str s])) R (.lst (acc ++ [.ref t]))) := (But.of st).upd List.mem_cons_self
        rw [List.take_succ, hs, Option.toList_some, List.map_append (l₁ := letters.take j), ← List.append_assoc, List.map_append]
        exact (rA4.mv bt).app (.one (.tup (by rw [upd_ne tR]; exact upd_same) (fun z => tR (List.mem_singleton.mp z)) (.cons (int_rep' (Int.zero_add _)) (.cons (.str _) .nil))))
      · rintro H4 ⟨s4, acc, hR4, rA4⟩
        refine ⟨s4, acc, hR4, ?_⟩
        rw [needsTo_succ]
        exact rA4
    · rintro H3 ⟨s3, acc, hR, rA⟩
      rw [Int.toNat_natCast] at rA
      have l1 := lenN P.parts.length (Nat.le_refl _)
      have l2 := rA.length
      rw [List.length_map] at l2
      have nlt : ∀ q ∈ needsTo P.parts.length, q.1 < P.parts.length := fun q hq => needsTo_lt hq
      generalize needsTo P.parts.length = ns at *
      dsimp only [gName, List.set]
      have s13 := s1.trans s3
      refine ⟨_, rfl, R, rfl, ⟨_, SqL.of hR⟩, fun D nD => ?_⟩
      refine lc_it (walk_list (xs := acc)) (fun i H' => Same H3 H' ∧ ∃ zs : List V, H' D = some (.lst zs) ∧ zs.length ≤ i ∧ Reps [D] H' zs (((ns.take i).filter (sureB P own index lr)).map ndD)) ⟨same_new nD, [], upd_same, Nat.le_refl _, .nil⟩ (fun i H' _ p => SqL.of (p.1 _ _ hR)) ?_ ?_
      · rintro i x H5 H4 hi ⟨s4, zs, hD, lz, rZ⟩ ⟨rfl, hx⟩
        have il : i < ns.length := by omega
        obtain ⟨d, hd, rx⟩ := ((rA.less fun _ z => absurd z List.not_mem_nil : Reps [] H3 acc _)).get hx
        rw [List.getElem?_map, List.getElem?_eq_getElem il] at hd
        obtain rfl := Option.some.inj hd
        have tk : ns.take (i + 1) = ns.take i ++ [ns[i]] := by rw [List.take_succ, List.getElem?_eq_getElem il]; rfl
        have lt := nlt _ (List.getElem_mem il)
        generalize ns[i] = q at *
        obtain ⟨part, s⟩ := q
        have s04 := s13.trans s4
        refine ⟨rfl, _, rfl, _, rfl, _, rfl, _, rfl, .ref a, u, x, S, [], P, own, index, part, s, rd, lr, rfl, rP.sm s04, ok, ru.sm s04, (s3.trans s4) _ _ hrd, rx.sm s4, lt, fun H5 s5 => ⟨_, rfl, ?_⟩⟩
        refine ite2 (fun c => ?_) (fun c => ?_)
        · refine ⟨_, rfl, zs, s5 _ _ hD, by rw [sizeLine_eq]; omega, same_own (s4.trans s5) nD, zs ++ [x], upd_same, by rw [List.length_append]; show zs.length + 1 ≤ i + 1; omega, ?_⟩
          rw [tk, List.filter_append, List.filter_cons, if_pos c, List.filter_nil, List.map_append]
          have bD : But [D] H5 (upd H5 D (.lst (zs ++ [x]))) := But.refl.upd List.mem_cons_self
          exact ((rZ.sm s5).mv bD).app (.one (((Rep.more nD _ _ rx).sm (s4.trans s5)).mv bD))
        · refine ⟨s4.trans s5, zs, s5 _ _ hD, by omega, ?_⟩
          rw [tk, List.filter_append, List.filter_cons, if_neg c, List.filter_nil, List.append_nil]
          exact rZ.sm s5
      · rintro H4 ⟨s4, zs, hD, lz, rZ⟩
        rw [show acc.length = ns.length from l2, List.take_length] at rZ
        exact k D H4 zs lr (s13.trans s4) (same_none s13 nD) hD up mem (rZ.less fun _ z => absurd z List.not_mem_nil)
end
end Lb

set_option Elab.async false
set_option linter.all false
set_option maxRecDepth 100000
set_option maxHeartbeats 4000000

namespace Lb
open PySem PySem.Spec PyProof.Rows L2
section
variable {P Pg : Program} {w : World} {K : PySem.W.Frag} {mg : Str → Option Value} {base : Heap} {A : Ad}
def sp_is_risky : Sp := fun vs H Q _ => ∃ (v : V) (S : List Addr) (rw_ : Row), vs = [v] ∧ Rep S H v rw_.d ∧ ∀ (H' : Hp), Same H H' → Q (.bl (riskB rw_)) H'
theorem ok_is_risky (T : Txt K w mg A) : FnOk Pg w K mg base CX0 1 A.f_is_risky A.d_is_risky ["row"] (sp_is_risky) := by
  refine T.F_is_risky.ok sc_is_risky (fun vs H Q E h => ?_) (fun cdv Ar outer s H vs Q E hr h => ?_)
  · obtain ⟨v, S, rw_, rfl, r, k⟩ := h
    rfl
  · obtain ⟨v, S, rw_, rfl, r, k⟩ := h
    refine ⟨_, PSs.nox ((pss_one (ps_ret (pe_and (pe_cmpR op_in_seq (pe_ix ix_tup (pv 0) pe_int (fun _ _ => rfl)) (pe_tup (pa_cons pe_str (pa_cons pe_str pa_nil))) rfl) (pe_one (pe_ix ix_tup (pv 0) (pe_un un_neg pe_int) (fun _ _ => rfl))))))), ?_⟩
    rw [show start N_is_risky [v] = [some (v)] from rfl]
    cases rw_ with
    | load p =>
      obtain ⟨a, v0, v1, rfl, ha, r0, r1⟩ := r.two
      obtain rfl := r0.strV
      obtain rfl := r1.intV
      refine ⟨_, rfl, a, _, 0, _, rfl, rfl, SqT.of ha, atI_nat (j := 0) rfl, (by show 2 ≤ sizeLine; decide), fun t nt => ?_⟩
      have st : Same H (upd H t (.tup [.str "give", .str "show"])) := same_new nt
      refine ⟨t, _, rfl, .inr (SqT.of upd_same), rfl, rfl, _, rfl, ?_⟩
      refine ite2 (fun c => absurd c (by decide +kernel)) (fun _ => k _ st)
    | give n ns b =>
      obtain ⟨a, v0, v1, v2, v3, rfl, ha, r0, r1, r2, r3⟩ := r.four
      obtain rfl := r0.strV
      obtain rfl := r1.strV
      obtain rfl := r3.blV
      refine ⟨_, rfl, a, _, 0, _, rfl, rfl, SqT.of ha, atI_nat (j := 0) rfl, (by show 2 ≤ sizeLine; decide), fun t nt => ?_⟩
      have st : Same H (upd H t (.tup [.str "give", .str "show"])) := same_new nt
      refine ⟨t, _, rfl, .inr (SqT.of upd_same), rfl, rfl, _, rfl, ?_⟩
      refine ite2 (fun _ => ?_) (fun c => absurd (by decide +kernel) c)
      refine ⟨_, rfl, 1, rfl, a, _, -1, _, rfl, rfl, SqT.of (st _ _ ha), rfl, k _ st⟩
    | pass n p o =>
      obtain ⟨a, v0, v1, v2, v3, rfl, ha, r0, r1, r2, r3⟩ := r.four
      obtain rfl := r0.strV
      obtain rfl := r1.strV
      obtain rfl := r2.intV
      obtain rfl := r3.strV
      refine ⟨_, rfl, a, _, 0, _, rfl, rfl, SqT.of ha, atI_nat (j := 0) rfl, (by show 2 ≤ sizeLine; decide), fun t nt => ?_⟩
      have st : Same H (upd H t (.tup [.str "give", .str "show"])) := same_new nt
      refine ⟨t, _, rfl, .inr (SqT.of upd_same), rfl, rfl, _, rfl, ?_⟩
      refine ite2 (fun c => absurd c (by decide +kernel)) (fun _ => k _ st)
    | show_ ns b =>
      obtain ⟨a, v0, v1, v2, rfl, ha, r0, r1, r2⟩ := r.three
      obtain rfl := r0.strV
      obtain rfl := r2.blV
      refine ⟨_, rfl, a, _, 0, _, rfl, rfl, SqT.of ha, atI_nat (j := 0) rfl, (by show 2 ≤ sizeLine; decide), fun t nt => ?_⟩
      have st : Same H (upd H t (.tup [.str "give", .str "show"])) := same_new nt
      refine ⟨t, _, rfl, .inr (SqT.of upd_same), rfl, rfl, _, rfl, ?_⟩
      refine ite2 (fun _ => ?_) (fun c => absurd (by decide +kernel) c)
      refine ⟨_, rfl, 1, rfl, a, _, -1, _, rfl, rfl, SqT.of (st _ _ ha), rfl, k _ st⟩
    | out  =>
      obtain ⟨a, xs, rfl, ha, _, rs⟩ := r.tupV
      obtain ⟨v0, rfl, r0⟩ := rs.single
      obtain rfl := r0.strV
      refine ⟨_, rfl, a, _, 0, _, rfl, rfl, SqT.of ha, atI_nat (j := 0) rfl, (by show 2 ≤ sizeLine; decide), fun t nt => ?_⟩
      have st : Same H (upd H t (.tup [.str "give", .str "show"])) := same_new nt
      refine ⟨t, _, rfl, .inr (SqT.of upd_same), rfl, rfl, _, rfl, ?_⟩
      refine ite2 (fun c => absurd c (by decide +kernel)) (fun _ => k _ st)
    | late n p ns =>
      obtain ⟨a, v0, v1, v2, v3, rfl, ha, r0, r1, r2, r3⟩ := r.four
      obtain rfl := r0.strV
      obtain rfl := r1.strV
      obtain rfl := r2.intV
      refine ⟨_, rfl, a, _, 0, _, rfl, rfl, SqT.of ha, atI_nat (j := 0) rfl, (by show 2 ≤ sizeLine; decide), fun t nt => ?_⟩
      have st : Same H (upd H t (.tup [.str "give", .str "show"])) := same_new nt
      refine ⟨t, _, rfl, .inr (SqT.of upd_same), rfl, rfl, _, rfl, ?_⟩
      refine ite2 (fun c => absurd c (by decide +kernel)) (fun _ => k _ st)
def sp_needs_of : Sp := fun vs H Q _ => ∃ (v : V) (S : List Addr) (rw_ : Row), vs = [v] ∧ Rep S H v rw_.d ∧ ∀ (H' : Hp) (u : V), Same H H' → Rep [] H' u (needsD (needsL rw_)) → Q u H'
theorem ok_needs_of (T : Txt K w mg A) : FnOk Pg w K mg base CX0 1 A.f_needs_of A.d_needs_of ["row"] (sp_needs_of) := by
  refine T.F_needs_of.ok sc_needs_of (fun vs H Q E h => ?_) (fun cdv Ar outer s H vs Q E hr h => ?_)
  · obtain ⟨v, S, rw_, rfl, r, k⟩ := h
    rfl
  · obtain ⟨v, S, rw_, rfl, r, k⟩ := h
    obtain ⟨ke, kn, KD⟩ := T.D_NEEDS_AT
    refine ⟨_, PSs.nox ((pss_one (ps_ret (pe_ifExp (pt_cmpR (op_in_kd KD) (pe_ix ix_tup (pv 0) pe_int (fun _ _ => rfl)) (pe_glob (v := .ref A.o_NEEDS_AT) (by rfl) T.m_NEEDS_AT rfl) rfl) (pe_ix ix_tup (pv 0) (pe_ix ix_kdict (pe_glob (v := .ref A.o_NEEDS_AT) (by rfl) T.m_NEEDS_AT rfl) (pe_ix ix_tup (pv 0) pe_int (fun _ _ => rfl)) (fun _ _ => rfl)) (fun _ _ => rfl)) (pe_tup pa_nil))))), ?_⟩
    rw [show start N_needs_of [v] = [some (v)] from rfl]
    cases rw_ with
    | load p =>
      obtain ⟨a, v0, v1, rfl, ha, r0, r1⟩ := r.two
      obtain rfl := r0.strV
      obtain rfl := r1.intV
      refine ⟨_, rfl, a, _, 0, _, rfl, rfl, SqT.of ha, atI_nat (j := 0) rfl, _, _, rfl, rfl, T.V_NEEDS_AT_load, _, rfl, iteF ?_⟩
      refine ⟨Nat.zero_le _, fun p np => ?_⟩
      exact k _ _ (same_new np) (.tup upd_same List.not_mem_nil .nil)
    | give n ns b =>
      obtain ⟨a, v0, v1, v2, v3, rfl, ha, r0, r1, r2, r3⟩ := r.four
      obtain rfl := r0.strV
      obtain rfl := r1.strV
      obtain rfl := r3.blV
      obtain ⟨u0, ku, ru⟩ := T.V_NEEDS_AT_give
      refine ⟨_, rfl, a, _, 0, _, rfl, rfl, SqT.of ha, atI_nat (j := 0) rfl, _, _, rfl, rfl, ku, _, rfl, iteT ?_⟩
      refine ⟨_, rfl, _, rfl, a, _, 0, _, rfl, rfl, SqT.of ha, atI_nat (j := 0) rfl, _, _, _, rfl, rfl, ⟨ke, kn, u0, KD.at_, KD.lit, ku, ru⟩, a, _, 2, _, rfl, rfl, SqT.of ha, atI_nat (j := 2) rfl, ?_⟩
      exact k _ _ (.refl _) (r2.less fun _ z => absurd z List.not_mem_nil)
    | pass n p o =>
      obtain ⟨a, v0, v1, v2, v3, rfl, ha, r0, r1, r2, r3⟩ := r.four
      obtain rfl := r0.strV
      obtain rfl := r1.strV
      obtain rfl := r2.intV
      obtain rfl := r3.strV
      refine ⟨_, rfl, a, _, 0, _, rfl, rfl, SqT.of ha, atI_nat (j := 0) rfl, _, _, rfl, rfl, T.V_NEEDS_AT_pass, _, rfl, iteF ?_⟩
      refine ⟨Nat.zero_le _, fun p np => ?_⟩
      exact k _ _ (same_new np) (.tup upd_same List.not_mem_nil .nil)
    | show_ ns b =>
      obtain ⟨a, v0, v1, v2, rfl, ha, r0, r1, r2⟩ := r.three
      obtain rfl := r0.strV
      obtain rfl := r2.blV
      obtain ⟨u0, ku, ru⟩ := T.V_NEEDS_AT_show
      refine ⟨_, rfl, a, _, 0, _, rfl, rfl, SqT.of ha, atI_nat (j := 0) rfl, _, _, rfl, rfl, ku, _, rfl, iteT ?_⟩
      refine ⟨_, rfl, _, rfl, a, _, 0, _, rfl, rfl, SqT.of ha, atI_nat (j := 0) rfl, _, _, _, rfl, rfl, ⟨ke, kn, u0, KD.at_, KD.lit, ku, ru⟩, a, _, 1, _, rfl, rfl, SqT.of ha, atI_nat (j := 1) rfl, ?_⟩
      exact k _ _ (.refl _) (r1.less fun _ z => absurd z List.not_mem_nil)
    | out  =>
      obtain ⟨a, xs, rfl, ha, _, rs⟩ := r.tupV
      obtain ⟨v0, rfl, r0⟩ := rs.single
      obtain rfl := r0.strV
      refine ⟨_, rfl, a, _, 0, _, rfl, rfl, SqT.of ha, atI_nat (j := 0) rfl, _, _, rfl, rfl, T.V_NEEDS_AT_out, _, rfl, iteF ?_⟩
      refine ⟨Nat.zero_le _, fun p np => ?_⟩
      exact k _ _ (same_new np) (.tup upd_same List.not_mem_nil .nil)
    | late n p ns =>
      obtain ⟨a, v0, v1, v2, v3, rfl, ha, r0, r1, r2, r3⟩ := r.four
      obtain rfl := r0.strV
      obtain rfl := r1.strV
      obtain rfl := r2.intV
      obtain ⟨u0, ku, ru⟩ := T.V_NEEDS_AT_late
      refine ⟨_, rfl, a, _, 0, _, rfl, rfl, SqT.of ha, atI_nat (j := 0) rfl, _, _, rfl, rfl, ku, _, rfl, iteT ?_⟩
      refine ⟨_, rfl, _, rfl, a, _, 0, _, rfl, rfl, SqT.of ha, atI_nat (j := 0) rfl, _, _, _, rfl, rfl, ⟨ke, kn, u0, KD.at_, KD.lit, ku, ru⟩, a, _, 3, _, rfl, rfl, SqT.of ha, atI_nat (j := 3) rfl, ?_⟩
      exact k _ _ (.refl _) (r3.less fun _ z => absurd z List.not_mem_nil)
theorem int_rep {S : List Addr} {H : Hp} {n m : Int} (e : n = m) : Rep S H (.int n) (.int m) := by
  subst e
  exact .int _
def sp_all_rows : Sp := fun vs H Q _ => ∃ (v : V) (S : List Addr) (d : PyData), vs = [v] ∧ Rep S H v d ∧ progB d = true ∧ ∀ (H' : Hp) (p : Addr) (ys : List V), Same H H' → H p = none → H' p = some (.lst ys) → Reps [] H' ys (placesD d) → ys.length ≤ 20 → Q (.ref p) H'
theorem ok_all_rows (T : Txt K w mg A) : FnOk Pg w K mg base CX0 10 A.f_all_rows A.d_all_rows ["program"] (sp_all_rows) := by
  refine T.F_all_rows.ok sc_all_rows (fun vs H Q E h => ?_) (fun cdv Ar outer s H vs Q E hr h => ?_)
  · obtain ⟨v, S, d, rfl, r, ok, k⟩ := h
    rfl
  · obtain ⟨v, S, d, rfl, r, ok, k⟩ := h
    refine ⟨_, PSs.nox ((pss_cons (ps_expr (pe_call (ok_demand_program T) hr rfl T.m_demand_program T.F_demand_program.kp (b_demand_program T) .nil pass0 (pa_cons (pv 0) pa_nil)))
 (pss_one (ps_ret (pe_lc2 (own := [("part", 1), ("rows", 2), ("index", 3)]) (vs1 := [3]) (g := (gTup _ 2 (gCons (gName 1) (gCons (gName 2) gNil)))) (tt := tYes) (g1 := (gName 3)) (tt1 := tYes) rfl sc_all_rows.nd (pi_enumT (by rfl) T.zenumerate (pa_cons (pe_ix ix_tup (pv 0) pe_int (fun _ _ => rfl)) pa_nil)) (blkOk_by (N := N_all_rows) (sc := defScope s_all_rows) (by decide +kernel)) (by decide) (fun _ _ _ _ _ => (pg_tup (by rfl) (pgs_cons (pg_name (i := 1) sc_all_rows.nd rfl (Or.inl rfl)) (pgs_cons (pg_name (i := 2) sc_all_rows.nd rfl (Or.inl rfl)) pgs_nil)))) (fun _ _ _ _ _ => pts_nil) (fun _ _ _ _ _ => (pi_range1 (by rfl) T.zrange (pa_cons (pe_callB (show CallR _ _ (rLen2 K) from len_k) (by rfl) T.zlen (by decide +kernel) (pa_cons (pv 2) pa_nil)) pa_nil))) (fun _ _ _ _ _ => (pg_name (i := 3) sc_all_rows.nd rfl (Or.inl rfl))) (fun _ _ _ _ _ => pts_nil) (fun _ _ _ _ _ => (pe_tup (pa_cons (pv 1) (pa_cons (pv 3) pa_nil))))))))), ?_⟩
    rw [show start N_all_rows [v] = [some (v), none, none, none] from rfl]
    refine ⟨_, rfl, v, S, d, rfl, r, ok, fun H1 s1 => ?_⟩
    obtain ⟨ps, m, es, o, rfl, F⟩ := prog_of ok
    obtain ⟨a, p, q, s', t, rfl, ha, rp, rq, rz, ru⟩ := r.four
    obtain ⟨b, xs, rfl, hb, _, rs⟩ := rp.tupV
    
    have l4 := F.four
    have tot := upTo_len F.five
    have pd : placesD (.tuple [.tuple ps, m, .tuple es, o]) = upTo ps ps.length := rfl
    rw [pd] at k
    
    refine ⟨_, rfl, a, _, 0, _, rfl, rfl, SqT.of (s1 _ _ ha), atI_nat (j := 0) rfl, b, xs, rfl, SqT.of (s1 _ _ hb), fun R nR => ?_⟩
    have rs1 := rs.sm s1
    refine lc2_out (walk_enumT (xs := xs)) (fun i H3 => Same H1 H3 ∧ ∃ acc, H3 R = some (.lst acc) ∧ Reps [R] H3 acc (upTo ps i)) ⟨same_new nR, [], upd_same, .nil⟩ (fun i H3 _ p => SqT.of (p.1 _ _ (s1 _ _ hb))) ?_ ?_
    · rintro i x H3 H3' hi ⟨s3, acc, hR, rA⟩ ⟨t, x1, x2, rfl, nt, rfl, h1, h2⟩
      obtain rfl : V.int (i : Nat) = x1 := Option.some.inj h1
      replace h2 : xs[i]? = some x2 := h2
      have tR0 : t ≠ R := (ne_of_none hR nt).symm
      have st3 := s3.trans (same_new (o := .tup [V.int (i : Nat), x2]) nt)
      obtain ⟨p1, hp, rp1⟩ := (rs1.sm st3).get h2
      obtain ⟨rows, rfl, l5⟩ := F.five p1 (List.mem_of_getElem? hp)
      obtain ⟨c, zs, rfl, hc, _, rb⟩ := rp1.tupV
      have ip : i < ps.length := (List.getElem?_eq_some_iff.mp hp).1
      have hR4 : upd H3 t (.tup [V.int (i : Nat), .ref c]) R = some (.lst acc) := (same_new nt) _ _ hR
      have rA4 : Reps [R] (upd H3 t (.tup [V.int (i : Nat), .ref c])) acc (upTo ps i) := rA.sm (same_new nt)
      refine ⟨t, _, rfl, SqT.of upd_same, rfl, _, _, rfl, _, _, rfl, rfl, rfl, ?_⟩
      generalize upd H3 t (.tup [V.int (i : Nat), .ref c]) = H4 at st3 hc rb hR4 rA4 ⊢
      refine ⟨_, rfl, c, zs, rfl, .inr (SqT.of hc), (rows.length : Int), by rw [rb.length], by omega, by omega, ?_⟩
      refine lc2_in (walk_range (lo := 0) (n := rows.length)) (fun j H5 => Same H1 H5 ∧ ∃ acc, H5 R = some (.lst acc) ∧ Reps [R] H5 acc (upTo ps i ++ inPart i j)) ⟨st3, acc, hR4, by rw [show inPart i 0 = [] from rfl, List.append_nil]; exact rA4⟩ (fun j H5 _ p => trivial) ?_ ?_
      · clear hR4 rA4 hR rA
        rintro j y H0 H4 hj ⟨s4, acc, hR4, rA⟩ ⟨rfl, rfl⟩
        refine ⟨rfl, _, rfl, _, rfl, (by show 2 ≤ sizeLine; decide), fun t1 nt1 => ?_⟩
        have tR : t1 ≠ R := (ne_of_none hR4 nt1).symm
        have lt : acc.length < sizeLine := by
          have z1 := rA.length
          have z2 := tot i
          rw [List.length_append, inPart_len] at z1
          rw [sizeLine_eq]
          omega
        refine ⟨acc, (same_new nt1) _ _ hR4, lt, ?_, ?_⟩
        · intro b' o' e
          rw [upd_ne (ne_of_none e nR)]
          exact (same_new nt1) _ _ (s4 _ _ e)
        · refine ⟨_, upd_same, ?_⟩
          rw [inPart_snoc, ← List.append_assoc]
          have bu : But [R] H4 (upd (upd H4 t1 (.tup [.int (i : Nat), .int (0 + (j : Nat))])) R (.lst (acc ++ [.ref t1]))) := (But.refl.new nt1).upd List.mem_cons_self
          exact (rA.mv bu).app (.one (.tup (by rw [upd_ne tR]; exact upd_same) (fun z => tR (List.mem_singleton.mp z)) (.cons (.int _) (.cons (int_rep (Int.zero_add _)) .nil))))
      · rintro H5 ⟨s5, acc, hR5, rA5⟩
        refine ⟨s5, acc, hR5, ?_⟩
        rw [upTo_snoc hp]
        exact rA5
    · rintro H3 ⟨s3, acc, hR, rA⟩
      rw [rs.length] at rA
      have z := rA.length
      have z2 := tot ps.length
      refine k H3 R acc (s1.trans s3) (none_back s1 nR) hR (rA.less fun _ z => absurd z List.not_mem_nil) (by omega)
end
end Lb

set_option Elab.async false
set_option linter.all false
set_option maxRecDepth 100000
set_option maxHeartbeats 4000000

namespace Lb
open PySem PySem.Spec PyProof.Rows L2
section
variable {P Pg : Program} {w : World} {K : PySem.W.Frag} {mg : Str → Option Value} {base : Heap} {A : Ad}
def sp_Tool_waits (A : Ad) : Sp := fun vs H Q _ => ∃ (t : Addr) (P : Prog) (os : List Str) (fs : List (Str × V)) (v : V) (S : List Addr) (q : Nat × Nat), vs = [.ref t, v] ∧ ToolAt A.k_Tool H t P os fs ∧ P.Ok ∧ Rep S H v (stD q) ∧ q ∈ placesP P P.parts.length ∧ Q (.bl (waitsT P os q)) H
theorem ok_Tool_waits (T : Txt K w mg A) : FnOk Pg w K mg base CX0 1 A.f_Tool_waits A.d_Tool_waits ["self", "place"] (sp_Tool_waits A) := by
  refine T.F_Tool_waits.ok sc_Tool_waits (fun vs H Q E h => ?_) (fun cdv Ar outer s H vs Q E hr h => ?_)
  · obtain ⟨t, P, os, fs, v, S, q, rfl, x, ok, r, hq, k⟩ := h
    rfl
  · obtain ⟨t, P, os, fs, v, S, q, rfl, x, ok, r, hq, k⟩ := h
    refine ⟨_, PSs.nox ((pss_one (ps_ret (pe_and (pe_cmpR op_in_seq pe_str (pe_fld (pv 0) rfl) rfl) (pe_one (pe_ix ix_tup (pe_ix ix_tup (pe_fld (pv 0) rfl) pe_int (fun _ _ => rfl)) (pe_ix ix_tup (pv 1) pe_int (fun _ _ => rfl)) (fun _ _ => rfl))))))), ?_⟩
    rw [show start N_Tool_waits [.ref t, v] = [some (.ref t), some (v)] from rfl]
    obtain ⟨⟨dx, ob⟩, ⟨sv, hs, rs⟩, ⟨oa, ho, hoa⟩, hm⟩ := x
    
    obtain ⟨pa, p0, p1, rfl, hpa, r0, r1⟩ := r.two
    obtain rfl := r0.intV
    have q1 : q.1 < P.parts.length := by
      obtain ⟨a, b⟩ := q
      exact (placesP_mem.mp hq).1
    refine ⟨_, rfl, t, _, dx, fs, _, rfl, ob, T.c_Tool, T.n_Tool_options, ho, oa, _, rfl, .inr (SqT.of hoa), rfl, flat_strs os, _, rfl, ?_⟩
    rw [show (if false = true then !inV (V.str "marks") (os.map V.str) else inV (V.str "marks") (os.map V.str)) = decide (("marks" : Str) ∈ os) from inV_strs _ _]
    unfold waitsT at k
    refine ite2 (fun c => ?_) (fun c => ?_)
    · obtain ⟨a, u0, u1, u2, u3, rfl, ha, s0, s1, s2, s3⟩ := rs.four
      obtain ⟨mb, mvs, rfl, hmb, _, rms⟩ := s1.tupV
      obtain rfl := bls_of rms
      have lm : q.1 < P.marks.length := by rw [ok.marks]; exact q1
      rw [c, Bool.true_and, List.getD_eq_getElem?_getD, List.getElem?_eq_getElem lm, Option.getD_some] at k
      exact ⟨_, rfl, t, _, dx, fs, _, rfl, ob, T.c_Tool, T.n_Tool_source, hs, a, _, 1, _, rfl, rfl, SqT.of ha, atI_nat (j := 1) rfl, _, rfl, pa, _, 0, _, rfl, rfl, SqT.of hpa, atI_nat (j := 0) rfl, mb, _, _, _, rfl, rfl, SqT.of hmb, atI_nat (j := q.1) (by rw [List.getElem?_map, List.getElem?_eq_getElem lm]; rfl), k⟩
    · rw [bF c, Bool.false_and] at k
      exact k
def sp_Tool_wants (A : Ad) : Sp := fun vs H Q _ => ∃ (t : Addr) (P : Prog) (os : List Str) (fs : List (Str × V)) (v : V) (S : List Addr) (q : Nat × Nat), vs = [.ref t, v] ∧ ToolAt A.k_Tool H t P os fs ∧ Rep S H v (stD q) ∧ q ∈ placesP P P.parts.length ∧ ∀ H' u, Same H H' → Rep [] H' u (needsD (wantsT (rowP P q))) → Q u H'
theorem ok_Tool_wants (T : Txt K w mg A) : FnOk Pg w K mg base CX0 2 A.f_Tool_wants A.d_Tool_wants ["self", "place"] (sp_Tool_wants A) := by
  refine T.F_Tool_wants.ok sc_Tool_wants (fun vs H Q E h => ?_) (fun cdv Ar outer s H vs Q E hr h => ?_)
  · obtain ⟨t, P, os, fs, v, S, q, rfl, x, r, hq, k⟩ := h
    rfl
  · obtain ⟨t, P, os, fs, v, S, q, rfl, x, r, hq, k⟩ := h
    refine ⟨_, PSs.nox ((pss_cons (ps_set (i := 2) sc_Tool_wants.nd rfl (Or.inl rfl) (pe_call (ok_row_at T) hr rfl T.m_row_at T.F_row_at.kp (b_row_at T) .nil pass0 (pa_cons (pe_fld (pv 0) rfl) (pa_cons (pv 1) pa_nil))))
 (pss_one (ps_ret (pe_ifExp (pt_cmpR op_eq (pe_ix ix_tup (pv 2) pe_int (fun _ _ => rfl)) pe_str (nomark _)) (pe_tup (pa_cons (pe_slice sl_tup (pv 2) (po_some pe_int) po_none) pa_nil)) (pe_call (ok_needs_of T) hr rfl T.m_needs_of T.F_needs_of.kp (b_needs_of T) .nil pass0 (pa_cons (pv 2) pa_nil))))))), ?_⟩
    rw [show start N_Tool_wants [.ref t, v] = [some (.ref t), some (v), none] from rfl]
    obtain ⟨⟨dx, ob⟩, ⟨sv, hs, rs⟩, ⟨oa, ho, hoa⟩, hm⟩ := x
    
    have hr_ := row_of hq
    refine ⟨_, rfl, t, _, dx, fs, _, rfl, ob, T.c_Tool, T.n_Tool_source, hs, _, rfl, sv, v, [], S, P, q.1, q.2, rowP P q, rfl, rs, r, hr_, fun y r2 => ?_⟩
    dsimp only [gName, List.set]
    clear r hr_
    have r := r2
    have rq0 := r2
    clear r2
    generalize rowP P q = rw_ at *
    cases rw_ with
    | load p =>
      obtain ⟨a, v0, v1, rfl, ha, r0, r1⟩ := r.two
      obtain rfl := r0.strV
      obtain rfl := r1.intV
      refine ⟨_, rfl, a, _, 0, _, rfl, rfl, SqT.of ha, atI_nat (j := 0) rfl, rfl, _, rfl, ?_⟩
      refine ite2 (fun c => absurd c (by decide +kernel)) (fun _ => ?_)
      exact ⟨_, rfl, _, [], _, rfl, rq0, fun H' u s' ru => k H' u s' ru⟩
    | give n ns b =>
      obtain ⟨a, v0, v1, v2, v3, rfl, ha, r0, r1, r2, r3⟩ := r.four
      obtain rfl := r0.strV
      obtain rfl := r1.strV
      obtain rfl := r3.blV
      refine ⟨_, rfl, a, _, 0, _, rfl, rfl, SqT.of ha, atI_nat (j := 0) rfl, rfl, _, rfl, ?_⟩
      refine ite2 (fun c => absurd c (by decide +kernel)) (fun _ => ?_)
      exact ⟨_, rfl, _, [], _, rfl, rq0, fun H' u s' ru => k H' u s' ru⟩
    | pass n p o =>
      obtain ⟨a, v0, v1, v2, v3, rfl, ha, r0, r1, r2, r3⟩ := r.four
      obtain rfl := r0.strV
      obtain rfl := r1.strV
      obtain rfl := r2.intV
      obtain rfl := r3.strV
      refine ⟨_, rfl, a, _, 0, _, rfl, rfl, SqT.of ha, atI_nat (j := 0) rfl, rfl, _, rfl, ?_⟩
      refine ite2 (fun _ => ?_) (fun c => absurd (by decide +kernel) c)
      exact ⟨_, rfl, _, rfl, a, _, rfl, SqT.of ha, (by show ¬ (HT.sIx 4 0 (some 2) = 0 ∧ HT.sIx 4 4 none = 4); decide), fun p1 np1 => ⟨(by show 1 ≤ sizeLine; decide), fun p2 np2 => k _ _ ((same_new np1).trans (same_new np2)) (.tup upd_same List.not_mem_nil (.cons (.tup ((same_new np2) _ _ upd_same) List.not_mem_nil (.cons (.int _) (.cons (.str _) .nil))) .nil))⟩⟩
    | show_ ns b =>
      obtain ⟨a, v0, v1, v2, rfl, ha, r0, r1, r2⟩ := r.three
      obtain rfl := r0.strV
      obtain rfl := r2.blV
      refine ⟨_, rfl, a, _, 0, _, rfl, rfl, SqT.of ha, atI_nat (j := 0) rfl, rfl, _, rfl, ?_⟩
      refine ite2 (fun c => absurd c (by decide +kernel)) (fun _ => ?_)
      exact ⟨_, rfl, _, [], _, rfl, rq0, fun H' u s' ru => k H' u s' ru⟩
    | out  =>
      obtain ⟨a, xs, rfl, ha, _, rs⟩ := r.tupV
      obtain ⟨v0, rfl, r0⟩ := rs.single
      obtain rfl := r0.strV
      refine ⟨_, rfl, a, _, 0, _, rfl, rfl, SqT.of ha, atI_nat (j := 0) rfl, rfl, _, rfl, ?_⟩
      refine ite2 (fun c => absurd c (by decide +kernel)) (fun _ => ?_)
      exact ⟨_, rfl, _, [], _, rfl, rq0, fun H' u s' ru => k H' u s' ru⟩
    | late n p ns =>
      obtain ⟨a, v0, v1, v2, v3, rfl, ha, r0, r1, r2, r3⟩ := r.four
      obtain rfl := r0.strV
      obtain rfl := r1.strV
      obtain rfl := r2.intV
      refine ⟨_, rfl, a, _, 0, _, rfl, rfl, SqT.of ha, atI_nat (j := 0) rfl, rfl, _, rfl, ?_⟩
      refine ite2 (fun c => absurd c (by decide +kernel)) (fun _ => ?_)
      exact ⟨_, rfl, _, [], _, rfl, rq0, fun H' u s' ru => k H' u s' ru⟩
def sp_Tool_loads (A : Ad) : Sp := fun vs H Q _ => ∃ (t : Addr) (P : Prog) (os : List Str) (fs : List (Str × V)) (v : V) (S : List Addr) (q : Nat × Nat) (part : Nat), vs = [.ref t, v, nV part] ∧ ToolAt A.k_Tool H t P os fs ∧ BhAt H fs P ∧ P.Ok ∧ Rep S H v (stD q) ∧ q ∈ placesP P P.parts.length ∧ ∀ H' b, Same H H' → (b = true ↔ loadsT (linksL P) (rowP P q) part) → Q (.bl b) H'
theorem ok_Tool_loads (T : Txt K w mg A) : FnOk Pg w K mg base CX0 3 A.f_Tool_loads A.d_Tool_loads ["self", "place", "part"] (sp_Tool_loads A) := by
  refine T.F_Tool_loads.ok sc_Tool_loads (fun vs H Q E h => ?_) (fun cdv Ar outer s H vs Q E hr h => ?_)
  · obtain ⟨t, P, os, fs, v, S, q, part, rfl, x, bh, ok, r, hq, k⟩ := h
    rfl
  · obtain ⟨t, P, os, fs, v, S, q, part, rfl, x, bh, ok, r, hq, k⟩ := h
    refine ⟨_, PSs.nox ((pss_cons (ps_set (i := 3) sc_Tool_loads.nd rfl (Or.inl rfl) (pe_call (ok_row_at T) (hr.mono (by decide)) rfl T.m_row_at T.F_row_at.kp (b_row_at T) .nil pass0 (pa_cons (pe_fld (pv 0) rfl) (pa_cons (pv 1) pa_nil))))
 (pss_one (ps_ret (pe_and (pe_call (ok_is_loading T) (hr.mono (by decide)) rfl T.m_is_loading T.F_is_loading.kp (b_is_loading T) .nil pass0 (pa_cons (pv 3) pa_nil)) (pe_one (pe_or (pe_cmpR op_eq (pe_call (ok_part_named T) (hr.mono (by decide)) rfl T.m_part_named T.F_part_named.kp (b_part_named T) .nil pass0 (pa_cons (pv 3) pa_nil)) (pv 2) (nomark _)) (pe_one (pe_cmpR op_in_seq (pv 2) (pe_ix ix_list (pe_fld (pv 0) rfl) (pe_call (ok_part_named T) (hr.mono (by decide)) rfl T.m_part_named T.F_part_named.kp (b_part_named T) .nil pass0 (pa_cons (pv 3) pa_nil)) (fun _ _ => rfl)) rfl))))))))), ?_⟩
    rw [show start N_Tool_loads [.ref t, v, nV part] = [some (.ref t), some (v), some (nV part), none] from rfl]
    obtain ⟨⟨dx, ob⟩, ⟨sv, hs, rs⟩, ⟨oa, ho, hoa⟩, hm⟩ := x
    
    have hr_ := row_of hq
    have okr := rowT_ok ok hq
    refine ⟨_, rfl, t, _, dx, fs, _, rfl, ob, T.c_Tool, T.n_Tool_source, hs, _, rfl, sv, v, [], S, P, q.1, q.2, rowP P q, rfl, rs, r, hr_, fun y r2 => ?_⟩
    dsimp only [gName, List.set]
    generalize rowP P q = rw_ at *
    refine ⟨_, rfl, y, [], rw_, rfl, r2, fun H1 s1 => ⟨_, rfl, ?_⟩⟩
    cases e : namedOf rw_ with
    | none => exact ite2 (fun c => absurd c (by decide)) (fun _ => k H1 false s1 ⟨fun z => (nomatch z), fun ⟨n, z, _⟩ => by rw [e] at z; cases z⟩)
    | some n0 =>
      have lt := named_in okr e
      refine ite2 (fun _ => ?_) (fun c => absurd rfl c)
      refine ⟨_, rfl, y, [], rw_, P.c, n0, rfl, r2.sm s1, okr, e, _, rfl, rfl, _, rfl, ?_⟩
      refine ite2 (fun c => ?_) (fun c => ?_)
      · exact k H1 true s1 ⟨fun _ => ⟨n0, e, .inl (by have := V.int.inj (of_decide_eq_true c); omega)⟩, fun _ => rfl⟩
      · obtain ⟨ba, as, hb, hba, lab, each⟩ := bh
        obtain ⟨ks, hks, mem⟩ := each n0 _ (List.getElem?_eq_getElem (by omega))
        refine ⟨_, rfl, _, rfl, t, _, dx, fs, _, rfl, s1 _ _ ob, T.c_Tool, T.n_Tool_behind, hb, _, rfl, y, [], rw_, P.c, n0, rfl, r2.sm s1, okr, e, ba, _, (n0 : Int), _, rfl, rfl, SqL.of (s1 _ _ hba), atI_nat (by rw [List.getElem?_map, List.getElem?_eq_getElem (by omega)]; rfl), _, _, rfl, .inl (SqL.of (s1 _ _ hks)), rfl, flat_nats ks, ?_⟩
        rw [show (if false = true then !inV (nV part) (ks.map nV) else inV (nV part) (ks.map nV)) = decide (part ∈ ks) from inV_nat _ _]
        refine k H1 _ s1 ?_
        rw [decide_eq_true_eq, mem]
        refine ⟨fun z => ⟨n0, e, .inr z⟩, fun ⟨n, en, z⟩ => ?_⟩
        obtain rfl := Option.some.inj (e.symm.trans en)
        exact z.resolve_left fun z => c (decide_eq_true (by rw [z]; rfl))
end
end Lb

set_option Elab.async false
set_option linter.all false
set_option maxRecDepth 100000
set_option maxHeartbeats 4000000

namespace Lb
open PySem PySem.Spec PyProof.Rows L2
section
variable {P Pg : Program} {w : World} {K : PySem.W.Frag} {mg : Str → Option Value} {base : Heap} {A : Ad}
theorem row_hd {S : List Addr} {H : Hp} {x : V} {r : Row} (rx : Rep S H x r.d) : ∃ a rest, x = .ref a ∧ H a = some (.tup (.str r.word :: rest)) := by
  have key : ∃ rest, r.d = .tuple (.str r.word :: rest) := by cases r <;> exact ⟨_, rfl⟩
  obtain ⟨rest, e⟩ := key
  rw [e] at rx
  obtain ⟨a, xs, rfl, ha, _, rs⟩ := rx.tupV
  cases rs with
  | cons r0 rt =>
    obtain rfl := r0.strV
    exact ⟨a, _, rfl, ha⟩
theorem in_two (s : Str) : inV (V.str s) [V.str "show", V.str "out"] = decide (s = "show" ∨ s = "out") := by
  have z := inV_strs s ["show", "out"]
  rw [show ([V.str "show", V.str "out"] : List V) = (["show", "out"] : List Str).map V.str from rfl, z]
  simp

def sp_Tool_asks (A : Ad) : Sp := fun vs H Q _ => ∃ (t : Addr) (P : Prog) (os : List Str) (fs : List (Str × V)) (v : V) (S : List Addr) (q : Nat × Nat) (lv : Addr) (ys : List V) (lk : List (Nat × Nat)), vs = [.ref t, v, .ref lv] ∧ ToolAt A.k_Tool H t P os fs ∧ Rep S H v (stD q) ∧ q ∈ placesP P P.parts.length ∧ H lv = some (.lst ys) ∧ Reps [] H ys (lk.map stD) ∧ ∀ H' p, Same H H' → H p = none → H' p = some (.lst ((asksT os lk (rowP P q) q).map V.str)) → Q (.ref p) H'
theorem ok_Tool_asks (T : Txt K w mg A) : FnOk Pg w K mg base CX0 2 A.f_Tool_asks A.d_Tool_asks ["self", "place", "lacking"] (sp_Tool_asks A) := by
  refine T.F_Tool_asks.ok sc_Tool_asks (fun vs H Q E h => ?_) (fun cdv Ar outer s H vs Q E hr h => ?_)
  · obtain ⟨t, P, os, fs, v, S, q, lv, ys, lk, rfl, x, r, hq, hlv, rl, k⟩ := h
    rfl
  · obtain ⟨t, P, os, fs, v, S, q, lv, ys, lk, rfl, x, r, hq, hlv, rl, k⟩ := h
    refine ⟨_, PSs.nox ((pss_cons (ps_set (i := 3) sc_Tool_asks.nd rfl (Or.inl rfl) (pe_call (ok_row_at T) hr rfl T.m_row_at T.F_row_at.kp (b_row_at T) .nil pass0 (pa_cons (pe_fld (pv 0) rfl) (pa_cons (pv 1) pa_nil))))
 (pss_cons (ps_set (i := 4) sc_Tool_asks.nd rfl (Or.inl rfl) (pe_lst pa_nil))
 (pss_cons (ps_if (pt_cmpR op_in_seq (pe_ix ix_tup (pv 3) pe_int (fun _ _ => rfl)) (pe_tup (pa_cons pe_str (pa_cons pe_str pa_nil))) rfl) (pss_one (ps_expr (pe_bm PySem.F.plainAttrs_list PySem.F.slot_list_append PySem.F.type_list_append mt_append (pv 4) (pa_cons pe_str pa_nil)))) pss_nil)
 (pss_cons (ps_if (PW.pt (pw_and (pt_val (pe_call (ok_is_risky T) hr rfl T.m_is_risky T.F_is_risky.kp (b_is_risky T) .nil pass0 (pa_cons (pv 3) pa_nil))) (pw_and1 (pt_cmpR op_notIn_seq pe_str (pe_fld (pv 0) rfl) rfl)))) (pss_one (ps_expr (pe_bm PySem.F.plainAttrs_list PySem.F.slot_list_append PySem.F.type_list_append mt_append (pv 4) (pa_cons pe_str pa_nil)))) pss_nil)
 (pss_cons (ps_if (PW.pt (pw_and (pt_cmpR (op_inD (room65 hr)) (pv 1) (pv 2) rfl) (pw_and1 (pt_cmpR op_notIn_seq pe_str (pe_fld (pv 0) rfl) rfl)))) (pss_one (ps_expr (pe_bm PySem.F.plainAttrs_list PySem.F.slot_list_append PySem.F.type_list_append mt_append (pv 4) (pa_cons pe_str pa_nil)))) pss_nil)
 (pss_one (ps_ret (pv 4))))))))), ?_⟩
    rw [show start N_Tool_asks [.ref t, v, .ref lv] = [some (.ref t), some (v), some (.ref lv), none, none] from rfl]
    obtain ⟨⟨dx, ob⟩, ⟨sv, hs, rs⟩, ⟨oa, ho, hoa⟩, hm⟩ := x
    
    have hr_ := row_of hq
    refine ⟨_, rfl, t, _, dx, fs, _, rfl, ob, T.c_Tool, T.n_Tool_source, hs, _, rfl, sv, v, [], S, P, q.1, q.2, rowP P q, rfl, rs, r, hr_, fun y r2 => ?_⟩
    dsimp only [gName, List.set]
    generalize rowP P q = rw_ at *
    obtain ⟨a, rest, rfl, ha⟩ := row_hd r2
    refine ⟨Nat.zero_le _, fun p np => ?_⟩
    dsimp only [gName, List.set]
    refine cut_by (R := fun σ H' => σ = [some (.ref t), some v, some (.ref lv), some (.ref a), some (.ref p)] ∧ Same H H' ∧ H' p = some (.lst ((if rw_.word = "show" ∨ rw_.word = "out" then [("shows" : Str)] else []).map V.str))) ?_ ?_
    rotate_left
    · intro nx
      have s1 : Same H (upd H p (.lst [])) := same_new np
      refine ⟨_, rfl, a, _, 0, _, rfl, rfl, SqT.of (s1 _ _ ha), atI_nat (j := 0) rfl, (by show 2 ≤ sizeLine; decide), fun t2 nt2 => ⟨t2, _, rfl, .inr (SqT.of upd_same), rfl, rfl, _, rfl, ?_⟩⟩
      rw [show (if false = true then !inV (V.str rw_.word) [V.str "show", V.str "out"] else inV (V.str rw_.word) [V.str "show", V.str "out"]) = decide (rw_.word = "show" ∨ rw_.word = "out") from in_two _]
      have s2 := s1.trans (same_new (o := .tup [V.str "show", V.str "out"]) nt2)
      have hp2 := (same_new (o := .tup [V.str "show", V.str "out"]) nt2) _ _ (upd_same (H := H) (a := p) (o := .lst []))
      refine ite2 (fun c => ?_) (fun c => ?_)
      · refine ⟨_, rfl, .inl ⟨rfl, _, SqL.of hp2⟩, p, _, _, rfl, rfl, hp2, (by show 0 < sizeLine; decide), nx _ _ ⟨rfl, same_own s2 np, ?_⟩⟩
        rw [upd_same, if_pos (of_decide_eq_true c)]
        rfl
      · refine nx _ _ ⟨rfl, s2, ?_⟩
        rw [hp2, if_neg (of_decide_eq_false (bF c))]
        rfl
    rintro σ H1 ⟨rfl, s1, hp1⟩
    generalize e1 : (if rw_.word = "show" ∨ rw_.word = "out" then [("shows" : Str)] else []) = w1 at hp1
    have l1 : w1.length ≤ 1 := by rw [← e1]; split <;> simp
    refine cut_by (R := fun σ H' => σ = [some (.ref t), some v, some (.ref lv), some (.ref a), some (.ref p)] ∧ Same H H' ∧ H' p = some (.lst ((w1 ++ (if riskB rw_ = true ∧ ("risks" : Str) ∉ os then [("risks" : Str)] else [])).map V.str))) ?_ ?_
    rotate_left
    · intro nx
      refine ⟨_, rfl, .ref a, [], rw_, rfl, r2.sm s1, fun H2 s2 => ⟨_, rfl, ?_⟩⟩
      have s12 := s1.trans s2
      have hp2 := s2 _ _ hp1
      refine ite2 (fun c => ?_) (fun c => iteF ?_)
      · refine ⟨_, rfl, t, _, dx, fs, _, rfl, s12 _ _ ob, T.c_Tool, T.n_Tool_options, ho, oa, _, rfl, .inr (SqT.of (s12 _ _ hoa)), rfl, flat_strs os, _, rfl, ?_⟩
        rw [show (if true = true then !inV (V.str "risks") (os.map V.str) else inV (V.str "risks") (os.map V.str)) = !decide (("risks" : Str) ∈ os) from by rw [if_pos rfl, inV_strs]]
        refine ite2 (fun c2 => ?_) (fun c2 => ?_)
        · have n2 : ("risks" : Str) ∉ os := by simpa using c2
          refine ⟨_, rfl, .inl ⟨rfl, _, SqL.of hp2⟩, p, _, _, rfl, rfl, hp2, by rw [List.length_map, sizeLine_eq]; omega, nx _ _ ⟨rfl, same_own s12 np, ?_⟩⟩
          rw [upd_same, if_pos ⟨c, n2⟩, List.map_append]
          rfl
        · refine nx _ _ ⟨rfl, s12, ?_⟩
          rw [hp2, if_neg (fun z => c2 (by simpa using z.2)), List.append_nil]
      · refine nx _ _ ⟨rfl, s12, ?_⟩
        rw [hp2, if_neg (fun z => c z.1), List.append_nil]
    rintro σ H2 ⟨rfl, s2, hp2⟩
    generalize e2 : (if riskB rw_ = true ∧ ("risks" : Str) ∉ os then [("risks" : Str)] else []) = w2 at hp2
    have l2 : w2.length ≤ 1 := by rw [← e2]; split <;> simp
    refine cut_by (R := fun σ H' => σ = [some (.ref t), some v, some (.ref lv), some (.ref a), some (.ref p)] ∧ Same H H' ∧ H' p = some (.lst ((w1 ++ (w2 ++ (if q ∈ lk ∧ ("lookups" : Str) ∉ os then [("lacks" : Str)] else []))).map V.str))) ?_ ?_
    rotate_left
    · intro nx
      refine ⟨_, rfl, _, rfl, stD q, _, (r.sm s2).dp _ _ rfl, (Rep.lst (s2 _ _ hlv) List.not_mem_nil (rl.sm s2) : Rep [] H2 (.ref lv) (.list (lk.map stD))).dp _ _ (noDict_sts lk), shaped_st q, shaped_sts lk, _, rfl, ?_⟩
      rw [any_st]
      refine ite2 (fun c => ?_) (fun c => iteF ?_)
      · refine ⟨_, rfl, t, _, dx, fs, _, rfl, s2 _ _ ob, T.c_Tool, T.n_Tool_options, ho, oa, _, rfl, .inr (SqT.of (s2 _ _ hoa)), rfl, flat_strs os, _, rfl, ?_⟩
        rw [show (if true = true then !inV (V.str "lookups") (os.map V.str) else inV (V.str "lookups") (os.map V.str)) = !decide (("lookups" : Str) ∈ os) from by rw [if_pos rfl, inV_strs]]
        refine ite2 (fun c2 => ?_) (fun c2 => ?_)
        · have n2 : ("lookups" : Str) ∉ os := by simpa using c2
          refine ⟨_, rfl, .inl ⟨rfl, _, SqL.of hp2⟩, p, _, _, rfl, rfl, hp2, by rw [List.length_map, List.length_append, sizeLine_eq]; omega, nx _ _ ⟨rfl, same_own s2 np, ?_⟩⟩
          rw [upd_same, if_pos ⟨of_decide_eq_true c, n2⟩, ← List.append_assoc, List.map_append (l₂ := [("lacks" : Str)])]
          rfl
        · refine nx _ _ ⟨rfl, s2, ?_⟩
          rw [hp2, if_neg (fun z => c2 (by simpa using z.2)), List.append_nil]
      · refine nx _ _ ⟨rfl, s2, ?_⟩
        rw [hp2, if_neg (fun z => c (decide_eq_true z.1)), List.append_nil]
    rintro σ H3 ⟨rfl, s3, hp3⟩
    refine ⟨_, rfl, k H3 p s3 np ?_⟩
    rw [hp3]
    unfold asksT
    rw [e1, e2]
end
end Lb

set_option Elab.async false
set_option linter.all false
set_option maxRecDepth 100000
set_option maxHeartbeats 4000000

namespace Lb
open PySem PySem.Spec PyProof.Rows L2
section
variable {P Pg : Program} {w : World} {K : PySem.W.Frag} {mg : Str → Option Value} {base : Heap} {A : Ad}
def sp_Tool___init__ (A : Ad) : Sp := fun vs H Q _ => ∃ (t dx : Addr) (v : V) (P : Prog) (oa lv : Addr) (os : List Str) (ys : List V) (lk : List (Nat × Nat)), vs = [.ref t, v, .ref oa, .ref lv] ∧ H t = some (.ins A.k_Tool dx []) ∧ Rep [] H v P.d ∧ P.Ok ∧ H oa = some (.tup (os.map V.str)) ∧ H lv = some (.lst ys) ∧ Reps [] H ys (lk.map stD) ∧ ∀ H' fs, But [t] H H' → ToolAt A.k_Tool H' t P os fs → PlAt H' fs P → BhAt H' fs P → AkAt H' fs P os lk → Q .non H'
theorem ok_Tool___init__ (T : Txt K w mg A) : FnOk Pg w K mg base CX0 12 A.f_Tool___init__ A.d_Tool___init__ ["self", "program", "options", "lacking"] (sp_Tool___init__ A) := by
  refine T.F_Tool___init__.ok sc_Tool___init__ (fun vs H Q E h => ?_) (fun cdv Ar outer s H vs Q E hr h => ?_)
  · obtain ⟨t, dx, v, P, oa, lv, os, ys, lk, rfl, ht, r, ok, hoa, hlv, rl, k⟩ := h
    rfl
  · obtain ⟨t, dx, v, P, oa, lv, os, ys, lk, rfl, ht, r, ok, hoa, hlv, rl, k⟩ := h
    refine ⟨_, PSs.nox ((pss_cons (ps_fld (pv 0) (pv 1) rfl)
 (pss_cons (ps_fld (pv 0) (pv 2) rfl)
 (pss_cons (ps_fld (pv 0) (pe_call (ok_all_rows T) (hr.mono (by decide)) rfl T.m_all_rows T.F_all_rows.kp (b_all_rows T) .nil pass0 (pa_cons (pv 1) pa_nil)) rfl)
 (pss_cons (ps_set (i := 4) sc_Tool___init__.nd rfl (Or.inr rfl) (pe_call (ok_links_of T) (hr.mono (by decide)) rfl T.m_links_of T.F_links_of.kp (b_links_of T) .nil pass0 (pa_cons (pv 1) pa_nil)))
 (pss_cons (ps_fld (pv 0) (pe_lc (own := [("part", 5)]) (g := (gName 5)) (tt := tYes) rfl sc_Tool___init__.nd (pi_range1 (by rfl) T.zrange (pa_cons (pe_callB call_len_seq (by rfl) T.zlen (by decide +kernel) (pa_cons (pv 4) pa_nil)) pa_nil)) (blkOk_by (N := N_Tool___init__) (sc := defScope s_Tool___init__) (by decide +kernel)) (fun _ _ _ _ _ => (pg_name (i := 5) sc_Tool___init__.nd rfl (Or.inl rfl))) (fun _ _ _ _ _ => pts_nil) (fun _ _ _ _ _ => (pe_call (ok_parts_behind T) (hr.mono (by decide)) rfl T.m_parts_behind T.F_parts_behind.kp (b_parts_behind T) .nil pass0 (pa_cons (pv 4) (pa_cons (pv 5) pa_nil))))) rfl)
 (pss_one (ps_fld (pv 0) (pe_lc2 (own := [("place", 6), ("why", 7)]) (vs1 := [7]) (g := (gName 6)) (tt := tYes) (g1 := (gName 7)) (tt1 := tYes) rfl sc_Tool___init__.nd (pi_list (pe_fld (pv 0) rfl)) (blkOk_by (N := N_Tool___init__) (sc := defScope s_Tool___init__) (by decide +kernel)) (by decide) (fun _ _ _ _ _ => (pg_name (i := 6) sc_Tool___init__.nd rfl (Or.inl rfl))) (fun _ _ _ _ _ => pts_nil) (fun _ _ _ _ _ => (show PI _ _ _ (iList K _) from pi_list (pe_meth (pv 0) T.c_Tool T.me_Tool_asks (ok_Tool_asks T) (hr.mono (by decide)) (b_Tool_asks T) .nil pass0 (pa_cons (pv 6) (pa_cons (pv 3) pa_nil))))) (fun _ _ _ _ _ => (pg_name (i := 7) sc_Tool___init__.nd rfl (Or.inl rfl))) (fun _ _ _ _ _ => pts_nil) (fun _ _ _ _ _ => (pe_tup (pa_cons (pv 7) (pa_cons (pv 6) pa_nil))))) rfl)))))))), ?_⟩
    rw [show start N_Tool___init__ [.ref t, v, .ref oa, .ref lv] = [some (.ref t), some (v), some (.ref oa), some (.ref lv), none, none, none, none] from rfl]
    have four := ok.four
    have ot : oa ≠ t := ne_of hoa ht (fun z => nomatch z)
    have lt_ : lv ≠ t := ne_of hlv ht (fun z => nomatch z)
    -- source, options
    refine ⟨_, rfl, _, rfl, t, _, dx, _, rfl, ht, T.c_Tool, T.n_Tool_source, (by show 0 < 1000; decide), _, rfl, _, rfl, t, _, dx, _, rfl, upd_same, T.c_Tool, T.n_Tool_options, (Nat.lt_of_le_of_lt (length_putF _ _ _) (by show 1 < 1000; decide)), ?_⟩
    have b2 : But [t] H (upd (upd H t (.ins A.k_Tool dx (putF "source" v []))) t (.ins A.k_Tool dx (putF "options" (.ref oa) (putF "source" v [])))) := (But.refl.upd List.mem_cons_self).upd List.mem_cons_self
    have ht2 : upd (upd H t (.ins A.k_Tool dx (putF "source" v []))) t (.ins A.k_Tool dx (putF "options" (.ref oa) (putF "source" v []))) t = some (.ins A.k_Tool dx (putF "options" (.ref oa) (putF "source" v []))) := upd_same
    have r2 : Rep [] (upd (upd H t (.ins A.k_Tool dx (putF "source" v []))) t (.ins A.k_Tool dx (putF "options" (.ref oa) (putF "source" v [])))) v P.d := (r.put ht).put upd_same
    have rl2 : Reps [] (upd (upd H t (.ins A.k_Tool dx (putF "source" v []))) t (.ins A.k_Tool dx (putF "options" (.ref oa) (putF "source" v [])))) ys (lk.map stD) := (rl.put ht).put upd_same
    have hoa2 := b2.at1 hoa ot
    have hlv2 := b2.at1 hlv lt_
    generalize upd (upd H t (.ins A.k_Tool dx (putF "source" v []))) t (.ins A.k_Tool dx (putF "options" (.ref oa) (putF "source" v []))) = H2 at *
    clear r rl ht
    have m1 : (putF "source" v []).length ≤ 1 := length_putF _ _ _
    have m2 : (putF "options" (.ref oa) (putF "source" v [])).length ≤ 2 := Nat.le_trans (length_putF _ _ _) (by omega)
    -- places
    refine ⟨_, rfl, v, [], P.d, rfl, r2, prog_ok ok, fun H3 pa ps s3 npa hpa rps lps => ?_⟩
    rw [places_two] at rps
    have ht3 := s3 _ _ ht2
    have pat : pa ≠ t := (ne_of_none ht2 npa).symm
    refine ⟨_, rfl, t, _, dx, _, rfl, ht3, T.c_Tool, T.n_Tool_places, (by omega), ?_⟩
    have m3 : (putF "places" (.ref pa) (putF "options" (.ref oa) (putF "source" v []))).length ≤ 3 := Nat.le_trans (length_putF _ _ _) (by omega)
    have b3 : But [t] H2 (upd H3 t (.ins A.k_Tool dx (putF "places" (.ref pa) (putF "options" (.ref oa) (putF "source" v []))))) := (But.of s3).upd List.mem_cons_self
    have ht4 : upd H3 t (.ins A.k_Tool dx (putF "places" (.ref pa) (putF "options" (.ref oa) (putF "source" v [])))) t = some (.ins A.k_Tool dx (putF "places" (.ref pa) (putF "options" (.ref oa) (putF "source" v [])))) := upd_same
    have r4 : Rep [] (upd H3 t (.ins A.k_Tool dx (putF "places" (.ref pa) (putF "options" (.ref oa) (putF "source" v []))))) v P.d := (r2.sm s3).put ht3
    have rl4 : Reps [] (upd H3 t (.ins A.k_Tool dx (putF "places" (.ref pa) (putF "options" (.ref oa) (putF "source" v []))))) ys (lk.map stD) := (rl2.sm s3).put ht3
    have rps4 : Reps [] (upd H3 t (.ins A.k_Tool dx (putF "places" (.ref pa) (putF "options" (.ref oa) (putF "source" v []))))) ps ((placesP P P.parts.length).map stD) := rps.put ht3
    have hpa4 : upd H3 t (.ins A.k_Tool dx (putF "places" (.ref pa) (putF "options" (.ref oa) (putF "source" v [])))) pa = some (.lst ps) := by rw [upd_ne pat]; exact hpa
    have hoa4 := b3.at1 hoa2 ot
    have hlv4 := b3.at1 hlv2 lt_
    have b4 := b2.trans b3
    generalize upd H3 t (.ins A.k_Tool dx (putF "places" (.ref pa) (putF "options" (.ref oa) (putF "source" v [])))) = H4 at *
    clear b2 b3 r2 rl2 rps hpa hoa2 hlv2 ht2 ht3 s3 npa
    -- links
    refine ⟨_, rfl, v, [], P, rfl, r4, ok, fun lkv H5 s5 lk5 => ?_⟩
    dsimp only [gName, List.set]
    -- behind
    obtain ⟨LD, las, rfl, nLD, hLD, ll, lall⟩ := id lk5
    have lln : las.length = P.parts.length := by rw [ll, (links_ok ok).len]
    refine ⟨_, rfl, LD, _, rfl, .inl (SqL.of hLD), (P.parts.length : Int), by rw [List.length_map, lln], by omega, by omega, fun BD nBD => ?_⟩
    refine lc_it walk_range (fun j H' => Same H5 H' ∧ ∃ as : List Addr, H' BD = some (.lst (as.map V.ref)) ∧ as.length = j ∧ ∀ i a, as[i]? = some a → a ≠ BD ∧ ∃ ks : List Nat, H' a = some (.lst (ks.map nV)) ∧ ∀ k, k ∈ ks ↔ Reach (linksL P) i k) ⟨same_new nBD, [], upd_same, rfl, fun i a z => by simp at z⟩ (fun _ _ _ _ => trivial) ?_ ?_
    · rintro j y H7 H6 hj ⟨s6, as, hBD, la, each⟩ ⟨rfl, rfl⟩
      have hj : j < P.parts.length := by omega
      refine ⟨rfl, _, rfl, _, rfl, .ref LD, H4, linksL P, P.parts.length, j, (by show [V.ref LD, V.int (0 + (j : Int))] = _; rw [Int.zero_add]; rfl), links_ok ok, by omega, hj, lk5.sm s6, fun p H7 fs7 s7 np hp nd mem => ?_⟩
      have pB : p ≠ BD := (ne_of_none hBD np).symm
      refine ⟨as.map V.ref, s7 _ _ hBD, by rw [List.length_map, sizeLine_eq]; omega, same_own (s6.trans s7) nBD, as ++ [p], by rw [List.map_append]; exact upd_same, by rw [List.length_append, la]; rfl, fun i a z => ?_⟩
      rcases Nat.lt_or_ge i as.length with lt | ge
      · rw [List.getElem?_append_left lt] at z
        obtain ⟨n1, ks, h1, h2⟩ := each i a z
        exact ⟨n1, ks, by rw [upd_ne n1]; exact s7 _ _ h1, h2⟩
      · rw [List.getElem?_append_right ge] at z
        obtain ⟨e0, rfl⟩ : i = j ∧ a = p := by
          rw [la] at z ge
          have : i - j = 0 := by
            have := (List.getElem?_eq_some_iff.mp z).1
            simp at this
            omega
          rw [this] at z
          exact ⟨by omega, (Option.some.inj z).symm⟩
        subst e0
        exact ⟨pB, fs7, by rw [upd_ne pB]; exact hp, mem⟩
    rintro H6 ⟨s6, as, hBD, la, each⟩
    rw [Int.toNat_natCast] at la
    have s46 : Same H4 H6 := s5.trans s6
    have ht6 := s46 _ _ ht4
    have BDt : BD ≠ t := (ne_of_none (s5 _ _ ht4) nBD).symm
    refine ⟨_, rfl, t, _, dx, _, rfl, ht6, T.c_Tool, T.n_Tool_behind, (by omega), ?_⟩
    have b6 : But [t] H (upd H6 t (.ins A.k_Tool dx (fields4 v (.ref oa) (.ref pa) (.ref BD)))) := (b4.trans (But.of s46)).upd List.mem_cons_self
    have ht7 : upd H6 t (.ins A.k_Tool dx (fields4 v (.ref oa) (.ref pa) (.ref BD))) t = some (.ins A.k_Tool dx (fields4 v (.ref oa) (.ref pa) (.ref BD))) := upd_same
    have r7 : Rep [] (upd H6 t (.ins A.k_Tool dx (fields4 v (.ref oa) (.ref pa) (.ref BD)))) v P.d := (r4.sm s46).put ht6
    have rl7 : Reps [] (upd H6 t (.ins A.k_Tool dx (fields4 v (.ref oa) (.ref pa) (.ref BD)))) ys (lk.map stD) := (rl4.sm s46).put ht6
    have rps7 : Reps [] (upd H6 t (.ins A.k_Tool dx (fields4 v (.ref oa) (.ref pa) (.ref BD)))) ps ((placesP P P.parts.length).map stD) := (rps4.sm s46).put ht6
    have hpa7 : upd H6 t (.ins A.k_Tool dx (fields4 v (.ref oa) (.ref pa) (.ref BD))) pa = some (.lst ps) := by rw [upd_ne pat]; exact s46 _ _ hpa4
    have hoa7 : upd H6 t (.ins A.k_Tool dx (fields4 v (.ref oa) (.ref pa) (.ref BD))) oa = some (.tup (os.map V.str)) := by rw [upd_ne ot]; exact s46 _ _ hoa4
    have hlv7 : upd H6 t (.ins A.k_Tool dx (fields4 v (.ref oa) (.ref pa) (.ref BD))) lv = some (.lst ys) := by rw [upd_ne lt_]; exact s46 _ _ hlv4
    have bh7 : BhAt (upd H6 t (.ins A.k_Tool dx (fields4 v (.ref oa) (.ref pa) (.ref BD)))) (fields4 v (.ref oa) (.ref pa) (.ref BD)) P := by
      refine ⟨BD, as, beh4 _ _ _ _, by rw [upd_ne BDt]; exact hBD, la, fun i a z => ?_⟩
      obtain ⟨_, ks, h1, h2⟩ := each i a z
      exact ⟨ks, by rw [upd_ne (ne_of h1 ht6 (fun z => nomatch z))]; exact h1, h2⟩
    generalize upd H6 t (.ins A.k_Tool dx (fields4 v (.ref oa) (.ref pa) (.ref BD))) = H7 at *
    clear each la hBD s6 s5 s46 ht6 ht4 r4 rl4 rps4 hpa4 hoa4 hlv4 b4 lk5 lall hLD nLD nBD
    have tl7 : ToolAt A.k_Tool H7 t P os (fields4 v (.ref oa) (.ref pa) (.ref BD)) := ⟨⟨dx, ht7⟩, ⟨v, src4 _ _ _ _, r7⟩, ⟨oa, opt4 _ _ _ _, hoa7⟩, none4 _ _ _ _⟩
    have tot := placesP_len ok P.parts.length
    have lps := rps7.length
    rw [List.length_map] at lps
    -- asked
    let AK : List (Nat × Nat) → List Ln := fun l => l.flatMap fun q => (asksT os lk (rowP P q) q).map fun w => (w, q)
    have ask3 : ∀ q, (asksT os lk (rowP P q) q).length ≤ 3 := fun q => by
      unfold asksT
      simp only [List.length_append]
      split <;> split <;> split <;> simp
    have akl : ∀ l, (AK l).length ≤ 3 * l.length := fun l => by
      induction l with
      | nil => exact Nat.le_refl _
      | cons q l ih =>
        show ((asksT os lk (rowP P q) q).map (fun w => (w, q)) ++ AK l).length ≤ _
        have := ask3 q
        rw [List.length_append, List.length_map, List.length_cons]
        omega
    refine ⟨_, rfl, t, _, dx, _, _, rfl, ht7, T.c_Tool, T.n_Tool_places, plc4 _ _ _ _, pa, rfl, ⟨_, SqL.of hpa7⟩, fun R nR => ?_⟩
    refine lc2_out (walk_list (xs := ps)) (fun i H8 => Same H7 H8 ∧ ∃ acc, H8 R = some (.lst acc) ∧ Reps [R] H8 acc ((AK ((placesP P P.parts.length).take i)).map lnD)) ⟨same_new nR, [], upd_same, .nil⟩ (fun i H8 _ p => SqL.of (p.1 _ _ hpa7)) ?_ ?_
    · rintro i x H9 H8 hi ⟨s8, acc, hR, rA⟩ ⟨rfl, hx⟩
      have il : i < (placesP P P.parts.length).length := by omega
      obtain ⟨d, hd, rx⟩ := rps7.get hx
      rw [List.getElem?_map, List.getElem?_eq_getElem il] at hd
      obtain rfl := Option.some.inj hd
      have hq := List.getElem_mem il
      have tk : (placesP P P.parts.length).take (i + 1) = (placesP P P.parts.length).take i ++ [(placesP P P.parts.length)[i]] := by rw [List.take_succ, List.getElem?_eq_getElem il]; rfl
      have la := rA.length
      rw [List.length_map] at la
      have lb := akl ((placesP P P.parts.length).take i)
      rw [List.length_take] at lb
      generalize (placesP P P.parts.length)[i] = q at *
      refine ⟨rfl, _, rfl, t, dx, _, rfl, s8 _ _ ht7, none4 _ _ _ _ _ (by decide +kernel), _, rfl, _, rfl, t, P, os, _, x, [], q, lv, ys, lk, rfl, tl7.sm s8, rx.sm s8, hq, s8 _ _ hlv7, rl7.sm s8, fun H9 p s9 np hp => ⟨p, rfl, ⟨_, SqL.of hp⟩, ?_⟩⟩
      have pR : p ≠ R := (ne_of_none hR np).symm
      have a3 := ask3 q
      refine lc2_in (walk_list (xs := (asksT os lk (rowP P q) q).map V.str)) (fun j HA => Same H7 HA ∧ HA p = some (.lst ((asksT os lk (rowP P q) q).map V.str)) ∧ ∃ acc', HA R = some (.lst acc') ∧ acc'.length ≤ acc.length + j ∧ Reps [R] HA acc' ((AK ((placesP P P.parts.length).take i) ++ ((asksT os lk (rowP P q) q).take j).map fun w => (w, q)).map lnD)) ⟨s8.trans s9, hp, acc, s9 _ _ hR, Nat.le_refl _, by rw [List.take_zero, List.map_nil, List.append_nil]; exact rA.sm s9⟩ (fun j HA _ z => SqL.of z.2.1) ?_ ?_
      · rintro j y HB HA hj ⟨sA, hpA, acc', hRA, lac, rA'⟩ ⟨rfl, hy⟩
        rw [List.length_map] at hj
        rw [List.getElem?_map, List.getElem?_eq_getElem hj] at hy
        obtain rfl := Option.some.inj hy
        have tkj : (asksT os lk (rowP P q) q).take (j + 1) = (asksT os lk (rowP P q) q).take j ++ [(asksT os lk (rowP P q) q)[j]] := by rw [List.take_succ, List.getElem?_eq_getElem hj]; rfl
        generalize (asksT os lk (rowP P q) q)[j] = wd at *
        refine ⟨rfl, _, rfl, _, rfl, (by show 2 ≤ sizeLine; decide), fun tt ntt => ?_⟩
        have st : Same HA (upd HA tt (.tup [.str wd, x])) := same_new ntt
        have tR : tt ≠ R := (ne_of_none hRA ntt).symm
        have bR : But [R] (upd HA tt (.tup [.str wd, x])) (upd (upd HA tt (.tup [.str wd, x])) R (.lst (acc' ++ [.ref tt]))) := But.refl.upd List.mem_cons_self
        refine ⟨acc', st _ _ hRA, by rw [sizeLine_eq]; omega, same_own (sA.trans st) nR, by rw [upd_ne pR]; exact st _ _ hpA, acc' ++ [.ref tt], upd_same, by rw [List.length_append, List.length_singleton]; omega, ?_⟩
        rw [tkj, List.map_append (f := fun w => (w, q)), ← List.append_assoc, List.map_append (f := lnD)]
        refine ((rA'.sm st).mv bR).app (.one (.tup (by rw [upd_ne tR]; exact upd_same) (fun z => tR (List.mem_singleton.mp z)) (.cons (.str _) (.cons ?_ .nil))))
        exact ((Rep.avoid (st _ _ hRA) _ _ rfl ((rx.sm sA).sm st)).mv bR)
      · rintro HA ⟨sA, hpA, acc', hRA, lac, rA'⟩
        rw [List.length_map, List.take_length] at rA'
        refine ⟨sA, acc', hRA, ?_⟩
        rw [tk]
        show Reps [R] HA acc' ((((placesP P P.parts.length).take i ++ [q]).flatMap fun q => (asksT os lk (rowP P q) q).map fun w => (w, q)).map lnD)
        rw [List.flatMap_append, List.flatMap_cons, List.flatMap_nil, List.append_nil]
        exact rA'
    rintro H8 ⟨s8, acc, hR, rA⟩
    rw [lps, List.take_length] at rA
    have rA0 : Reps [] H8 acc ((askedT P os lk).map lnD) := rA.less fun _ z => absurd z List.not_mem_nil
    have ht8 := s8 _ _ ht7
    have Rt : R ≠ t := (ne_of_none ht7 nR).symm
    have m4 := many4 v (.ref oa) (.ref pa) (.ref BD)
    refine ⟨_, rfl, t, _, dx, _, rfl, ht8, T.c_Tool, T.n_Tool_asked, (by omega), k _ (fields5 v (.ref oa) (.ref pa) (.ref BD) (.ref R)) ((b6.trans (But.of s8)).upd List.mem_cons_self) ?_ ?_ ?_ ?_⟩
    · exact ⟨⟨dx, upd_same⟩, ⟨v, (in5 _ _ _ _ _ (by decide +kernel)).trans (src4 _ _ _ _), (r7.sm s8).put ht8⟩, ⟨oa, (in5 _ _ _ _ _ (by decide +kernel)).trans (opt4 _ _ _ _), by rw [upd_ne ot]; exact s8 _ _ hoa7⟩, none5 _ _ _ _ _⟩
    · exact ⟨pa, ps, (in5 _ _ _ _ _ (by decide +kernel)).trans (plc4 _ _ _ _), by rw [upd_ne pat]; exact s8 _ _ hpa7, (rps7.sm s8).put ht8⟩
    · obtain ⟨ba, as, h1, h2, h3, h4⟩ := bh7.sm s8
      refine ⟨ba, as, (in5 _ _ _ _ _ (by decide +kernel)).trans h1, by rw [upd_ne (ne_of h2 ht8 (fun z => nomatch z))]; exact h2, h3, fun j a z => ?_⟩
      obtain ⟨ks, g1, g2⟩ := h4 j a z
      exact ⟨ks, by rw [upd_ne (ne_of g1 ht8 (fun z => nomatch z))]; exact g1, g2⟩
    · exact ⟨R, acc, lk_eq _ _ _, by rw [upd_ne Rt]; exact hR, rA0.put ht8⟩
end
end Lb

set_option Elab.async false
set_option linter.all false
set_option maxRecDepth 100000
set_option maxHeartbeats 4000000

namespace Lb
open PySem PySem.Spec PyProof.Rows L2
section
variable {P Pg : Program} {w : World} {K : PySem.W.Frag} {mg : Str → Option Value} {base : Heap} {A : Ad}
theorem pe_fldK {X : Cx} {K : PySem.W.Frag} {e : Expr} {f : Str} {ta : TE} {pos : Pos} (he : L2.PE X e ta) (hK : X.K = K := by rfl) (hb : attributeBase e f X.env (eval e X.env) = eval e X.env := by rfl) : L2.PE X (.Attribute e f pos) (tFld K ta f) := by
  subst hK
  exact pe_fld he hb
def givL (P : Prog) (w : Str) (l : List Nm) : List Ln := l.flatMap fun n => (giversP P n.1.toNat n.2).map fun g => (w, g)
def plcL (w : Str) (f : Nat × Nat → Bool) (l : List (Nat × Nat)) : List Ln := (l.filter f).map fun q => (w, q)
theorem givL_snoc (P : Prog) (w : Str) (l : List Nm) (n : Nm) : givL P w (l ++ [n]) = givL P w l ++ (giversP P n.1.toNat n.2).map fun g => (w, g) := by
  unfold givL
  rw [List.flatMap_append, List.flatMap_cons, List.flatMap_nil, List.append_nil]
theorem plcL_snoc (w : Str) (f : Nat × Nat → Bool) (l : List (Nat × Nat)) (q : Nat × Nat) : plcL w f (l ++ [q]) = plcL w f l ++ (if f q = true then [(w, q)] else []) := by
  unfold plcL
  rw [List.filter_append, List.map_append]
  by_cases c : f q = true
  · rw [if_pos c, List.filter_cons, if_pos c]
    rfl
  · rw [if_neg c, List.filter_cons, if_neg c]
    rfl
theorem noLst_lns (l : List Ln) : noLsts (l.map lnD) = true := noLst_all fun x hx => by
  obtain ⟨y, _, rfl⟩ := List.mem_map.mp hx
  rfl
theorem noLst_sts (l : List (Nat × Nat)) : noLsts (l.map stD) = true := noLst_all fun x hx => by
  obtain ⟨y, _, rfl⟩ := List.mem_map.mp hx
  rfl
theorem asked_few {P : Prog} (ok : P.Ok) {os : List Str} {lk : List (Nat × Nat)} : (askedT P os lk).length ≤ 60 := by
  have tot := placesP_len ok P.parts.length
  have four := ok.four
  have key : ∀ l : List (Nat × Nat), (l.flatMap fun q => (asksT os lk (rowP P q) q).map fun w => (w, q)).length ≤ 3 * l.length := fun l => by
    induction l with
    | nil => exact Nat.le_refl _
    | cons q l ih =>
      have h3 : (asksT os lk (rowP P q) q).length ≤ 3 := by
        unfold asksT
        simp only [List.length_append]
        split <;> split <;> split <;> simp
      rw [List.flatMap_cons, List.length_append, List.length_map, List.length_cons]
      omega
  have := key (placesP P P.parts.length)
  show ((placesP P P.parts.length).flatMap fun q => (asksT os lk (rowP P q) q).map fun w => (w, q)).length ≤ 60
  omega
theorem asked_place {P : Prog} {os : List Str} {lk : List (Nat × Nat)} {l : Ln} (h : l ∈ askedT P os lk) : l.2 ∈ placesP P P.parts.length := by
  unfold askedT at h
  obtain ⟨q, hq, hm⟩ := List.mem_flatMap.mp h
  obtain ⟨w, _, rfl⟩ := List.mem_map.mp hm
  exact hq

def sp_Tool_first_links (A : Ad) : Sp := fun vs H Q _ => ∃ (t : Addr) (P : Prog) (os : List Str) (lk : List (Nat × Nat)) (fs : List (Str × V)), vs = [.ref t] ∧ ToolAt A.k_Tool H t P os fs ∧ PlAt H fs P ∧ AkAt H fs P os lk ∧ P.Ok ∧ ∀ H' p xs, Same H H' → H p = none → H' p = some (.lst xs) → xs.length ≤ 1000 → Reps [] H' xs ((firstT P os lk).map lnD) → Q (.ref p) H'
theorem ok_Tool_first_links (T : Txt K w mg A) : FnOk Pg w K mg base CX0 13 A.f_Tool_first_links A.d_Tool_first_links ["self"] (sp_Tool_first_links A) := by
  refine T.F_Tool_first_links.ok sc_Tool_first_links (fun vs H Q E h => ?_) (fun cdv Ar outer s H vs Q E hr h => ?_)
  · obtain ⟨t, P, os, lk, fs, rfl, x, pl, ak, ok, k⟩ := h
    rfl
  · obtain ⟨t, P, os, lk, fs, rfl, x, pl, ak, ok, k⟩ := h
    refine ⟨_, PSs.nox ((pss_cons (ps_setLc (i := 1) (own := [("why", 2), ("place", 3)]) (g := (gTup _ 2 (gCons (gName 2) (gCons (gName 3) gNil)))) (tt := _) rfl sc_Tool_first_links.nd rfl rfl (sw_true rfl rfl rfl (by decide +kernel)) (pi_list (pe_fld (pv 0) rfl)) (blkOk_by (N := N_Tool_first_links) (sc := defScope s_Tool_first_links) (by decide +kernel)) (fun _ _ _ _ _ => (pg_tup (by rfl) (pgs_cons (pg_name (i := 2) sc_Tool_first_links.nd rfl (Or.inl rfl)) (pgs_cons (pg_name (i := 3) sc_Tool_first_links.nd rfl (Or.inl rfl)) pgs_nil)))) (fun _ _ _ _ _ => (pts_one (pt_not (pt_val (pe_meth (pv 0) T.c_Tool T.me_Tool_waits (ok_Tool_waits T) (hr.mono (by decide)) (b_Tool_waits T) .nil pass0 (pa_cons (pv 3) pa_nil)))))) (fun _ _ _ _ _ => (pe_tup (pa_cons (pv 2) (pa_cons (pv 3) pa_nil)))))
 (pss_cons (ps_expr (pe_bm PySem.F.plainAttrs_list PySem.F.slot_list_extend PySem.F.type_list_extend mt_extend (pv 1) (pa_cons (pe_lc2 (own := [("need", 4), ("giver", 5)]) (vs1 := [5]) (g := (gName 4)) (tt := tYes) (g1 := (gName 5)) (tt1 := tYes) rfl sc_Tool_first_links.nd (pi_tup (pe_ix ix_tup (pe_fld (pv 0) rfl) pe_int (fun _ _ => rfl))) (blkOk_by (N := N_Tool_first_links) (sc := defScope s_Tool_first_links) (by decide +kernel)) (by decide) (fun _ _ _ _ _ => (pg_name (i := 4) sc_Tool_first_links.nd rfl (Or.inl rfl))) (fun _ _ _ _ _ => pts_nil) (fun _ _ _ _ _ => (show PI _ _ _ (iList K _) from pi_list (pe_call (ok_givers_of T) (hr.mono (by decide)) rfl T.m_givers_of T.F_givers_of.kp (b_givers_of T) .nil pass0 (pa_cons (pe_fldK (K := K) (pv 0)) (pa_cons (pv 4) pa_nil))))) (fun _ _ _ _ _ => (pg_name (i := 5) sc_Tool_first_links.nd rfl (Or.inl rfl))) (fun _ _ _ _ _ => pts_nil) (fun _ _ _ _ _ => (pe_tup (pa_cons pe_str (pa_cons (pv 5) pa_nil))))) pa_nil)))
 (pss_cons (ps_if (pt_cmpR op_notIn_seq pe_str (pe_fld (pv 0) rfl) rfl) (pss_one (ps_expr (pe_bm PySem.F.plainAttrs_list PySem.F.slot_list_extend PySem.F.type_list_extend mt_extend (pv 1) (pa_cons (pe_lc (own := [("place", 3)]) (g := (gName 3)) (tt := _) rfl sc_Tool_first_links.nd (pi_list (pe_fld (pv 0) rfl)) (blkOk_by (N := N_Tool_first_links) (sc := defScope s_Tool_first_links) (by decide +kernel)) (fun _ _ _ _ _ => (pg_name (i := 3) sc_Tool_first_links.nd rfl (Or.inl rfl))) (fun _ _ _ _ _ => (pts_one (pt_val (pe_call (ok_is_loading T) (hr.mono (by decide)) rfl T.m_is_loading T.F_is_loading.kp (b_is_loading T) .nil pass0 (pa_cons (pe_call (ok_row_at T) (hr.mono (by decide)) rfl T.m_row_at T.F_row_at.kp (b_row_at T) .nil pass0 (pa_cons (pe_fldK (K := K) (pv 0)) (pa_cons (pv 3) pa_nil))) pa_nil))))) (fun _ _ _ _ _ => (pe_tup (pa_cons pe_str (pa_cons (pv 3) pa_nil))))) pa_nil)))) pss_nil)
 (pss_one (ps_ret (pv 1))))))), ?_⟩
    rw [show start N_Tool_first_links [.ref t] = [some (.ref t), none, none, none, none, none] from rfl]
    have x0 := x
    obtain ⟨⟨dx, ob⟩, ⟨sv, hs, rs⟩, ⟨oa, ho, hoa⟩, hm⟩ := x
    
    obtain ⟨pa, ps, hpl, hpa, rps⟩ := pl
    obtain ⟨aa, as, hak, haa, ras⟩ := ak
    have las := ras.length
    rw [List.length_map] at las
    have tot := placesP_len ok P.parts.length
    have four := ok.four
    have hm1 := hm "waits" (by decide +kernel)
    refine ⟨_, rfl, t, _, dx, fs, _, rfl, ob, T.c_Tool, T.n_Tool_asked, hak, aa, rfl, ⟨_, SqL.of haa⟩, fun F nF => ?_⟩
    refine lc_it (walk_list (xs := as)) (fun i H' => Same H H' ∧ ∃ acc, H' F = some (.lst acc) ∧ acc.length ≤ i ∧ Reps [F] H' acc ((((askedT P os lk).take i).filter fun l => !waitsT P os l.2).map lnD)) ⟨same_new nF, [], upd_same, Nat.zero_le _, .nil⟩ (fun i H' _ p => SqL.of (p.1 _ _ haa)) ?_ ?_
    · rintro i x H2 H1 hi ⟨s1, acc, hF, la, rA⟩ ⟨rfl, hx⟩
      have il : i < (askedT P os lk).length := by omega
      obtain ⟨d, hd, rx⟩ := ras.get hx
      rw [List.getElem?_map, List.getElem?_eq_getElem il] at hd
      obtain rfl := Option.some.inj hd
      have hl := asked_place (List.getElem_mem il)
      have tk : (askedT P os lk).take (i + 1) = (askedT P os lk).take i ++ [(askedT P os lk)[i]] := by rw [List.take_succ, List.getElem?_eq_getElem il]; rfl
      have big : (askedT P os lk).length ≤ 60 := asked_few ok
      generalize (askedT P os lk)[i] = l at *
      obtain ⟨a, u0, u1, rfl, ha, ru0, ru1⟩ := Rep.two (show Rep [] H x (.tuple [.str l.1, stD l.2]) from rx)
      obtain rfl := ru0.strV
      refine ⟨a, _, rfl, SqT.of (s1 _ _ ha), rfl, _, _, rfl, _, _, rfl, rfl, rfl, ?_⟩
      refine ⟨_, rfl, t, dx, fs, rfl, s1 _ _ ob, hm1, _, rfl, t, P, os, fs, u1, [], l.2, rfl, x0.sm s1, ok, ru1.sm s1, hl, _, rfl, ?_⟩
      refine ite2 (fun c => ?_) (fun c => ?_)
      · refine ⟨_, rfl, _, rfl, (by show 2 ≤ sizeLine; decide), fun tt ntt => ?_⟩
        have st : Same H1 (upd H1 tt (.tup [.str l.1, u1])) := same_new ntt
        have tF : tt ≠ F := (ne_of_none hF ntt).symm
        have bF : But [F] (upd H1 tt (.tup [.str l.1, u1])) (upd (upd H1 tt (.tup [.str l.1, u1])) F (.lst (acc ++ [.ref tt]))) := But.refl.upd List.mem_cons_self
        refine ⟨acc, st _ _ hF, by rw [sizeLine_eq]; omega, same_own (s1.trans st) nF, acc ++ [.ref tt], upd_same, by rw [List.length_append, List.length_singleton]; omega, ?_⟩
        rw [tk, List.filter_append, List.map_append, List.filter_cons, if_pos c]
        refine ((rA.sm st).mv bF).app (.one (.tup (by rw [upd_ne tF]; exact upd_same) (fun z => tF (List.mem_singleton.mp z)) (.cons (.str _) (.cons ?_ .nil))))
        exact ((Rep.avoid (st _ _ hF) _ _ rfl (ru1.sm (s1.trans st))).mv bF)
      · refine ⟨s1, acc, hF, by omega, ?_⟩
        rw [tk, List.filter_append, List.map_append, List.filter_cons, if_neg c]
        show Reps [F] H1 acc (_ ++ [])
        rw [List.append_nil]
        exact rA
    rintro H1 ⟨s1, acc, hF, la, rA⟩
    have big : (askedT P os lk).length ≤ 60 := asked_few ok
    rw [las, List.take_length] at rA
    dsimp only [gName, List.set]
    -- open
    have rs0 := rs
    obtain ⟨sa, u0, u1, u2, u3, rfl, hsa, q0, q1, q2, q3⟩ := rs.four
    obtain ⟨xa, xs3, rfl, hxa, _, r3⟩ := Rep.tupV (show Rep [] H u3 (needsD P.opens) from q3)
    have lx3 : xs3.length = P.opens.length := by rw [r3.length, List.length_map]
    have op4 := ok.op4
    have sB := s1
    have hXS := s1 _ _ hxa
    refine ⟨_, rfl, .inl ⟨rfl, _, SqL.of hF⟩, _, rfl, t, _, dx, fs, _, rfl, s1 _ _ ob, T.c_Tool, T.n_Tool_source, hs, sa, _, 3, _, rfl, rfl, SqT.of (s1 _ _ hsa), atI_nat (j := 3) rfl, xa, rfl, ⟨_, SqT.of hXS⟩, fun R nR => ?_⟩
    refine lc2_out (walk_tup (xs := xs3)) (fun i H8 => Same H1 H8 ∧ ∃ acc, H8 R = some (.lst acc) ∧ acc.length ≤ 5 * i ∧ Reps [R] H8 acc ((givL P ("open" : Str) (P.opens.take i)).map lnD)) ⟨same_new nR, [], upd_same, Nat.zero_le _, .nil⟩ (fun i H8 _ p => SqT.of (p.1 _ _ hXS)) ?_ ?_
    · rintro i x H9 H8 hi ⟨s8, acc, hR, la, rA⟩ ⟨rfl, hx⟩
      have il : i < (P.opens).length := by omega
      obtain ⟨d, hd, rx⟩ := (r3.sm s1).get hx
      rw [List.getElem?_map, List.getElem?_eq_getElem il] at hd
      obtain rfl := Option.some.inj hd
      have on := ok.opIn _ (List.getElem_mem il)
      have tk : (P.opens).take (i + 1) = (P.opens).take i ++ [(P.opens)[i]] := by rw [List.take_succ, List.getElem?_eq_getElem il]; rfl
      generalize (P.opens)[i] = n at *
      have n0 : ((n.1.toNat : Nat) : Int) = n.1 := Int.toNat_of_nonneg on.1
      have nlt : n.1.toNat < P.parts.length := by have := on.2.1; unfold Prog.c at this; omega
      have g5 := giversP_len ok n.1.toNat n.2
      refine ⟨rfl, _, rfl, t, _, dx, fs, _, rfl, (sB.trans s8) _ _ ob, T.c_Tool, T.n_Tool_source, hs, _, rfl, .ref sa, x, [], [], P, n.1.toNat, n.2, rfl, rs0.sm (sB.trans s8), ok, by rw [show (nD n.1.toNat : PyData) = .int n.1 from congrArg PyData.int n0]; exact rx.sm s8, nlt, fun p H9 zs s9 np hp rz => ⟨p, rfl, ⟨_, SqL.of hp⟩, ?_⟩⟩
      have pR : p ≠ R := (ne_of_none hR np).symm
      have lz := rz.length
      rw [List.length_map] at lz
      refine lc2_in (walk_list (xs := zs)) (fun j HA => Same H1 HA ∧ HA p = some (.lst zs) ∧ Reps [] HA zs ((giversP P n.1.toNat n.2).map stD) ∧ ∃ acc', HA R = some (.lst acc') ∧ acc'.length ≤ acc.length + j ∧ Reps [R] HA acc' ((givL P ("open" : Str) (P.opens.take i) ++ ((giversP P n.1.toNat n.2).take j).map fun g => (("open" : Str), g)).map lnD)) ⟨s8.trans s9, hp, rz, acc, s9 _ _ hR, Nat.le_refl _, by rw [List.take_zero, List.map_nil, List.append_nil]; exact rA.sm s9⟩ (fun j HA _ z => SqL.of z.2.1) ?_ ?_
      · rintro j y HB HA hj ⟨sA, hpA, rzA, acc', hRA, lac, rA'⟩ ⟨rfl, hy⟩
        have jl : j < (giversP P n.1.toNat n.2).length := by omega
        obtain ⟨d, hd, ry⟩ := rzA.get hy
        rw [List.getElem?_map, List.getElem?_eq_getElem jl] at hd
        obtain rfl := Option.some.inj hd
        have tkj : (giversP P n.1.toNat n.2).take (j + 1) = (giversP P n.1.toNat n.2).take j ++ [(giversP P n.1.toNat n.2)[j]] := by rw [List.take_succ, List.getElem?_eq_getElem jl]; rfl
        generalize (giversP P n.1.toNat n.2)[j] = gv at *
        refine ⟨rfl, _, rfl, (by show 2 ≤ sizeLine; decide), fun tt ntt => ?_⟩
        have st : Same HA (upd HA tt (.tup [.str ("open" : Str), y])) := same_new ntt
        have tR : tt ≠ R := (ne_of_none hRA ntt).symm
        have bR : But [R] (upd HA tt (.tup [.str ("open" : Str), y])) (upd (upd HA tt (.tup [.str ("open" : Str), y])) R (.lst (acc' ++ [.ref tt]))) := But.refl.upd List.mem_cons_self
        refine ⟨acc', st _ _ hRA, by rw [sizeLine_eq]; omega, same_own (sA.trans st) nR, by rw [upd_ne pR]; exact st _ _ hpA, ?_, acc' ++ [.ref tt], upd_same, by rw [List.length_append, List.length_singleton]; omega, ?_⟩
        · exact (((Reps.avoid (st _ _ hRA) _ _ (noLst_sts _) (rzA.sm st)).mv bR)).less fun _ z => absurd z List.not_mem_nil
        rw [tkj, List.map_append (f := fun g => (("open" : Str), g)), ← List.append_assoc, List.map_append (f := lnD)]
        refine ((rA'.sm st).mv bR).app (.one (.tup (by rw [upd_ne tR]; exact upd_same) (fun z => tR (List.mem_singleton.mp z)) (.cons (.str _) (.cons ?_ .nil))))
        exact ((Rep.avoid (st _ _ hRA) _ _ rfl (ry.sm st)).mv bR)
      · rintro HA ⟨sA, hpA, _, acc', hRA, lac, rA'⟩
        rw [lz, List.take_length] at rA'
        refine ⟨sA, acc', hRA, by omega, ?_⟩
        rw [tk, givL_snoc]
        exact rA'
    
    rintro H2 ⟨s2, acc2, hR, la2, rA2⟩
    rw [lx3, List.take_length] at rA2
    have s12 := s1.trans s2
    refine ⟨F, R, _, _, rfl, rfl, s2 _ _ hF, hR, by rw [sizeLine_eq]; omega, ?_⟩
    have bF : But [F] H2 (upd H2 F (.lst (acc ++ acc2))) := But.refl.upd List.mem_cons_self
    have r2F : Reps [F] H2 acc2 ((givL P "open" P.opens).map lnD) := Reps.avoid (s2 _ _ hF) _ _ (noLst_lns _) (rA2.less fun _ z => absurd z List.not_mem_nil)
    have rAB : Reps [F] (upd H2 F (.lst (acc ++ acc2))) (acc ++ acc2) ((((askedT P os lk).filter fun l => !waitsT P os l.2) ++ givL P "open" P.opens).map lnD) := by
      rw [List.map_append]
      exact ((rA.sm s2).mv bF).app (r2F.mv bF)
    have hF3 : upd H2 F (.lst (acc ++ acc2)) F = some (.lst (acc ++ acc2)) := upd_same
    have s3 : Same H (upd H2 F (.lst (acc ++ acc2))) := same_own s12 nF
    have l3 : (acc ++ acc2).length ≤ 100 := by rw [List.length_append]; omega
    generalize upd H2 F (.lst (acc ++ acc2)) = H3 at *
    generalize acc ++ acc2 = ac at *
    clear rA rA2 r2F bF hF hR nR s2 s12 sB hXS la la2 s1
    -- loads
    dsimp only
    refine cut_by (R := fun σ H' => σ = [some (.ref t), some (.ref F), none, none, none, none] ∧ Same H H' ∧ ∃ xs, H' F = some (.lst xs) ∧ xs.length ≤ 1000 ∧ Reps [F] H' xs ((firstT P os lk).map lnD)) ?_ ?_
    · rintro σ H4 ⟨rfl, s4, xs, hF4, lx, rx⟩
      exact ⟨_, rfl, k H4 F xs s4 nF hF4 lx (rx.less fun _ z => absurd z List.not_mem_nil)⟩
    intro nx
    have eF : firstT P os lk = (((askedT P os lk).filter fun l => !waitsT P os l.2) ++ givL P "open" P.opens) ++ (if ("loads" : Str) ∈ os then [] else plcL "loads" (fun q => (namedOf (rowP P q)).isSome) (placesP P P.parts.length)) := (List.append_assoc _ _ _).symm
    refine ⟨_, rfl, t, _, dx, fs, _, rfl, s3 _ _ ob, T.c_Tool, T.n_Tool_options, ho, oa, _, rfl, .inr (SqT.of (s3 _ _ hoa)), rfl, flat_strs os, _, rfl, ?_⟩
    rw [show (if true = true then !inV (V.str "loads") (os.map V.str) else inV (V.str "loads") (os.map V.str)) = !decide (("loads" : Str) ∈ os) from by rw [if_pos rfl, inV_strs]]
    refine ite2 (fun c => ?_) (fun c => ?_)
    rotate_left
    · have n2 : ("loads" : Str) ∈ os := by simpa using c
      refine nx _ _ ⟨rfl, s3, ac, hF3, by omega, ?_⟩
      rw [eF, if_pos n2, List.append_nil]
      exact rAB
    have n2 : ("loads" : Str) ∉ os := by simpa using c
    have lps := rps.length
    rw [List.length_map] at lps
    refine ⟨_, rfl, .inl ⟨rfl, _, SqL.of hF3⟩, _, rfl, t, _, dx, fs, _, rfl, s3 _ _ ob, T.c_Tool, T.n_Tool_places, hpl, pa, rfl, ⟨_, SqL.of (s3 _ _ hpa)⟩, fun R nR => ?_⟩
    refine lc_it (walk_list (xs := ps)) (fun i H' => Same H3 H' ∧ ∃ acc, H' R = some (.lst acc) ∧ acc.length ≤ i ∧ Reps [R] H' acc ((plcL "loads" (fun q => (namedOf (rowP P q)).isSome) ((placesP P P.parts.length).take i)).map lnD)) ⟨same_new nR, [], upd_same, Nat.zero_le _, .nil⟩ (fun i H' _ p => SqL.of (p.1 _ _ (s3 _ _ hpa))) ?_ ?_
    · rintro i x H5 H4 hi ⟨s4, acc, hR, la, rA⟩ ⟨rfl, hx⟩
      have il : i < (placesP P P.parts.length).length := by omega
      obtain ⟨d, hd, rx⟩ := rps.get hx
      rw [List.getElem?_map, List.getElem?_eq_getElem il] at hd
      obtain rfl := Option.some.inj hd
      have hq := List.getElem_mem il
      have tk : (placesP P P.parts.length).take (i + 1) = (placesP P P.parts.length).take i ++ [(placesP P P.parts.length)[i]] := by rw [List.take_succ, List.getElem?_eq_getElem il]; rfl
      generalize (placesP P P.parts.length)[i] = q at *
      have s34 := s3.trans s4
      refine ⟨rfl, _, rfl, t, _, dx, fs, _, rfl, s34 _ _ ob, T.c_Tool, T.n_Tool_source, hs, _, rfl, .ref sa, x, [], [], P, q.1, q.2, rowP P q, rfl, rs0.sm s34, rx.sm s34, row_of hq, fun y r2 => ⟨y, [], rowP P q, rfl, r2, fun H5 s5 => ⟨_, rfl, ?_⟩⟩⟩
      refine ite2 (fun c => ?_) (fun c => ?_)
      · refine ⟨_, rfl, (by show 2 ≤ sizeLine; decide), fun tt ntt => ?_⟩
        have st : Same H5 (upd H5 tt (.tup [.str "loads", x])) := same_new ntt
        have hR5 := s5 _ _ hR
        have tR : tt ≠ R := (ne_of_none hR5 ntt).symm
        have bR : But [R] (upd H5 tt (.tup [.str "loads", x])) (upd (upd H5 tt (.tup [.str "loads", x])) R (.lst (acc ++ [.ref tt]))) := But.refl.upd List.mem_cons_self
        refine ⟨acc, st _ _ hR5, by rw [sizeLine_eq]; omega, same_own ((s4.trans s5).trans st) nR, acc ++ [.ref tt], upd_same, by rw [List.length_append, List.length_singleton]; omega, ?_⟩
        rw [tk, plcL_snoc, if_pos c, List.map_append]
        refine (((rA.sm s5).sm st).mv bR).app (.one (.tup (by rw [upd_ne tR]; exact upd_same) (fun z => tR (List.mem_singleton.mp z)) (.cons (.str _) (.cons ?_ .nil))))
        exact ((Rep.avoid (st _ _ hR5) _ _ rfl (((rx.sm s34).sm s5).sm st)).mv bR)
      · refine ⟨s4.trans s5, acc, s5 _ _ hR, by omega, ?_⟩
        rw [tk, plcL_snoc, if_neg c, List.append_nil]
        exact rA.sm s5
    rintro H4 ⟨s4, acc, hR, la, rA⟩
    rw [lps, List.take_length] at rA
    refine ⟨F, R, _, _, rfl, rfl, s4 _ _ hF3, hR, by rw [sizeLine_eq]; omega, nx _ _ ⟨rfl, same_own (s3.trans s4) nF, ac ++ acc, upd_same, by rw [List.length_append]; omega, ?_⟩⟩
    have bF : But [F] H4 (upd H4 F (.lst (ac ++ acc))) := But.refl.upd List.mem_cons_self
    rw [eF, if_neg n2, List.map_append]
    exact ((rAB.sm s4).mv bF).app ((Reps.avoid (s4 _ _ hF3) _ _ (noLst_lns _) (rA.less fun _ z => absurd z List.not_mem_nil)).mv bF)
end
end Lb

set_option Elab.async false
set_option linter.all false
set_option maxRecDepth 100000
set_option maxHeartbeats 4000000

namespace Lb
open PySem PySem.Spec PyProof.Rows L2
section
variable {P Pg : Program} {w : World} {K : PySem.W.Frag} {mg : Str → Option Value} {base : Heap} {A : Ad}
theorem wants_ok {c : Int} {r : Row} (ok : r.ok c) : (∀ n ∈ wantsT r, nmOk c n) ∧ (wantsT r).length ≤ 4 := by
  cases r with
  | load p => exact ⟨fun n h => absurd h List.not_mem_nil, Nat.zero_le _⟩
  | out => exact ⟨fun n h => absurd h List.not_mem_nil, Nat.zero_le _⟩
  | pass m p o => exact ⟨fun n h => by rw [List.mem_singleton.mp h]; exact ⟨ok.2.1.1, ok.2.1.2, ok.2.2⟩, (by decide : 1 ≤ 4)⟩
  | give m ns b => exact ⟨ok.2.2, Nat.le_trans ok.2.1 (by decide)⟩
  | show_ ns b => exact ⟨ok.2, Nat.le_trans ok.1 (by decide)⟩
  | late m p ns => exact ⟨ok.2.2.2, Nat.le_trans ok.2.2.1 (by decide)⟩
theorem in_open (s : Str) : inV (V.str s) [V.str "open", V.str "needs"] = decide (s = "open" ∨ s = "needs") := by
  have z := inV_strs s ["open", "needs"]
  rw [show ([V.str "open", V.str "needs"] : List V) = (["open", "needs"] : List Str).map V.str from rfl, z]
  simp
def mkL (p : Nat) (l : List Ln) : List Ln := (l.filter fun a => decide (a.2.1 = p)).map fun a => (("marked" : Str), a.2)
theorem mkL_snoc (p : Nat) (l : List Ln) (x : Ln) : mkL p (l ++ [x]) = mkL p l ++ (if x.2.1 = p then [(("marked" : Str), x.2)] else []) := by
  unfold mkL
  rw [List.filter_append, List.map_append]
  by_cases c : x.2.1 = p
  · rw [if_pos c, List.filter_cons, if_pos (decide_eq_true c)]
    rfl
  · rw [if_neg c, List.filter_cons, if_neg (by simpa using c)]
    rfl

def sp_Tool_links_behind (A : Ad) : Sp := fun vs H Q _ => ∃ (t : Addr) (P : Prog) (os : List Str) (lk : List (Nat × Nat)) (fs : List (Str × V)) (v : V) (S : List Addr) (l : Ln), vs = [.ref t, v] ∧ ToolAt A.k_Tool H t P os fs ∧ PlAt H fs P ∧ BhAt H fs P ∧ AkAt H fs P os lk ∧ P.Ok ∧ Rep S H v (lnD l) ∧ l.2 ∈ placesP P P.parts.length ∧ ∀ H' p xs, Same H H' → H p = none → H' p = some (.lst xs) → xs.length ≤ 1000 → Reps [] H' xs ((nextT P os lk l).map lnD) → Q (.ref p) H'
theorem ok_Tool_links_behind (T : Txt K w mg A) : FnOk Pg w K mg base CX0 13 A.f_Tool_links_behind A.d_Tool_links_behind ["self", "link"] (sp_Tool_links_behind A) := by
  refine T.F_Tool_links_behind.ok sc_Tool_links_behind (fun vs H Q E h => ?_) (fun cdv Ar outer s H vs Q E hr h => ?_)
  · obtain ⟨t, P, os, lk, fs, v, S, l, rfl, x, pl, bh, ak, ok, r, hl, k⟩ := h
    rfl
  · obtain ⟨t, P, os, lk, fs, v, S, l, rfl, x, pl, bh, ak, ok, r, hl, k⟩ := h
    refine ⟨_, PSs.nox ((pss_cons (ps_asg (pv 1) (pg_tup (by rfl) (pgs_cons (pg_name (i := 2) sc_Tool_links_behind.nd rfl (Or.inl rfl)) (pgs_cons (pg_name (i := 3) sc_Tool_links_behind.nd rfl (Or.inr rfl)) pgs_nil))))
 (pss_cons (ps_setLc2 (i := 4) (own := [("need", 5), ("giver", 6)]) (vs1 := [6]) (g := (gName 5)) (tt := tYes) (g1 := (gName 6)) (tt1 := tYes) rfl sc_Tool_links_behind.nd rfl rfl (sw_true rfl rfl rfl (by decide +kernel)) (pi_tup (pe_meth (pv 0) T.c_Tool T.me_Tool_wants (ok_Tool_wants T) (hr.mono (by decide)) (b_Tool_wants T) .nil pass0 (pa_cons (pv 3) pa_nil))) (blkOk_by (N := N_Tool_links_behind) (sc := defScope s_Tool_links_behind) (by decide +kernel)) (by decide) (fun _ _ _ _ _ => (pg_name (i := 5) sc_Tool_links_behind.nd rfl (Or.inl rfl))) (fun _ _ _ _ _ => pts_nil) (fun _ _ _ _ _ => (show PI _ _ _ (iList K _) from pi_list (pe_call (ok_givers_of T) (hr.mono (by decide)) rfl T.m_givers_of T.F_givers_of.kp (b_givers_of T) .nil pass0 (pa_cons (pe_fldK (K := K) (pv 0)) (pa_cons (pv 5) pa_nil))))) (fun _ _ _ _ _ => (pg_name (i := 6) sc_Tool_links_behind.nd rfl (Or.inl rfl))) (fun _ _ _ _ _ => pts_nil) (fun _ _ _ _ _ => (pe_tup (pa_cons pe_str (pa_cons (pv 6) pa_nil)))))
 (pss_cons (ps_if (pt_cmpR op_in_seq pe_str (pe_fld (pv 0) rfl) rfl) (pss_one (ps_expr (pe_bm PySem.F.plainAttrs_list PySem.F.slot_list_extend PySem.F.type_list_extend mt_extend (pv 4) (pa_cons (pe_lc (own := [("other", 7)]) (g := (gName 7)) (tt := _) rfl sc_Tool_links_behind.nd (pi_list (pe_fld (pv 0) rfl)) (blkOk_by (N := N_Tool_links_behind) (sc := defScope s_Tool_links_behind) (by decide +kernel)) (fun _ _ _ _ _ => (pg_name (i := 7) sc_Tool_links_behind.nd rfl (Or.inl rfl))) (fun _ _ _ _ _ => (pts_one (pt_val (pe_meth (pv 0) T.c_Tool T.me_Tool_loads (ok_Tool_loads T) (hr.mono (by decide)) (b_Tool_loads T) .nil pass0 (pa_cons (pv 7) (pa_cons (pe_ix (show IxR _ (rIxT K) from ix_tup) (pv 3) pe_int (fun _ _ => rfl)) pa_nil)))))) (fun _ _ _ _ _ => (pe_tup (pa_cons pe_str (pa_cons (pv 7) pa_nil))))) pa_nil)))) pss_nil)
 (pss_cons (ps_if (PW.pt (pw_and (pt_cmpR op_in_seq (pv 2) (pe_tup (pa_cons pe_str (pa_cons pe_str pa_nil))) rfl) (pw_and1 (pt_val (pe_meth (pv 0) T.c_Tool T.me_Tool_waits (ok_Tool_waits T) (hr.mono (by decide)) (b_Tool_waits T) .nil pass0 (pa_cons (pv 3) pa_nil)))))) (pss_one (ps_expr (pe_bm PySem.F.plainAttrs_list PySem.F.slot_list_extend PySem.F.type_list_extend mt_extend (pv 4) (pa_cons (pe_lc (own := [("_", 8), ("other", 7)]) (g := (gTup _ 2 (gCons (gName 8) (gCons (gName 7) gNil)))) (tt := _) rfl sc_Tool_links_behind.nd (pi_list (pe_fld (pv 0) rfl)) (blkOk_by (N := N_Tool_links_behind) (sc := defScope s_Tool_links_behind) (by decide +kernel)) (fun _ _ _ _ _ => (pg_tup (by rfl) (pgs_cons (pg_name (i := 8) sc_Tool_links_behind.nd rfl (Or.inl rfl)) (pgs_cons (pg_name (i := 7) sc_Tool_links_behind.nd rfl (Or.inl rfl)) pgs_nil)))) (fun _ _ _ _ _ => (pts_one (pt_cmpR op_eq (pe_ix (show IxR _ (rIxT K) from ix_tup) (pv 7) pe_int (fun _ _ => rfl)) (pe_ix (show IxR _ (rIxT K) from ix_tup) (pv 3) pe_int (fun _ _ => rfl)) (nomark _)))) (fun _ _ _ _ _ => (pe_tup (pa_cons pe_str (pa_cons (pv 7) pa_nil))))) pa_nil)))) pss_nil)
 (pss_one (ps_ret (pv 4)))))))), ?_⟩
    rw [show start N_Tool_links_behind [.ref t, v] = [some (.ref t), some (v), none, none, none, none, none, none, none] from rfl]
    have x0 := x
    obtain ⟨⟨dx, ob⟩, ⟨sv, hs, rs⟩, ⟨oa, ho, hoa⟩, hm⟩ := x
    
    obtain ⟨pa, ps, hpl, hpa, rps⟩ := pl
    obtain ⟨aa, as, hak, haa, ras⟩ := ak
    have las := ras.length
    have lps := rps.length
    rw [List.length_map] at las lps
    have tot := placesP_len ok P.parts.length
    have four := ok.four
    have big : (askedT P os lk).length ≤ 60 := asked_few ok
    obtain ⟨okw, w4⟩ := wants_ok (rowT_ok ok hl)
    obtain ⟨a, u0, u1, rfl, ha, ru0, ru1⟩ := Rep.two (show Rep S H v (.tuple [.str l.1, stD l.2]) from r)
    obtain rfl := ru0.strV
    have rp := ru1
    obtain ⟨a2, w0, w1, rfl, ha2, rw0, rw1⟩ := rp.two
    obtain rfl := rw0.intV
    refine ⟨_, rfl, a, _, rfl, SqT.of ha, rfl, _, _, rfl, _, _, rfl, rfl, ?_⟩
    dsimp only [gName, List.set]
    refine ⟨_, rfl, t, dx, fs, rfl, ob, hm "wants" (by decide +kernel), _, rfl, t, P, os, fs, .ref a2, S, l.2, rfl, x0, ru1, hl, fun H1 wv s1 rwv => ?_⟩
    obtain ⟨wa, xs3, rfl, hXS, _, r3⟩ := rwv.tupV
    have lx3 : xs3.length = (wantsT (rowP P l.2)).length := by rw [r3.length, List.length_map]
    have sB := s1
    refine ⟨wa, rfl, ⟨_, SqT.of hXS⟩, fun R nR => ?_⟩
    refine lc2_out (walk_tup (xs := xs3)) (fun i H8 => Same H1 H8 ∧ ∃ acc, H8 R = some (.lst acc) ∧ acc.length ≤ 5 * i ∧ Reps [R] H8 acc ((givL P ("needs" : Str) ((wantsT (rowP P l.2)).take i)).map lnD)) ⟨same_new nR, [], upd_same, Nat.zero_le _, .nil⟩ (fun i H8 _ p => SqT.of (p.1 _ _ hXS)) ?_ ?_
    · rintro i x H9 H8 hi ⟨s8, acc, hR, la, rA⟩ ⟨rfl, hx⟩
      have il : i < ((wantsT (rowP P l.2))).length := by omega
      obtain ⟨d, hd, rx⟩ := (r3).get hx
      rw [List.getElem?_map, List.getElem?_eq_getElem il] at hd
      obtain rfl := Option.some.inj hd
      have on := okw _ (List.getElem_mem il)
      have tk : ((wantsT (rowP P l.2))).take (i + 1) = ((wantsT (rowP P l.2))).take i ++ [((wantsT (rowP P l.2)))[i]] := by rw [List.take_succ, List.getElem?_eq_getElem il]; rfl
      generalize ((wantsT (rowP P l.2)))[i] = n at *
      have n0 : ((n.1.toNat : Nat) : Int) = n.1 := Int.toNat_of_nonneg on.1
      have nlt : n.1.toNat < P.parts.length := by have := on.2.1; unfold Prog.c at this; omega
      have g5 := giversP_len ok n.1.toNat n.2
      refine ⟨rfl, _, rfl, t, _, dx, fs, _, rfl, (sB.trans s8) _ _ ob, T.c_Tool, T.n_Tool_source, hs, _, rfl, sv, x, [], [], P, n.1.toNat, n.2, rfl, rs.sm (sB.trans s8), ok, by rw [show (nD n.1.toNat : PyData) = .int n.1 from congrArg PyData.int n0]; exact rx.sm s8, nlt, fun p H9 zs s9 np hp rz => ⟨p, rfl, ⟨_, SqL.of hp⟩, ?_⟩⟩
      have pR : p ≠ R := (ne_of_none hR np).symm
      have lz := rz.length
      rw [List.length_map] at lz
      refine lc2_in (walk_list (xs := zs)) (fun j HA => Same H1 HA ∧ HA p = some (.lst zs) ∧ Reps [] HA zs ((giversP P n.1.toNat n.2).map stD) ∧ ∃ acc', HA R = some (.lst acc') ∧ acc'.length ≤ acc.length + j ∧ Reps [R] HA acc' ((givL P ("needs" : Str) ((wantsT (rowP P l.2)).take i) ++ ((giversP P n.1.toNat n.2).take j).map fun g => (("needs" : Str), g)).map lnD)) ⟨s8.trans s9, hp, rz, acc, s9 _ _ hR, Nat.le_refl _, by rw [List.take_zero, List.map_nil, List.append_nil]; exact rA.sm s9⟩ (fun j HA _ z => SqL.of z.2.1) ?_ ?_
      · rintro j y HB HA hj ⟨sA, hpA, rzA, acc', hRA, lac, rA'⟩ ⟨rfl, hy⟩
        have jl : j < (giversP P n.1.toNat n.2).length := by omega
        obtain ⟨d, hd, ry⟩ := rzA.get hy
        rw [List.getElem?_map, List.getElem?_eq_getElem jl] at hd
        obtain rfl := Option.some.inj hd
        have tkj : (giversP P n.1.toNat n.2).take (j + 1) = (giversP P n.1.toNat n.2).take j ++ [(giversP P n.1.toNat n.2)[j]] := by rw [List.take_succ, List.getElem?_eq_getElem jl]; rfl
        generalize (giversP P n.1.toNat n.2)[j] = gv at *
        refine ⟨rfl, _, rfl, (by show 2 ≤ sizeLine; decide), fun tt ntt => ?_⟩
        have st : Same HA (upd HA tt (.tup [.str ("needs" : Str), y])) := same_new ntt
        have tR : tt ≠ R := (ne_of_none hRA ntt).symm
        have bR : But [R] (upd HA tt (.tup [.str ("needs" : Str), y])) (upd (upd HA tt (.tup [.str ("needs" : Str), y])) R (.lst (acc' ++ [.ref tt]))) := But.refl.upd List.mem_cons_self
        refine ⟨acc', st _ _ hRA, by rw [sizeLine_eq]; omega, same_own (sA.trans st) nR, by rw [upd_ne pR]; exact st _ _ hpA, ?_, acc' ++ [.ref tt], upd_same, by rw [List.length_append, List.length_singleton]; omega, ?_⟩
        · exact (((Reps.avoid (st _ _ hRA) _ _ (noLst_sts _) (rzA.sm st)).mv bR)).less fun _ z => absurd z List.not_mem_nil
        rw [tkj, List.map_append (f := fun g => (("needs" : Str), g)), ← List.append_assoc, List.map_append (f := lnD)]
        refine ((rA'.sm st).mv bR).app (.one (.tup (by rw [upd_ne tR]; exact upd_same) (fun z => tR (List.mem_singleton.mp z)) (.cons (.str _) (.cons ?_ .nil))))
        exact ((Rep.avoid (st _ _ hRA) _ _ rfl (ry.sm st)).mv bR)
      · rintro HA ⟨sA, hpA, _, acc', hRA, lac, rA'⟩
        rw [lz, List.take_length] at rA'
        refine ⟨sA, acc', hRA, by omega, ?_⟩
        rw [tk, givL_snoc]
        exact rA'
    
    rintro H2 ⟨s2, acc, hR, la, rA⟩
    rw [lx3, List.take_length] at rA
    dsimp only [gName, List.set]
    have nRH : H R = none := same_none s1 nR
    replace s2 := s1.trans s2
    have lA : acc.length ≤ 20 := by omega
    clear la
    -- loads
    refine cut_by (R := fun σ H' => σ = [some (.ref t), some (.ref a), some (.str l.1), some (.ref a2), some (.ref R), none, none, none, none] ∧ Same H H' ∧ ∃ xs, H' R = some (.lst xs) ∧ xs.length ≤ 100 ∧ Reps [R] H' xs ((givL P "needs" (wantsT (rowP P l.2)) ++ (if ("loads" : Str) ∈ os then plcL "loads" (fun q => loadsB P q l.2.1) (placesP P P.parts.length) else [])).map lnD)) ?_ ?_
    rotate_left
    · intro nx
      refine ⟨_, rfl, t, _, dx, fs, _, rfl, s2 _ _ ob, T.c_Tool, T.n_Tool_options, ho, oa, _, rfl, .inr (SqT.of (s2 _ _ hoa)), rfl, flat_strs os, _, rfl, ?_⟩
      rw [show (if false = true then !inV (V.str "loads") (os.map V.str) else inV (V.str "loads") (os.map V.str)) = decide (("loads" : Str) ∈ os) from inV_strs _ _]
      refine ite2 (fun c => ?_) (fun c => ?_)
      rotate_left
      · refine nx _ _ ⟨rfl, s2, acc, hR, by omega, ?_⟩
        rw [if_neg (fun z => c (decide_eq_true z)), List.append_nil]
        exact rA
      refine ⟨_, rfl, .inl ⟨rfl, _, SqL.of hR⟩, _, rfl, t, _, dx, fs, _, rfl, s2 _ _ ob, T.c_Tool, T.n_Tool_places, hpl, pa, rfl, ⟨_, SqL.of (s2 _ _ hpa)⟩, fun D nD => ?_⟩
      refine lc_it (walk_list (xs := ps)) (fun i H' => Same H2 H' ∧ ∃ ac, H' D = some (.lst ac) ∧ ac.length ≤ i ∧ Reps [D] H' ac ((plcL "loads" (fun q => loadsB P q l.2.1) ((placesP P P.parts.length).take i)).map lnD)) ⟨same_new nD, [], upd_same, Nat.zero_le _, .nil⟩ (fun i H' _ p => SqL.of (p.1 _ _ (s2 _ _ hpa))) ?_ ?_
      · rintro i x H5 H4 hi ⟨s4, ac, hD, la, rC⟩ ⟨rfl, hx⟩
        have il : i < (placesP P P.parts.length).length := by omega
        obtain ⟨d, hd, rx⟩ := rps.get hx
        rw [List.getElem?_map, List.getElem?_eq_getElem il] at hd
        obtain rfl := Option.some.inj hd
        have hq := List.getElem_mem il
        have tk : (placesP P P.parts.length).take (i + 1) = (placesP P P.parts.length).take i ++ [(placesP P P.parts.length)[i]] := by rw [List.take_succ, List.getElem?_eq_getElem il]; rfl
        generalize (placesP P P.parts.length)[i] = q at *
        have s24 := s2.trans s4
        refine ⟨rfl, _, rfl, t, dx, fs, rfl, s24 _ _ ob, hm "loads" (by decide +kernel), _, rfl, _, rfl, a2, _, 0, _, rfl, rfl, SqT.of (s24 _ _ ha2), atI_nat (j := 0) rfl, t, P, os, fs, x, [], q, l.2.1, rfl, x0.sm s24, bh.sm s24, ok, rx.sm s24, hq, fun H5 b s5 hb => ⟨_, rfl, ?_⟩⟩
        have eb : b = loadsB P q l.2.1 := by
          classical
          unfold loadsB
          rw [Bool.eq_iff_iff, hb, decide_eq_true_eq]
        subst eb
        refine ite2 (fun c => ?_) (fun c => ?_)
        · refine ⟨_, rfl, (by show 2 ≤ sizeLine; decide), fun tt ntt => ?_⟩
          have st : Same H5 (upd H5 tt (.tup [.str "loads", x])) := same_new ntt
          have hD5 := s5 _ _ hD
          have tD : tt ≠ D := (ne_of_none hD5 ntt).symm
          have bD : But [D] (upd H5 tt (.tup [.str "loads", x])) (upd (upd H5 tt (.tup [.str "loads", x])) D (.lst (ac ++ [.ref tt]))) := But.refl.upd List.mem_cons_self
          refine ⟨ac, st _ _ hD5, by rw [sizeLine_eq]; omega, same_own ((s4.trans s5).trans st) nD, ac ++ [.ref tt], upd_same, by rw [List.length_append, List.length_singleton]; omega, ?_⟩
          rw [tk, plcL_snoc, if_pos c, List.map_append]
          refine (((rC.sm s5).sm st).mv bD).app (.one (.tup (by rw [upd_ne tD]; exact upd_same) (fun z => tD (List.mem_singleton.mp z)) (.cons (.str _) (.cons ?_ .nil))))
          exact ((Rep.avoid (st _ _ hD5) _ _ rfl (((rx.sm s24).sm s5).sm st)).mv bD)
        · refine ⟨s4.trans s5, ac, s5 _ _ hD, by omega, ?_⟩
          rw [tk, plcL_snoc, if_neg c, List.append_nil]
          exact rC.sm s5
      rintro H4 ⟨s4, ac, hD, la, rC⟩
      rw [lps, List.take_length] at rC
      refine ⟨R, D, _, _, rfl, rfl, s4 _ _ hR, hD, by rw [sizeLine_eq]; omega, nx _ _ ⟨rfl, same_own (s2.trans s4) nRH, acc ++ ac, upd_same, by rw [List.length_append]; omega, ?_⟩⟩
      have bR : But [R] H4 (upd H4 R (.lst (acc ++ ac))) := But.refl.upd List.mem_cons_self
      rw [if_pos (of_decide_eq_true c), List.map_append]
      exact ((rA.sm s4).mv bR).app ((Reps.avoid (s4 _ _ hR) _ _ (noLst_lns _) (rC.less fun _ z => absurd z List.not_mem_nil)).mv bR)
    rintro σ H3 ⟨rfl, s3, xs, hR3, lx, rX⟩
    clear rA hR lA s2
    generalize eN : givL P "needs" (wantsT (rowP P l.2)) ++ (if ("loads" : Str) ∈ os then plcL "loads" (fun q => loadsB P q l.2.1) (placesP P P.parts.length) else []) = N1 at rX
    -- marked
    refine cut_by (R := fun σ H' => σ = [some (.ref t), some (.ref a), some (.str l.1), some (.ref a2), some (.ref R), none, none, none, none] ∧ Same H H' ∧ ∃ xs, H' R = some (.lst xs) ∧ xs.length ≤ 1000 ∧ Reps [R] H' xs ((N1 ++ (if (l.1 = "open" ∨ l.1 = "needs") ∧ waitsT P os l.2 = true then mkL l.2.1 (askedT P os lk) else [])).map lnD)) ?_ ?_
    rotate_left
    · intro nx
      refine ⟨_, rfl, (by show 2 ≤ sizeLine; decide), fun t2 nt2 => ⟨t2, _, rfl, .inr (SqT.of upd_same), rfl, rfl, _, rfl, ?_⟩⟩
      rw [show (if false = true then !inV (V.str l.1) [V.str "open", V.str "needs"] else inV (V.str l.1) [V.str "open", V.str "needs"]) = decide (l.1 = "open" ∨ l.1 = "needs") from in_open _]
      have st2 : Same H3 (upd H3 t2 (.tup [V.str "open", V.str "needs"])) := same_new nt2
      have hR4 := st2 _ _ hR3
      have s4 := s3.trans st2
      have rX4 := rX.sm st2
      generalize upd H3 t2 (.tup [V.str "open", V.str "needs"]) = H4 at *
      refine ite2 (fun c => ?_) (fun c => iteF ?_)
      rotate_left
      · refine nx _ _ ⟨rfl, s4, xs, hR4, by omega, ?_⟩
        rw [if_neg (fun z => c (decide_eq_true z.1)), List.append_nil]
        exact rX4
      refine ⟨_, rfl, t, dx, fs, rfl, s4 _ _ ob, hm "waits" (by decide +kernel), _, rfl, t, P, os, fs, .ref a2, S, l.2, rfl, x0.sm s4, ok, ru1.sm s4, hl, _, rfl, ?_⟩
      refine ite2 (fun c2 => ?_) (fun c2 => ?_)
      rotate_left
      · refine nx _ _ ⟨rfl, s4, xs, hR4, by omega, ?_⟩
        rw [if_neg (fun z => c2 z.2), List.append_nil]
        exact rX4
      refine ⟨_, rfl, .inl ⟨rfl, _, SqL.of hR4⟩, _, rfl, t, _, dx, fs, _, rfl, s4 _ _ ob, T.c_Tool, T.n_Tool_asked, hak, aa, rfl, ⟨_, SqL.of (s4 _ _ haa)⟩, fun D nD => ?_⟩
      refine lc_it (walk_list (xs := as)) (fun i H' => Same H4 H' ∧ ∃ ac, H' D = some (.lst ac) ∧ ac.length ≤ i ∧ Reps [D] H' ac ((mkL l.2.1 ((askedT P os lk).take i)).map lnD)) ⟨same_new nD, [], upd_same, Nat.zero_le _, .nil⟩ (fun i H' _ p => SqL.of (p.1 _ _ (s4 _ _ haa))) ?_ ?_
      · rintro i x H6 H5 hi ⟨s5, ac, hD, la, rC⟩ ⟨rfl, hx⟩
        have il : i < (askedT P os lk).length := by omega
        obtain ⟨d, hd, rx⟩ := ras.get hx
        rw [List.getElem?_map, List.getElem?_eq_getElem il] at hd
        obtain rfl := Option.some.inj hd
        have tk : (askedT P os lk).take (i + 1) = (askedT P os lk).take i ++ [(askedT P os lk)[i]] := by rw [List.take_succ, List.getElem?_eq_getElem il]; rfl
        generalize (askedT P os lk)[i] = m at *
        have s45 := s4.trans s5
        obtain ⟨b, y0, y1, rfl, hb, ry0, ry1⟩ := Rep.two (show Rep [] H x (.tuple [.str m.1, stD m.2]) from rx)
        obtain rfl := ry0.strV
        have ry2 := ry1
        obtain ⟨b2, z0, z1, rfl, hb2, rz0, rz1⟩ := ry2.two
        obtain rfl := rz0.intV
        refine ⟨b, _, rfl, SqT.of (s45 _ _ hb), rfl, _, _, rfl, _, _, rfl, rfl, rfl, ?_⟩
        refine ⟨_, rfl, b2, _, 0, _, rfl, rfl, SqT.of (s45 _ _ hb2), atI_nat (j := 0) rfl, _, rfl, a2, _, 0, _, rfl, rfl, SqT.of (s45 _ _ ha2), atI_nat (j := 0) rfl, rfl, _, rfl, ?_⟩
        refine ite2 (fun c => ?_) (fun c => ?_)
        · have e : m.2.1 = l.2.1 := by
            have z := V.int.inj (of_decide_eq_true c)
            omega
          refine ⟨_, rfl, (by show 2 ≤ sizeLine; decide), fun tt ntt => ?_⟩
          have st : Same H5 (upd H5 tt (.tup [.str "marked", .ref b2])) := same_new ntt
          have tD : tt ≠ D := (ne_of_none hD ntt).symm
          have bD : But [D] (upd H5 tt (.tup [.str "marked", .ref b2])) (upd (upd H5 tt (.tup [.str "marked", .ref b2])) D (.lst (ac ++ [.ref tt]))) := But.refl.upd List.mem_cons_self
          refine ⟨ac, st _ _ hD, by rw [sizeLine_eq]; omega, same_own (s5.trans st) nD, ac ++ [.ref tt], upd_same, by rw [List.length_append, List.length_singleton]; omega, ?_⟩
          rw [tk, mkL_snoc, if_pos e, List.map_append]
          refine ((rC.sm st).mv bD).app (.one (.tup (by rw [upd_ne tD]; exact upd_same) (fun z => tD (List.mem_singleton.mp z)) (.cons (.str _) (.cons ?_ .nil))))
          exact ((Rep.avoid (st _ _ hD) _ _ rfl ((ry1.sm s45).sm st)).mv bD)
        · refine ⟨s5, ac, hD, by omega, ?_⟩
          rw [tk, mkL_snoc, if_neg (fun z => c (decide_eq_true (by rw [z]))), List.append_nil]
          exact rC
      rintro H5 ⟨s5, ac, hD, la, rC⟩
      rw [las, List.take_length] at rC
      refine ⟨R, D, _, _, rfl, rfl, s5 _ _ hR4, hD, by rw [sizeLine_eq]; omega, nx _ _ ⟨rfl, same_own (s4.trans s5) nRH, xs ++ ac, upd_same, by rw [List.length_append]; omega, ?_⟩⟩
      have bR : But [R] H5 (upd H5 R (.lst (xs ++ ac))) := But.refl.upd List.mem_cons_self
      rw [if_pos ⟨of_decide_eq_true c, c2⟩, List.map_append]
      exact ((rX4.sm s5).mv bR).app ((Reps.avoid (s5 _ _ hR4) _ _ (noLst_lns _) (rC.less fun _ z => absurd z List.not_mem_nil)).mv bR)
    rintro σ H4 ⟨rfl, s4, ys, hR4, ly, rY⟩
    have e : nextT P os lk l = N1 ++ (if (l.1 = "open" ∨ l.1 = "needs") ∧ waitsT P os l.2 = true then mkL l.2.1 (askedT P os lk) else []) := by
      rw [← eN]
      exact (List.append_assoc _ _ _).symm
    rw [← e] at rY
    exact ⟨_, rfl, k H4 R ys s4 nRH hR4 ly (rY.less fun _ z => absurd z List.not_mem_nil)⟩
end
end Lb

set_option Elab.async false
set_option linter.all false
set_option maxRecDepth 100000
set_option maxHeartbeats 4000000

namespace Lb
open PySem PySem.Spec PyProof.Rows L2
section
variable {P Pg : Program} {w : World} {K : PySem.W.Frag} {mg : Str → Option Value} {base : Heap} {A : Ad}
def sp_give_rows : Sp := fun vs H Q _ => ∃ (v : V) (P : Prog), vs = [v] ∧ Rep [] H v P.d ∧ P.Ok ∧ ∀ H' p ys, Same H H' → H p = none → H' p = some (.lst ys) → Reps [] H' ys ((giveL P).map stD) → Q (.ref p) H'
theorem ok_give_rows (T : Txt K w mg A) : FnOk Pg w K mg base CX0 11 A.f_give_rows A.d_give_rows ["program"] (sp_give_rows) := by
  refine T.F_give_rows.ok sc_give_rows (fun vs H Q E h => ?_) (fun cdv Ar outer s H vs Q E hr h => ?_)
  · obtain ⟨v, P, rfl, r, ok, k⟩ := h
    rfl
  · obtain ⟨v, P, rfl, r, ok, k⟩ := h
    refine ⟨_, PSs.nox ((pss_one (ps_ret (pe_lc (own := [("place", 1)]) (g := (gName 1)) (tt := _) rfl sc_give_rows.nd (pi_list (pe_call (ok_all_rows T) hr rfl T.m_all_rows T.F_all_rows.kp (b_all_rows T) .nil pass0 (pa_cons (pv 0) pa_nil))) (blkOk_by (N := N_give_rows) (sc := defScope s_give_rows) (by decide +kernel)) (fun _ _ _ _ _ => (pg_name (i := 1) sc_give_rows.nd rfl (Or.inl rfl))) (fun _ _ _ _ _ => (pts_one (pt_cmpR op_eq (pe_ix (show IxR _ (rIxT K) from ix_tup) (pe_call (ok_row_at T) (hr.mono (by decide)) rfl T.m_row_at T.F_row_at.kp (b_row_at T) .nil pass0 (pa_cons (pv 0) (pa_cons (pv 1) pa_nil))) pe_int (fun _ _ => rfl)) pe_str (nomark _)))) (fun _ _ _ _ _ => (pv 1)))))), ?_⟩
    rw [show start N_give_rows [v] = [some (v), none] from rfl]
    have tot := placesP_len ok P.parts.length
    have four := ok.four
    refine ⟨_, rfl, v, [], P.d, rfl, r, prog_ok ok, fun H1 pa ps s1 npa hpa rps lps => ?_⟩
    rw [places_two] at rps
    have lp := rps.length
    rw [List.length_map] at lp
    refine ⟨pa, rfl, ⟨_, SqL.of hpa⟩, fun D nD => ?_⟩
    refine lc_it (walk_list (xs := ps)) (fun i H' => Same H1 H' ∧ ∃ acc, H' D = some (.lst acc) ∧ acc.length ≤ i ∧ Reps [D] H' acc ((((placesP P P.parts.length).take i).filter fun q => decide ((rowP P q).word = ("give" : Str))).map stD)) ⟨same_new nD, [], upd_same, Nat.zero_le _, .nil⟩ (fun i H' _ p => SqL.of (p.1 _ _ hpa)) ?_ ?_
    · rintro i x H3 H2 hi ⟨s2, acc, hD, la, rA⟩ ⟨rfl, hx⟩
      have il : i < (placesP P P.parts.length).length := by omega
      obtain ⟨d, hd, rx⟩ := rps.get hx
      rw [List.getElem?_map, List.getElem?_eq_getElem il] at hd
      obtain rfl := Option.some.inj hd
      have hq := List.getElem_mem il
      have tk : (placesP P P.parts.length).take (i + 1) = (placesP P P.parts.length).take i ++ [(placesP P P.parts.length)[i]] := by rw [List.take_succ, List.getElem?_eq_getElem il]; rfl
      generalize (placesP P P.parts.length)[i] = q at *
      refine ⟨rfl, _, rfl, _, rfl, v, x, [], [], P, q.1, q.2, rowP P q, rfl, r.sm (s1.trans s2), rx.sm s2, row_of hq, fun y r2 => ?_⟩
      obtain ⟨a, rest, rfl, ha⟩ := row_hd r2
      refine ⟨a, _, 0, _, rfl, rfl, SqT.of ha, atI_nat (j := 0) rfl, rfl, _, rfl, ?_⟩
      rw [tk, List.filter_append, List.map_append, List.filter_cons]
      refine ite2 (fun c => ?_) (fun c => ?_)
      · have e : (rowP P q).word = "give" := V.str.inj (of_decide_eq_true c)
        have bD : But [D] H2 (upd H2 D (.lst (acc ++ [x]))) := But.refl.upd List.mem_cons_self
        refine ⟨_, rfl, acc, hD, by rw [sizeLine_eq]; omega, same_own s2 nD, acc ++ [x], upd_same, by rw [List.length_append, List.length_singleton]; omega, ?_⟩
        rw [if_pos (decide_eq_true e)]
        exact (rA.mv bD).app (.one ((Rep.avoid hD _ _ rfl (rx.sm s2)).mv bD))
      · have e : ¬ (rowP P q).word = "give" := fun z => c (decide_eq_true (by rw [z]))
        refine ⟨s2, acc, hD, by omega, ?_⟩
        rw [if_neg (by simpa using e)]
        show Reps [D] H2 acc (_ ++ [])
        rw [List.append_nil]
        exact rA
    rintro H2 ⟨s2, acc, hD, la, rA⟩
    rw [lp, List.take_length] at rA
    exact k H2 D acc (s1.trans s2) (same_none s1 nD) hD (rA.less fun _ z => absurd z List.not_mem_nil)
end
end Lb

set_option Elab.async false
set_option linter.all false
set_option maxRecDepth 100000
set_option maxHeartbeats 4000000

namespace Lb
open PySem PySem.Spec PyProof.Rows L2
section
variable {P Pg : Program} {w : World} {K : PySem.W.Frag} {mg : Str → Option Value} {base : Heap} {A : Ad}
def optW : List Str := ["loads", "lookups", "marks", "risks"]
theorem opt_in {os : List Str} (h : os.Sublist optW) : ∀ s ∈ os, inV (V.str s) [V.str "loads", V.str "lookups", V.str "marks", V.str "risks"] = true := fun s hs => by
  have z := inV_strs s optW
  rw [decide_eq_true (h.subset hs)] at z
  exact z
theorem opt_up {os : List Str} (h : os.Sublist optW) : ascB (os.map PyData.str) = true := by
  refine ascB_of PyData.str (fun a b => PySem.W.dataLt (.str a) (.str b) = true) (fun a b z => z) os (List.Pairwise.sublist h ?_)
  unfold optW
  decide +kernel

def sp_is_options : Sp := fun vs H Q _ => ∃ (v : V) (S : List Addr) (os : List Str), vs = [v] ∧ Rep S H v (.tuple (os.map PyData.str)) ∧ os.Sublist optW ∧ ∀ H', Same H H' → Q (.bl true) H'
theorem ok_is_options (T : Txt K w mg A) : FnOk Pg w K mg base CX0 2 A.f_is_options A.d_is_options ["thing"] (sp_is_options) := by
  refine T.F_is_options.ok sc_is_options (fun vs H Q E h => ?_) (fun cdv Ar outer s H vs Q E hr h => ?_)
  · obtain ⟨v, S, os, rfl, r, sub, k⟩ := h
    rfl
  · obtain ⟨v, S, os, rfl, r, sub, k⟩ := h
    refine ⟨_, PSs.nox ((pss_cons (ps_if (PW.pt (pw_or (pt_not (pt_val (pe_callB call_isiD (by rfl) T.zisinstance (by decide +kernel) (pa_cons (pv 0) (pa_cons (pe_bltn (v := .ty "tuple") (by rfl) T.ztuple (by decide +kernel) rfl) pa_nil))))) (pw_or1 (pt_not (pt_val (pe_callB (cr_all rfl) (by rfl) T.zall (by decide +kernel) (pa_cons (pe_lc (own := [("word", 1)]) (g := (gName 1)) (tt := tYes) rfl sc_is_options.nd (pi_tup (pv 0)) (blkOk_by (N := N_is_options) (sc := defScope s_is_options) (by decide +kernel)) (fun _ _ _ _ _ => (pg_name (i := 1) sc_is_options.nd rfl (Or.inl rfl))) (fun _ _ _ _ _ => pts_nil) (fun _ _ _ _ _ => (pe_and (pe_callB call_isiD (by rfl) T.zisinstance (by decide +kernel) (pa_cons (pv 1) (pa_cons (pe_bltn (v := .ty "str") (by rfl) T.zstr (by decide +kernel) rfl) pa_nil))) (pe_one (pe_cmpR (show OpR _ (compareOp .In) (rIn K false) from op_in_seq) (pv 1) (pe_glob (v := .ref A.o_OPTIONS) (by rfl) T.m_OPTIONS rfl) rfl))))) pa_nil))))))) (pss_one (ps_ret pe_bl)) pss_nil)
 (pss_one (ps_ret (pe_call (ok_is_ascending T) hr rfl T.m_is_ascending T.F_is_ascending.kp (b_is_ascending T) .nil pass0 (pa_cons (pv 0) pa_nil)))))), ?_⟩
    rw [show start N_is_options [v] = [some (v), none] from rfl]
    have r0 := r
    obtain ⟨a, xs, rfl, ha, _, rs⟩ := r.tupV
    have lo : os.length ≤ 4 := sub.length_le
    have lx : xs.length = os.length := by rw [rs.length, List.length_map]
    refine ⟨_, rfl, _, "tuple", S, _, _, rfl, r0, kit_tup _, _, rfl, ?_⟩
    refine ite2 (fun c => absurd c (by simp [isTup])) (fun _ => ?_)
    refine ⟨_, rfl, a, rfl, ⟨_, SqT.of ha⟩, fun D nD => ?_⟩
    refine lc_pure (walk_tup (xs := xs)) nD (fun _ => V.bl true) (by rw [lx, sizeLine_eq]; omega) (fun H' s' => SqT.of (s' _ _ ha)) ?_ ?_
    · rintro i x H2 H1 F hi s1 ⟨rfl, hx⟩ fin
      have il : i < os.length := by omega
      obtain ⟨d, hd, rx⟩ := (rs.sm s1).get hx
      rw [List.getElem?_map, List.getElem?_eq_getElem il] at hd
      obtain rfl := Option.some.inj hd
      have z := opt_in sub _ (List.getElem_mem il)
      generalize os[i] = s at *
      have rx0 := rx
      obtain rfl := rx.strV
      refine ⟨rfl, _, rfl, _, "str", S, _, _, rfl, rx0, kit_str _, _, rfl, ?_⟩
      refine ite2 (fun _ => ?_) (fun c => absurd rfl c)
      refine ⟨_, rfl, A.o_OPTIONS, _, rfl, .inr (T.t_OPTIONS H1), rfl, rfl, ?_⟩
      have e := fin _ (.refl _)
      rw [← z] at e
      exact e
    intro H1 s1 hD
    have eb : (List.range xs.length).map (fun _ => V.bl true) = ((List.range xs.length).map fun _ => true).map V.bl := by rw [List.map_map]; rfl
    rw [eb] at hD
    refine ⟨D, _, rfl, SqL.of hD, _, rfl, ?_⟩
    refine ite2 (fun c => absurd c (by simp)) (fun _ => ?_)
    refine ⟨_, rfl, .ref a, S, os.map PyData.str, rfl, r0.sm s1, by rw [List.length_map]; omega, fun d hd e he => ?_, fun d hd => ?_, fun H2 s2 => ?_⟩
    · obtain ⟨x, _, rfl⟩ := List.mem_map.mp hd
      obtain ⟨y, _, rfl⟩ := List.mem_map.mp he
      rfl
    · obtain ⟨x, _, rfl⟩ := List.mem_map.mp hd
      exact ⟨fun z => (nomatch z), (by show PyData.depth (.str x) ≤ 64; simp [PyData.depth]), rfl⟩
    · rw [opt_up sub]
      exact k H2 (s1.trans s2)
def sp_demand_options : Sp := fun vs H Q _ => ∃ (v : V) (S : List Addr) (os : List Str), vs = [v] ∧ Rep S H v (.tuple (os.map PyData.str)) ∧ os.Sublist optW ∧ ∀ H', Same H H' → Q .non H'
theorem ok_demand_options (T : Txt K w mg A) : FnOk Pg w K mg base CX0 3 A.f_demand_options A.d_demand_options ["thing"] (sp_demand_options) := by
  refine T.F_demand_options.ok sc_demand_options (fun vs H Q E h => ?_) (fun cdv Ar outer s H vs Q E hr h => ?_)
  · obtain ⟨v, S, os, rfl, r, sub, k⟩ := h
    rfl
  · obtain ⟨v, S, os, rfl, r, sub, k⟩ := h
    refine ⟨_, PSs.nox ((pss_one (ps_if (pt_not (pt_val (pe_call (ok_is_options T) hr rfl T.m_is_options T.F_is_options.kp (b_is_options T) .nil pass0 (pa_cons (pv 0) pa_nil)))) (pss_one ps_never) pss_nil))), ?_⟩
    rw [show start N_demand_options [v] = [some (v)] from rfl]
    refine ⟨_, rfl, v, S, os, rfl, r, sub, fun H1 s1 => ⟨_, rfl, ?_⟩⟩
    exact ite2 (fun c => absurd c (by decide)) (fun _ => k H1 s1)
end
end Lb

set_option Elab.async false
set_option linter.all false
set_option maxRecDepth 100000
set_option maxHeartbeats 4000000

namespace Lb
open PySem PySem.Spec PyProof.Rows L2
section
variable {P Pg : Program} {w : World} {K : PySem.W.Frag} {mg : Str → Option Value} {base : Heap} {A : Ad}
def sp_law_options : Sp := fun vs H Q _ => ∃ (l : Addr) (m : Nat), vs = [.ref l] ∧ Pool m l H ∧ m ≤ 50000 ∧ ∀ (H' : Hp) (x : V) (os : List Str), But [l] H H' → Pool (m + 4) l H' → os.Sublist optW → Rep [l] H' x (.tuple (os.map PyData.str)) → Q x H'
theorem ok_law_options (T : Txt K w mg A) : FnOk Pg w K mg base CX0 2 A.f_law_options A.d_law_options ["pool"] (sp_law_options) := by
  refine T.F_law_options.ok sc_law_options (fun vs H Q E h => ?_) (fun cdv Ar outer s H vs Q E hr h => ?_)
  · obtain ⟨l, m, rfl, hp, m5, k⟩ := h
    rfl
  · obtain ⟨l, m, rfl, hp, m5, k⟩ := h
    refine ⟨_, PSs.nox ((pss_one (ps_ret (pe_callTy call_tuple_of (by rfl) T.ztuple (by decide +kernel) (pa_cons (pe_lc (own := [("word", 1)]) (g := (gName 1)) (tt := _) rfl sc_law_options.nd (pi_list (pe_lst (pa_cons pe_str (pa_cons pe_str (pa_cons pe_str (pa_cons pe_str pa_nil)))))) (blkOk_by (N := N_law_options) (sc := defScope s_law_options) (by decide +kernel)) (fun _ _ _ _ _ => (pg_name (i := 1) sc_law_options.nd rfl (Or.inl rfl))) (fun _ _ _ _ _ => (pts_one (pt_cmpR op_eq (pe_call (ok_law_draw T) hr rfl T.m_law_draw T.F_law_draw.kp (b_law_draw T) .nil pass0 (pa_cons (pv 0) (pa_cons pe_int pa_nil))) pe_int (nomark _)))) (fun _ _ _ _ _ => (pv 1))) pa_nil))))), ?_⟩
    rw [show start N_law_options [.ref l] = [some (.ref l), none] from rfl]
    refine ⟨(by show 4 ≤ sizeLine; decide), fun W nW => ⟨W, rfl, ⟨_, SqL.of upd_same⟩, fun D nD => ?_⟩⟩
    have hW : upd H W (.lst [V.str "loads", V.str "lookups", V.str "marks", V.str "risks"]) W = some (.lst (optW.map V.str)) := upd_same
    have b1 : But [l] H (upd H W (.lst [V.str "loads", V.str "lookups", V.str "marks", V.str "risks"])) := But.refl.new nW
    have p1 := hp.new (o := .lst [V.str "loads", V.str "lookups", V.str "marks", V.str "risks"]) nW
    have Wl := hp.ne nW
    generalize upd H W (.lst [V.str "loads", V.str "lookups", V.str "marks", V.str "risks"]) = H1 at *
    have Dl := p1.ne nD
    have WD : W ≠ D := ne_of_none hW nD
    refine lc_it (walk_list (xs := optW.map V.str)) (fun i H' => But [l, D] H1 H' ∧ Pool (m + i) l H' ∧ ∃ os : List Str, os.Sublist (optW.take i) ∧ H' D = some (.lst (os.map V.str))) ⟨But.refl.new nD, p1.new nD, [], List.nil_sublist _, upd_same⟩ (fun i H' _ q => SqL.of (q.1 _ _ (fun z => (List.mem_cons.mp z).elim Wl fun z => WD (List.mem_singleton.mp z)) hW)) ?_ ?_
    · rintro i x H3 H2 hi ⟨b2, p2, os, sub, hD⟩ ⟨rfl, hx⟩
      rw [List.length_map] at hi
      have i4 : i < 4 := hi
      rw [List.getElem?_map, List.getElem?_eq_getElem hi] at hx
      obtain rfl := Option.some.inj hx
      have tk : optW.take (i + 1) = optW.take i ++ [optW[i]] := by rw [List.take_succ, List.getElem?_eq_getElem hi]; rfl
      have lo := sub.length_le
      rw [List.length_take] at lo
      generalize optW[i] = s at *
      refine ⟨rfl, _, rfl, l, m + i, 2, rfl, p2, by omega, by decide, by decide, fun H3 w b3 p3 w0 w1 => ⟨rfl, _, rfl, ?_⟩⟩
      have hD3 := b3.at1 hD Dl
      have b23 : But [l, D] H1 H3 := b2.trans (b3.mono fun x z => by rw [List.mem_singleton.mp z]; exact List.mem_cons_self)
      refine ite2 (fun c => ?_) (fun c => ?_)
      · refine ⟨_, rfl, os.map V.str, hD3, by rw [List.length_map, sizeLine_eq]; omega, b23.upd (List.mem_cons_of_mem _ List.mem_cons_self), (p3.away Dl).le (by omega), os ++ [s], ?_, by rw [List.map_append]; exact upd_same⟩
        rw [tk]
        exact sub.append (List.Sublist.refl _)
      · refine ⟨b23, p3.le (by omega), os, ?_, hD3⟩
        rw [tk]
        exact sub.trans (List.sublist_append_left _ _)
    rintro H2 ⟨b2, p2, os, sub, hD⟩
    rw [List.length_map] at p2
    rw [List.length_map, List.take_length] at sub
    refine ⟨D, _, rfl, .inl ⟨SqL.of hD, fun t nt => ?_⟩⟩
    have b12 : But [l] H H2 := by
      have z : But [l, D] H H2 := (b1.mono fun x z => by rw [List.mem_singleton.mp z]; exact List.mem_cons_self).trans b2
      intro c o n e
      refine z c o (fun y => (List.mem_cons.mp y).elim (fun e => n (by rw [e]; exact List.mem_cons_self)) fun y => ?_) e
      have e1 := b1 c o n e
      rw [List.mem_singleton.mp y, nD] at e1
      exact nomatch e1
    refine k _ _ os (b12.new nt) (p2.new nt) sub (.tup upd_same (fun z => p2.ne nt (List.mem_singleton.mp z)) ?_)
    have key : ∀ zs : List Str, Reps [l] (upd H2 t (.tup (os.map V.str))) (zs.map V.str) (zs.map PyData.str) := fun zs => by
      induction zs with
      | nil => exact .nil
      | cons z zs ih => exact .cons (.str _) ih
    exact key os
end
end Lb

set_option Elab.async false
set_option linter.all false
set_option maxRecDepth 100000
set_option maxHeartbeats 4000000

namespace Lb
open PySem PySem.Spec PyProof.Rows L2
section
variable {P Pg : Program} {w : World} {K : PySem.W.Frag} {mg : Str → Option Value} {base : Heap} {A : Ad}
def sp_Tool_kept_ways (A : Ad) (Pg : Program) (w : World) : Sp := fun vs H Q _ => ∃ (t : Addr) (P : Prog) (os : List Str) (lk : List (Nat × Nat)) (fs : List (Str × V)), vs = [.ref t] ∧ ToolAt A.k_Tool H t P os fs ∧ PlAt H fs P ∧ BhAt H fs P ∧ AkAt H fs P os lk ∧ P.Ok ∧ ∀ (H' : Hp) (wd : Addr) (n : Nat) (kvs : List (NestedKey × V)), Same H H' → H wd = none → NDict Pg w H' wd kvs → (runS P os lk n).level = [] → KW [] H' kvs (runS P os lk n).ways → Q (.ref wd) H'
theorem ok_Tool_kept_ways (T : Txt K w mg A) : FnOk Pg w K mg base CX0 14 A.f_Tool_kept_ways A.d_Tool_kept_ways ["self"] (sp_Tool_kept_ways A Pg w) := by
  refine T.F_Tool_kept_ways.ok sc_Tool_kept_ways (fun vs H Q E h => ?_) (fun cdv Ar outer s H vs Q E hr h => ?_)
  · obtain ⟨t, P, os, lk, fs, rfl, x, pl, bh, ak, ok, k⟩ := h
    rfl
  · obtain ⟨t, P, os, lk, fs, rfl, x, pl, bh, ak, ok, k⟩ := h
    refine ⟨_, PSs.nox ((pss_cons (ps_set (i := 1) sc_Tool_kept_ways.nd rfl (Or.inl rfl) pe_dnewN)
 (pss_cons (ps_setDcN (i := 2) (own := [("link", 6)]) (g := (gName 6)) (tt := tYes) hr.units rfl sc_Tool_kept_ways.nd rfl rfl (sw_trueD rfl rfl rfl (by decide +kernel)) (pi_list (pe_meth0 (pv 0) T.c_Tool T.me_Tool_first_links (ok_Tool_first_links T) hr (b_Tool_first_links T) .nil pass0)) (blkOk_by (N := N_Tool_kept_ways) (sc := defScope s_Tool_kept_ways) (by decide +kernel)) (fun _ _ _ _ _ => (pg_name (i := 6) sc_Tool_kept_ways.nd rfl (Or.inl rfl))) (fun _ _ _ _ _ => pts_nil) (fun _ _ _ _ _ => (pv 6)) (fun _ _ _ _ _ => pe_bl))
 (pss_cons (ps_setLc (i := 3) (own := [("link", 6)]) (g := (gName 6)) (tt := tYes) rfl sc_Tool_kept_ways.nd rfl rfl (sw_true rfl rfl rfl (by decide +kernel)) (pi_keysN (pv 2)) (blkOk_by (N := N_Tool_kept_ways) (sc := defScope s_Tool_kept_ways) (by decide +kernel)) (fun _ _ _ _ _ => (pg_name (i := 6) sc_Tool_kept_ways.nd rfl (Or.inl rfl))) (fun _ _ _ _ _ => pts_nil) (fun _ _ _ _ _ => (pe_lst (pa_cons (pv 6) pa_nil))))
 (pss_cons (ps_while PassesOwn.never (pt_truth (pv 3) (fun _ => rfl)) (pss_cons (ps_set (i := 4) sc_Tool_kept_ways.nd rfl (Or.inl rfl) (pe_lst pa_nil))
 (pss_cons (ps_for PassesOwn.never rfl (pi_list (pv 3)) (pg_name (i := 5) sc_Tool_kept_ways.nd rfl (Or.inl rfl)) (pss_cons (ps_expr (pe_nsetd hr.units (pv 1) (pe_ix ix_tup (pe_ix ix_list (pv 5) (pe_un un_neg pe_int) (fun _ _ => rfl)) pe_int (fun _ _ => rfl)) (pv 5) ⟨rfl, rfl, rfl, rfl⟩))
 (pss_one (ps_for PassesOwn.never rfl (pi_list (pe_meth (pv 0) T.c_Tool T.me_Tool_links_behind (ok_Tool_links_behind T) hr (b_Tool_links_behind T) .nil pass0 (pa_cons (pe_ix ix_list (pv 5) (pe_un un_neg pe_int) (fun _ _ => rfl)) pa_nil))) (pg_name (i := 6) sc_Tool_kept_ways.nd rfl (Or.inl rfl)) (pss_one (ps_if (pt_cmpR (op_notInN hr.units) (pv 6) (pv 2) rfl) (pss_cons (ps_asg pe_bl (pg_sub (pv 2) (pv 6) (set_nk hr.units)))
 (pss_one (ps_expr (pe_bm PySem.F.plainAttrs_list PySem.F.slot_list_append PySem.F.type_list_append mt_append (pv 4) (pa_cons (pe_op op_cat (pv 5) (pe_lst (pa_cons (pv 6) pa_nil))) pa_nil))))) pss_nil))))))
 (pss_one (ps_set (i := 3) sc_Tool_kept_ways.nd rfl (Or.inl rfl) (pv 4))))))
 (pss_one (ps_ret (pv 1)))))))), ?_⟩
    rw [show start N_Tool_kept_ways [.ref t] = [some (.ref t), none, none, none, none, none, none] from rfl]
    have x0 := x
    obtain ⟨⟨dx, ob⟩, ⟨sv, hs, rs⟩, ⟨oa, ho, hoa⟩, hm⟩ := x
    
    have hm1 := hm "first_links" (by decide +kernel)
    have hm2 := hm "links_behind" (by decide +kernel)
    -- ways
    intro W nW
    dsimp only [gName, List.set]
    refine at_heap (fun H1 => Same H H1 ∧ NDict Pg w H1 W []) ⟨same_new nW, NDict.empty⟩ ?_
    rintro H1 ⟨s1, ndW⟩
    -- met
    refine ⟨_, rfl, t, dx, fs, rfl, s1 _ _ ob, hm1, t, P, os, lk, fs, rfl, x0.sm s1, pl.sm s1, ak.sm s1, ok, fun H2 F xs s2 nF hF lx rx => ⟨F, rfl, ⟨_, SqL.of hF⟩, fun M nM => ?_⟩⟩
    have lxs := rx.length
    rw [List.length_map] at lxs
    refine dcN_it (walk_list (xs := xs)) (fun i H' => Same H2 H' ∧ ∃ kvs, NDict Pg w H' M kvs ∧ kvs.length ≤ i ∧ kvs.map Prod.fst = (((firstT P os lk).take i).foldl meet []).map lnK) ⟨same_new nM, [], NDict.empty, Nat.le_refl _, rfl⟩ (fun i H' _ p => SqL.of (p.1 _ _ hF)) ?_ ?_
    · rintro i x H4 H3 hi ⟨s3, kvs, nd, lkv, ek⟩ ⟨rfl, hx⟩
      have il : i < (firstT P os lk).length := by omega
      obtain ⟨d, hd, ry⟩ := rx.get hx
      rw [List.getElem?_map, List.getElem?_eq_getElem il] at hd
      obtain rfl := Option.some.inj hd
      have tk : (firstT P os lk).take (i + 1) = (firstT P os lk).take i ++ [(firstT P os lk)[i]] := by rw [List.take_succ, List.getElem?_eq_getElem il]; rfl
      generalize (firstT P os lk)[i] = l at *
      obtain ⟨c, rfl⟩ := ln_ref ry
      refine ⟨rfl, _, rfl, c, kvs, lnK l, rfl, nd, by rw [sizeLine_eq]; omega, ln_at (ry.sm s3), lnK_depth l, fun H' hk nd' => ⟨fun b o e => ?_, _, nd', ?_, ?_⟩⟩
      · rw [hk b (ne_of_none e nM)]
        exact s3 _ _ e
      · have := length_putK kvs (lnK l) (.bl true)
        omega
      · rw [keys_put, ek, tk, List.foldl_append]
        show _ = (meet (((firstT P os lk).take i).foldl meet []) l).map lnK
        generalize ((firstT P os lk).take i).foldl meet [] = ms
        unfold meet
        by_cases c : l ∈ ms
        · rw [if_pos c, if_pos (lnK_mem.mpr c)]
        · rw [if_neg c, if_neg (fun z => c (lnK_mem.mp z)), List.map_append]
          rfl
    rintro H3 ⟨s3, kvM, ndM, lkM, ekM⟩
    rw [lxs, List.take_length] at ekM
    dsimp only [gName, List.set]
    -- level
    let s0 := startS P os lk
    have ek0 : kvM.map Prod.fst = s0.met.map lnK := ekM
    refine ⟨_, rfl, M, kvM, rfl, ndM, fun o xs' kvn D nD => ?_⟩
    have lkv : kvM.length = s0.met.length := by
      have z := congrArg List.length ek0
      rwa [List.length_map, List.length_map] at z
    have lx' : kvM.length = xs'.length := Paired.length kvn
    have MD : D ≠ M := fun e => by rw [e, upd_same] at nD; exact nomatch nD
    have nD3 : H3 D = none := by rwa [upd_ne MD] at nD
    have m0 := (met_few ok (midK_start P os lk).nd (midK_start P os lk).kept)
    refine lc_it walk_keysN (fun i H' => Same (upd H3 M (NkF Pg w M o xs')) H' ∧ ∃ acc, H' D = some (.lst acc) ∧ acc.length ≤ i ∧ Reps [D] H' acc ((s0.met.take i).map fun l => wyD [l])) ⟨same_new nD, [], upd_same, Nat.zero_le _, .nil⟩ (fun i H' _ p => p.1 _ _ upd_same) ?_ ?_
    · rintro i x H5 H4 hi ⟨s4, acc, hD, la, rA⟩ ⟨rfl, k0, q, vv, hk0, rfl⟩
      obtain ⟨p, hp, e1, nk, _, _⟩ := paired_at kvn hk0
      have il : i < s0.met.length := by omega
      have ep : p.1 = lnK s0.met[i] := by
        have z : (kvM.map Prod.fst)[i]? = some p.1 := by rw [List.getElem?_map, hp]; rfl
        rw [ek0, List.getElem?_map, List.getElem?_eq_getElem il] at z
        exact (Option.some.inj z).symm
      rw [ep] at nk
      have rl : Rep [] H4 (.ref q) (lnD s0.met[i]) := (at_ln nk).sm s4
      have tk : s0.met.take (i + 1) = s0.met.take i ++ [s0.met[i]] := by rw [List.take_succ, List.getElem?_eq_getElem il]; rfl
      generalize s0.met[i] = l at *
      refine ⟨rfl, _, rfl, (by show 1 ≤ sizeLine; decide), fun a na => ?_⟩
      have sa : Same H4 (upd H4 a (.lst [.ref q])) := same_new na
      have aD : a ≠ D := (ne_of_none hD na).symm
      have bD : But [D] (upd H4 a (.lst [.ref q])) (upd (upd H4 a (.lst [.ref q])) D (.lst (acc ++ [.ref a]))) := But.refl.upd List.mem_cons_self
      refine ⟨acc, sa _ _ hD, by rw [sizeLine_eq]; omega, same_own (s4.trans sa) nD, acc ++ [.ref a], upd_same, by rw [List.length_append, List.length_singleton]; omega, ?_⟩
      rw [tk, List.map_append]
      refine ((rA.sm sa).mv bD).app (.one (.lst (by rw [upd_ne aD]; exact upd_same) (fun z => aD (List.mem_singleton.mp z)) (.cons ?_ .nil)))
      exact (Rep.avoid (sa _ _ hD) _ _ rfl (rl.sm sa)).mv bD
    rintro H4 ⟨s4, acc, hD, la, rA⟩
    rw [← lx', lkv, List.take_length] at rA
    dsimp only [gName, List.set]
    have rL : Reps [] H4 acc (s0.level.map wyD) := by
      have z := rA.less (st' := []) fun _ z => absurd z List.not_mem_nil
      rw [show s0.level = s0.met.map fun l => [l] from rfl, List.map_map]
      exact z
    have ndM4 : NDict Pg w H4 M kvM := NDict.ofF ndM.1 (s4 _ _ upd_same) (kvn.keeps fun c vs e => s4 _ _ e)
    have sx : ∀ c o', c ≠ M → H3 c = some o' → H4 c = some o' := fun c o' n e => s4 _ _ (by rw [upd_ne n]; exact e)
    have s14 : Same H H4 := fun b o' e => sx b o' (ne_of_none ((s1.trans s2) _ _ e) nM) (((s1.trans s2).trans s3) _ _ e)
    have ndW4 : NDict Pg w H4 W [] := ndW.keeps (fun o' e => sx W o' (ne_of_none (s2 _ _ e) nM) ((s2.trans s3) _ _ e)) fun b vs e => sx b _ (ne_of_none (s2 _ _ e) nM) ((s2.trans s3) _ _ e)
    have nM0 : H M = none := same_none (s1.trans s2) nM
    have WM : W ≠ M := by
      obtain ⟨φ, e⟩ := ndW.ext
      exact ne_of_none (s2 _ _ e) nM
    have kt0 : KT Pg w H W M D (runS P os lk 0) [] kvM acc H4 := ⟨s14, ndW4, .nil, ndM4, ek0, hD, rL, WM, nW, nM0⟩
    have x4 := x0
    refine while_m (fun m σ H' => ∃ (o4 o5 o6 : Option V) (Lv : Addr) (n : Nat) (kW kM : List (NestedKey × V)) (xs : List V), σ = [some (.ref t), some (.ref W), some (.ref M), some (.ref Lv), o4, o5, o6] ∧ KT Pg w H W M Lv (runS P os lk n) kW kM xs H' ∧ m = keptM (runS P os lk n)) _ ⟨none, none, none, D, 0, [], kvM, acc, rfl, kt0, rfl⟩ ?_
    clear kt0 s14 ndW4 ndM4 rL hD rA sx s4 nD nD3 s3 ndM kvn ekM ek0 s1 ndW s2 nF hF rx lxs
    rintro m σ H5 ⟨o4, o5, o6, Lv, n, kW, kM, xs, rfl, kt, rfl⟩
    have mid := midK_run P os lk n
    have lxs : xs.length = (runS P os lk n).level.length := by
      have z := kt.rg.length
      rwa [List.length_map] at z
    refine ⟨_, rfl, !xs.isEmpty, .inl ⟨_, SqL.of kt.lv, rfl⟩, ?_⟩
    refine ite2 (fun c => ?_) (fun c => ?_)
    rotate_left
    · have e0 : (runS P os lk n).level = [] := List.eq_nil_of_length_eq_zero (by
        rw [← lxs]
        cases xs with
        | nil => rfl
        | cons _ _ => exact absurd rfl c)
      exact ⟨_, rfl, k H5 W n kW kt.sm nW kt.dw e0 kt.kw⟩
    have ne : (runS P os lk n).level ≠ [] := fun e => by
      rw [e] at lxs
      rw [List.eq_nil_of_length_eq_zero lxs] at c
      exact nomatch c
    have falls := kept_falls ok ne
    refine ⟨fun σ' H' => ∃ m', m' < keptM (runS P os lk n) ∧ ∃ (o4 o5 o6 : Option V) (Lv : Addr) (n : Nat) (kW kM : List (NestedKey × V)) (xs : List V), σ' = [some (.ref t), some (.ref W), some (.ref M), some (.ref Lv), o4, o5, o6] ∧ KT Pg w H W M Lv (runS P os lk n) kW kM xs H' ∧ m' = keptM (runS P os lk n), fun _ _ z => z, ?_⟩
    refine ⟨Nat.zero_le _, fun G nG => ?_⟩
    obtain ⟨km0, rX, hLv, nLv⟩ := kt.mid nG
    dsimp only [gName, List.set]
    generalize eH : upd H5 G (.lst []) = H6 at *
    refine cut_by (R := fun σ H' => ∃ (o5 o6 : Option V) (kW' kM' : List (NestedKey × V)) (acc' : List V), σ = [some (.ref t), some (.ref W), some (.ref M), some (.ref Lv), some (.ref G), o5, o6] ∧ KM Pg w H6 W M G (lvlS P os lk (runS P os lk n)) kW' kM' acc' H') ?_ ?_
    · rintro σ H7 ⟨p5, p6, kW', kM', acc', rfl, km⟩
      exact ⟨_, rfl, _, falls, some (.ref G), p5, p6, G, n + 1, kW', kM', acc', rfl, KM.top kt nG (by rw [eH]; exact km), rfl⟩
    intro fin2
    refine ⟨_, rfl, Lv, rfl, ⟨_, SqL.of hLv⟩, ?_⟩
    refine for_it (walk_list (xs := xs)) (fun i σ H7 => ∃ (o5 o6 : Option V) (kW' kM' : List (NestedKey × V)) (acc' : List V), σ = [some (.ref t), some (.ref W), some (.ref M), some (.ref Lv), some (.ref G), o5, o6] ∧ KM Pg w H6 W M G (((runS P os lk n).level.take i).foldl (wayS P os lk) ⟨(runS P os lk n).ways, (runS P os lk n).met, []⟩) kW' kM' acc' H7) ⟨o5, o6, kW, kM, [], rfl, km0⟩ (fun i σ H7 _ z => by obtain ⟨_, _, _, _, _, _, km⟩ := z; exact SqL.of (km.bt _ _ nLv hLv)) ?_ ?_
    rotate_left
    · rintro σ H7 ⟨p5, p6, kW', kM', acc', rfl, km⟩
      rw [lxs, List.take_length] at km
      exact fin2 _ _ ⟨p5, p6, kW', kM', acc', rfl, km⟩
    rintro i x σ H7 H8 hi ⟨p5, p6, kW1, kM1, acc1, rfl, km⟩ ⟨rfl, hx⟩
    have il : i < (runS P os lk n).level.length := by omega
    obtain ⟨d, hd, rx0⟩ := rX.get hx
    rw [List.getElem?_map, List.getElem?_eq_getElem il] at hd
    obtain rfl := Option.some.inj hd
    have rx := rx0.mv km.bt
    have tk : (runS P os lk n).level.take (i + 1) = (runS P os lk n).level.take i ++ [(runS P os lk n).level[i]] := by rw [List.take_succ, List.getElem?_eq_getElem il]; rfl
    have spl : (runS P os lk n).level = (runS P os lk n).level.take i ++ ((runS P os lk n).level[i] :: (runS P os lk n).level.drop (i + 1)) := by
      rw [List.append_cons, ← tk]
      exact (List.take_append_drop _ _).symm
    have mi0 : MidK P os lk ⟨(runS P os lk n).ways, (runS P os lk n).met, []⟩ (runS P os lk n).level := ⟨mid.nd, mid.kept, mid.long, fun w hw => absurd hw List.not_mem_nil, fun l hl => (mid.each l hl).elim (fun ⟨w, hw, _⟩ => absurd hw List.not_mem_nil) fun e => e.elim .inl fun e => .inr (.inr e), mid.keys, mid.first⟩
    have mi := MidK.part ((runS P os lk n).level.take i) ((runS P os lk n).level[i] :: (runS P os lk n).level.drop (i + 1)) (by rw [← spl]; exact mi0)
    have wnd := fold_nd (P := P) (os := os) (lk := lk) ((runS P os lk n).level.take i) ⟨(runS P os lk n).ways, (runS P os lk n).met, []⟩ (run_nd P os lk n)
    have ylen := run_len P os lk n _ (List.getElem_mem il)
    have deep := run_deep P os lk n ne
    have few := met_few ok mid.nd mid.kept
    have gw := way_grow P os lk ((runS P os lk n).level.take i) ⟨(runS P os lk n).ways, (runS P os lk n).met, []⟩
    rw [tk, List.foldl_append]
    generalize ((runS P os lk n).level.take i).foldl (wayS P os lk) ⟨(runS P os lk n).ways, (runS P os lk n).met, []⟩ = s at *
    generalize (runS P os lk n).level[i] = y at *
    dsimp only [gName, List.set]
    obtain ⟨pre, l, rfl⟩ := way_last (x := y) (by omega)
    have el : lastW (pre ++ [l]) = l := lastW_app _ _
    rw [List.length_append, List.length_singleton] at ylen
    obtain ⟨ya, _, rfl, _, _, _⟩ := rx.lstV
    obtain ⟨yxs, za, zb, hy, _, ry, lyx, hat, hza, rz, rz1⟩ := way_at rx
    have ml : l ∈ s.met := by
      have z := mi.todo _ List.mem_cons_self
      rwa [el] at z
    have pl_ := kept_place (mi.kept l ml)
    have wfew := ways_few ok mi wnd
    have lkW : kW1.length = s.ways.length := Paired.length km.kw
    refine cut_by (R := fun σ' H' => ∃ kW2 : List (NestedKey × V), σ' = [some (.ref t), some (.ref W), some (.ref M), some (.ref Lv), some (.ref G), some (.ref ya), p6] ∧ KM Pg w H6 W M G ⟨putW s.ways l.2 (pre ++ [l]), s.met, s.level⟩ kW2 kM1 acc1 H') ?_ ?_
    rotate_left
    · intro nx
      refine ⟨_, rfl, W, kW1, rfl, km.dw, _, rfl, 1, rfl, ya, yxs, (-1 : Int), .ref za, rfl, rfl, SqL.of hy, hat, za, _, 1, .ref zb, rfl, rfl, SqT.of hza, atI_nat (j := 1) rfl, _, rfl, zb, kW1, plK l.2, rfl, km.dw, by rw [lkW, sizeLine_eq]; omega, pl_at rz1, plK_depth _, fun v hv => ?_, fun hn H9 e9 d9 => ?_⟩
      · refine nx _ _ ⟨kW1, rfl, ?_⟩
        have z := KW.look km.kw l.2
        rw [hv] at z
        rw [putW_in (of_decide_eq_true z.symm)]
        exact km
      · exact nx _ _ ⟨_, rfl, km.way rx hn e9 d9⟩
    rintro σ H9 ⟨kW2, rfl, km2⟩
    clear hy ry lyx hat hza rz rz1
    have s9 : Same H H9 := KM.sm0 kt nG (by rw [eH]; exact km2)
    obtain ⟨yxs9, za9, zb9, hy9, _, ry9, lyx9, hat9, hza9, rz9, _⟩ := way_at (rx0.mv km2.bt)
    refine ⟨_, rfl, t, dx, fs, rfl, s9 _ _ ob, hm2, _, rfl, 1, rfl, ya, yxs9, (-1 : Int), .ref za9, rfl, rfl, SqL.of hy9, hat9, t, P, os, lk, fs, .ref za9, _, l, rfl, x4.sm s9, pl.sm s9, bh.sm s9, ak.sm s9, ok, rz9, pl_, fun HA p xs2 sA np hp lx2 rx2 => ⟨p, rfl, ⟨_, SqL.of hp⟩, ?_⟩⟩
    have np3 := km2.apart np
    have kmA := km2.sm sA
    have rx3 : Reps [W, M, G] HA xs2 ((nextT P os lk l).map lnD) := kmA.data (noLst_lns _) rx2
    have l2 := rx3.length
    rw [List.length_map] at l2
    refine for_it (walk_list (xs := xs2)) (fun j σ HB => ∃ (o6 : Option V) (kM' : List (NestedKey × V)) (acc' : List V), σ = [some (.ref t), some (.ref W), some (.ref M), some (.ref Lv), some (.ref G), some (.ref ya), o6] ∧ But [W, M, G] HA HB ∧ KM Pg w H6 W M G ⟨putW s.ways l.2 (pre ++ [l]), (((nextT P os lk l).take j).foldl (linkS (pre ++ [l])) (s.met, s.level)).1, (((nextT P os lk l).take j).foldl (linkS (pre ++ [l])) (s.met, s.level)).2⟩ kW2 kM' acc' HB) ⟨p6, kM1, acc1, rfl, .refl, kmA⟩ (fun j σ HB _ z => by obtain ⟨_, _, _, _, b, _⟩ := z; exact SqL.of (b _ _ np3 hp)) ?_ ?_
    rotate_left
    · rintro σ HB ⟨q6, kM3, acc3, rfl, bA, km3⟩
      rw [l2, List.take_length] at km3
      refine ⟨_, q6, kW2, kM3, acc3, rfl, ?_⟩
      show KM Pg w H6 W M G (wayS P os lk s (pre ++ [l])) kW2 kM3 acc3 HB
      unfold wayS
      rw [el]
      exact km3
    rintro j v σ HB HC hj ⟨q6, kM3, acc3, rfl, bA, km3⟩ ⟨rfl, hv⟩
    dsimp only [gName, List.set]
    have jl : j < (nextT P os lk l).length := by omega
    obtain ⟨d, hd, rv0⟩ := rx3.get hv
    rw [List.getElem?_map, List.getElem?_eq_getElem jl] at hd
    obtain rfl := Option.some.inj hd
    have rv := rv0.mv bA
    have tkj : (nextT P os lk l).take (j + 1) = (nextT P os lk l).take j ++ [(nextT P os lk l)[j]] := by rw [List.take_succ, List.getElem?_eq_getElem jl]; rfl
    have pf := part_few ok mi (y := pre ++ [l]) ml j
    have pg := link_grow (pre ++ [l]) ((nextT P os lk l).take j) (s.met, s.level)
    rw [tkj, List.foldl_append]
    generalize ((nextT P os lk l).take j).foldl (linkS (pre ++ [l])) (s.met, s.level) = sj at *
    generalize (nextT P os lk l)[j] = m at *
    have lkM : kM3.length = sj.1.length := by
      have z := congrArg List.length km3.km
      rwa [List.length_map, List.length_map] at z
    have lac : acc3.length = sj.2.length := by
      have z := km3.rg.length
      rwa [List.length_map] at z
    have pg2 : sj.1.length + s.level.length = s.met.length + sj.2.length := pg
    have gw2 : s.met.length + 0 = (runS P os lk n).met.length + s.level.length := gw
    have sfew := met_few ok mi.nd mi.kept
    obtain ⟨vb, rfl⟩ := ln_ref rv
    refine ⟨_, rfl, _, rfl, M, vb, kM3, lnK m, rfl, rfl, km3.dm, ln_at rv, lnK_depth m, _, rfl, ?_⟩
    rw [if_pos rfl, keys_val, km3.km, show decide (lnK m ∈ sj.1.map lnK) = decide (m ∈ sj.1) from decide_eq_decide.mpr lnK_mem]
    refine ite2 (fun c => ?_) (fun c => ?_)
    rotate_left
    · have hm_ : m ∈ sj.1 := by simpa using c
      refine ⟨_, kM3, acc3, rfl, bA, ?_⟩
      show KM Pg w H6 W M G ⟨_, (linkS (pre ++ [l]) sj m).1, (linkS (pre ++ [l]) sj m).2⟩ kW2 kM3 acc3 _
      rw [show linkS (pre ++ [l]) sj m = sj from if_pos hm_]
      exact km3
    have hm_ : m ∉ sj.1 := by simpa using c
    refine ⟨_, rfl, _, rfl, M, vb, kM3, lnK m, rfl, rfl, km3.dm, by rw [lkM, sizeLine_eq]; omega, ln_at rv, lnK_depth m, fun HD eD dD => ?_⟩
    have km4 := km3.see hm_ eD dD
    have bD : But [W, M, G] HA HD := bA.trans (but_one (List.mem_cons_of_mem _ List.mem_cons_self) eD)
    have rvD := rv0.mv bD
    obtain ⟨yxsD, _, _, hyD, _, ryD, lyxD, _, _, _, _⟩ := way_at (rx0.mv km4.bt)
    refine ⟨_, rfl, .inl ⟨rfl, _, SqL.of km4.lg⟩, _, rfl, _, rfl, (by show 1 ≤ sizeLine; decide), fun b nb => ?_⟩
    have sE : Same HD (upd HD b (.lst [.ref vb])) := same_new nb
    have hb : upd HD b (.lst [.ref vb]) b = some (.lst [.ref vb]) := upd_same
    generalize upd HD b (.lst [.ref vb]) = HE at *
    refine ⟨ya, b, yxsD, [.ref vb], rfl, rfl, sE _ _ hyD, hb, by rw [lyxD, sizeLine_eq]; show pre.length + 1 + 1 ≤ _; omega, fun p2 np2 => ?_⟩
    have kmE := km4.sm sE
    have np23 := kmE.apart np2
    have sF : Same HE (upd HE p2 (.lst (yxsD ++ [.ref vb]))) := same_new np2
    have hp2 : upd HE p2 (.lst (yxsD ++ [.ref vb])) p2 = some (.lst (yxsD ++ [.ref vb])) := upd_same
    generalize upd HE p2 (.lst (yxsD ++ [.ref vb])) = HF at *
    have sEF := sE.trans sF
    have kmF := kmE.sm sF
    have rp : Rep [W, M, G] HF (.ref p2) (wyD ((pre ++ [l]) ++ [m])) := by
      refine .lst hp2 np23 ?_
      rw [List.map_append (l₁ := pre ++ [l])]
      exact (ryD.sm sEF).app (.one (rvD.sm sEF))
    have e5 : linkS (pre ++ [l]) sj m = (sj.1 ++ [m], sj.2 ++ [pre ++ [l] ++ [m]]) := if_neg hm_
    have fin5 : KM Pg w H6 W M G ⟨putW s.ways l.2 (pre ++ [l]), (linkS (pre ++ [l]) sj m).1, (linkS (pre ++ [l]) sj m).2⟩ kW2 (putK kM3 (lnK m) (.bl true)) (acc3 ++ [.ref p2]) (upd HF G (.lst (acc3 ++ [.ref p2]))) := by
      rw [e5]
      exact kmF.app rp
    refine ⟨G, acc3, .ref p2, rfl, rfl, kmF.lg, by rw [lac, sizeLine_eq]; omega, ?_⟩
    exact ⟨some (V.ref vb), putK kM3 (lnK m) (V.bl true), acc3 ++ [V.ref p2], rfl, (bD.trans (.of sEF)).upd (List.mem_cons_of_mem _ (List.mem_cons_of_mem _ List.mem_cons_self)), fin5⟩
end
end Lb

set_option Elab.async false
set_option linter.all false
set_option maxRecDepth 100000
set_option maxHeartbeats 4000000

namespace Lb
open PySem PySem.Spec PyProof.Rows L2
section
variable {P Pg : Program} {w : World} {K : PySem.W.Frag} {mg : Str → Option Value} {base : Heap} {A : Ad}
def sp_unsure_rows : Sp := fun vs H Q _ => ∃ (v : V) (P : Prog), vs = [v] ∧ Rep [] H v P.d ∧ P.Ok ∧ ∀ H' p ys, Same H H' → H p = none → H' p = some (.lst ys) → Reps [] H' ys ((unsureL P).map stD) → Q (.ref p) H'
theorem ok_unsure_rows (T : Txt K w mg A) : FnOk Pg w K mg base CX0 16 A.f_unsure_rows A.d_unsure_rows ["program"] (sp_unsure_rows) := by
  refine T.F_unsure_rows.ok sc_unsure_rows (fun vs H Q E h => ?_) (fun cdv Ar outer s H vs Q E hr h => ?_)
  · obtain ⟨v, P, rfl, r, ok, k⟩ := h
    rfl
  · obtain ⟨v, P, rfl, r, ok, k⟩ := h
    refine ⟨_, PSs.nox ((pss_one (ps_ret (pe_lc (own := [("place", 1)]) (g := (gName 1)) (tt := _) rfl sc_unsure_rows.nd (pi_list (pe_call (ok_give_rows T) (hr.mono (by decide)) rfl T.m_give_rows T.F_give_rows.kp (b_give_rows T) .nil pass0 (pa_cons (pv 0) pa_nil))) (blkOk_by (N := N_unsure_rows) (sc := defScope s_unsure_rows) (by decide +kernel)) (fun _ _ _ _ _ => (pg_name (i := 1) sc_unsure_rows.nd rfl (Or.inr rfl))) (fun _ _ _ _ _ => (pts_one (pt_not (pt_val (pe_callB (show CallR _ (.builtin "all") (rAll K) from cr_all rfl) (by rfl) T.zall (by decide +kernel) (pa_cons (pe_lc (own := [("need", 2)]) (g := (gName 2)) (tt := tYes) rfl sc_unsure_rows.nd (show PI _ _ _ (iTup K _) from pi_tup (pe_call (ok_needs_of T) (hr.mono (by decide)) rfl T.m_needs_of T.F_needs_of.kp (b_needs_of T) .nil pass0 (pa_cons (pe_call (ok_row_at T) (hr.mono (by decide)) rfl T.m_row_at T.F_row_at.kp (b_row_at T) .nil pass0 (pa_cons (pv 0) (pa_cons (pv 1) pa_nil))) pa_nil))) (blkOk_by (by rfl)) (fun _ _ _ _ _ => (pg_name (i := 2) sc_unsure_rows.nd rfl (Or.inl rfl))) (fun _ _ _ _ _ => pts_nil) (fun _ _ _ _ _ => (pe_cmpR (show OpR _ (compareOp .In) (rInD K) from op_inD (room65 hr)) (pv 2) (pe_call (ok_sure_names T) hr rfl T.m_sure_names T.F_sure_names.kp (b_sure_names T) .nil pass0 (pa_cons (pv 0) (pa_cons (pv 1) pa_nil))) rfl))) pa_nil)))))) (fun _ _ _ _ _ => (pv 1)))))), ?_⟩
    rw [show start N_unsure_rows [v] = [some (v), none, none] from rfl]
    have tot := placesP_len ok P.parts.length
    have four := ok.four
    refine ⟨_, rfl, v, P, rfl, r, ok, fun H1 pa ps s1 npa hpa rps => ?_⟩
    have lp := rps.length
    rw [List.length_map] at lp
    have lg : (giveL P).length ≤ (placesP P P.parts.length).length := List.length_filter_le _ _
    refine ⟨pa, rfl, ⟨_, SqL.of hpa⟩, fun D nD => ?_⟩
    refine lc_it (walk_list (xs := ps)) (fun i H' => Same H1 H' ∧ ∃ acc, H' D = some (.lst acc) ∧ acc.length ≤ i ∧ Reps [D] H' acc ((((giveL P).take i).filter (unsureQ P)).map stD)) ⟨same_new nD, [], upd_same, Nat.zero_le _, .nil⟩ (fun i H' _ p => SqL.of (p.1 _ _ hpa)) ?_ ?_
    · rintro i x H3 H2 hi ⟨s2, acc, hD, la, rA⟩ ⟨rfl, hx⟩
      have il : i < (giveL P).length := by omega
      obtain ⟨d, hd, rx⟩ := rps.get hx
      rw [List.getElem?_map, List.getElem?_eq_getElem il] at hd
      obtain rfl := Option.some.inj hd
      have hq := (List.mem_filter.mp (List.getElem_mem il)).1
      have tk : (giveL P).take (i + 1) = (giveL P).take i ++ [(giveL P)[i]] := by rw [List.take_succ, List.getElem?_eq_getElem il]; rfl
      generalize (giveL P)[i] = q at *
      refine ⟨rfl, test_by (unsureQ P q) (fun C fin => ?_) (fun H3 s3 => ?_)⟩
      · obtain ⟨p1, p2⟩ := placesP_mem.mp hq
        have okr := rowT_ok ok hq
        obtain ⟨nok, n4⟩ := needs_ok okr
        refine ⟨v, rfl, x, rfl, v, x, [], [], P, q.1, q.2, rowP P q, rfl, r.sm (s1.trans s2), rx.sm s2, row_of hq, fun y r2 => ⟨y, [], rowP P q, rfl, r2, fun H3 u s3 ru => ?_⟩⟩
        obtain ⟨na, ns, rfl, hna, _, rns⟩ := ru.tupV
        have lns : ns.length = (needsL (rowP P q)).length := by rw [rns.length, List.length_map]
        refine ⟨na, rfl, ⟨_, SqT.of hna⟩, fun DD nDD => ?_⟩
        refine lc_pure (walk_tup (xs := ns)) nDD (fun i => V.bl (decide (nmN ((needsL (rowP P q)).getD i (0, "")) ∈ sureL P q))) (by rw [sizeLine_eq]; omega) (fun H' s' => SqT.of (s' _ _ hna)) ?_ ?_
        · rintro i z H5 H4 F hi s4 ⟨rfl, hz⟩ fin2
          have il : i < (needsL (rowP P q)).length := by omega
          obtain ⟨d, hd, rz⟩ := rns.get hz
          rw [List.getElem?_map, List.getElem?_eq_getElem il] at hd
          obtain rfl := Option.some.inj hd
          rw [List.getD_eq_getElem?_getD, List.getElem?_eq_getElem il, Option.getD_some] at fin2
          have okn := nok _ (List.getElem_mem il)
          generalize (needsL (rowP P q))[i] = n at *
          have s24 := s2.trans (s3.trans s4)
          refine ⟨rfl, _, rfl, _, rfl, _, rfl, v, x, [], P, q.1, q.2, rfl, r.sm (s1.trans s24), ok, rx.sm s24, place_ok p1 p2, p1, fun p H6 zs lr s6 np hp up mem rzs => ?_⟩
          rw [rdy_eq up mem] at rzs
          have rz6 : Rep [] H6 z (ndD (nmN n)) := by
            rw [← nm_nd okn]
            exact rz.sm (s4.trans s6)
          refine ⟨ndD (nmN n), (sureL P q).map ndD, rz6.dp _ _ rfl, (Rep.lst hp List.not_mem_nil rzs : Rep [] H6 (.ref p) (.list ((sureL P q).map ndD))).dp _ _ (noDicts_nds _), shaped_nd okn.2.2, shaped_nds (fun d hd => ?_), ?_⟩
          · have z := (List.mem_filter.mp hd).1
            unfold needsTo at z
            obtain ⟨_, _, z⟩ := List.mem_flatMap.mp z
            obtain ⟨_, z, e⟩ := List.mem_map.mp z
            rw [← e]
            exact z
          · rw [any_nd]
            exact fin2 _ s6
        intro H4 s4 hDD
        have e1 : (List.range ns.length).map (fun i => V.bl (decide (nmN ((needsL (rowP P q)).getD i (0, "")) ∈ sureL P q))) = ((needsL (rowP P q)).map fun n => decide (nmN n ∈ sureL P q)).map V.bl := by
          rw [lns, range_map (fun n => V.bl (decide (nmN n ∈ sureL P q))) (0, ""), List.map_map]
          rfl
        rw [e1] at hDD
        refine ⟨DD, _, rfl, SqL.of hDD, ?_⟩
        have e2 : (!(((needsL (rowP P q)).map fun n => decide (nmN n ∈ sureL P q)).all id)) = unsureQ P q := by
          unfold unsureQ
          rw [List.all_map]
          rfl
        refine ⟨_, rfl, ?_⟩
        dsimp only
        rw [e2]
        exact fin _ (s3.trans s4)
      · rw [tk, List.filter_append, List.map_append, List.filter_cons]
        refine ite2 (fun c => ?_) (fun c => ?_)
        · have bD : But [D] H3 (upd H3 D (.lst (acc ++ [x]))) := But.refl.upd List.mem_cons_self
          have hD3 := s3 _ _ hD
          refine ⟨_, rfl, acc, hD3, by rw [sizeLine_eq]; omega, same_own (s2.trans s3) nD, acc ++ [x], upd_same, by rw [List.length_append, List.length_singleton]; omega, ?_⟩
          rw [if_pos c]
          exact ((rA.sm s3).mv bD).app (.one ((Rep.avoid hD3 _ _ rfl ((rx.sm s2).sm s3)).mv bD))
        · refine ⟨s2.trans s3, acc, s3 _ _ hD, by omega, ?_⟩
          rw [if_neg c]
          show Reps [D] H3 acc (_ ++ [])
          rw [List.append_nil]
          exact rA.sm s3
    rintro H2 ⟨s2, acc, hD, la, rA⟩
    rw [lp, List.take_length] at rA
    exact k H2 D acc (s1.trans s2) (same_none s1 nD) hD (rA.less fun _ z => absurd z List.not_mem_nil)
def sp_left_out (A : Ad) (Pg : Program) (w : World) : Sp := fun vs H Q _ => ∃ (v : V) (P : Prog) (oa lv : Addr) (os : List Str) (ys : List V) (lk : List (Nat × Nat)), vs = [v, .ref oa, .ref lv] ∧ Rep [] H v P.d ∧ P.Ok ∧ H oa = some (.tup (os.map V.str)) ∧ H lv = some (.lst ys) ∧ Reps [] H ys (lk.map stD) ∧ ∀ H' u, Same H H' → Rep [] H' u (.tuple ((leftL P os lk).map stD)) → Q u H'
theorem ok_left_out (T : Txt K w mg A) : FnOk Pg w K mg base CX0 17 A.f_left_out A.d_left_out ["program", "options", "lacking"] (sp_left_out A Pg w) := by
  refine T.F_left_out.ok sc_left_out (fun vs H Q E h => ?_) (fun cdv Ar outer s H vs Q E hr h => ?_)
  · obtain ⟨v, P, oa, lv, os, ys, lk, rfl, r, ok, hoa, hlv, rl, k⟩ := h
    rfl
  · obtain ⟨v, P, oa, lv, os, ys, lk, rfl, r, ok, hoa, hlv, rl, k⟩ := h
    refine ⟨_, PSs.nox ((pss_cons (ps_set (i := 3) sc_left_out.nd rfl (Or.inr rfl) (pe_meth0 (pe_make T.mk_Tool (ok_Tool___init__ T) (hr.mono (by decide)) rfl T.m_Tool (b_Tool___init__ T) .nil pass0 (pa_cons (pv 0) (pa_cons (pv 1) (pa_cons (pv 2) pa_nil)))) T.c_Tool T.me_Tool_kept_ways (ok_Tool_kept_ways T) (hr.mono (by decide)) (b_Tool_kept_ways T) .nil pass0))
 (pss_one (ps_ret (pe_callTy call_tuple_of (by rfl) T.ztuple (by decide +kernel) (pa_cons (pe_lc (own := [("place", 4)]) (g := (gName 4)) (tt := _) rfl sc_left_out.nd (pi_list (pe_call (ok_all_rows T) (hr.mono (by decide)) rfl T.m_all_rows T.F_all_rows.kp (b_all_rows T) .nil pass0 (pa_cons (pv 0) pa_nil))) (blkOk_by (N := N_left_out) (sc := defScope s_left_out) (by decide +kernel)) (fun _ _ _ _ _ => (pg_name (i := 4) sc_left_out.nd rfl (Or.inl rfl))) (fun _ _ _ _ _ => (pts_one (pt_cmpR (show OpR _ (compareOp .NotIn) (rInN Pg w true) from op_notInN hr.units) (pv 4) (pv 3) rfl))) (fun _ _ _ _ _ => (pv 4))) pa_nil)))))), ?_⟩
    rw [show start N_left_out [v, .ref oa, .ref lv] = [some (v), some (.ref oa), some (.ref lv), none, none] from rfl]
    have tot := placesP_len ok P.parts.length
    have four := ok.four
    refine ⟨_, rfl, _, rfl, _, rfl, fun t dx nt ndx dxt => ?_⟩
    have s1 : Same H (upd (upd H dx (.own t)) t (.ins A.k_Tool dx [])) := (same_new ndx).trans (same_new (by rw [upd_ne (Ne.symm dxt)]; exact nt))
    have h1 : upd (upd H dx (.own t)) t (.ins A.k_Tool dx []) t = some (.ins A.k_Tool dx []) := upd_same
    generalize upd (upd H dx (.own t)) t (.ins A.k_Tool dx []) = H1 at *
    refine ⟨t, dx, v, P, oa, lv, os, ys, lk, rfl, h1, r.sm s1, ok, s1 _ _ hoa, s1 _ _ hlv, rl.sm s1, fun H2 fs b2 tl pl bh ak => ⟨rfl, ?_⟩⟩
    have s2 : Same H H2 := fun b o e => b2 b o (fun z => by rw [List.mem_singleton.mp z, nt] at e; exact nomatch e) (s1 b o e)
    obtain ⟨⟨dx2, ob⟩, _, _, hm⟩ := id tl
    refine ⟨t, dx2, fs, rfl, ob, hm "kept_ways" (by decide +kernel), t, P, os, lk, fs, rfl, tl, pl, bh, ak, ok, fun H3 wd n kvs s3 nwd nd e kw => ?_⟩
    dsimp only [gName, List.set]
    have s03 := s2.trans s3
    refine ⟨_, rfl, v, [], P.d, rfl, r.sm s03, prog_ok ok, fun H4 pa ps s4 npa hpa rps lps => ⟨pa, rfl, ⟨_, SqL.of hpa⟩, fun D nD => ?_⟩⟩
    rw [places_two] at rps
    have lp := rps.length
    rw [List.length_map] at lp
    refine lc_it (walk_list (xs := ps)) (fun i H' => Same H4 H' ∧ ∃ acc, H' D = some (.lst acc) ∧ acc.length ≤ i ∧ Reps [D] H' acc ((((placesP P P.parts.length).take i).filter fun q => !keptB P os lk q).map stD)) ⟨same_new nD, [], upd_same, Nat.zero_le _, .nil⟩ (fun i H' _ p => SqL.of (p.1 _ _ hpa)) ?_ ?_
    · rintro i x H6 H5 hi ⟨s5, acc, hD, la, rA⟩ ⟨rfl, hx⟩
      have il : i < (placesP P P.parts.length).length := by omega
      obtain ⟨d, hd, rx⟩ := rps.get hx
      rw [List.getElem?_map, List.getElem?_eq_getElem il] at hd
      obtain rfl := Option.some.inj hd
      have tk : (placesP P P.parts.length).take (i + 1) = (placesP P P.parts.length).take i ++ [(placesP P P.parts.length)[i]] := by rw [List.take_succ, List.getElem?_eq_getElem il]; rfl
      generalize (placesP P P.parts.length)[i] = q at *
      obtain ⟨xa, x0, x1, rfl, _⟩ := rx.two
      refine ⟨rfl, _, rfl, _, rfl, wd, xa, kvs, plK q, rfl, rfl, nd.sm (s4.trans s5), pl_at (rx.sm s5), plK_depth q, _, rfl, ?_⟩
      rw [if_pos rfl, KW.kept e kw q, tk, List.filter_append, List.map_append, List.filter_cons]
      refine ite2 (fun c => ?_) (fun c => ?_)
      · have bD : But [D] H5 (upd H5 D (.lst (acc ++ [V.ref xa]))) := But.refl.upd List.mem_cons_self
        refine ⟨_, rfl, acc, hD, by rw [sizeLine_eq]; omega, same_own s5 nD, acc ++ [V.ref xa], upd_same, by rw [List.length_append, List.length_singleton]; omega, ?_⟩
        rw [if_pos c]
        exact (rA.mv bD).app (.one ((Rep.avoid hD _ _ rfl (rx.sm s5)).mv bD))
      · refine ⟨s5, acc, hD, by omega, ?_⟩
        rw [if_neg c]
        show Reps [D] _ acc (_ ++ [])
        rw [List.append_nil]
        exact rA
    rintro H5 ⟨s5, acc, hD, la, rA⟩
    rw [lp, List.take_length] at rA
    refine ⟨D, _, rfl, .inl ⟨SqL.of hD, fun tt ntt => ?_⟩⟩
    have s6 := same_new (o := .tup acc) ntt
    exact k _ _ (((s03.trans s4).trans s5).trans s6) (.tup upd_same List.not_mem_nil ((rA.less fun _ z => absurd z List.not_mem_nil).sm s6))
def sp_shaken_lot (A : Ad) (Pg : Program) (w : World) : Sp := fun vs H Q _ => ∃ (v u : V) (P : Prog) (os : List Str), vs = [v, u] ∧ Rep [] H v P.d ∧ P.Ok ∧ Rep [] H u (.tuple (os.map PyData.str)) ∧ os.Sublist optW ∧ ∀ H' x, Same H H' → Rep [] H' x (.tuple ((leftL P os (unsureL P)).map stD)) → Q x H'
theorem ok_shaken_lot (T : Txt K w mg A) : FnOk Pg w K mg base CX0 18 A.f_shaken_lot A.d_shaken_lot ["program", "options"] (sp_shaken_lot A Pg w) := by
  refine T.F_shaken_lot.ok sc_shaken_lot (fun vs H Q E h => ?_) (fun cdv Ar outer s H vs Q E hr h => ?_)
  · obtain ⟨v, u, P, os, rfl, r, ok, ru, sub, k⟩ := h
    rfl
  · obtain ⟨v, u, P, os, rfl, r, ok, ru, sub, k⟩ := h
    refine ⟨_, PSs.nox ((pss_cons (ps_expr (pe_call (ok_demand_program T) (hr.mono (by decide)) rfl T.m_demand_program T.F_demand_program.kp (b_demand_program T) .nil pass0 (pa_cons (pv 0) pa_nil)))
 (pss_cons (ps_expr (pe_call (ok_demand_options T) (hr.mono (by decide)) rfl T.m_demand_options T.F_demand_options.kp (b_demand_options T) .nil pass0 (pa_cons (pv 1) pa_nil)))
 (pss_one (ps_ret (pe_call (ok_left_out T) hr rfl T.m_left_out T.F_left_out.kp (b_left_out T) .nil pass0 (pa_cons (pv 0) (pa_cons (pv 1) (pa_cons (pe_call (ok_unsure_rows T) (hr.mono (by decide)) rfl T.m_unsure_rows T.F_unsure_rows.kp (b_unsure_rows T) .nil pass0 (pa_cons (pv 0) pa_nil)) pa_nil))))))))), ?_⟩
    rw [show start N_shaken_lot [v, u] = [some (v), some (u)] from rfl]
    refine ⟨_, rfl, v, [], P.d, rfl, r, prog_ok ok, fun H1 s1 => ?_⟩
    refine ⟨_, rfl, u, [], os, rfl, ru.sm s1, sub, fun H2 s2 => ?_⟩
    have s12 := s1.trans s2
    refine ⟨_, rfl, _, rfl, _, rfl, v, P, rfl, r.sm s12, ok, fun H3 p ys s3 np hp ry => ?_⟩
    have s13 := s12.trans s3
    obtain ⟨oa, xs, rfl, hoa, _, rx⟩ := (ru.sm s13).tupV
    rw [strs_of rx] at hoa
    exact ⟨v, P, oa, p, os, ys, unsureL P, rfl, r.sm s13, ok, hoa, hp, ry, fun H4 x s4 rx => k H4 x (s13.trans s4) rx⟩
end
end Lb

set_option Elab.async false
set_option linter.all false
set_option maxRecDepth 100000
set_option maxHeartbeats 4000000

namespace Lb
open PySem PySem.Spec PyProof.Rows L2
section
variable {P Pg : Program} {w : World} {K : PySem.W.Frag} {mg : Str → Option Value} {base : Heap} {A : Ad}
def sp_law_places : Sp := fun vs H Q _ => ∃ (v : V) (S : List Addr) (P : Prog), vs = [v] ∧ Rep S H v P.d ∧ P.Ok ∧ ∀ (p : Addr) (H' : Hp) (ys : List V), Same H H' → H p = none → H' p = some (.lst ys) → Reps [] H' ys ((placesP P P.parts.length).map stD) → Q (.ref p) H'
theorem ok_law_places (T : Txt K w mg A) : FnOk Pg w K mg base CX0 1 A.f_law_places A.d_law_places ["program"] (sp_law_places) := by
  refine T.F_law_places.ok sc_law_places (fun vs H Q E h => ?_) (fun cdv Ar outer s H vs Q E hr h => ?_)
  · obtain ⟨v, S, P, rfl, r, ok, k⟩ := h
    rfl
  · obtain ⟨v, S, P, rfl, r, ok, k⟩ := h
    refine ⟨_, PSs.nox ((pss_cons (ps_set (i := 1) sc_law_places.nd rfl (Or.inl rfl) (pe_lst pa_nil))
 (pss_cons (ps_for PassesOwn.never rfl (pi_range1 (by rfl) T.zrange (pa_cons (pe_callB call_len_seq (by rfl) T.zlen (by decide +kernel) (pa_cons (pe_ix ix_tup (pv 0) pe_int (fun _ _ => rfl)) pa_nil)) pa_nil)) (pg_name (i := 2) sc_law_places.nd rfl (Or.inr rfl)) (pss_one (ps_set (i := 1) sc_law_places.nd rfl (Or.inl rfl) (pe_op op_cat (pv 1) (pe_lc (own := [("k", 3)]) (g := (gName 3)) (tt := tYes) rfl sc_law_places.nd (pi_range1 (by rfl) T.zrange (pa_cons (pe_callB call_len_seq (by rfl) T.zlen (by decide +kernel) (pa_cons (pe_ix ix_tup (pe_ix ix_tup (pv 0) pe_int (fun _ _ => rfl)) (pv 2) (fun _ _ => rfl)) pa_nil)) pa_nil)) (blkOk_by (N := N_law_places) (sc := defScope s_law_places) (by decide +kernel)) (fun _ _ _ _ _ => (pg_name (i := 3) sc_law_places.nd rfl (Or.inl rfl))) (fun _ _ _ _ _ => pts_nil) (fun _ _ _ _ _ => (pe_tup (pa_cons (pv 2) (pa_cons (pv 3) pa_nil)))))))))
 (pss_one (ps_ret (pv 1)))))), ?_⟩
    rw [show start N_law_places [v] = [some (v), none, none, none] from rfl]
    obtain ⟨a, u0, u1, u2, u3, rfl, ha, r0, r1, r2, r3⟩ := r.four
    obtain ⟨b, xs, rfl, hb, _, rs⟩ := r0.tupV
    have four := ok.four
    have lx : xs.length = P.parts.length := by rw [rs.length, List.length_map]
    have rowE : ∀ j (hj : j < P.parts.length), ∃ c zs, xs[j]? = some (.ref c) ∧ H c = some (.tup zs) ∧ zs.length = (rowsOfP P j).length := fun j hj => by
      obtain ⟨y0, hy0, ry0⟩ := rs.at_ (i := j) (d := rowsD P.parts[j]) (by rw [List.getElem?_map, List.getElem?_eq_getElem hj]; rfl)
      obtain ⟨c, zs, rfl, hc, _, rz⟩ := ry0.tupV
      have eR : P.parts[j] = rowsOfP P j := by unfold rowsOfP; rw [List.getD_eq_getElem?_getD, List.getElem?_eq_getElem hj]; rfl
      exact ⟨c, zs, hy0, hc, by rw [rz.length, List.length_map, eR]⟩
    refine ⟨Nat.zero_le _, fun g0 ng0 => ?_⟩
    have s1 : Same H (upd H g0 (.lst [])) := same_new ng0
    dsimp only [gName, List.set]
    refine ⟨_, rfl, a, _, 0, _, rfl, rfl, SqT.of (s1 _ _ ha), atI_nat (j := 0) rfl, b, xs, rfl, .inr (SqT.of (s1 _ _ hb)), (P.parts.length : Int), by rw [lx], by omega, by omega, ?_⟩
    refine for_range (lo := 0) (n := P.parts.length) (fun i σ H' => ∃ (g : Addr) (o2 o3 : Option V) (ys : List V), σ = [some (.ref a), some (.ref g), o2, o3] ∧ Same H H' ∧ H g = none ∧ H' g = some (.lst ys) ∧ Reps [] H' ys ((placesP P i).map stD)) ⟨g0, none, none, [], rfl, s1, ng0, upd_same, .nil⟩ ?_ ?_
    · rintro i σ H2 hi ⟨g, o2, o3, ys, rfl, s2, ng, hg, ry⟩
      rw [Int.zero_add]
      dsimp only [gName, List.set]
      obtain ⟨c, zs, hy0, hc, lz⟩ := rowE i hi
      have l5 := rowsOfP_len ok i
      have ly := ry.length
      have lp := placesP_len ok i
      rw [List.length_map] at ly
      refine ⟨_, rfl, _, rfl, a, _, 0, _, rfl, rfl, SqT.of (s2 _ _ ha), atI_nat (j := 0) rfl, _, rfl, b, xs, (i : Int), .ref c, rfl, rfl, SqT.of (s2 _ _ hb), atI_nat hy0, c, zs, rfl, .inr (SqT.of (s2 _ _ hc)), ((rowsOfP P i).length : Int), by rw [lz], by omega, by omega, fun D nD => ?_⟩
      refine lc_it walk_range (fun j H3 => Same H2 H3 ∧ ∃ acc, H3 D = some (.lst acc) ∧ Reps [D] H3 acc ((partPl P i j).map stD)) ⟨same_new nD, [], upd_same, .nil⟩ (fun _ _ _ _ => trivial) ?_ ?_
      · rintro j x H4 H3 hj ⟨s3, acc, hD, rA⟩ ⟨rfl, rfl⟩
        have hj : j < (rowsOfP P i).length := by omega
        refine ⟨rfl, _, rfl, _, rfl, by show 2 ≤ sizeLine; decide, fun t nt => ?_⟩
        have st : Same H3 (upd H3 t (.tup [.int (i : Nat), .int (0 + (j : Nat))])) := same_new nt
        have la := rA.length
        unfold partPl at la
        rw [List.length_map, List.length_map, List.length_range] at la
        refine ⟨acc, st _ _ hD, by rw [sizeLine_eq]; omega, same_own (s3.trans st) nD, acc ++ [.ref t], upd_same, ?_⟩
        have bt : But [D] H3 (upd (upd H3 t (.tup [.int (i : Nat), .int (0 + (j : Nat))])) D (.lst (acc ++ [.ref t]))) := (But.of st).upd List.mem_cons_self
        have tD : t ≠ D := fun e => by rw [e, hD] at nt; exact nomatch nt
        rw [partPl_succ, List.map_append]
        exact (rA.mv bt).app (.one (.tup (by rw [upd_ne tD]; exact upd_same) (fun z => tD (List.mem_singleton.mp z)) (.cons (.int _) (.cons (int_rep' (Int.zero_add _)) .nil))))
      · rintro H3 ⟨s3, acc, hD, rA⟩
        rw [Int.toNat_natCast] at rA
        have la := rA.length
        unfold partPl at la
        rw [List.length_map, List.length_map, List.length_range] at la
        refine ⟨g, D, ys, acc, rfl, rfl, s3 _ _ hg, hD, by rw [sizeLine_eq]; omega, fun q nq => ?_⟩
        have sq : Same H3 (upd H3 q (.lst (ys ++ acc))) := same_new nq
        refine ⟨q, _, _, ys ++ acc, rfl, (s2.trans s3).trans sq, same_none (s2.trans s3) nq, upd_same, ?_⟩
        rw [placesP_succ, List.map_append]
        exact (ry.sm (s3.trans sq)).app ((rA.less fun _ z => absurd z List.not_mem_nil).sm sq)
    · rintro σ H3 ⟨g, o2, o3, ys, rfl, s3, ng, hg, ry⟩
      exact ⟨_, rfl, k g H3 ys s3 ng hg ry⟩
def sp_law_at : Sp := fun vs H Q _ => ∃ (v u : V) (S S' : List Addr) (P : Prog) (o i : Nat) (r_ : Row), vs = [v, u] ∧ Rep S H v P.d ∧ Rep S' H u (.tuple [nD o, nD i]) ∧ (rowsOfP P o)[i]? = some r_ ∧ ∀ x, Rep S H x r_.d → Q x H
theorem ok_law_at (T : Txt K w mg A) : FnOk Pg w K mg base CX0 1 A.f_law_at A.d_law_at ["program", "place"] (sp_law_at) := by
  refine T.F_law_at.ok sc_law_at (fun vs H Q E h => ?_) (fun cdv Ar outer s H vs Q E hr h => ?_)
  · obtain ⟨v, u, S, S', P, o, i, r_, rfl, r, ru, hr_, k⟩ := h
    rfl
  · obtain ⟨v, u, S, S', P, o, i, r_, rfl, r, ru, hr_, k⟩ := h
    refine ⟨_, PSs.nox ((pss_one (ps_ret (pe_ix ix_tup (pe_ix ix_tup (pe_ix ix_tup (pv 0) pe_int (fun _ _ => rfl)) (pe_ix ix_tup (pv 1) pe_int (fun _ _ => rfl)) (fun _ _ => rfl)) (pe_ix ix_tup (pv 1) pe_int (fun _ _ => rfl)) (fun _ _ => rfl))))), ?_⟩
    rw [show start N_law_at [v, u] = [some (v), some (u)] from rfl]
    obtain ⟨a, u0, u1, u2, u3, rfl, ha, r0, r1, r2, r3⟩ := r.four
    obtain ⟨b, xs, rfl, hb, _, rs⟩ := r0.tupV
    obtain ⟨c, v0, v1, rfl, hc, rv0, rv1⟩ := ru.two
    obtain rfl := rv0.intV
    obtain rfl := rv1.intV
    obtain ⟨rows, h1, h2⟩ := row_part hr_
    obtain ⟨y, hy, ry⟩ := rs.at_ (i := o) (d := rowsD rows) (by rw [List.getElem?_map, h1]; rfl)
    obtain ⟨cz, zs, rfl, hcz, _, rz⟩ := ry.tupV
    obtain ⟨x, hx, rx⟩ := rz.at_ (i := i) (d := r_.d) (by rw [List.getElem?_map, h2]; rfl)
    exact ⟨_, rfl, a, _, 0, _, rfl, rfl, SqT.of (ha), atI_nat (j := 0) rfl, _, rfl, c, _, 0, _, rfl, rfl, SqT.of hc, atI_nat (j := 0) rfl, b, xs, (o : Int), .ref cz, rfl, rfl, SqT.of hb, atI_nat hy, _, rfl, c, _, 1, _, rfl, rfl, SqT.of hc, atI_nat (j := 1) rfl, cz, zs, (i : Int), x, rfl, rfl, SqT.of hcz, atI_nat hx, k x rx⟩
theorem shaped_stT (l : List (Nat × Nat)) : SeqAt.shaped (.tuple (l.map stD)) = true := by
  have := depth_sts l
  unfold SeqAt.shaped
  rw [Bool.and_eq_true, decide_eq_true_eq]
  refine ⟨by simp only [PyData.canLay0]; exact lay_sts l, by simp only [PyData.depth]; omega⟩
theorem eqvAll_sts : ∀ l : List (Nat × Nat), PyData.eqvAll (l.map stD) (l.map stD) = true
  | [] => rfl
  | q :: l => by
    simp only [List.map_cons, PyData.eqvAll, eqvAll_sts l, Bool.and_true]
    rw [eqv_st, decide_eq_true rfl]
theorem eqv_sts_self (l : List (Nat × Nat)) : PyData.eqv (stsD l) (stsD l) = true := by
  simp only [stsD, PyData.eqv]
  exact eqvAll_sts l

def sp_law_is_lot : Sp := fun vs H Q _ => ∃ (v u : V) (S S' : List Addr) (P : Prog) (f : Nat × Nat → Bool), vs = [v, u] ∧ Rep S H v P.d ∧ P.Ok ∧ Rep S' H u (.tuple (((placesP P P.parts.length).filter f).map stD)) ∧ ∀ H', Same H H' → Q (.bl true) H'
theorem ok_law_is_lot (T : Txt K w mg A) : FnOk Pg w K mg base CX0 3 A.f_law_is_lot A.d_law_is_lot ["program", "lot"] (sp_law_is_lot) := by
  refine T.F_law_is_lot.ok sc_law_is_lot (fun vs H Q E h => ?_) (fun cdv Ar outer s H vs Q E hr h => ?_)
  · obtain ⟨v, u, S, S', P, f, rfl, r, ok, ru, k⟩ := h
    rfl
  · obtain ⟨v, u, S, S', P, f, rfl, r, ok, ru, k⟩ := h
    refine ⟨_, PSs.nox ((pss_cons (ps_if (PW.pt (pw_or (pt_not (pt_val (pe_callB call_isiD (by rfl) T.zisinstance (by decide +kernel) (pa_cons (pv 1) (pa_cons (pe_bltn (v := .ty "tuple") (by rfl) T.ztuple (by decide +kernel) rfl) pa_nil))))) (pw_or1 (pt_not (pt_val (pe_callB (cr_all rfl) (by rfl) T.zall (by decide +kernel) (pa_cons (pe_lc (own := [("place", 2)]) (g := (gName 2)) (tt := tYes) rfl sc_law_is_lot.nd (pi_tup (pv 1)) (blkOk_by (N := N_law_is_lot) (sc := defScope s_law_is_lot) (by decide +kernel)) (fun _ _ _ _ _ => (pg_name (i := 2) sc_law_is_lot.nd rfl (Or.inl rfl))) (fun _ _ _ _ _ => pts_nil) (fun _ _ _ _ _ => (pe_callB call_isiD (by rfl) T.zisinstance (by decide +kernel) (pa_cons (pv 2) (pa_cons (pe_bltn (v := .ty "tuple") (by rfl) T.ztuple (by decide +kernel) rfl) pa_nil))))) pa_nil))))))) (pss_one (ps_ret pe_bl)) pss_nil)
 (pss_one (ps_ret (pe_cmpR (op_eqD hr.units) (pe_callTy call_list_of (by rfl) T.zlist (by decide +kernel) (pa_cons (pv 1) pa_nil)) (pe_lc (own := [("place", 2)]) (g := (gName 2)) (tt := _) rfl sc_law_is_lot.nd (pi_list (pe_call (ok_law_places T) (hr.mono (by decide)) rfl T.m_law_places T.F_law_places.kp (b_law_places T) .nil pass0 (pa_cons (pv 0) pa_nil))) (blkOk_by (N := N_law_is_lot) (sc := defScope s_law_is_lot) (by decide +kernel)) (fun _ _ _ _ _ => (pg_name (i := 2) sc_law_is_lot.nd rfl (Or.inl rfl))) (fun _ _ _ _ _ => (pts_one (pt_cmpR (show OpR _ (compareOp .In) (rInTD K) from op_inTD (room65 hr)) (pv 2) (pv 1) rfl))) (fun _ _ _ _ _ => (pv 2))) (nomark _)))))), ?_⟩
    rw [show start N_law_is_lot [v, u] = [some (v), some (u), none] from rfl]
    have tot := placesP_len ok P.parts.length
    have four := ok.four
    have lf := List.length_filter_le f (placesP P P.parts.length)
    generalize ef : (placesP P P.parts.length).filter f = ls at *
    have ru0 := ru
    obtain ⟨a, xs, rfl, ha, _, rs⟩ := ru.tupV
    have lx : xs.length = ls.length := by rw [rs.length, List.length_map]
    refine ⟨_, rfl, _, "tuple", S', _, _, rfl, ru0, kit_tup _, _, rfl, ?_⟩
    refine ite2 (fun c => absurd c (by simp [isTup])) (fun _ => ?_)
    refine ⟨_, rfl, a, rfl, ⟨_, SqT.of ha⟩, fun D nD => ?_⟩
    refine lc_pure (walk_tup (xs := xs)) nD (fun _ => V.bl true) (by rw [lx, sizeLine_eq]; omega) (fun H' s' => SqT.of (s' _ _ ha)) ?_ ?_
    · rintro i x H2 H1 F hi s1 ⟨rfl, hx⟩ fin
      have il : i < ls.length := by omega
      obtain ⟨d, hd, rx⟩ := (rs.sm s1).get hx
      rw [List.getElem?_map, List.getElem?_eq_getElem il] at hd
      obtain rfl := Option.some.inj hd
      exact ⟨rfl, _, rfl, _, "tuple", S', _, _, rfl, rx, kit_tup _, fin _ (.refl _)⟩
    intro H1 s1 hD
    have eb : (List.range xs.length).map (fun _ => V.bl true) = ((List.range xs.length).map fun _ => true).map V.bl := by rw [List.map_map]; rfl
    rw [eb] at hD
    refine ⟨D, _, rfl, SqL.of hD, _, rfl, ?_⟩
    refine ite2 (fun c => absurd c (by simp)) (fun _ => ?_)
    refine ⟨_, rfl, a, xs, rfl, .inr (SqT.of (s1 _ _ ha)), fun L0 nL0 => ?_⟩
    have sL : Same H1 (upd H1 L0 (.lst xs)) := same_new nL0
    have hL : upd H1 L0 (.lst xs) L0 = some (.lst xs) := upd_same
    generalize upd H1 L0 (.lst xs) = H2 at *
    have s02 := s1.trans sL
    refine ⟨_, rfl, v, S, P, rfl, r.sm s02, ok, fun pa H3 ps s3 npa hpa rps => ⟨pa, rfl, ⟨_, SqL.of hpa⟩, fun DD nDD => ?_⟩⟩
    have lp := rps.length
    rw [List.length_map] at lp
    have s03 := s02.trans s3
    refine lc_it (walk_list (xs := ps)) (fun i H' => Same H3 H' ∧ ∃ acc, H' DD = some (.lst acc) ∧ acc.length ≤ i ∧ Reps [DD] H' acc ((((placesP P P.parts.length).take i).filter fun q => decide (q ∈ ls)).map stD)) ⟨same_new nDD, [], upd_same, Nat.zero_le _, .nil⟩ (fun i H' _ p => SqL.of (p.1 _ _ hpa)) ?_ ?_
    · rintro i x H6 H5 hi ⟨s5, acc, hD5, la, rA⟩ ⟨rfl, hx⟩
      have il : i < (placesP P P.parts.length).length := by omega
      obtain ⟨d, hd, rx⟩ := rps.get hx
      rw [List.getElem?_map, List.getElem?_eq_getElem il] at hd
      obtain rfl := Option.some.inj hd
      have tk : (placesP P P.parts.length).take (i + 1) = (placesP P P.parts.length).take i ++ [(placesP P P.parts.length)[i]] := by rw [List.take_succ, List.getElem?_eq_getElem il]; rfl
      generalize (placesP P P.parts.length)[i] = q at *
      refine ⟨rfl, _, rfl, _, rfl, stD q, ls.map stD, (rx.sm s5).dp _ _ rfl, (Rep.tup (s5 _ _ (s03 _ _ ha)) List.not_mem_nil ((rs.less fun _ z => absurd z List.not_mem_nil : Reps [] H xs _).sm (s03.trans s5)) : Rep [] H5 (.ref a) (.tuple (ls.map stD))).dp _ _ (noDict_sts ls), shaped_st q, shaped_stT ls, _, rfl, ?_⟩
      rw [any_st, tk, List.filter_append, List.map_append, List.filter_cons]
      refine ite2 (fun c => ?_) (fun c => ?_)
      · have bD : But [DD] H5 (upd H5 DD (.lst (acc ++ [x]))) := But.refl.upd List.mem_cons_self
        refine ⟨_, rfl, acc, hD5, by rw [sizeLine_eq]; omega, same_own s5 nDD, acc ++ [x], upd_same, by rw [List.length_append, List.length_singleton]; omega, ?_⟩
        rw [if_pos c]
        exact (rA.mv bD).app (.one ((Rep.avoid hD5 _ _ rfl (rx.sm s5)).mv bD))
      · refine ⟨s5, acc, hD5, by omega, ?_⟩
        rw [if_neg c]
        show Reps [DD] _ acc (_ ++ [])
        rw [List.append_nil]
        exact rA
    rintro H5 ⟨s5, acc, hD5, la, rA⟩
    rw [lp, List.take_length] at rA
    have e1 : (placesP P P.parts.length).filter (fun q => decide (q ∈ ls)) = ls := by
      conv => rhs; rw [← ef]
      refine List.filter_congr fun q hq => ?_
      rw [← ef, Bool.eq_iff_iff, decide_eq_true_eq, List.mem_filter]
      exact ⟨fun z => z.2, fun z => ⟨hq, z⟩⟩
    rw [e1] at rA
    refine ⟨stsD ls, stsD ls, (Rep.lst ((s3.trans s5) _ _ hL) List.not_mem_nil ((rs.less fun _ z => absurd z List.not_mem_nil : Reps [] H xs _).sm (s03.trans s5)) : Rep [] H5 (.ref L0) (stsD ls)).dp _ _ (noDict_sts _), (Rep.lst hD5 List.not_mem_nil (rA.less fun _ z => absurd z List.not_mem_nil) : Rep [] H5 (.ref DD) (stsD ls)).dp _ _ (noDict_sts _), shaped_sts _, shaped_sts _, ?_⟩
    rw [show PyData.eqv (stsD ls) (stsD ls) = true from eqv_sts_self ls]
    exact k _ (s03.trans s5)
end
end Lb

set_option Elab.async false
set_option linter.all false
set_option maxRecDepth 100000
set_option maxHeartbeats 4000000

namespace Lb
open PySem PySem.Spec PyProof.Rows L2
section
variable {P Pg : Program} {w : World} {K : PySem.W.Frag} {mg : Str → Option Value} {base : Heap} {A : Ad}
theorem in_named (s : Str) : inV (V.str s) [V.str "load", V.str "pass"] = decide (s = "load" ∨ s = "pass") := by
  have z := inV_strs s ["load", "pass"]
  rw [show ([V.str "load", V.str "pass"] : List V) = (["load", "pass"] : List Str).map V.str from rfl, z]
  simp
theorem named_word {r : Row} (h : r.word = "load" ∨ r.word = "pass") : (namedOf r).isSome = true := by
  cases r with
  | load p => rfl
  | pass m p o => rfl
  | give m ns b => exact absurd (show (("give" : Str) = "load" ∨ ("give" : Str) = "pass") from h) (by decide +kernel)
  | show_ ns b => exact absurd (show (("show" : Str) = "load" ∨ ("show" : Str) = "pass") from h) (by decide +kernel)
  | out => exact absurd (show (("out" : Str) = "load" ∨ ("out" : Str) = "pass") from h) (by decide +kernel)
  | late m p ns => exact absurd (show (("late" : Str) = "load" ∨ ("late" : Str) = "pass") from h) (by decide +kernel)
theorem load_word {r : Row} (h : r.word = "load") : ∃ n, r = .load n := by
  cases r with
  | load p => exact ⟨p, rfl⟩
  | pass m p o => exact absurd (show ("pass" : Str) = "load" from h) (by decide +kernel)
  | give m ns b => exact absurd (show ("give" : Str) = "load" from h) (by decide +kernel)
  | show_ ns b => exact absurd (show ("show" : Str) = "load" from h) (by decide +kernel)
  | out => exact absurd (show ("out" : Str) = "load" from h) (by decide +kernel)
  | late m p ns => exact absurd (show ("late" : Str) = "load" from h) (by decide +kernel)

def sp_law (K : PySem.W.Frag) : Sp := fun vs H Q _ => ∃ (a : Addr) (ns : List Int), vs = [.ref a] ∧ SqL K H a (ns.map V.int) ∧ ns.length ≤ 63 ∧ ∀ H', Q (.bl true) H'
theorem ok_law (T : Txt K w mg A) : FnOk Pg w K mg base CX0 20 A.f_law A.d_law ["script"] (sp_law K) := by
  refine T.F_law.ok sc_law (fun vs H Q E h => ?_) (fun cdv Ar outer s H vs Q E hr h => ?_)
  · obtain ⟨a, ns, rfl, hS, few, k⟩ := h
    rfl
  · obtain ⟨a, ns, rfl, hS, few, k⟩ := h
    refine ⟨_, PSs.nox ((pss_cons (ps_set (i := 1) sc_law.nd rfl (Or.inr rfl) (pe_call (ok_law_pool T) (hr.mono (by decide)) rfl T.m_law_pool T.F_law_pool.kp (b_law_pool T) .nil pass0 (pa_cons (pv 0) pa_nil)))
 (pss_cons (ps_set (i := 2) sc_law.nd rfl (Or.inl rfl) (pe_call (ok_law_options T) (hr.mono (by decide)) rfl T.m_law_options T.F_law_options.kp (b_law_options T) .nil pass0 (pa_cons (pv 1) pa_nil)))
 (pss_cons (ps_set (i := 3) sc_law.nd rfl (Or.inl rfl) (pe_callTy call_tuple_of (by rfl) T.ztuple (by decide +kernel) (pa_cons (pe_lc (own := [("word", 10)]) (g := (gName 10)) (tt := _) rfl sc_law.nd (pi_tup (pv 2)) (blkOk_by (N := N_law) (sc := defScope s_law) (by decide +kernel)) (fun _ _ _ _ _ => (pg_name (i := 10) sc_law.nd rfl (Or.inl rfl))) (fun _ _ _ _ _ => (pts_one (pt_cmpR op_eq (pe_call (ok_law_draw T) (hr.mono (by decide)) rfl T.m_law_draw T.F_law_draw.kp (b_law_draw T) .nil pass0 (pa_cons (pv 1) (pa_cons pe_int pa_nil))) pe_int (nomark _)))) (fun _ _ _ _ _ => (pv 10))) pa_nil)))
 (pss_cons (ps_set (i := 4) sc_law.nd rfl (Or.inr rfl) (pe_call (ok_law_program T) (hr.mono (by decide)) rfl T.m_law_program T.F_law_program.kp (b_law_program T) .nil pass0 (pa_cons (pv 1) (pa_cons pe_int (pa_cons pe_int (pa_cons pe_int (pa_cons pe_int (pa_cons pe_int pa_nil))))))))
 (pss_cons (ps_setLc (i := 5) (own := [("k", 11)]) (g := (gName 11)) (tt := _) rfl sc_law.nd rfl rfl (sw_true rfl rfl rfl (by decide +kernel)) (pi_range1 (by rfl) T.zrange (pa_cons (pe_callB call_len_seq (by rfl) T.zlen (by decide +kernel) (pa_cons (pe_ix ix_tup (pv 4) pe_int (fun _ _ => rfl)) pa_nil)) pa_nil)) (blkOk_by (N := N_law) (sc := defScope s_law) (by decide +kernel)) (fun _ _ _ _ _ => (pg_name (i := 11) sc_law.nd rfl (Or.inl rfl))) (fun _ _ _ _ _ => (pts_one (pt_cmpR (show OpR _ (compareOp .Eq) (rEqD K) from op_eqD hr.units) (pe_ix (show IxR _ (rIxT K) from ix_tup) (pe_ix (show IxR _ (rIxT K) from ix_tup) (pv 4) pe_int (fun _ _ => rfl)) (pv 11) (fun _ _ => rfl)) (pe_tup pa_nil) (nomark _)))) (fun _ _ _ _ _ => (pv 11)))
 (pss_cons (ps_set (i := 6) sc_law.nd rfl (Or.inl rfl) (pe_call (ok_shaken_lot T) (hr.mono (by decide)) rfl T.m_shaken_lot T.F_shaken_lot.kp (b_shaken_lot T) .nil pass0 (pa_cons (pv 4) (pa_cons (pv 3) pa_nil))))
 (pss_cons (ps_set (i := 7) sc_law.nd rfl (Or.inr rfl) (pe_call (ok_shaken_lot T) (hr.mono (by decide)) rfl T.m_shaken_lot T.F_shaken_lot.kp (b_shaken_lot T) .nil pass0 (pa_cons (pv 4) (pa_cons (pv 2) pa_nil))))
 (pss_cons (ps_if (PW.pt (pw_or (pt_not (pt_val (pe_call (ok_law_is_lot T) (hr.mono (by decide)) rfl T.m_law_is_lot T.F_law_is_lot.kp (b_law_is_lot T) .nil pass0 (pa_cons (pv 4) (pa_cons (pv 6) pa_nil))))) (pw_or1 (pt_not (pt_val (pe_call (ok_law_is_lot T) (hr.mono (by decide)) rfl T.m_law_is_lot T.F_law_is_lot.kp (b_law_is_lot T) .nil pass0 (pa_cons (pv 4) (pa_cons (pv 7) pa_nil)))))))) (pss_one (ps_ret pe_bl)) pss_nil)
 (pss_cons (ps_if (pt_not (pt_val (pe_callB (cr_all rfl) (by rfl) T.zall (by decide +kernel) (pa_cons (pe_lc (own := [("place", 8)]) (g := (gName 8)) (tt := tYes) rfl sc_law.nd (pi_tup (pv 6)) (blkOk_by (N := N_law) (sc := defScope s_law) (by decide +kernel)) (fun _ _ _ _ _ => (pg_name (i := 8) sc_law.nd rfl (Or.inl rfl))) (fun _ _ _ _ _ => pts_nil) (fun _ _ _ _ _ => (pe_cmpR (show OpR _ (compareOp .In) (rInTD K) from op_inTD (room65 hr)) (pv 8) (pv 7) rfl))) pa_nil)))) (pss_one (ps_ret pe_bl)) pss_nil)
 (pss_cons (ps_for PassesOwn.never rfl (pi_list (pe_call (ok_law_places T) (hr.mono (by decide)) rfl T.m_law_places T.F_law_places.kp (b_law_places T) .nil pass0 (pa_cons (pv 4) pa_nil))) (pg_name (i := 8) sc_law.nd rfl (Or.inl rfl)) (pss_cons (ps_set (i := 9) sc_law.nd rfl (Or.inl rfl) (pe_call (ok_law_at T) (hr.mono (by decide)) rfl T.m_law_at T.F_law_at.kp (b_law_at T) .nil pass0 (pa_cons (pv 4) (pa_cons (pv 8) pa_nil))))
 (pss_cons (ps_if (PW.pt (pw_and (pt_cmpR op_notIn_seq pe_str (pv 2) rfl) (pw_and (pt_cmpR op_in_seq (pe_ix ix_tup (pv 9) pe_int (fun _ _ => rfl)) (pe_lst (pa_cons pe_str (pa_cons pe_str pa_nil))) rfl) (pw_and1 (pt_cmpR (show OpR _ (compareOp .In) (rInTD K) from op_inTD (room65 hr)) (pv 8) (pv 7) rfl))))) (pss_one (ps_ret pe_bl)) pss_nil)
 (pss_one (ps_if (PW.pt (pw_and (pt_cmpR op_in_seq pe_str (pv 2) rfl) (pw_and (pt_cmpR op_eq (pe_ix ix_tup (pv 9) pe_int (fun _ _ => rfl)) pe_str (nomark _)) (pw_and (pt_cmpR op_in_seq (pe_ix ix_tup (pv 9) pe_int (fun _ _ => rfl)) (pv 5) rfl) (pw_and1 (pt_cmpR (show OpR _ (compareOp .NotIn) (rNotInTD K) from op_notInTD (room65 hr)) (pv 8) (pv 7) rfl)))))) (pss_one (ps_ret pe_bl)) pss_nil)))))
 (pss_one (ps_ret pe_bl))))))))))))), ?_⟩
    rw [show start N_law [.ref a] = [some (.ref a), none, none, none, none, none, none, none, none, none, none, none] from rfl]
    refine ⟨_, rfl, a, ns, rfl, hS, few, fun H1 l s1 nl hp1 => ?_⟩
    dsimp only [gName, List.set]
    refine ⟨_, rfl, l, 0, rfl, hp1, by decide, fun H2 x os b2 p2 sub rx => ?_⟩
    dsimp only [gName, List.set]
    obtain ⟨oa, xs, rfl, hoa, noa, rxs⟩ := rx.tupV
    obtain rfl := strs_of rxs
    have lo : os.length ≤ 4 := sub.length_le
    -- some
    refine ⟨_, rfl, oa, rfl, ⟨_, SqT.of hoa⟩, fun D nD => ?_⟩
    have Dl := p2.ne nD
    refine lc_it (walk_tup (xs := os.map V.str)) (fun i H' => But [l, D] H2 H' ∧ Pool (4 + i) l H' ∧ ∃ ss : List Str, ss.Sublist (os.take i) ∧ H' D = some (.lst (ss.map V.str))) ⟨But.refl.new nD, p2.new nD, [], List.nil_sublist _, upd_same⟩ (fun i H' _ q => SqT.of (q.1 _ _ (fun z => (List.mem_cons.mp z).elim (fun z => noa (by rw [z]; exact List.mem_singleton.mpr rfl)) fun z => ne_of_none hoa nD (List.mem_singleton.mp z)) hoa)) ?_ ?_
    · rintro i x H4 H3 hi ⟨b3, p3, ss, sub3, hD⟩ ⟨rfl, hx⟩
      rw [List.length_map] at hi
      rw [List.getElem?_map, List.getElem?_eq_getElem hi] at hx
      obtain rfl := Option.some.inj hx
      have tk : os.take (i + 1) = os.take i ++ [os[i]] := by rw [List.take_succ, List.getElem?_eq_getElem hi]; rfl
      have lo3 := sub3.length_le
      rw [List.length_take] at lo3
      generalize os[i] = s at *
      refine ⟨rfl, _, rfl, l, 4 + i, 2, rfl, p3, by omega, by decide, by decide, fun H3 w b4 p4 w0 w1 => ⟨rfl, _, rfl, ?_⟩⟩
      have hD4 := b4.at1 hD Dl
      have b24 : But [l, D] H2 H3 := b3.trans (b4.mono fun x z => by rw [List.mem_singleton.mp z]; exact List.mem_cons_self)
      refine ite2 (fun c => ?_) (fun c => ?_)
      · refine ⟨_, rfl, ss.map V.str, hD4, by rw [List.length_map, sizeLine_eq]; omega, b24.upd (List.mem_cons_of_mem _ List.mem_cons_self), (p4.away Dl).le (by omega), ss ++ [s], ?_, by rw [List.map_append]; exact upd_same⟩
        rw [tk]
        exact sub3.append (List.Sublist.refl _)
      · refine ⟨b24, p4.le (by omega), ss, ?_, hD4⟩
        rw [tk]
        exact sub3.trans (List.sublist_append_left _ _)
    rintro H3 ⟨b3, p3, ss, subS, hD⟩
    rw [List.length_map] at p3
    rw [List.length_map, List.take_length] at subS
    refine ⟨D, _, rfl, .inl ⟨SqL.of hD, fun t nt => ?_⟩⟩
    dsimp only [gName, List.set]
    have hoa3 := b3 _ _ (fun z => (List.mem_cons.mp z).elim (fun z => noa (by rw [z]; exact List.mem_singleton.mpr rfl)) fun z => ne_of_none hoa nD (List.mem_singleton.mp z)) hoa
    have st : Same H3 (upd H3 t (.tup (ss.map V.str))) := same_new nt
    have ht : upd H3 t (.tup (ss.map V.str)) t = some (.tup (ss.map V.str)) := upd_same
    have hoa4 := st _ _ hoa3
    have p4 := (p3.new (o := .tup (ss.map V.str)) nt).le (n := 8) (by omega)
    have tl := p3.ne nt
    have ol : oa ≠ l := fun z => noa (by rw [z]; exact List.mem_singleton.mpr rfl)
    generalize upd H3 t (.tup (ss.map V.str)) = H4 at *
    -- program
    refine ⟨_, rfl, l, 8, 4, 12, 2, 3, 2, rfl, p4, by decide, by decide, by decide, by decide, by decide, by decide, by decide, by decide, by decide, by decide, by decide, fun H5 v P b5 p5 rv0 ok _ some_ => ?_⟩
    have four := ok.four
    have rv : Rep [] H5 v P.d := rv0.less fun _ z => absurd z List.not_mem_nil
    have hoa5 := b5.at1 hoa4 ol
    have ht5 := b5.at1 ht tl
    clear rv0 p5 b5 p4 p3 st hoa4 ht hoa3 b3 hD nD Dl hoa b2 p2 nt
    dsimp only [gName, List.set]
    -- empty
    have rv5 := rv
    obtain ⟨a5, u0, u1, u2, u3, rfl, ha5, r0, r1, r2, r3⟩ := rv5.four
    obtain ⟨b5, xs5, rfl, hb5, _, rs5⟩ := r0.tupV
    have lx5 : xs5.length = P.parts.length := by rw [rs5.length, List.length_map]
    refine ⟨_, rfl, a5, _, 0, _, rfl, rfl, SqT.of ha5, atI_nat (j := 0) rfl, b5, xs5, rfl, .inr (SqT.of hb5), (P.parts.length : Int), by rw [lx5], by omega, by omega, fun E nE => ?_⟩
    refine lc_it walk_range (fun i H' => Same H5 H' ∧ H' E = some (.lst ((((List.range i).filter fun k => (rowsOfP P k).isEmpty)).map nV))) ⟨same_new nE, upd_same⟩ (fun _ _ _ _ => trivial) ?_ ?_
    · rintro i x H7 H6 hi ⟨s6, hE⟩ ⟨rfl, rfl⟩
      have hi : i < P.parts.length := by omega
      obtain ⟨y, hy, ry⟩ := rs5.at_ (i := i) (d := rowsD P.parts[i]) (by rw [List.getElem?_map, List.getElem?_eq_getElem hi]; rfl)
      have eR : P.parts[i] = rowsOfP P i := by unfold rowsOfP; rw [List.getD_eq_getElem?_getD, List.getElem?_eq_getElem hi]; rfl
      have rok := ok.rows _ (List.getElem_mem hi)
      rw [eR] at ry rok
      obtain ⟨ya, ys, rfl, _⟩ := ry.tupV
      refine ⟨rfl, _, rfl, a5, _, 0, _, rfl, rfl, SqT.of (s6 _ _ ha5), atI_nat (j := 0) rfl, _, rfl, b5, xs5, (i : Int), .ref ya, rfl, (by show V.int (0 + (i : Int)) = _; rw [Int.zero_add]), SqT.of (s6 _ _ hb5), atI_nat hy, Nat.zero_le _, fun z nz => ?_⟩
      have sz : Same H6 (upd H6 z (.tup [])) := same_new nz
      refine ⟨rowsD (rowsOfP P i), .tuple [], ((ry.sm s6).sm sz).dp _ _ (noDict_rows _), (Rep.tup upd_same List.not_mem_nil .nil : Rep [] _ (.ref z) (.tuple [])).dp _ _ rfl, shaped_rows rok, by decide +kernel, _, rfl, ?_⟩
      rw [eqv_rows0, List.range_succ, List.filter_append, List.map_append, List.filter_cons]
      have hE2 := sz _ _ hE
      refine ite2 (fun c => ?_) (fun c => ?_)
      · have lf := List.length_filter_le (fun k => (rowsOfP P k).isEmpty) (List.range i)
        rw [List.length_range] at lf
        refine ⟨_, rfl, _, hE2, by rw [List.length_map, sizeLine_eq]; omega, same_own (s6.trans sz) nE, ?_⟩
        rw [if_pos c, upd_same]
        show some (HO.lst (_ ++ [V.int (0 + (i : Int))])) = some (HO.lst (_ ++ [V.int (i : Int)]))
        rw [Int.zero_add]
      · refine ⟨s6.trans sz, ?_⟩
        rw [if_neg c]
        show _ = some (HO.lst (_ ++ []))
        rw [List.append_nil]
        exact hE2
    rintro H6 ⟨s6, hE⟩
    rw [Int.toNat_natCast] at hE
    dsimp only [gName, List.set]
    have hE : H6 E = some (.lst ((emptyL P).map nV)) := hE
    -- the lots
    have rS : ∀ {H' : Hp}, H' t = some (.tup (ss.map V.str)) → Rep [] H' (.ref t) (.tuple (ss.map PyData.str)) := fun h => .tup h List.not_mem_nil (strs_rep ss)
    have rO : ∀ {H' : Hp}, H' oa = some (.tup (os.map V.str)) → Rep [] H' (.ref oa) (.tuple (os.map PyData.str)) := fun h => .tup h List.not_mem_nil (strs_rep os)
    refine ⟨_, rfl, _, rfl, _, .ref t, P, ss, rfl, rv.sm s6, ok, rS (s6 _ _ ht5), subS.trans sub, fun H7 x1 s7 rx1 => ?_⟩
    dsimp only [gName, List.set]
    have s57 := s6.trans s7
    refine ⟨_, rfl, _, rfl, _, .ref oa, P, os, rfl, rv.sm s57, ok, rO (s57 _ _ hoa5), sub, fun H8 x2 s8 rx2 => ?_⟩
    dsimp only [gName, List.set]
    have s58 := s57.trans s8
    replace rx1 := rx1.sm s8
    have more : ∀ q ∈ leftL P ss (unsureL P), q ∈ leftL P os (unsureL P) := fun q hq => by
      obtain ⟨h1, h2⟩ := leftL_mem.mp hq
      refine leftL_mem.mpr ⟨h1, fun ⟨w, kw⟩ => h2 ?_⟩
      exact (kept_more (fun w hw => subS.subset hw) kw).1
    -- is_lot
    refine ⟨_, rfl, _, rfl, _, x1, [], [], P, _, rfl, rv.sm s58, ok, rx1, fun H9 s9 => ⟨_, rfl, ?_⟩⟩
    refine ite2 (fun c => absurd c (by decide)) (fun _ => ?_)
    refine ⟨_, rfl, _, rfl, _, x2, [], [], P, _, rfl, rv.sm (s58.trans s9), ok, rx2.sm s9, fun H10 s10 => ⟨_, rfl, ?_⟩⟩
    refine ite2 (fun c => absurd c (by decide)) (fun _ => ?_)
    have s510 := s58.trans (s9.trans s10)
    replace rx1 := rx1.sm (s9.trans s10)
    replace rx2 := rx2.sm (s9.trans s10)
    have rx1' := rx1
    obtain ⟨g1, gx1, rfl, hg1, _, rg1⟩ := rx1'.tupV
    have tot := placesP_len ok P.parts.length
    have lg1 : gx1.length ≤ 20 := by
      rw [rg1.length, List.length_map]
      have := List.length_filter_le (fun q => !keptB P ss (unsureL P) q) (placesP P P.parts.length)
      unfold leftL
      omega
    refine ⟨_, rfl, g1, rfl, ⟨_, SqT.of hg1⟩, fun D2 nD2 => ?_⟩
    refine lc_pure (walk_tup (xs := gx1)) nD2 (fun _ => V.bl true) (by rw [sizeLine_eq]; omega) (fun H' s' => SqT.of (s' _ _ hg1)) ?_ ?_
    · rintro i x H12 H11 F hi s11 ⟨rfl, hx⟩ fin
      obtain ⟨d, hd, rx⟩ := rg1.get hx
      have il : i < (leftL P ss (unsureL P)).length := by
        have := rg1.length
        rw [List.length_map] at this
        omega
      rw [List.getElem?_map, List.getElem?_eq_getElem il] at hd
      obtain rfl := Option.some.inj hd
      have hq := more _ (List.getElem_mem il)
      generalize (leftL P ss (unsureL P))[i] = q at *
      refine ⟨rfl, _, rfl, _, rfl, stD q, (leftL P os (unsureL P)).map stD, (rx.sm s11).dp _ _ rfl, (rx2.sm s11).dp _ _ (noDict_sts _), shaped_st q, shaped_stT _, ?_⟩
      rw [any_st, decide_eq_true hq]
      exact fin _ (.refl _)
    intro H11 s11 hD2
    have eb : (List.range gx1.length).map (fun _ => V.bl true) = ((List.range gx1.length).map fun _ => true).map V.bl := by rw [List.map_map]; rfl
    rw [eb] at hD2
    refine ⟨D2, _, rfl, SqL.of hD2, _, rfl, ?_⟩
    refine ite2 (fun c => absurd c (by simp)) (fun _ => ?_)
    have s511 := s510.trans s11
    refine ⟨_, rfl, _, [], P, rfl, rv.sm s511, ok, fun pa H12 ps s12 npa hpa rps => ⟨pa, rfl, ⟨_, SqL.of hpa⟩, ?_⟩⟩
    have lps := rps.length
    rw [List.length_map] at lps
    have s512 := s511.trans s12
    replace rx2 := rx2.sm (s11.trans s12)
    have hoa12 := s512 _ _ hoa5
    have hE12 := (s7.trans (s8.trans ((s9.trans s10).trans (s11.trans s12)))) _ _ hE
    refine for_it (walk_list (xs := ps)) (fun i σ H' => ∃ o8 o9 : Option V, σ = [some (.ref a), some (.ref l), some (.ref oa), some (.ref t), some (.ref a5), some (.ref E), some (.ref g1), some x2, o8, o9, none, none] ∧ Same H12 H') ⟨_, _, rfl, .refl _⟩ (fun i σ H' _ z => by obtain ⟨_, _, _, s⟩ := z; exact SqL.of (s _ _ hpa)) ?_ ?_
    rotate_left
    · rintro σ H' ⟨o8, o9, rfl, s⟩
      exact k _
    rintro i x σ H14 H13 hi ⟨o8, o9, rfl, s13⟩ ⟨rfl, hx⟩
    dsimp only [gName, List.set]
    have il : i < (placesP P P.parts.length).length := by omega
    obtain ⟨d, hd, rx⟩ := rps.get hx
    rw [List.getElem?_map, List.getElem?_eq_getElem il] at hd
    obtain rfl := Option.some.inj hd
    have hq := List.getElem_mem il
    generalize (placesP P P.parts.length)[i] = q at *
    have s513 := s512.trans s13
    refine ⟨_, rfl, _, rfl, _, x, [], [], P, q.1, q.2, rowP P q, rfl, rv.sm s513, rx.sm s13, row_of hq, fun y ry => ?_⟩
    dsimp only [gName, List.set]
    have okr := rowT_ok ok hq
    have inG : ∀ {H' : Hp}, Same H13 H' → ∀ {neg : Bool}, Dp K H' x (stD q) ∧ Dp K H' x2 (.tuple ((leftL P os (unsureL P)).map stD)) := fun s _ => ⟨((rx.sm s13).sm s).dp _ _ rfl, ((rx2.sm s13).sm s).dp _ _ (noDict_sts _)⟩
    generalize er : rowP P q = row at *
    obtain ⟨ra, rest, rfl, hra⟩ := row_hd ry
    refine cut_by (R := fun σ' H' => σ' = [some (.ref a), some (.ref l), some (.ref oa), some (.ref t), some (.ref a5), some (.ref E), some (.ref g1), some x2, some x, some (.ref ra), none, none] ∧ Same H13 H') ?_ ?_
    rotate_left
    · intro nx
      refine ⟨_, rfl, oa, _, rfl, .inr (SqT.of (s13 _ _ hoa12)), rfl, flat_strs os, _, rfl, ?_⟩
      rw [show (if true = true then !inV (V.str "loads") (os.map V.str) else inV (V.str "loads") (os.map V.str)) = !decide (("loads" : Str) ∈ os) from by rw [if_pos rfl, inV_strs]]
      refine ite2 (fun c => ?_) (fun c => iteF (nx _ _ ⟨rfl, .refl _⟩))
      have c : ("loads" : Str) ∉ os := by simpa using c
      refine ⟨_, rfl, ra, _, 0, _, rfl, rfl, SqT.of hra, atI_nat (j := 0) rfl, (by show 2 ≤ sizeLine; decide), fun t2 nt2 => ⟨t2, _, rfl, .inl (SqL.of upd_same), rfl, rfl, _, rfl, ?_⟩⟩
      have st2 : Same H13 (upd H13 t2 (.lst [V.str "load", V.str "pass"])) := same_new nt2
      rw [show (if false = true then !inV (V.str row.word) [V.str "load", V.str "pass"] else inV (V.str row.word) [V.str "load", V.str "pass"]) = decide (row.word = "load" ∨ row.word = "pass") from in_named _]
      refine ite2 (fun c2 => ?_) (fun c2 => iteF (nx _ _ ⟨rfl, st2⟩))
      refine ⟨_, rfl, _, rfl, stD q, (leftL P os (unsureL P)).map stD, (inG st2 (neg := true)).1, (inG st2 (neg := true)).2, shaped_st q, shaped_stT _, _, rfl, ?_⟩
      rw [any_st]
      refine ite2 (fun c3 => ?_) (fun c3 => nx _ _ ⟨rfl, st2⟩)
      have hn : (namedOf (rowP P q)).isSome = true := by
        rw [er]
        exact named_word (of_decide_eq_true c2)
      exact absurd ⟨_, kept_loads c hq hn⟩ (leftL_mem.mp (of_decide_eq_true c3)).2
    rintro σ' H14 ⟨rfl, s14⟩
    refine ⟨_, rfl, oa, _, rfl, .inr (SqT.of ((s13.trans s14) _ _ hoa12)), rfl, flat_strs os, _, rfl, ?_⟩
    rw [show (if false = true then !inV (V.str "loads") (os.map V.str) else inV (V.str "loads") (os.map V.str)) = decide (("loads" : Str) ∈ os) from inV_strs _ _]
    refine ite2 (fun c => ?_) (fun c => iteF ⟨_, _, rfl, s13.trans s14⟩)
    have c : ("loads" : Str) ∈ os := of_decide_eq_true c
    refine ⟨_, rfl, ra, _, 0, _, rfl, rfl, SqT.of (s14 _ _ hra), atI_nat (j := 0) (v := V.str row.word) rfl, rfl, _, rfl, ?_⟩
    refine ite2 (fun c2 => ?_) (fun c2 => iteF ⟨_, _, rfl, s13.trans s14⟩)
    obtain ⟨n, rfl⟩ := load_word (V.str.inj (of_decide_eq_true c2))
    obtain ⟨rb, z0, z1, e1, hrb, rz0, rz1⟩ := Rep.two (show Rep [] H13 (.ref ra) (.tuple [.str "load", .int n]) from ry)
    obtain rfl := V.ref.inj e1
    obtain rfl := rz1.intV
    have n0 : ((n.toNat : Nat) : Int) = n := Int.toNat_of_nonneg okr.1
    refine ⟨_, rfl, ra, _, 1, _, rfl, rfl, SqT.of (s14 _ _ hrb), atI_nat (j := 1) rfl, _, rfl, E, _, rfl, .inl (SqL.of ((s13.trans s14) _ _ hE12)), rfl, flat_nats _, _, rfl, ?_⟩
    rw [show (if false = true then !inV (V.int n) ((emptyL P).map nV) else inV (V.int n) ((emptyL P).map nV)) = decide (n.toNat ∈ emptyL P) from by rw [if_neg (by decide), ← inV_nat]; show inV (V.int n) _ = inV (V.int (n.toNat : Int)) _; rw [n0]]
    refine ite2 (fun c3 => ?_) (fun c3 => iteF ⟨_, _, rfl, s13.trans s14⟩)
    refine ⟨_, rfl, _, rfl, stD q, (leftL P os (unsureL P)).map stD, (inG s14 (neg := true)).1, (inG s14 (neg := true)).2, shaped_st q, shaped_stT _, _, rfl, ?_⟩
    rw [any_st]
    refine ite2 (fun c4 => ?_) (fun c4 => ⟨_, _, rfl, s13.trans s14⟩)
    have n4 : q ∉ leftL P os (unsureL P) := by simpa using c4
    exact absurd (leftL_mem.mpr ⟨hq, fun ⟨w, kw⟩ => kept_empty c (fun _ h => unsure_give h) er (emptyL_mem.mp (of_decide_eq_true c3)).2 w kw⟩) n4
end
end Lb

set_option Elab.async false
set_option linter.all false
set_option maxRecDepth 100000
set_option maxHeartbeats 0
namespace Lb
open PySem PySem.Spec PyProof.Rows L2
/-! the top: what it has bound -/
def df_is_integer : He.DefD := ⟨("is_integer", none), "is_integer", "is_integer", defArgs s_is_integer, defBody s_is_integer, defScope s_is_integer, [], []⟩
def df_is_number : He.DefD := ⟨("is_number", none), "is_number", "is_number", defArgs s_is_number, defBody s_is_number, defScope s_is_number, [], []⟩
def df_is_name : He.DefD := ⟨("is_name", none), "is_name", "is_name", defArgs s_is_name, defBody s_is_name, defScope s_is_name, [], []⟩
def df_is_tuple : He.DefD := ⟨("is_tuple", none), "is_tuple", "is_tuple", defArgs s_is_tuple, defBody s_is_tuple, defScope s_is_tuple, [], []⟩
def df_is_ascending : He.DefD := ⟨("is_ascending", none), "is_ascending", "is_ascending", defArgs s_is_ascending, defBody s_is_ascending, defScope s_is_ascending, [], []⟩
def df_is_need : He.DefD := ⟨("is_need", none), "is_need", "is_need", defArgs s_is_need, defBody s_is_need, defScope s_is_need, [], []⟩
def df_are_needs : He.DefD := ⟨("are_needs", none), "are_needs", "are_needs", defArgs s_are_needs, defBody s_are_needs, defScope s_are_needs, [], []⟩
def df_starts_with_word : He.DefD := ⟨("starts_with_word", none), "starts_with_word", "starts_with_word", defArgs s_starts_with_word, defBody s_starts_with_word, defScope s_starts_with_word, [], []⟩
def df_is_row : He.DefD := ⟨("is_row", none), "is_row", "is_row", defArgs s_is_row, defBody s_is_row, defScope s_is_row, [], []⟩
def df_is_give : He.DefD := ⟨("is_give", none), "is_give", "is_give", defArgs s_is_give, defBody s_is_give, defScope s_is_give, [], []⟩
def df_is_late : He.DefD := ⟨("is_late", none), "is_late", "is_late", defArgs s_is_late, defBody s_is_late, defScope s_is_late, [], []⟩
def df_are_parts : He.DefD := ⟨("are_parts", none), "are_parts", "are_parts", defArgs s_are_parts, defBody s_are_parts, defScope s_are_parts, [], []⟩
def df_are_marks : He.DefD := ⟨("are_marks", none), "are_marks", "are_marks", defArgs s_are_marks, defBody s_are_marks, defScope s_are_marks, [], []⟩
def df_are_entries : He.DefD := ⟨("are_entries", none), "are_entries", "are_entries", defArgs s_are_entries, defBody s_are_entries, defScope s_are_entries, [], []⟩
def df_are_opens : He.DefD := ⟨("are_opens", none), "are_opens", "are_opens", defArgs s_are_opens, defBody s_are_opens, defScope s_are_opens, [], []⟩
def df_is_program : He.DefD := ⟨("is_program", none), "is_program", "is_program", defArgs s_is_program, defBody s_is_program, defScope s_is_program, [], []⟩
def df_demand_program : He.DefD := ⟨("demand_program", none), "demand_program", "demand_program", defArgs s_demand_program, defBody s_demand_program, defScope s_demand_program, [], []⟩
def df_is_place : He.DefD := ⟨("is_place", none), "is_place", "is_place", defArgs s_is_place, defBody s_is_place, defScope s_is_place, [], []⟩
def df_demand_place : He.DefD := ⟨("demand_place", none), "demand_place", "demand_place", defArgs s_demand_place, defBody s_demand_place, defScope s_demand_place, [], []⟩
def df_row_at : He.DefD := ⟨("row_at", none), "row_at", "row_at", defArgs s_row_at, defBody s_row_at, defScope s_row_at, [], []⟩
def df_is_risky : He.DefD := ⟨("is_risky", none), "is_risky", "is_risky", defArgs s_is_risky, defBody s_is_risky, defScope s_is_risky, [], []⟩
def df_needs_of : He.DefD := ⟨("needs_of", none), "needs_of", "needs_of", defArgs s_needs_of, defBody s_needs_of, defScope s_needs_of, [], []⟩
def df_is_loading : He.DefD := ⟨("is_loading", none), "is_loading", "is_loading", defArgs s_is_loading, defBody s_is_loading, defScope s_is_loading, [], []⟩
def df_part_named : He.DefD := ⟨("part_named", none), "part_named", "part_named", defArgs s_part_named, defBody s_part_named, defScope s_part_named, [], []⟩
def df_gives_name : He.DefD := ⟨("gives_name", none), "gives_name", "gives_name", defArgs s_gives_name, defBody s_gives_name, defScope s_gives_name, [], []⟩
def df_givers_of : He.DefD := ⟨("givers_of", none), "givers_of", "givers_of", defArgs s_givers_of, defBody s_givers_of, defScope s_givers_of, [], []⟩
def df_all_rows : He.DefD := ⟨("all_rows", none), "all_rows", "all_rows", defArgs s_all_rows, defBody s_all_rows, defScope s_all_rows, [], []⟩
def df_doors_of : He.DefD := ⟨("doors_of", none), "doors_of", "doors_of", defArgs s_doors_of, defBody s_doors_of, defScope s_doors_of, [], []⟩
def df_links_of : He.DefD := ⟨("links_of", none), "links_of", "links_of", defArgs s_links_of, defBody s_links_of, defScope s_links_of, [], []⟩
def df_coming_links_of : He.DefD := ⟨("coming_links_of", none), "coming_links_of", "coming_links_of", defArgs s_coming_links_of, defBody s_coming_links_of, defScope s_coming_links_of, [], []⟩
def df_parts_behind : He.DefD := ⟨("parts_behind", none), "parts_behind", "parts_behind", defArgs s_parts_behind, defBody s_parts_behind, defScope s_parts_behind, [], []⟩
def df_ready_parts : He.DefD := ⟨("ready_parts", none), "ready_parts", "ready_parts", defArgs s_ready_parts, defBody s_ready_parts, defScope s_ready_parts, [], []⟩
def df_ways_to_ready_parts : He.DefD := ⟨("ways_to_ready_parts", none), "ways_to_ready_parts", "ways_to_ready_parts", defArgs s_ways_to_ready_parts, defBody s_ways_to_ready_parts, defScope s_ways_to_ready_parts, [], []⟩
def df_parts_that_stay_away : He.DefD := ⟨("parts_that_stay_away", none), "parts_that_stay_away", "parts_that_stay_away", defArgs s_parts_that_stay_away, defBody s_parts_that_stay_away, defScope s_parts_that_stay_away, [], []⟩
def df_sure_names : He.DefD := ⟨("sure_names", none), "sure_names", "sure_names", defArgs s_sure_names, defBody s_sure_names, defScope s_sure_names, [], []⟩
def df_is_sure : He.DefD := ⟨("is_sure", none), "is_sure", "is_sure", defArgs s_is_sure, defBody s_is_sure, defScope s_is_sure, [], []⟩
def df_is_done_before : He.DefD := ⟨("is_done_before", none), "is_done_before", "is_done_before", defArgs s_is_done_before, defBody s_is_done_before, defScope s_is_done_before, [], []⟩
def df_is_options : He.DefD := ⟨("is_options", none), "is_options", "is_options", defArgs s_is_options, defBody s_is_options, defScope s_is_options, [], []⟩
def df_demand_options : He.DefD := ⟨("demand_options", none), "demand_options", "demand_options", defArgs s_demand_options, defBody s_demand_options, defScope s_demand_options, [], []⟩
def df_Tool___init__ : He.DefD := ⟨("Tool", some "__init__"), "__init__", "Tool.__init__", defArgs s_Tool___init__, defBody s_Tool___init__, defScope s_Tool___init__, [], []⟩
def df_Tool_asks : He.DefD := ⟨("Tool", some "asks"), "asks", "Tool.asks", defArgs s_Tool_asks, defBody s_Tool_asks, defScope s_Tool_asks, [], []⟩
def df_Tool_waits : He.DefD := ⟨("Tool", some "waits"), "waits", "Tool.waits", defArgs s_Tool_waits, defBody s_Tool_waits, defScope s_Tool_waits, [], []⟩
def df_Tool_first_links : He.DefD := ⟨("Tool", some "first_links"), "first_links", "Tool.first_links", defArgs s_Tool_first_links, defBody s_Tool_first_links, defScope s_Tool_first_links, [], []⟩
def df_Tool_links_behind : He.DefD := ⟨("Tool", some "links_behind"), "links_behind", "Tool.links_behind", defArgs s_Tool_links_behind, defBody s_Tool_links_behind, defScope s_Tool_links_behind, [], []⟩
def df_Tool_wants : He.DefD := ⟨("Tool", some "wants"), "wants", "Tool.wants", defArgs s_Tool_wants, defBody s_Tool_wants, defScope s_Tool_wants, [], []⟩
def df_Tool_loads : He.DefD := ⟨("Tool", some "loads"), "loads", "Tool.loads", defArgs s_Tool_loads, defBody s_Tool_loads, defScope s_Tool_loads, [], []⟩
def df_Tool_kept_ways : He.DefD := ⟨("Tool", some "kept_ways"), "kept_ways", "Tool.kept_ways", defArgs s_Tool_kept_ways, defBody s_Tool_kept_ways, defScope s_Tool_kept_ways, [], []⟩
def df_give_rows : He.DefD := ⟨("give_rows", none), "give_rows", "give_rows", defArgs s_give_rows, defBody s_give_rows, defScope s_give_rows, [], []⟩
def df_unsure_rows : He.DefD := ⟨("unsure_rows", none), "unsure_rows", "unsure_rows", defArgs s_unsure_rows, defBody s_unsure_rows, defScope s_unsure_rows, [], []⟩
def df_left_out : He.DefD := ⟨("left_out", none), "left_out", "left_out", defArgs s_left_out, defBody s_left_out, defScope s_left_out, [], []⟩
def df_shaken_lot : He.DefD := ⟨("shaken_lot", none), "shaken_lot", "shaken_lot", defArgs s_shaken_lot, defBody s_shaken_lot, defScope s_shaken_lot, [], []⟩
def df_law_pool : He.DefD := ⟨("_law_pool", none), "_law_pool", "_law_pool", defArgs s_law_pool, defBody s_law_pool, defScope s_law_pool, [], []⟩
def df_law_draw : He.DefD := ⟨("_law_draw", none), "_law_draw", "_law_draw", defArgs s_law_draw, defBody s_law_draw, defScope s_law_draw, [], []⟩
def df_law_subset : He.DefD := ⟨("_law_subset", none), "_law_subset", "_law_subset", defArgs s_law_subset, defBody s_law_subset, defScope s_law_subset, [], []⟩
def df_law_need : He.DefD := ⟨("_law_need", none), "_law_need", "_law_need", defArgs s_law_need, defBody s_law_need, defScope s_law_need, [], []⟩
def df_law_needs : He.DefD := ⟨("_law_needs", none), "_law_needs", "_law_needs", defArgs s_law_needs, defBody s_law_needs, defScope s_law_needs, [], []⟩
def df_law_words : He.DefD := ⟨("_law_words", none), "_law_words", "_law_words", defArgs s_law_words, defBody s_law_words, defScope s_law_words, [], []⟩
def df_law_with_show : He.DefD := ⟨("_law_with_show", none), "_law_with_show", "_law_with_show", defArgs s_law_with_show, defBody s_law_with_show, defScope s_law_with_show, [], []⟩
def df_law_row : He.DefD := ⟨("_law_row", none), "_law_row", "_law_row", defArgs s_law_row, defBody s_law_row, defScope s_law_row, [], []⟩
def df_law_program : He.DefD := ⟨("_law_program", none), "_law_program", "_law_program", defArgs s_law_program, defBody s_law_program, defScope s_law_program, [], []⟩
def df_law_places : He.DefD := ⟨("_law_places", none), "_law_places", "_law_places", defArgs s_law_places, defBody s_law_places, defScope s_law_places, [], []⟩
def df_law_at : He.DefD := ⟨("_law_at", none), "_law_at", "_law_at", defArgs s_law_at, defBody s_law_at, defScope s_law_at, [], []⟩
def df_law_options : He.DefD := ⟨("_law_options", none), "_law_options", "_law_options", defArgs s_law_options, defBody s_law_options, defScope s_law_options, [], []⟩
def df_law_is_lot : He.DefD := ⟨("_law_is_lot", none), "_law_is_lot", "_law_is_lot", defArgs s_law_is_lot, defBody s_law_is_lot, defScope s_law_is_lot, [], []⟩
def df_law : He.DefD := ⟨("law", none), "law", "law", defArgs s_law, defBody s_law, defScope s_law, [], []⟩
def fns : List He.DefD := [df_is_integer, df_is_number, df_is_name, df_is_tuple, df_is_ascending, df_is_need, df_are_needs, df_starts_with_word, df_is_row, df_is_give, df_is_late, df_are_parts, df_are_marks, df_are_entries, df_are_opens, df_is_program, df_demand_program, df_is_place, df_demand_place, df_row_at, df_is_risky, df_needs_of, df_is_loading, df_part_named, df_gives_name, df_givers_of, df_all_rows, df_doors_of, df_links_of, df_coming_links_of, df_parts_behind, df_ready_parts, df_ways_to_ready_parts, df_parts_that_stay_away, df_sure_names, df_is_sure, df_is_done_before, df_is_options, df_demand_options, df_Tool___init__, df_Tool_asks, df_Tool_waits, df_Tool_first_links, df_Tool_links_behind, df_Tool_wants, df_Tool_loads, df_Tool_kept_ways, df_give_rows, df_unsure_rows, df_left_out, df_shaken_lot, df_law_pool, df_law_draw, df_law_subset, df_law_need, df_law_needs, df_law_words, df_law_with_show, df_law_row, df_law_program, df_law_places, df_law_at, df_law_options, df_law_is_lot, df_law]
def fa0 : List He.Fa := [.glo "is_integer", .glo "is_number", .glo "is_name", .glo "is_tuple", .glo "is_ascending", .glo "is_need", .glo "are_needs", .glo "starts_with_word", .glo "is_row", .glo "is_give", .glo "is_late", .glo "are_parts", .glo "are_marks", .glo "are_entries", .glo "are_opens", .glo "is_program", .glo "demand_program", .glo "is_place", .glo "demand_place", .glo "row_at"]
def fa1 : List He.Fa := [.glo "is_risky", .glo "needs_of", .glo "is_loading", .glo "part_named", .glo "gives_name", .glo "givers_of", .glo "all_rows", .glo "doors_of", .glo "links_of", .glo "coming_links_of", .glo "parts_behind", .glo "ready_parts", .glo "ways_to_ready_parts", .glo "parts_that_stay_away", .glo "sure_names", .glo "is_sure", .glo "is_done_before", .glo "is_options", .glo "demand_options", .glo "give_rows"]
def fa2 : List He.Fa := [.glo "unsure_rows", .glo "left_out", .glo "shaken_lot", .glo "_law_pool", .glo "_law_draw", .glo "_law_subset", .glo "_law_need", .glo "_law_needs", .glo "_law_words", .glo "_law_with_show", .glo "_law_row", .glo "_law_program", .glo "_law_places", .glo "_law_at", .glo "_law_options", .glo "_law_is_lot", .glo "law", .glo "Tool", .cls "Tool", .mkr "Tool"]
def fa3 : List He.Fa := [.noat "Tool" "source", .noat "Tool" "options", .noat "Tool" "places", .noat "Tool" "behind", .noat "Tool" "asked", .meth "Tool" "asks", .meth "Tool" "waits", .meth "Tool" "first_links", .meth "Tool" "links_behind", .meth "Tool" "wants", .meth "Tool" "loads", .meth "Tool" "kept_ways", .free "len", .free "int", .free "abs", .free "isinstance", .free "range", .free "list", .free "tuple", .free "sorted"]
def fa4 : List He.Fa := [.free "set", .free "min", .free "all", .free "any", .free "zip", .free "enumerate", .free "bool", .free "str", .free "map", .free "reversed", .int "MOST_ENTRIES" (3), .int "MOST_NEEDS" (2), .int "MOST_NEEDS_OF_GIVE" (1), .int "MOST_OPENS" (4), .int "MOST_OUTS" (2), .int "MOST_PARTS" (4), .int "MOST_ROWS" (12), .int "MOST_ROWS_OF_PART" (5), .int "NO_PART" (-1), .glo "NAMES"]
def fa5 : List He.Fa := [.glo "OPTIONS", .glo "NEEDS_AT"]
def fas : List He.Fa := fa0 ++ fa1 ++ fa2 ++ fa3 ++ fa4 ++ fa5
def tbs : List (Str × List He.Dv) := [("NAMES", [.str "a", .str "b", .str "c", .str "d"]), ("OPTIONS", [.str "loads", .str "lookups", .str "marks", .str "risks"])]
def dts : List He.Tab := [(fun K => He.ga K "NEEDS_AT", ["give", "show", "late"])]
def dvs : List (Str × List (Str × He.Dv)) := [("NEEDS_AT", [("give", .int 2), ("show", .int 1), ("late", .int 3)])]
def dms : List (Str × List Str) := [("NEEDS_AT", ["load", "pass", "out"])]
def missB (K : PySem.W.Frag) (a : Addr) (x : Str) : Bool := match PySem.W.nsIn K a x with
  | some none => true
  | _ => false
theorem missB_ok {K : PySem.W.Frag} {a : Addr} {x : Str} (h : missB K a x = true) : PySem.W.nsIn K a x = some none := by
  unfold missB at h
  cases e : PySem.W.nsIn K a x with
  | none => rw [e] at h; cases h
  | some r => cases r with
    | none => rfl
    | some u => rw [e] at h; cases h
def moreB (K : PySem.W.Frag) : Bool := (tbs.all fun q => He.tupB K q.1 q.2) && ((dvs.all fun q => He.valsB K (He.ga K q.1) q.2) && (dms.all fun q => q.2.all fun x => missB K (He.ga K q.1) x))
theorem more_ok {K : PySem.W.Frag} (h : moreB K = true) : (tbs.all fun q => He.tupB K q.1 q.2) = true ∧ (dvs.all fun q => He.valsB K (He.ga K q.1) q.2) = true ∧ (dms.all fun q => q.2.all fun x => missB K (He.ga K q.1) x) = true := by
  unfold moreB at h
  rw [Bool.and_eq_true, Bool.and_eq_true] at h
  exact h
/-- what is looked at: names, defs and tables -/
def seenOf (g : Addr → Option Obj) : He.AlT × Bool := (He.obsTG 4 fas fns dts g, moreB (He.frG g (He.asD g 4)))
def hookOf : PySem.W.Hook where
  α := He.AlT × Bool
  obs := fun s => seenOf s.heap.get?
  val := fun w => (He.valT fns dts w, true)
  says := fun w h => ∃ K : PySem.W.Frag, K.In h ∧ He.SaysT fas fns dts w K ∧ moreB K = true
  of := fun _ _ e => ⟨_, He.frG_in, congrArg Prod.fst e, congrArg Prod.snd e⟩
  keeps := fun _ _ _ y k => y.elim fun K c => ⟨K, c.1.keeps k, c.2⟩
def seenT (s : PySem.W.SharedT) : He.AlT × Bool := seenOf (HandSHeadRun.getT s)
theorem seenT_eq (s : PySem.W.SharedT) : seenT s = hookOf.obs s.abs := by
  have e : HandSHeadRun.getT s = s.abs.heap.get? := funext (HandSHeadRun.getT_eq s)
  show seenOf (HandSHeadRun.getT s) = seenOf s.abs.heap.get?
  rw [e]
def others0 : List Str := ["BundleError", "BadProgram", "BadPlace", "BadOptions", "NAMES", "MOST_PARTS", "MOST_ROWS_OF_PART", "MOST_ROWS", "MOST_OUTS", "MOST_ENTRIES", "MOST_OPENS", "MOST_NEEDS_OF_GIVE", "MOST_NEEDS", "NO_PART", "NEEDS_AT", "is_integer", "is_number", "is_name", "is_tuple", "is_ascending", "is_need", "are_needs", "starts_with_word", "is_row", "is_give", "is_late", "are_parts", "are_marks", "are_entries", "are_opens"]
def others1 : List Str := (["is_program", "demand_program", "is_place", "demand_place", "row_at", "is_risky", "needs_of", "is_loading", "part_named", "gives_name", "givers_of", "all_rows", "doors_of", "links_of", "coming_links_of", "parts_behind", "ready_parts", "ways_to_ready_parts", "parts_that_stay_away", "sure_names", "is_sure", "is_done_before", "OPTIONS", "is_options", "demand_options", "Tool", "give_rows", "unsure_rows", "left_out", "shaken_lot"] : List Str) ++ (["_law_pool", "_law_draw", "_law_subset", "_law_need", "_law_needs", "_law_words", "_law_with_show", "_law_row", "_law_program", "_law_places", "_law_at", "_law_options", "_law_is_lot"] : List Str)
abbrev theRow : PySem.W.OpenRow := PySem.W.OpenLaw.row PySem.Challenge.rw_leanbundle_k75_whole_more_options_leave
theorem theRunF (w : World) : HandSHeadRun.RunEq theRow (PySem.W.view theRow.prog [79]) hookOf seenT 8000 (others0 ++ others1) (w.withFollow "special-get-raises" false) := by
  intro os
  kernel_rfl
theorem theRunT (w : World) : HandSHeadRun.RunEq theRow (PySem.W.view theRow.prog [79]) hookOf seenT 8000 (others0 ++ others1) (w.withFollow "special-get-raises" true) := by
  intro os
  kernel_rfl
theorem theRun (w : World) : HandSHeadRun.RunEq theRow (PySem.W.view theRow.prog [79]) hookOf seenT 8000 (others0 ++ others1) w := PySem.W.byRow2 "special-get-raises" (P := fun w => HandSHeadRun.RunEq theRow (PySem.W.view theRow.prog [79]) hookOf seenT 8000 (others0 ++ others1) w) theRunF theRunT w
theorem theFacts {P : Program} {w : World} {K : PySem.W.Frag} {h : Heap} {mg : Str → Option Value} {f : Addr} (X : K.In h) (G : h.Ns mainGlobals mg) (hfa : mg ("law" : Str) = some (.ref f)) (cw : He.SaysT fas fns dts w K) (cm : moreB K = true) :
    ∃ fd : FuncData, (∀ (s : Shared) (v : Value), BindsTo s fd ⟨[v], []⟩ [("script", v)]) ∧ ∀ base : Heap, K.In base → base.Ns mainGlobals mg → FnOk P w K mg base CX0 20 f fd ["script"] (sp_law K) := by
  have c := cw.d
  obtain ⟨ct, cv, cn⟩ := more_ok cm
  obtain ⟨d_is_integer, F_is_integer⟩ := c.def_ 0 (d := df_is_integer) rfl
  obtain ⟨d_is_number, F_is_number⟩ := c.def_ 1 (d := df_is_number) rfl
  obtain ⟨d_is_name, F_is_name⟩ := c.def_ 2 (d := df_is_name) rfl
  obtain ⟨d_is_tuple, F_is_tuple⟩ := c.def_ 3 (d := df_is_tuple) rfl
  obtain ⟨d_is_ascending, F_is_ascending⟩ := c.def_ 4 (d := df_is_ascending) rfl
  obtain ⟨d_is_need, F_is_need⟩ := c.def_ 5 (d := df_is_need) rfl
  obtain ⟨d_are_needs, F_are_needs⟩ := c.def_ 6 (d := df_are_needs) rfl
  obtain ⟨d_starts_with_word, F_starts_with_word⟩ := c.def_ 7 (d := df_starts_with_word) rfl
  obtain ⟨d_is_row, F_is_row⟩ := c.def_ 8 (d := df_is_row) rfl
  obtain ⟨d_is_give, F_is_give⟩ := c.def_ 9 (d := df_is_give) rfl
  obtain ⟨d_is_late, F_is_late⟩ := c.def_ 10 (d := df_is_late) rfl
  obtain ⟨d_are_parts, F_are_parts⟩ := c.def_ 11 (d := df_are_parts) rfl
  obtain ⟨d_are_marks, F_are_marks⟩ := c.def_ 12 (d := df_are_marks) rfl
  obtain ⟨d_are_entries, F_are_entries⟩ := c.def_ 13 (d := df_are_entries) rfl
  obtain ⟨d_are_opens, F_are_opens⟩ := c.def_ 14 (d := df_are_opens) rfl
  obtain ⟨d_is_program, F_is_program⟩ := c.def_ 15 (d := df_is_program) rfl
  obtain ⟨d_demand_program, F_demand_program⟩ := c.def_ 16 (d := df_demand_program) rfl
  obtain ⟨d_is_place, F_is_place⟩ := c.def_ 17 (d := df_is_place) rfl
  obtain ⟨d_demand_place, F_demand_place⟩ := c.def_ 18 (d := df_demand_place) rfl
  obtain ⟨d_row_at, F_row_at⟩ := c.def_ 19 (d := df_row_at) rfl
  obtain ⟨d_is_risky, F_is_risky⟩ := c.def_ 20 (d := df_is_risky) rfl
  obtain ⟨d_needs_of, F_needs_of⟩ := c.def_ 21 (d := df_needs_of) rfl
  obtain ⟨d_is_loading, F_is_loading⟩ := c.def_ 22 (d := df_is_loading) rfl
  obtain ⟨d_part_named, F_part_named⟩ := c.def_ 23 (d := df_part_named) rfl
  obtain ⟨d_gives_name, F_gives_name⟩ := c.def_ 24 (d := df_gives_name) rfl
  obtain ⟨d_givers_of, F_givers_of⟩ := c.def_ 25 (d := df_givers_of) rfl
  obtain ⟨d_all_rows, F_all_rows⟩ := c.def_ 26 (d := df_all_rows) rfl
  obtain ⟨d_doors_of, F_doors_of⟩ := c.def_ 27 (d := df_doors_of) rfl
  obtain ⟨d_links_of, F_links_of⟩ := c.def_ 28 (d := df_links_of) rfl
  obtain ⟨d_coming_links_of, F_coming_links_of⟩ := c.def_ 29 (d := df_coming_links_of) rfl
  obtain ⟨d_parts_behind, F_parts_behind⟩ := c.def_ 30 (d := df_parts_behind) rfl
  obtain ⟨d_ready_parts, F_ready_parts⟩ := c.def_ 31 (d := df_ready_parts) rfl
  obtain ⟨d_ways_to_ready_parts, F_ways_to_ready_parts⟩ := c.def_ 32 (d := df_ways_to_ready_parts) rfl
  obtain ⟨d_parts_that_stay_away, F_parts_that_stay_away⟩ := c.def_ 33 (d := df_parts_that_stay_away) rfl
  obtain ⟨d_sure_names, F_sure_names⟩ := c.def_ 34 (d := df_sure_names) rfl
  obtain ⟨d_is_sure, F_is_sure⟩ := c.def_ 35 (d := df_is_sure) rfl
  obtain ⟨d_is_done_before, F_is_done_before⟩ := c.def_ 36 (d := df_is_done_before) rfl
  obtain ⟨d_is_options, F_is_options⟩ := c.def_ 37 (d := df_is_options) rfl
  obtain ⟨d_demand_options, F_demand_options⟩ := c.def_ 38 (d := df_demand_options) rfl
  obtain ⟨d_Tool___init__, F_Tool___init__⟩ := c.def_ 39 (d := df_Tool___init__) rfl
  obtain ⟨d_Tool_asks, F_Tool_asks⟩ := c.def_ 40 (d := df_Tool_asks) rfl
  obtain ⟨d_Tool_waits, F_Tool_waits⟩ := c.def_ 41 (d := df_Tool_waits) rfl
  obtain ⟨d_Tool_first_links, F_Tool_first_links⟩ := c.def_ 42 (d := df_Tool_first_links) rfl
  obtain ⟨d_Tool_links_behind, F_Tool_links_behind⟩ := c.def_ 43 (d := df_Tool_links_behind) rfl
  obtain ⟨d_Tool_wants, F_Tool_wants⟩ := c.def_ 44 (d := df_Tool_wants) rfl
  obtain ⟨d_Tool_loads, F_Tool_loads⟩ := c.def_ 45 (d := df_Tool_loads) rfl
  obtain ⟨d_Tool_kept_ways, F_Tool_kept_ways⟩ := c.def_ 46 (d := df_Tool_kept_ways) rfl
  obtain ⟨d_give_rows, F_give_rows⟩ := c.def_ 47 (d := df_give_rows) rfl
  obtain ⟨d_unsure_rows, F_unsure_rows⟩ := c.def_ 48 (d := df_unsure_rows) rfl
  obtain ⟨d_left_out, F_left_out⟩ := c.def_ 49 (d := df_left_out) rfl
  obtain ⟨d_shaken_lot, F_shaken_lot⟩ := c.def_ 50 (d := df_shaken_lot) rfl
  obtain ⟨d_law_pool, F_law_pool⟩ := c.def_ 51 (d := df_law_pool) rfl
  obtain ⟨d_law_draw, F_law_draw⟩ := c.def_ 52 (d := df_law_draw) rfl
  obtain ⟨d_law_subset, F_law_subset⟩ := c.def_ 53 (d := df_law_subset) rfl
  obtain ⟨d_law_need, F_law_need⟩ := c.def_ 54 (d := df_law_need) rfl
  obtain ⟨d_law_needs, F_law_needs⟩ := c.def_ 55 (d := df_law_needs) rfl
  obtain ⟨d_law_words, F_law_words⟩ := c.def_ 56 (d := df_law_words) rfl
  obtain ⟨d_law_with_show, F_law_with_show⟩ := c.def_ 57 (d := df_law_with_show) rfl
  obtain ⟨d_law_row, F_law_row⟩ := c.def_ 58 (d := df_law_row) rfl
  obtain ⟨d_law_program, F_law_program⟩ := c.def_ 59 (d := df_law_program) rfl
  obtain ⟨d_law_places, F_law_places⟩ := c.def_ 60 (d := df_law_places) rfl
  obtain ⟨d_law_at, F_law_at⟩ := c.def_ 61 (d := df_law_at) rfl
  obtain ⟨d_law_options, F_law_options⟩ := c.def_ 62 (d := df_law_options) rfl
  obtain ⟨d_law_is_lot, F_law_is_lot⟩ := c.def_ 63 (d := df_law_is_lot) rfl
  obtain ⟨d_law, F_law⟩ := c.def_ 64 (d := df_law) rfl
  have T : Txt K w mg ⟨He.fAd K ("is_integer", none), He.fAd K ("is_number", none), He.fAd K ("is_name", none), He.fAd K ("is_tuple", none), He.fAd K ("is_ascending", none), He.fAd K ("is_need", none), He.fAd K ("are_needs", none), He.fAd K ("starts_with_word", none), He.fAd K ("is_row", none), He.fAd K ("is_give", none), He.fAd K ("is_late", none), He.fAd K ("are_parts", none), He.fAd K ("are_marks", none), He.fAd K ("are_entries", none), He.fAd K ("are_opens", none), He.fAd K ("is_program", none), He.fAd K ("demand_program", none), He.fAd K ("is_place", none), He.fAd K ("demand_place", none), He.fAd K ("row_at", none), He.fAd K ("is_risky", none), He.fAd K ("needs_of", none), He.fAd K ("is_loading", none), He.fAd K ("part_named", none), He.fAd K ("gives_name", none), He.fAd K ("givers_of", none), He.fAd K ("all_rows", none), He.fAd K ("doors_of", none), He.fAd K ("links_of", none), He.fAd K ("coming_links_of", none), He.fAd K ("parts_behind", none), He.fAd K ("ready_parts", none), He.fAd K ("ways_to_ready_parts", none), He.fAd K ("parts_that_stay_away", none), He.fAd K ("sure_names", none), He.fAd K ("is_sure", none), He.fAd K ("is_done_before", none), He.fAd K ("is_options", none), He.fAd K ("demand_options", none), He.fAd K ("Tool", some "__init__"), He.fAd K ("Tool", some "asks"), He.fAd K ("Tool", some "waits"), He.fAd K ("Tool", some "first_links"), He.fAd K ("Tool", some "links_behind"), He.fAd K ("Tool", some "wants"), He.fAd K ("Tool", some "loads"), He.fAd K ("Tool", some "kept_ways"), He.fAd K ("give_rows", none), He.fAd K ("unsure_rows", none), He.fAd K ("left_out", none), He.fAd K ("shaken_lot", none), He.fAd K ("_law_pool", none), He.fAd K ("_law_draw", none), He.fAd K ("_law_subset", none), He.fAd K ("_law_need", none), He.fAd K ("_law_needs", none), He.fAd K ("_law_words", none), He.fAd K ("_law_with_show", none), He.fAd K ("_law_row", none), He.fAd K ("_law_program", none), He.fAd K ("_law_places", none), He.fAd K ("_law_at", none), He.fAd K ("_law_options", none), He.fAd K ("_law_is_lot", none), He.fAd K ("law", none), He.ga K "NAMES", He.ga K "NEEDS_AT", He.ga K "OPTIONS", He.ga K "Tool", d_is_integer, d_is_number, d_is_name, d_is_tuple, d_is_ascending, d_is_need, d_are_needs, d_starts_with_word, d_is_row, d_is_give, d_is_late, d_are_parts, d_are_marks, d_are_entries, d_are_opens, d_is_program, d_demand_program, d_is_place, d_demand_place, d_row_at, d_is_risky, d_needs_of, d_is_loading, d_part_named, d_gives_name, d_givers_of, d_all_rows, d_doors_of, d_links_of, d_coming_links_of, d_parts_behind, d_ready_parts, d_ways_to_ready_parts, d_parts_that_stay_away, d_sure_names, d_is_sure, d_is_done_before, d_is_options, d_demand_options, d_Tool___init__, d_Tool_asks, d_Tool_waits, d_Tool_first_links, d_Tool_links_behind, d_Tool_wants, d_Tool_loads, d_Tool_kept_ways, d_give_rows, d_unsure_rows, d_left_out, d_shaken_lot, d_law_pool, d_law_draw, d_law_subset, d_law_need, d_law_needs, d_law_words, d_law_with_show, d_law_row, d_law_program, d_law_places, d_law_at, d_law_options, d_law_is_lot, d_law⟩ := {
    m_is_integer := He.glo_ok X G (c.fact 0 (f := .glo "is_integer") rfl),
    F_is_integer := F_is_integer,
    m_is_number := He.glo_ok X G (c.fact 1 (f := .glo "is_number") rfl),
    F_is_number := F_is_number,
    m_is_name := He.glo_ok X G (c.fact 2 (f := .glo "is_name") rfl),
    F_is_name := F_is_name,
    m_is_tuple := He.glo_ok X G (c.fact 3 (f := .glo "is_tuple") rfl),
    F_is_tuple := F_is_tuple,
    m_is_ascending := He.glo_ok X G (c.fact 4 (f := .glo "is_ascending") rfl),
    F_is_ascending := F_is_ascending,
    m_is_need := He.glo_ok X G (c.fact 5 (f := .glo "is_need") rfl),
    F_is_need := F_is_need,
    m_are_needs := He.glo_ok X G (c.fact 6 (f := .glo "are_needs") rfl),
    F_are_needs := F_are_needs,
    m_starts_with_word := He.glo_ok X G (c.fact 7 (f := .glo "starts_with_word") rfl),
    F_starts_with_word := F_starts_with_word,
    m_is_row := He.glo_ok X G (c.fact 8 (f := .glo "is_row") rfl),
    F_is_row := F_is_row,
    m_is_give := He.glo_ok X G (c.fact 9 (f := .glo "is_give") rfl),
    F_is_give := F_is_give,
    m_is_late := He.glo_ok X G (c.fact 10 (f := .glo "is_late") rfl),
    F_is_late := F_is_late,
    m_are_parts := He.glo_ok X G (c.fact 11 (f := .glo "are_parts") rfl),
    F_are_parts := F_are_parts,
    m_are_marks := He.glo_ok X G (c.fact 12 (f := .glo "are_marks") rfl),
    F_are_marks := F_are_marks,
    m_are_entries := He.glo_ok X G (c.fact 13 (f := .glo "are_entries") rfl),
    F_are_entries := F_are_entries,
    m_are_opens := He.glo_ok X G (c.fact 14 (f := .glo "are_opens") rfl),
    F_are_opens := F_are_opens,
    m_is_program := He.glo_ok X G (c.fact 15 (f := .glo "is_program") rfl),
    F_is_program := F_is_program,
    m_demand_program := He.glo_ok X G (c.fact 16 (f := .glo "demand_program") rfl),
    F_demand_program := F_demand_program,
    m_is_place := He.glo_ok X G (c.fact 17 (f := .glo "is_place") rfl),
    F_is_place := F_is_place,
    m_demand_place := He.glo_ok X G (c.fact 18 (f := .glo "demand_place") rfl),
    F_demand_place := F_demand_place,
    m_row_at := He.glo_ok X G (c.fact 19 (f := .glo "row_at") rfl),
    F_row_at := F_row_at,
    m_is_risky := He.glo_ok X G (c.fact 20 (f := .glo "is_risky") rfl),
    F_is_risky := F_is_risky,
    m_needs_of := He.glo_ok X G (c.fact 21 (f := .glo "needs_of") rfl),
    F_needs_of := F_needs_of,
    m_is_loading := He.glo_ok X G (c.fact 22 (f := .glo "is_loading") rfl),
    F_is_loading := F_is_loading,
    m_part_named := He.glo_ok X G (c.fact 23 (f := .glo "part_named") rfl),
    F_part_named := F_part_named,
    m_gives_name := He.glo_ok X G (c.fact 24 (f := .glo "gives_name") rfl),
    F_gives_name := F_gives_name,
    m_givers_of := He.glo_ok X G (c.fact 25 (f := .glo "givers_of") rfl),
    F_givers_of := F_givers_of,
    m_all_rows := He.glo_ok X G (c.fact 26 (f := .glo "all_rows") rfl),
    F_all_rows := F_all_rows,
    m_doors_of := He.glo_ok X G (c.fact 27 (f := .glo "doors_of") rfl),
    F_doors_of := F_doors_of,
    m_links_of := He.glo_ok X G (c.fact 28 (f := .glo "links_of") rfl),
    F_links_of := F_links_of,
    m_coming_links_of := He.glo_ok X G (c.fact 29 (f := .glo "coming_links_of") rfl),
    F_coming_links_of := F_coming_links_of,
    m_parts_behind := He.glo_ok X G (c.fact 30 (f := .glo "parts_behind") rfl),
    F_parts_behind := F_parts_behind,
    m_ready_parts := He.glo_ok X G (c.fact 31 (f := .glo "ready_parts") rfl),
    F_ready_parts := F_ready_parts,
    m_ways_to_ready_parts := He.glo_ok X G (c.fact 32 (f := .glo "ways_to_ready_parts") rfl),
    F_ways_to_ready_parts := F_ways_to_ready_parts,
    m_parts_that_stay_away := He.glo_ok X G (c.fact 33 (f := .glo "parts_that_stay_away") rfl),
    F_parts_that_stay_away := F_parts_that_stay_away,
    m_sure_names := He.glo_ok X G (c.fact 34 (f := .glo "sure_names") rfl),
    F_sure_names := F_sure_names,
    m_is_sure := He.glo_ok X G (c.fact 35 (f := .glo "is_sure") rfl),
    F_is_sure := F_is_sure,
    m_is_done_before := He.glo_ok X G (c.fact 36 (f := .glo "is_done_before") rfl),
    F_is_done_before := F_is_done_before,
    m_is_options := He.glo_ok X G (c.fact 37 (f := .glo "is_options") rfl),
    F_is_options := F_is_options,
    m_demand_options := He.glo_ok X G (c.fact 38 (f := .glo "demand_options") rfl),
    F_demand_options := F_demand_options,
    F_Tool___init__ := F_Tool___init__,
    me_Tool_asks := He.meth_ok (c.fact 65 (f := .meth "Tool" "asks") rfl),
    F_Tool_asks := F_Tool_asks,
    me_Tool_waits := He.meth_ok (c.fact 66 (f := .meth "Tool" "waits") rfl),
    F_Tool_waits := F_Tool_waits,
    me_Tool_first_links := He.meth_ok (c.fact 67 (f := .meth "Tool" "first_links") rfl),
    F_Tool_first_links := F_Tool_first_links,
    me_Tool_links_behind := He.meth_ok (c.fact 68 (f := .meth "Tool" "links_behind") rfl),
    F_Tool_links_behind := F_Tool_links_behind,
    me_Tool_wants := He.meth_ok (c.fact 69 (f := .meth "Tool" "wants") rfl),
    F_Tool_wants := F_Tool_wants,
    me_Tool_loads := He.meth_ok (c.fact 70 (f := .meth "Tool" "loads") rfl),
    F_Tool_loads := F_Tool_loads,
    me_Tool_kept_ways := He.meth_ok (c.fact 71 (f := .meth "Tool" "kept_ways") rfl),
    F_Tool_kept_ways := F_Tool_kept_ways,
    m_give_rows := He.glo_ok X G (c.fact 39 (f := .glo "give_rows") rfl),
    F_give_rows := F_give_rows,
    m_unsure_rows := He.glo_ok X G (c.fact 40 (f := .glo "unsure_rows") rfl),
    F_unsure_rows := F_unsure_rows,
    m_left_out := He.glo_ok X G (c.fact 41 (f := .glo "left_out") rfl),
    F_left_out := F_left_out,
    m_shaken_lot := He.glo_ok X G (c.fact 42 (f := .glo "shaken_lot") rfl),
    F_shaken_lot := F_shaken_lot,
    m_law_pool := He.glo_ok X G (c.fact 43 (f := .glo "_law_pool") rfl),
    F_law_pool := F_law_pool,
    m_law_draw := He.glo_ok X G (c.fact 44 (f := .glo "_law_draw") rfl),
    F_law_draw := F_law_draw,
    m_law_subset := He.glo_ok X G (c.fact 45 (f := .glo "_law_subset") rfl),
    F_law_subset := F_law_subset,
    m_law_need := He.glo_ok X G (c.fact 46 (f := .glo "_law_need") rfl),
    F_law_need := F_law_need,
    m_law_needs := He.glo_ok X G (c.fact 47 (f := .glo "_law_needs") rfl),
    F_law_needs := F_law_needs,
    m_law_words := He.glo_ok X G (c.fact 48 (f := .glo "_law_words") rfl),
    F_law_words := F_law_words,
    m_law_with_show := He.glo_ok X G (c.fact 49 (f := .glo "_law_with_show") rfl),
    F_law_with_show := F_law_with_show,
    m_law_row := He.glo_ok X G (c.fact 50 (f := .glo "_law_row") rfl),
    F_law_row := F_law_row,
    m_law_program := He.glo_ok X G (c.fact 51 (f := .glo "_law_program") rfl),
    F_law_program := F_law_program,
    m_law_places := He.glo_ok X G (c.fact 52 (f := .glo "_law_places") rfl),
    F_law_places := F_law_places,
    m_law_at := He.glo_ok X G (c.fact 53 (f := .glo "_law_at") rfl),
    F_law_at := F_law_at,
    m_law_options := He.glo_ok X G (c.fact 54 (f := .glo "_law_options") rfl),
    F_law_options := F_law_options,
    m_law_is_lot := He.glo_ok X G (c.fact 55 (f := .glo "_law_is_lot") rfl),
    F_law_is_lot := F_law_is_lot,
    m_law := He.glo_ok X G (c.fact 56 (f := .glo "law") rfl),
    F_law := F_law,
    m_Tool := He.glo_ok X G (c.fact 57 (f := .glo "Tool") rfl),
    c_Tool := He.cls_ok (c.fact 58 (f := .cls "Tool") rfl),
    mk_Tool := He.mkr_ok (c.fact 59 (f := .mkr "Tool") rfl),
    n_Tool_source := He.noat_ok (c.fact 60 (f := .noat "Tool" "source") rfl),
    n_Tool_options := He.noat_ok (c.fact 61 (f := .noat "Tool" "options") rfl),
    n_Tool_places := He.noat_ok (c.fact 62 (f := .noat "Tool" "places") rfl),
    n_Tool_behind := He.noat_ok (c.fact 63 (f := .noat "Tool" "behind") rfl),
    n_Tool_asked := He.noat_ok (c.fact 64 (f := .noat "Tool" "asked") rfl),
    zlen := He.free_ok X G (c.fact 72 (f := .free "len") rfl),
    zint := He.free_ok X G (c.fact 73 (f := .free "int") rfl),
    zabs := He.free_ok X G (c.fact 74 (f := .free "abs") rfl),
    zisinstance := He.free_ok X G (c.fact 75 (f := .free "isinstance") rfl),
    zrange := He.free_ok X G (c.fact 76 (f := .free "range") rfl),
    zlist := He.free_ok X G (c.fact 77 (f := .free "list") rfl),
    ztuple := He.free_ok X G (c.fact 78 (f := .free "tuple") rfl),
    zsorted := He.free_ok X G (c.fact 79 (f := .free "sorted") rfl),
    zset := He.free_ok X G (c.fact 80 (f := .free "set") rfl),
    zmin := He.free_ok X G (c.fact 81 (f := .free "min") rfl),
    zall := He.free_ok X G (c.fact 82 (f := .free "all") rfl),
    zany := He.free_ok X G (c.fact 83 (f := .free "any") rfl),
    zzip := He.free_ok X G (c.fact 84 (f := .free "zip") rfl),
    zenumerate := He.free_ok X G (c.fact 85 (f := .free "enumerate") rfl),
    zbool := He.free_ok X G (c.fact 86 (f := .free "bool") rfl),
    zstr := He.free_ok X G (c.fact 87 (f := .free "str") rfl),
    zmap := He.free_ok X G (c.fact 88 (f := .free "map") rfl),
    zreversed := He.free_ok X G (c.fact 89 (f := .free "reversed") rfl),
    i_MOST_ENTRIES := He.int_ok X G (c.fact 90 (f := .int "MOST_ENTRIES" (3)) rfl),
    i_MOST_NEEDS := He.int_ok X G (c.fact 91 (f := .int "MOST_NEEDS" (2)) rfl),
    i_MOST_NEEDS_OF_GIVE := He.int_ok X G (c.fact 92 (f := .int "MOST_NEEDS_OF_GIVE" (1)) rfl),
    i_MOST_OPENS := He.int_ok X G (c.fact 93 (f := .int "MOST_OPENS" (4)) rfl),
    i_MOST_OUTS := He.int_ok X G (c.fact 94 (f := .int "MOST_OUTS" (2)) rfl),
    i_MOST_PARTS := He.int_ok X G (c.fact 95 (f := .int "MOST_PARTS" (4)) rfl),
    i_MOST_ROWS := He.int_ok X G (c.fact 96 (f := .int "MOST_ROWS" (12)) rfl),
    i_MOST_ROWS_OF_PART := He.int_ok X G (c.fact 97 (f := .int "MOST_ROWS_OF_PART" (5)) rfl),
    i_NO_PART := He.int_ok X G (c.fact 98 (f := .int "NO_PART" (-1)) rfl),
    m_NAMES := He.glo_ok X G (c.fact 99 (f := .glo "NAMES") rfl),
    t_NAMES := fun H => He.tupB_ok (List.all_eq_true.mp ct _ (List.mem_of_getElem? (i := 0) rfl)) H,
    m_OPTIONS := He.glo_ok X G (c.fact 100 (f := .glo "OPTIONS") rfl),
    t_OPTIONS := fun H => He.tupB_ok (List.all_eq_true.mp ct _ (List.mem_of_getElem? (i := 1) rfl)) H,
    m_NEEDS_AT := He.glo_ok X G (c.fact 101 (f := .glo "NEEDS_AT") rfl),
    D_NEEDS_AT := cw.tab 0 rfl,
    V_NEEDS_AT_give := He.valsB_ok (List.all_eq_true.mp cv _ (List.mem_of_getElem? (i := 0) rfl)) (q := ("give", .int 2)) (List.mem_of_getElem? (i := 0) rfl),
    V_NEEDS_AT_show := He.valsB_ok (List.all_eq_true.mp cv _ (List.mem_of_getElem? (i := 0) rfl)) (q := ("show", .int 1)) (List.mem_of_getElem? (i := 1) rfl),
    V_NEEDS_AT_late := He.valsB_ok (List.all_eq_true.mp cv _ (List.mem_of_getElem? (i := 0) rfl)) (q := ("late", .int 3)) (List.mem_of_getElem? (i := 2) rfl),
    V_NEEDS_AT_load := missB_ok (List.all_eq_true.mp (List.all_eq_true.mp cn _ (List.mem_of_getElem? (i := 0) rfl)) "load" (List.mem_of_getElem? (i := 0) rfl)),
    V_NEEDS_AT_pass := missB_ok (List.all_eq_true.mp (List.all_eq_true.mp cn _ (List.mem_of_getElem? (i := 0) rfl)) "pass" (List.mem_of_getElem? (i := 1) rfl)),
    V_NEEDS_AT_out := missB_ok (List.all_eq_true.mp (List.all_eq_true.mp cn _ (List.mem_of_getElem? (i := 0) rfl)) "out" (List.mem_of_getElem? (i := 2) rfl)) }
  have e := hfa.symm.trans (He.glo_ok X G (c.fact 56 (f := .glo "law") rfl))
  cases e
  exact ⟨d_law, fun s v => (FunD.bindsA (ps := ["script"]) F_law fun _ _ _ _ _ _ us hl => match us, hl with | [_], _ => rfl) s [v] rfl, fun base _ _ => ok_law T⟩
end Lb
open PySem PySem.W PySem.Calls PyProof.Rows
theorem PySem.Challenge.cw_leanbundle_k75_whole_more_options_leave_holds : PySem.Challenge.rw_leanbundle_k75_whole_more_options_leave.Holds := by
  w_on; o_law
  refine HandSHeadRun.head_any (r := OpenLaw.row PySem.Challenge.rw_leanbundle_k75_whole_more_options_leave) (q := view (OpenLaw.row PySem.Challenge.rw_leanbundle_k75_whole_more_options_leave).prog [79]) (H := Lb.hookOf) (ob := Lb.seenT) (M := 8000) (loose := Lb.others0 ++ Lb.others1)
    (d := HandSHeadRun.topDef (OpenLaw.row PySem.Challenge.rw_leanbundle_k75_whole_more_options_leave).prog 79) (kwd := []) Lb.seenT_eq
    (by kernel_rfl) (fun s => by kernel_rfl) Lb.theRun (by kernel_rfl) (by kernel_rfl) (by kernel_rfl) (by rfl) (by first | decide +kernel | assumption) (by decide +kernel) ⟨rfl, rfl, rfl, rfl, rfl, by decide +kernel⟩ ?hw ?hc
  case hw => w_witness2
  case hc =>
    refine L2.walk_ofE (l := PySem.Challenge.rw_leanbundle_k75_whole_more_options_leave) (n := 63) (k := 20) (x := "script") (CX := L2.CX0) rfl (by decide) (by kernel_rfl) ⟨rfl, by decide, by decide⟩ ?F (fun _ _ _ _ z => z)
    intro w mg fa h Y G mg0
    obtain ⟨K, KX, c, ct⟩ := Y
    have mgl : mg ("law" : PySem.Str) = some (.ref fa) := by
      have e : (HandSHeadRun.topDef (OpenLaw.row PySem.Challenge.rw_leanbundle_k75_whole_more_options_leave).prog 79).name = ("law" : PySem.Str) := by kernel_rfl
      rw [← e]
      exact mg0
    obtain ⟨fd, hb, hF⟩ := Lb.theFacts (P := (PySem.Challenge.rw_leanbundle_k75_whole_more_options_leave).prog) (w := w) KX G mgl c ct
    exact ⟨K, fd, Lb.sp_law K, KX, hb, fun H a ns hl _ hS => ⟨a, ns, rfl, hS, hl, fun _ => rfl⟩, hF⟩
