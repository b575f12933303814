import PyProof.Rows.All
import Wide.All
import OpenK.AllK
import Wide.FinOn
import HandS.ForMost
import HandS.Set
import HandS.TupSets
import KE.SortData
import HandS.Strs
import HandS.Walk
import HandS.IsInst
import HandS.Zip
import HandS.Defaults
import HandS.TupAny
import HandS.Text
import KE.GoesMore
import KE.GoesEnum
import HandS.Iter
import HandS.FStr
import HandS.MapJoin
import HandS.Conv
import HandS.Flow
import HandS.MapObj
import KE.GoesZip
import KE.KTurns
import HandS.Deep
import PyProof.P3In
import HandS.TupMul
import HandS.Rev
import HandS.RevTup
import HandS.Style
import KE.DatumOrd
import KE.GoesEnumKw
import HandS.SortKw
import KE.DataFind
import HandS.SetFor
import KE.KRevSl
import HandS.Ends
import HandS.Words
import HandS.WordsExc
import HandS.Head0
import HandS.Head1
import HandS.Head2
import HandS.HeadEnd
import HandS.HeadHook1
import HandS.HeadHook2
import HandS.HeadHook3
import PySem.Challenge.RW_leanbundle_k85_whole_lots_and_layouts_th
set_option Elab.async false
set_option linter.all false
set_option maxRecDepth 100000
set_option maxHeartbeats 4000000
/-! sets and sorted lists of pairs (number, name) -/
namespace Lb
open PySem PySem.Spec PyProof.Rows L2
/-- a pair as a key -/
abbrev Nm := Int × Str
def kk (p : Nm) : List Key := [Sum.inl p.1, Sum.inr p.2]
theorem kk_inj {p q : Nm} (h : kk p = kk q) : p = q := by
  unfold kk at h
  injection h with h1 h2
  injection h2 with h2 _
  injection h1 with h1
  injection h2 with h2
  exact Prod.ext h1 h2
def PrAt (P : Program) (w : World) (h : Heap) (p : Nm) (a : Addr) : Prop := IsTupleKey (mixKind P w) h (kk p) a
def hsh (P : Program) (w : World) (p : Nm) : Int := tupleKeyHash (mixKind P w) (kk p)
section
variable {P : Program} {w : World} {A : Around} {E : Value → Shared → Prop} {s : Shared}
/-- the two values of such a pair -/
theorem two_items {p : Nm} {vs : List Value} (h : ItemsAre (mixKind P w) (kk p) vs) : ∃ t u, vs = [Value.int p.1 t, Value.str p.2 u] := by
  unfold kk at h
  cases h with
  | cons h1 h2 =>
    cases h2 with
    | cons h3 h4 =>
      cases h4
      have g1 : keyIs (Sum.inl p.1) _ = true := h1
      have g3 : keyIs (Sum.inr p.2) _ = true := h3
      rcases keyIs_shape g1 with ⟨i, t, e, rfl⟩ | ⟨x, t, e, rfl⟩
      · rcases keyIs_shape g3 with ⟨j, u, e', rfl⟩ | ⟨y, u, e', rfl⟩
        · exact nomatch e'
        · injection e with e
          injection e' with e'
          subst e
          subst e'
          exact ⟨t, u, rfl⟩
      · exact nomatch e
theorem noClass {p : Nm} {b : Addr} {Q : Bool → Shared → Prop} (hp : PrAt P w s.heap p b) (q : Q false s) : wpAny (model P w) A (ofAClassStatement 8 (.ref b)) Q E s := by
  have ty := IsTupleKey.typeIs hp
  obtain ⟨ob, its, cap, hget, _, hdat, hits⟩ := hp
  unfold ofAClassStatement
  refine wpAny_bind (wpAny_typeOf ty ?_)
  dsimp only
  have e1 : (("tuple" : String) == "tuple") = true := by decide
  simp only [e1, if_true, Bool.not_true, Bool.false_eq_true, if_false]
  try refine wpAny_bind (wpAny_pure ?_)
  try simp only [Bool.not_true, Bool.false_eq_true, if_false]
  show wpAny _ _ (seqItems? (.ref b) >>= _) _ _ s
  refine wpAny_bind (wpAny_seqItems hget hdat ?_)
  dsimp only
  refine wpAny_bind ?_
  show wpAny _ _ (forIn its _ _) _ _ s
  rw [← Array.forIn_toList]
  refine wpAny_forIn_list _ (fun left st now => st.1 = none ∧ now = s ∧ ∀ v ∈ left, ∀ n, ofAClassStatement n v = pure false) _ ?_ ?_ _ _ ⟨rfl, rfl, fun v hv n => ?_⟩
  · rintro v left st now ⟨e2, rfl, each⟩
    rw [each v List.mem_cons_self]
    refine wpAny_bind (wpAny_pure ?_)
    simp only [Bool.false_eq_true, if_false]
    exact wpAny_pure ⟨rfl, rfl, fun u hu => each u (List.mem_cons_of_mem _ hu)⟩
  · rintro ⟨st1, st2⟩ now ⟨e2, rfl, _⟩
    simp only at e2
    subst e2
    exact wpAny_pure q
  · obtain ⟨t, u, e⟩ := two_items hits
    rw [e] at hv
    rcases List.mem_cons.mp hv with z | z
    · rw [z]
      cases n <;> rfl
    · rw [List.mem_singleton.mp z]
      cases n <;> rfl
theorem byVal {p : Nm} {b : Addr} {Q : Bool → Shared → Prop} (hp : PrAt P w s.heap p b) (q : Q false s) : wpAny (model P w) A (hashByValue 8 (.ref b)) Q E s := by
  have ty := IsTupleKey.typeIs hp
  obtain ⟨ob, its, cap, hget, _, hdat, hits⟩ := hp
  obtain ⟨t, u, e⟩ := two_items hits
  unfold hashByValue
  refine wpAny_bind (wpAny_specialOf ty F.slot_tuple_hash.lookup ?_)
  show wpAny _ _ (seqItems? (.ref b) >>= _) _ _ s
  refine wpAny_bind (wpAny_seqItems hget hdat ?_)
  refine wpAny_bind ?_
  show wpAny _ _ (forIn its _ _) _ _ s
  rw [← Array.forIn_toList, e, List.forIn_cons]
  refine wpAny_bind ?_
  rw [show hashByValue 7 (Value.int p.1 t) = pure true from rfl]
  refine wpAny_bind (wpAny_pure ?_)
  simp only [Bool.not_true, Bool.false_eq_true, if_false]
  refine wpAny_pure ?_
  dsimp only
  rw [List.forIn_cons]
  refine wpAny_bind ?_
  rw [show hashByValue 7 (Value.str p.2 u) = pure false from rfl]
  refine wpAny_bind (wpAny_pure ?_)
  simp only [Bool.not_false, if_true]
  refine wpAny_pure ?_
  dsimp only
  refine wpAny_pure ?_
  dsimp only
  exact wpAny_pure q
/-- a search among such pairs cannot be seen -/
theorem unseen {p : Nm} {b : Addr} {Q : Bool → Shared → Prop} (hp : PrAt P w s.heap p b) {ys : List Value} (hy : ∀ y ∈ ys, ∃ p' c, y = Value.ref c ∧ PrAt P w s.heap p' c) (q : Q false s) :
    wpAny (model P w) A (searchCouldBeSeen (.ref b) ys) Q E s := by
  unfold searchCouldBeSeen
  refine wpAny_bind ?_
  refine wpAny_forIn_list _ (fun left st now => st.1 = none ∧ now = s ∧ ∀ y ∈ left, ∃ p' c, y = Value.ref c ∧ PrAt P w s.heap p' c) _ ?_ ?_ _ _ ⟨rfl, rfl, hy⟩
  · rintro v left st now ⟨e2, rfl, each⟩
    obtain ⟨p', c, rfl, hc⟩ := each v List.mem_cons_self
    have more : ∀ y ∈ left, ∃ p' c, y = Value.ref c ∧ PrAt P w now.heap p' c := fun u hu => each u (List.mem_cons_of_mem _ hu)
    dsimp only
    by_cases same : (b == c || (carriedByValue (.ref b) && carriedByValue (.ref c))) = true
    · refine wp_if_pos same ?_
      exact wpAny_pure ⟨rfl, rfl, more⟩
    · refine wp_if_neg same ?_
      refine wpAny_bind (wpAny_eqIsQuiet_tuple hp ?_)
      simp only [Bool.not_true, Bool.false_eq_true, if_false]
      refine wpAny_bind (wpAny_eqIsQuiet_tuple hc ?_)
      simp only [Bool.not_true, Bool.false_eq_true, if_false]
      refine wpAny_bind (noClass hp ?_)
      simp only [Bool.false_eq_true, if_false]
      refine wpAny_bind (noClass hc ?_)
      simp only [Bool.false_eq_true, if_false]
      exact wpAny_pure ⟨rfl, rfl, more⟩
  · rintro ⟨st1, st2⟩ now ⟨e2, rfl, _⟩
    simp only at e2
    subst e2
    exact wpAny_pure q

/-! the set at a: its members l (their places and pairs), its rows, its table -/
def rowsP (P : Program) (w : World) (l : List (Addr × Nm)) : List (Int × Value) := l.map fun q => (hsh P w q.2, Value.ref q.1)
structure PSet (P : Program) (w : World) (h : Heap) (a : Addr) (l : List (Addr × Nm)) (rs : Array (Int × Value)) (ep : Nat) (t : SetTable) : Prop where
  obj : ∃ o, h.get? a = some o ∧ o.ExactSet ∧ o.data = .set rs ep t
  rows : rs.toList = rowsP P w l
  tab : TabOk t (l.map fun q => hsh P w q.2)
  uniq : (l.map Prod.snd).Nodup
  prs : ∀ q ∈ l, PrAt P w h q.2 q.1
  led : w.params.followText "set-order" = true ∨ t.led = true
  room : l.length * 5 < t.mask * 3
  few : l.length < 60
variable {a : Addr} {l : List (Addr × Nm)} {rs : Array (Int × Value)} {ep : Nat} {t : SetTable}
theorem PSet.count (S : PSet P w s.heap a l rs ep t) : rs.size = l.length := by
  have q := congrArg List.length S.rows
  rwa [rowsP, Array.length_toList, List.length_map] at q
theorem PSet.placed (S : PSet P w s.heap a l rs ep t) : t.place.size = l.length := by
  have q := S.tab.sz
  rwa [List.length_map] at q
theorem PSet.fits (S : PSet P w s.heap a l rs ep t) : t.fits rs.size = true := by
  have q1 := S.placed
  have q2 := S.count
  have q3 := S.room
  unfold SetTable.fits SetTable.fill
  rw [S.tab.dm, Bool.and_eq_true, beq_iff_eq, decide_eq_true_eq]
  show t.place.size = rs.size ∧ t.place.size + 0 ≤ t.mask
  omega
theorem PSet.row (S : PSet P w s.heap a l rs ep t) {i : Nat} {q : Addr × Nm} (h : l[i]? = some q) : rs[i]? = some (hsh P w q.2, Value.ref q.1) := by
  rw [← Array.getElem?_toList, S.rows, rowsP, List.getElem?_map, h]
  rfl
theorem PSet.whole (S : PSet P w s.heap a l rs ep t) : ¬ t.gaveWay = true := by
  unfold SetTable.gaveWay
  have odd := mask_odd S.tab.mok
  rw [odd]
  decide
theorem probe_go (t : SetTable) (g : Nat → Int) (h : Int) (p : SetTable.Probe) : t.probe g h p = SetTable.probe.go t g h (10 * SetTable.turns t.mask) p := by
  unfold SetTable.probe
  exact Eq.refl _
/-- one look along the way of the pair p, from its c-th step on; the K-th is the first free one -/
theorem seek (S : PSet P w s.heap a l rs ep t) {x : Addr} {p : Nm} (hx : PrAt P w s.heap p x) (hu : A.units < cLine) {K : Nat} (kf : K < 10 * SetTable.turns t.mask)
    (free : way t.mask (hsh P w p) K ∉ t.place.toList) (taken : ∀ c, c < K → way t.mask (hsh P w p) c ∈ t.place.toList) {Q : SetFound → Shared → Prop}
    (yes : p ∈ l.map Prod.snd → Q (.there none) s) (no : p ∉ l.map Prod.snd → Q (.free (way t.mask (hsh P w p) K) false) s) :
    ∀ (f c : Nat) (from_ : Option SetTable.Probe), from_.getD (t.probeStart (hsh P w p)) = nth t.mask (runAt t.mask (SetTable.bits (hsh P w p) % (t.mask + 1)) (SetTable.bits (hsh P w p))) c → c ≤ K → K - c < f →
      (∀ (i : Nat) q, l[i]? = some q → q.2 = p → ∃ d, c ≤ d ∧ d < K ∧ t.place.toList[i]? = some (way t.mask (hsh P w p) d)) →
      wpAny (model P w) A (setSearchFrom a (.ref x) (hsh P w p) true f from_) Q E s := by
  intro f
  induction f with
  | zero => intro c _ _ _ z _; exact absurd z (Nat.not_lt_zero _)
  | succ f again =>
    intro c from_ hfrom ck cf ahead
    obtain ⟨o, ho, ex, dat⟩ := S.obj
    rw [setSearchFrom_succ]
    refine wpAny_bind (wpAny_setState_of ho dat S.fits ?_)
    dsimp only
    refine wp_if_neg S.whole ?_
    try refine wpAny_bind (wpAny_pure ?_)
    let st := runAt t.mask (SetTable.bits (hsh P w p) % (t.mask + 1)) (SetTable.bits (hsh P w p))
    have plainProbe : ∀ (n : Nat) (g : SetTable.Probe), g.dummy = none → (nth t.mask g n).dummy = none := by
      intro n
      induction n with
      | zero => intro g q; exact q
      | succ n ih =>
        intro g q
        refine ih (adv t.mask g) ?_
        unfold adv
        split <;> exact q
    have far : ∀ n, nth t.mask (nth t.mask st c) n = nth t.mask st (c + n) := fun n => (nth_add t.mask c st n).symm
    have farJ : ∀ n, (nth t.mask (nth t.mask st c) n).j = way t.mask (hsh P w p) (c + n) := fun n => congrArg SetTable.Probe.j (far n)
    have ckK : c + (K - c) = K := by omega
    have told := go_spec t S.tab.ris S.tab.dm (fun i => (rs[i]?.map (·.1)).getD 0) (hsh P w p) (10 * SetTable.turns t.mask) (K - c) (nth t.mask st c) (plainProbe c st rfl) (by omega)
      (fun n hn => by rw [farJ]; exact taken _ (by omega)) (by rw [farJ, ckK]; exact free)
    have hashOf : ∀ (i : Nat) q, l[i]? = some q → (rs[i]?.map (·.1)).getD 0 = hsh P w q.2 := fun i q e => by
      rw [S.row e, Option.map_some, Option.getD_some]
    rw [hfrom, probe_go]
    rcases told with ⟨n, i, nK, at_i, heq, before, res⟩ | ⟨before, res⟩
    · rw [res]
      dsimp only
      rw [farJ] at at_i
      have il : i < l.length := by
        have z := (List.getElem?_eq_some_iff.mp at_i).1
        have z2 := S.placed
        rw [Array.length_toList] at z
        omega
      obtain ⟨q, hq⟩ : ∃ q, l[i]? = some q := ⟨_, List.getElem?_eq_getElem il⟩
      have qm := List.mem_of_getElem? hq
      have hqp := S.prs q qm
      rw [farJ, far]
      have main : wpAny (model P w) A (searchRest a (.ref x) (hsh P w p) true f rs t (way t.mask (hsh P w p) (c + n)) i (nth t.mask st (c + (n + 1)))) Q E s := by
        unfold searchRest
        rw [S.row hq]
        dsimp only
        refine wpAny_bind (wpAny_holding (wpAny_eqBool_tuple hu hqp hx ?_))
        refine wpAny_bind (wpAny_setState_of ho dat S.fits ?_)
        dsimp only
        by_cases eqp : q.2 = p
        · refine wp_if_pos (by simp [eqp]) ?_
          exact wpAny_pure (yes (List.mem_map.mpr ⟨q, qm, eqp⟩))
        · have nek : ¬ kk q.2 = kk p := fun z => eqp (kk_inj z)
          refine wp_if_neg (by simp [nek]) ?_
          try refine wpAny_bind (wpAny_pure ?_)
          rw [sameMem]
          dsimp only
          have live := slot_live S.tab.ris at_i
          simp only [if_true, live, S.row hq]
          refine wpAny_bind (wpAny_isSame_ref_self (wpAny_bind (wpAny_pure ?_)))
          simp only [if_true]
          refine wp_if_neg (by simp [nek]) ?_
          refine again (c + (n + 1)) _ (Option.getD_some ..) (by omega) (by omega) fun i0 q0 h0 e0 => ?_
          obtain ⟨d, d1, d2, d3⟩ := ahead i0 q0 h0 e0
          refine ⟨d, ?_, d2, d3⟩
          have sameHash := (hashOf i0 q0 h0).trans (congrArg (hsh P w) e0)
          by_cases lt : d < c + n
          · refine absurd sameHash (before (d - c) i0 (by omega) ?_)
            rw [farJ, show c + (d - c) = d by omega]
            exact d3
          · by_cases gt : c + n < d
            · omega
            · have ed : d = c + n := by omega
              rw [ed] at d3
              have live2 := slot_live S.tab.ris d3
              rw [live] at live2
              injection live2 with live2
              rw [← live2, hq] at h0
              exact absurd ((congrArg Prod.snd (Option.some.inj h0)).trans e0) eqp
      by_cases ld : t.led = true
      · refine wp_if_neg (by simp [ld]) ?_
        try refine wpAny_bind (wpAny_pure ?_)
        exact main
      · refine wp_if_pos (by simp [ld]) ?_
        refine wpAny_bind (unseen hx (fun y hy => ?_) ?_)
        · obtain ⟨r, hr, er⟩ := List.mem_map.mp hy
          have r2 : r ∈ rs.toList := by
            have z : r ∈ rs ∧ r.1 = hsh P w p := by simpa using hr
            simpa using z.1
          rw [S.rows] at r2
          obtain ⟨q2, m2, e2⟩ := List.mem_map.mp r2
          exact ⟨q2.2, q2.1, by rw [← er, ← e2], S.prs q2 m2⟩
        · refine wp_if_neg (by decide) ?_
          try refine wpAny_bind (wpAny_pure ?_)
          exact main
    · rw [res, farJ, ckK]
      dsimp only
      refine wpAny_pure (no fun z => ?_)
      obtain ⟨q0, m0, e0⟩ := List.mem_map.mp z
      obtain ⟨i0, l0, g0⟩ := List.getElem_of_mem m0
      have h0 : l[i0]? = some q0 := by rw [List.getElem?_eq_getElem l0, g0]
      obtain ⟨d, d1, d2, d3⟩ := ahead i0 q0 h0 e0
      refine before (d - c) i0 (by omega) ?_ ((hashOf i0 q0 h0).trans (congrArg (hsh P w) e0))
      rw [farJ, show c + (d - c) = d by omega]
      exact d3
/-- adding looks along the whole way -/
theorem seekAll (S : PSet P w s.heap a l rs ep t) {x : Addr} {p : Nm} (hx : PrAt P w s.heap p x) (hu : A.units < cLine) {Q : SetFound → Shared → Prop} (yes : p ∈ l.map Prod.snd → Q (.there none) s)
    (no : ∀ K, p ∉ l.map Prod.snd → way t.mask (hsh P w p) K ∉ t.place.toList → (∀ c, c < K → way t.mask (hsh P w p) c ∈ t.place.toList) → Q (.free (way t.mask (hsh P w p) K) false) s) :
    wpAny (model P w) A (setSearch a (.ref x) (hsh P w p) true) Q E s := by
  obtain ⟨K, k1, k2, k3⟩ := S.tab.first (by have := S.room; rw [List.length_map]; omega) (hsh P w p)
  have small : 10 * SetTable.turns t.mask ≤ 99999 := by
    unfold SetTable.turns
    rcases S.tab.mok with z | z | z <;> omega
  unfold setSearch
  refine seek S hx hu k1 k2 k3 yes (fun z => no K z k2 k3) 100000 0 none (Option.getD_none ..) (Nat.zero_le _) (by omega) fun i q hq e => ?_
  have hh : (l.map fun q => hsh P w q.2)[i]? = some (hsh P w p) := by rw [List.getElem?_map, hq, Option.map_some, e]
  have il : i < t.place.toList.length := by
    have z := (List.getElem?_eq_some_iff.mp hq).1
    rw [Array.length_toList, S.placed]
    exact z
  obtain ⟨d, d1, d2⟩ := S.tab.before k2 hh (List.getElem?_eq_getElem il)
  exact ⟨d, Nat.zero_le _, d1, by rw [List.getElem?_eq_getElem il, d2]⟩
/-- a pair is not the set -/
theorem PrAt.past {h h' : Heap} {p : Nm} {b c : Addr} {o : Obj} (hp : PrAt P w h p b) (ho : h.get? c = some o) (dat : o.data = .set rs ep t) (same : Heap.SameBut c h h') : PrAt P w h' p b := by
  obtain ⟨ob, its, cap, g1, g2, g3, g4⟩ := hp
  refine ⟨ob, its, cap, (same.2 b fun z => ?_).trans g1, g2, g3, g4⟩
  rw [z, ho] at g1
  rw [← Option.some.inj g1, dat] at g3
  exact nomatch g3
theorem PrAt.kept {h h' : Heap} {p : Nm} {b : Addr} (hp : PrAt P w h p b) (k : ∀ c o, h.get? c = some o → h'.get? c = some o) : PrAt P w h' p b := by
  obtain ⟨ob, its, cap, g1, g⟩ := hp
  exact ⟨ob, its, cap, k _ _ g1, g⟩
theorem put_rows (l : List (Addr × Nm)) (n : Nat) (x : Addr) (p : Nm) : rowsP P w (l.take n ++ (x, p) :: l.drop n) = (rowsP P w l).take n ++ (hsh P w p, Value.ref x) :: (rowsP P w l).drop n := by
  simp only [rowsP, List.map_append, List.map_cons, List.map_take, List.map_drop]
/-- rows in another order are rows of the pairs in another order -/
theorem turned (l : List (Addr × Nm)) (rs : Array (Int × Value)) (ord : Array Nat) (hr : rs.toList = rowsP P w l) (hp : ord.toList.Perm (List.range l.length)) :
    ∃ m : List (Addr × Nm), (ord.filterMap (rs[·]?)).toList = rowsP P w m ∧ m.Perm l ∧ (m.map fun q => hsh P w q.2) = ord.toList.map fun i => (rs.map (·.1)).getD i 0 := by
  have size : rs.size = l.length := by
    have q := congrArg List.length hr
    rwa [rowsP, Array.length_toList, List.length_map] at q
  have rowAt : ∀ (i : Nat) (h : i < l.length), rs[i]? = some (hsh P w (l[i]).2, Value.ref (l[i]).1) := fun i h => by
    rw [← Array.getElem?_toList, hr, rowsP, List.getElem?_map, List.getElem?_eq_getElem h, Option.map_some]
  have walk : ∀ is : List Nat, (∀ i ∈ is, i < l.length) → is.filterMap (fun i => rs[i]?) = rowsP P w (is.filterMap fun i => l[i]?) ∧
      ((is.filterMap fun i => l[i]?).map fun q => hsh P w q.2) = is.map fun i => (rs.map (·.1)).getD i 0 := by
    intro is
    induction is with
    | nil => exact fun _ => ⟨by simp only [rowsP, List.filterMap_nil, List.map_nil], by simp only [List.filterMap_nil, List.map_nil]⟩
    | cons i is ih =>
      intro small
      have il := small i List.mem_cons_self
      obtain ⟨c1, c2⟩ := ih fun j hj => small j (List.mem_cons_of_mem _ hj)
      have hd : (rs.map (·.1)).getD i 0 = hsh P w (l[i]).2 := by
        have z : (rs.map (·.1))[i]? = some (hsh P w (l[i]).2) := by
          rw [Array.getElem?_map, rowAt i il, Option.map_some]
        rw [Array.getD_eq_getD_getElem?, z, Option.getD_some]
      rw [List.filterMap_cons_some (rowAt i il), List.filterMap_cons_some (List.getElem?_eq_getElem il), c1, List.map_cons, List.map_cons, c2, hd]
      refine ⟨?_, ?_⟩
      · simp only [rowsP, List.map_cons]
      · exact Eq.refl _
  obtain ⟨w1, w2⟩ := walk ord.toList fun i hi => List.mem_range.mp (hp.mem_iff.mp hi)
  refine ⟨ord.toList.filterMap fun i => l[i]?, by first | (rw [Array.toList_filterMap]; exact w1) | simpa using w1, ?_, w2⟩
  have whole : (List.range l.length).filterMap (fun i => l[i]?) = l := by
    have upTo : ∀ n, n ≤ l.length → (List.range n).filterMap (fun i => l[i]?) = l.take n := by
      intro n
      induction n with
      | zero => exact fun _ => rfl
      | succ n ih =>
        intro z
        have nl : n < l.length := z
        rw [List.range_succ, List.filterMap_append, ih (by omega), List.take_succ, List.getElem?_eq_getElem nl, List.filterMap_cons_some (List.getElem?_eq_getElem nl)]
        rfl
    rw [upTo _ (Nat.le_refl _), List.take_length]
  have z := hp.filterMap (fun i => l[i]?)
  rwa [whole] at z
/-- the table made larger: all pairs are laid anew -/
theorem larger {o : Obj} (ho : s.heap.get? a = some o) (ex : o.ExactSet) (dat : o.data = .set rs ep t) (rows : rs.toList = rowsP P w l) (placed : t.place.size = rs.size) (dm : t.dummies = #[]) (fill : rs.size ≤ t.mask)
    (uniq : (l.map Prod.snd).Nodup) (prs : ∀ q ∈ l, PrAt P w s.heap q.2 q.1) (led : w.params.followText "set-order" = true ∨ t.led = true) (few : l.length < 60) {want M : Nat}
    (wM : SetTable.sizeAbove want - 1 = M) (mok : MaskOk M) (w128 : SetTable.sizeAbove want ≤ 128) (room : l.length * 5 < M * 3) {Q : Unit → Shared → Prop}
    (done : ∀ h' l' rs' ep' t', Heap.SameBut a s.heap h' → PSet P w h' a l' rs' ep' t' → l'.Perm l → Q () { s with heap := h' }) : wpAny (model P w) A (setRelay a want) Q E s := by
  have size : rs.size = l.length := by
    have q := congrArg List.length rows
    rwa [rowsP, Array.length_toList, List.length_map] at q
  have fits : t.fits rs.size = true := by
    unfold SetTable.fits SetTable.fill
    rw [dm, Bool.and_eq_true, beq_iff_eq, decide_eq_true_eq]
    show t.place.size = rs.size ∧ t.place.size + 0 ≤ t.mask
    omega
  obtain ⟨t2, ord, laid, pm, tab, m2, led2, _, _⟩ := relaid_ok t (hs := rs.map (·.1)) (wanted := want) wM mok (by rw [Array.size_map, size]; omega)
  rw [Array.size_map, size] at pm
  obtain ⟨m, rows2, pml, hashes⟩ := turned l rs ord rows pm
  rw [← hashes] at tab
  have size2 : (ord.filterMap (rs[·]?)).size = rs.size := by
    have q := congrArg List.length rows2
    rw [rowsP, Array.length_toList, List.length_map, pml.length_eq] at q
    rw [q, size]
  rw [setRelay_eq]
  refine wpAny_bind (wpAny_setState_of ho dat fits ?_)
  dsimp only
  refine wp_if_neg (by rw [sizeLine_eq]; omega) ?_
  try refine wpAny_bind (wpAny_pure ?_)
  rw [laid]
  dsimp only
  refine wpAny_bind ?_
  refine wp_if_neg (by rw [size2]; simp) ?_
  try refine wpAny_bind (wpAny_pure ?_)
  refine wpAny_pure ?_
  dsimp only
  refine wpAny_storeSet_of ho dat ?_ (by rw [size2, size, sizeLine_eq]; omega)
  have same : Heap.SameBut a s.heap (s.heap.update a (Obj.putSet (ord.filterMap (rs[·]?)) t2)) := Heap.SameBut.update ..
  refine done _ m (ord.filterMap (rs[·]?)) (ep + 1) t2 same ?_ pml
  refine ⟨⟨_, store_at ho dat, ⟨ex.1, ex.2.1, ex.2.2⟩, rfl⟩, rows2, tab, (pml.map Prod.snd).nodup_iff.mpr uniq, fun q hq => (prs q (pml.mem_iff.mp hq)).past ho dat same, by rw [led2]; exact led, ?_, by rw [pml.length_eq]; exact few⟩
  rw [pml.length_eq, m2]
  exact room
/-- ADDING one more pair -/
theorem putIn (S : PSet P w s.heap a l rs ep t) {x : Addr} {p : Nm} (hx : PrAt P w s.heap p x) (hu : A.units < cLine) (few1 : l.length + 1 < 60) {Q : Bool → Shared → Prop}
    (done : ∀ b h' l' rs' ep' t', Heap.SameBut a s.heap h' → PSet P w h' a l' rs' ep' t' → (p ∈ l.map Prod.snd → l' = l) → (p ∉ l.map Prod.snd → l'.Perm ((x, p) :: l)) → Q b { s with heap := h' }) :
    wpAny (model P w) A (setAddHashed a (.ref x) (hsh P w p)) Q E s := by
  obtain ⟨o, ho, ex, dat⟩ := S.obj
  unfold setAddHashed
  refine wpAny_holding ?_
  rw [show (100000 : Nat) = 99999 + 1 from rfl, setAddHashedIn_succ]
  refine wpAny_bind (wpAny_setState_of ho dat S.fits ?_)
  dsimp only
  refine wp_if_neg (by simp [byScan, Value.scannable]) ?_
  try refine wpAny_bind (wpAny_pure ?_)
  refine wpAny_bind (seekAll S hx hu (fun m => ?_) fun K m k2 k3 => ?_)
  · dsimp only
    exact wpAny_pure (done false s.heap l rs ep t (Heap.SameBut.refl a s.heap) S (fun _ => rfl) fun z => absurd m z)
  · dsimp only
    refine wpAny_bind (wpAny_setState_of ho dat S.fits ?_)
    dsimp only
    obtain ⟨q1, q2, q3, q4, q5, q6, q7, q8, q9⟩ := S.tab.put k2 k3
    generalize hpt : t.put (way t.mask (hsh P w p) K) = pt at q1 q3 q4 q5 q6 q7 q8 q9 ⊢
    obtain ⟨t1, n⟩ := pt
    dsimp only at q1 q3 q4 q5 q6 q7 q8 q9 ⊢
    subst q1
    generalize hn : SetTable.below t.place (way t.mask (hsh P w p) K) = n at q2 q3 ⊢
    have prm : (l.take n ++ (x, p) :: l.drop n).Perm ((x, p) :: l) := by
      have z : (l.take n ++ (x, p) :: l.drop n).Perm ((x, p) :: (l.take n ++ l.drop n)) := List.perm_middle
      rwa [List.take_append_drop] at z
    have rowsNew : (SetTable.insertAt rs n (hsh P w p, Value.ref x)).toList = rowsP P w (l.take n ++ (x, p) :: l.drop n) := by
      rw [SetTable.toList_insertAt, S.rows, put_rows]
    have hashesNew : (l.take n ++ (x, p) :: l.drop n).map (fun q => hsh P w q.2) = (l.map fun q => hsh P w q.2).take n ++ hsh P w p :: (l.map fun q => hsh P w q.2).drop n := by
      simp only [List.map_append, List.map_cons, List.map_take, List.map_drop]
    rw [← hashesNew] at q3
    generalize SetTable.insertAt rs n (hsh P w p, Value.ref x) = rs1 at rowsNew ⊢
    generalize l.take n ++ (x, p) :: l.drop n = l1 at prm q3 rowsNew
    have len1 : l1.length = l.length + 1 := prm.length_eq
    have size1 : rs1.size = l.length + 1 := by
      have z := congrArg List.length rowsNew
      rwa [rowsP, Array.length_toList, List.length_map, len1] at z
    have uniq1 : (l1.map Prod.snd).Nodup := by
      refine (prm.map Prod.snd).nodup_iff.mpr ?_
      rw [List.map_cons]
      exact List.nodup_cons.mpr ⟨m, S.uniq⟩
    -- the table, once it is known that a name is no number
    have rest : ∀ t2 : SetTable, t2 = t1 ∨ t2 = { t1 with plain := false } →
        wpAny (model P w) A (do
          storeSet a rs1 t2
          if !false && t2.tooFull then setRelay a (SetTable.grown (rs.size + 1))
          return true : Sem Bool) Q E s := fun t2 e2 => by
      have pl2 : t2.place = t1.place := by
        rcases e2 with e | e <;> rw [e]
      have dm2 : t2.dummies = t1.dummies := by
        rcases e2 with e | e <;> rw [e]
      have ld2 : t2.led = t1.led := by
        rcases e2 with e | e <;> rw [e]
      have mk2 : t2.mask = t1.mask := by
        rcases e2 with e | e <;> rw [e]
      have tab2 : TabOk t2 (l1.map fun q => hsh P w q.2) := by
        obtain ⟨c1, c2, c3, c4, c5, c6⟩ := q3
        refine ⟨by rw [pl2]; exact c1, by rw [dm2]; exact c2, by rw [pl2]; exact c3, by rw [mk2]; exact c4, by rw [pl2, mk2]; exact c5, ?_⟩
        rw [pl2, mk2]
        exact c6
      refine wpAny_bind (wpAny_storeSet_of ho dat ?_ (by rw [size1, sizeLine_eq]; omega))
      have same : Heap.SameBut a s.heap (s.heap.update a (Obj.putSet rs1 t2)) := Heap.SameBut.update ..
      have ho1 := store_at (es' := rs1) (t' := t2) ho dat
      generalize s.heap.update a (Obj.putSet rs1 t2) = h1 at same ho1 ⊢
      have fillN : t2.fill = l.length + 1 := by
        unfold SetTable.fill
        rw [dm2, pl2, q3.dm, q3.sz, List.length_map, len1]
        rfl
      have prs1 : ∀ q ∈ l1, PrAt P w h1 q.2 q.1 := fun q hq => by
        rcases List.mem_cons.mp (prm.mem_iff.mp hq) with e | hq
        · rw [e]
          exact hx.past ho dat same
        · exact (S.prs q hq).past ho dat same
      have led3 : w.params.followText "set-order" = true ∨ t2.led = true := by rw [ld2, q5]; exact S.led
      have few2 : l1.length < 60 := by rw [len1]; exact few1
      have m3 : t2.mask = t.mask := by rw [mk2, q4]
      have size0 := S.count
      have room0 := S.room
      by_cases hf : t2.tooFull = true
      · have full : (l.length + 1) * 5 ≥ t.mask * 3 := by
          have z := hf
          unfold SetTable.tooFull at z
          rw [decide_eq_true_eq, fillN, m3] at z
          exact z
        have placed1 : t2.place.size = rs1.size := by
          rw [pl2, q3.sz, List.length_map, len1, size1]
        have which : (t.mask = 7 ∧ l.length = 4) ∨ (t.mask = 31 ∧ l.length = 18) := by
          rcases S.tab.mok with e | e | e
          · rw [e] at full room0
            exact .inl ⟨e, by omega⟩
          · rw [e] at full room0
            exact .inr ⟨e, by omega⟩
          · rw [e] at full
            omega
        have go : ∀ M, SetTable.sizeAbove (SetTable.grown (l.length + 1)) - 1 = M → MaskOk M → SetTable.sizeAbove (SetTable.grown (l.length + 1)) ≤ 128 → (l.length + 1) * 5 < M * 3 →
            wpAny (model P w) A (setRelay a (SetTable.grown (l.length + 1))) (fun _ now => wpAny (model P w) A (pure true) Q E now) E { s with heap := h1 } := fun M g1 g2 g3 g4 => by
          refine larger (s := { s with heap := h1 }) ho1 ⟨ex.1, ex.2.1, ex.2.2⟩ rfl rowsNew placed1 tab2.dm (by rw [size1, m3]; rcases which with ⟨e, e3⟩ | ⟨e, e3⟩ <;> omega) uniq1 prs1 led3 few2 g1 g2 g3 (by rw [len1]; exact g4) ?_
          intro h2 l2 rs2 ep2 t3 same2 S2 pm2
          exact wpAny_pure (done true h2 l2 rs2 ep2 t3 (same.trans same2) S2 (fun z => absurd z m) fun _ => pm2.trans prm)
        first
          | (refine wpAny_bind ?_; refine wp_if_pos (by simp [hf]) ?_)
          | (refine wp_if_pos (by simp [hf]) ?_; refine wpAny_bind ?_)
        rw [size0]
        rcases which with ⟨_, e3⟩ | ⟨_, e3⟩
        · exact go 31 (by rw [e3, size_20]) (.inr (.inl rfl)) (by rw [e3, size_20]; decide) (by omega)
        · exact go 127 (by rw [e3, size_76]) (.inr (.inr rfl)) (by rw [e3, size_76]; decide) (by omega)
      · have fin : Q true { s with heap := h1 } := done true h1 l1 rs1 (ep + 1) t2 same
          ⟨⟨_, ho1, ⟨ex.1, ex.2.1, ex.2.2⟩, rfl⟩, rowsNew, tab2, uniq1, prs1, led3, by
            have z := hf
            unfold SetTable.tooFull at z
            rw [decide_eq_true_eq, fillN] at z
            rw [len1]
            omega, few2⟩ (fun z => absurd z m) fun _ => prm
        first
          | (refine wp_if_neg (by simp [hf]) ?_; exact wpAny_pure fin)
          | (refine wpAny_bind ?_; refine wp_if_neg (by simp [hf]) ?_; refine wpAny_pure ?_; exact wpAny_pure fin)
    by_cases pl : t1.plain = true
    · first
        | (refine wpAny_bind ?_; refine wp_if_pos pl ?_; refine byVal hx ?_)
        | refine wp_if_pos pl (wpAny_bind (byVal hx ?_))
      simp only [Bool.false_eq_true, if_false]
      exact rest _ (.inr rfl)
    · first
        | (refine wpAny_bind ?_; refine wp_if_neg pl ?_; refine wpAny_pure ?_)
        | refine wp_if_neg pl ?_
      try simp only [if_true]
      exact rest _ (.inl rfl)

/-- the set l has the pairs of the first i items of ks, and no other -/
structure Took (ks : List (Addr × Nm)) (i : Nat) (l : List (Addr × Nm)) : Prop where
  from_ : ∀ q ∈ l, q ∈ ks.take i
  all : ∀ q ∈ ks.take i, q.2 ∈ l.map Prod.snd
  few : l.length ≤ i
theorem take_one {α : Type} {l : List α} {i : Nat} {x : α} (h : l[i]? = some x) : l.take (i + 1) = l.take i ++ [x] := by
  rw [List.take_succ, h]
  rfl
theorem Took.step {ks l l' : List (Addr × Nm)} {i : Nat} {x : Addr × Nm} (g : Took ks i l) (h : ks[i]? = some x) (c1 : x.2 ∈ l.map Prod.snd → l' = l) (c2 : x.2 ∉ l.map Prod.snd → l'.Perm (x :: l)) : Took ks (i + 1) l' := by
  by_cases m : x.2 ∈ l.map Prod.snd
  · rw [c1 m]
    refine ⟨fun q hq => ?_, fun q hq => ?_, Nat.le_succ_of_le g.few⟩
    · rw [take_one h]
      exact List.mem_append_left _ (g.from_ q hq)
    · rw [take_one h] at hq
      rcases List.mem_append.mp hq with z | z
      · exact g.all q z
      · rw [List.mem_singleton.mp z]
        exact m
  · have pm := c2 m
    refine ⟨fun q hq => ?_, fun q hq => ?_, ?_⟩
    · rw [take_one h]
      rcases List.mem_cons.mp (pm.mem_iff.mp hq) with z | z
      · rw [z]
        exact List.mem_append_right _ (List.mem_singleton.mpr rfl)
      · exact List.mem_append_left _ (g.from_ q z)
    · refine (pm.map Prod.snd).mem_iff.mpr ?_
      rw [List.map_cons]
      rw [take_one h] at hq
      rcases List.mem_append.mp hq with z | z
      · exact List.mem_cons_of_mem _ (g.all q z)
      · rw [List.mem_singleton.mp z]
        exact List.mem_cons_self
    · have := pm.length_eq
      have := g.few
      simp only [List.length_cons] at *
      omega
theorem PSet.onto {h h' : Heap} (S : PSet P w h a l rs ep t) (ha : ∀ o, h.get? a = some o → h'.get? a = some o) (hp : ∀ q ∈ l, PrAt P w h' q.2 q.1) : PSet P w h' a l rs ep t := by
  obtain ⟨o, ho, r⟩ := S.obj
  exact ⟨⟨o, ha o ho, r⟩, S.rows, S.tab, S.uniq, hp, S.led, S.room, S.few⟩
theorem PSet.empty {h : Heap} (ho : h.get? a = some { cls := .type "set", dict := none, data := .set #[] 0 (.fresh 0 0 (!w.params.followText "set-order")) }) : PSet P w h a [] #[] 0 (.fresh 0 0 (!w.params.followText "set-order")) where
  obj := ⟨_, ho, ⟨rfl, rfl, rfl⟩, rfl⟩
  rows := rfl
  tab := ⟨.nil, rfl, rfl, .inl rfl, fun _ z => (by cases z), fun i _ _ z => (by simp at z)⟩
  uniq := List.nodup_nil
  prs := fun _ z => nomatch z
  led := by
    show _ ∨ (!w.params.followText "set-order") = true
    cases w.params.followText "set-order" with
    | true => exact .inl rfl
    | false => exact .inr rfl
  room := by
    show 0 * 5 < 7 * 3
    decide
  few := by
    show 0 < 60
    decide
/-- the loop that fills the set at S from the walk I -/
theorem fillLoop {I : Addr} {fp wr : List Addr} {G : Array GenState → Array GenState → Prop} {n : Nat} {Pv : Nat → Value → Prop} {St : Nat → Shared → Prop} {R : Result → Shared → Prop}
    (W : WalksS P w A.in1 I fp wr G n Pv St) (S : Addr) (sfp : S ∉ fp) (ks : List (Addr × Nm)) (nks : n = ks.length) (n4 : ks.length < 60) (val : ∀ i v, Pv i v → ∃ q, ks[i]? = some q ∧ v = .ref q.1)
    (g : Heap) (prs : ∀ q ∈ ks, PrAt P w g q.2 q.1) (noS : g.get? S = none) (noW : ∀ b ∈ wr, g.get? b = none) (hu : A.in1.units < cLine)
    (out : ∀ s' l rs ep t, Moved (S :: wr) G s s' → True → PSet P w s'.heap S l rs ep t → Took ks n l → (∀ b o, g.get? b = some o → s'.heap.get? b = some o) → R (.ok (.ret .none)) s') :
    ∀ (m i : Nat) (now : Shared), n - i = m → i ≤ n → St i now → Moved (S :: wr) G s now → (∀ b o, g.get? b = some o → now.heap.get? b = some o) → (∃ l rs ep t, PSet P w now.heap S l rs ep t ∧ Took ks i l) →
      codeAny (model P w) A (.builtin "set.update.loop" ⟨[.ref S, .ref I], []⟩) R now := by
  have swr : S ∉ wr := fun z => sfp (W.sub _ z)
  have wider : ∀ b ∈ wr, b ∈ S :: wr := fun b hb => List.mem_cons_of_mem _ hb
  have past : ∀ {u u' : Shared}, Moved wr G u u' → (∀ b o, g.get? b = some o → u.heap.get? b = some o) → ∀ b o, g.get? b = some o → u'.heap.get? b = some o := fun mv k b o e =>
    mv.heap b o (fun hb => by rw [noW b hb] at e; cases e) (k b o e)
  intro m
  induction m with
  | zero =>
    intro i now hm hi hst mv k ⟨l, rs, ep, t, hS, tk⟩
    obtain rfl : i = n := by omega
    refine codeAny_builtin F.entry_set_update_loop ?_
    rw [Around.under_plainId F.plain_set_update_loop _]
    show wpAny _ A.in1 (pyNext (.ref I) >>= _) _ _ now
    refine wpAny_bind (W.done now _ _ hst fun now' mv' => ?_)
    show wpAny _ A.in1 (ret Value.none) _ _ now'
    have k' := past mv' k
    refine wpAny_pure (out now' l rs ep t (Moved.trans W.gtrans mv (mv'.mono wider)) trivial (hS.onto (fun o e => mv'.heap S o swr e) fun q hq => ?_) tk k')
    exact (prs q (List.mem_of_mem_take (tk.from_ q hq))).kept k'
  | succ m more =>
    intro i now hm hi hst mv k ⟨l, rs, ep, t, hS, tk⟩
    refine codeAny_builtin F.entry_set_update_loop ?_
    rw [Around.under_plainId F.plain_set_update_loop _]
    show wpAny _ A.in1 (pyNext (.ref I) >>= _) _ _ now
    refine wpAny_bind (W.item i now _ _ (by omega) hst fun v now' hv hst' mv' => ?_)
    obtain ⟨q, hq, rfl⟩ := val i v hv
    have k' := past mv' k
    have hS' : PSet P w now'.heap S l rs ep t := hS.onto (fun o e => mv'.heap S o swr e) fun r hr => (prs r (List.mem_of_mem_take (tk.from_ r hr))).kept k'
    have hx : PrAt P w now'.heap q.2 q.1 := (prs q (List.mem_of_getElem? hq)).kept k'
    have i3 : i < ks.length := (List.getElem?_eq_some_iff.mp hq).1
    show wpAny _ A.in1 (holding [Value.ref q.1] (setAdd S (.ref q.1)) >>= _) _ _ now'
    refine wpAny_bind (wpAny_holding ?_)
    unfold setAdd
    refine wpAny_holding ?_
    refine wpAny_bind (wpAny_pyHash_tuple hu hx ?_)
    refine putIn (s := { now' with toks := now'.toks + ((kk q.2).length + 1) }) hS' hx hu (by have := tk.few; omega) fun b h' l' rs' ep' t' same hS2 c1 c2 => ?_
    have k2 : ∀ b o, g.get? b = some o → h'.get? b = some o := fun b o e => (same.2 b fun z => by rw [z, noS] at e; cases e).trans (k' b o e)
    refine wpAny_pure ⟨plainId_quiet F.plain_set_update_loop _, more (i + 1) _ (by omega) (by omega) (W.frame _ now' _ _ hst' (Nat.le_add_right _ _) fun b hb o e => ?_) ?_ k2 ⟨l', rs', ep', t', hS2, tk.step hq c1 c2⟩⟩
    · rw [same.2 b fun z => sfp (by rw [← z]; exact hb)]
      exact e
    · refine Moved.trans W.gtrans mv ((mv'.mono wider).then_heap (Nat.le_add_right _ _) fun b o hb e => ?_)
      rw [same.2 b fun z => hb (by rw [z]; exact List.mem_cons_self)]
      exact e

/-- set(xs) of a list, whatever fills it: Good is what the filled set has -/
theorem setFrom {b : Addr} {items : Array Value} (Good : Heap → Prop) {Q : Value → Shared → Prop} (quiet : A.handled = none) (hl : s.heap.IsList b items)
    (fill : ∀ (I : Addr) (A1 : Around) (now : Shared) (R : Result → Shared → Prop), A1.in1.handled = none → A1.in1.units ≤ A.units + 3 → b ≠ I → s.heap.objs.size ∉ [I, b] → s.heap.get? s.heap.objs.size = none → s.heap.get? I = none →
      now.heap.IsListIter I b 0 → now.heap.IsList b items → now.heap.get? s.heap.objs.size = some { cls := .type "set", dict := none, data := .set #[] 0 (.fresh 0 0 (!w.params.followText "set-order")) } →
      Moved (s.heap.objs.size :: [I]) (fun a b => b = a) s now → (∀ c o, s.heap.get? c = some o → now.heap.get? c = some o) →
      (∀ s', Moved (s.heap.objs.size :: [I]) (fun a b => b = a) s s' → Good s'.heap → (∀ c o, s.heap.get? c = some o → s'.heap.get? c = some o) → R (.ok (.ret .none)) s') →
      codeAny (model P w) A1 (.builtin "set.update.loop" ⟨[.ref s.heap.objs.size, .ref I], []⟩) R now)
    (fin : ∀ (h' : Heap) (tk : Nat), Good h' → (∀ c o, s.heap.get? c = some o → h'.get? c = some o) → Q (.ref s.heap.objs.size) { s with heap := h', toks := tk }) :
    wpAny (model P w) A (call (.type "set") [.ref b]) Q E s := by
  obtain ⟨c, tl, hmro⟩ := F.called_set.mro
  have hmade := F.called_set.made
  have hsub := F.called_set.sub
  have h1 := F.called_set.notType
  have h2 := F.called_set.canCreate
  have hct := F.typeCall_set_1 (.ref b)
  refine wpAny_call (codeAny_of_tree ?_)
  show wpAny _ _ (callAny (.type "set") _) _ _ _
  refine wpAny_pure ⟨Code.quiet_builtin _ (by decide +kernel), codeAny_builtin F.entry_type_call ?_⟩
  rw [Around.under_plain (weight_type_call_type "set" [.ref b] []) rfl]
  repeat (any_goals (first | assumption | wp_step))
  let fresh : Obj := { cls := .type "set", dict := none, data := .set #[] 0 (.fresh 0 0 (!w.params.followText "set-order")) }
  refine codeAny_mono (code_set_led1 (.ref b) (E := E) (Q₁ := fun ob now => ob = .ref s.heap.objs.size ∧ now = { s with heap := s.heap.push fresh }) ⟨rfl, rfl⟩) fun r now hr => ?_
  match r, hr with
  | .error e, hr => exact hr
  | .ok (.next), hr => exact hr.elim
  | .ok (.brk), hr => exact hr.elim
  | .ok (.cont), hr => exact hr.elim
  | .ok (.ret ob), hr =>
    obtain ⟨rfl, rfl⟩ := hr
    have atS : (s.heap.push fresh).get? s.heap.objs.size = some fresh := Heap.get?_push_size _ rfl
    have ty : Shared.TypeIs { s with heap := s.heap.push fresh } (.ref s.heap.objs.size) "set" := ⟨_, atS, rfl⟩
    have hli := F.called_set.init.lookup
    have hbi := F.called_set.init.bind (.ref s.heap.objs.size)
    repeat (any_goals (first | assumption | wp_step))
    refine codeAny_mono (codeAny_call_builtin (R := wants (fun r now => r = .none ∧ ∃ h' tk, now = { s with heap := h', toks := tk } ∧ Good h' ∧
      (∀ c o, s.heap.get? c = some o → h'.get? c = some o)) E) F.called_set.init.plain F.entry_set_init (check_set_init_1 ty ?_)) fun r2 now2 hr2 => ?_
    · obtain ⟨ob, obAt, obCls, cap, obDat⟩ := hl
      obtain ⟨c0, d0, dat0, sl0⟩ := ob
      simp only at obCls obDat
      subst obCls
      subst obDat
      have obAt2 : (s.heap.push fresh).get? b = some { cls := .type "list", dict := d0, data := .seq items cap, slots := sl0 } := Heap.get?_push_of_some _ obAt
      have f1 := F.sub_list_set
      have f2 := F.sub_list_frozenset
      have f3 : (Value.type "list" == Value.type "dict") = false := by decide
      have lst : (s.heap.push fresh).IsList b items := ⟨_, obAt2, rfl, cap, rfl⟩
      unfold Builtin.«set.__init__» noKeywords Builtin.Frozenset.updateFrom
      generalize hPI : pyIter = PI
      wp_walk
      subst hPI
      refine wpAny_pyIter_list lst ?_
      refine wpAny_bind (wpAny_runValue ?_)
      have low : b < s.heap.objs.size := Heap.lt_size obAt
      have q3 : A.in1.in1.in1.handled = none := by simp [quiet]
      have sz : (s.heap.push fresh).objs.size = s.heap.objs.size + 1 := Heap.size_push ..
      have bI : b ≠ (s.heap.push fresh).objs.size := by
        rw [sz]
        exact Nat.ne_of_lt (Nat.lt_succ_of_lt low)
      have sI : s.heap.objs.size ∉ [(s.heap.push fresh).objs.size, b] := by
        rw [sz]
        intro z
        rcases List.mem_cons.mp z with e | z
        · exact Nat.ne_of_lt (Nat.lt_succ_self _) e
        · exact Nat.ne_of_gt low (List.mem_singleton.mp z)
      have nothing : ∀ d, s.heap.objs.size ≤ d → s.heap.get? d = none := fun d hd => by
        cases e : s.heap.get? d with
        | none => rfl
        | some o => exact absurd (Heap.lt_size e) (Nat.not_lt.mpr hd)
      refine fill _ _ _ _ q3 (by first | omega | (simp only [Around.units, Around.in1]; omega) | simp) bI sI (nothing _ (Nat.le_refl _)) (nothing _ (by rw [sz]; exact Nat.le_succ _)) ⟨_, Heap.get?_push_size _ rfl, rfl, rfl⟩ (lst.push _) (Heap.get?_push_of_some _ atS) ?m0 (fun c o e => Heap.get?_push_of_some _ (Heap.get?_push_of_some _ e)) ?ends
      case m0 => exact ⟨fun _ _ _ e => Heap.get?_push_of_some _ (Heap.get?_push_of_some _ e), rfl, rfl, rfl, by first | exact Nat.le_refl _ | exact Nat.le_add_right _ _⟩
      case ends =>
        intro now' mv hS k
        obtain ⟨h', g', d', tk', os'⟩ := now'
        obtain rfl : g' = s.gens := mv.gens
        obtain rfl : d' = s.drawn := mv.drawn
        obtain rfl : os' = s.os := mv.os
        show wpAny _ _ _ _ _ _
        refine wpAny_pure ?_
        show wpAny _ _ (ret Value.none) _ _ _
        exact wpAny_pure ⟨rfl, h', tk', rfl, hS, k⟩
    · match r2, hr2 with
      | .error e, hr2 => exact hr2
      | .ok (.next), hr2 => exact hr2.elim
      | .ok (.brk), hr2 => exact hr2.elim
      | .ok (.cont), hr2 => exact hr2.elim
      | .ok (.ret u), hr2 =>
        obtain ⟨rfl, h', tk, rfl, hS, k⟩ := hr2
        repeat (any_goals (first | assumption | wp_step))
        exact fin _ _ hS k
/-- set(xs), xs a list of such pairs, below sixty -/
theorem setOf {b : Addr} {items : Array Value} (ks : List (Addr × Nm)) {Q : Value → Shared → Prop} (quiet : A.handled = none) (hl : s.heap.IsList b items) (its : items.toList = ks.map fun q => Value.ref q.1)
    (prs : ∀ q ∈ ks, PrAt P w s.heap q.2 q.1) (n4 : ks.length < 60) (hu : A.units + 3 < cLine)
    (fin : ∀ (h' : Heap) (tk : Nat) l rs ep t, PSet P w h' s.heap.objs.size l rs ep t → Took ks ks.length l → (∀ c o, s.heap.get? c = some o → h'.get? c = some o) → Q (.ref s.heap.objs.size) { s with heap := h', toks := tk }) :
    wpAny (model P w) A (call (.type "set") [.ref b]) Q E s := by
  have many : items.size = ks.length := by
    have q := congrArg List.length its
    rwa [Array.length_toList, List.length_map] at q
  have val : ∀ (i : Nat) (v : Value), items[i]? = some v → ∃ q, ks[i]? = some q ∧ v = .ref q.1 := fun i v e => by
    rw [← Array.getElem?_toList, its, List.getElem?_map] at e
    obtain ⟨q, hq, e2⟩ := Option.map_eq_some_iff.mp e
    exact ⟨q, hq, e2.symm⟩
  refine setFrom (fun h' => ∃ l rs ep t, PSet P w h' s.heap.objs.size l rs ep t ∧ Took ks ks.length l) quiet hl (fun I A1 now R q3 qu bI sI noS noI it lst atS mv kp out => ?_) (fun h' tk ⟨l, rs, ep, t, hS, took⟩ k => fin h' tk l rs ep t hS took k)
  refine fillLoop (s := s) ((Walks.list q3 I b bI items).toS) s.heap.objs.size sI ks many n4 val s.heap prs noS (fun d hd => by rw [List.mem_singleton.mp hd]; exact noI) (by omega) (fun s' l rs ep t m _ hS took k => ?_) items.size 0 now (by omega) (Nat.zero_le _) ⟨it, lst⟩ mv kp ⟨[], #[], 0, _, PSet.empty atS, ⟨fun _ z => (by cases z), fun _ z => (by simp at z), Nat.le_refl _⟩⟩
  rw [many] at took
  exact out s' m ⟨l, rs, ep, t, hS, took⟩ k
/-- set(xs), xs a list of numbers -/
theorem setOfInts {b : Addr} {items : Array Value} (ns : List Int) {Q : Value → Shared → Prop} (quiet : A.handled = none) (hl : s.heap.IsList b items) (hi : IntsAre items.toList ns) (hb : ns.length + 1 < scanBound)
    (fin : ∀ (h' : Heap) (tk c : Nat), SetR w h' s.heap.objs.size (fun j => decide (j ∈ ns)) c → c ≤ ns.length → (∀ c o, s.heap.get? c = some o → h'.get? c = some o) → Q (.ref s.heap.objs.size) { s with heap := h', toks := tk }) :
    wpAny (model P w) A (call (.type "set") [.ref b]) Q E s := by
  have many : items.size = ns.length := by
    rw [← Array.length_toList]
    exact hi.length
  refine setFrom (fun h' => ∃ c, SetR w h' s.heap.objs.size (fun j => decide (j ∈ ns)) c ∧ c ≤ ns.length) quiet hl (fun I A1 now R q3 qu bI sI noS noI it lst atS mv kp out => ?_) (fun h' tk ⟨c, hS, hc⟩ k => fin h' tk c hS hc k)
  refine set_update_ints ((Walks.list q3 I b bI items).toS) s.heap.objs.size sI ns many hb (fun i v e => ?_) items.size 0 now (by omega) (Nat.zero_le _) ⟨it, lst⟩ ⟨0, Nat.le_refl _, setR_new_at atS⟩ fun s' c m hc hS => ?_
  · rw [← Array.getElem?_toList] at e
    obtain ⟨n, t, e1, e2⟩ := PyProof.Rows.IntsAre.at hi i v e
    exact ⟨n, t, e2, e1⟩
  · have m2 := Moved.trans (fun _ _ _ p q => q.trans p) mv m
    refine out s' m2 ⟨c, hS, by omega⟩ fun d o e => m2.heap d o (fun z => ?_) e
    rcases List.mem_cons.mp z with z | z
    · rw [z, noS] at e
      exact nomatch e
    · rw [List.mem_singleton.mp z, noI] at e
      exact nomatch e
end
end Lb

set_option Elab.async false
set_option linter.all false
set_option maxRecDepth 100000
set_option maxHeartbeats 4000000
namespace Lb
open PySem PySem.Spec PyProof.Rows L2
/-- the order of pairs -/
def nmLt (p q : Nm) : Bool := decide (p.1 < q.1 ∨ (p.1 = q.1 ∧ p.2.cps.toList < q.2.cps.toList))
def nmD (p : Nm) : PyData := .tuple [.int p.1, .str p.2]
theorem nm_alike (p q : Nm) : PySem.W.alike (nmD p) (nmD q) = true := by simp [nmD, PySem.W.alike, PySem.W.alikeAll]
theorem nmD_lt (p q : Nm) : PySem.W.dataLt (nmD p) (nmD q) = nmLt p q := by
  unfold nmD nmLt
  rw [PySem.W.dataLt_pair (by simp [PySem.W.alike]) (by simp [PySem.W.alike]), PySem.W.dataLt_int, PySem.W.dataLt_str]
  simp only [PyData.eqv]
  by_cases h1 : p.1 = q.1
  · simp only [h1, beq_self_eq_true, if_true, Int.lt_irrefl, false_or, true_and]
    by_cases h2 : p.2 = q.2
    · rw [h2]
      simp [List.lt_irrefl]
    · simp [h2]
  · simp [h1]
theorem nmLt_total {p q : Nm} (h1 : nmLt q p = false) (ne : p ≠ q) : nmLt p q = true := by
  unfold nmLt at *
  simp only [decide_eq_false_iff_not, decide_eq_true_eq] at *
  rcases Int.lt_trichotomy p.1 q.1 with c | c | c
  · exact .inl c
  · refine .inr ⟨c, ?_⟩
    rcases Classical.em (p.2.cps.toList < q.2.cps.toList) with d | d
    · exact d
    · have d2 : ¬ q.2.cps.toList < p.2.cps.toList := fun z => h1 (.inr ⟨c.symm, z⟩)
      have e : p.2.cps.toList = q.2.cps.toList := List.le_antisymm (List.not_lt.mp d2) (List.not_lt.mp d)
      exact absurd (Prod.ext c (PySem.W.str_of_cps e)) ne
  · exact absurd (.inl c) h1
section
variable {P : Program} {w : World} {A : Around} {E : Value → Shared → Prop} {s : Shared} {a : Addr} {l : List (Addr × Nm)} {rs : Array (Int × Value)} {ep : Nat} {t : SetTable}
theorem PrAt.reads {h : Heap} {p : Nm} {b : Addr} (x : PrAt P w h p b) : Reads h (.ref b) (nmD p) [] := by
  obtain ⟨o, its, cap, h1, h2, h3, h4⟩ := x
  obtain ⟨t, u, e⟩ := two_items h4
  have r : ReadsAll h its.toList [.int p.1, .str p.2] ([] ++ ([] ++ [])) := by
    rw [e]
    exact .cons (.int ..) (.cons (.str ..) .nil)
  exact .tuple h1 h2 h3 r
theorem PrAt.one {h : Heap} {p q : Nm} {b : Addr} (x : PrAt P w h p b) (y : PrAt P w h q b) : p = q := kk_inj (IsTupleKey.inj x y)
/-- sorted(s), s such a set -/
theorem sortedOf {Q : Value → Shared → Prop} (S : PSet P w s.heap a l rs ep t) (quiet : A.handled = none) (hu : A.units + 8 < cLine)
    (fin : ∀ now p (out : Array Value) (c : Nat) (l' : List (Addr × Nm)), (∀ b o, s.heap.get? b = some o → now.heap.get? b = some o) → now.gens = s.gens → now.os = s.os → s.heap.objs.size ≤ p →
      now.heap.get? p = some (seqObj "list" out c) → out.toList = l'.map (fun q => Value.ref q.1) → l'.Perm l → l'.Pairwise (fun q r => nmLt q.2 r.2 = true) → Q (.ref p) now) :
    wpAny (model P w) A (call (.builtin "sorted") [.ref a]) Q E s := by
  obtain ⟨o, ho, ex, dat⟩ := S.obj
  have n1 := S.count
  have n2 := S.few
  refine Calls.call_function_entry kind_sorted plain_sorted entry_sorted (args_sorted1 _) ?_
  unfold Builtin.«sorted»
  refine wpAny_bind (m := checkCount "sorted" 1 1 _) (wpAny_pure ?_)
  refine wpAny_bind (collect_set (A := A.in1) quiet ⟨o, ho, ex.1, dat⟩ S.fits (by unfold scanBound; omega) S.tab.ris S.led fun s1 vs k1 hz g1 o1 pm => ?_)
  have asRefs : rs.toList.map (·.2) = l.map fun q => Value.ref q.1 := by
    rw [S.rows, rowsP, List.map_map]
    rfl
  rw [asRefs] at pm
  -- the values, each with its pair
  have back : ∀ vs : List Value, (∀ v ∈ vs, ∃ q ∈ l, v = Value.ref q.1) → ∃ m : List (Addr × Nm), vs = m.map (fun q => Value.ref q.1) ∧ ∀ q ∈ m, q ∈ l := by
    intro vs
    induction vs with
    | nil => exact fun _ => ⟨[], rfl, fun _ z => nomatch z⟩
    | cons v vs ih =>
      intro each
      obtain ⟨q, hq, e⟩ := each v List.mem_cons_self
      obtain ⟨m, e2, sub⟩ := ih fun u hu => each u (List.mem_cons_of_mem _ hu)
      refine ⟨q :: m, by rw [List.map_cons, e, e2], fun r hr => ?_⟩
      rcases List.mem_cons.mp hr with z | z
      · rw [z]
        exact hq
      · exact sub r z
  have single : ∀ q ∈ l, ∀ r ∈ l, q.1 = r.1 → q = r := fun q hq r hr e => by
    have x := S.prs q hq
    rw [e] at x
    exact Prod.ext e (x.one (S.prs r hr))
  have dist : l.Nodup := List.Pairwise.of_map Prod.snd (fun _ _ ne e => ne (congrArg Prod.snd e)) S.uniq
  have permOf : ∀ m : List (Addr × Nm), (∀ q ∈ m, q ∈ l) → (m.map fun q => Value.ref q.1).Perm (l.map fun q => Value.ref q.1) → m.Perm l := by
    intro m sub pr
    have dr : (l.map fun q => Value.ref q.1).Nodup := by
      refine List.pairwise_map.mpr (List.Pairwise.imp_of_mem (fun {q r} hq hr ne e => ?_) dist)
      injection e with e
      exact ne (single q hq r hr e)
    have dm : m.Nodup := List.Pairwise.of_map (fun q => Value.ref q.1) (fun _ _ ne e => ne (congrArg (fun q : Addr × Nm => Value.ref q.1) e)) (pr.nodup_iff.mpr dr)
    refine (List.perm_ext_iff_of_nodup dm dist).mpr fun q => ⟨sub q, fun hq => ?_⟩
    obtain ⟨r, hr, e⟩ := List.mem_map.mp (pr.mem_iff.mpr (List.mem_map.mpr ⟨q, hq, rfl⟩))
    injection e with e
    rw [← single r (sub r hr) q hq e]
    exact hr
  obtain ⟨m, rfl, sub⟩ := back vs fun v hv => by
    obtain ⟨q, hq, e⟩ := List.mem_map.mp (pm.mem_iff.mp hv)
    exact ⟨q, hq, e.symm⟩
  have pml := permOf m sub pm
  have m4 : m.length < 60 := by
    rw [pml.length_eq]
    exact n2
  refine wpAny_bind (wpAny_newList ?_ (by rw [List.length_map, sizeLine_eq]; omega))
  generalize hh : s1.heap.push (seqObj "list" (m.map fun q => Value.ref q.1).toArray 0) = h2
  have atL : h2.get? s1.heap.objs.size = some (seqObj "list" (m.map fun q => Value.ref q.1).toArray 0) := by
    rw [← hh]
    exact Heap.get?_push_size _ rfl
  have k2 : ∀ b o, s1.heap.get? b = some o → h2.get? b = some o := fun b o e => by
    rw [← hh]
    exact Heap.get?_push_of_some _ e
  have prs2 : ∀ q ∈ m, PrAt P w h2 q.2 q.1 := fun q hq => (S.prs q (sub q hq)).kept fun c o e => k2 c o (k1 c o e)
  have each : ∀ m' : List (Addr × Nm), (∀ q ∈ m', q ∈ m) → PySem.W.EachIs (fun v (q : Addr × Nm) => v = Value.ref q.1) (m'.map fun q => Value.ref q.1) m' ∧
      PySem.W.EachIs (fun v (q : Addr × Nm) => ∃ as, Reads h2 v (nmD q.2) as ∧ s1.heap.objs.size ∉ as) (m'.map fun q => Value.ref q.1) m' := by
    intro m'
    induction m' with
    | nil => exact fun _ => ⟨.nil, .nil⟩
    | cons q m' ih =>
      intro sb
      obtain ⟨i1, i2⟩ := ih fun r hr => sb r (List.mem_cons_of_mem _ hr)
      exact ⟨.cons rfl i1, .cons ⟨[], (prs2 q (sb q List.mem_cons_self)).reads, fun z => nomatch z⟩ i2⟩
  obtain ⟨e1, e2⟩ := each m fun _ z => z
  refine wpAny_bind (wpAny_holding (PySem.W.list_sort_data (s := { s1 with heap := h2 }) (bs := m) (enc := fun q => nmD q.2) (R := fun v q => v = Value.ref q.1) atL e1 e2 (.of fun b b' => nm_alike _ _)
    (.tuples fun b => ⟨_, _, rfl⟩) (by rw [sizeLine_eq]; omega) (fun b _ => ?_) fun out ol oe => ?_))
  · show A.in1.units + 1 + (nmD b.2).depth < cLine
    have d : (nmD b.2).depth ≤ 2 := by simp [nmD, PyData.depth, PyData.depthAll]
    have : A.in1.units ≤ A.units + 4 := by simp
    omega
  · obtain ⟨c, hc⟩ := PyProof.Rows.sortedHeap_at (vs := m.map fun q => Value.ref q.1) (out := out.toArray) atL
    have eo : out = (m.mergeSort (PySem.W.dataLe false fun q => nmD q.2)).map fun q => Value.ref q.1 := by
      have key : ∀ {o : List Value} {m' : List (Addr × Nm)}, PySem.W.EachIs (fun v (q : Addr × Nm) => v = Value.ref q.1) o m' → o = m'.map fun q => Value.ref q.1 := by
        intro o m' z
        induction z with
        | nil => rfl
        | cons h _ ih => rw [h, ih, List.map_cons]
      exact key oe
    have ps := List.mergeSort_perm m (PySem.W.dataLe false fun q => nmD q.2)
    have sorted := PySem.W.sort_pairwise (le := PySem.W.dataLe false fun q : Addr × Nm => nmD q.2) (PySem.W.sortLe_total (listOrd itemOrd) false fun q : Addr × Nm => PySem.W.keyToks (nmD q.2)) m
    refine wpAny_pure ⟨_, rfl, fin _ s1.heap.objs.size out.toArray c (m.mergeSort (PySem.W.dataLe false fun q => nmD q.2)) (fun b u e => ?_) g1 o1 hz hc (by rw [List.toList_toArray]; exact eo) (ps.trans pml) ?_⟩
    · have q := k1 b u e
      have lt := Heap.lt_size q
      show (sortedHeap h2 s1.heap.objs.size (m.map fun q => Value.ref q.1) out.toArray).get? b = some u
      rw [sortedHeap_old (Nat.ne_of_lt lt) (by rw [← hh, size_push']; exact Nat.lt_succ_of_lt lt)]
      exact k2 _ _ q
    · have un : ((m.mergeSort (PySem.W.dataLe false fun q => nmD q.2)).map Prod.snd).Nodup := (((ps.trans pml).map Prod.snd).nodup_iff).mpr S.uniq
      refine List.Pairwise.imp₂ (R := fun q r : Addr × Nm => PySem.W.dataLe false (fun q => nmD q.2) q r = true) (S := fun q r => q.2 ≠ r.2) (fun q r h ne => ?_) sorted (List.pairwise_map.mp un)
      refine nmLt_total ?_ ne
      have z : (!PySem.W.dataLt (nmD r.2) (nmD q.2)) = true := h
      rw [nmD_lt] at z
      simpa using z
/-! the two as rules of the layer -/
def PSet0 (P : Program) (w : World) (h : Heap) (a : Addr) (l : List (Addr × Nm)) : Prop := ∃ (rs : Array (Int × Value)) (ep : Nat) (t : SetTable), (∃ o, h.get? a = some o ∧ o.ExactSet ∧ o.data = .set rs ep t) ∧
  rs.toList = rowsP P w l ∧ TabOk t (l.map fun q => hsh P w q.2) ∧ (l.map Prod.snd).Nodup ∧ (w.params.followText "set-order" = true ∨ t.led = true) ∧ l.length * 5 < t.mask * 3 ∧ l.length < 60
def PSetO (P : Program) (w : World) (a : Addr) (l : List (Addr × Nm)) : HO := .ext fun h => PSet0 P w h a l
theorem PSet.bare {h : Heap} (S : PSet P w h a l rs ep t) : PSet0 P w h a l := ⟨rs, ep, t, S.obj, S.rows, S.tab, S.uniq, S.led, S.room, S.few⟩
theorem psetO_ok {H : Hp} {h : Heap} (S : PSet0 P w h a l) : ObjOk P w H h a (PSetO P w a l) := by
  have ⟨rs, ep, t, ⟨o, ho, r⟩, q⟩ := S
  refine ⟨S, ⟨o, ho⟩, fun h1 h2 p k => ?_⟩
  have ⟨rs', ep', t', ⟨o', ho', r'⟩, q'⟩ := p
  exact ⟨rs', ep', t', ⟨o', k o' ho', r'⟩, q'⟩
end
/-- the pair p stands at b as a tuple -/
def NmT (K : PySem.W.Frag) (H : Hp) (q : Addr × Nm) : Prop := SqT K H q.1 [V.int q.2.1, V.str q.2.2]
theorem refs_vals : ∀ {ks : List (Addr × Nm)} {us : List Value}, Vals (ks.map fun q => V.ref q.1) us → us = ks.map fun q => Value.ref q.1
  | [], _, .nil => rfl
  | q :: ks, _, .cons r t => by
    cases r
    rw [refs_vals t, List.map_cons]
theorem vals_refs : ∀ (ks : List (Addr × Nm)), Vals (ks.map fun q => V.ref q.1) (ks.map fun q => Value.ref q.1)
  | [] => .nil
  | q :: ks => .cons rfl (vals_refs ks)
section
variable {X : Cx}
theorem nmT_at {pins : List (Addr × Obj)} {σ : L2.St} {H : Hp} {s : Shared} {q : Addr × Nm} (I : L2.Inv X pins σ H s) (h : NmT X.K H q) : PrAt X.prog X.w s.heap q.2 q.1 := by
  obtain ⟨its, r, ⟨o, ho, hc, n, hd⟩, _⟩ := I.tuple h
  cases r with
  | cons r1 r2 =>
    cases r2 with
    | cons r3 r4 =>
      cases r4
      obtain ⟨t, rfl⟩ := r1
      obtain ⟨u, rfl⟩ := r3
      exact ⟨o, _, n, ho, hc, hd, .cons (mixKind_int _ _ _ t) (.cons (mixKind_str _ _ _ u) .nil)⟩
def rSetNm (K : PySem.W.Frag) (P : Program) (w : World) : List V → Hp → VK → Prop := fun xs H Q => ∃ (b : Addr) (ks : List (Addr × Nm)), xs = [V.ref b] ∧ SqL K H b (ks.map fun q => V.ref q.1) ∧ (∀ q ∈ ks, NmT K H q) ∧ ks.length < 60 ∧
  ∀ a l, H a = none → l.length ≤ ks.length → (l.map Prod.snd).Nodup → (∀ q ∈ l, q ∈ ks) → (∀ q ∈ ks, q.2 ∈ l.map Prod.snd) → Q (.ref a) (upd H a (PSetO P w a l))
theorem cr_setNm (hc : X.calm = true) (hu : X.A.units + 64 < cLine) : CallR X (.type "set") (rSetNm X.K X.prog X.w) := by
  intro pins s σ H xs us Q I r h
  obtain ⟨b, ks, rfl, hl, hk, n4, q⟩ := h
  rw [Vals.ref1 r]
  obtain ⟨its, rv, pl, _⟩ := I.list hl
  have new : H s.heap.objs.size = none := I.hok.fresh (Nat.le_refl _)
  refine setOf (P := X.prog) (w := X.w) ks (I.ok.hd hc) pl.isList (by rw [List.toList_toArray]; exact refs_vals rv) (fun p hp => nmT_at I (hk p hp)) n4 (by omega) fun h' tk l rs ep t S took k => ?_
  refine ⟨.ref s.heap.objs.size, upd H s.heap.objs.size (PSetO X.prog X.w s.heap.objs.size l), I.laid (t' := tk) k (Nat.le_refl _) (psetO_ok S.bare), rfl, q _ l new took.few S.uniq (fun p hp => List.mem_of_mem_take (took.from_ p hp)) fun p hp => took.all p (by rw [List.take_length]; exact hp)⟩
def rSortNm (K : PySem.W.Frag) (P : Program) (w : World) : List V → Hp → VK → Prop := fun xs H Q => ∃ (a : Addr) (l : List (Addr × Nm)), xs = [V.ref a] ∧ H a = some (PSetO P w a l) ∧ (∀ q ∈ l, NmT K H q) ∧
  ∀ (l' : List (Addr × Nm)) (p : Addr), l'.Perm l → l'.Pairwise (fun q r => nmLt q.2 r.2 = true) → l'.length = l.length → l'.length < 60 → H p = none → Q (.ref p) (upd H p (.lst (l'.map fun q => V.ref q.1)))
theorem cr_sortNm (hc : X.calm = true) (hu : X.A.units + 64 < cLine) : CallR X (.builtin "sorted") (rSortNm X.K X.prog X.w) := by
  intro pins s σ H xs us Q I r h
  obtain ⟨a, l, rfl, ha, hk, q⟩ := h
  obtain ⟨rs, ep, t, c1, c2, c3, c4, c5, c6, c7⟩ : PSet0 X.prog X.w s.heap a l := (I.hok a _ ha).1
  have S : PSet X.prog X.w s.heap a l rs ep t := ⟨c1, c2, c3, c4, fun p hp => nmT_at I (hk p hp), c5, c6, c7⟩
  rw [Vals.ref1 r]
  refine sortedOf S (I.ok.hd hc) (by omega) fun now p out c l' k g o hp hg eo pm pw => ?_
  have l4 : l'.length < 60 := by
    rw [pm.length_eq]
    exact c7
  have fits : (l'.map fun q => V.ref q.1).length ≤ sizeLine := by
    rw [List.length_map, sizeLine_eq]
    omega
  have new : H p = none := I.hok.fresh hp
  have vals : Vals (l'.map fun q => V.ref q.1) out.toList := by
    rw [eo]
    exact vals_refs l'
  obtain ⟨h', g', d', tk', os'⟩ := now
  obtain rfl : g' = s.gens := g
  obtain rfl : os' = s.os := o
  have J : L2.Inv X pins σ (upd H p (.lst (l'.map fun q => V.ref q.1))) { s with heap := h', gens := s.gens, drawn := d', toks := tk' } := I.call (ch := []) (Un.laid k hp new) (I.hok.laid k hp ⟨fits, out.toList, c, vals, hg⟩) I.bare (fun _ z => nomatch z)
  exact ⟨.ref p, _, J, rfl, q l' p pm pw pm.length_eq l4 new⟩
/-- set(xs), xs a list of numbers -/
def rSetI (K : PySem.W.Frag) (w : World) : List V → Hp → VK → Prop := fun xs H Q => ∃ (b : Addr) (ns : List Int), xs = [V.ref b] ∧ SqL K H b (ns.map V.int) ∧ ns.length < 60 ∧ ∀ a c, H a = none → c ≤ ns.length → Q (.ref a) (upd H a (SetO w a (fun j => decide (j ∈ ns)) c))
theorem cr_setI (hc : X.calm = true) : CallR X (.type "set") (rSetI X.K X.w) := by
  intro pins s σ H xs us Q I r h
  obtain ⟨b, ns, rfl, hl, n60, q⟩ := h
  rw [Vals.ref1 r]
  obtain ⟨its, rv, pl, _⟩ := I.list hl
  have new : H s.heap.objs.size = none := I.hok.fresh (Nat.le_refl _)
  refine setOfInts (P := X.prog) (w := X.w) ns (I.ok.hd hc) pl.isList (by rw [List.toList_toArray]; exact rv.ints) (by unfold scanBound; omega) fun h' tk c S cn k => ?_
  exact ⟨.ref s.heap.objs.size, upd H s.heap.objs.size (SetO X.w s.heap.objs.size (fun j => decide (j ∈ ns)) c), I.laid (t' := tk) k (Nat.le_refl _) (setO_new S), rfl, q _ c new cn⟩
end
end Lb

set_option Elab.async false
set_option linter.all false
set_option maxRecDepth 100000
set_option maxHeartbeats 4000000
/-! values as data, in a heap of which one place (st) may change -/
namespace Lb
open PySem PySem.Spec PyProof.Rows L2
/-- all that stood stands, but for the places st -/
def But (st : List Addr) (H H' : Hp) : Prop := ∀ b o, b ∉ st → H b = some o → H' b = some o
theorem But.of {st : List Addr} {H H' : Hp} (s : Same H H') : But st H H' := fun b o _ e => s b o e
theorem But.refl {st : List Addr} {H : Hp} : But st H H := fun _ _ _ e => e
theorem But.trans {st : List Addr} {H H1 H2 : Hp} (a : But st H H1) (b : But st H1 H2) : But st H H2 := fun c o n e => b c o n (a c o n e)
theorem But.mono {st st' : List Addr} {H H' : Hp} (a : But st H H') (h : ∀ x ∈ st, x ∈ st') : But st' H H' := fun b o n e => a b o (fun z => n (h b z)) e
theorem But.upd {st : List Addr} {H H' : Hp} {x : Addr} {o : HO} (a : But st H H') (h : x ∈ st) : But st H (upd H' x o) := fun b u n e => by
  rw [upd_ne fun z => n (by rw [z]; exact h)]
  exact a b u n e
theorem But.new {st : List Addr} {H H' : Hp} {x : Addr} {o : HO} (a : But st H H') (h : H' x = none) : But st H (L2.upd H' x o) := a.trans (.of fun b u e => by rw [upd_ne (ne_of_none e h)]; exact e)
theorem But.at1 {x : Addr} {H H' : Hp} {b : Addr} {o : HO} (a : But [x] H H') (e : H b = some o) (n : b ≠ x) : H' b = some o := a b o (fun z => n (List.mem_singleton.mp z)) e
theorem same_new {H : Hp} {p : Addr} {o : HO} (np : H p = none) : Same H (upd H p o) := fun b u e => by rw [upd_ne (ne_of_none e np)]; exact e
theorem Same.to {H H1 : Hp} {p : Addr} {o : HO} (s : Same H H1) (np : H1 p = none) : Same H (upd H1 p o) := s.trans (same_new np)
theorem But.drop {st : List Addr} {H H' : Hp} {x : Addr} {o : HO} (a : But (x :: st) (L2.upd H x o) H') (h : H x = none) : But st H H' := fun b u n e =>
  a b u (fun z => (List.mem_cons.mp z).elim (ne_of_none e h) n) (by rw [upd_ne (ne_of_none e h)]; exact e)
mutual
/-- the value v reads as the data d; no list of it stands at st -/
inductive Rep (st : List Addr) (H : Hp) : V → PyData → Prop
  | non : Rep st H .non .none
  | bl (b : Bool) : Rep st H (.bl b) (.bool b)
  | int (i : Int) : Rep st H (.int i) (.int i)
  | str (x : Str) : Rep st H (.str x) (.str x)
  | tup {a : Addr} {xs : List V} {ds : List PyData} : H a = some (.tup xs) → a ∉ st → Reps st H xs ds → Rep st H (.ref a) (.tuple ds)
  | lst {a : Addr} {xs : List V} {ds : List PyData} : H a = some (.lst xs) → a ∉ st → Reps st H xs ds → Rep st H (.ref a) (.list ds)
  | dct {a : Addr} {kvs : List (Key × V)} : H a = some (.dK kvs) → a ∉ st → Rep st H (.ref a) (.dict [])
inductive Reps (st : List Addr) (H : Hp) : List V → List PyData → Prop
  | nil : Reps st H [] []
  | cons {v : V} {vs : List V} {d : PyData} {ds : List PyData} : Rep st H v d → Reps st H vs ds → Reps st H (v :: vs) (d :: ds)
end
mutual
theorem Rep.but {st : List Addr} {H H' : Hp} (k : But st H H') : ∀ (d : PyData) (v : V), Rep st H v d → Rep st H' v d
  | .none, _, .non => .non
  | .bool _, _, .bl b => .bl b
  | .int _, _, .int i => .int i
  | .str _, _, .str x => .str x
  | .tuple ds, _, .tup (xs := xs) h n r => .tup (k _ _ n h) n (Reps.but k ds xs r)
  | .list ds, _, .lst (xs := xs) h n r => .lst (k _ _ n h) n (Reps.but k ds xs r)
  | .dict _, _, .dct h n => .dct (k _ _ n h) n
theorem Reps.but {st : List Addr} {H H' : Hp} (k : But st H H') : ∀ (ds : List PyData) (vs : List V), Reps st H vs ds → Reps st H' vs ds
  | [], _, .nil => .nil
  | d :: ds, _, .cons r rs => .cons (Rep.but k d _ r) (Reps.but k ds _ rs)
end
section
variable {st : List Addr} {H H' : Hp} {v : V} {vs : List V} {d : PyData} {ds : List PyData}
theorem Rep.mv (r : Rep st H v d) (k : But st H H') : Rep st H' v d := Rep.but k d v r
theorem Reps.mv (r : Reps st H vs ds) (k : But st H H') : Reps st H' vs ds := Reps.but k ds vs r
theorem Rep.sm (r : Rep st H v d) (k : Same H H') : Rep st H' v d := r.mv (.of k)
theorem Reps.sm (r : Reps st H vs ds) (k : Same H H') : Reps st H' vs ds := r.mv (.of k)
theorem Reps.length : ∀ {vs : List V} {ds : List PyData}, Reps st H vs ds → vs.length = ds.length
  | _, _, .nil => rfl
  | _, _, .cons _ r => by rw [List.length_cons, List.length_cons, Reps.length r]
theorem Reps.get : ∀ {vs : List V} {ds : List PyData} {i : Nat} {x : V}, Reps st H vs ds → vs[i]? = some x → ∃ d, ds[i]? = some d ∧ Rep st H x d
  | _, _, _, _, .nil, e => by simp at e
  | _, _, 0, _, .cons r _, e => by simp at e; subst e; exact ⟨_, rfl, r⟩
  | _, _, i + 1, x, .cons _ t, e => by
    obtain ⟨u, h1, h2⟩ := Reps.get (i := i) (x := x) t (by simpa using e)
    exact ⟨u, by simpa using h1, h2⟩
theorem Reps.at_ : ∀ {vs : List V} {ds : List PyData} {i : Nat} {d : PyData}, Reps st H vs ds → ds[i]? = some d → ∃ x, vs[i]? = some x ∧ Rep st H x d
  | _, _, _, _, .nil, e => by simp at e
  | _, _, 0, _, .cons r _, e => by simp at e; subst e; exact ⟨_, rfl, r⟩
  | _, _, i + 1, x, .cons _ t, e => by
    obtain ⟨u, h1, h2⟩ := Reps.at_ (i := i) t (by simpa using e)
    exact ⟨u, by simpa using h1, h2⟩
theorem Reps.app : ∀ {vs ws : List V} {ds es : List PyData}, Reps st H vs ds → Reps st H ws es → Reps st H (vs ++ ws) (ds ++ es)
  | _, _, _, _, .nil, r => r
  | _, _, _, _, .cons a b, r => .cons a (Reps.app b r)
theorem Reps.one (r : Rep st H v d) : Reps st H [v] [d] := .cons r .nil
theorem Reps.cut : ∀ {vs : List V} {ds : List PyData} (n : Nat), Reps st H vs ds → Reps st H (vs.take n) (ds.take n)
  | _, _, 0, _ => .nil
  | _, _, _ + 1, .nil => .nil
  | _, _, n + 1, .cons r t => .cons r (Reps.cut n t)
theorem Reps.skip : ∀ {vs : List V} {ds : List PyData} (n : Nat), Reps st H vs ds → Reps st H (vs.drop n) (ds.drop n)
  | _, _, 0, r => r
  | _, _, _ + 1, .nil => .nil
  | _, _, n + 1, .cons _ t => Reps.skip n t
theorem Rep.tupI {a : Addr} (r : Rep st H (.ref a) (.tuple ds)) : ∃ xs, H a = some (.tup xs) ∧ a ∉ st ∧ Reps st H xs ds := by
  cases r with
  | tup h n r => exact ⟨_, h, n, r⟩
theorem Rep.tupV (r : Rep st H v (.tuple ds)) : ∃ a xs, v = .ref a ∧ H a = some (.tup xs) ∧ a ∉ st ∧ Reps st H xs ds := by
  cases r with
  | tup h n r => exact ⟨_, _, rfl, h, n, r⟩
theorem Rep.lstV (r : Rep st H v (.list ds)) : ∃ a xs, v = .ref a ∧ H a = some (.lst xs) ∧ a ∉ st ∧ Reps st H xs ds := by
  cases r with
  | lst h n r => exact ⟨_, _, rfl, h, n, r⟩
theorem Rep.intV {i : Int} (r : Rep st H v (.int i)) : v = .int i := by cases r; rfl
theorem Rep.strV {i : Str} (r : Rep st H v (.str i)) : v = .str i := by cases r; rfl
theorem Rep.blV {i : Bool} (r : Rep st H v (.bool i)) : v = .bl i := by cases r; rfl
theorem Rep.nonV (r : Rep st H v .none) : v = .non := by cases r; rfl
end
mutual
theorem Rep.more {st : List Addr} {H : Hp} {x : Addr} (nx : H x = none) : ∀ (d : PyData) (v : V), Rep st H v d → Rep (x :: st) H v d
  | .none, _, .non => .non
  | .bool _, _, .bl b => .bl b
  | .int _, _, .int i => .int i
  | .str _, _, .str x => .str x
  | .tuple ds, _, .tup (xs := xs) h n r => .tup h (fun z => (List.mem_cons.mp z).elim (ne_of_none h nx) n) (Reps.more nx ds xs r)
  | .list ds, _, .lst (xs := xs) h n r => .lst h (fun z => (List.mem_cons.mp z).elim (ne_of_none h nx) n) (Reps.more nx ds xs r)
  | .dict _, _, .dct h n => .dct h (fun z => (List.mem_cons.mp z).elim (ne_of_none h nx) n)
theorem Reps.more {st : List Addr} {H : Hp} {x : Addr} (nx : H x = none) : ∀ (ds : List PyData) (vs : List V), Reps st H vs ds → Reps (x :: st) H vs ds
  | [], _, .nil => .nil
  | d :: ds, _, .cons r rs => .cons (Rep.more nx d _ r) (Reps.more nx ds _ rs)
end
mutual
theorem Rep.less {st st' : List Addr} {H : Hp} (k : ∀ a ∈ st', a ∈ st) : ∀ (d : PyData) (v : V), Rep st H v d → Rep st' H v d
  | .none, _, .non => .non
  | .bool _, _, .bl b => .bl b
  | .int _, _, .int i => .int i
  | .str _, _, .str x => .str x
  | .tuple ds, _, .tup (xs := xs) h n r => .tup h (fun z => n (k _ z)) (Reps.less k ds xs r)
  | .list ds, _, .lst (xs := xs) h n r => .lst h (fun z => n (k _ z)) (Reps.less k ds xs r)
  | .dict _, _, .dct h n => .dct h (fun z => n (k _ z))
theorem Reps.less {st st' : List Addr} {H : Hp} (k : ∀ a ∈ st', a ∈ st) : ∀ (ds : List PyData) (vs : List V), Reps st H vs ds → Reps st' H vs ds
  | [], _, .nil => .nil
  | d :: ds, _, .cons r rs => .cons (Rep.less k d _ r) (Reps.less k ds _ rs)
end
theorem But.own {st : List Addr} {H H' : Hp} {x : Addr} {o : HO} (a : But st H H') (h : H x = none) : But st H (L2.upd H' x o) := fun b u n e => by
  rw [upd_ne (ne_of_none e h)]
  exact a b u n e
mutual
/-- no list and no dict in it -/
def noLst : PyData → Bool
  | .list _ => false
  | .dict _ => false
  | .tuple ds => noLsts ds
  | _ => true
def noLsts : List PyData → Bool
  | [] => true
  | d :: ds => noLst d && noLsts ds
end
mutual
theorem Rep.avoid {st : List Addr} {H : Hp} {x : Addr} {xs : List V} (hx : H x = some (.lst xs)) : ∀ (d : PyData) (v : V), noLst d = true → Rep st H v d → Rep (x :: st) H v d
  | .none, _, _, .non => .non
  | .bool _, _, _, .bl b => .bl b
  | .int _, _, _, .int i => .int i
  | .str _, _, _, .str x => .str x
  | .tuple ds, _, z, .tup (xs := ys) h n r => .tup h (fun m => (List.mem_cons.mp m).elim (ne_of h hx (fun q => nomatch q)) n) (Reps.avoid hx ds ys z r)
  | .list ds, _, z, .lst h n r => nomatch z
  | .dict _, _, z, .dct h n => nomatch z
theorem Reps.avoid {st : List Addr} {H : Hp} {x : Addr} {xs : List V} (hx : H x = some (.lst xs)) : ∀ (ds : List PyData) (vs : List V), noLsts ds = true → Reps st H vs ds → Reps (x :: st) H vs ds
  | [], _, _, .nil => .nil
  | d :: ds, _, z, .cons r rs => .cons (Rep.avoid hx d _ (Bool.and_eq_true_iff.mp z).1 r) (Reps.avoid hx ds _ (Bool.and_eq_true_iff.mp z).2 rs)
end
/-- the built-in class of what reads so -/
def tyN : PyData → String
  | .none => "NoneType" | .bool _ => "bool" | .int _ => "int" | .str _ => "str" | .tuple _ => "tuple" | .list _ => "list" | .dict _ => "dict"
theorem Rep.ty {K : PySem.W.Frag} {st : List Addr} {H : Hp} {v : V} {d : PyData} (r : Rep st H v d) : TyX K H v (.type (tyN d)) := by
  cases r with
  | non => exact .base .non
  | bl b => exact .base (.bl b)
  | int i => exact .base (.int i)
  | str x => exact .base (.str x)
  | tup h _ _ => exact .base (.tup h)
  | lst h _ _ => exact .base (.lst h)
  | dct h _ => exact .base (.dK h)
def isTup : PyData → Bool
  | .tuple _ => true
  | _ => false
def isInt : PyData → Bool
  | .int _ => true
  | .bool _ => true
  | _ => false
def isBl : PyData → Bool
  | .bool _ => true
  | _ => false
def isStr : PyData → Bool
  | .str _ => true
  | _ => false
def isLst : PyData → Bool
  | .list _ => true
  | _ => false
theorem kit_tup (d : PyData) : kitB (tyN d) "tuple" = some (isTup d) := by cases d <;> (dsimp only [tyN, isTup]; decide +kernel)
theorem kit_int (d : PyData) : kitB (tyN d) "int" = some (isInt d) := by cases d <;> (dsimp only [tyN, isInt]; decide +kernel)
theorem kit_bool (d : PyData) : kitB (tyN d) "bool" = some (isBl d) := by cases d <;> (dsimp only [tyN, isBl]; decide +kernel)
theorem kit_str (d : PyData) : kitB (tyN d) "str" = some (isStr d) := by cases d <;> (dsimp only [tyN, isStr]; decide +kernel)
theorem kit_list (d : PyData) : kitB (tyN d) "list" = some (isLst d) := by cases d <;> (dsimp only [tyN, isLst]; decide +kernel)
section
variable {X : Cx}
/-- isinstance(x, T), x any such value, T a built-in class -/
def rIsD : List V → Hp → VK → Prop := fun xs H Q => ∃ (v : V) (T : String) (st : List Addr) (d : PyData) (b : Bool), xs = [v, .ty T] ∧ Rep st H v d ∧ kitB (tyN d) T = some b ∧ Q (.bl b) H
theorem call_isiD : CallR X (.builtin "isinstance") rIsD := by
  intro pins s σ H xs us Q I r h
  obtain ⟨v, T, st, d, b, rfl, hr, hk, q⟩ := h
  exact call_isi pins s σ H _ us Q I r ⟨v, .ty T, _, _, _, rfl, .ty T, hr.ty, kit_ty hk, q⟩
end
mutual
/-- such data without dicts and any reading of it -/
def noDict : PyData → Bool
  | .dict _ => false
  | .tuple ds => noDicts ds
  | .list ds => noDicts ds
  | _ => true
def noDicts : List PyData → Bool
  | [] => true
  | d :: ds => noDict d && noDicts ds
end
mutual
theorem Rep.dp {K : PySem.W.Frag} {st : List Addr} {H : Hp} : ∀ (d : PyData) (v : V), noDict d = true → Rep st H v d → Dp K H v d
  | .none, _, _, .non => .non
  | .bool _, _, _, .bl b => .bl b
  | .int _, _, _, .int i => .int i
  | .str _, _, _, .str x => .str x
  | .tuple ds, _, z, .tup (xs := xs) h _ r => .tup (SqT.of h) (Reps.dp ds xs (z) r)
  | .list ds, _, z, .lst (xs := xs) h _ r => .lst (SqL.of h) (Reps.dp ds xs (z) r)
  | .dict _, _, z, .dct h n => absurd z (by simp [noDict])
theorem Reps.dp {K : PySem.W.Frag} {st : List Addr} {H : Hp} : ∀ (ds : List PyData) (vs : List V), noDicts ds = true → Reps st H vs ds → DpAll K H vs ds
  | [], _, _, .nil => .nil
  | d :: ds, _, z, .cons r rs => by
    have z2 : noDict d = true ∧ noDicts ds = true := by simpa [noDicts] using z
    exact .cons (Rep.dp d _ z2.1 r) (Reps.dp ds _ z2.2 rs)
end
section
variable {X : Cx}
/-- a < b for alike data -/
def rLtD (K : PySem.W.Frag) : R2 := fun x y H Q => ∃ d e, Dp K H x d ∧ Dp K H y e ∧ PySem.W.alike d e = true ∧ d ≠ .none ∧ d.depth ≤ 64 ∧ Q (.bl (PySem.W.dataLt d e)) H
theorem op_ltD (hu : X.A.units + 64 < cLine) : OpR X (compareOp .Lt) (rLtD X.K) := by
  intro pins s σ H x y v u Q I rx ry h
  obtain ⟨d, e, hd, he, al, nn, dep, q⟩ := h
  obtain ⟨as, r1⟩ := Dp.reads I d x v hd rx
  obtain ⟨bs, r2⟩ := Dp.reads I e y u he ry
  exact PySem.W.rcLt_alike d e X.A s v u as bs r1 r2 al nn (by omega) X.prog X.w _ _ ⟨.bl _, H, I, rfl, q⟩
end
/-- zip of two tuples, walked -/
theorem walk_zipT {K : PySem.W.Frag} {a b : Addr} {xs ys : List V} {n : Nat} (hn : n = min xs.length ys.length) : Walk (RZ.ItzT K a b) n (fun H => SqT K H a xs ∧ SqT K H b ys) (YPair (fun i => xs[i]?) (fun i => ys[i]?)) := by
  subst hn
  refine ⟨fun i _ hi q => ?_, fun _ q => ⟨xs, ys, q.1, q.2, by omega⟩, fun i H v H' _ q y => ?_⟩
  · have c1 : i < xs.length := by omega
    have c2 : i < ys.length := by omega
    exact ⟨xs, ys, xs[i], ys[i], q.1, q.2, List.getElem?_eq_getElem c1, List.getElem?_eq_getElem c2⟩
  · obtain ⟨T, x, z, h1, h2, h3, h4, h5⟩ := y
    exact ⟨T, x, z, h1, h2, h3, h4 xs q.1, h5 ys q.2⟩
/-- a comprehension whose turns change nothing that stands: y i is what turn i gives -/
theorem lc_pure {J : It} {n : Nat} {G : Hp → Prop} {Y : Nat → Hp → V → Hp → Prop} (w : Walk J n G Y) {g : TG} {te : TE} {vs : List Nat} {σ : L2.St} {H1 : Hp} {D : Addr} {Qd : Hp → Prop} (nD : H1 D = none) (y : Nat → V) (few : n < sizeLine)
    (hG : ∀ H', Same H1 H' → G H') (hs : ∀ i x H' H'' (F : V → Hp → Prop), i < n → Same H1 H' → Y i H' x H'' → (∀ H3, Same H' H3 → F (y i) H3) → g x (wipe σ vs) H'' fun σ2 H2 => wipe σ2 vs = wipe σ vs ∧ te σ2 H2 F)
    (hd : ∀ H', Same H1 H' → H' D = some (.lst ((List.range n).map y)) → Qd H') :
    ∃ W : Nat → Nat → Hp → Prop, (∃ m, W 0 m (upd H1 D (.lst []))) ∧ ∀ i m H, W i m H →
      (J.stop i H ∧ Qd H) ∨ (J.go i H ∧ ∃ Nx : Hp → Prop, (∀ H', Nx H' → ∃ m', m' < m ∧ W (i + 1) m' H') ∧ ∀ x H', J.yld i H x H' → g x (wipe σ vs) H' fun σ2 H2 => wipe σ2 vs = wipe σ vs ∧ tYes σ2 H2 fun b H3 =>
        if b = true then te σ2 H3 fun y H4 => ∃ acc, H4 D = some (.lst acc) ∧ acc.length < sizeLine ∧ Nx (upd H4 D (.lst (acc ++ [y]))) else Nx H3) := by
  refine lc_it w (fun i H' => Same H1 H' ∧ H' D = some (.lst ((List.range i).map y))) ⟨same_new nD, upd_same⟩ (fun i H' _ p => hG H' p.1) (fun i x H' H'' hi p hy => ?_) (fun H' p => hd H' p.1 p.2)
  obtain ⟨s1, d1⟩ := p
  refine hs i x H' H'' _ hi s1 hy fun H3 s3 => ⟨_, s3 _ _ d1, ?_, ?_, ?_⟩
  · rw [List.length_map, List.length_range]
    omega
  · intro b o e
    have nb : b ≠ D := fun z => by rw [z, nD] at e; cases e
    rw [upd_ne nb]
    exact s3 _ _ (s1 _ _ e)
  · rw [upd_same, List.range_succ, List.map_append, List.map_singleton]
end Lb
namespace Lb
open PySem PySem.Spec PyProof.Rows L2
/-! rules whose reading names the written part by itself (they stand within comprehensions) -/
def rLen2 (K : PySem.W.Frag) : List V → Hp → VK → Prop := fun xs H Q => ∃ p ys, xs = [V.ref p] ∧ (SqL K H p ys ∨ SqT K H p ys) ∧ Q (.int ys.length) H
theorem len_k {X : Cx} : CallR X (.builtin "len") (rLen2 X.K) := call_len_seq
end Lb
namespace Lb
open PySem PySem.Spec PyProof.Rows L2
/-! two clauses in one comprehension -/
theorem lc2_in {J1 : It} {n1 : Nat} {G1 : Hp → Prop} {Y1 : Nat → Hp → V → Hp → Prop} (w1 : Walk J1 n1 G1 Y1) {g1 : TG} {tt1 : TT} {te : TE} {vs1 : List Nat} {σ2 : L2.St} {H4 : Hp} {D : Addr} {N : Hp → Prop} (P1 : Nat → Hp → Prop) (h0 : P1 0 H4) (hG : ∀ j H, j ≤ n1 → P1 j H → G1 H)
    (hs : ∀ j x H H', j < n1 → P1 j H → Y1 j H x H' → g1 x (wipe σ2 vs1) H' fun σ3 H5 => wipe σ3 vs1 = wipe σ2 vs1 ∧ tt1 σ3 H5 fun b H6 =>
      if b = true then te σ3 H6 fun y H7 => ∃ acc, H7 D = some (.lst acc) ∧ acc.length < sizeLine ∧ P1 (j + 1) (upd H7 D (.lst (acc ++ [y]))) else P1 (j + 1) H6) (hd : ∀ H, P1 n1 H → N H) :
    ∃ W1 : Nat → Nat → Hp → Prop, (∃ m, W1 0 m H4) ∧ ∀ j k H, W1 j k H →
      (J1.stop j H ∧ N H) ∨ (J1.go j H ∧ ∃ Nx1 : Hp → Prop, (∀ H', Nx1 H' → ∃ k', k' < k ∧ W1 (j + 1) k' H') ∧ ∀ x H', J1.yld j H x H' → g1 x (wipe σ2 vs1) H' fun σ3 H5 => wipe σ3 vs1 = wipe σ2 vs1 ∧ tt1 σ3 H5 fun b H6 =>
        if b = true then te σ3 H6 fun y H7 => ∃ acc, H7 D = some (.lst acc) ∧ acc.length < sizeLine ∧ Nx1 (upd H7 D (.lst (acc ++ [y]))) else Nx1 H6) := by
  refine ⟨fun j m H => m = n1 - j ∧ j ≤ n1 ∧ P1 j H, ⟨n1, by omega, Nat.zero_le _, h0⟩, fun j m H p => ?_⟩
  obtain ⟨rfl, hj, p⟩ := p
  have q := hG j H hj p
  rcases Nat.lt_or_ge j n1 with lt | ge
  · exact .inr ⟨w1.goes j H lt q, P1 (j + 1), fun H' p' => ⟨n1 - (j + 1), by omega, rfl, lt, p'⟩, fun x H' y => hs j x H H' lt p (w1.yields j H x H' lt q y)⟩
  · obtain rfl : j = n1 := Nat.le_antisymm hj ge
    exact .inl ⟨w1.stops H q, hd H p⟩
theorem lc2_out {J : It} {n : Nat} {G : Hp → Prop} {Y : Nat → Hp → V → Hp → Prop} (w : Walk J n G Y) {g g1 : TG} {tt tt1 : TT} {wi1 : TI} {te : TE} {vs vs1 : List Nat} {σ : L2.St} {H1 : Hp} {D : Addr} {Qd : Hp → Prop} (Pv : Nat → Hp → Prop) (h0 : Pv 0 (upd H1 D (.lst []))) (hG : ∀ i H, i ≤ n → Pv i H → G H)
    (hs : ∀ i x H H', i < n → Pv i H → Y i H x H' → g x (wipe σ vs) H' fun σ2 H2 => wipe σ2 vs = wipe σ vs ∧ tt σ2 H2 fun b H3 =>
      if b = true then wi1 σ2 H3 fun J1 H4 => ∃ W1 : Nat → Nat → Hp → Prop, (∃ m, W1 0 m H4) ∧ ∀ j k H, W1 j k H →
        (J1.stop j H ∧ Pv (i + 1) H) ∨ (J1.go j H ∧ ∃ Nx1 : Hp → Prop, (∀ H', Nx1 H' → ∃ k', k' < k ∧ W1 (j + 1) k' H') ∧ ∀ x H', J1.yld j H x H' → g1 x (wipe σ2 vs1) H' fun σ3 H5 => wipe σ3 vs1 = wipe σ2 vs1 ∧ tt1 σ3 H5 fun b H6 =>
          if b = true then te σ3 H6 fun y H7 => ∃ acc, H7 D = some (.lst acc) ∧ acc.length < sizeLine ∧ Nx1 (upd H7 D (.lst (acc ++ [y]))) else Nx1 H6)
      else Pv (i + 1) H3) (hd : ∀ H, Pv n H → Qd H) :
    ∃ W : Nat → Nat → Hp → Prop, (∃ m, W 0 m (upd H1 D (.lst []))) ∧ ∀ i m H, W i m H →
      (J.stop i H ∧ Qd H) ∨ (J.go i H ∧ ∃ Nx : Hp → Prop, (∀ H', Nx H' → ∃ m', m' < m ∧ W (i + 1) m' H') ∧ ∀ x H', J.yld i H x H' → g x (wipe σ vs) H' fun σ2 H2 => wipe σ2 vs = wipe σ vs ∧ tt σ2 H2 fun b H3 =>
        if b = true then wi1 σ2 H3 fun J1 H4 => ∃ W1 : Nat → Nat → Hp → Prop, (∃ m, W1 0 m H4) ∧ ∀ j k H, W1 j k H →
          (J1.stop j H ∧ Nx H) ∨ (J1.go j H ∧ ∃ Nx1 : Hp → Prop, (∀ H', Nx1 H' → ∃ k', k' < k ∧ W1 (j + 1) k' H') ∧ ∀ x H', J1.yld j H x H' → g1 x (wipe σ2 vs1) H' fun σ3 H5 => wipe σ3 vs1 = wipe σ2 vs1 ∧ tt1 σ3 H5 fun b H6 =>
            if b = true then te σ3 H6 fun y H7 => ∃ acc, H7 D = some (.lst acc) ∧ acc.length < sizeLine ∧ Nx1 (upd H7 D (.lst (acc ++ [y]))) else Nx1 H6)
        else Nx H3) := by
  refine ⟨fun i m H => m = n - i ∧ i ≤ n ∧ Pv i H, ⟨n, by omega, Nat.zero_le _, h0⟩, fun i m H p => ?_⟩
  obtain ⟨rfl, hi, p⟩ := p
  have q := hG i H hi p
  rcases Nat.lt_or_ge i n with lt | ge
  · exact .inr ⟨w.goes i H lt q, Pv (i + 1), fun H' p' => ⟨n - (i + 1), by omega, rfl, lt, p'⟩, fun x H' y => hs i x H H' lt p (w.yields i H x H' lt q y)⟩
  · obtain rfl : i = n := Nat.le_antisymm hi ge
    exact .inl ⟨w.stops H q, hd H p⟩
end Lb

set_option Elab.async false
set_option linter.all false
set_option maxRecDepth 100000
set_option maxHeartbeats 4000000
/-! the data of the programs that the laws draw: names, needs, rows -/
namespace Lb
open PySem PySem.Spec PyProof.Rows L2
def letters : List Str := ["a", "b", "c", "d"]
/-- a name of a program of c parts -/
def nmOk (c : Int) (p : Nm) : Prop := 0 ≤ p.1 ∧ p.1 < c ∧ p.2 ∈ letters
theorem letter_at {v : Int} (h0 : 0 ≤ v) (h1 : v < 4) : ∃ c, atI ("abcd" : Str).cps.toList v = some c ∧ (⟨#[c]⟩ : Str) ∈ letters := by
  rcases (by omega : v = 0 ∨ v = 1 ∨ v = 2 ∨ v = 3) with e | e | e | e <;> subst e
  · exact ⟨97, by decide +kernel, by decide +kernel⟩
  · exact ⟨98, by decide +kernel, by decide +kernel⟩
  · exact ⟨99, by decide +kernel, by decide +kernel⟩
  · exact ⟨100, by decide +kernel, by decide +kernel⟩
def isNms (c : Int) (ds : List PyData) (ps : List Nm) : Prop := ds = ps.map nmD ∧ ∀ p ∈ ps, nmOk c p
theorem isNms.at_ {c : Int} {ds : List PyData} {ps : List Nm} (h : isNms c ds ps) {i : Nat} {d : PyData} (e : ds[i]? = some d) : ∃ p, ps[i]? = some p ∧ d = nmD p ∧ nmOk c p := by
  rw [h.1, List.getElem?_map] at e
  obtain ⟨p, hp, e2⟩ := Option.map_eq_some_iff.mp e
  exact ⟨p, hp, e2.symm, h.2 p (List.mem_of_getElem? hp)⟩
def needsD (ps : List Nm) : PyData := .tuple (ps.map nmD)
def needsOk (c : Int) (m : Nat) (ps : List Nm) : Prop := ps.length ≤ m ∧ ∀ p ∈ ps, nmOk c p
/-- the rows -/
inductive Row where
  | load (p : Int) | give (n : Str) (ns : List Nm) (r : Bool) | pass (n : Str) (p : Int) (o : Str) | show_ (ns : List Nm) (r : Bool) | out | late (n : Str) (p : Int) (ns : List Nm)
def Row.word : Row → Str
  | .load _ => "load" | .give .. => "give" | .pass .. => "pass" | .show_ .. => "show" | .out => "out" | .late .. => "late"
def Row.d : Row → PyData
  | .load p => .tuple [.str "load", .int p]
  | .give n ns r => .tuple [.str "give", .str n, needsD ns, .bool r]
  | .pass n p o => .tuple [.str "pass", .str n, .int p, .str o]
  | .show_ ns r => .tuple [.str "show", needsD ns, .bool r]
  | .out => .tuple [.str "out"]
  | .late n p ns => .tuple [.str "late", .str n, .int p, needsD ns]
def Row.ok (c : Int) : Row → Prop
  | .load p => 0 ≤ p ∧ p < c
  | .give n ns _ => n ∈ letters ∧ needsOk c 1 ns
  | .pass n p o => n ∈ letters ∧ (0 ≤ p ∧ p < c) ∧ o ∈ letters
  | .show_ ns _ => needsOk c 2 ns
  | .out => True
  | .late n p ns => n ∈ letters ∧ (-1 ≤ p ∧ p < c) ∧ needsOk c 2 ns
def wordsOf : List Str := ["give", "show", "load", "pass", "late", "out"]
/-- a plan of a row -/
structure Plan where
  (w n : Str) (p : Int) (o : Str)
def Plan.d (x : Plan) : PyData := .tuple [.str x.w, .str x.n, .int x.p, .str x.o]
def Plan.ok (c : Int) (x : Plan) : Prop := x.w ∈ wordsOf ∧ x.n ∈ letters ∧ (0 ≤ x.p ∧ x.p < c) ∧ x.o ∈ letters
end Lb
namespace Lb
open PySem PySem.Spec PyProof.Rows L2
/-! the plans of all parts -/
theorem names_cut {v : Int} (h0 : 0 ≤ v) (h1 : v < 4) : ∃ z : Str, cutS ("abcd" : Str) none (some (1 + v)) = z ∧ (z.length : Int) = 1 + v ∧ ∀ u : Int, 0 ≤ u → u < 1 + v → ∃ c, atI z.cps.toList u = some c ∧ (⟨#[c]⟩ : Str) ∈ letters := by
  rcases (by omega : v = 0 ∨ v = 1 ∨ v = 2 ∨ v = 3) with e | e | e | e <;> subst e
  · refine ⟨"a", by decide +kernel, by decide +kernel, fun u u0 u1 => ?_⟩
    rcases (by omega : u = 0) with e
    subst e
    exact ⟨97, by decide +kernel, by decide +kernel⟩
  · refine ⟨"ab", by decide +kernel, by decide +kernel, fun u u0 u1 => ?_⟩
    rcases (by omega : u = 0 ∨ u = 1) with e | e <;> subst e
    · exact ⟨97, by decide +kernel, by decide +kernel⟩
    · exact ⟨98, by decide +kernel, by decide +kernel⟩
  · refine ⟨"abc", by decide +kernel, by decide +kernel, fun u u0 u1 => ?_⟩
    rcases (by omega : u = 0 ∨ u = 1 ∨ u = 2) with e | e | e <;> subst e
    · exact ⟨97, by decide +kernel, by decide +kernel⟩
    · exact ⟨98, by decide +kernel, by decide +kernel⟩
    · exact ⟨99, by decide +kernel, by decide +kernel⟩
  · refine ⟨"abcd", by decide +kernel, by decide +kernel, fun u u0 u1 => ?_⟩
    rcases (by omega : u = 0 ∨ u = 1 ∨ u = 2 ∨ u = 3) with e | e | e | e <;> subst e
    · exact ⟨97, by decide +kernel, by decide +kernel⟩
    · exact ⟨98, by decide +kernel, by decide +kernel⟩
    · exact ⟨99, by decide +kernel, by decide +kernel⟩
    · exact ⟨100, by decide +kernel, by decide +kernel⟩
def lineD (xs : List Plan) : PyData := .list (xs.map Plan.d)
def words17 : List Str := ["give", "show", "load", "pass", "late", "out", "give", "show", "load", "pass", "late", "out", "give", "show", "load", "pass", "give"]
theorem word_at {v : Int} (h0 : 0 ≤ v) (h1 : v < 17) : ∃ x, atI (words17.map V.str) v = some (.str x) ∧ x ∈ wordsOf := by
  have lt : v.toNat < words17.length := by
    show v.toNat < 17
    omega
  have e := atI_nat (xs := words17.map V.str) (j := v.toNat) (v := .str words17[v.toNat]) (by rw [List.getElem?_map, List.getElem?_eq_getElem lt]; rfl)
  rw [Int.toNat_of_nonneg h0] at e
  refine ⟨_, e, ?_⟩
  have all : ∀ x ∈ words17, x ∈ wordsOf := by decide +kernel
  exact all _ (List.getElem_mem lt)
def isOut (x : Plan) : Bool := decide (x.w = "out")
def outsIn (xs : List Plan) : Nat := xs.countP isOut
def totalOf (ls : List (List Plan)) : Nat := ls.flatten.length
def outsOf (ls : List (List Plan)) : Nat := outsIn ls.flatten
structure LinesOk (c : Int) (ls : List (List Plan)) : Prop where
  five : ∀ l ∈ ls, l.length ≤ 5
  ok : ∀ l ∈ ls, ∀ x ∈ l, x.ok c
  total : totalOf ls ≤ 12
  outs : outsOf ls ≤ 2
theorem total_snoc (ls : List (List Plan)) (l : List Plan) : totalOf (ls ++ [l]) = totalOf ls + l.length := by simp [totalOf]
theorem outs_snoc (ls : List (List Plan)) (l : List Plan) : outsOf (ls ++ [l]) = outsOf ls + outsIn l := by simp [outsOf, outsIn]
theorem outsIn_snoc (l : List Plan) (x : Plan) : outsIn (l ++ [x]) = outsIn l + (if x.w = "out" then 1 else 0) := by
  simp only [outsIn, List.countP_append, List.countP_singleton, isOut, decide_eq_true_eq]
end Lb
namespace Lb
open PySem PySem.Spec PyProof.Rows L2
/-! whole programs -/
theorem nms_keys {S : List Addr} {H : Hp} : ∀ {vs : List V} {ps : List Nm}, Reps S H vs (ps.map nmD) → ∃ ks : List (Addr × Nm), vs = ks.map (fun q => V.ref q.1) ∧ ks.map Prod.snd = ps ∧ ∀ q ∈ ks, H q.1 = some (.tup [.int q.2.1, .str q.2.2]) ∧ q.1 ∉ S
  | _, [], .nil => ⟨[], rfl, rfl, fun _ z => nomatch z⟩
  | _, p :: ps, .cons r rs => by
    obtain ⟨ks, e1, e2, h⟩ := nms_keys rs
    obtain ⟨a, xs, rfl, ha, na, ra⟩ := Rep.tupV r
    have exs : xs = [.int p.1, .str p.2] := by
      cases ra with
      | cons r1 ra => cases ra with
        | cons r2 ra => cases ra; rw [r1.intV, r2.strV]
    subst exs
    refine ⟨(a, p) :: ks, by rw [e1, List.map_cons], by rw [List.map_cons, e2], fun q hq => ?_⟩
    rcases List.mem_cons.mp hq with z | z
    · rw [z]
      exact ⟨ha, na⟩
    · exact h q z
theorem keys_nms {S : List Addr} {H : Hp} : ∀ (ks : List (Addr × Nm)), (∀ q ∈ ks, H q.1 = some (.tup [.int q.2.1, .str q.2.2]) ∧ q.1 ∉ S) → Reps S H (ks.map fun q => V.ref q.1) ((ks.map Prod.snd).map nmD)
  | [], _ => .nil
  | q :: ks, h => .cons (.tup (h q List.mem_cons_self).1 (h q List.mem_cons_self).2 (.cons (.int _) (.cons (.str _) .nil))) (keys_nms ks fun r hr => h r (List.mem_cons_of_mem _ hr))
theorem bls_rep {S : List Addr} {H : Hp} : ∀ bs : List Bool, Reps S H (bs.map V.bl) (bs.map .bool)
  | [] => .nil
  | b :: bs => .cons (.bl b) (bls_rep bs)
theorem ints_rep {S : List Addr} {H : Hp} : ∀ ns : List Int, Reps S H (ns.map V.int) (ns.map .int)
  | [] => .nil
  | n :: ns => .cons (.int n) (ints_rep ns)
def rowsD (rs : List Row) : PyData := .tuple (rs.map Row.d)
structure Prog where
  parts : List (List Row)
  marks : List Bool
  entries : List Int
  opens : List Nm
def Prog.d (P : Prog) : PyData := .tuple [.tuple (P.parts.map rowsD), .tuple (P.marks.map .bool), .tuple (P.entries.map .int), needsD P.opens]
def Prog.c (P : Prog) : Int := P.parts.length
structure Prog.Ok (P : Prog) : Prop where
  one : 1 ≤ P.parts.length
  four : P.parts.length ≤ 4
  five : ∀ rs ∈ P.parts, rs.length ≤ 5
  twelve : P.parts.flatten.length ≤ 12
  outs : (P.parts.flatten.map Row.word).countP (fun w : Str => decide (w = ("out" : Str))) ≤ 2
  rows : ∀ rs ∈ P.parts, ∀ r ∈ rs, r.ok P.c
  marks : P.marks.length = P.parts.length
  ent1 : 1 ≤ P.entries.length
  ent3 : P.entries.length ≤ 3
  entIn : ∀ e ∈ P.entries, 0 ≤ e ∧ e < P.c
  entUp : P.entries.Pairwise (· < ·)
  op4 : P.opens.length ≤ 4
  opIn : ∀ p ∈ P.opens, nmOk P.c p
  opUp : P.opens.Pairwise (fun p q => nmLt p q = true)
theorem noLst_nms (ps : List Nm) : noLsts (ps.map nmD) = true := by
  induction ps with
  | nil => rfl
  | cons p ps ih => rw [List.map_cons, noLsts, ih]; rfl
theorem noLst_row (r : Row) : noLst r.d = true := by
  cases r <;> simp [Row.d, noLst, noLsts, needsD, noLst_nms]
theorem noLst_rows (rs : List Row) : noLsts (rs.map Row.d) = true := by
  induction rs with
  | nil => rfl
  | cons r rs ih => rw [List.map_cons, noLsts, ih, noLst_row]; rfl
end Lb
namespace Lb
open PySem PySem.Spec PyProof.Rows L2
theorem prog_shape {c : Int} {prs : List (List Row)} {ls : List (List Plan)} (pw : prs.map (List.map Row.word) = ls.map (List.map Plan.w)) (lok : LinesOk c ls) :
    prs.length = ls.length ∧ (∀ rs ∈ prs, rs.length ≤ 5) ∧ prs.flatten.length ≤ 12 ∧ (prs.flatten.map Row.word).countP (fun w : Str => decide (w = ("out" : Str))) ≤ 2 := by
  have e : prs.flatten.map Row.word = ls.flatten.map Plan.w := by rw [List.map_flatten, List.map_flatten, pw]
  refine ⟨?_, fun rs hrs => ?_, ?_, ?_⟩
  · have z := congrArg List.length pw
    rwa [List.length_map, List.length_map] at z
  · have m : rs.map Row.word ∈ ls.map (List.map Plan.w) := by
      rw [← pw]
      exact List.mem_map.mpr ⟨rs, hrs, rfl⟩
    obtain ⟨xs, hxs, ex⟩ := List.mem_map.mp m
    have z := congrArg List.length ex
    rw [List.length_map, List.length_map] at z
    have := lok.five xs hxs
    omega
  · have z := congrArg List.length e
    rw [List.length_map, List.length_map] at z
    have := lok.total
    unfold totalOf at this
    omega
  · rw [e, List.countP_map]
    exact lok.outs
end Lb

set_option Elab.async false
set_option linter.all false
set_option maxRecDepth 100000
set_option maxHeartbeats 4000000
/-! what is a program: the program's own questions, as functions of data -/
namespace Lb
open PySem PySem.Spec PyProof.Rows L2
def intB (d : PyData) : Bool := isInt d && !isBl d
def valI : PyData → Int
  | .int i => i
  | _ => 0
def itemsD : PyData → List PyData
  | .tuple ds => ds
  | _ => []
def strOf : PyData → Str
  | .str s => s
  | _ => Str.empty
def nthD (d : PyData) (i : Nat) : PyData := (itemsD d).getD i .none
def numB (d : PyData) (n : Int) : Bool := intB d && (decide (0 ≤ valI d) && decide (valI d < n))
def nameB (d : PyData) : Bool := isStr d && decide (strOf d ∈ letters)
def tupB (d : PyData) (lo hi : Int) : Bool := isTup d && (decide (lo ≤ ((itemsD d).length : Int)) && decide (((itemsD d).length : Int) ≤ hi))
def needB (d : PyData) (n : Int) : Bool := tupB d 2 2 && (numB (nthD d 0) n && nameB (nthD d 1))
def needsB (d : PyData) (n most : Int) : Bool := tupB d 0 most && (itemsD d).all fun x => needB x n
def wordB (d : PyData) : Bool := isTup d && (decide (0 < ((itemsD d).length : Int)) && isStr (nthD d 0))
def lenIs (d : PyData) (n : Int) : Bool := decide (((itemsD d).length : Int) = n)
def giveB (d : PyData) (n : Int) : Bool := lenIs d 4 && (nameB (nthD d 1) && (needsB (nthD d 2) n 1 && isBl (nthD d 3)))
def lateB (d : PyData) (n : Int) : Bool := lenIs d 4 && (nameB (nthD d 1) && (intB (nthD d 2) && ((decide (valI (nthD d 2) = -1) || numB (nthD d 2) n) && needsB (nthD d 3) n 2)))
def rowB (d : PyData) (n : Int) : Bool := wordB d &&
  (if strOf (nthD d 0) = "load" then lenIs d 2 && numB (nthD d 1) n
   else if strOf (nthD d 0) = "give" then giveB d n
   else if strOf (nthD d 0) = "pass" then lenIs d 4 && ((numB (nthD d 2) n && nameB (nthD d 1)) && nameB (nthD d 3))
   else if strOf (nthD d 0) = "show" then lenIs d 3 && (needsB (nthD d 1) n 2 && isBl (nthD d 2))
   else if strOf (nthD d 0) = "late" then lateB d n
   else decide (strOf (nthD d 0) = "out") && lenIs d 1)
def rowsOfD (d : PyData) : List PyData := (itemsD d).flatMap itemsD
def partsB (d : PyData) : Bool := tupB d 1 4 && ((itemsD d).all (fun p => tupB p 0 5) && (decide (((rowsOfD d).length : Int) ≤ 12) && ((rowsOfD d).all (fun r => rowB r ((itemsD d).length : Int)) &&
  decide ((((rowsOfD d).filter fun r => decide (strOf (nthD r 0) = "out")).length : Int) ≤ 2))))
def marksB (d : PyData) (n : Int) : Bool := tupB d n n && (itemsD d).all isBl
def ascB : List PyData → Bool
  | a :: b :: r => PySem.W.dataLt a b && ascB (b :: r)
  | _ => true
def entriesB (d : PyData) (n : Int) : Bool := tupB d 1 3 && ((itemsD d).all (fun x => numB x n) && ascB (itemsD d))
def opensB (d : PyData) (n : Int) : Bool := needsB d n 4 && ascB (itemsD d)
def progB (d : PyData) : Bool := tupB d 4 4 && (partsB (nthD d 0) && (marksB (nthD d 1) ((itemsD (nthD d 0)).length : Int) && (entriesB (nthD d 2) ((itemsD (nthD d 0)).length : Int) && opensB (nthD d 3) ((itemsD (nthD d 0)).length : Int))))
/-! helpers -/
theorem tup_of {d : PyData} (h : isTup d = true) : ∃ ds, d = .tuple ds := by
  cases d with
  | tuple ds => exact ⟨ds, rfl⟩
  | _ => exact absurd h (by simp [isTup])
theorem int_of {d : PyData} (h : intB d = true) : ∃ i, d = .int i := by
  cases d with
  | int i => exact ⟨i, rfl⟩
  | _ => exact absurd h (by simp [intB, isInt, isBl])
theorem str_of {d : PyData} (h : isStr d = true) : ∃ i, d = .str i := by
  cases d with
  | str i => exact ⟨i, rfl⟩
  | _ => exact absurd h (by simp [isStr])
theorem in_letters (s : Str) : inV (.str s) [V.str "a", V.str "b", V.str "c", V.str "d"] = decide (s ∈ letters) := by
  have e : ∀ x y : Str, eqV (.str x) (.str y) = decide (y = x) := fun x y => by
    show (x == y) = _
    rw [Bool.eq_iff_iff, beq_iff_eq, decide_eq_true_eq]
    exact eq_comm
  show ([V.str "a", V.str "b", V.str "c", V.str "d"].any fun y => eqV y (.str s)) = _
  rw [show ([V.str "a", V.str "b", V.str "c", V.str "d"] : List V) = letters.map V.str from rfl, List.any_map, Bool.eq_iff_iff, List.any_eq_true, decide_eq_true_eq]
  constructor
  · rintro ⟨x, hx, z⟩
    have z2 : eqV (.str x) (.str s) = true := z
    rw [e, decide_eq_true_eq] at z2
    rw [z2]
    exact hx
  · intro hs
    refine ⟨s, hs, ?_⟩
    show eqV (.str s) (.str s) = true
    rw [e]
    exact decide_eq_true rfl
theorem range_all (g : PyData → Bool) (ds : List PyData) : ((List.range ds.length).map fun i => g (ds.getD i .none)).all id = ds.all g := by
  rw [List.all_map]
  rw [Bool.eq_iff_iff, List.all_eq_true, List.all_eq_true]
  constructor
  · intro h x hx
    obtain ⟨i, hi, e⟩ := List.getElem_of_mem hx
    have z := h i (List.mem_range.mpr hi)
    simp only [Function.comp, id] at z
    rwa [List.getD_eq_getElem?_getD, List.getElem?_eq_getElem hi, Option.getD_some, e] at z
  · intro h i hi
    have hi := List.mem_range.mp hi
    simp only [Function.comp, id]
    rw [List.getD_eq_getElem?_getD, List.getElem?_eq_getElem hi, Option.getD_some]
    exact h _ (List.getElem_mem hi)
theorem getD_of {ds : List PyData} {i : Nat} {d : PyData} (h : ds[i]? = some d) : ds.getD i .none = d := by
  rw [List.getD_eq_getElem?_getD, h, Option.getD_some]
theorem bl_map (f : Nat → Bool) (n : Nat) : (List.range n).map (fun i => V.bl (f i)) = ((List.range n).map f).map V.bl := by
  rw [List.map_map]
  rfl
end Lb
namespace Lb
open PySem PySem.Spec PyProof.Rows L2
theorem sIx_one (n d : Nat) : HT.sIx n d (some 1) = min 1 n := HT.sIx_nat n d 1
theorem cut_one (xs : List V) : cutV xs (some 1) none = xs.drop 1 := by
  unfold cutV
  rw [sIx_one]
  show (xs.drop (min 1 xs.length)).take (xs.length - min 1 xs.length) = xs.drop 1
  cases xs with
  | nil => rfl
  | cons x r =>
    have e : min 1 (x :: r).length = 1 := by simp only [List.length_cons]; omega
    rw [e]
    apply List.take_of_length_le
    simp
theorem whole_one {xs : List V} (h : HT.sIx xs.length 0 (some 1) = 0) : xs = [] := by
  rw [sIx_one] at h
  cases xs with
  | nil => rfl
  | cons x r => simp only [List.length_cons] at h; omega
theorem asc_range : ∀ ds : List PyData, ascB ds = ((List.range (ds.length - 1)).map fun i => PySem.W.dataLt (ds.getD i .none) (ds.getD (i + 1) .none)).all id
  | [] => rfl
  | [_] => rfl
  | a :: b :: r => by
    have ih := asc_range (b :: r)
    rw [ascB, ih]
    have e1 : (a :: b :: r).length - 1 = r.length + 1 := rfl
    have e2 : (b :: r).length - 1 = r.length := rfl
    rw [e1, e2, List.range_succ_eq_map, List.map_cons, List.all_cons, List.map_map]
    rfl
end Lb
namespace Lb
open PySem PySem.Spec PyProof.Rows L2
theorem tupB_len {d : PyData} {lo hi : Int} (h : tupB d lo hi = true) : ∃ ds, d = .tuple ds ∧ lo ≤ (ds.length : Int) ∧ (ds.length : Int) ≤ hi := by
  unfold tupB at h
  rw [Bool.and_eq_true, Bool.and_eq_true, decide_eq_true_eq, decide_eq_true_eq] at h
  obtain ⟨ds, rfl⟩ := tup_of h.1
  exact ⟨ds, rfl, h.2.1, h.2.2⟩
theorem len2 {ds : List PyData} (h1 : (2 : Int) ≤ ds.length) (h2 : (ds.length : Int) ≤ 2) : ∃ x y, ds = [x, y] := by
  match ds with
  | [x, y] => exact ⟨x, y, rfl⟩
  | [] => simp at h1
  | [_] => simp at h1
  | _ :: _ :: _ :: _ => simp only [List.length_cons] at h2; omega
theorem len4 {ds : List PyData} (h : (ds.length : Int) = 4) : ∃ x y z u, ds = [x, y, z, u] := by
  match ds with
  | [x, y, z, u] => exact ⟨x, y, z, u, rfl⟩
  | [] => simp at h
  | [_] => simp at h
  | [_, _] => simp at h
  | [_, _, _] => simp at h
  | _ :: _ :: _ :: _ :: _ :: _ => simp only [List.length_cons] at h; omega
theorem len3 {ds : List PyData} (h : (ds.length : Int) = 3) : ∃ x y z, ds = [x, y, z] := by
  match ds with
  | [x, y, z] => exact ⟨x, y, z, rfl⟩
  | [] => simp at h
  | [_] => simp at h
  | [_, _] => simp at h
  | _ :: _ :: _ :: _ :: _ => simp only [List.length_cons] at h; omega
theorem len2' {ds : List PyData} (h : (ds.length : Int) = 2) : ∃ x y, ds = [x, y] := len2 (by omega) (by omega)
section
variable {S : List Addr} {H : Hp} {v : V} {x y z u : PyData}
theorem Rep.two (r : Rep S H v (.tuple [x, y])) : ∃ a p q, v = .ref a ∧ H a = some (.tup [p, q]) ∧ Rep S H p x ∧ Rep S H q y := by
  obtain ⟨a, xs, rfl, ha, _, rs⟩ := r.tupV
  cases rs with
  | cons r1 rs => cases rs with
    | cons r2 rs => cases rs; exact ⟨a, _, _, rfl, ha, r1, r2⟩
theorem Rep.three (r : Rep S H v (.tuple [x, y, z])) : ∃ a p q s, v = .ref a ∧ H a = some (.tup [p, q, s]) ∧ Rep S H p x ∧ Rep S H q y ∧ Rep S H s z := by
  obtain ⟨a, xs, rfl, ha, _, rs⟩ := r.tupV
  cases rs with
  | cons r1 rs => cases rs with
    | cons r2 rs => cases rs with
      | cons r3 rs => cases rs; exact ⟨a, _, _, _, rfl, ha, r1, r2, r3⟩
theorem Rep.four (r : Rep S H v (.tuple [x, y, z, u])) : ∃ a p q s t, v = .ref a ∧ H a = some (.tup [p, q, s, t]) ∧ Rep S H p x ∧ Rep S H q y ∧ Rep S H s z ∧ Rep S H t u := by
  obtain ⟨a, xs, rfl, ha, _, rs⟩ := r.tupV
  cases rs with
  | cons r1 rs => cases rs with
    | cons r2 rs => cases rs with
      | cons r3 rs => cases rs with
        | cons r4 rs => cases rs; exact ⟨a, _, _, _, _, rfl, ha, r1, r2, r3, r4⟩
end
end Lb
namespace Lb
theorem nbF {b : Bool} (h : (!b) = true) : b = false := by simpa using h
theorem nbT {b : Bool} (h : ¬ (!b) = true) : b = true := by simpa using h
theorem bF {b : Bool} (h : ¬ b = true) : b = false := by simpa using h
end Lb

set_option Elab.async false
set_option linter.all false
set_option maxRecDepth 100000
set_option maxHeartbeats 4000000
/-! the doors of a program, as data -/
namespace Lb
open PySem PySem.Spec PyProof.Rows L2
theorem none_back {H H' : Hp} {p : Addr} (s : Same H H') (n : H' p = none) : H p = none := by
  rcases Classical.em (H p = none) with e | e
  · exact e
  · obtain ⟨o, ho⟩ := Option.ne_none_iff_exists'.mp e
    rw [s _ _ ho] at n
    exact nomatch n
def lateV (r : PyData) : Int := valI (nthD r 2)
def goB (r : PyData) : Bool := decide (strOf (nthD r 0) = "late") && !decide (lateV r = -1)
def doorsD (d : PyData) : List Int := (itemsD (nthD d 2)).map valI ++ ((rowsOfD (nthD d 0)).filter goB).map lateV
theorem asc_eq : ∀ {xs ys : List Int}, xs.Pairwise (· < ·) → ys.Pairwise (· < ·) → (∀ k, k ∈ xs ↔ k ∈ ys) → xs = ys
  | [], [], _, _, _ => rfl
  | [], b :: ys, _, _, h => nomatch (h b).mpr List.mem_cons_self
  | a :: xs, [], _, _, h => nomatch (h a).mp List.mem_cons_self
  | a :: xs, b :: ys, h1, h2, h => by
    rw [List.pairwise_cons] at h1 h2
    have e : a = b := by
      rcases List.mem_cons.mp ((h a).mp List.mem_cons_self) with z | z
      · exact z
      · rcases List.mem_cons.mp ((h b).mpr List.mem_cons_self) with y | y
        · exact y.symm
        · have := h2.1 a z
          have := h1.1 b y
          omega
    subst e
    congr 1
    refine asc_eq h1.2 h2.2 fun k => ⟨fun m => ?_, fun m => ?_⟩
    · rcases List.mem_cons.mp ((h k).mp (List.mem_cons_of_mem _ m)) with z | z
      · have := h1.1 k m
        omega
      · exact z
    · rcases List.mem_cons.mp ((h k).mpr (List.mem_cons_of_mem _ m)) with z | z
      · have := h2.1 k m
        omega
      · exact z
theorem late_shape {r : PyData} {n : Int} (h : rowB r n = true) : ∃ w rest, r = .tuple (.str w :: rest) ∧ (w = "late" → ∃ nm p ns, rest = [nm, .int p, ns] ∧ -1 ≤ p) := by
  unfold rowB at h
  rw [Bool.and_eq_true] at h
  obtain ⟨hw, h⟩ := h
  unfold wordB at hw
  rw [Bool.and_eq_true, Bool.and_eq_true, decide_eq_true_eq] at hw
  obtain ⟨ht, hl, hs⟩ := hw
  obtain ⟨ws, rfl⟩ := tup_of ht
  match ws, hl with
  | x :: rest, _ =>
    obtain ⟨w, e⟩ := str_of hs
    have ex : x = .str w := e
    subst ex
    refine ⟨w, rest, rfl, fun ew => ?_⟩
    subst ew
    have e0 : strOf (nthD (.tuple (.str "late" :: rest)) 0) = "late" := rfl
    rw [e0, if_neg (by decide +kernel), if_neg (by decide +kernel), if_neg (by decide +kernel), if_neg (by decide +kernel), if_pos rfl] at h
    unfold lateB at h
    rw [Bool.and_eq_true] at h
    obtain ⟨x, y, z, u, e⟩ := len4 (of_decide_eq_true h.1)
    have e2 : rest = [y, z, u] := by injection e
    subst e2
    have h2 := h.2
    rw [Bool.and_eq_true, Bool.and_eq_true, Bool.and_eq_true] at h2
    obtain ⟨p, hp⟩ := int_of h2.2.1
    have ez : z = .int p := hp
    subst ez
    refine ⟨y, p, u, rfl, ?_⟩
    have h3 : (decide (p = -1) || numB (.int p) n) = true := h2.2.2.1
    rw [Bool.or_eq_true, decide_eq_true_eq] at h3
    rcases h3 with z | z
    · omega
    · unfold numB at z
      rw [Bool.and_eq_true, Bool.and_eq_true, decide_eq_true_eq] at z
      have : 0 ≤ p := z.2.1
      omega
structure ProgF (ps es : List PyData) : Prop where
  four : ps.length ≤ 4
  five : ∀ p ∈ ps, ∃ rows, p = .tuple rows ∧ rows.length ≤ 5
  rows : ∀ r ∈ ps.flatMap itemsD, rowB r ps.length = true
  twelve : (ps.flatMap itemsD).length ≤ 12
  three : es.length ≤ 3
  allI : ∀ e ∈ es, ∃ i, e = .int i
theorem prog_of {d : PyData} (h : progB d = true) : ∃ ps m es o, d = .tuple [.tuple ps, m, .tuple es, o] ∧ ProgF ps es := by
  unfold progB at h
  rw [Bool.and_eq_true] at h
  obtain ⟨h0, h⟩ := h
  obtain ⟨ds, rfl, h1, h2⟩ := tupB_len h0
  obtain ⟨x, y, z, u, rfl⟩ := len4 (by omega : (ds.length : Int) = 4)
  rw [Bool.and_eq_true, Bool.and_eq_true, Bool.and_eq_true] at h
  have hx : partsB x = true := h.1
  have hz : entriesB z ((itemsD x).length : Int) = true := h.2.2.1
  unfold partsB at hx
  rw [Bool.and_eq_true, Bool.and_eq_true, Bool.and_eq_true, Bool.and_eq_true, decide_eq_true_eq] at hx
  obtain ⟨ps, rfl, _, p4⟩ := tupB_len hx.1
  unfold entriesB at hz
  rw [Bool.and_eq_true, Bool.and_eq_true] at hz
  obtain ⟨es, rfl, _, e3⟩ := tupB_len hz.1
  refine ⟨ps, y, es, u, rfl, by omega, fun p hp => ?_, fun r hr => List.all_eq_true.mp hx.2.2.2.1 r hr, by have z : ((ps.flatMap itemsD).length : Int) ≤ 12 := hx.2.2.1; omega, by omega, fun e he => ?_⟩
  · obtain ⟨rows, e, _, h5⟩ := tupB_len (List.all_eq_true.mp hx.2.1 p hp)
    exact ⟨rows, e, by omega⟩
  · have z := List.all_eq_true.mp hz.2.1 e he
    exact int_of (Bool.and_eq_true_iff.mp z).1
theorem Reps.asInts {S : List Addr} {H : Hp} : ∀ {vs : List V} {ds : List PyData}, Reps S H vs ds → (∀ e ∈ ds, ∃ i, e = .int i) → vs = (ds.map valI).map V.int
  | _, _, .nil, _ => rfl
  | _, _, .cons r rs, h => by
    obtain ⟨i, rfl⟩ := h _ List.mem_cons_self
    rw [r.intV, Reps.asInts rs fun e m => h e (List.mem_cons_of_mem _ m)]
    rfl
theorem filter_few {ps : List PyData} {i : Nat} {l : List PyData} (hl : (ps.flatMap itemsD).length ≤ 12) : ((((ps.take i).flatMap itemsD) ).filter goB).length ≤ 12 := by
  refine Nat.le_trans (List.length_filter_le _ _) ?_
  refine Nat.le_trans ?_ hl
  have e : ps.flatMap itemsD = (ps.take i).flatMap itemsD ++ (ps.drop i).flatMap itemsD := by rw [← List.flatMap_append, List.take_append_drop]
  rw [e, List.length_append]
  omega
theorem flat_snoc {ps : List PyData} {i : Nat} {rows : List PyData} (hp : ps[i]? = some (.tuple rows)) : (ps.take (i + 1)).flatMap itemsD = (ps.take i).flatMap itemsD ++ rows := by
  rw [List.take_succ, hp, List.flatMap_append]
  simp [itemsD]
theorem flat_mem {ps : List PyData} {i : Nat} {rows : List PyData} (hp : ps[i]? = some (.tuple rows)) {r : PyData} (hr : r ∈ rows) : r ∈ ps.flatMap itemsD :=
  List.mem_flatMap.mpr ⟨_, List.mem_of_getElem? hp, hr⟩
theorem flat_few {ps : List PyData} {i j : Nat} {rows : List PyData} (hp : ps[i]? = some (.tuple rows)) (hl : (ps.flatMap itemsD).length ≤ 12) : (((ps.take i).flatMap itemsD ++ rows.take j).filter goB).length ≤ 12 := by
  refine Nat.le_trans (List.length_filter_le _ _) ?_
  refine Nat.le_trans ?_ hl
  have e : ps.flatMap itemsD = (ps.take (i + 1)).flatMap itemsD ++ (ps.drop (i + 1)).flatMap itemsD := by rw [← List.flatMap_append, List.take_append_drop]
  rw [e, flat_snoc hp, List.length_append, List.length_append, List.length_append, List.length_take]
  omega
/-- the kept doors so far -/
def goV (l : List PyData) : List V := (l.filter goB).map fun r => V.int (lateV r)
theorem goV_len (l : List PyData) : (goV l).length = (l.filter goB).length := by unfold goV; rw [List.length_map]
theorem goV_yes {l : List PyData} {r : PyData} (h : goB r = true) : goV (l ++ [r]) = goV l ++ [.int (lateV r)] := by
  unfold goV
  rw [List.filter_append, List.filter_cons_of_pos h, List.filter_nil, List.map_append]
  rfl
theorem goV_no {l : List PyData} {r : PyData} (h : ¬ goB r = true) : goV (l ++ [r]) = goV l := by
  unfold goV
  rw [List.filter_append, List.filter_cons_of_neg h, List.filter_nil, List.append_nil]
theorem doors_goV (ps es : List PyData) (m o : PyData) : (doorsD (.tuple [.tuple ps, m, .tuple es, o])).map V.int = (es.map valI).map V.int ++ goV (ps.flatMap itemsD) := by
  show ((es.map valI) ++ ((ps.flatMap itemsD).filter goB).map lateV).map V.int = _
  rw [List.map_append, List.map_map (f := lateV)]
  rfl
theorem doors_len {ps es : List PyData} (m o : PyData) (F : ProgF ps es) : (doorsD (.tuple [.tuple ps, m, .tuple es, o])).length ≤ 15 := by
  have z := congrArg List.length (doors_goV ps es m o)
  rw [List.length_map, List.length_append, List.length_map, List.length_map, goV_len] at z
  have := List.length_filter_le goB (ps.flatMap itemsD)
  have := F.twelve
  have := F.three
  omega
end Lb
namespace Lb
open PySem PySem.Spec PyProof.Rows L2
/-! rows made late -/
def lateD (q : Str × Int) : PyData := .tuple [.str "late", .str q.1, .int q.2, .tuple []]
def linesD (l : List (Str × Int)) : PyData := .tuple (l.map lateD)
theorem noLst_late (q : Str × Int) : noLst (lateD q) = true := rfl
theorem noLst_lates (l : List (Str × Int)) : noLsts (l.map lateD) = true := by
  induction l with
  | nil => rfl
  | cons r rs ih => rw [List.map_cons, noLsts, ih, noLst_late]; rfl
theorem late_row {q : Str × Int} {n : Int} (h1 : q.1 ∈ letters) (h2 : -1 ≤ q.2) (h3 : q.2 < n) : rowB (lateD q) n = true := by
  unfold rowB
  have e0 : strOf (nthD (lateD q) 0) = "late" := rfl
  rw [e0, if_neg (by decide +kernel), if_neg (by decide +kernel), if_neg (by decide +kernel), if_neg (by decide +kernel), if_pos rfl]
  show (true && (true && ((true && decide (q.1 ∈ letters)) && (true && ((decide (q.2 = -1) || (true && (decide (0 ≤ q.2) && decide (q.2 < n)))) && true))))) = true
  rw [decide_eq_true h1, decide_eq_true h3]
  by_cases e : q.2 = -1
  · rw [decide_eq_true e]
    rfl
  · rw [decide_eq_false e, decide_eq_true (by omega : 0 ≤ q.2)]
    rfl
theorem lates_prog {ps es : List PyData} {m o : PyData} {lines : List (List (Str × Int))} (h : progB (.tuple [.tuple ps, m, .tuple es, o]) = true)
    (hl : lines.map List.length = ps.map (fun p => (itemsD p).length)) (ok : ∀ l ∈ lines, ∀ q ∈ l, q.1 ∈ letters ∧ -1 ≤ q.2 ∧ q.2 < (ps.length : Int)) : progB (.tuple [.tuple (lines.map linesD), m, .tuple es, o]) = true := by
  have len : lines.length = ps.length := by
    have z := congrArg List.length hl
    rwa [List.length_map, List.length_map] at z
  unfold progB at h ⊢
  rw [Bool.and_eq_true, Bool.and_eq_true] at h ⊢
  obtain ⟨h0, hp, hr⟩ := h
  have e1 : nthD (.tuple [.tuple (lines.map linesD), m, .tuple es, o]) 0 = .tuple (lines.map linesD) := rfl
  have e2 : nthD (.tuple [.tuple ps, m, .tuple es, o]) 0 = .tuple ps := rfl
  rw [e1]
  rw [e2] at hp hr
  refine ⟨rfl, ?_, ?_⟩
  · unfold partsB at hp ⊢
    rw [Bool.and_eq_true, Bool.and_eq_true, Bool.and_eq_true, Bool.and_eq_true, decide_eq_true_eq] at hp ⊢
    obtain ⟨a1, a2, a3, a4, a5⟩ := hp
    have rows : rowsOfD (.tuple (lines.map linesD)) = lines.flatten.map lateD := by
      show (lines.map linesD).flatMap itemsD = _
      rw [List.flatMap_map, List.map_flatten, List.flatMap_def]
      rfl
    have rl : (rowsOfD (.tuple (lines.map linesD))).length = (rowsOfD (.tuple ps)).length := by
      show ((lines.map linesD).flatMap itemsD).length = (ps.flatMap itemsD).length
      rw [List.length_flatMap, List.length_flatMap, ← hl, List.map_map]
      congr 1
      apply List.map_congr_left
      intro l _
      show (l.map lateD).length = _
      rw [List.length_map]
    have il : (itemsD (.tuple (lines.map linesD))).length = ps.length := by
      show (lines.map linesD).length = _
      rw [List.length_map, len]
    refine ⟨?_, ?_, by rw [rl]; exact a3, ?_, ?_⟩
    · unfold tupB
      rw [il]
      exact a1
    · rw [List.all_eq_true]
      intro p hp
      obtain ⟨l, hlm, rfl⟩ := List.mem_map.mp hp
      have lm : l.length ∈ ps.map (fun p => (itemsD p).length) := by rw [← hl]; exact List.mem_map.mpr ⟨l, hlm, rfl⟩
      obtain ⟨p', hp', e⟩ := List.mem_map.mp lm
      obtain ⟨rows', rfl, _, h5⟩ := tupB_len (List.all_eq_true.mp a2 p' hp')
      have e' : rows'.length = l.length := e
      show (true && (decide ((0 : Int) ≤ ((l.map lateD).length : Int)) && decide (((l.map lateD).length : Int) ≤ 5))) = true
      rw [List.length_map, ← e', decide_eq_true h5, decide_eq_true (by omega)]
      rfl
    · rw [rows, il, List.all_eq_true]
      intro r hr
      obtain ⟨q, hq, rfl⟩ := List.mem_map.mp hr
      obtain ⟨l, hl1, hl2⟩ := List.mem_flatten.mp hq
      obtain ⟨k1, k2, k3⟩ := ok l hl1 q hl2
      exact late_row k1 k2 k3
    · have e0 : (rowsOfD (.tuple (lines.map linesD))).filter (fun r => decide (strOf (nthD r 0) = "out")) = [] := by
        rw [rows, List.filter_eq_nil_iff]
        intro r hr
        obtain ⟨q, hq, rfl⟩ := List.mem_map.mp hr
        have e0 : strOf (nthD (lateD q) 0) = "late" := rfl
        rw [e0]
        decide +kernel
      rw [e0]
      rfl
  · have e3 : (itemsD (.tuple (lines.map linesD))).length = (itemsD (.tuple ps)).length := by
      show (lines.map linesD).length = ps.length
      rw [List.length_map, len]
    rw [e3]
    exact hr
end Lb

set_option Elab.async false
set_option linter.all false
set_option maxRecDepth 100000
set_option maxHeartbeats 4000000
/-! a drawn program is a program -/
namespace Lb
open PySem PySem.Spec PyProof.Rows L2
theorem numB_ok {p n : Int} (h0 : 0 ≤ p) (h1 : p < n) : numB (.int p) n = true := by
  show (true && (decide (0 ≤ p) && decide (p < n))) = true
  rw [decide_eq_true h0, decide_eq_true h1]
  rfl
theorem nameB_ok {s : Str} (h : s ∈ letters) : nameB (.str s) = true := by
  show (true && decide (s ∈ letters)) = true
  rw [decide_eq_true h]
  rfl
theorem needB_ok {c : Int} {p : Nm} (h : nmOk c p) : needB (nmD p) c = true := by
  show (true && (numB (.int p.1) c && nameB (.str p.2))) = true
  rw [numB_ok h.1 h.2.1, nameB_ok h.2.2]
  rfl
theorem tupB_ok {ds : List PyData} {lo hi : Int} (h0 : lo ≤ (ds.length : Int)) (h1 : (ds.length : Int) ≤ hi) : tupB (.tuple ds) lo hi = true := by
  show (true && (decide (lo ≤ (ds.length : Int)) && decide ((ds.length : Int) ≤ hi))) = true
  rw [decide_eq_true h0, decide_eq_true h1]
  rfl
theorem needsB_ok {c : Int} {ps : List Nm} {m : Int} (h : (ps.length : Int) ≤ m) (ok : ∀ p ∈ ps, nmOk c p) : needsB (needsD ps) c m = true := by
  show (tupB (.tuple (ps.map nmD)) 0 m && (ps.map nmD).all fun x => needB x c) = true
  rw [tupB_ok (by omega) (by rw [List.length_map]; exact h), Bool.true_and, List.all_eq_true]
  intro x hx
  obtain ⟨p, hp, rfl⟩ := List.mem_map.mp hx
  exact needB_ok (ok p hp)
theorem rowB_ok {c : Int} {r : Row} (h : r.ok c) : rowB r.d c = true := by
  have t : ∀ x : Bool, x = true → (true && x) = true := fun x e => by rw [e]; rfl
  cases r with
  | load p =>
    unfold rowB
    have e0 : strOf (nthD (Row.d (.load p)) 0) = "load" := rfl
    rw [e0, if_pos rfl]
    exact t _ (t _ (numB_ok h.1 h.2))
  | give n ns rk =>
    unfold rowB
    have e0 : strOf (nthD (Row.d (.give n ns rk)) 0) = "give" := rfl
    rw [e0, if_neg (by decide +kernel), if_pos rfl]
    refine t _ (t _ ?_)
    show (nameB (.str n) && (needsB (needsD ns) c 1 && true)) = true
    rw [nameB_ok h.1, needsB_ok (by have := h.2.1; omega) h.2.2]
    rfl
  | pass n p o =>
    unfold rowB
    have e0 : strOf (nthD (Row.d (.pass n p o)) 0) = "pass" := rfl
    rw [e0, if_neg (by decide +kernel), if_neg (by decide +kernel), if_pos rfl]
    refine t _ (t _ ?_)
    show ((numB (.int p) c && nameB (.str n)) && nameB (.str o)) = true
    rw [numB_ok h.2.1.1 h.2.1.2, nameB_ok h.1, nameB_ok h.2.2]
    rfl
  | show_ ns rk =>
    unfold rowB
    have e0 : strOf (nthD (Row.d (.show_ ns rk)) 0) = "show" := rfl
    rw [e0, if_neg (by decide +kernel), if_neg (by decide +kernel), if_neg (by decide +kernel), if_pos rfl]
    refine t _ (t _ ?_)
    show (needsB (needsD ns) c 2 && true) = true
    rw [needsB_ok (by have := h.1; omega) h.2]
    rfl
  | out =>
    unfold rowB
    have e0 : strOf (nthD (Row.d .out) 0) = "out" := rfl
    rw [e0, if_neg (by decide +kernel), if_neg (by decide +kernel), if_neg (by decide +kernel), if_neg (by decide +kernel), if_neg (by decide +kernel)]
    decide +kernel
  | late n p ns =>
    unfold rowB
    have e0 : strOf (nthD (Row.d (.late n p ns)) 0) = "late" := rfl
    rw [e0, if_neg (by decide +kernel), if_neg (by decide +kernel), if_neg (by decide +kernel), if_neg (by decide +kernel), if_pos rfl]
    refine t _ (t _ ?_)
    show (nameB (.str n) && (true && ((decide (p = -1) || numB (.int p) c) && needsB (needsD ns) c 2))) = true
    rw [nameB_ok h.1, needsB_ok (by have := h.2.2.1; omega) h.2.2.2]
    by_cases e : p = -1
    · rw [decide_eq_true e]
      rfl
    · have lo := h.2.1.1
      rw [numB_ok (by omega) h.2.1.2, Bool.or_true]
      rfl
theorem ascB_of (D : α → PyData) (R : α → α → Prop) (h : ∀ a b, R a b → PySem.W.dataLt (D a) (D b) = true) : ∀ l : List α, l.Pairwise R → ascB (l.map D) = true
  | [], _ => rfl
  | [_], _ => rfl
  | a :: b :: r, p => by
    rw [List.pairwise_cons] at p
    show (PySem.W.dataLt (D a) (D b) && ascB ((b :: r).map D)) = true
    rw [h a b (p.1 b List.mem_cons_self), ascB_of D R h (b :: r) p.2]
    rfl
theorem prog_ok {P : Prog} (h : P.Ok) : progB P.d = true := by
  have i0 : itemsD (.tuple (P.parts.map rowsD)) = P.parts.map rowsD := rfl
  have len : ((itemsD (nthD P.d 0)).length : Int) = P.c := by
    show ((P.parts.map rowsD).length : Int) = P.parts.length
    rw [List.length_map]
  have rows : rowsOfD (.tuple (P.parts.map rowsD)) = P.parts.flatten.map Row.d := by
    show (P.parts.map rowsD).flatMap itemsD = _
    rw [List.flatMap_map, List.map_flatten, List.flatMap_def]
    rfl
  unfold progB
  rw [len]
  have h1 := h.one
  have h4 := h.four
  rw [Bool.and_eq_true, Bool.and_eq_true, Bool.and_eq_true, Bool.and_eq_true]
  refine ⟨rfl, ?_, ?_, ?_, ?_⟩
  · show partsB (.tuple (P.parts.map rowsD)) = true
    unfold partsB
    rw [Bool.and_eq_true, Bool.and_eq_true, Bool.and_eq_true, Bool.and_eq_true, decide_eq_true_eq, decide_eq_true_eq, rows, i0]
    refine ⟨tupB_ok (by rw [List.length_map]; omega) (by rw [List.length_map]; omega), ?_, ?_, ?_, ?_⟩
    · rw [List.all_eq_true]
      intro p hp
      obtain ⟨rs, hrs, rfl⟩ := List.mem_map.mp hp
      have := h.five rs hrs
      exact tupB_ok (by omega) (by rw [List.length_map]; omega)
    · rw [List.length_map]
      have := h.twelve
      omega
    · rw [List.all_eq_true, List.length_map]
      intro p hp
      obtain ⟨r, hr, rfl⟩ := List.mem_map.mp hp
      obtain ⟨rs, hrs, hr2⟩ := List.mem_flatten.mp hr
      exact rowB_ok (h.rows rs hrs r hr2)
    · rw [List.filter_map, List.length_map]
      have e : ((fun r => decide (strOf (nthD r 0) = "out")) ∘ Row.d) = fun r : Row => decide (r.word = "out") := by
        funext r
        cases r <;> rfl
      rw [e]
      have z := h.outs
      rw [List.countP_map] at z
      rw [← List.countP_eq_length_filter]
      have z2 : List.countP (fun r : Row => decide (r.word = "out")) P.parts.flatten ≤ 2 := z
      omega
  · show marksB (.tuple (P.marks.map .bool)) P.c = true
    unfold marksB
    have z := h.marks
    rw [tupB_ok (by rw [List.length_map, z]; exact Int.le_refl _) (by rw [List.length_map, z]; exact Int.le_refl _), Bool.true_and, List.all_eq_true]
    intro x hx
    obtain ⟨b, _, rfl⟩ := List.mem_map.mp hx
    rfl
  · show entriesB (.tuple (P.entries.map .int)) P.c = true
    unfold entriesB
    have e1 := h.ent1
    have e3 := h.ent3
    rw [tupB_ok (by rw [List.length_map]; omega) (by rw [List.length_map]; omega), Bool.true_and, Bool.and_eq_true, List.all_eq_true]
    refine ⟨fun x hx => ?_, ?_⟩
    · obtain ⟨b, hb, rfl⟩ := List.mem_map.mp hx
      have z := h.entIn b hb
      exact numB_ok z.1 z.2
    · exact ascB_of (fun i => PyData.int i) (· < ·) (fun a b lt => by
        rw [PySem.W.dataLt_int]
        exact decide_eq_true lt) _ h.entUp
  · show opensB (needsD P.opens) P.c = true
    unfold opensB
    have o4 := h.op4
    rw [needsB_ok (by omega) h.opIn, Bool.true_and]
    exact ascB_of nmD (fun p q => nmLt p q = true) (fun a b lt => by rw [nmD_lt]; exact lt) _ h.opUp
end Lb

set_option Elab.async false
set_option linter.all false
set_option maxRecDepth 100000
set_option maxHeartbeats 4000000
/-! enumerate over a tuple, walked -/
namespace Lb
open PySem PySem.Spec PyProof.Rows L2
/-- enumerate, of one argument: any that begins -/
theorem enum_one {v : Value} {o : Obj} {B : Heap → Prop} (b : Begins v o B) :
    Meets (Builtin.«enumerate.__new__» ⟨[.type "enumerate", v], []⟩) (fun _ R s => B s.heap ∧
      R (.ok (.ret (.ref (s.heap.push o).objs.size))) { s with heap := (s.heap.push o).push { cls := .type "enumerate", data := .fields #[.none, .bool false, .ref s.heap.objs.size, rawInt 0, .none, .none] } }) :=
  .of_wp fun prog w A R s h => by
    obtain ⟨hp, g, d, tk, os⟩ := s
    obtain ⟨h1, h⟩ := h
    have under := sub_enumerate
    have begins : ∀ {A' : Around} {E : Value → Shared → Prop} {Q : Value → Shared → Prop}, Q (.ref hp.objs.size) ⟨hp.push o, g, d, tk, os⟩ → wpAny (model prog w) A' (pyIter v) Q E ⟨hp, g, d, tk, os⟩ :=
      fun q => b.iter prog w _ _ ⟨hp, g, d, tk, os⟩ _ h1 q
    wp_walk using begins
    refine wpAny_stack_any fun st => wpAny_pure ?_
    split
    · rename_i c _ _ _ _ _
      cases (c == Value.type "enumerate") <;> (wp_walk using begins; exact ⟨_, rfl, h⟩)
    · wp_walk using begins
      exact ⟨_, rfl, h⟩
theorem enum_tup {prog : Program} {w : World} {A : Around} {E : Value → Shared → Prop} {s : Shared} {t : Addr} {items : Array Value} {Q : Value → Shared → Prop} (ht : s.heap.IsTuple t items)
    (h : ∀ h', IsEnum h' (s.heap.objs.size + 1) s.heap.objs.size 0 .none → h'.IsTupleIter s.heap.objs.size t 0 → h'.objs.size = s.heap.objs.size + 2 →
      (∀ b o, s.heap.get? b = some o → h'.get? b = some o) → Q (.ref (s.heap.objs.size + 1)) { s with heap := h' }) :
    wpAny (model prog w) A (call (.type "enumerate") [.ref t]) Q E s := by
  have B := begins_tuple t items
  refine callType_new F.called_enumerate (by decide) (F.typeCall_enumerate_1 _) (F.newCall_enumerate_1 _) (fun obj => F.args_object_init_2 obj _) F.entry_enumerate_new (enum_one B) ⟨ht, ?_⟩
  have hz : (s.heap.push { cls := .type "tuple_iterator", data := .fields #[.ref t, .int 0 0] }).objs.size = s.heap.objs.size + 1 := Heap.size_push ..
  show _ ∧ _
  rw [hz]
  have he : IsEnum ((s.heap.push { cls := .type "tuple_iterator", data := .fields #[.ref t, .int 0 0] }).push { cls := .type "enumerate", data := .fields #[.none, .bool false, .ref s.heap.objs.size, rawInt 0, .none, .none] }) (s.heap.objs.size + 1) s.heap.objs.size 0 .none := by
    have z := Heap.get?_push_size (s.heap.push { cls := .type "tuple_iterator", data := .fields #[.ref t, .int 0 0] }) (o := { cls := .type "enumerate", data := .fields #[.none, .bool false, .ref s.heap.objs.size, rawInt 0, .none, .none] }) rfl
    rw [hz] at z
    exact z
  exact ⟨⟨_, he, rfl⟩, h _ he ⟨_, Heap.get?_push_of_some _ (Heap.get?_push_size _ rfl), rfl, rfl⟩ (by rw [Heap.size_push, hz]) fun b o x => Heap.get?_push_of_some _ (Heap.get?_push_of_some _ x)⟩
/-- the tuple at a as it stands at each turn, each item in a new pair -/
def IteT (K : PySem.W.Frag) (a : Addr) : It :=
  ⟨fun i H => ∃ (xs : List V) (x : V), SqT K H a xs ∧ xs[i]? = some x, fun i H v H' => ∃ T x, v = .ref T ∧ H T = none ∧ H' = upd H T (.tup [.int (i : Nat), x]) ∧ ∀ xs, SqT K H a xs → xs[i]? = some x,
    fun i H => ∃ xs : List V, SqT K H a xs ∧ xs.length ≤ i⟩
theorem turn_enumT {P : Program} {w : World} {K : PySem.W.Frag} {elts : List Expr} {kk : Nat} {tpos : Pos} (a e it : Addr) :
    Turn P w K (.Tuple elts kk tpos) (IteT K a) [e, it] e (fun i h => (∃ old, IsEnum h e it ((i : Nat) : Int) old) ∧ h.IsTupleIter it a i ∧ e ≠ it) where
  mem := List.mem_cons_self
  obj := fun i h st b hb => by
    obtain ⟨⟨old, he⟩, ⟨o, ho, hc, hd⟩, _⟩ := st
    rcases List.mem_cons.mp hb with z | z
    · rw [z]
      exact ⟨_, he, fun v q => nomatch q⟩
    · rw [List.mem_singleton.mp z]
      exact ⟨o, ho, fun v q => by rw [hd] at q; cases q⟩
  keep := fun i h h' st k => by
    obtain ⟨⟨old, he⟩, hi, ne⟩ := st
    exact ⟨⟨old, k e List.mem_cons_self _ he⟩, hi.at fun o q => k it (List.mem_cons_of_mem _ List.mem_cons_self) o q, ne⟩
  item := by
    intro X hP hw hK hc i pins s σ H E I hf st hg
    subst hP hw hK
    obtain ⟨⟨old, he⟩, hit, hne⟩ := st
    obtain ⟨xs, x, hq, hx⟩ := hg
    obtain ⟨its, rv, p, hz⟩ := I.tuple hq
    obtain ⟨u, hu, ru⟩ := rv.get hx
    have pt : s.heap.IsTuple a its.toArray := p
    have hel : e < s.heap.objs.size := Heap.lt_size he
    have hil : it < s.heap.objs.size := by
      obtain ⟨_, q, _⟩ := hit
      exact Heap.lt_size q
    have hai : a ≠ it := fun z => by
      obtain ⟨o1, q1, c1, _⟩ := hit
      obtain ⟨o2, q2, c2, _⟩ := pt
      rw [z, q1] at q2
      obtain rfl := Option.some.inj q2
      rw [c1] at c2
      exact absurd c2 (by decide)
    have hae : a ≠ e := fun z => by
      obtain ⟨o2, q2, c2, _⟩ := pt
      rw [z, he] at q2
      obtain rfl := Option.some.inj q2
      exact absurd (show Value.type "enumerate" = Value.type "tuple" from c2) (by decide)
    have D : Draws X.prog X.w X.A.in1 it [it, a] its.toArray.size (fun i v => its.toArray[i]? = some v) (fun i h => h.IsTupleIter it a i ∧ h.IsTuple a its.toArray) := Draws.tuple (show X.A.in1.handled = none from I.ok.hd hc) it a hai its.toArray
    have ilt : i < its.toArray.size := by
      have z := (List.getElem?_eq_some_iff.mp hu).1
      simpa using z
    refine wpAny_pyNext_enum_itemD D he ⟨hit, pt⟩ ilt hne (fun z => ?_) fun y h' tk hy ho st' hT hsz hk => ?_
    · rcases List.mem_cons.mp z with z | z
      · exact hne z
      · exact hae (List.mem_singleton.mp z).symm
    have hyu : y = u := by
      have hy2 : its.toArray[i]? = some y := hy
      rw [List.getElem?_toArray, hu] at hy2
      exact (Option.some.inj hy2).symm
    subst hyu
    refine ⟨_, rfl, wpAny_letOwnedTupleGo_enum (s := { s with heap := h', toks := tk + 1 }) ho fun h'' he' sb => ?_⟩
    have hT2 : h''.get? s.heap.objs.size = some { cls := .type "tuple", data := .seq #[.int i tk, y] } := (sb.2 _ (Nat.ne_of_gt hel)).trans hT
    have new : ObjOk X.prog X.w (upd H s.heap.objs.size (.tup [.int (i : Nat), x])) h'' s.heap.objs.size (.tup [.int (i : Nat), x]) :=
      ⟨by show 2 ≤ sizeLine; decide, [.int i tk, y], .cons ⟨_, rfl⟩ (.cons ru .nil), ⟨_, hT2, rfl, _, rfl⟩⟩
    have I1 : Inv X pins σ (upd H s.heap.objs.size (.tup [.int (i : Nat), x])) { s with heap := h'', toks := tk + 1 } :=
      I.turnedNew (ch := [e, it]) (fun b ob hb q => (sb.2 b (fun z => hb (by simp [z]))).trans (hk b ob (fun z => hb (by simp [z])) (fun z => hb (by simp [z])) q)) hf (Nat.le_refl _) new
    refine ⟨.ref s.heap.objs.size, _, I1, rfl, ⟨_, x, rfl, I.hok.fresh (Nat.le_refl _), rfl, fun ys hys => by rw [I.tuple_inj hys hq]; exact hx⟩, ⟨⟨y, ?_⟩, st'.1.at fun o q => (sb.2 it (Ne.symm hne)).trans q, hne⟩, fun b hb => ?_⟩
    · have e1 : ((i + 1 : Nat) : Int) = (i : Int) + 1 := by omega
      rw [e1]
      exact he'
    · have hb' : b < s.heap.objs.size := by
        rcases List.mem_cons.mp hb with z | z
        · rw [z]
          exact hel
        · rw [List.mem_singleton.mp z]
          exact hil
      rw [upd_ne (Nat.ne_of_lt hb')]
      exact (hf b hb).1
  done := by
    intro X hP hw hK hc i pins s σ H E I hf st hg
    subst hP hw hK
    obtain ⟨⟨old, he⟩, hit, hne⟩ := st
    obtain ⟨xs, hq, hx⟩ := hg
    obtain ⟨its, rv, p, hz⟩ := I.tuple hq
    have pt : s.heap.IsTuple a its.toArray := p
    have none_ : its.toArray[i]? = none := by
      have hl := rv.length
      rw [List.getElem?_toArray]
      exact List.getElem?_eq_none (by omega)
    obtain ⟨f0, f1, f2, f3, f4, f5⟩ := hf it (List.mem_cons_of_mem _ List.mem_cons_self)
    have ty : s.TypeIs (.ref e) "enumerate" := ⟨_, he, rfl⟩
    unfold pyNext
    refine wpAny_bind (wpAny_attempt (wpAny_callSpecial?_slot (name := Str.ofString "__next__") ty F.slot_enumerate_next
      (wpAny_call_entry F.slot_enumerate_next ty F.entry_enumerate_next ?_ (F.args_enumerate_next_1 _))))
    show wpAny _ _ (field (.ref e) 2 >>= fun _ => _) _ _ _
    refine wpAny_bind (wpAny_field he rfl (x := .ref it) rfl ?_)
    refine wpAny_bind (wpAny_nextOf_tuple_end (show X.A.in1.handled = none from I.ok.hd hc) hit pt none_ fun h' x eb hx' => ?_)
    obtain ⟨o, ho, hcl⟩ := hx'
    refine wpAny_bind (wpAny_isInstance (T := "StopIteration") (b := true) ⟨o, ho, hcl⟩ isSubtype_stop ?_)
    exact wpAny_pure ⟨rfl, I.turned (t' := s.toks) (fun b o hb q => eb b o hb q) f0 f1 f3 f4 f5⟩
  self := fun A i s Q E st h => by
    obtain ⟨⟨_, he⟩, _⟩ := st
    exact wpAny_pyIter_enum he h
def iEnumT (K : PySem.W.Frag) (ta : TA) : TI := fun σ H R => ta σ H fun vs H1 => ∃ a xs, vs = [.ref a] ∧ SqT K H1 a xs ∧ R (IteT K a) H1
theorem pi_enumT {X : Cx} {e : Expr} {ta : TA} {p pos tpos : Pos} {elts : List Expr} {kk : Nat} (hg : Gl X "enumerate") (hm : X.mg "enumerate" = none) (ha : PA X [e] ta) (hs : starEach [e] X.env = [(false, eval e X.env)] := by rfl) :
    PI X (.Tuple elts kk tpos) (.Call (.Name "enumerate" p) [e] [] pos) (iEnumT X.K ta) := by
  refine ⟨fun pins s σ H R I h => ?_⟩
  refine Call_ (ld_blt I hg hm boot_enumerate (PyProof.Rows.callWith_type1 (thn (ha.run pos pins s σ H _ I h) fun us s1 ⟨vs, H1, I1, r1, q1⟩ => ?_) hs rfl))
  obtain ⟨a, xs, ex, hq, q⟩ := q1
  subst ex
  cases r1 with
  | cons r rr =>
    cases rr
    cases r
    obtain ⟨its, rv, pt, hz⟩ := I1.tuple hq
    refine enum_tup (show s1.heap.IsTuple a its.toArray from pt) fun h' he hit hsz hk => wpAny_pyIter_enum he ?_
    have I2 : Inv X pins σ H1 { s1 with heap := h' } := I1.kept (t' := s1.toks) hk
    refine ⟨s1.heap.objs.size + 1, [s1.heap.objs.size + 1, s1.heap.objs.size], _, _, H1, rfl, I2, turn_enumT a (s1.heap.objs.size + 1) s1.heap.objs.size, ⟨⟨.none, he⟩, hit, Nat.succ_ne_self _⟩, fun b hb => ?_, q⟩
    have le : s1.heap.objs.size ≤ b := by
      rcases List.mem_cons.mp hb with z | z
      · rw [z]
        exact Nat.le_add_right _ _
      · rw [List.mem_singleton.mp z]
        exact Nat.le_refl _
    exact I1.fpOk le (I1.hok.fresh le)
theorem walk_enumT {K : PySem.W.Frag} {a : Addr} {xs : List V} : Walk (IteT K a) xs.length (fun H => SqT K H a xs) (YPair (fun i => some (.int (i : Nat))) (fun i => xs[i]?)) := by
  refine ⟨fun i _ hi q => ⟨xs, xs[i], q, List.getElem?_eq_getElem hi⟩, fun _ q => ⟨xs, q, Nat.le_refl _⟩, fun i H v H' _ q y => ?_⟩
  obtain ⟨T, x, h1, h2, h3, h4⟩ := y
  exact ⟨T, .int (i : Nat), x, h1, h2, h3, rfl, h4 xs q⟩
end Lb

set_option Elab.async false
set_option linter.all false
set_option maxRecDepth 100000
set_option maxHeartbeats 4000000
/-! the places of a program's rows, as data -/
namespace Lb
open PySem PySem.Spec PyProof.Rows L2
def placeD (i j : Nat) : PyData := .tuple [.int i, .int j]
def inPart (i n : Nat) : List PyData := (List.range n).map (placeD i)
def upTo (ps : List PyData) (i : Nat) : List PyData := (List.range i).flatMap fun k => inPart k (itemsD (ps.getD k .none)).length
def placesD (d : PyData) : List PyData := upTo (itemsD (nthD d 0)) (itemsD (nthD d 0)).length
theorem inPart_snoc (i n : Nat) : inPart i (n + 1) = inPart i n ++ [placeD i n] := by
  unfold inPart
  rw [List.range_succ, List.map_append]
  rfl
theorem upTo_snoc {ps : List PyData} {i : Nat} {rows : List PyData} (h : ps[i]? = some (.tuple rows)) : upTo ps (i + 1) = upTo ps i ++ inPart i rows.length := by
  unfold upTo
  rw [List.range_succ, List.flatMap_append, List.flatMap_cons, List.flatMap_nil, List.append_nil, getD_of h]
  rfl
theorem upTo_len {ps : List PyData} (h : ∀ p ∈ ps, ∃ rows, p = .tuple rows ∧ rows.length ≤ 5) : ∀ i : Nat, (upTo ps i).length ≤ 5 * i
  | 0 => Nat.le_refl _
  | i + 1 => by
    have ih := upTo_len h i
    unfold upTo at ih ⊢
    rw [List.range_succ, List.flatMap_append, List.flatMap_cons, List.flatMap_nil, List.append_nil, List.length_append]
    have e : (inPart i (itemsD (ps.getD i .none)).length).length ≤ 5 := by
      unfold inPart
      rw [List.length_map, List.length_range, List.getD_eq_getElem?_getD]
      cases q : ps[i]? with
      | none => exact Nat.zero_le _
      | some p =>
        obtain ⟨rows, rfl, h5⟩ := h p (List.mem_of_getElem? q)
        exact h5
    omega
theorem inPart_len (i n : Nat) : (inPart i n).length = n := by
  unfold inPart
  rw [List.length_map, List.length_range]
theorem places_mem {ps : List PyData} {i : Nat} {d : PyData} (h : d ∈ upTo ps i) : ∃ a b : Nat, d = placeD a b := by
  unfold upTo at h
  obtain ⟨k, _, h⟩ := List.mem_flatMap.mp h
  unfold inPart at h
  obtain ⟨j, _, rfl⟩ := List.mem_map.mp h
  exact ⟨k, j, rfl⟩
theorem noLst_all {ds : List PyData} (h : ∀ d ∈ ds, noLst d = true) : noLsts ds = true := by
  induction ds with
  | nil => rfl
  | cons d ds ih => rw [noLsts, h d List.mem_cons_self, ih fun e m => h e (List.mem_cons_of_mem _ m)]; rfl
theorem noLst_places (ps : List PyData) (i : Nat) : noLsts (upTo ps i) = true := noLst_all fun d hd => by
  obtain ⟨a, b, rfl⟩ := places_mem hd
  rfl
end Lb

set_option Elab.async false
set_option linter.all false
set_option maxRecDepth 100000
set_option maxHeartbeats 4000000
/-! the other drawing: a pool of numbers, words of rows -/
namespace Lb
open PySem PySem.Spec PyProof.Rows L2
/-- a pool stands at l; at most m draws were made -/
def Pool (m : Nat) (l : Addr) (H : Hp) : Prop := ∃ (k : Int) (cs : List Int), H l = some (.lst (V.int k :: cs.map V.int)) ∧ 0 ≤ k ∧ k ≤ m ∧ 1 ≤ cs.length ∧ cs.length ≤ 64
section
variable {m n : Nat} {l x : Addr} {H H' : Hp} {o : HO}
theorem Pool.le (p : Pool m l H) (h : m ≤ n) : Pool n l H := by
  obtain ⟨k, cs, e, k0, km, r⟩ := p
  exact ⟨k, cs, e, k0, by omega, r⟩
theorem Pool.same (p : Pool m l H) (s : Same H H') : Pool m l H' := by
  obtain ⟨k, cs, e, r⟩ := p
  exact ⟨k, cs, s _ _ e, r⟩
theorem Pool.away (p : Pool m l H) (n : x ≠ l) : Pool m l (upd H x o) := by
  obtain ⟨k, cs, e, r⟩ := p
  exact ⟨k, cs, by rw [upd_ne n.symm]; exact e, r⟩
theorem Pool.ne (p : Pool m l H) (nx : H x = none) : x ≠ l := fun z => by
  obtain ⟨k, cs, e, _⟩ := p
  rw [z, e] at nx
  exact nomatch nx
theorem Pool.new (p : Pool m l H) (nx : H x = none) : Pool m l (upd H x o) := p.away (p.ne nx)
theorem Pool.lst (p : Pool m l H) : ∃ xs, H l = some (.lst xs) := by
  obtain ⟨k, cs, e, _⟩ := p
  exact ⟨_, e⟩
end
theorem mixed_small {f k : Int} (f0 : 0 ≤ f) (f1 : f ≤ 1000007) (k0 : 0 ≤ k) (k1 : k ≤ 60000) :
    -(2 ^ 64) < f * f * (k + 7) + f * (k * k + 13) + (k + 11) ^ (3 : Int).toNat ∧ f * f * (k + 7) + f * (k * k + 13) + (k + 11) ^ (3 : Int).toNat < 2 ^ 64 := by
  have e3 : (k + 11) ^ (3 : Int).toNat = (k + 11) * (k + 11) * (k + 11) := by
    show (k + 11) ^ 3 = _
    rw [Int.pow_succ, Int.pow_succ, Int.pow_succ, Int.pow_zero, Int.one_mul]
  rw [e3]
  have le : ∀ {a b c d : Int}, 0 ≤ a → a ≤ b → 0 ≤ c → c ≤ d → 0 ≤ a * c ∧ a * c ≤ b * d := fun a0 ab c0 cd =>
    ⟨Int.mul_nonneg a0 c0, Int.mul_le_mul ab cd c0 (by omega)⟩
  have h1 := le f0 f1 f0 f1
  have h2 := le h1.1 h1.2 (show 0 ≤ k + 7 by omega) (show k + 7 ≤ 60007 by omega)
  have h3 := le k0 k1 k0 k1
  have h4 := le f0 f1 (show 0 ≤ k * k + 13 by omega) (show k * k + 13 ≤ 60000 * 60000 + 13 by omega)
  have h5 := le (show 0 ≤ k + 11 by omega) (show k + 11 ≤ 60011 by omega) (show 0 ≤ k + 11 by omega) (show k + 11 ≤ 60011 by omega)
  have h6 := le h5.1 h5.2 (show 0 ≤ k + 11 by omega) (show k + 11 ≤ 60011 by omega)
  omega
theorem prime_at {r : Int} (r0 : 0 ≤ r) (r1 : r < 5) : ∃ p : Int, atI [V.int 999979, V.int 999961, V.int 999953, V.int 999931, V.int 999917] r = some (.int p) ∧ 0 < p ∧ p < 1073741824 := by
  rcases (by omega : r = 0 ∨ r = 1 ∨ r = 2 ∨ r = 3 ∨ r = 4) with e | e | e | e | e <;> subst e
  · exact ⟨999979, rfl, by decide, by decide⟩
  · exact ⟨999961, rfl, by decide, by decide⟩
  · exact ⟨999953, rfl, by decide, by decide⟩
  · exact ⟨999931, rfl, by decide, by decide⟩
  · exact ⟨999917, rfl, by decide, by decide⟩
abbrev Wd := Str × Str
def wdD (q : Wd) : PyData := .tuple [.str q.1, .str q.2]
def wdsD (l : List Wd) : PyData := .list (l.map wdD)
def wordsL : List Str := ["load", "give", "pass", "show", "late", "give", "load", "out"]
theorem wordL_at {v : Int} (h0 : 0 ≤ v) (h1 : v < 8) : ∃ x, atI (wordsL.map V.str) v = some (.str x) ∧ x ∈ wordsOf := by
  have lt : v.toNat < wordsL.length := by
    show v.toNat < 8
    omega
  have e := atI_nat (xs := wordsL.map V.str) (j := v.toNat) (v := .str wordsL[v.toNat]) (by rw [List.getElem?_map, List.getElem?_eq_getElem lt]; rfl)
  rw [Int.toNat_of_nonneg h0] at e
  refine ⟨_, e, ?_⟩
  have all : ∀ x ∈ wordsL, x ∈ wordsOf := by decide +kernel
  exact all _ (List.getElem_mem lt)
def isOutW (q : Wd) : Bool := decide (q.1 = ("out" : Str))
def outsW (l : List Wd) : Nat := l.countP isOutW
def totW (ws : List (List Wd)) : Nat := ws.flatten.length
def outW (ws : List (List Wd)) : Nat := outsW ws.flatten
def Wd.ok (q : Wd) : Prop := q.1 ∈ wordsOf ∧ q.2 ∈ letters
structure WsOk (ws : List (List Wd)) : Prop where
  five : ∀ l ∈ ws, l.length ≤ 5
  ok : ∀ l ∈ ws, ∀ q ∈ l, Wd.ok q
  total : totW ws ≤ 12
  outs : outW ws ≤ 2
theorem totW_snoc (ws : List (List Wd)) (l : List Wd) : totW (ws ++ [l]) = totW ws + l.length := by simp [totW]
theorem outW_snoc (ws : List (List Wd)) (l : List Wd) : outW (ws ++ [l]) = outW ws + outsW l := by simp [outW, outsW]
theorem outsW_snoc (l : List Wd) (q : Wd) : outsW (l ++ [q]) = outsW l + (if q.1 = ("out" : Str) then 1 else 0) := by
  simp only [outsW, List.countP_append, List.countP_singleton, isOutW, decide_eq_true_eq]
theorem noLst_wds (l : List Wd) : noLsts (l.map wdD) = true := by
  induction l with
  | nil => rfl
  | cons q l ih => rw [List.map_cons, noLsts, ih]; rfl
theorem noDicts_nms (ps : List Nm) : noDicts (ps.map nmD) = true := by
  induction ps with
  | nil => rfl
  | cons p ps ih => rw [List.map_cons, noDicts, ih]; rfl
theorem noDict_nms (ps : List Nm) : noDict (.list (ps.map nmD)) = true := noDicts_nms ps
theorem strOk_letter {s : Str} (h : s ∈ letters) : PyData.canLay0 (.str s) = true := by
  have all : ∀ x ∈ letters, PyData.canLay0 (.str x) = true := by decide +kernel
  exact all s h
theorem lay_nms {c : Int} : ∀ {ps : List Nm}, (∀ p ∈ ps, nmOk c p) → PyData.canLayAll0 (ps.map nmD) = true
  | [], _ => by simp only [List.map_nil, PyData.canLayAll0]
  | p :: ps, h => by
    have h1 := strOk_letter (h p List.mem_cons_self).2.2
    have h2 := lay_nms (ps := ps) fun q hq => h q (List.mem_cons_of_mem _ hq)
    simp only [List.map_cons, PyData.canLayAll0, nmD, PyData.canLay0, h2, Bool.and_true, Bool.true_and]
    simpa only [PyData.canLay0] using h1
theorem depth_nms : ∀ ps : List Nm, PyData.depthAll (ps.map nmD) ≤ 2
  | [] => by simp only [List.map_nil, PyData.depthAll]; omega
  | p :: ps => by
    have := depth_nms ps
    simp only [List.map_cons, PyData.depthAll, nmD, PyData.depth]
    omega
theorem shaped_nms {c : Int} {ps : List Nm} (h : ∀ p ∈ ps, nmOk c p) : SeqAt.shaped (.list (ps.map nmD)) = true := by
  have := depth_nms ps
  unfold SeqAt.shaped
  rw [Bool.and_eq_true, decide_eq_true_eq]
  refine ⟨by simp only [PyData.canLay0]; exact lay_nms h, by simp only [PyData.depth]; omega⟩
def showA : Wd := ("show", "a")
def withShow (ws : List (List Wd)) (at_ : Nat) : List (List Wd) := ws.set at_ ((ws.getD at_ []).dropLast ++ [showA])
theorem wsOk_set {ws : List (List Wd)} {n : Nat} (ok : WsOk ws) (h : n < ws.length) (ne : ws.getD n [] ≠ [] ∨ totW ws = 0) : WsOk (withShow ws n) := by
  obtain ⟨pre, x, post, e, en⟩ : ∃ pre x post, ws = pre ++ x :: post ∧ pre.length = n := ⟨ws.take n, ws[n], ws.drop (n + 1), by rw [List.getElem_cons_drop, List.take_append_drop], by rw [List.length_take]; omega⟩
  subst e
  have gx : (pre ++ x :: post).getD n [] = x := by
    rw [List.getD_eq_getElem?_getD, List.getElem?_append_right (by omega), en, Nat.sub_self]
    rfl
  have se : withShow (pre ++ x :: post) n = pre ++ (x.dropLast ++ [showA]) :: post := by
    unfold withShow
    rw [gx, List.set_append_right _ _ (by omega), en, Nat.sub_self]
    rfl
  rw [gx] at ne
  rw [se]
  obtain ⟨o1, o2, o3, o4⟩ := ok
  have tg : ∀ y : List Wd, totW (pre ++ y :: post) = pre.flatten.length + (y.length + post.flatten.length) := fun y => by
    unfold totW
    rw [List.flatten_append, List.flatten_cons, List.length_append, List.length_append]
  have ug : ∀ y : List Wd, outW (pre ++ y :: post) = outsW pre.flatten + (outsW y + outsW post.flatten) := fun y => by
    unfold outW outsW
    rw [List.flatten_append, List.flatten_cons, List.countP_append, List.countP_append]
  have t1 := tg x
  have t2 := tg (x.dropLast ++ [showA])
  rw [List.length_append, List.length_dropLast, List.length_singleton] at t2
  have u1 := ug x
  have u2 := ug (x.dropLast ++ [showA])
  have u4 : outsW (x.dropLast ++ [showA]) = outsW x.dropLast + 0 := by
    have z : outsW [showA] = 0 := by decide +kernel
    rw [← z]
    unfold outsW
    rw [List.countP_append]
  rw [u4] at u2
  have u3 : outsW x.dropLast ≤ outsW x := (List.dropLast_sublist x).countP_le
  have xl : x ≠ [] → 0 < x.length := fun z => List.length_pos_iff.mpr z
  rw [t1] at o3 ne
  rw [u1] at o4
  have sub : ∀ y ∈ x.dropLast ++ [showA], y ∈ x ∨ y = showA := fun y hy => by
    rcases List.mem_append.mp hy with z | z
    · exact .inl ((List.dropLast_sublist x).subset z)
    · exact .inr (List.mem_singleton.mp z)
  refine ⟨fun y hy => ?_, fun y hy => ?_, ?_, ?_⟩
  · rcases List.mem_append.mp hy with z | z
    · exact o1 y (List.mem_append_left _ z)
    · rcases List.mem_cons.mp z with z | z
      · have := o1 x (List.mem_append_right _ List.mem_cons_self)
        rw [z, List.length_append, List.length_dropLast, List.length_singleton]
        omega
      · exact o1 y (List.mem_append_right _ (List.mem_cons_of_mem _ z))
  · rcases List.mem_append.mp hy with z | z
    · exact o2 y (List.mem_append_left _ z)
    · rcases List.mem_cons.mp z with z | z
      · rw [z]
        intro q hq
        rcases sub q hq with e | e
        · exact o2 x (List.mem_append_right _ List.mem_cons_self) q e
        · rw [e]
          exact ⟨by decide +kernel, by decide +kernel⟩
      · exact o2 y (List.mem_append_right _ (List.mem_cons_of_mem _ z))
  · rw [t2]
    rcases ne with z | z
    · have := xl z
      omega
    · omega
  · rw [u2]
    omega
theorem withShow_at (ws : List (List Wd)) (n i : Nat) (h : i < ws.length) : (withShow ws n)[i]? = some (if i = n then (ws.getD n []).dropLast ++ [showA] else ws.getD i []) := by
  unfold withShow
  rw [List.getElem?_set]
  by_cases c : n = i
  · rw [if_pos c, if_pos (by omega), if_pos c.symm]
  · rw [if_neg c, if_neg (fun z => c z.symm), List.getD_eq_getElem?_getD, List.getElem?_eq_getElem h, Option.getD_some]
theorem withShow_len (ws : List (List Wd)) (n : Nat) : (withShow ws n).length = ws.length := List.length_set ..
theorem noDict_wds (l : List Wd) : noDict (wdsD l) = true := by
  show noDicts (l.map wdD) = true
  induction l with
  | nil => rfl
  | cons q l ih => rw [List.map_cons, noDicts, ih]; rfl
theorem strOk_word {s : Str} (h : s ∈ wordsOf) : PyData.canLay0 (.str s) = true := by
  have all : ∀ x ∈ wordsOf, PyData.canLay0 (.str x) = true := by decide +kernel
  exact all s h
theorem lay_wds : ∀ {l : List Wd}, (∀ q ∈ l, Wd.ok q) → PyData.canLayAll0 (l.map wdD) = true
  | [], _ => by simp only [List.map_nil, PyData.canLayAll0]
  | q :: l, h => by
    have h1 := strOk_word (h q List.mem_cons_self).1
    have h3 := strOk_letter (h q List.mem_cons_self).2
    have h2 := lay_wds (l := l) fun q hq => h q (List.mem_cons_of_mem _ hq)
    simp only [List.map_cons, PyData.canLayAll0, wdD, h1, h3, PyData.canLay0, h2, Bool.and_true, Bool.true_and]
    simp only [PyData.canLay0] at h1 h3
    rw [h1, h3]
    rfl
theorem depth_wds : ∀ l : List Wd, PyData.depthAll (l.map wdD) ≤ 2
  | [] => by simp only [List.map_nil, PyData.depthAll]; omega
  | q :: l => by
    have := depth_wds l
    simp only [List.map_cons, PyData.depthAll, wdD, PyData.depth]
    omega
theorem shaped_wds {l : List Wd} (h : ∀ q ∈ l, Wd.ok q) : SeqAt.shaped (wdsD l) = true := by
  have := depth_wds l
  unfold SeqAt.shaped wdsD
  rw [Bool.and_eq_true, decide_eq_true_eq]
  refine ⟨by simp only [PyData.canLay0]; exact lay_wds h, by simp only [PyData.depth]; omega⟩
theorem eqv_wds (l : List Wd) : PyData.eqv (wdsD l) (.list []) = decide (l = []) := by
  cases l with
  | nil => rfl
  | cons p r => rfl
theorem cut_last (xs : List V) : cutV xs none (some (-1)) = xs.dropLast := by
  have e : HT.sIx xs.length xs.length (some (-1)) = xs.length - 1 := by
    unfold HT.sIx
    simp
    omega
  have e0 : HT.sIx xs.length 0 none = 0 := rfl
  unfold cutV
  rw [e, e0, List.dropLast_eq_take]
  simp
theorem same_own {H H' : Hp} {x : Addr} {o : HO} (s : Same H H') (h : H x = none) : Same H (upd H' x o) := fun b u e => by
  rw [upd_ne (ne_of_none e h)]
  exact s _ _ e
theorem totW_zero : ∀ {ws : List (List Wd)}, (∀ j, j < ws.length → ws.getD j [] = []) → totW ws = 0
  | [], _ => rfl
  | x :: ws, h => by
    have hx : x = [] := h 0 (Nat.succ_pos _)
    have := totW_zero (ws := ws) fun j hj => h (j + 1) (Nat.succ_lt_succ hj)
    unfold totW at *
    rw [hx, List.flatten_cons, List.nil_append]
    exact this
/-- a heap by what is known of it -/
theorem at_heap {t : TS} {D : Ends} {σ : L2.St} {H : Hp} (F : Hp → Prop) (h : F H) (k : ∀ H', F H' → t D σ H') : t D σ H := k H h
/-- what holds behind a statement, said once -/
theorem cut_by {t u : TS} {D : Ends} {σ : L2.St} {H : Hp} (R : L2.St → Hp → Prop) (h2 : ∀ σ H, R σ H → u D σ H) (h1 : (∀ σ H, R σ H → u D σ H) → t { D with nx := u D } σ H) : tSeq t u D σ H := h1 h2
theorem sub_range {ys : List V} {c : Int} (h : ys.Sublist (rgV 0 c)) : ∃ es : List Int, ys = es.map V.int ∧ (∀ e ∈ es, 0 ≤ e ∧ e < c) ∧ es.Pairwise (· < ·) := by
  unfold rgV at h
  obtain ⟨is, s, e⟩ := List.sublist_map_iff.mp h
  refine ⟨is.map fun (i : Nat) => (i : Int), ?_, fun x hx => ?_, ?_⟩
  · rw [e, List.map_map]
    refine List.map_congr_left fun i _ => ?_
    show V.int (0 + (i : Int)) = V.int (i : Int)
    rw [Int.zero_add]
  · obtain ⟨i, hi, rfl⟩ := List.mem_map.mp hx
    have := List.mem_range.mp (s.subset hi)
    omega
  · rw [List.pairwise_map]
    exact (List.pairwise_lt_range.sublist s).imp fun {a b} z => by omega
theorem shaped_ints (es : List Int) : SeqAt.shaped (.list (es.map PyData.int)) = true := by
  have h1 : PyData.canLayAll0 (es.map PyData.int) = true := by
    induction es with
    | nil => simp only [List.map_nil, PyData.canLayAll0]
    | cons e es ih => simp only [List.map_cons, PyData.canLayAll0, PyData.canLay0, ih, Bool.and_true]
  have h2 : PyData.depthAll (es.map PyData.int) ≤ 1 := by
    clear h1
    induction es with
    | nil => simp only [List.map_nil, PyData.depthAll]; omega
    | cons e es ih => simp only [List.map_cons, PyData.depthAll, PyData.depth]; omega
  unfold SeqAt.shaped
  rw [Bool.and_eq_true, decide_eq_true_eq]
  exact ⟨by simp only [PyData.canLay0]; exact h1, by simp only [PyData.depth]; omega⟩
theorem noDict_ints (es : List Int) : noDict (.list (es.map PyData.int)) = true := by
  show noDicts (es.map PyData.int) = true
  induction es with
  | nil => rfl
  | cons e es ih => rw [List.map_cons, noDicts, ih]; rfl
theorem eqv_ints (es : List Int) : PyData.eqv (.list (es.map PyData.int)) (.list []) = decide (es = []) := by
  cases es with
  | nil => rfl
  | cons p r => rfl
theorem with_show_rows {prs : List (List Row)} {ws : List (List Wd)} (pw : prs.map (List.map Row.word) = ws.map (List.map Prod.fst)) (g : ∃ x ∈ ws, ∃ q ∈ x, q.1 = ("give" : Str) ∨ q.1 = ("show" : Str)) :
    ∃ rs ∈ prs, ∃ r ∈ rs, r.word = ("give" : Str) ∨ r.word = ("show" : Str) := by
  obtain ⟨x, hx, q, hq, e⟩ := g
  have m : x.map Prod.fst ∈ prs.map (List.map Row.word) := by
    rw [pw]
    exact List.mem_map.mpr ⟨x, hx, rfl⟩
  obtain ⟨rs, hrs, ers⟩ := List.mem_map.mp m
  have m2 : q.1 ∈ rs.map Row.word := by
    rw [ers]
    exact List.mem_map.mpr ⟨q, hq, rfl⟩
  obtain ⟨r, hr, er⟩ := List.mem_map.mp m2
  exact ⟨rs, hrs, r, hr, by rw [er]; exact e⟩
/-- rows by their words -/
theorem prog_shapeW {prs : List (List Row)} {ws : List (List Wd)} (pw : prs.map (List.map Row.word) = ws.map (List.map Prod.fst)) (ok : WsOk ws) :
    prs.length = ws.length ∧ (∀ rs ∈ prs, rs.length ≤ 5) ∧ prs.flatten.length ≤ 12 ∧ (prs.flatten.map Row.word).countP (fun w : Str => decide (w = ("out" : Str))) ≤ 2 := by
  have e : prs.flatten.map Row.word = ws.flatten.map Prod.fst := by rw [List.map_flatten, List.map_flatten, pw]
  refine ⟨?_, fun rs hrs => ?_, ?_, ?_⟩
  · have z := congrArg List.length pw
    rwa [List.length_map, List.length_map] at z
  · have m : rs.map Row.word ∈ ws.map (List.map Prod.fst) := by
      rw [← pw]
      exact List.mem_map.mpr ⟨rs, hrs, rfl⟩
    obtain ⟨xs, hxs, ex⟩ := List.mem_map.mp m
    have z := congrArg List.length ex
    rw [List.length_map, List.length_map] at z
    have := ok.five xs hxs
    omega
  · have z := congrArg List.length e
    rw [List.length_map, List.length_map] at z
    have := ok.total
    unfold totW at this
    omega
  · rw [e, List.countP_map]
    exact ok.outs
/-- a part of a list of values read as data -/
theorem Reps.subl {S : List Addr} {H : Hp} : ∀ {xs ys : List V} {ds : List PyData}, Reps S H xs ds → ys.Sublist xs → ∃ es, es.Sublist ds ∧ Reps S H ys es
  | _, _, _, .nil, s => by
    cases s
    exact ⟨[], .slnil, .nil⟩
  | _, _, _, .cons r rs, s => by
    cases s with
    | cons _ s =>
      obtain ⟨es, e1, e2⟩ := Reps.subl rs s
      exact ⟨es, .cons _ e1, e2⟩
    | cons_cons _ s =>
      obtain ⟨es, e1, e2⟩ := Reps.subl rs s
      exact ⟨_, .cons_cons _ e1, .cons r e2⟩
end Lb

set_option Elab.async false
set_option linter.all false
set_option maxRecDepth 100000
set_option maxHeartbeats 4000000
/-! sep.join(map(f, t)), t a tuple; str of numbers -/
namespace Lb
open PySem PySem.Spec PyProof.Rows L2
section
variable {P : Program} {w : World} {A : Around} {E : Value → Shared → Prop} {s : Shared}
theorem join_over_tuple {x : Str} {u : Tok} {f : Value} {a : Addr} {vs : Array Value} {ys : List Str} {C : Value → Prop} {R : Value → Value → Prop} {Q : Value → Shared → Prop} (quiet : A.handled = none)
    (ht : s.heap.IsTuple a vs) (hF : MpR.MapF P w f C R) (each : ∀ (i : Nat) (z : Value), vs[i]? = some z → C z) (few : vs.size ≤ sizeLine)
    (texts : ∀ acc : Array Value, ItemsOf (fun i v => ∃ z, vs[i]? = some z ∧ R z v) acc vs.size → StrsAre acc.toList ys) (room : (ys.map (·.length)).sum + ys.length * x.length ≤ 16777216)
    (fin : ∀ h' u' k, (∀ b o, s.heap.get? b = some o → h'.get? b = some o) → Q (.str (Txt.join x ys) u') { s with heap := h', toks := k }) :
    wpAny (model P w) A (call (.type "map") [f, .ref a]) (fun v now => wpAny (model P w) A (call (.builtin "str.join") [.str x u, v]) Q E now) E s := by
  have quiet3 : A.in1.in1.in1.handled = none := quiet
  have low : a < s.heap.objs.size := by
    obtain ⟨o, ho, _⟩ := ht
    exact Heap.lt_size ho
  have grown : (s.heap.push { cls := .type "tuple_iterator", data := .fields #[.ref a, .int 0 0] }).objs.size = s.heap.objs.size + 1 := Heap.size_push ..
  refine MpR.join_map_by (P := fun i z => vs[i]? = some z) quiet hF each few texts room (wpAny_pyIter_tuple ht ?_)
  refine ⟨s.heap.objs.size, [s.heap.objs.size, a], _, rfl, Draws.tuple quiet3 s.heap.objs.size a (Nat.ne_of_lt low) vs, by simp, fun b hb => ?_, ⟨⟨_, Heap.get?_push_size _ rfl, rfl, rfl⟩, ?_⟩, fun h' k kept u' => ?_⟩
  · show b < (s.heap.push { cls := .type "tuple_iterator", data := .fields #[.ref a, .int 0 0] }).objs.size
    rw [grown]
    rcases List.mem_cons.mp hb with z | z
    · rw [z]
      exact Nat.lt_succ_self _
    · rw [List.mem_singleton.mp z]
      exact Nat.lt_succ_of_lt low
  · obtain ⟨o, ho, r⟩ := ht
    exact ⟨o, Heap.get?_push_of_some _ ho, r⟩
  · exact fin h' u' k fun b o e => kept b o (Nat.ne_of_lt (Heap.lt_size e)) (Heap.get?_push_of_some _ e)
end
def digT (i : Int) : Str := Str.ofString (toString i)
def strV : V → V
  | .int i => .str (digT i)
  | y => y
theorem mapV_str {P : Program} {w : World} : MapV P w (.type "str") (fun x => ∃ i : Int, x = .int i ∧ i.natAbs.log2 < 1920) strV := by
  refine mapV_of fun A E Q s x u _ c rx done => ?_
  obtain ⟨i, rfl, hz⟩ := c
  obtain ⟨t, rfl⟩ := rx
  exact PySem.P.str_of_int hz (done _ _ ⟨_, rfl⟩)
section
variable {X : Cx}
/-- sep.join(map(f, t)), t a tuple -/
def tJoinT (K : PySem.W.Frag) (C : V → Prop) (g : V → V) (to : TE) (ta : TA) : TE := fun σ H Q => to σ H fun x H1 => (∃ y, x = .str y) ∧ ta σ H1 fun vs H2 => ∃ (y : Str) (p : Addr) (xs : List V) (ws : List Str), x = .str y ∧ vs = [.ref p] ∧ SqT K H2 p xs ∧ (∀ z ∈ xs, C z) ∧
  xs.map g = ws.map V.str ∧ (ws.map (·.length)).sum + ws.length * y.length ≤ 16777216 ∧ Q (.str (Txt.join y ws)) H2
theorem pe_joinT {o fe e : Expr} {to : TE} {ta : TA} {f : Value} {C : V → Prop} {g : V → V} {apos pos p pos2 : Pos} (calm : X.calm = true) (ho : PE X o to) (glob : Gl X "map") (free : X.mg "map" = none) (hf : PF X fe f) (ha : PA X [e] ta) (hF : MapV X.prog X.w f C g)
    (s1 : starEach [.Call (.Name "map" p) [fe, e] [] pos2] X.env = [(false, eval (.Call (.Name "map" p) [fe, e] [] pos2) X.env)] := by rfl) (s2 : starEach [fe, e] X.env = (false, eval fe X.env) :: starEach [e] X.env := by rfl)
    (pl : (backTo pos2 (starEach [e] X.env)).any (·.1) = false := by rfl) (ab : attributeBase o "join" X.env (eval o X.env) = eval o X.env := by rfl) (ln : (apos.endLine == pos.line) = true := by rfl) :
    PE X (.Call (.Attribute o "join" apos) [.Call (.Name "map" p) [fe, e] [] pos2] [] pos) (tJoinT X.K C g to ta) := by
  refine ⟨fun pins s σ H Q I h => PySem.Call_method1 ab s1 ln (thn (ho.run pins s σ H _ I h) fun v now ⟨x, H1, I1, r1, q1⟩ => ?_)⟩
  obtain ⟨⟨y, rfl⟩, q1⟩ := q1
  obtain ⟨t, rfl⟩ := _root_.id r1
  refine ⟨"str", _, F.plainAttrs_str, F.slot_str_join, F.type_str_join, typeIs_str _ _ _, (fun _ z => nomatch z), Calls.callWith_builtin rfl (Calls.evalArgs_plain (Calls.spliced_cons ?_))⟩
  refine wpAny_Call_Name_kw (ld_blt I1 glob free boot_map (PyProof.Rows.callWith_type1 ?_ s2 pl))
  rw [s2]
  show wpAny _ _ (spliced ((false, eval fe X.env) :: backTo pos2 (starEach [e] X.env))) _ _ now
  refine Calls.spliced_cons (hf.run pins now σ H1 _ I1 fun now2 I2 => ?_)
  refine thn (ha.run pos2 pins now2 σ H1 _ I2 q1) fun us now3 ⟨vs, H2, I3, r3, q3⟩ => ?_
  obtain ⟨y', q, xs, ws, ey, rfl, hq, each, maps, room, q3⟩ := q3
  cases ey
  cases r3 with
  | cons r rest =>
    cases rest
    cases r
    obtain ⟨its, rv, ht, few⟩ := I3.tuple hq
    have len : its.length = xs.length := rv.length.symm
    have tup : now3.heap.IsTuple q its.toArray := by
      obtain ⟨o, ho, hc, n, hd⟩ := ht
      exact ⟨o, ho, hc, n, hd⟩
    refine wpAny_mono (join_over_tuple (x := y) (u := t) (ys := ws) (Q := EP X pins σ Q) (E := X.xe) (I3.ok.hd calm) tup hF (fun i z hz => ?_) (by simp only [List.size_toArray]; omega) (fun acc hacc => mapV_len rv maps hacc) room
      fun h' t' k kept => ⟨.str _, H2, I3.kept (t' := k) kept, ⟨t', rfl⟩, q3⟩) (fun v s4 h4 => Calls.spliced_nil h4) fun _ _ z => z
    have hz2 : its[i]? = some z := by simpa using hz
    have il : i < xs.length := by
      have := (List.getElem?_eq_some_iff.mp hz2).1
      omega
    obtain ⟨z2, hz3, rz⟩ := rv.get (i := i) (x := xs[i]) (List.getElem?_eq_getElem il)
    obtain rfl : z2 = z := Option.some.inj (hz3.symm.trans hz2)
    exact ⟨xs[i], each _ (List.getElem_mem il), rz⟩
end
/-! short texts -/
theorem digT_len {i : Int} (h0 : -1 ≤ i) (h1 : i < 10) : (digT i).length ≤ 2 := by
  rcases (by omega : i = -1 ∨ i = 0 ∨ i = 1 ∨ i = 2 ∨ i = 3 ∨ i = 4 ∨ i = 5 ∨ i = 6 ∨ i = 7 ∨ i = 8 ∨ i = 9) with e | e | e | e | e | e | e | e | e | e | e <;> subst e <;> decide +kernel
theorem log_small {i : Int} (h0 : -1 ≤ i) (h1 : i < 100) : i.natAbs.log2 < 1920 := by
  have h : i.natAbs < 2 ^ 1919 := Nat.lt_of_lt_of_le (show i.natAbs < 2 ^ 7 by omega) (Nat.pow_le_pow_right (by decide) (by decide))
  by_cases z : i.natAbs = 0
  · rw [z]
    decide
  · exact Nat.lt_of_lt_of_le ((Nat.log2_lt z).mpr h) (by decide)
theorem letter_len {s : Str} (h : s ∈ letters) : s.length = 1 := by
  have all : ∀ x ∈ letters, x.length = 1 := by decide +kernel
  exact all s h
def needT (p : Nm) : Str := digT p.1 ++ "." ++ p.2
def needsT (ps : List Nm) : Str := if ps = [] then "-" else Txt.join "," (ps.map needT)
def riskT (b : Bool) : Str := if b then " !" else ""
def partT (p : Int) : Str := if p = -1 then "-" else digT p
def rowT : Row → Str
  | .out => "out"
  | .load p => "load " ++ digT p
  | .pass n p o => "pass " ++ n ++ " " ++ digT p ++ "." ++ o
  | .late n p ns => "late " ++ n ++ " " ++ partT p ++ " " ++ needsT ns
  | .give n ns r => "give " ++ n ++ " " ++ needsT ns ++ riskT r
  | .show_ ns r => "show " ++ needsT ns ++ riskT r
theorem len_app (a b : Str) : (a ++ b).length = a.length + b.length := Str.length_append a b
theorem join_len (y : Str) : ∀ ws : List Str, (Txt.join y ws).length ≤ (ws.map (·.length)).sum + ws.length * y.length
  | [] => Nat.zero_le _
  | [x] => by
    show x.length ≤ (x.length + 0) + 1 * y.length
    omega
  | x :: z :: r => by
    have ih := join_len y (z :: r)
    rw [TL.join_eq] at ih ⊢
    show (x ++ y ++ Str.join y (z :: r)).length ≤ _
    rw [len_app, len_app]
    simp only [List.map_cons, List.sum_cons, List.length_cons] at ih ⊢
    have e2 : (r.length + 1 + 1) * y.length = (r.length + 1) * y.length + y.length := Nat.succ_mul _ _
    omega
theorem sum_le {α : Type} (f : α → Nat) (b : Nat) : ∀ l : List α, (∀ x ∈ l, f x ≤ b) → (l.map f).sum ≤ l.length * b
  | [], _ => Nat.zero_le _
  | x :: l, h => by
    have h1 := h x List.mem_cons_self
    have h2 := sum_le f b l fun y hy => h y (List.mem_cons_of_mem _ hy)
    rw [List.map_cons, List.sum_cons, List.length_cons, Nat.add_mul, Nat.one_mul]
    omega
theorem needT_len {c : Int} {p : Nm} (h : nmOk c p) (c4 : c ≤ 4) : (needT p).length ≤ 4 := by
  have h1 := digT_len (i := p.1) (by have := h.1; omega) (by have := h.2.1; omega)
  have h2 := letter_len h.2.2
  have h3 : (("." : Str)).length = 1 := by decide +kernel
  unfold needT
  rw [len_app, len_app]
  omega
theorem needs_sum {c : Int} {ps : List Nm} (h : ∀ p ∈ ps, nmOk c p) (c4 : c ≤ 4) : ((ps.map needT).map (·.length)).sum ≤ ps.length * 4 := by
  rw [List.map_map]
  exact sum_le _ 4 ps fun p hp => needT_len (h p hp) c4
theorem comma_len : (("," : Str)).length = 1 := by decide +kernel
theorem needsT_len {c : Int} {ps : List Nm} (h : ∀ p ∈ ps, nmOk c p) (c4 : c ≤ 4) (n4 : ps.length ≤ 4) : (needsT ps).length ≤ 20 := by
  unfold needsT
  by_cases e : ps = []
  · rw [if_pos e]
    decide +kernel
  · rw [if_neg e]
    have h1 := join_len "," (ps.map needT)
    have h2 := needs_sum h c4
    rw [comma_len, List.length_map] at h1
    omega
theorem riskT_len (b : Bool) : (riskT b).length ≤ 2 := by cases b <;> decide +kernel
theorem partT_len {p : Int} (h0 : -1 ≤ p) (h1 : p < 4) : (partT p).length ≤ 2 := by
  unfold partT
  split
  · decide +kernel
  · exact digT_len h0 (by omega)
theorem rowT_len {c : Int} {r : Row} (h : r.ok c) (c4 : c ≤ 4) : (rowT r).length ≤ 40 := by
  have k5 : (("load " : Str)).length = 5 := by decide +kernel
  have k6 : (("pass " : Str)).length = 5 := by decide +kernel
  have k7 : (("late " : Str)).length = 5 := by decide +kernel
  have k8 : (("give " : Str)).length = 5 := by decide +kernel
  have k9 : (("show " : Str)).length = 5 := by decide +kernel
  have k1 : ((" " : Str)).length = 1 := by decide +kernel
  have k2 : (("." : Str)).length = 1 := by decide +kernel
  cases r with
  | out => decide +kernel
  | load p =>
    have := digT_len (i := p) (by have := h.1; omega) (by have := h.2; omega)
    simp only [rowT, len_app]
    omega
  | pass n p o =>
    have h1 := letter_len h.1
    have h2 := letter_len h.2.2
    have h3 := digT_len (i := p) (by have := h.2.1.1; omega) (by have := h.2.1.2; omega)
    simp only [rowT, len_app]
    omega
  | late n p ns =>
    have h1 := letter_len h.1
    have h2 := partT_len (p := p) h.2.1.1 (by have := h.2.1.2; omega)
    have h3 := needsT_len h.2.2.2 c4 (by have := h.2.2.1; omega)
    simp only [rowT, len_app]
    omega
  | give n ns b =>
    have h1 := letter_len h.1
    have h2 := riskT_len b
    have h3 := needsT_len h.2.2 c4 (by have := h.2.1; omega)
    simp only [rowT, len_app]
    omega
  | show_ ns b =>
    have h2 := riskT_len b
    have h3 := needsT_len h.2 c4 (by have := h.1; omega)
    simp only [rowT, len_app]
    omega
def needsL : Row → List Nm
  | .give _ ns _ => ns
  | .show_ ns _ => ns
  | .late _ _ ns => ns
  | _ => []
def riskB : Row → Bool
  | .give _ _ b => b
  | .show_ _ b => b
  | _ => false
def partTs (q : List Row × Bool) : List Str := (if q.2 then ("part plain" : Str) else "part") :: q.1.map rowT
def headT (P : Prog) : List Str := ["entries " ++ Txt.join "" (P.entries.map digT), "open " ++ needsT P.opens]
def linesT (P : Prog) : List Str := headT P ++ (P.parts.zip P.marks).flatMap partTs
def progT (P : Prog) : Str := Txt.join "\n" (linesT P)
theorem entT_len {P : Prog} (ok : P.Ok) : (Txt.join "" (P.entries.map digT)).length ≤ 6 := by
  have h1 := join_len "" (P.entries.map digT)
  have h2 : ((P.entries.map digT).map (·.length)).sum ≤ P.entries.length * 2 := by
    rw [List.map_map]
    refine sum_le _ 2 _ fun e he => ?_
    have z := ok.entIn e he
    have c4 := ok.four
    unfold Prog.c at z
    exact digT_len (by omega) (by omega)
  have h3 : (("" : Str)).length = 0 := by decide +kernel
  have := ok.ent3
  rw [h3] at h1
  omega
theorem c_le {P : Prog} (ok : P.Ok) : P.c ≤ 4 := by
  have := ok.four
  unfold Prog.c
  omega
theorem partTs_small {P : Prog} (ok : P.Ok) {q : List Row × Bool} (h : q ∈ P.parts.zip P.marks) : (partTs q).length ≤ 6 ∧ ∀ x ∈ partTs q, x.length ≤ 60 := by
  have hm := (List.of_mem_zip h).1
  refine ⟨?_, fun x hx => ?_⟩
  · have := ok.five _ hm
    show (q.1.map rowT).length + 1 ≤ 6
    rw [List.length_map]
    omega
  · rcases List.mem_cons.mp hx with e | e
    · rw [e]
      cases q.2 <;> decide +kernel
    · obtain ⟨r, hr, rfl⟩ := List.mem_map.mp e
      have := rowT_len (ok.rows _ hm r hr) (c_le ok)
      omega
theorem flat_small {P : Prog} (ok : P.Ok) : ∀ l : List (List Row × Bool), (∀ q ∈ l, q ∈ P.parts.zip P.marks) → (l.flatMap partTs).length ≤ 6 * l.length
  | [], _ => Nat.zero_le _
  | q :: l, h => by
    have h1 := (partTs_small ok (h q List.mem_cons_self)).1
    have h2 := flat_small ok l fun r hr => h r (List.mem_cons_of_mem _ hr)
    rw [List.flatMap_cons, List.length_append, List.length_cons]
    omega
theorem lines_some {P : Prog} (ok : P.Ok) (i : Nat) : (headT P ++ ((P.parts.zip P.marks).take i).flatMap partTs).length ≤ 26 := by
  have h := flat_small ok ((P.parts.zip P.marks).take i) fun q hq => List.mem_of_mem_take hq
  rw [List.length_take, List.length_zip] at h
  have := ok.four
  rw [List.length_append]
  show 2 + _ ≤ 26
  omega
theorem lines_small {P : Prog} (ok : P.Ok) : ∀ x ∈ linesT P, x.length ≤ 60 := by
  intro x hx
  rcases List.mem_append.mp hx with e | e
  · rcases List.mem_cons.mp e with e | e
    · rw [e, len_app]
      have h1 := entT_len ok
      have h2 : (("entries " : Str)).length = 8 := by decide +kernel
      omega
    · rw [List.mem_singleton.mp e, len_app]
      have h1 := needsT_len ok.opIn (c_le ok) ok.op4
      have h2 : (("open " : Str)).length = 5 := by decide +kernel
      omega
  · obtain ⟨q, hq, hx⟩ := List.mem_flatMap.mp e
    exact (partTs_small ok hq).2 x hx
theorem lines_many {P : Prog} (ok : P.Ok) : (linesT P).length ≤ 26 := by
  have h := lines_some ok (P.parts.zip P.marks).length
  rwa [List.take_length] at h
theorem nl_len : (("\n" : Str)).length = 1 := by decide +kernel
theorem lines_room {P : Prog} (ok : P.Ok) : ((linesT P).map (·.length)).sum + (linesT P).length * (("\n" : Str)).length ≤ 16777216 := by
  have h1 := sum_le (fun x : Str => x.length) 60 (linesT P) (lines_small ok)
  have h2 := lines_many ok
  rw [nl_len]
  omega
theorem bls_of {S : List Addr} {H : Hp} : ∀ {bs : List Bool} {xs : List V}, Reps S H xs (bs.map .bool) → xs = bs.map V.bl
  | [], _, .nil => rfl
  | b :: bs, _, .cons r rs => by rw [r.blV, bls_of rs, List.map_cons]
theorem ints_of {S : List Addr} {H : Hp} : ∀ {es : List Int} {xs : List V}, Reps S H xs (es.map .int) → xs = es.map V.int
  | [], _, .nil => rfl
  | e :: es, _, .cons r rs => by rw [r.intV, ints_of rs, List.map_cons]
theorem Reps.single {S : List Addr} {H : Hp} {xs : List V} {d : PyData} (r : Reps S H xs [d]) : ∃ v, xs = [v] ∧ Rep S H v d := by
  cases r with
  | cons r1 rs => cases rs; exact ⟨_, rfl, r1⟩
theorem Reps.three {S : List Addr} {H : Hp} {xs : List V} {d e f : PyData} (r : Reps S H xs [d, e, f]) : ∃ u v w, xs = [u, v, w] ∧ Rep S H u d ∧ Rep S H v e ∧ Rep S H w f := by
  cases r with
  | cons r1 r => cases r with
    | cons r2 r => cases r with
      | cons r3 r => cases r; exact ⟨_, _, _, rfl, r1, r2, r3⟩
theorem Reps.four {S : List Addr} {H : Hp} {xs : List V} {d e f g : PyData} (r : Reps S H xs [d, e, f, g]) : ∃ u v w x, xs = [u, v, w, x] ∧ Rep S H u d ∧ Rep S H v e ∧ Rep S H w f ∧ Rep S H x g := by
  cases r with
  | cons r1 r => cases r with
    | cons r2 r => cases r with
      | cons r3 r => cases r with
        | cons r4 r => cases r; exact ⟨_, _, _, _, rfl, r1, r2, r3, r4⟩
theorem emp (a : Str) : Str.empty ++ a = a := Str.empty_append a
end Lb

set_option Elab.async false
set_option linter.all false
set_option maxRecDepth 100000
set_option maxHeartbeats 4000000
/-! zip of a list and a tuple -/
namespace ZLT
open PySem PySem.Spec PyProof.Rows L2
/-- the list at a and the tuple at b, in new pairs -/
def ItzM (K : PySem.W.Frag) (a b : Addr) : It where
  go := fun i H => ∃ (xs ys : List V) (x y : V), SqL K H a xs ∧ SqT K H b ys ∧ xs[i]? = some x ∧ ys[i]? = some y
  yld := fun i H v H' => ∃ T x y, v = .ref T ∧ H T = none ∧ H' = upd H T (.tup [x, y]) ∧ (∀ xs, SqL K H a xs → xs[i]? = some x) ∧ ∀ ys, SqT K H b ys → ys[i]? = some y
  stop := fun i H => ∃ xs ys : List V, SqL K H a xs ∧ SqT K H b ys ∧ i ≤ xs.length ∧ i ≤ ys.length ∧ (i = xs.length ∨ i = ys.length)
theorem sepM {a b z TI TO i1 i2 : Addr} (D : ZipApart z TI TO i1 i2 a b) : ZipSep2 z TI TO i1 i2 [i1, a] [i2, b] where
  TIz := D.TIz
  TOz := D.TOz
  TITO := D.TITO
  TIi1 := D.TIi1
  mem1 := List.mem_cons_self
  zf1 := by simp [D.i1z.symm, D.l1z.symm]
  Tf1 := by simp [D.TOi1, D.l1TO.symm]
  TIi2 := D.TIi2
  mem2 := List.mem_cons_self
  zf2 := by simp [D.i2z.symm, D.l2z.symm]
  Tf2 := by simp [D.TOi2, D.l2TO.symm]
  sep1_2 := by simp [D.i12, D.l2i1.symm]
  sep2_1 := by simp [D.i12.symm, D.l1i2.symm]
def ZSt (z TI TO i1 i2 a b : Addr) (i : Nat) (h : Heap) : Prop := IsZip h z TI TO .none ∧ IsPair h TI (.ref i1) (.ref i2) ∧ (∃ x y, IsPair h TO x y) ∧ h.IsListIter i1 a i ∧ h.IsTupleIter i2 b i
theorem five {z TI TO i1 i2 c : Addr} (h : c ∈ [z, TI, TO, i1, i2]) : c = z ∨ c = TI ∨ c = TO ∨ c = i1 ∨ c = i2 := by simpa using h
theorem turnM {P : Program} {w : World} {K : PySem.W.Frag} {elts : List Expr} {kk : Nat} {tpos : Pos} {a b z TI TO i1 i2 : Addr} (D : ZipApart z TI TO i1 i2 a b) :
    Turn P w K (.Tuple elts kk tpos) (ItzM K a b) [z, TI, TO, i1, i2] z (ZSt z TI TO i1 i2 a b) where
  mem := List.mem_cons_self
  obj := fun i h st c hc => by
    have ⟨hz, hTI, ⟨x, y, hTO⟩, ⟨o1, e1, _, d1⟩, ⟨o2, e2, _, d2⟩⟩ := st
    rcases five hc with q | q | q | q | q <;> subst q
    · exact ⟨_, hz, fun v q => nomatch q⟩
    · exact ⟨_, hTI, fun v q => nomatch q⟩
    · exact ⟨_, hTO, fun v q => nomatch q⟩
    · exact ⟨o1, e1, fun v q => by rw [d1] at q; exact nomatch q⟩
    · exact ⟨o2, e2, fun v q => by rw [d2] at q; exact nomatch q⟩
  keep := fun i h h' st k => by
    have ⟨hz, hTI, ⟨x, y, hTO⟩, h1, h2⟩ := st
    exact ⟨k _ (by simp) _ hz, k _ (by simp) _ hTI, ⟨x, y, k _ (by simp) _ hTO⟩, h1.at fun o q => k _ (by simp) o q, h2.at fun o q => k _ (by simp) o q⟩
  item := by
    intro X hP hw hK hc i pins s σ H E I hf st hg
    subst hP hw hK
    have ⟨hz, hTI, ⟨x0, y0, hTO⟩, h1, h2⟩ := st
    have ⟨xs, ys, x, y, hqx, hqy, hx, hy⟩ := hg
    have ⟨its, rv, p, _⟩ := I.list hqx
    have ⟨its2, rv2, p2, _⟩ := I.tuple hqy
    have ⟨u, hu, ru⟩ := rv.get hx
    have ⟨u2, hu2, ru2⟩ := rv2.get hy
    have hh := I.ok.hd hc
    have lt1 : i < its.toArray.size := by
      rw [List.size_toArray]
      exact (List.getElem?_eq_some_iff.mp hu).1
    have lt2 : i < its2.toArray.size := by
      rw [List.size_toArray]
      exact (List.getElem?_eq_some_iff.mp hu2).1
    refine wpAny_pyNext_zipD2_item (sepM D) (Draws.list (A := X.A.in1) hh i1 a D.l1i1 its.toArray) (Draws.tuple (A := X.A.in1) hh i2 b D.l2i2 its2.toArray) hz hTI hTO ⟨h1, p.isList⟩ ⟨h2, p2⟩ lt1 lt2 fun x1 x2 h' tk e1 e2 z' TO' st1 st2 hT hsz hk => ?_
    obtain rfl : u = x1 := by
      have e : its.toArray[i]? = some x1 := e1
      rw [List.getElem?_toArray, hu] at e
      exact Option.some.inj e
    obtain rfl : u2 = x2 := by
      have e : its2.toArray[i]? = some x2 := e2
      rw [List.getElem?_toArray, hu2] at e
      exact Option.some.inj e
    refine ⟨_, rfl, wpAny_letOwnedTupleGo_zip (s := { s with heap := h', toks := tk }) z' fun h'' z'' sb => ?_⟩
    have ge : ∀ {c o}, s.heap.get? c = some o → s.heap.objs.size ≠ c := fun e => Nat.ne_of_gt (Heap.lt_size e)
    have hT2 : h''.get? s.heap.objs.size = some { cls := .type "tuple", data := .seq #[u, u2] } := (sb.2 _ (ge hz)).trans hT
    have new : ObjOk X.prog X.w (upd H s.heap.objs.size (.tup [x, y])) h'' s.heap.objs.size (.tup [x, y]) :=
      ⟨by show 2 ≤ sizeLine; decide, [u, u2], .cons ru (.cons ru2 .nil), ⟨_, hT2, rfl, _, rfl⟩⟩
    have old : ∀ c o, c ∉ [z, TI, TO, i1, i2] → s.heap.get? c = some o → h''.get? c = some o := fun c o hb q => by
      have n : c ≠ z ∧ c ≠ TI ∧ c ≠ TO ∧ c ≠ i1 ∧ c ≠ i2 := by simpa using hb
      exact (sb.2 c n.1).trans (hk c o n.1 n.2.2.1 n.2.2.2.1 n.2.2.2.2 q)
    have I1 : Inv X pins σ (upd H s.heap.objs.size (.tup [x, y])) { s with heap := h'', toks := tk } := I.turnedNew (t' := tk) (ch := [z, TI, TO, i1, i2]) old hf (Nat.le_refl _) new
    refine ⟨.ref s.heap.objs.size, _, I1, rfl, ⟨_, x, y, rfl, I.hok.fresh (Nat.le_refl _), rfl, fun l hl => by rw [I.list_inj hl hqx]; exact hx, fun l hl => by rw [I.tuple_inj hl hqy]; exact hy⟩, ⟨z'', (sb.2 _ D.TIz).trans (hk _ _ D.TIz D.TITO D.TIi1 D.TIi2 hTI), ⟨u, u2, (sb.2 _ D.TOz).trans TO'⟩, st1.1.at fun o q => (sb.2 _ D.i1z).trans q, st2.1.at fun o q => (sb.2 _ D.i2z).trans q⟩, fun c hcm => ?_⟩
    have hlt : s.heap.objs.size ≠ c := by
      rcases five hcm with q | q | q | q | q <;> subst q
      · exact ge hz
      · exact ge hTI
      · exact ge hTO
      · obtain ⟨_, e1, _⟩ := h1
        exact ge e1
      · obtain ⟨_, e2, _⟩ := h2
        exact ge e2
    rw [upd_ne hlt.symm]
    exact (hf c hcm).1
  done := by
    intro X hP hw hK hc i pins s σ H E I hf st hg
    subst hP hw hK
    have ⟨hz, hTI, ⟨x0, y0, hTO⟩, h1, h2⟩ := st
    have ⟨xs, ys, hqx, hqy, le1, le2, hend⟩ := hg
    have ⟨its, rv, p, _⟩ := I.list hqx
    have ⟨its2, rv2, p2, _⟩ := I.tuple hqy
    have n1 : its.toArray.size = xs.length := by rw [List.size_toArray]; exact rv.length.symm
    have n2 : its2.toArray.size = ys.length := by rw [List.size_toArray]; exact rv2.length.symm
    have hh := I.ok.hd hc
    refine wpAny_pyNext_zipD2_end (sepM D) (Draws.list (A := X.A.in1) hh i1 a D.l1i1 its.toArray) (Draws.tuple (A := X.A.in1) hh i2 b D.l2i2 its2.toArray) hz hTI hTO ⟨h1, p.isList⟩ ⟨h2, p2⟩ (by rw [n1]; exact le1) (by rw [n2]; exact le2) (by rw [n1, n2]; exact hend) fun h' tk hk => ?_
    refine ⟨rfl, I.turnedL (t' := tk) (ch := [z, TI, TO, i1, i2]) (fun c o hb q => ?_) hf⟩
    have n : c ≠ z ∧ c ≠ TI ∧ c ≠ TO ∧ c ≠ i1 ∧ c ≠ i2 := by simpa using hb
    exact hk c o n.1 n.2.2.1 n.2.2.2.1 n.2.2.2.2 q
  self := fun A i s Q E st h => wpAny_pyIter_zip st.1 h
/-! the call -/
def g1 (h : Heap) (a : Addr) : Heap := h.push { cls := .type "list_iterator", data := .fields #[.ref a, .int 0 0] }
def g2 (h : Heap) (a b : Addr) : Heap := (g1 h a).push { cls := .type "tuple_iterator", data := .fields #[.ref b, .int 0 0] }
def g3 (h : Heap) (a b : Addr) : Heap := (g2 h a b).push { cls := .type "tuple", data := .seq #[.ref h.objs.size, .ref (g1 h a).objs.size] }
def g4 (h : Heap) (a b : Addr) : Heap := (g3 h a b).push { cls := .type "tuple", data := .seq #[.none, .none] }
def g5 (h : Heap) (a b : Addr) : Heap := (g4 h a b).push { cls := .type "zip", data := .fields #[.none, .bool false, .bool false, .ref (g2 h a b).objs.size, .ref (g3 h a b).objs.size] }
theorem meetsM (a b : Addr) (xs ys : Array Value) :
    Meets (Builtin.«zip.__new__» ⟨[.type "zip", .ref a, .ref b], []⟩) (fun _ R s => s.heap.IsList a xs ∧ s.heap.IsTuple b ys ∧ R (.ok (.ret (.ref (g4 s.heap a b).objs.size))) { s with heap := g5 s.heap a b }) :=
  .of_wp fun prog w A R s h => by
    obtain ⟨hp, g, d, tk, os⟩ := s
    obtain ⟨hl1, hl2, h⟩ := h
    have hsub := sub_zip
    have hL1 : Heap.IsList (Shared.heap ⟨hp, g, d, tk, os⟩) a xs := hl1
    have hL2 : Heap.IsTuple (Shared.heap ⟨hp.push { cls := .type "list_iterator", data := .fields #[.ref a, .int 0 0] }, g, d, tk, os⟩) b ys := by
      obtain ⟨o, ho, r⟩ := hl2
      exact ⟨o, Heap.get?_push_of_some _ ho, r⟩
    wp_walk using wpAny_pyIter_list hL1, wpAny_pyIter_tuple hL2
    exact ⟨_, rfl, h⟩
theorem push5 {h : Heap} {a b c : Addr} {o : Obj} (x : h.get? c = some o) : (g5 h a b).get? c = some o := Heap.get?_push_of_some _ (Heap.get?_push_of_some _ (Heap.get?_push_of_some _ (Heap.get?_push_of_some _ (Heap.get?_push_of_some _ x))))
section
variable {prog : Program} {w : World} {A : Around} {E : Value → Shared → Prop} {s : Shared}
theorem callM {a b : Addr} {xs ys : Array Value} {Q : Value → Shared → Prop} (hl1 : s.heap.IsList a xs) (hl2 : s.heap.IsTuple b ys)
    (h : ∀ h', ZSt (s.heap.objs.size + 4) (s.heap.objs.size + 2) (s.heap.objs.size + 3) s.heap.objs.size (s.heap.objs.size + 1) a b 0 h' →
      (∀ c o, s.heap.get? c = some o → h'.get? c = some o) → Q (.ref (s.heap.objs.size + 4)) { s with heap := h' }) :
    wpAny (model prog w) A (call (.type "zip") [.ref a, .ref b]) Q E s := by
  refine callType_new F.called_zip (by decide) (F.typeCall_zip_2 _ _) (F.newCall_zip_2 _ _) (fun obj => F.args_object_init_3 obj _ _) F.entry_zip_new (meetsM a b xs ys) ⟨hl1, hl2, ?_⟩
  have z1 : (g1 s.heap a).objs.size = s.heap.objs.size + 1 := Heap.size_push ..
  have z2 : (g2 s.heap a b).objs.size = s.heap.objs.size + 2 := by unfold g2; rw [Heap.size_push, z1]
  have z3 : (g3 s.heap a b).objs.size = s.heap.objs.size + 3 := by unfold g3; rw [Heap.size_push, z2]
  have z4 : (g4 s.heap a b).objs.size = s.heap.objs.size + 4 := by unfold g4; rw [Heap.size_push, z3]
  have a5 : (g5 s.heap a b).get? (g4 s.heap a b).objs.size = some _ := Heap.get?_push_size _ rfl
  have a4 : (g5 s.heap a b).get? (g3 s.heap a b).objs.size = some _ := Heap.get?_push_of_some _ (Heap.get?_push_size _ rfl)
  have a3 : (g5 s.heap a b).get? (g2 s.heap a b).objs.size = some _ := Heap.get?_push_of_some _ (Heap.get?_push_of_some _ (Heap.get?_push_size _ rfl))
  have a2 : (g5 s.heap a b).get? (g1 s.heap a).objs.size = some _ := Heap.get?_push_of_some _ (Heap.get?_push_of_some _ (Heap.get?_push_of_some _ (Heap.get?_push_size _ rfl)))
  have a1 : (g5 s.heap a b).get? s.heap.objs.size = some _ := Heap.get?_push_of_some _ (Heap.get?_push_of_some _ (Heap.get?_push_of_some _ (Heap.get?_push_of_some _ (Heap.get?_push_size _ rfl))))
  show _ ∧ _
  rw [z2, z3, z4] at a5
  rw [z1, z2] at a3
  rw [z3] at a4
  rw [z1] at a2
  rw [z4]
  exact ⟨⟨_, a5, rfl⟩, h _ ⟨a5, a3, ⟨_, _, a4⟩, ⟨_, a1, rfl, rfl⟩, ⟨_, a2, rfl, rfl⟩⟩ fun c o x => push5 x⟩
end
/-- zip(xs, t), xs a list, t a tuple -/
def iZipM (K : PySem.W.Frag) (ta : TA) : TI := fun σ H R => ta σ H fun vs H1 => ∃ a b xs ys, vs = [.ref a, .ref b] ∧ SqL K H1 a xs ∧ SqT K H1 b ys ∧ R (ItzM K a b) H1
theorem pi_zipM {X : Cx} {e e2 : Expr} {ta : TA} {p pos tpos : Pos} {elts : List Expr} {kk : Nat} (hg : Gl X "zip") (hm : X.mg "zip" = none) (ha : PA X [e, e2] ta)
    (hs : starEach [e, e2] X.env = (false, eval e X.env) :: starEach [e2] X.env := by rfl) (hpl : (backTo pos (starEach [e2] X.env)).any (·.1) = false := by rfl) :
    PI X (.Tuple elts kk tpos) (.Call (.Name "zip" p) [e, e2] [] pos) (iZipM X.K ta) := by
  refine ⟨fun pins s σ H R I h => ?_⟩
  refine Call_ (ld_blt I hg hm PyProof.Rows.boot_zip (PyProof.Rows.callWith_type1 (thn (ha.run pos pins s σ H _ I h) fun us s1 ⟨vs, H1, I1, r1, q1⟩ => ?_) hs hpl))
  obtain ⟨a, b, xs, ys, ex, hqx, hqy, q⟩ := q1
  subst ex
  cases r1 with
  | cons r rr =>
    cases rr with
    | cons r' rr =>
      cases rr
      cases r
      cases r'
      have fresh : ∀ c, c ∈ [s1.heap.objs.size + 4, s1.heap.objs.size + 2, s1.heap.objs.size + 3, s1.heap.objs.size, s1.heap.objs.size + 1] → FpOk X pins H1 c := fun c hcm => by
        have hle : s1.heap.objs.size ≤ c := by
          rcases five hcm with z | z | z | z | z <;> rw [z]
          · exact Nat.le_add_right _ _
          · exact Nat.le_add_right _ _
          · exact Nat.le_add_right _ _
          · exact Nat.le_refl _
          · exact Nat.le_add_right _ _
        exact I1.fpOk hle (I1.hok.fresh hle)
      obtain ⟨its, rv, p1, _⟩ := I1.list hqx
      obtain ⟨its2, rv2, p2, _⟩ := I1.tuple hqy
      obtain ⟨o1, ho1, _⟩ := id p2
      refine callM p1.isList (show s1.heap.IsTuple b its2.toArray from p2) fun h' st hk => wpAny_pyIter_zip st.1 ?_
      have I2 : Inv X pins σ H1 { s1 with heap := h' } := I1.kept (t' := s1.toks) hk
      exact ⟨s1.heap.objs.size + 4, [s1.heap.objs.size + 4, s1.heap.objs.size + 2, s1.heap.objs.size + 3, s1.heap.objs.size, s1.heap.objs.size + 1], _, _, H1, rfl, I2, turnM (PySem.W.ktu_apart s1.heap.objs.size a b p1.lt (Heap.lt_size ho1)), st, fresh, q⟩
/-- its walk -/
theorem walkM {K : PySem.W.Frag} {a b : Addr} {xs ys : List V} {n : Nat} (hn : n = min xs.length ys.length) : Walk (ItzM K a b) n (fun H => SqL K H a xs ∧ SqT K H b ys) (YPair (fun i => xs[i]?) (fun i => ys[i]?)) := by
  subst hn
  refine ⟨fun i _ hi q => ?_, fun _ q => ⟨xs, ys, q.1, q.2, by omega, by omega, by omega⟩, fun i H v H' _ q y => ?_⟩
  · have c1 : i < xs.length := by omega
    have c2 : i < ys.length := by omega
    exact ⟨xs, ys, xs[i], ys[i], q.1, q.2, List.getElem?_eq_getElem c1, List.getElem?_eq_getElem c2⟩
  · obtain ⟨T, x, z, h1, h2, h3, h4, h5⟩ := y
    exact ⟨T, x, z, h1, h2, h3, h4 xs q.1, h5 ys q.2⟩
end ZLT

set_option Elab.async false
set_option linter.all false
set_option maxRecDepth 100000
set_option maxHeartbeats 4000000
/-! x in t, t a tuple of data; a loop by a measure -/
namespace Lb
open PySem PySem.Spec PyProof.Rows L2
section
variable {X : Cx}
/-- x in t, t a tuple of data -/
def rInTD (K : PySem.W.Frag) : R2 := fun x y H Q => ∃ d ds, Dp K H x d ∧ Dp K H y (.tuple ds) ∧ SeqAt.shaped d = true ∧ SeqAt.shaped (.tuple ds) = true ∧ Q (.bl (ds.any fun z => PyData.eqv z d)) H
theorem op_inTD (hu : X.A.units + 65 < cLine) : OpR X (compareOp .In) (rInTD X.K) := by
  intro pins s σ H x y v u Q I rx ry h
  obtain ⟨d, ds, dx, dy, sx, sy, q⟩ := h
  obtain ⟨as, reads1⟩ := Dp.reads I d x v dx rx
  obtain ⟨bs, reads2⟩ := Dp.reads I (.tuple ds) y u dy ry
  exact SeqAt.in_tuple_reads reads2 reads1 (SeqAt.canLay_of_shaped sy) (SeqAt.canLay_of_shaped sx) (room_in_shaped sx hu) ⟨.bl _, H, I, rfl, q⟩
end
/-- a comprehension with a test whose turns change nothing that stands: y i is what turn i gives, if it gives something -/
theorem lc_flt {J : It} {n : Nat} {G : Hp → Prop} {Y : Nat → Hp → V → Hp → Prop} (w : Walk J n G Y) {g : TG} {tt : TT} {te : TE} {vs : List Nat} {σ : L2.St} {H1 : Hp} {D : Addr} {Qd : Hp → Prop} (nD : H1 D = none) (y : Nat → Option V) (few : n < sizeLine)
    (hG : ∀ H', Same H1 H' → G H') (hs : ∀ i x H' H'' (F : V → Hp → Prop) (N : Hp → Prop), i < n → Same H1 H' → Y i H' x H'' → (∀ v, y i = some v → ∀ H3, Same H' H3 → F v H3) → (y i = none → ∀ H3, Same H' H3 → N H3) →
      g x (wipe σ vs) H'' fun σ2 H2 => wipe σ2 vs = wipe σ vs ∧ tt σ2 H2 fun b H3 => if b = true then te σ2 H3 F else N H3)
    (hd : ∀ H', Same H1 H' → H' D = some (.lst ((List.range n).filterMap y)) → Qd H') :
    ∃ W : Nat → Nat → Hp → Prop, (∃ m, W 0 m (upd H1 D (.lst []))) ∧ ∀ i m H, W i m H →
      (J.stop i H ∧ Qd H) ∨ (J.go i H ∧ ∃ Nx : Hp → Prop, (∀ H', Nx H' → ∃ m', m' < m ∧ W (i + 1) m' H') ∧ ∀ x H', J.yld i H x H' → g x (wipe σ vs) H' fun σ2 H2 => wipe σ2 vs = wipe σ vs ∧ tt σ2 H2 fun b H3 =>
        if b = true then te σ2 H3 fun y H4 => ∃ acc, H4 D = some (.lst acc) ∧ acc.length < sizeLine ∧ Nx (upd H4 D (.lst (acc ++ [y]))) else Nx H3) := by
  refine lc_it w (fun i H' => Same H1 H' ∧ H' D = some (.lst ((List.range i).filterMap y))) ⟨same_new nD, upd_same⟩ (fun i H' _ p => hG H' p.1) (fun i x H' H'' hi p hy => ?_) (fun H' p => hd H' p.1 p.2)
  obtain ⟨s1, d1⟩ := p
  have short : ((List.range i).filterMap y).length ≤ i := by
    have z := List.length_filterMap_le y (List.range i)
    rwa [List.length_range] at z
  refine hs i x H' H'' _ _ hi s1 hy (fun v e H3 s3 => ⟨_, s3 _ _ d1, by omega, same_own (s1.trans s3) nD, ?_⟩) (fun e H3 s3 => ⟨s1.trans s3, ?_⟩)
  · rw [upd_same, List.range_succ, List.filterMap_append]
    simp [e]
  · rw [s3 _ _ d1, List.range_succ, List.filterMap_append]
    simp [e]
theorem range_flt {α β : Type} (f : α → Option β) (d : α) (l : List α) : (List.range l.length).filterMap (fun i => f (l.getD i d)) = l.filterMap f := by
  have e : (List.range l.length).map (fun i => l.getD i d) = l := by
    refine List.ext_getElem (by simp) fun i h1 h2 => ?_
    simp only [List.getElem_map, List.getElem_range, List.getD_eq_getElem?_getD]
    rw [List.getElem?_eq_getElem h2, Option.getD_some]
  conv => rhs; rw [← e]
  rw [List.filterMap_map]
  rfl
theorem range_map {α β : Type} (f : α → β) (d : α) (l : List α) : (List.range l.length).map (fun i => f (l.getD i d)) = l.map f := by
  refine List.ext_getElem (by simp) fun i h1 h2 => ?_
  simp only [List.getElem_map, List.getElem_range, List.getD_eq_getElem?_getD]
  rw [List.getElem?_eq_getElem (by simpa using h2), Option.getD_some]
section
variable {X : Cx}
/-- a slice of a tuple, whichever object it is -/
def rSlS2 (K : PySem.W.Frag) : V → Option Int → Option Int → Hp → VK → Prop := fun x lo hi H Q => ∃ a xs, x = .ref a ∧ SqT K H a xs ∧ ∀ b H', Same H H' → SqT K H' b (cutV xs lo hi) → Q (.ref b) H'
theorem sl_tupS : SlR X (rSlS2 X.K) := by
  intro pins s σ H x lo v vl vu hi sl Q I rx hs pl pu h
  obtain ⟨a, xs, rfl, hx, q⟩ := h
  refine sl_tupA pins s σ H _ lo v vl vu hi sl Q I rx hs pl pu ⟨a, xs, rfl, hx, fun w => q a H (.refl H) ?_, fun _ p np => q p _ (same_new np) (SqT.of upd_same)⟩
  unfold cutV
  rw [w.1, w.2, List.drop_zero, Nat.sub_zero, List.take_length]
  exact hx
end
theorem cut_take (xs : List V) (k : Nat) : cutV xs none (some (k : Int)) = xs.take k := by
  unfold cutV
  rw [HT.sIx_nat, show HT.sIx xs.length 0 none = 0 from rfl, List.drop_zero, Nat.sub_zero, List.take_eq_take_iff]
  omega
theorem Rep.lstI {st : List Addr} {H : Hp} {a : Addr} {ds : List PyData} (r : Rep st H (.ref a) (.list ds)) : ∃ xs, H a = some (.lst xs) ∧ a ∉ st ∧ Reps st H xs ds := by
  cases r with
  | lst h n r => exact ⟨_, h, n, r⟩
/-- while, by what falls -/
theorem while_m {c : TT} {tb : TS} {D : Ends} {σ : L2.St} {H : Hp} (W : Nat → L2.St → Hp → Prop) (m : Nat) (h0 : W m σ H)
    (hs : ∀ m σ H, W m σ H → c σ H fun b H1 => if b = true then ∃ N : L2.St → Hp → Prop, (∀ σ' H', N σ' H' → ∃ m', m' < m ∧ W m' σ' H') ∧ tb { D with nx := N, ct := N, bk := D.nx } σ H1 else D.nx σ H1) : tWhile c tb D σ H := by
  refine ⟨W, ⟨m, h0⟩, fun m σ H w => ?_⟩
  have z := hs m σ H w
  exact z
end Lb

set_option Elab.async false
set_option linter.all false
set_option maxRecDepth 100000
set_option maxHeartbeats 4000000
/-! written data: what an expression of constants, tuples and lists gives -/
namespace Lb
open PySem PySem.Spec PyProof.Rows L2
def Occ (S : List Addr) (H : Hp) : Prop := ∀ a ∈ S, ∃ o, H a = some o
theorem Occ.sm {S : List Addr} {H H' : Hp} (o : Occ S H) (s : Same H H') : Occ S H' := fun a m => (o a m).elim fun u e => ⟨u, s _ _ e⟩
theorem Occ.new {S : List Addr} {H : Hp} {p : Addr} (o : Occ S H) (np : H p = none) : p ∉ S := fun m => by
  obtain ⟨u, e⟩ := o p m
  rw [np] at e
  exact nomatch e
/-- from H0 on, te gives (in new places) a value that reads as d -/
def Lit (S : List Addr) (σ : L2.St) (H0 : Hp) (te : TE) (d : PyData) : Prop := ∀ (H : Hp) (F : V → Hp → Prop), Same H0 H → (∀ H' v, Same H H' → Rep S H' v d → F v H') → te σ H F
def Lits (S : List Addr) (σ : L2.St) (H0 : Hp) (ta : TA) (ds : List PyData) : Prop := ∀ (H : Hp) (F : List V → Hp → Prop), Same H0 H → (∀ H' vs, Same H H' → Reps S H' vs ds → F vs H') → ta σ H F
section
variable {S : List Addr} {σ : L2.St} {H0 : Hp} {te tb : TE} {ta : TA} {d : PyData} {ds es : List PyData}
theorem lit_int (n : Int) : Lit S σ H0 (tC (.int n)) (.int n) := fun H F _ k => k H _ (.refl _) (.int n)
theorem lit_str (x : Str) : Lit S σ H0 (tC (.str x)) (.str x) := fun H F _ k => k H _ (.refl _) (.str x)
theorem lit_bl (b : Bool) : Lit S σ H0 (tC (.bl b)) (.bool b) := fun H F _ k => k H _ (.refl _) (.bl b)
theorem lit_non : Lit S σ H0 (tC .non) .none := fun H F _ k => k H _ (.refl _) .non
theorem lit_var {i : Nat} {v : V} (h : σ[i]? = some (some v)) (r : Rep S H0 v d) : Lit S σ H0 (tVar i) d := fun H F s k => ⟨v, h, k H v (.refl _) (r.sm s)⟩
theorem lits_nil : Lits S σ H0 tNil [] := fun H F _ k => k H [] (.refl _) .nil
theorem lits_cons (h : Lit S σ H0 te d) (hs : Lits S σ H0 ta ds) : Lits S σ H0 (tCons te ta) (d :: ds) := fun H F s k =>
  h H _ s fun H1 v s1 r => hs H1 _ (s.trans s1) fun H2 vs s2 rs => k H2 _ (s1.trans s2) (.cons (r.sm s2) rs)
theorem lit_tup (oc : Occ S H0) (hs : Lits S σ H0 ta ds) (few : ds.length ≤ sizeLine) : Lit S σ H0 (tTup ta) (.tuple ds) := fun H F s k =>
  hs H _ s fun H1 vs s1 rs => ⟨by rw [rs.length]; exact few, fun p np => k _ _ (s1.trans (same_new np)) (.tup upd_same ((oc.sm (s.trans s1)).new np) (rs.sm (same_new np)))⟩
theorem lit_lst (oc : Occ S H0) (hs : Lits S σ H0 ta ds) (few : ds.length ≤ sizeLine) : Lit S σ H0 (tLst ta) (.list ds) := fun H F s k =>
  hs H _ s fun H1 vs s1 rs => ⟨by rw [rs.length]; exact few, fun p np => k _ _ (s1.trans (same_new np)) (.lst upd_same ((oc.sm (s.trans s1)).new np) (rs.sm (same_new np)))⟩
theorem lit_cat (oc : Occ S H0) (hx : Lit S σ H0 te (.list ds)) (hy : Lit S σ H0 tb (.list es)) (few : (ds ++ es).length ≤ sizeLine) : Lit S σ H0 (tOp rCat te tb) (.list (ds ++ es)) := fun H F s k =>
  hx H _ s fun H1 v s1 r => hy H1 _ (s.trans s1) fun H2 u s2 q => by
    obtain ⟨a, xs, rfl, ha, _, rs⟩ := (r.sm s2).lstV
    obtain ⟨b, ys, rfl, hb, _, qs⟩ := q.lstV
    refine ⟨a, b, xs, ys, rfl, rfl, ha, hb, by rw [rs.length, qs.length, ← List.length_append]; exact few, fun p np => ?_⟩
    exact k _ _ ((s1.trans s2).trans (same_new np)) (.lst upd_same ((oc.sm ((s.trans s1).trans s2)).new np) ((rs.app qs).sm (same_new np)))
theorem lit_catT {K : PySem.W.Frag} (oc : Occ S H0) (hx : Lit S σ H0 te (.tuple ds)) (hy : Lit S σ H0 tb (.tuple es)) (nn : ds ≠ []) (few : (ds ++ es).length ≤ sizeLine) : Lit S σ H0 (tOp (rCatT K) te tb) (.tuple (ds ++ es)) := fun H F s k =>
  hx H _ s fun H1 v s1 r => hy H1 _ (s.trans s1) fun H2 u s2 q => by
    obtain ⟨a, xs, rfl, ha, na, rs⟩ := (r.sm s2).tupV
    obtain ⟨b, ys, rfl, hb, _, qs⟩ := q.tupV
    have l1 := rs.length
    have l2 := qs.length
    have xn : xs ≠ [] := fun z => nn (by rw [z] at l1; exact List.length_eq_zero_iff.mp l1.symm)
    refine ⟨a, b, xs, ys, rfl, rfl, SqT.of ha, SqT.of hb, xn, by rw [l1, l2, ← List.length_append]; exact few, fun e => ?_, fun _ p np => ?_⟩
    · have e2 : es = [] := List.length_eq_zero_iff.mp (by rw [← l2, e]; rfl)
      rw [e2, List.append_nil] at k
      exact k _ _ (s1.trans s2) (.tup ha na rs)
    · exact k _ _ ((s1.trans s2).trans (same_new np)) (.tup upd_same ((oc.sm ((s.trans s1).trans s2)).new np) ((rs.app qs).sm (same_new np)))
theorem lit_neg {n : Int} (h : Lit S σ H0 te (.int n)) : Lit S σ H0 (tUn (rU fun i => .int (-i)) te) (.int (-n)) := fun H F s k =>
  h H _ s fun H1 v s1 r => ⟨n, r.intV, k H1 _ s1 (.int _)⟩
theorem Lit.set {u : TS} {D : Ends} {i : Nat} {H : Hp} (h : Lit S σ H0 te d) (s : Same H0 H) (k : ∀ H' v, Same H H' → Rep S H' v d → u D (σ.set i (some v)) H') : tSeq (tAsg te (gName i)) u D σ H := h H _ s k
theorem Lit.at_ {H : Hp} (h : Lit S σ H0 te d) (s : Same H0 H) (H2 : Hp) (s2 : Same H H2) : Lit S σ H te d := fun H' F s' k => h H' F (s.trans s') k
theorem repl_reps {st : List Addr} {H : Hp} {xs : List V} {ds : List PyData} (r : Reps st H xs ds) : ∀ n : Nat, Reps st H (List.replicate n xs).flatten (List.replicate n ds).flatten
  | 0 => .nil
  | n + 1 => by
    rw [List.replicate_succ, List.replicate_succ, List.flatten_cons, List.flatten_cons]
    exact r.app (repl_reps r n)
theorem lit_mul {K : PySem.W.Frag} (oc : Occ S H0) (hx : Lit S σ H0 te (.tuple ds)) (n : Nat) (nn : ds ≠ []) (h2 : 2 ≤ n) (h5 : n ≤ 100) (few : ds.length ≤ 100) : Lit S σ H0 (tOp (rRepT K) te (tC (.int (n : Nat)))) (.tuple (List.replicate n ds).flatten) := fun H F s k =>
  hx H _ s fun H1 v s1 r => by
    obtain ⟨a, xs, rfl, ha, na, rs⟩ := r.tupV
    have l1 := rs.length
    have xn : xs ≠ [] := fun z => nn (by rw [z] at l1; exact List.length_eq_zero_iff.mp l1.symm)
    refine ⟨a, (n : Int), xs, rfl, rfl, SqT.of ha, xn, by omega, by omega, by omega, fun p np => ?_⟩
    rw [Int.toNat_natCast]
    exact k _ _ (s1.trans (same_new np)) (.tup upd_same ((oc.sm (s.trans s1)).new np) ((repl_reps rs n).sm (same_new np)))
end
end Lb

set_option Elab.async false
set_option linter.all false
set_option maxRecDepth 100000
set_option maxHeartbeats 4000000
/-! tuple(reversed(tuple)) -/
namespace RT
open PySem PySem.Spec PyProof.Rows
theorem nolen_rt : typeLookup (.type "reversed") "__len__" = pure none := by rw [typeLookup_type, builtinLookup_eq_fast]; kernel_rfl
theorem hint_rt : typeLookup (.type "reversed") "__length_hint__" = pure (some (.builtin "reversed.__length_hint__")) := by rw [typeLookup_type, builtinLookup_eq_fast]; kernel_rfl
theorem slot_rt_hint : Slot "reversed" "__length_hint__" "reversed.__length_hint__" :=
  .of (owner := "reversed") (n := "__length_hint__") (by rw [typeLookup_type, builtinLookup_eq_fast]; kernel_rfl) (by decide +kernel) (by decide +kernel) (by decide +kernel)
    (by first | exact .inl (by decide +kernel) | exact .inr (by decide +kernel)) (by rw [isSubtype_type]; kernel_rfl)
theorem entry_rt_hint : entryFor table "reversed.__length_hint__" = some Builtin.«reversed.__length_hint__» := entryFor_of_tree (by kernel_rfl)
theorem args_rt_hint (a : Value) : argsOk "reversed.__length_hint__" ⟨[a], []⟩ := by
  unfold argsOk; rw [signature?_of (id := "reversed.__length_hint__") (n := ['_', '_', 't', 'n', 'i', 'h', '_', 'h', 't', 'g', 'n', 'e', 'l', '_', '_']) (o := ['d', 'e', 's', 'r', 'e', 'v', 'e', 'r']) (by kernel_rfl) owner_rt]; kernel_rfl
theorem bind_rt_hint (self : Value) : bindSpecial (.builtin "reversed.__length_hint__") self = pure (.builtin "reversed.__length_hint__", [self]) := by
  kernel_rfl
section
variable {prog : Program} {w : World} {A : Around} {E : Value → Shared → Prop} {s : Shared}
theorem Walks.rt (hh : A.handled = none) (it l : Addr) (hne : l ≠ it) (items : Array Value) (hsz : items.size ≤ sizeLine) :
    Walks prog w A it [it, l] [it] items.size (fun i v => items[items.size - 1 - i]? = some v) (fun i h => i ≤ items.size ∧ IsRt h it l ((items.size : Int) - 1 - (i : Int)) ∧ IsTup h l items) where
  sub := fun b hb => by simp at hb; simp [hb]
  frame := fun _ _ _ x hk => ⟨x.1, x.2.1.at fun o e => hk it (by simp) o e, by
    obtain ⟨o, ho, r⟩ := x.2.2
    exact ⟨o, hk l (by simp) o ho, r⟩⟩
  item := fun i s Q E hi x hQ => by
    have e : (items.size : Int) - 1 - (i : Int) = ((items.size - 1 - i : Nat) : Int) := by omega
    have hit := x.2.1
    rw [e] at hit
    have hx : items[items.size - 1 - i]? = some (items[items.size - 1 - i]'(by omega)) := Array.getElem?_eq_getElem (by omega)
    refine next_rt_item hit x.2.2 hx hsz fun h' hit' hs' => ?_
    have e2 : ((items.size - 1 - i : Nat) : Int) - 1 = (items.size : Int) - 1 - ((i + 1 : Nat) : Int) := by omega
    rw [e2] at hit'
    refine hQ _ h' _ hx ⟨hi, hit', ?_⟩ fun b o hb eo => (hs'.2 b (fun h => hb (by simp [h]))).trans eo
    obtain ⟨o, ho, r⟩ := x.2.2
    exact ⟨o, (hs'.2 l hne).trans ho, r⟩
  done := fun s Q E x hQ => by
    have e : (items.size : Int) - 1 - (items.size : Int) = -1 := by omega
    have hit := x.2.1
    rw [e] at hit
    exact next_rt_end hh hit fun h' eb => hQ h' s.toks fun b o hb eo => eb b o (fun h => hb (by simp [h])) eo
  self := fun i s Q E x h => iter_rt x.2.1 h
theorem hint_run {it t : Addr} {items : Array Value} {Q : Value → Shared → Prop} (hit : IsRt s.heap it t ((items.size : Int) - 1))
    (hlen : ∀ (A : Around) (E : Value → Shared → Prop) (Q : Value → Shared → Prop), Q (.int items.size (s.toks + 1)) { s with toks := s.toks + 1 + 1 } → wpAny (model prog w) A (call (.builtin "len") [.ref t]) Q E s)
    (h : ∀ tk tok, Q (.int items.size tok) { s with toks := tk }) : wpAny (model prog w) A (call (.builtin "reversed.__length_hint__") [.ref it]) Q E s := by
  obtain ⟨o, ho, hc, hd⟩ := id hit
  refine wpAny_call_entry slot_rt_hint hit.typeIs entry_rt_hint ?_ (args_rt_hint _)
  unfold Builtin.«reversed.__length_hint__»
  refine wpAny_bind (wpAny_of_eq (a := Value.ref it) rfl ?_)
  try dsimp only
  refine wpAny_bind (wpAny_field ho hd (x := .ref t) rfl ?_)
  try dsimp only
  try rw [if_neg (by decide)]
  try dsimp only
  refine wpAny_bind (hlen _ _ _ ?_)
  refine wpAny_bind (wpAny_of_eq (a := some ((items.size : Nat) : Int)) rfl ?_)
  try dsimp only
  refine wpAny_bind (wpAny_field (s := { s with toks := s.toks + 1 + 1 }) ho hd (x := rawInt ((items.size : Int) - 1)) rfl ?_)
  try dsimp only
  rw [show rawInt ((items.size : Int) - 1) = Value.int ((items.size : Int) - 1) 0 from rfl]
  dsimp only
  rw [if_neg (by omega)]
  show wpAny _ _ (retInt _) _ _ _
  unfold retInt
  refine wpAny_bind (wpAny_mkInt ?_)
  refine wpAny_pure ⟨_, rfl, ?_⟩
  have e : (items.size : Int) - 1 + 1 = items.size := by omega
  rw [e]
  exact h _ _
theorem hint_len {it l : Addr} {items : Array Value} {Q : Bool → Shared → Prop} (hit : IsRt s.heap it l ((items.size : Int) - 1)) (hn : items.size ≤ sizeLine)
    (hlen : ∀ (A : Around) (E : Value → Shared → Prop) (Q : Value → Shared → Prop), Q (.int items.size (s.toks + 1)) { s with toks := s.toks + 1 + 1 } → wpAny (model prog w) A (call (.builtin "len") [.ref l]) Q E s)
    (h0 : 0 < items.size) (hQ : ∀ (tk : Nat), Q true { s with toks := tk }) : wpAny (model prog w) A (Builtin.List.listLengthHint (.ref it)) Q E s := by
  unfold Builtin.List.listLengthHint
  refine wpAny_bind (wpAny_specialOf hit.typeIs nolen_rt ?_)
  show wpAny _ A (specialOf (Value.ref it) (Str.ofString "__length_hint__") >>= _) _ _ _
  refine wpAny_bind (wpAny_specialOf hit.typeIs hint_rt ?_)
  generalize hid : ("reversed.__length_hint__" : String) = id0
  wp_delta
  rw [show splitId id0 = some ("reversed", "__length_hint__") from by subst hid; decide +kernel]
  subst hid
  refine wpAny_bind (wpAny_isInstance (b := true) hit.typeIs (by rw [isSubtype_type]; kernel_rfl) ?_)
  rw [if_neg (by decide)]
  dsimp only
  rw [if_neg (by decide +kernel)]
  refine wpAny_bind (wpAny_rule ?_)
  refine wpAny_bind (wpAny_of_eq (bind_rt_hint _) ?_)
  dsimp only
  refine wpAny_bind (wpAny_attempt (hint_run hit hlen fun tk tok => ?_))
  dsimp only
  have ea : asInt? (Value.int ((items.size : Nat) : Int) tok) = pure (some ((items.size : Nat) : Int)) := rfl
  simp only [ea, pure_bind]
  rw [sizeLine_eq] at hn
  have f1 : Builtin.List.listFitsIndex ((items.size : Nat) : Int) = true := by
    unfold Builtin.List.listFitsIndex
    rw [Bool.and_eq_true]
    exact ⟨decide_eq_true (by omega), decide_eq_true (by omega)⟩
  have f2 : Builtin.List.listTooLong ((items.size : Nat) : Int).toNat = false := by
    unfold Builtin.List.listTooLong
    rw [Int.toNat_natCast, sizeLine_eq]
    exact decide_eq_false (by omega)
  rw [f1, f2, if_neg (by decide), if_neg (by omega), if_neg (by decide)]
  rw [show (((items.size : Nat) : Int) != 0) = true from by rw [bne_iff_ne]; omega]
  exact wpAny_pure (hQ tk)
theorem collect_rt {it l : Addr} {items : Array Value} {Q : List Value → Shared → Prop} (hh : A.handled = none) (hit : IsRt s.heap it l ((items.size : Int) - 1)) (hl : IsTup s.heap l items) (hne : l ≠ it) (hn : items.size ≤ sizeLine) (h0 : 0 < items.size)
    (hlen : ∀ (s : Shared), IsTup s.heap l items → ∀ (A : Around) (E : Value → Shared → Prop) (Q : Value → Shared → Prop), Q (.int items.size (s.toks + 1)) { s with toks := s.toks + 1 + 1 } → wpAny (model prog w) A (call (.builtin "len") [.ref l]) Q E s)
    (hQ : ∀ (h' : Heap) (tk : Nat) (acc : Array Value), (∀ b o, b ≠ it → s.heap.get? b = some o → h'.get? b = some o) → ItemsOf (fun i v => items[items.size - 1 - i]? = some v) acc items.size → Q acc.toList { s with heap := h', toks := tk }) :
    wpAny (model prog w) A (collect (.ref it)) Q E s := by
  have W := (Walks.rt (prog := prog) (w := w) (A := A.in1) hh it l hne items hn).toS
  obtain ⟨oi, hoi, _⟩ := id hit
  obtain ⟨ol, hol, _⟩ := id hl
  have hSi : s.heap.objs.size ≠ it := Nat.ne_of_gt (Heap.lt_size hoi)
  have hSl : s.heap.objs.size ≠ l := Nat.ne_of_gt (Heap.lt_size hol)
  have hSf : s.heap.objs.size ∉ [it, l] := by simp only [List.mem_cons, List.not_mem_nil, or_false, not_or]; exact ⟨hSi, hSl⟩
  unfold collect
  refine wpAny_bind (wpAny_runValue (codeAny_builtin F.entry_proto_collect ?_))
  rw [Around.under_plainId F.plain_proto_collect _]
  show wpAny _ A.in1 (newList [] >>= fun l' => again (.builtin "list.__iadd__" ⟨[l', .ref it], []⟩)) _ _ s
  refine wpAny_bind (wpAny_newObj_type ?_)
  refine wpAny_pure ⟨plainId_quiet F.plain_list_iadd _, codeAny_builtin F.entry_list_iadd ?_⟩
  rw [Around.under_plainId F.plain_list_iadd _]
  have hS₁ : (s.heap.push { cls := .type "list", data := .seq ([] : List Value).toArray }).get? s.heap.objs.size = some { cls := .type "list", data := .seq ([] : List Value).toArray } := Heap.get?_push_size _ rfl
  have hit1 : IsRt (s.heap.push { cls := .type "list", data := .seq ([] : List Value).toArray }) it l ((items.size : Int) - 1) := hit.at fun o e => Heap.get?_push_of_some _ e
  have hl1 : IsTup (s.heap.push { cls := .type "list", data := .seq ([] : List Value).toArray }) l items := by
    obtain ⟨o, ho, r⟩ := hl
    exact ⟨o, Heap.get?_push_of_some _ ho, r⟩
  have hT : ({ s with heap := s.heap.push { cls := .type "list", data := .seq ([] : List Value).toArray } } : Shared).TypeIs (.ref it) "reversed" := IsRt.typeIs (s := { s with heap := s.heap.push { cls := .type "list", data := .seq ([] : List Value).toArray } }) hit1
  have h1 : Builtin.List.listSameRef (.ref s.heap.objs.size) (.ref it) = false := by simp [Builtin.List.listSameRef, hSi]
  show wpAny _ A.in1 (Builtin.List.listExtendWith (.ref s.heap.objs.size) (.ref it) (.ref s.heap.objs.size)) _ _ _
  unfold Builtin.List.listExtendWith
  refine wpAny_bind (wpAny_typeOf hT ?_)
  rw [if_neg (by rw [h1]; decide)]
  refine wpAny_bind (iter_rt (s := { s with heap := s.heap.push { cls := .type "list", data := .seq ([] : List Value).toArray } }) hit1 ?_)
  refine wpAny_bind (wpAny_holding (hint_len (s := { s with heap := s.heap.push { cls := .type "list", data := .seq ([] : List Value).toArray } }) hit1 hn (hlen { s with heap := s.heap.push { cls := .type "list", data := .seq ([] : List Value).toArray } } hl1) h0 fun tk => ?_))
  show wpAny _ A.in1 (rule "list.extend.makes-room" >>= fun _ => Builtin.List.listTouch (.ref s.heap.objs.size) >>= fun _ =>
    again (.builtin "list.extend.loop" ⟨[.ref s.heap.objs.size, .ref it, .ref s.heap.objs.size], []⟩)) _ _ _
  refine wpAny_bind (wpAny_rule ?_)
  refine wpAny_bind ?_
  show wpAny _ A.in1 (updateSeq s.heap.objs.size (·.push .none) >>= fun _ => updateSeq s.heap.objs.size (·.pop)) _ _ _
  refine wpAny_bind (wpAny_updateSeq hS₁ rfl ?_)
  have hS₂ := Heap.get?_update_self (Obj.mapSeq (·.push Value.none)) hS₁ rfl
  refine wpAny_updateSeq hS₂ rfl ?_
  have hS₃ := Heap.get?_update_self (Obj.mapSeq (·.pop)) hS₂ rfl
  have oth : ∀ b o, b ≠ s.heap.objs.size → (s.heap.push { cls := .type "list", data := .seq ([] : List Value).toArray }).get? b = some o →
      (((s.heap.push { cls := .type "list", data := .seq ([] : List Value).toArray }).update s.heap.objs.size (Obj.mapSeq (·.push Value.none))).update s.heap.objs.size (Obj.mapSeq (·.pop))).get? b = some o :=
    fun b o hb e => (Heap.get?_update_other _ _ (Ne.symm hb)).trans ((Heap.get?_update_other _ _ (Ne.symm hb)).trans e)
  have e0 : ((items.size : Nat) : Int) - 1 - ((0 : Nat) : Int) = (items.size : Int) - 1 := by omega
  have hl2 : IsTup (((s.heap.push { cls := .type "list", data := .seq ([] : List Value).toArray }).update s.heap.objs.size (Obj.mapSeq (·.push Value.none))).update s.heap.objs.size (Obj.mapSeq (·.pop))) l items := by
    obtain ⟨o, ho, r⟩ := hl1
    exact ⟨o, oth _ _ hSl.symm ho, r⟩
  refine wpAny_pure ⟨plainId_quiet F.plain_extend_loop _, codeAny_extend_loopS W hn _ hSf _ items.size 0 _ _ _ rfl (Nat.zero_le _)
    ⟨Nat.zero_le _, by rw [e0]; exact hit1.at fun o e => oth _ _ hSi.symm e, hl2⟩ hS₃ (ItemsOf.nil _) fun s' acc' c' hm hS' hacc => ?_⟩
  show wpAny _ A (load s.heap.objs.size >>= _) _ _ s'
  refine wpAny_bind (wpAny_load hS' ?_)
  refine wpAny_pure ?_
  rw [Moved.eq_with hm]
  refine hQ s'.heap s'.toks acc' (fun b o hb e => ?_) hacc
  have nb : b ≠ s.heap.objs.size := fun e' => absurd (Heap.lt_size e) (by rw [e']; exact Nat.lt_irrefl _)
  refine hm.heap b o (fun hmem => ?_) (oth _ _ nb (Heap.get?_push_of_some _ e))
  rcases List.mem_cons.mp hmem with e' | hmem
  · exact nb e'
  · exact hb (List.mem_singleton.mp hmem)
theorem code_tuple_new_rt {it l : Addr} {items : Array Value} {Q₁ : Value → Shared → Prop} (hh : A.handled = none) (hit : IsRt s.heap it l ((items.size : Int) - 1)) (hl : IsTup s.heap l items) (hne : l ≠ it) (hn : items.size ≤ sizeLine) (h0 : 0 < items.size)
    (hlen : ∀ (s : Shared), IsTup s.heap l items → ∀ (A : Around) (E : Value → Shared → Prop) (Q : Value → Shared → Prop), Q (.int items.size (s.toks + 1)) { s with toks := s.toks + 1 + 1 } → wpAny (model prog w) A (call (.builtin "len") [.ref l]) Q E s)
    (h : ∀ (h' : Heap) (tk : Nat) (acc : Array Value), (∀ b o, b ≠ it → s.heap.get? b = some o → h'.get? b = some o) → ItemsOf (fun i v => items[items.size - 1 - i]? = some v) acc items.size →
      Q₁ (.ref h'.objs.size) { s with heap := h'.push { cls := .type "tuple", data := .seq acc }, toks := tk }) :
    codeAny (model prog w) A (.call (.builtin "tuple.__new__") ⟨[.type "tuple", .ref it], []⟩) (wants Q₁ E) s := by
  refine codeAny_of_tree ?_
  show wpAny _ A.in1 (do checkBuiltinCall "tuple.__new__" ⟨[.type "tuple", .ref it], []⟩; again (.builtin "tuple.__new__" ⟨[.type "tuple", .ref it], []⟩)) _ _ s
  refine wpAny_bind (wpAny_of_eq (F.newCall_tuple_1 _) (wpAny_pure ⟨plainId_quiet F.plain_tuple_new _, codeAny_builtin F.entry_tuple_new ?_⟩))
  rw [Around.under_plainId F.plain_tuple_new _]
  have hsub := sub_tuple_self
  have hinit := init_tuple_lookup
  have hmh := madeHere_tuple
  have hTI : s.TypeIs (.ref it) "reversed" := hit.typeIs
  have hh1 : A.in1.handled = none := hh
  wp_walk using wpAny_typeOf hTI, collect_rt (A := A.in1) hh1 hit hl hne hn h0 hlen
  intro h' tk acc hk hacc
  show wpAny _ _ (Builtin.Tuple.tupleExact acc.toList.toArray >>= fun v => ret v) _ _ _
  unfold Builtin.Tuple.tupleExact
  refine wpAny_bind (wpAny_newObj_type ?_ (by show acc.toList.toArray.size ≤ sizeLine; simp only [Array.toArray_toList]; rw [hacc.1]; exact hn))
  refine wpAny_pure ?_
  have e : acc.toList.toArray = acc := by simp
  rw [e]
  exact h h' tk acc hk hacc
theorem call_tuple_rt {it l : Addr} {items : Array Value} {Q : Value → Shared → Prop} (hh : A.handled = none) (hit : IsRt s.heap it l ((items.size : Int) - 1)) (hl : IsTup s.heap l items) (hne : l ≠ it) (hn : items.size ≤ sizeLine) (h0 : 0 < items.size)
    (hlen : ∀ (s : Shared), IsTup s.heap l items → ∀ (A : Around) (E : Value → Shared → Prop) (Q : Value → Shared → Prop), Q (.int items.size (s.toks + 1)) { s with toks := s.toks + 1 + 1 } → wpAny (model prog w) A (call (.builtin "len") [.ref l]) Q E s)
    (hQ : ∀ (h' : Heap) (tk : Nat) (acc : Array Value), (∀ b o, b ≠ it → s.heap.get? b = some o → h'.get? b = some o) → ItemsOf (fun i v => items[items.size - 1 - i]? = some v) acc items.size →
      Q (.ref h'.objs.size) { s with heap := h'.push { cls := .type "tuple", data := .seq acc }, toks := tk }) :
    wpAny (model prog w) A (call (.type "tuple") [.ref it]) Q E s := by
  refine callType_codes (Q₁ := fun obj s₁ => s₁.TypeIs obj "tuple" ∧ Q obj s₁) F.called_tuple (F.typeCall_tuple_1 _) F.entry_object_init
    (code_tuple_new_rt (A := A.in1) hh hit hl hne hn h0 hlen fun h' tk acc hk hacc => ⟨⟨_, Heap.get?_push_size _ rfl, rfl⟩, hQ h' tk acc hk hacc⟩) fun obj s₁ h₁ => ?_
  exact ⟨h₁.1, F.args_object_init_2 obj _, object_init_meets F.called_tuple.init.lookup F.called_tuple.made (by decide) prog w A.in1 _ s₁ ⟨h₁.1, rfl, h₁.2⟩⟩
end
end RT
namespace RT
open PySem PySem.Spec PyProof.Rows L2
/-- tuple(reversed(x)), x a tuple with an item at least: a new tuple -/
def tTupRevT (K : PySem.W.Frag) (te : TE) : TE := fun σ H Q => te σ H fun v H1 => ∃ (a : Addr) (xs : List V), v = .ref a ∧ SqT K H1 a xs ∧ xs ≠ [] ∧ ∀ q, H1 q = none → Q (.ref q) (upd H1 q (.tup xs.reverse))
section
variable {X : Cx}
theorem pe_tupRevT {e : Expr} {te : TE} {p p2 pos pos2 : Pos} (hc : X.calm = true) (hg : Gl X "tuple") (hm : X.mg "tuple" = none) (hg2 : Gl X "reversed") (hm2 : X.mg "reversed" = none) (he : PE X e te)
    (hs : starEach [e] X.env = (false, eval e X.env) :: starEach [] X.env := by rfl)
    (hs2 : starEach [.Call (.Name "reversed" p2) [e] [] pos2] X.env = (false, eval (.Call (.Name "reversed" p2) [e] [] pos2) X.env) :: starEach [] X.env := by rfl) :
    PE X (.Call (.Name "tuple" p) [.Call (.Name "reversed" p2) [e] [] pos2] [] pos) (tTupRevT X.K te) := by
  refine ⟨fun pins s σ H Q I h => ?_⟩
  refine Call_ (ld_blt I hg hm boot_tuple (PyProof.Rows.callWith_type1 (args_cons (Call_ (ld_blt I hg2 hm2 PyProof.Rows.boot_reversed (PyProof.Rows.callWith_type1 (args_cons (thn (he.run pins s σ H _ I h) fun u s1 ⟨v, H1, I1, r1, q1⟩ => args_nil ?_) hs) hs rfl))) hs2) hs2 rfl))
  obtain ⟨a, xs, ev, hq, xn, q⟩ := q1
  subst ev
  obtain rfl : u = Value.ref a := r1
  obtain ⟨its, rv, p', hz⟩ := I1.tuple hq
  have hn63 := line63
  have hlen0 : its.toArray.size = its.length := List.size_toArray
  have hn : its.toArray.size ≤ sizeLine := by rw [List.size_toArray, ← rv.length]; exact hz
  have h0 : 0 < its.toArray.size := by
    rw [hlen0, ← rv.length]
    exact List.length_pos_iff.mpr xn
  have hl2 := rv.length
  refine call_reversed_tup p' (fun A E Q k => len_tuple p' (by simp only [List.size_toArray] <;> omega) k) (args_nil ?_)
  have k0 : ∀ b o, s1.heap.get? b = some o → (s1.heap.push (rtObj a ((its.toArray.size : Int) - 1))).get? b = some o := fun b o e => Heap.get?_push_of_some _ e
  have I2 : Inv X pins σ H1 { s1 with heap := s1.heap.push (rtObj a ((its.toArray.size : Int) - 1)), toks := s1.toks + 1 + 1 } := I1.kept (t' := s1.toks + 1 + 1) k0
  obtain ⟨f0, f1, f2, f3, f4, f5⟩ := I1.fpOk (H' := H1) (b := s1.heap.objs.size) (Nat.le_refl _) (I1.hok.fresh (Nat.le_refl _))
  obtain ⟨ol, hol, hol2⟩ := id p'
  have hne : a ≠ s1.heap.objs.size := Nat.ne_of_lt (Heap.lt_size hol)
  refine call_tuple_rt (s := { s1 with heap := s1.heap.push (rtObj a ((its.toArray.size : Int) - 1)), toks := s1.toks + 1 + 1 }) (I1.ok.hd hc) ⟨_, Heap.get?_push_size _ rfl, rfl, rfl⟩ ⟨ol, k0 _ _ hol, hol2⟩ hne hn h0 (fun s ht A E Q k => len_tuple ht (by simp only [List.size_toArray] <;> omega) k) fun h' tk acc hk hi => ?_
  have I3 : Inv X pins σ H1 { s1 with heap := h', toks := tk } := I2.turned (t' := tk) (fun b o hb e => hk b o hb e) f0 f1 f3 f4 f5
  refine ⟨.ref h'.objs.size, upd H1 h'.objs.size (.tup xs.reverse), I3.laid (t' := tk) (fun c o e => Heap.get?_push_of_some _ e) (Nat.le_refl _) (show ObjOk X.prog X.w _ _ _ (.tup xs.reverse) from ⟨by rw [List.length_reverse]; exact hz, acc.toList, vals_rev rv hi, ?_⟩), rfl, q _ (I3.hok.fresh (Nat.le_refl _))⟩
  rw [Array.toArray_toList]
  exact IsTup.new _ _
end
end RT

set_option Elab.async false
set_option linter.all false
set_option maxRecDepth 100000
set_option maxHeartbeats 4000000
/-! written data, more: slices, items, sums of tuples, list(), tuple(), len -/
namespace Lb
open PySem PySem.Spec PyProof.Rows L2
theorem noLst_all' {ds : List PyData} (h : ∀ d ∈ ds, noLst d = true) : noLsts ds = true := by
  induction ds with
  | nil => rfl
  | cons d ds ih => rw [noLsts, h d List.mem_cons_self, ih fun e m => h e (List.mem_cons_of_mem _ m)]; rfl
theorem seq_by {t u : TS} {D : Ends} {σ : L2.St} {H : Hp} (R : L2.St → Hp → Prop) (h2 : ∀ σ H, R σ H → u D σ H) (h1 : (∀ σ H, R σ H → u D σ H) → t { D with nx := u D } σ H) : tSeq t u D σ H := h1 h2
theorem Lits.setL {S : List Addr} {σ : L2.St} {H0 : Hp} {ta : TA} {ds : List PyData} {u : TS} {D : Ends} {i : Nat} {H : Hp} (h : Lits S σ H0 ta ds) (s : Same H0 H) (few : ds.length ≤ sizeLine) (k : ∀ H' vs p, Same H H' → Reps S H' vs ds → H' p = none → u D (σ.set i (some (.ref p))) (upd H' p (.lst vs))) : tSeq (tAsg (tLst ta) (gName i)) u D σ H :=
  h H _ s fun H1 vs s1 rs => ⟨by rw [rs.length]; exact few, fun p np => k _ vs p s1 rs np⟩
theorem noLst_prog (P : Prog) : noLst P.d = true := by
  have h1 : noLsts (P.parts.map rowsD) = true := noLst_all' fun d hd => by
    obtain ⟨rs, _, rfl⟩ := List.mem_map.mp hd
    exact noLst_rows rs
  have h2 : noLsts (P.marks.map PyData.bool) = true := noLst_all' fun d hd => by
    obtain ⟨rs, _, rfl⟩ := List.mem_map.mp hd
    rfl
  have h3 : noLsts (P.entries.map PyData.int) = true := noLst_all' fun d hd => by
    obtain ⟨rs, _, rfl⟩ := List.mem_map.mp hd
    rfl
  show (noLsts (P.parts.map rowsD) && (noLsts (P.marks.map PyData.bool) && (noLsts (P.entries.map PyData.int) && (noLsts (P.opens.map nmD) && true)))) = true
  rw [h1, h2, h3, noLst_nms]
  rfl
def rLst2 (K : PySem.W.Frag) : List V → Hp → VK → Prop := fun xs H Q => ∃ p ys, xs = [V.ref p] ∧ (SqL K H p ys ∨ SqT K H p ys) ∧ ∀ l, H l = none → Q (.ref l) (upd H l (.lst ys))
theorem lst_k {X : Cx} : CallR X (.type "list") (rLst2 X.K) := call_list_of
def rTup2 (K : PySem.W.Frag) : List V → Hp → VK → Prop := fun xs H Q => ∃ p ys, xs = [V.ref p] ∧ ((SqL K H p ys ∧ ∀ l, H l = none → Q (.ref l) (upd H l (.tup ys))) ∨ SqT K H p ys ∧ Q (.ref p) H)
theorem tup_k {X : Cx} : CallR X (.type "tuple") (rTup2 X.K) := call_tuple_of
theorem Reps.set {st : List Addr} {H : Hp} {x : V} {d : PyData} : ∀ {vs : List V} {ds : List PyData} (j : Nat), Reps st H vs ds → Rep st H x d → Reps st H (vs.set j x) (ds.set j d)
  | _, _, _, .nil, _ => .nil
  | _, _, 0, .cons r rs, q => .cons q rs
  | _, _, j + 1, .cons r rs, q => .cons r (Reps.set j rs q)
theorem set_mem {α : Type} {l : List α} {j : Nat} (h : j < l.length) (x : α) : x ∈ l.set j x := List.mem_iff_getElem?.mpr ⟨j, by rw [List.getElem?_set_self h]⟩
theorem ixN_at {n : Nat} {w : Int} (h0 : 0 ≤ w) (h1 : w < n) : ixN n w = some w.toNat := by
  unfold ixN
  rw [if_pos h0, if_pos h1]

theorem Reps.rev {st : List Addr} {H : Hp} : ∀ {vs : List V} {ds : List PyData}, Reps st H vs ds → Reps st H vs.reverse ds.reverse
  | _, _, .nil => .nil
  | _, _, .cons r rs => by
    rw [List.reverse_cons, List.reverse_cons]
    exact (Reps.rev rs).app (.one r)
/-- a slice's bound -/
def LitO (S : List Addr) (σ : L2.St) (H0 : Hp) (to : TO) (o : Option Int) : Prop := ∀ (H : Hp) (F : Option Int → Hp → Prop), Same H0 H → (∀ H', Same H H' → F o H') → to σ H F
section
variable {S : List Addr} {σ : L2.St} {H0 : Hp} {te : TE} {tl th : TO} {ds : List PyData} {lo hi : Option Int}
theorem lito_no : LitO S σ H0 tNoPart none := fun H F _ k => k H (.refl _)
theorem lito_int {n : Int} (h : Lit S σ H0 te (.int n)) : LitO S σ H0 (tPart te) (some n) := fun H F s k => h H _ s fun H1 v s1 r => ⟨n, r.intV, k H1 s1⟩
def cutD (ds : List PyData) (lo hi : Option Int) : List PyData := (ds.drop (HT.sIx ds.length 0 lo)).take (HT.sIx ds.length ds.length hi - HT.sIx ds.length 0 lo)
theorem Reps.sub {st : List Addr} {H : Hp} {xs : List V} {ds : List PyData} (r : Reps st H xs ds) : Reps st H (cutV xs lo hi) (cutD ds lo hi) := by
  unfold cutV cutD
  rw [← r.length]
  exact (r.skip _).cut _
theorem lit_sl {K : PySem.W.Frag} (oc : Occ S H0) (hx : Lit S σ H0 te (.tuple ds)) (hl : LitO S σ H0 tl lo) (hh : LitO S σ H0 th hi) : Lit S σ H0 (tSl (rSlA K) te tl th) (.tuple (cutD ds lo hi)) := fun H F s k =>
  hx H _ s fun H1 v s1 r => hl H1 _ (s.trans s1) fun H2 s2 => hh H2 _ ((s.trans s1).trans s2) fun H3 s3 => by
    obtain ⟨a, xs, rfl, ha, na, rs⟩ := (r.sm (s2.trans s3)).tupV
    have sA := s1.trans (s2.trans s3)
    refine ⟨a, xs, rfl, SqT.of ha, fun w => ?_, fun _ p np => ?_⟩
    · have e : cutD ds lo hi = ds := by
        unfold cutD
        rw [← rs.length, w.1, w.2, List.drop_zero, Nat.sub_zero]
        exact List.take_of_length_le (by rw [rs.length]; exact Nat.le_refl _)
      rw [e] at k
      exact k _ _ sA (.tup ha na rs)
    · exact k _ _ (sA.trans (same_new np)) (.tup upd_same ((oc.sm (s.trans sA)).new np) (rs.sub.sm (same_new np)))
theorem lit_lof {K : PySem.W.Frag} (oc : Occ S H0) (hx : Lit S σ H0 te (.tuple ds)) : Lit S σ H0 (tCB (rLst2 K) (tCons te tNil)) (.list ds) := fun H F s k =>
  hx H _ s fun H1 v s1 r => by
    obtain ⟨a, xs, rfl, ha, na, rs⟩ := r.tupV
    exact ⟨a, xs, rfl, .inr (SqT.of ha), fun p np => k _ _ (s1.trans (same_new np)) (.lst upd_same ((oc.sm (s.trans s1)).new np) (rs.sm (same_new np)))⟩
end
section
variable {S : List Addr} {σ : L2.St} {H0 : Hp} {te tb : TE} {ds es : List PyData} {d : PyData}
def rInt2 : List V → Hp → VK → Prop := fun xs H Q => (∃ i, xs = [.int i] ∧ Q (.int i) H) ∨ ∃ k, xs = [.bl k] ∧ Q (.int (if k then 1 else 0)) H
theorem int_k {X : Cx} : CallR X (.type "int") rInt2 := call_int1
theorem Reps.atI {st : List Addr} {H : Hp} {xs : List V} (r : Reps st H xs ds) {i : Int} (h : atI ds i = some d) : ∃ x, L2.atI xs i = some x ∧ Rep st H x d := by
  unfold L2.atI at h ⊢
  rw [r.length]
  cases e : ixN ds.length i with
  | none =>
    rw [e] at h
    exact nomatch h
  | some j =>
    rw [e] at h
    exact r.at_ h
theorem lit_ix {K : PySem.W.Frag} {i : Int} (hx : Lit S σ H0 te (.tuple ds)) (hi : Lit S σ H0 tb (.int i)) (h : atI ds i = some d) : Lit S σ H0 (tOp (rIxT K) te tb) d := fun H F s k =>
  hx H _ s fun H1 v s1 r => hi H1 _ (s.trans s1) fun H2 u s2 q => by
    obtain ⟨a, xs, rfl, ha, _, rs⟩ := (r.sm s2).tupV
    obtain ⟨x, hx, rx⟩ := rs.atI h
    exact ⟨a, xs, i, x, rfl, q.intV, SqT.of ha, hx, k _ _ (s1.trans s2) rx⟩
theorem lit_ixL {K : PySem.W.Frag} {i : Int} (hx : Lit S σ H0 te (.list ds)) (hi : Lit S σ H0 tb (.int i)) (h : atI ds i = some d) : Lit S σ H0 (tOp (rIxL K) te tb) d := fun H F s k =>
  hx H _ s fun H1 v s1 r => hi H1 _ (s.trans s1) fun H2 u s2 q => by
    obtain ⟨a, xs, rfl, ha, _, rs⟩ := (r.sm s2).lstV
    obtain ⟨x, hx, rx⟩ := rs.atI h
    exact ⟨a, xs, i, x, rfl, q.intV, SqL.of ha, hx, k _ _ (s1.trans s2) rx⟩
theorem lit_catA {K : PySem.W.Frag} (oc : Occ S H0) (hx : Lit S σ H0 te (.tuple ds)) (hy : Lit S σ H0 tb (.tuple es)) (few : (ds ++ es).length ≤ sizeLine) : Lit S σ H0 (tOp (rCatA K) te tb) (.tuple (ds ++ es)) := fun H F s k =>
  hx H _ s fun H1 v s1 r => hy H1 _ (s.trans s1) fun H2 u s2 q => by
    obtain ⟨a, xs, rfl, ha, na, rs⟩ := (r.sm s2).tupV
    obtain ⟨b, ys, rfl, hb, nb, qs⟩ := q.tupV
    have l1 := rs.length
    have l2 := qs.length
    refine ⟨a, b, xs, ys, rfl, rfl, SqT.of ha, SqT.of hb, by rw [l1, l2, ← List.length_append]; exact few, fun e => ?_, fun _ e => ?_, fun _ _ p np => ?_⟩
    · have e2 : ds = [] := List.length_eq_zero_iff.mp (by rw [← l1, e]; rfl)
      rw [e2, List.nil_append] at k
      exact k _ _ (s1.trans s2) (.tup hb nb qs)
    · have e2 : es = [] := List.length_eq_zero_iff.mp (by rw [← l2, e]; rfl)
      rw [e2, List.append_nil] at k
      exact k _ _ (s1.trans s2) (.tup ha na rs)
    · exact k _ _ ((s1.trans s2).trans (same_new np)) (.tup upd_same ((oc.sm ((s.trans s1).trans s2)).new np) ((rs.app qs).sm (same_new np)))
theorem lit_ofB {b : Bool} (h : Lit S σ H0 te (.bool b)) : Lit S σ H0 (tCB rInt2 (tCons te tNil)) (.int (if b then 1 else 0)) := fun H F s k =>
  h H _ s fun H1 v s1 r => .inr ⟨b, by rw [r.blV], k _ _ s1 (.int _)⟩
theorem lit_eqI {i j : Int} (h : Lit S σ H0 te (.int i)) : Lit S σ H0 (tOp rEq te (tC (.int j))) (.bool (decide (V.int i = V.int j))) := fun H F s k =>
  h H _ s fun H1 v s1 r => by
    rw [r.intV]
    exact ⟨rfl, k _ _ s1 (.bl _)⟩
theorem lit_plus {i j : Int} (h : Lit S σ H0 te (.int i)) : Lit S σ H0 (tOp (rI0 fun i j => .int (i + j)) te (tC (.int j))) (.int (i + j)) := fun H F s k =>
  h H _ s fun H1 v s1 r => ⟨i, j, r.intV, rfl, k _ _ s1 (.int _)⟩
end
section
variable {S : List Addr} {σ : L2.St} {H0 : Hp} {te tb : TE} {ds es : List PyData} {d : PyData}
theorem lit_revT {K : PySem.W.Frag} (oc : Occ S H0) (hx : Lit S σ H0 te (.tuple ds)) (nn : ds ≠ []) : Lit S σ H0 (RT.tTupRevT K te) (.tuple ds.reverse) := fun H F s k =>
  hx H _ s fun H1 v s1 r => by
    obtain ⟨a, xs, rfl, ha, na, rs⟩ := r.tupV
    have l1 := rs.length
    refine ⟨a, xs, rfl, SqT.of ha, fun z => nn (by rw [z] at l1; exact List.length_eq_zero_iff.mp l1.symm), fun p np => ?_⟩
    exact k _ _ (s1.trans (same_new np)) (.tup upd_same ((oc.sm (s.trans s1)).new np) (rs.rev.sm (same_new np)))
theorem lit_lenT {K : PySem.W.Frag} (hx : Lit S σ H0 te (.tuple ds)) : Lit S σ H0 (tCB (rLen2 K) (tCons te tNil)) (.int ds.length) := fun H F s k =>
  hx H _ s fun H1 v s1 r => by
    obtain ⟨a, xs, rfl, ha, na, rs⟩ := r.tupV
    refine ⟨a, xs, rfl, .inr (SqT.of ha), ?_⟩
    rw [rs.length]
    exact k _ _ s1 (.int _)
theorem lit_neg1 {n : Int} : Lit S σ H0 (tUn (rU fun i => .int (-i)) (tC (.int n))) (.int (-n)) := lit_neg (lit_int n)
end
end Lb

set_option Elab.async false
set_option linter.all false
set_option maxRecDepth 100000
set_option maxHeartbeats 4000000
/-! places and lots of a program, as data -/
namespace Lb
open PySem PySem.Spec PyProof.Rows L2
def partD (P : PyData) (i : Nat) : PyData := (itemsD (nthD P 0)).getD i .none
def placeB (P d : PyData) : Bool := tupB d 2 2 && (numB (nthD d 0) ((itemsD (nthD P 0)).length : Int) && numB (nthD d 1) ((itemsD (partD P (valI (nthD d 0)).toNat)).length : Int))
def lotB (P d : PyData) : Bool := isTup d && ((itemsD d).all (fun x => placeB P x) && ascB (itemsD d))
theorem numB_iff {d : PyData} {n : Int} : numB d n = true ↔ ∃ i : Int, d = .int i ∧ 0 ≤ i ∧ i < n := by
  constructor
  · intro h
    unfold numB at h
    rw [Bool.and_eq_true, Bool.and_eq_true, decide_eq_true_eq, decide_eq_true_eq] at h
    obtain ⟨i, rfl⟩ := int_of h.1
    exact ⟨i, rfl, h.2.1, h.2.2⟩
  · rintro ⟨i, rfl, h0, h1⟩
    exact numB_ok h0 h1
theorem placeB_iff {P d : PyData} : placeB P d = true ↔ ∃ i j : Nat, d = placeD i j ∧ i < (itemsD (nthD P 0)).length ∧ j < (itemsD (partD P i)).length := by
  constructor
  · intro h
    unfold placeB at h
    rw [Bool.and_eq_true, Bool.and_eq_true] at h
    obtain ⟨ds, rfl, l1, l2⟩ := tupB_len h.1
    obtain ⟨x, y, rfl⟩ := len2 l1 l2
    obtain ⟨i, ei, i0, i1⟩ := numB_iff.mp h.2.1
    obtain ⟨j, ej, j0, j1⟩ := numB_iff.mp h.2.2
    have ex : x = .int i := ei
    have ey : y = .int j := ej
    subst ex ey
    have e1 : valI (nthD (.tuple [.int i, .int j]) 0) = i := rfl
    rw [e1] at j1
    refine ⟨i.toNat, j.toNat, ?_, by omega, by omega⟩
    unfold placeD
    rw [Int.toNat_of_nonneg i0, Int.toNat_of_nonneg j0]
  · rintro ⟨i, j, rfl, hi, hj⟩
    unfold placeB placeD
    have e1 : valI (nthD (.tuple [.int i, .int j]) 0) = (i : Int) := rfl
    rw [e1, Int.toNat_natCast]
    show (true && (numB (.int i) _ && numB (.int j) _)) = true
    rw [numB_ok (by omega) (by omega), numB_ok (by omega) (by omega)]
    rfl
/-- the places as pairs -/
def pairsIn (i n : Nat) : List (Nat × Nat) := (List.range n).map fun j => (i, j)
def pairsTo (ps : List PyData) (n : Nat) : List (Nat × Nat) := (List.range n).flatMap fun k => pairsIn k (itemsD (ps.getD k .none)).length
def pD (q : Nat × Nat) : PyData := placeD q.1 q.2
def pLt (q r : Nat × Nat) : Prop := q.1 < r.1 ∨ (q.1 = r.1 ∧ q.2 < r.2)
theorem upTo_pairs (ps : List PyData) (n : Nat) : upTo ps n = (pairsTo ps n).map pD := by
  unfold upTo pairsTo
  rw [List.map_flatMap]
  congr 1
  funext k
  unfold inPart pairsIn
  rw [List.map_map]
  rfl
theorem pairs_mem {ps : List PyData} {n : Nat} {q : Nat × Nat} : q ∈ pairsTo ps n ↔ q.1 < n ∧ q.2 < (itemsD (ps.getD q.1 .none)).length := by
  unfold pairsTo pairsIn
  rw [List.mem_flatMap]
  constructor
  · rintro ⟨k, hk, hq⟩
    obtain ⟨j, hj, rfl⟩ := List.mem_map.mp hq
    exact ⟨List.mem_range.mp hk, List.mem_range.mp hj⟩
  · rintro ⟨h1, h2⟩
    exact ⟨q.1, List.mem_range.mpr h1, List.mem_map.mpr ⟨q.2, List.mem_range.mpr h2, rfl⟩⟩
theorem pairs_up (ps : List PyData) : ∀ n : Nat, (pairsTo ps n).Pairwise pLt
  | 0 => .nil
  | n + 1 => by
    have ih := pairs_up ps n
    have e : pairsTo ps (n + 1) = pairsTo ps n ++ pairsIn n (itemsD (ps.getD n .none)).length := by
      unfold pairsTo
      rw [List.range_succ, List.flatMap_append, List.flatMap_cons, List.flatMap_nil, List.append_nil]
    rw [e, List.pairwise_append]
    refine ⟨ih, ?_, fun q hq r hr => ?_⟩
    · unfold pairsIn
      rw [List.pairwise_map]
      exact (List.pairwise_lt_range).imp fun h => .inr ⟨rfl, h⟩
    · have h1 := (pairs_mem.mp hq).1
      obtain ⟨j, _, rfl⟩ := List.mem_map.mp hr
      exact .inl h1
theorem pD_lt (q r : Nat × Nat) : PySem.W.dataLt (pD q) (pD r) = true ↔ pLt q r := by
  unfold pD placeD
  rw [PySem.W.dataLt_pair (by rfl) (by rfl)]
  have e : ∀ a b : Nat, PyData.eqv (.int (a : Int)) (.int (b : Int)) = decide (a = b) := fun a b => by
    rw [Bool.eq_iff_iff, decide_eq_true_eq]
    simp [PyData.eqv] <;> omega
  rw [e, e, PySem.W.dataLt_int, PySem.W.dataLt_int]
  unfold pLt
  by_cases h1 : q.1 = r.1
  · rw [if_pos (decide_eq_true h1)]
    by_cases h2 : q.2 = r.2
    · rw [if_pos (decide_eq_true h2)]
      constructor
      · intro z
        exact nomatch z
      · omega
    · rw [if_neg (by simpa using h2), decide_eq_true_eq]
      omega
  · rw [if_neg (by simpa using h1), decide_eq_true_eq]
    omega
theorem asc_up : ∀ {l : List (Nat × Nat)}, l.Pairwise pLt → ascB (l.map pD) = true := fun h => ascB_of pD pLt (fun a b z => (pD_lt a b).mpr z) _ h
theorem ascB_mid : ∀ (l : List PyData) {a b : PyData} {r : List PyData}, ascB (l ++ a :: b :: r) = true → PySem.W.dataLt a b = true
  | [], _, _, _, h => (Bool.and_eq_true_iff.mp h).1
  | [x], a, b, r, h => ascB_mid [] (show ascB (a :: b :: r) = true from (Bool.and_eq_true_iff.mp (show (PySem.W.dataLt x a && ascB (a :: b :: r)) = true from h)).2)
  | x :: y :: l, a, b, r, h => ascB_mid (y :: l) (show ascB ((y :: l) ++ a :: b :: r) = true from (Bool.and_eq_true_iff.mp (show (PySem.W.dataLt x y && ascB ((y :: l) ++ a :: b :: r)) = true from h)).2)
section
variable {P : PyData} {ps : List PyData}
theorem place_all (hP : nthD P 0 = .tuple ps) {l : List (Nat × Nat)} (h : ∀ q ∈ l, q ∈ pairsTo ps ps.length) : (l.map pD).all (fun x => placeB P x) = true := by
  rw [List.all_map, List.all_eq_true]
  intro q hq
  have z := pairs_mem.mp (h q hq)
  refine placeB_iff.mpr ⟨q.1, q.2, rfl, ?_, ?_⟩
  · rw [hP]
    exact z.1
  · unfold partD
    rw [hP]
    exact z.2
theorem lot_ok (hP : nthD P 0 = .tuple ps) {l : List (Nat × Nat)} (h : ∀ q ∈ l, q ∈ pairsTo ps ps.length) (up : l.Pairwise pLt) : lotB P (.tuple (l.map pD)) = true := by
  show (true && ((l.map pD).all (fun x => placeB P x) && ascB (l.map pD))) = true
  rw [place_all hP h, asc_up up]
  rfl
theorem lot_turned (hP : nthD P 0 = .tuple ps) {n : Nat} (hn : n < (pairsTo ps ps.length).length) : lotB P (.tuple (((pairsTo ps ps.length).drop n ++ (pairsTo ps ps.length).take n).map pD)) = decide (n = 0) := by
  have up := pairs_up ps ps.length
  by_cases h0 : n = 0
  · subst h0
    rw [List.drop_zero, List.take_zero, List.append_nil, decide_eq_true rfl]
    exact lot_ok hP (fun q hq => hq) up
  · rw [decide_eq_false h0]
    generalize pairsTo ps ps.length = l at *
    have e := List.take_append_drop n l
    have ht : 0 < (l.take n).length := by rw [List.length_take]; omega
    have hd : 0 < (l.drop n).length := by rw [List.length_drop]; omega
    obtain ⟨y, v, hy⟩ := List.exists_cons_of_length_pos ht
    obtain ⟨u, x, hx⟩ : ∃ u x, l.drop n = u ++ [x] := ⟨(l.drop n).dropLast, (l.drop n).getLast (List.ne_nil_of_length_pos hd), (List.dropLast_concat_getLast _).symm⟩
    rw [hy, hx] at e ⊢
    rw [← e, List.pairwise_append] at up
    have lt : pLt y x := up.2.2 y List.mem_cons_self x (List.mem_append.mpr (.inr List.mem_cons_self))
    rw [Bool.eq_false_iff]
    intro z
    have z2 : (true && (_ && ascB ((u ++ [x] ++ y :: v).map pD))) = true := z
    rw [Bool.true_and, Bool.and_eq_true] at z2
    have z3 := z2.2
    rw [List.append_assoc, List.map_append] at z3
    have lt2 := (pD_lt x y).mp (ascB_mid (u.map pD) z3)
    unfold pLt at lt lt2
    omega
theorem lot_with {ds : List PyData} {x : PyData} (hx : x ∈ ds) (h : placeB P x = false) : lotB P (.tuple ds) = false := by
  show (true && (ds.all (fun x => placeB P x) && ascB ds)) = false
  have e : ds.all (fun x => placeB P x) = false := by
    rw [List.all_eq_false]
    exact ⟨x, hx, by rw [h]; exact fun z => nomatch z⟩
  rw [e]
  rfl
theorem lot_twice {l r : List PyData} {x : PyData} : lotB P (.tuple (l ++ x :: x :: r)) = false := by
  rw [Bool.eq_false_iff]
  intro z
  have z2 : (true && (_ && ascB (l ++ x :: x :: r))) = true := z
  rw [Bool.true_and, Bool.and_eq_true] at z2
  have z3 := ascB_mid l z2.2
  rw [PySem.W.dataLt_self] at z3
  exact nomatch z3
theorem place_no {d : PyData} (h : ∀ i j : Nat, d = placeD i j → i < (itemsD (nthD P 0)).length → j < (itemsD (partD P i)).length → False) : placeB P d = false := by
  rw [Bool.eq_false_iff]
  intro z
  obtain ⟨i, j, e, h1, h2⟩ := placeB_iff.mp z
  exact h i j e h1 h2
theorem ints_eq {a b : Int} {i j : Nat} (h : PyData.tuple [.int a, .int b] = placeD i j) : a = i ∧ b = j := by
  unfold placeD at h
  injection h with h
  injection h with h1 h2
  injection h2 with h2 _
  injection h1 with h1
  injection h2 with h2
  exact ⟨h1, h2⟩
def lots0 (gs rs : List PyData) (i j c n : Int) : List PyData := [.list (gs ++ [.tuple [.int i, .int j]]), .tuple (rs ++ [.tuple [.int i, .int j], .tuple [.int i, .int j]]), .tuple (List.reverse (rs ++ [PyData.tuple [.int c, .int 0], .tuple [.int i, .int j]]))]
def lots1 (gs rs : List PyData) (i j c n : Int) : List PyData := [.tuple (rs ++ [.tuple [.int i, .int n]]), .tuple ([.tuple [.int (-1), .int 0]] ++ rs), .tuple ([.tuple [.int 0, .int (-1)]] ++ rs)]
def lots2 (gs rs : List PyData) (i j c n : Int) : List PyData := [.tuple (rs ++ [.tuple [.int c, .int 0]]), .tuple (rs ++ [.tuple [.int i, .int j, .int 0]]), .tuple (rs ++ [.tuple [.int i]]), .tuple (rs ++ [.list [.int i, .int j]])]
def lots3 (gs rs : List PyData) (i j c n : Int) : List PyData := [.tuple [.tuple [.bool false, .int 0]], .tuple [.tuple [.int 0, .bool false]], .tuple [.int i, .int j], .none]
theorem lots_bad {gs rs : List PyData} {i j c n : Int} {d : PyData} (hc : c = ((itemsD (nthD P 0)).length : Int)) (i0 : 0 ≤ i) (hn : n = ((itemsD (partD P i.toNat)).length : Int))
    (h : d ∈ ((lots0 gs rs i j c n ++ lots1 gs rs i j c n) ++ lots2 gs rs i j c n) ++ lots3 gs rs i j c n) : lotB P d = false := by
  have pc : placeB P (.tuple [.int c, .int 0]) = false := place_no fun a b e h1 h2 => by
    have := (ints_eq e).1
    omega
  simp only [lots0, lots1, lots2, lots3, List.mem_append, List.mem_cons, List.not_mem_nil, or_false, or_assoc] at h
  rcases h with h | h | h | h | h | h | h | h | h | h | h | h | h | h <;> rw [h]
  · rfl
  · exact lot_twice
  · exact lot_with (List.mem_reverse.mpr (List.mem_append.mpr (.inr List.mem_cons_self))) pc
  · refine lot_with (List.mem_append.mpr (.inr List.mem_cons_self)) (place_no fun a b e h1 h2 => ?_)
    have e1 := (ints_eq e).1
    have e2 := (ints_eq e).2
    have e3 : i.toNat = a := by omega
    rw [e3] at hn
    omega
  · refine lot_with (List.mem_append.mpr (.inl List.mem_cons_self)) (place_no fun a b e h1 h2 => ?_)
    have := (ints_eq e).1
    omega
  · refine lot_with (List.mem_append.mpr (.inl List.mem_cons_self)) (place_no fun a b e h1 h2 => ?_)
    have := (ints_eq e).2
    omega
  · exact lot_with (List.mem_append.mpr (.inr List.mem_cons_self)) pc
  · exact lot_with (List.mem_append.mpr (.inr List.mem_cons_self)) rfl
  · exact lot_with (List.mem_append.mpr (.inr List.mem_cons_self)) rfl
  · exact lot_with (List.mem_append.mpr (.inr List.mem_cons_self)) rfl
  · exact lot_with List.mem_cons_self rfl
  · refine lot_with List.mem_cons_self ?_
    show (true && (_ && false)) = false
    simp
  · exact lot_with List.mem_cons_self rfl
  · rfl
end
def oneD : PyData := .tuple [.tuple [.tuple [.tuple [.str "out"]]], .tuple [.bool true], .tuple [.int 0], .tuple []]
theorem one_ok : progB oneD = true := by decide +kernel
theorem one_places : placesD oneD = [placeD 0 0] := rfl
end Lb
namespace Lb
open PySem PySem.Spec PyProof.Rows L2
def pairsOf (d : PyData) : List (Nat × Nat) := pairsTo (itemsD (nthD d 0)) (itemsD (nthD d 0)).length
theorem places_pairs (d : PyData) : placesD d = (pairsOf d).map pD := upTo_pairs _ _
theorem lots_len {gs rs : List PyData} {i j c n : Int} {d : PyData} (hg : gs.length ≤ 20) (hr : rs.length ≤ 20)
    (h : d ∈ ((lots0 gs rs i j c n ++ lots1 gs rs i j c n) ++ lots2 gs rs i j c n) ++ lots3 gs rs i j c n) : (itemsD d).length ≤ 100 := by
  simp only [lots0, lots1, lots2, lots3, List.mem_append, List.mem_cons, List.not_mem_nil, or_false, or_assoc] at h
  rcases h with h | h | h | h | h | h | h | h | h | h | h | h | h | h <;> rw [h] <;> simp [itemsD] <;> omega
theorem cut_from {xs : List V} {n : Nat} (h : n ≤ xs.length) : cutV xs (some (n : Int)) none = xs.drop n := by
  unfold cutV
  rw [HT.sIx_nat, Nat.min_eq_left h]
  show (xs.drop n).take (xs.length - n) = xs.drop n
  apply List.take_of_length_le
  rw [List.length_drop]
  omega
theorem cut_to {xs : List V} {n : Nat} (h : n ≤ xs.length) : cutV xs none (some (n : Int)) = xs.take n := by
  unfold cutV
  rw [HT.sIx_nat, Nat.min_eq_left h]
  show (xs.drop 0).take (n - 0) = xs.take n
  rw [List.drop_zero, Nat.sub_zero]
end Lb

set_option Elab.async false
set_option linter.all false
set_option maxRecDepth 100000
set_option maxHeartbeats 4000000
/-! which part leads to which one; levels of parts that are ready -/
namespace Lb
open PySem PySem.Spec PyProof.Rows L2
def nV (k : Nat) : V := .int (k : Int)
def nD (k : Nat) : PyData := .int (k : Int)
def nsD (l : List Nat) : PyData := .list (l.map nD)
def lkD (L : List (List Nat)) : PyData := .list (L.map nsD)
abbrev at_ (L : List (List Nat)) (i : Nat) : List Nat := L.getD i []
theorem inV_nat (x : Nat) (l : List Nat) : inV (nV x) (l.map nV) = decide (x ∈ l) := by
  unfold inV
  rw [List.any_map, Bool.eq_iff_iff, List.any_eq_true, decide_eq_true_eq]
  constructor
  · rintro ⟨y, hy, e⟩
    have e : ((y : Int) == (x : Int)) = true := e
    rw [beq_iff_eq] at e
    have : y = x := by omega
    rw [← this]
    exact hy
  · intro hx
    exact ⟨x, hx, beq_iff_eq.mpr rfl⟩
theorem flat_nat (l : List Nat) : (l.map nV).all flatV = true := by
  rw [List.all_map]
  exact List.all_eq_true.mpr fun _ _ => rfl
theorem nats_of {S : List Addr} {H : Hp} : ∀ {l : List Nat} {xs : List V}, Reps S H xs (l.map nD) → xs = l.map nV
  | [], _, .nil => rfl
  | k :: l, _, .cons r rs => by rw [r.intV, nats_of rs]; rfl
theorem nats_rep {S : List Addr} {H : Hp} : ∀ l : List Nat, Reps S H (l.map nV) (l.map nD)
  | [] => .nil
  | k :: l => .cons (.int _) (nats_rep l)
/-- k can be come to from p -/
inductive Reach (L : List (List Nat)) (p : Nat) : Nat → Prop
  | one {k : Nat} : k ∈ at_ L p → Reach L p k
  | more {j k : Nat} : Reach L p j → k ∈ at_ L j → Reach L p k
theorem Reach.congr {L M : List (List Nat)} (h : ∀ i k, k ∈ at_ L i → k ∈ at_ M i) {p k : Nat} (r : Reach L p k) : Reach M p k := by
  induction r with
  | one e => exact .one (h _ _ e)
  | more _ e ih => exact .more ih (h _ _ e)
/-- a search from p: what is found, what waits -/
structure Srch (L : List (List Nat)) (p : Nat) (fs ws : List Nat) : Prop where
  f : ∀ k ∈ fs, Reach L p k
  w : ∀ k ∈ ws, Reach L p k
  st : ∀ k ∈ at_ L p, k ∈ fs ∨ k ∈ ws
  cl : ∀ j ∈ fs, ∀ k ∈ at_ L j, k ∈ fs ∨ k ∈ ws
  nd : fs.Nodup
theorem Srch.start (L : List (List Nat)) (p : Nat) : Srch L p [] (at_ L p) :=
  ⟨fun _ z => (nomatch z), fun k h => .one h, fun k h => .inr h, fun _ z => (nomatch z), .nil⟩
theorem Srch.skip {L : List (List Nat)} {p x : Nat} {fs ws : List Nat} (s : Srch L p fs (ws ++ [x])) (h : x ∈ fs) : Srch L p fs ws := by
  have out : ∀ {k}, k ∈ fs ∨ k ∈ ws ++ [x] → k ∈ fs ∨ k ∈ ws := fun z => z.elim .inl fun z => (List.mem_append.mp z).elim .inr fun z => by rw [List.mem_singleton.mp z]; exact .inl h
  exact ⟨s.f, fun k h => s.w k (List.mem_append_left _ h), fun k h => out (s.st k h), fun j hj k h => out (s.cl j hj k h), s.nd⟩
theorem Srch.take {L : List (List Nat)} {p x : Nat} {fs ws : List Nat} (s : Srch L p fs (ws ++ [x])) (h : x ∉ fs) : Srch L p (fs ++ [x]) (ws ++ at_ L x) := by
  have rx := s.w x (List.mem_append_right _ (List.mem_singleton.mpr rfl))
  have out : ∀ {k}, k ∈ fs ∨ k ∈ ws ++ [x] → k ∈ fs ++ [x] ∨ k ∈ ws ++ at_ L x := fun z => z.elim (fun z => .inl (List.mem_append_left _ z)) fun z => (List.mem_append.mp z).elim (fun z => .inr (List.mem_append_left _ z)) fun z => .inl (List.mem_append_right _ z)
  refine ⟨fun k hk => ?_, fun k hk => ?_, fun k hk => out (s.st k hk), fun j hj k hk => ?_, ?_⟩
  · rcases List.mem_append.mp hk with z | z
    · exact s.f k z
    · rw [List.mem_singleton.mp z]
      exact rx
  · rcases List.mem_append.mp hk with z | z
    · exact s.w k (List.mem_append_left _ z)
    · exact .more rx z
  · rcases List.mem_append.mp hj with z | z
    · exact out (s.cl j z k hk)
    · rw [List.mem_singleton.mp z] at hk
      exact .inr (List.mem_append_right _ hk)
  · refine List.nodup_append.mpr ⟨s.nd, by simp, fun a ha b hb => ?_⟩
    rw [List.mem_singleton.mp hb]
    exact fun e => h (by rw [← e]; exact ha)
theorem Srch.done {L : List (List Nat)} {p : Nat} {fs : List Nat} (s : Srch L p fs []) (k : Nat) : k ∈ fs ↔ Reach L p k := by
  refine ⟨s.f k, fun r => ?_⟩
  induction r with
  | one h => exact (s.st _ h).elim id fun z => nomatch z
  | more _ h ih => exact (s.cl _ ih _ h).elim id fun z => nomatch z
structure LkOk (n : Nat) (L : List (List Nat)) : Prop where
  len : L.length = n
  few : ∀ l ∈ L, l.length ≤ 40
  lt : ∀ l ∈ L, ∀ k ∈ l, k < n
theorem LkOk.at {n : Nat} {L : List (List Nat)} (ok : LkOk n L) (i : Nat) : (at_ L i).length ≤ 40 ∧ ∀ k ∈ at_ L i, k < n := by
  unfold at_
  rw [List.getD_eq_getElem?_getD]
  cases e : L[i]? with
  | none => exact ⟨Nat.zero_le _, fun _ z => (nomatch z)⟩
  | some l =>
    have m := List.mem_of_getElem? e
    exact ⟨ok.few l m, ok.lt l m⟩
theorem nodup_lt {l : List Nat} {n : Nat} (nd : l.Nodup) (h : ∀ k ∈ l, k < n) : l.length ≤ n := by
  have z := L2.nat_nodup_len l (List.range n) nd fun k hk => List.mem_range.mpr (h k hk)
  rwa [List.length_range] at z
/-! levels -/
section
variable (n : Nat) (free : Nat → Prop) (L0 : List Nat) (L : List (List Nat))
def Rdy : Nat → Nat → Prop
  | 0, _ => False
  | t + 1, k => k < n ∧ free k ∧ (k ∈ L0 ∨ ∃ j, Rdy t j ∧ k ∈ at_ L j)
end
section
variable {n : Nat} {free : Nat → Prop} {L0 : List Nat} {L : List (List Nat)}
theorem Rdy.up : ∀ {t k : Nat}, Rdy n free L0 L t k → Rdy n free L0 L (t + 1) k
  | 0, _, h => h.elim
  | t + 1, k, h => ⟨h.1, h.2.1, h.2.2.elim .inl fun ⟨j, a, b⟩ => .inr ⟨j, Rdy.up a, b⟩⟩
theorem Rdy.mono {t u k : Nat} (h : Rdy n free L0 L t k) (le : t ≤ u) : Rdy n free L0 L u k := by
  induction le with
  | refl => exact h
  | step _ ih => exact ih.up
theorem Rdy.lt {t k : Nat} (h : Rdy n free L0 L t k) : k < n := by
  cases t with
  | zero => exact h.elim
  | succ t => exact h.1
theorem Rdy.fr {t k : Nat} (h : Rdy n free L0 L t k) : free k := by
  cases t with
  | zero => exact h.elim
  | succ t => exact h.2.1
/-- nothing new: nothing new ever -/
theorem Rdy.still {t : Nat} (h : ∀ k, Rdy n free L0 L (t + 1) k → Rdy n free L0 L t k) : ∀ {u k : Nat}, Rdy n free L0 L u k → Rdy n free L0 L t k
  | 0, _, z => z.elim
  | u + 1, k, z => h k ⟨z.1, z.2.1, z.2.2.elim .inl fun ⟨j, a, b⟩ => .inr ⟨j, Rdy.still h a, b⟩⟩
/-- at each level up to t something new: as many -/
theorem Rdy.many : ∀ t : Nat, (∀ u, u < t → ∃ k, Rdy n free L0 L (u + 1) k ∧ ¬ Rdy n free L0 L u k) → ∃ l : List Nat, l.length = t ∧ l.Nodup ∧ ∀ k ∈ l, Rdy n free L0 L t k
  | 0, _ => ⟨[], rfl, .nil, fun _ z => (nomatch z)⟩
  | t + 1, h => by
    obtain ⟨l, e, nd, all⟩ := Rdy.many t fun u hu => h u (Nat.lt_succ_of_lt hu)
    obtain ⟨k, h1, h2⟩ := h t (Nat.lt_succ_self t)
    refine ⟨k :: l, by rw [List.length_cons, e], List.nodup_cons.mpr ⟨fun z => h2 (all k z), nd⟩, fun j hj => ?_⟩
    rcases List.mem_cons.mp hj with z | z
    · rw [z]
      exact h1
    · exact (all j z).up
theorem Rdy.four (n4 : n ≤ 4) {u k : Nat} (h : Rdy n free L0 L u k) : Rdy n free L0 L 4 k := by
  rcases Classical.em (∀ t, t < 5 → ∃ k, Rdy n free L0 L (t + 1) k ∧ ¬ Rdy n free L0 L t k) with c | c
  · obtain ⟨l, e, nd, all⟩ := Rdy.many 5 c
    have := nodup_lt nd fun k hk => (all k hk).lt
    omega
  · obtain ⟨t, c⟩ := Classical.not_forall.mp c
    obtain ⟨t5, c⟩ := Classical.not_imp.mp c
    refine Rdy.mono (t := t) (Rdy.still (fun k hk => ?_) h) (by omega)
    rcases Classical.em (Rdy n free L0 L t k) with d | d
    · exact d
    · exact (c ⟨k, hk, d⟩).elim
/-- the level at which k is ready first, 0 if it never is -/
def Lev (n : Nat) (free : Nat → Prop) (L0 : List Nat) (L : List (List Nat)) (k d : Nat) : Prop := (d = 0 ∧ ¬ Rdy n free L0 L 4 k) ∨ (1 ≤ d ∧ d ≤ 4 ∧ Rdy n free L0 L d k ∧ ¬ Rdy n free L0 L (d - 1) k)
theorem Lev.one {k d e : Nat} (a : Lev n free L0 L k d) (b : Lev n free L0 L k e) : d = e := by
  rcases a with ⟨rfl, a⟩ | ⟨a1, a4, a2, a3⟩
  · rcases b with ⟨rfl, _⟩ | ⟨_, b4, b2, _⟩
    · rfl
    · exact (a (b2.mono b4)).elim
  · rcases b with ⟨rfl, b⟩ | ⟨b1, b4, b2, b3⟩
    · exact (b (a2.mono a4)).elim
    · rcases Nat.lt_trichotomy d e with c | c | c
      · exact (b3 (a2.mono (by omega))).elim
      · exact c
      · exact (a3 (b2.mono (by omega))).elim
theorem Lev.pos {k d : Nat} (a : Lev n free L0 L k d) : 0 < d ↔ Rdy n free L0 L 4 k := by
  rcases a with ⟨rfl, a⟩ | ⟨a1, a4, a2, _⟩
  · exact ⟨fun z => (nomatch z), fun z => (a z).elim⟩
  · exact ⟨fun _ => a2.mono a4, fun _ => a1⟩
/-- new at the level t + 1 -/
theorem Lev.new (n4 : n ≤ 4) {k t : Nat} (h : Rdy n free L0 L (t + 1) k) (nw : ¬ Rdy n free L0 L t k) : Lev n free L0 L k (t + 1) := by
  refine .inr ⟨by omega, ?_, h, nw⟩
  rcases Nat.lt_or_ge t 4 with c | c
  · omega
  · exact (nw ((Rdy.four n4 h).mono c)).elim
/-- what is new behind a level is named by what was new -/
theorem Rdy.next {t k : Nat} (h : Rdy n free L0 L (t + 2) k) (nw : ¬ Rdy n free L0 L (t + 1) k) : ∃ j, Rdy n free L0 L (t + 1) j ∧ ¬ Rdy n free L0 L t j ∧ k ∈ at_ L j := by
  obtain ⟨h1, h2, h3 | ⟨j, a, b⟩⟩ := h
  · exact (nw ⟨h1, h2, .inl h3⟩).elim
  · exact ⟨j, a, fun z => nw ⟨h1, h2, .inr ⟨j, z, b⟩⟩, b⟩
theorem Rdy.congr {f' : Nat → Prop} {M0 : List Nat} {M : List (List Nat)} (hf : ∀ k, k < n → free k → f' k) (h0 : ∀ k, k ∈ L0 → k ∈ M0) (hL : ∀ i k, k ∈ at_ L i → k ∈ at_ M i) : ∀ {t k : Nat}, Rdy n free L0 L t k → Rdy n f' M0 M t k
  | 0, _, h => h.elim
  | t + 1, k, h => ⟨h.1, hf k h.1 h.2.1, h.2.2.elim (fun z => .inl (h0 k z)) fun ⟨j, a, b⟩ => .inr ⟨j, Rdy.congr hf h0 hL a, hL j k b⟩⟩
end
/-! a program's links -/
def namedOf : Row → Option Nat
  | .load p => some p.toNat
  | .pass _ p _ => some p.toNat
  | _ => none
def linksL (P : Prog) : List (List Nat) := P.parts.map (List.filterMap namedOf)
def outR : Row → Bool
  | .out => true
  | _ => false
def wideL (P : Prog) (ds : List Nat) : List (List Nat) := P.parts.map fun rs => rs.filterMap namedOf ++ (if rs.any outR then ds else [])
def IsDoor (P : Prog) (k : Nat) : Prop := (k : Int) ∈ P.entries ∨ ∃ rs ∈ P.parts, ∃ r ∈ rs, ∃ n ns, r = Row.late n (k : Int) ns
theorem named_lt {P : Prog} (ok : P.Ok) {rs : List Row} (h : rs ∈ P.parts) {k : Nat} (hk : k ∈ rs.filterMap namedOf) : k < P.parts.length := by
  obtain ⟨r, hr, e⟩ := List.mem_filterMap.mp hk
  have o := ok.rows rs h r hr
  unfold Prog.c at o
  cases r with
  | load p =>
    have e : some p.toNat = some k := e
    injection e with e
    have := o.1
    have := o.2
    omega
  | pass n p q =>
    have e : some p.toNat = some k := e
    injection e with e
    have := o.2.1.1
    have := o.2.1.2
    omega
  | _ => exact nomatch e
theorem links_ok {P : Prog} (ok : P.Ok) : LkOk P.parts.length (linksL P) := by
  refine ⟨List.length_map .., fun l hl => ?_, fun l hl k hk => ?_⟩
  · obtain ⟨rs, hrs, rfl⟩ := List.mem_map.mp hl
    have h1 := List.length_filterMap_le namedOf rs
    have h2 := ok.five rs hrs
    omega
  · obtain ⟨rs, hrs, rfl⟩ := List.mem_map.mp hl
    exact named_lt ok hrs hk
theorem wide_ok {P : Prog} (ok : P.Ok) {ds : List Nat} (few : ds.length ≤ 25) (lt : ∀ k ∈ ds, k < P.parts.length) : LkOk P.parts.length (wideL P ds) := by
  refine ⟨List.length_map .., fun l hl => ?_, fun l hl k hk => ?_⟩
  · obtain ⟨rs, hrs, rfl⟩ := List.mem_map.mp hl
    have h1 := List.length_filterMap_le namedOf rs
    have h2 := ok.five rs hrs
    rw [List.length_append]
    split
    · omega
    · show _ + 0 ≤ 40
      omega
  · obtain ⟨rs, hrs, rfl⟩ := List.mem_map.mp hl
    rcases List.mem_append.mp hk with z | z
    · exact named_lt ok hrs z
    · split at z
      · exact lt k z
      · exact nomatch z
theorem wide_congr {P : Prog} {ds es : List Nat} (h : ∀ k, k ∈ ds → k ∈ es) (i k : Nat) (hk : k ∈ at_ (wideL P ds) i) : k ∈ at_ (wideL P es) i := by
  unfold at_ wideL at *
  rw [List.getD_eq_getElem?_getD, List.getElem?_map] at *
  cases e : P.parts[i]? with
  | none =>
    rw [e] at hk
    exact nomatch hk
  | some rs =>
    rw [e] at hk
    rw [Option.map_some, Option.getD_some] at *
    rcases List.mem_append.mp hk with z | z
    · exact List.mem_append_left _ z
    · refine List.mem_append_right _ ?_
      split at z
      · rename_i c
        rw [if_pos c]
        exact h k z
      · exact nomatch z
theorem door_lt {P : Prog} (ok : P.Ok) {k : Nat} (h : IsDoor P k) : k < P.parts.length := by
  rcases h with z | ⟨rs, hrs, r, hr, n, ns, rfl⟩
  · have := ok.entIn _ z
    unfold Prog.c at this
    omega
  · have := (ok.rows rs hrs _ hr).2.1
    unfold Prog.c at this
    omega
theorem late_d {r : Row} : goB r.d = true ↔ ∃ n p ns, r = .late n p ns ∧ p ≠ -1 := by
  cases r with
  | late n p ns =>
    show (true && !decide (p = -1)) = true ↔ _
    rw [Bool.true_and]
    constructor
    · intro h
      exact ⟨n, p, ns, rfl, by simpa using h⟩
    · rintro ⟨_, _, _, e, h⟩
      injection e with _ e _
      rw [← e] at h
      simpa using h
  | _ => exact ⟨fun z => (nomatch z), fun ⟨_, _, _, e, _⟩ => (nomatch e)⟩
theorem door_iff {P : Prog} (ok : P.Ok) {k : Int} : k ∈ doorsD P.d ↔ 0 ≤ k ∧ IsDoor P k.toNat := by
  have e1 : (itemsD (nthD P.d 2)).map valI = P.entries := by
    show (P.entries.map PyData.int).map valI = P.entries
    rw [List.map_map]
    exact List.map_id'' (fun _ => rfl) _
  have e2 : rowsOfD (nthD P.d 0) = P.parts.flatten.map Row.d := by
    show (P.parts.map rowsD).flatMap itemsD = _
    rw [List.flatMap_map, List.map_flatten, List.flatMap_def]
    rfl
  unfold doorsD
  rw [List.mem_append, e1, e2]
  constructor
  · rintro (h | h)
    · have z := ok.entIn k h
      exact ⟨z.1, .inl (by rw [Int.toNat_of_nonneg z.1]; exact h)⟩
    · obtain ⟨d, hd, rfl⟩ := List.mem_map.mp h
      obtain ⟨m, g⟩ := List.mem_filter.mp hd
      obtain ⟨r, hr, rfl⟩ := List.mem_map.mp m
      obtain ⟨rs, hrs, hr⟩ := List.mem_flatten.mp hr
      obtain ⟨n, p, ns, rfl, pn⟩ := late_d.mp g
      have z := (ok.rows rs hrs _ hr).2.1.1
      have p0 : 0 ≤ p := by omega
      refine ⟨p0, .inr ⟨rs, hrs, _, hr, n, ns, ?_⟩⟩
      show Row.late n p ns = Row.late n ((p.toNat : Nat) : Int) ns
      rw [Int.toNat_of_nonneg p0]
  · rintro ⟨k0, h | ⟨rs, hrs, r, hr, n, ns, rfl⟩⟩
    · rw [Int.toNat_of_nonneg k0] at h
      exact .inl h
    · rw [Int.toNat_of_nonneg k0] at hr
      refine .inr (List.mem_map.mpr ⟨(Row.late n k ns).d, List.mem_filter.mpr ⟨List.mem_map.mpr ⟨_, List.mem_flatten.mpr ⟨rs, hrs, hr⟩, rfl⟩, late_d.mpr ⟨n, k, ns, rfl, by omega⟩⟩, rfl⟩)
/-- the doors as numbers -/
theorem doors_nat {P : Prog} (ok : P.Ok) {ns : List Int} (h : ∀ k, k ∈ ns ↔ k ∈ doorsD P.d) : ns.map V.int = (ns.map Int.toNat).map nV ∧ ∀ j, j ∈ ns.map Int.toNat ↔ IsDoor P j := by
  have pos : ∀ k ∈ ns, 0 ≤ k := fun k hk => ((door_iff ok).mp ((h k).mp hk)).1
  refine ⟨?_, fun j => ⟨fun hj => ?_, fun hj => ?_⟩⟩
  · rw [List.map_map]
    refine List.map_congr_left fun k hk => ?_
    show V.int k = V.int ((k.toNat : Nat) : Int)
    rw [Int.toNat_of_nonneg (pos k hk)]
  · obtain ⟨k, hk, rfl⟩ := List.mem_map.mp hj
    exact ((door_iff ok).mp ((h k).mp hk)).2
  · exact List.mem_map.mpr ⟨(j : Int), (h _).mpr ((door_iff ok).mpr ⟨by omega, by rw [Int.toNat_natCast]; exact hj⟩), Int.toNat_natCast j⟩
theorem lay_row {c : Int} {r : Row} (h : r.ok c) : PyData.canLay0 r.d = true := by
  have w : ∀ s : Str, s ∈ wordsOf → PyData.canLay0 (.str s) = true := fun s hs => strOk_word hs
  have t : ∀ ds : List PyData, PyData.canLayAll0 ds = true → PyData.canLay0 (.tuple ds) = true := fun ds e => by simp only [PyData.canLay0]; exact e
  have n : ∀ ns : List Nm, (∀ p ∈ ns, nmOk c p) → PyData.canLay0 (needsD ns) = true := fun ns e => t _ (lay_nms e)
  have i : ∀ p : Int, PyData.canLay0 (.int p) = true := fun p => by simp only [PyData.canLay0]
  have b : ∀ p : Bool, PyData.canLay0 (.bool p) = true := fun p => by simp only [PyData.canLay0]
  have c1 : ∀ d ds, PyData.canLay0 d = true → PyData.canLayAll0 ds = true → PyData.canLayAll0 (d :: ds) = true := fun d ds e f => by simp only [PyData.canLayAll0, e, f, Bool.and_true]
  have c0 : PyData.canLayAll0 [] = true := by simp only [PyData.canLayAll0]
  cases r with
  | load p => exact t _ (c1 _ _ (w _ (by decide +kernel)) (c1 _ _ (i p) c0))
  | give s ns r => exact t _ (c1 _ _ (w _ (by decide +kernel)) (c1 _ _ (strOk_letter h.1) (c1 _ _ (n _ h.2.2) (c1 _ _ (b r) c0))))
  | pass s p o => exact t _ (c1 _ _ (w _ (by decide +kernel)) (c1 _ _ (strOk_letter h.1) (c1 _ _ (i p) (c1 _ _ (strOk_letter h.2.2) c0))))
  | show_ ns r => exact t _ (c1 _ _ (w _ (by decide +kernel)) (c1 _ _ (n _ h.2) (c1 _ _ (b r) c0)))
  | out => exact t _ (c1 _ _ (w _ (by decide +kernel)) c0)
  | late s p ns => exact t _ (c1 _ _ (w _ (by decide +kernel)) (c1 _ _ (strOk_letter h.1) (c1 _ _ (i p) (c1 _ _ (n _ h.2.2.2) c0))))
theorem depth_row (r : Row) : r.d.depth ≤ 4 := by
  have n : ∀ ns : List Nm, (needsD ns).depth ≤ 3 := fun ns => by
    have := depth_nms ns
    simp only [needsD, PyData.depth]
    omega
  cases r with
  | give s ns r => have := n ns; simp only [Row.d, PyData.depth, PyData.depthAll]; omega
  | show_ ns r => have := n ns; simp only [Row.d, PyData.depth, PyData.depthAll]; omega
  | late s p ns => have := n ns; simp only [Row.d, PyData.depth, PyData.depthAll]; omega
  | _ => simp only [Row.d, PyData.depth, PyData.depthAll]; omega
theorem lay_rows {c : Int} : ∀ {rs : List Row}, (∀ r ∈ rs, r.ok c) → PyData.canLayAll0 (rs.map Row.d) = true
  | [], _ => by simp only [List.map_nil, PyData.canLayAll0]
  | r :: rs, h => by
    simp only [List.map_cons, PyData.canLayAll0, lay_row (h r List.mem_cons_self), lay_rows (rs := rs) fun q hq => h q (List.mem_cons_of_mem _ hq), Bool.and_true]
theorem depth_rows : ∀ rs : List Row, PyData.depthAll (rs.map Row.d) ≤ 4
  | [] => by simp only [List.map_nil, PyData.depthAll]; omega
  | r :: rs => by
    have h1 := depth_row r
    have h2 := depth_rows rs
    simp only [List.map_cons, PyData.depthAll]
    omega
theorem shaped_rows {c : Int} {rs : List Row} (h : ∀ r ∈ rs, r.ok c) : SeqAt.shaped (rowsD rs) = true := by
  have := depth_rows rs
  unfold SeqAt.shaped rowsD
  rw [Bool.and_eq_true, decide_eq_true_eq]
  refine ⟨by simp only [PyData.canLay0]; exact lay_rows h, by simp only [PyData.depth]; omega⟩
theorem out_any (rs : List Row) : ((rs.map Row.d).any fun z => PyData.eqv z (.tuple [.str "out"])) = rs.any outR := by
  rw [List.any_map]
  congr 1
  funext r
  cases r <;> rfl
theorem noDict_needs (ns : List Nm) : noDict (needsD ns) = true := noDicts_nms ns
theorem noDict_row (r : Row) : noDict r.d = true := by
  cases r <;> simp only [Row.d, noDict, noDicts, noDict_needs, Bool.and_true]
theorem noDict_rows (rs : List Row) : noDict (rowsD rs) = true := by
  show noDicts (rs.map Row.d) = true
  induction rs with
  | nil => rfl
  | cons r rs ih => rw [List.map_cons, noDicts, ih, noDict_row]; rfl
/-- a part that may stand ready for a row of own -/
def Free (P : Prog) (own : Nat) (k : Nat) : Prop := k ≠ own ∧ ∃ ds : List Nat, (∀ j, j ∈ ds ↔ IsDoor P j) ∧ ¬ Reach (wideL P ds) k own
theorem free_iff {P : Prog} {own k : Nat} {ds : List Nat} (h : ∀ j, j ∈ ds ↔ IsDoor P j) : Free P own k ↔ k ≠ own ∧ ¬ Reach (wideL P ds) k own := by
  constructor
  · rintro ⟨a, es, he, r⟩
    exact ⟨a, fun z => r (z.congr (wide_congr fun j hj => (he j).mpr ((h j).mp hj)))⟩
  · rintro ⟨a, r⟩
    exact ⟨a, ds, h, r⟩
def rowsOfP (P : Prog) (i : Nat) : List Row := P.parts.getD i []
def startL (P : Prog) (own index : Nat) : List Nat := ((rowsOfP P own).take index).filterMap namedOf
abbrev RdyP (P : Prog) (own index : Nat) : Nat → Nat → Prop := Rdy P.parts.length (Free P own) (startL P own index) (linksL P)
abbrev LevP (P : Prog) (own index k d : Nat) : Prop := Lev P.parts.length (Free P own) (startL P own index) (linksL P) k d
/-- a way to the part from a row of own ahead of index -/
inductive Way (P : Prog) (own index : Nat) : Nat → List (Nat × Nat) → Prop
  | nil : Way P own index own []
  | snoc {i j k : Nat} {r : Row} {ps : List (Nat × Nat)} : Way P own index i ps → (rowsOfP P i)[j]? = some r → namedOf r = some k → (i = own → j < index) → RdyP P own index 4 k → Way P own index k (ps ++ [(i, j)])
def stD (q : Nat × Nat) : PyData := .tuple [.int (q.1 : Int), .int (q.2 : Int)]
def stsD (l : List (Nat × Nat)) : PyData := .list (l.map stD)
end Lb

set_option Elab.async false
set_option linter.all false
set_option maxRecDepth 100000
set_option maxHeartbeats 4000000
/-! lists of lists of numbers in a heap -/
namespace Lb
open PySem PySem.Spec PyProof.Rows L2
theorem flt_map {α β : Type} (p : α → Prop) (cl : ∀ a, Decidable (p a)) (f : α → β) : ∀ l : List α, l.filterMap (fun a => @ite _ (p a) (cl a) (some (f a)) none) = (l.filter fun a => @decide (p a) (cl a)).map f
  | [] => rfl
  | a :: l => by
    rw [List.filterMap_cons, List.filter_cons]
    by_cases c : p a
    · rw [if_pos c, if_pos (by simpa using c), List.map_cons, flt_map p cl f l]
    · rw [if_neg c, if_neg (by simpa using c)]
      exact flt_map p cl f l
theorem dec_nat {i j : Nat} : decide (V.int (i : Int) = nV j) = decide (i = j) := by
  rw [show nV j = V.int (j : Int) from rfl, dec_int, Bool.eq_iff_iff, beq_iff_eq, decide_eq_true_eq]
  omega
theorem room65 {k : Nat} {A : Around} (r : Room k A) : A.units + 65 < cLine := by have := r.un; omega
theorem shaped_out : SeqAt.shaped (.tuple [.str "out"]) = true := by
  have h : PyData.canLay0 (.str ("out" : Str)) = true := strOk_word (by decide +kernel)
  unfold SeqAt.shaped
  rw [Bool.and_eq_true, decide_eq_true_eq]
  refine ⟨by simp only [PyData.canLay0, PyData.canLayAll0] at h ⊢; rw [h]; rfl, by simp only [PyData.depth, PyData.depthAll]; omega⟩
/-- a list of lists of numbers, none of them there in H0 -/
def LksAt (H0 H : Hp) (v : V) (L : List (List Nat)) : Prop := ∃ (D : Addr) (as : List Addr), v = .ref D ∧ H0 D = none ∧ H D = some (.lst (as.map .ref)) ∧ as.length = L.length ∧ ∀ i a, as[i]? = some a → H0 a = none ∧ a ≠ D ∧ H a = some (.lst ((at_ L i).map nV))
theorem LksAt.sm {H0 H H' : Hp} {v : V} {L : List (List Nat)} (k : LksAt H0 H v L) (s : Same H H') : LksAt H0 H' v L := by
  obtain ⟨D, as, e, n, h, l, f⟩ := k
  exact ⟨D, as, e, n, s _ _ h, l, fun i a z => ⟨(f i a z).1, (f i a z).2.1, s _ _ (f i a z).2.2⟩⟩
theorem same_none {H H' : Hp} {a : Addr} (s : Same H H') (h : H' a = none) : H a = none := by
  cases e : H a with
  | none => rfl
  | some o => rw [s _ _ e] at h; exact nomatch h
theorem LksAt.old {H0 H1 H : Hp} {v : V} {L : List (List Nat)} (k : LksAt H1 H v L) (s : Same H0 H1) : LksAt H0 H v L := by
  obtain ⟨D, as, e, n, h, l, f⟩ := k
  exact ⟨D, as, e, same_none s n, h, l, fun i a z => ⟨same_none s (f i a z).1, (f i a z).2.1, (f i a z).2.2⟩⟩
/-- a comprehension of new lists of numbers -/
theorem lc_lks {J : It} {n : Nat} {G : Hp → Prop} {Y : Nat → Hp → V → Hp → Prop} (w : Walk J n G Y) {g : TG} {te : TE} {vs : List Nat} {σ : L2.St} {H0 H1 : Hp} {D : Addr} {Qd : Hp → Prop} (s01 : Same H0 H1) (nD : H1 D = none) (f : Nat → List Nat) (few : n < sizeLine)
    (hG : ∀ H', Same H1 H' → G H') (hs : ∀ i x H' H'' (F : V → Hp → Prop), i < n → Same H1 H' → (∃ acc, H' D = some (.lst acc)) → Y i H' x H'' → (∀ a H3, Same H' H3 → H0 a = none → a ≠ D → H3 a = some (.lst ((f i).map nV)) → F (.ref a) H3) →
      g x (wipe σ vs) H'' fun σ2 H2 => wipe σ2 vs = wipe σ vs ∧ te σ2 H2 F)
    (hd : ∀ H', Same H1 H' → LksAt H0 H' (.ref D) ((List.range n).map f) → Qd H') :
    ∃ W : Nat → Nat → Hp → Prop, (∃ m, W 0 m (upd H1 D (.lst []))) ∧ ∀ i m H, W i m H →
      (J.stop i H ∧ Qd H) ∨ (J.go i H ∧ ∃ Nx : Hp → Prop, (∀ H', Nx H' → ∃ m', m' < m ∧ W (i + 1) m' H') ∧ ∀ x H', J.yld i H x H' → g x (wipe σ vs) H' fun σ2 H2 => wipe σ2 vs = wipe σ vs ∧ tYes σ2 H2 fun b H3 =>
        if b = true then te σ2 H3 fun y H4 => ∃ acc, H4 D = some (.lst acc) ∧ acc.length < sizeLine ∧ Nx (upd H4 D (.lst (acc ++ [y]))) else Nx H3) := by
  refine lc_it w (fun i H' => Same H1 H' ∧ ∃ as : List Addr, H' D = some (.lst (as.map .ref)) ∧ as.length = i ∧ ∀ (j : Nat) (a : Addr), as[j]? = some a → H0 a = none ∧ a ≠ D ∧ H' a = some (.lst ((f j).map nV)))
    ⟨same_new nD, [], upd_same, rfl, fun j a z => nomatch z⟩ (fun i H' _ p => hG H' p.1) (fun i x H' H'' hi p hy => ?_) (fun H' p => ?_)
  · obtain ⟨s1, as, d1, l1, all⟩ := p
    refine hs i x H' H'' _ hi s1 ⟨_, d1⟩ hy (fun a H3 s3 n0 ne ha => ?_)
    · exact ⟨_, s3 _ _ d1, by rw [List.length_map]; omega, same_own (s1.trans s3) nD, as ++ [a], by rw [upd_same, List.map_append]; rfl, by rw [List.length_append, l1]; rfl, fun j b hb => by
        rcases Nat.lt_or_ge j as.length with c | c
        · rw [List.getElem?_append_left c] at hb
          obtain ⟨q1, q2, q3⟩ := all j b hb
          exact ⟨q1, q2, by rw [upd_ne q2]; exact s3 _ _ q3⟩
        · rw [List.getElem?_append_right c] at hb
          have e0 : j - as.length = 0 := by
            cases e : j - as.length with
            | zero => rfl
            | succ q => rw [e] at hb; exact nomatch hb
          rw [e0] at hb
          have e1 : j = i := by omega
          injection hb with hb
          subst hb
          exact ⟨n0, ne, by rw [upd_ne ne, e1]; exact ha⟩⟩
  · obtain ⟨s1, as, d1, l1, all⟩ := p
    refine hd H' s1 ⟨D, as, rfl, same_none s01 nD, d1, by rw [l1, List.length_map, List.length_range], fun i a e => ?_⟩
    obtain ⟨q1, q2, q3⟩ := all i a e
    have hi : i < n := by
      have := (List.getElem?_eq_some_iff.mp e).1
      omega
    refine ⟨q1, q2, ?_⟩
    have e2 : at_ ((List.range n).map f) i = f i := by
      unfold at_
      rw [List.getD_eq_getElem?_getD, List.getElem?_map, List.getElem?_range hi]
      rfl
    rw [e2]
    exact q3
end Lb

set_option Elab.async false
set_option linter.all false
set_option maxRecDepth 100000
set_option maxHeartbeats 4000000
/-! ways to parts that are ready, in a heap -/
namespace Lb
open PySem PySem.Spec PyProof.Rows L2
structure WayAt where
  k : Nat
  a : Addr
  ps : List (Nat × Nat)
def WayAt.kv (q : WayAt) : Key × V := (.inl (q.k : Int), .ref q.a)
abbrev keysW (ws : List WayAt) : List Nat := ws.map (·.k)
abbrev WL := List (Nat × List (Nat × Nat))
abbrev EL := List (List (Nat × Nat) × Nat × Nat)
def WayAt.dat (q : WayAt) : Nat × List (Nat × Nat) := (q.k, q.ps)
theorem keys_dat (ws : List WayAt) : (ws.map WayAt.dat).map (·.1) = keysW ws := by rw [List.map_map]; rfl
/-! what the search finds, as data -/
open Classical in
noncomputable def rowF (P : Prog) (own i : Nat) (qs : List (Nat × Nat)) (all : WL) (j : Nat) : WL :=
  match (rowsOfP P i)[j]?.bind namedOf with
  | some k => if Free P own k ∧ k ∉ all.map (·.1) then all ++ [(k, qs ++ [(i, j)])] else all
  | none => all
noncomputable def rowsF (P : Prog) (own i : Nat) (qs : List (Nat × Nat)) (all : WL) (n : Nat) : WL := (List.range n).foldl (rowF P own i qs) all
noncomputable def entF (P : Prog) (own : Nat) (all : WL) (e : List (Nat × Nat) × Nat × Nat) : WL := rowsF P own e.2.1 e.1 all e.2.2
noncomputable def entsF (P : Prog) (own : Nat) (all : WL) (es : EL) : WL := es.foldl (entF P own) all
noncomputable def levelF (P : Prog) (own index : Nat) : Nat → WL × EL
  | 0 => ([], [([], own, index)])
  | t + 1 => (entsF P own (levelF P own index t).1 (levelF P own index t).2, ((entsF P own (levelF P own index t).1 (levelF P own index t).2).drop (levelF P own index t).1.length).map fun q => (q.2, q.1, (rowsOfP P q.1).length))
noncomputable def resF (P : Prog) (own index : Nat) : WL := (levelF P own index 5).1
theorem rowsF_succ (P : Prog) (own i : Nat) (qs : List (Nat × Nat)) (all : WL) (n : Nat) : rowsF P own i qs all (n + 1) = rowF P own i qs (rowsF P own i qs all n) n := by
  unfold rowsF
  rw [List.range_succ, List.foldl_append]
  rfl
theorem rowF_none {P : Prog} {own i : Nat} {qs : List (Nat × Nat)} {all : WL} {j : Nat} (h : (rowsOfP P i)[j]?.bind namedOf = none) : rowF P own i qs all j = all := by
  unfold rowF
  rw [h]
theorem rowF_add {P : Prog} {own i : Nat} {qs : List (Nat × Nat)} {all : WL} {j k : Nat} (h : (rowsOfP P i)[j]?.bind namedOf = some k) (f : Free P own k) (n : k ∉ all.map (·.1)) : rowF P own i qs all j = all ++ [(k, qs ++ [(i, j)])] := by
  unfold rowF
  rw [h]
  exact if_pos ⟨f, n⟩
theorem rowF_skip {P : Prog} {own i : Nat} {qs : List (Nat × Nat)} {all : WL} {j k : Nat} (h : (rowsOfP P i)[j]?.bind namedOf = some k) (n : ¬ (Free P own k ∧ k ∉ all.map (·.1))) : rowF P own i qs all j = all := by
  unfold rowF
  rw [h]
  exact if_neg n
theorem rowsF_past {P : Prog} {own i : Nat} {qs : List (Nat × Nat)} {all : WL} {n : Nat} (h : (rowsOfP P i).length ≤ n) : ∀ m, rowsF P own i qs all (n + m) = rowsF P own i qs all n
  | 0 => rfl
  | m + 1 => by
    rw [← Nat.add_assoc, rowsF_succ, rowF_none, rowsF_past h m]
    rw [List.getElem?_eq_none (by omega)]
    rfl
theorem rowsF_min {P : Prog} {own i : Nat} {qs : List (Nat × Nat)} {all : WL} {n l : Nat} (h : (rowsOfP P i).length = l) : rowsF P own i qs all (min n l) = rowsF P own i qs all n := by
  rcases Nat.le_total n l with c | c
  · rw [Nat.min_eq_left c]
  · rw [Nat.min_eq_right c]
    have z := rowsF_past (own := own) (qs := qs) (all := all) (show (rowsOfP P i).length ≤ l by omega) (n - l)
    rw [show l + (n - l) = n by omega] at z
    exact z.symm
theorem entsF_succ {P : Prog} {own : Nat} {all : WL} {es : EL} {i : Nat} {e : List (Nat × Nat) × Nat × Nat} (h : es[i]? = some e) : entsF P own all (es.take (i + 1)) = rowsF P own e.2.1 e.1 (entsF P own all (es.take i)) e.2.2 := by
  unfold entsF
  rw [List.take_succ, h, Option.toList_some, List.foldl_append]
  rfl
theorem levelF_still {P : Prog} {own index t : Nat} (h : (levelF P own index t).2 = []) : ∀ u, (levelF P own index (t + u)).1 = (levelF P own index t).1 ∧ (levelF P own index (t + u)).2 = []
  | 0 => ⟨rfl, h⟩
  | u + 1 => by
    obtain ⟨a, b⟩ := levelF_still h u
    have e : entsF P own (levelF P own index (t + u)).1 (levelF P own index (t + u)).2 = (levelF P own index t).1 := by rw [b, a]; rfl
    refine ⟨e, ?_⟩
    show ((entsF P own (levelF P own index (t + u)).1 (levelF P own index (t + u)).2).drop (levelF P own index (t + u)).1.length).map _ = []
    rw [e, a, List.drop_length]
    rfl
structure WayOk (P : Prog) (own index : Nat) (st : List Addr) (H0 H : Hp) (q : WayAt) : Prop where
  new : H0 q.a = none
  rep : Rep st H (.ref q.a) (stsD q.ps)
  way : Way P own index q.k q.ps
  lev : LevP P own index q.k q.ps.length
structure WaysAt (P : Prog) (own index : Nat) (H0 H : Hp) (ws : List WayAt) : Prop where
  nd : (keysW ws).Nodup
  mem : ∀ k, k ∈ keysW ws ↔ RdyP P own index 4 k
  ok : ∀ q ∈ ws, WayOk P own index [] H0 H q
  dt : ws.map WayAt.dat = resF P own index
structure Ent where
  e : Addr
  a : Addr
  ps : List (Nat × Nat)
  part : Nat
  many : Nat
def Ent.dat (q : Ent) : List (Nat × Nat) × Nat × Nat := (q.ps, q.part, q.many)
structure EntOk (P : Prog) (own index t : Nat) (st : List Addr) (H : Hp) (q : Ent) : Prop where
  tup : H q.e = some (.tup [.ref q.a, nV q.part, nV q.many])
  rep : Rep st H (.ref q.a) (stsD q.ps)
  way : Way P own index q.part q.ps
  few : q.part = own → q.many ≤ index
  lt : q.part < P.parts.length
  len : q.ps.length = t
  rdy : t = 0 ∧ q.part = own ∧ q.many = index ∨ RdyP P own index t q.part
/-- k is named by one of the first rows of a part -/
def Names (P : Prog) (part many k : Nat) : Prop := ∃ j r, j < many ∧ (rowsOfP P part)[j]? = some r ∧ namedOf r = some k
theorem names_at {P : Prog} {part many k : Nat} (h : Names P part many k) : k ∈ at_ (linksL P) part := by
  obtain ⟨j, r, _, h, e⟩ := h
  have m := List.mem_of_getElem? h
  unfold rowsOfP at m
  unfold at_ linksL
  rw [List.getD_eq_getElem?_getD] at m ⊢
  rw [List.getElem?_map]
  cases z : P.parts[part]? with
  | none =>
    rw [z] at m
    exact nomatch m
  | some rs =>
    rw [z] at m
    exact List.mem_filterMap.mpr ⟨r, m, e⟩
theorem at_names {P : Prog} {part k : Nat} (h : k ∈ at_ (linksL P) part) : Names P part (rowsOfP P part).length k := by
  unfold at_ linksL at h
  unfold Names rowsOfP
  rw [List.getD_eq_getElem?_getD, List.getElem?_map] at h
  rw [List.getD_eq_getElem?_getD]
  cases z : P.parts[part]? with
  | none =>
    rw [z] at h
    exact nomatch h
  | some rs =>
    rw [z] at h
    obtain ⟨r, m, e⟩ := List.mem_filterMap.mp h
    obtain ⟨j, hj⟩ := List.mem_iff_getElem?.mp m
    exact ⟨j, r, (List.getElem?_eq_some_iff.mp hj).1, hj, e⟩
theorem names_start {P : Prog} {own index k : Nat} : Names P own index k ↔ k ∈ startL P own index := by
  unfold startL
  constructor
  · rintro ⟨j, r, hj, h, e⟩
    refine List.mem_filterMap.mpr ⟨r, List.mem_of_getElem? (i := j) ?_, e⟩
    rw [List.getElem?_take, if_pos hj]
    exact h
  · intro h
    obtain ⟨r, m, e⟩ := List.mem_filterMap.mp h
    obtain ⟨j, hj⟩ := List.mem_iff_getElem?.mp m
    rw [List.getElem?_take] at hj
    split at hj
    · rename_i c
      exact ⟨j, r, c, hj, e⟩
    · exact nomatch hj
theorem valW_none {ws : List WayAt} {k : Nat} (h : k ∉ keysW ws) : valV (ws.map WayAt.kv) (.inl (k : Int)) = none := by
  induction ws with
  | nil => rfl
  | cons q ws ih =>
    rw [List.map_cons, valV_neg, ih fun z => h (List.mem_cons_of_mem _ z)]
    intro e
    have e : Sum.inl (q.k : Int) = (Sum.inl (k : Int) : Key) := e
    injection e with e
    exact h (by rw [keysW, List.map_cons]; exact List.mem_cons.mpr (.inl (by omega)))
theorem valW_some {ws : List WayAt} {k : Nat} (nd : (keysW ws).Nodup) (h : k ∈ keysW ws) : ∃ q ∈ ws, q.k = k ∧ valV (ws.map WayAt.kv) (.inl (k : Int)) = some (.ref q.a) := by
  induction ws with
  | nil => exact nomatch h
  | cons q ws ih =>
    rw [keysW, List.map_cons] at nd h
    by_cases c : q.k = k
    · exact ⟨q, List.mem_cons_self, c, by rw [List.map_cons, valV_pos (by show (Sum.inl (q.k : Int) : Key) = _; rw [c])]; rfl⟩
    · obtain ⟨z, hz, e, ev⟩ := ih (List.nodup_cons.mp nd).2 ((List.mem_cons.mp h).resolve_left fun z => c z.symm)
      refine ⟨z, List.mem_cons_of_mem _ hz, e, ?_⟩
      rw [List.map_cons, valV_neg]
      · exact ev
      · intro e
        have e : Sum.inl (q.k : Int) = (Sum.inl (k : Int) : Key) := e
        injection e with e
        exact c (by omega)
/-- amid a level -/
structure Mid (P : Prog) (own index t : Nat) (H0 : Hp) (D5 Wd Lg : Addr) (es : List Ent) (ws : List WayAt) (H : Hp) (ns : List WayAt) (ls : List Ent) (C : Nat → Prop) (st : WL) : Prop where
  sm : Same H0 H
  d5 : H D5 = some (.dK ((ws ++ ns).map WayAt.kv))
  wd : H Wd = some (.lst (es.map fun q => V.ref q.e))
  lg : H Lg = some (.lst (ls.map fun q => V.ref q.e))
  nd : (keysW (ws ++ ns)).Nodup
  w : ∀ q ∈ ws ++ ns, WayOk P own index [Lg, D5] H0 H q
  nw : ∀ q ∈ ns, RdyP P own index (t + 1) q.k ∧ ¬ RdyP P own index t q.k
  en : ∀ q ∈ es, EntOk P own index t [Lg, D5] H q
  ln : ∀ q ∈ ls, EntOk P own index (t + 1) [Lg, D5] H q ∧ q.many = (rowsOfP P q.part).length
  lk : ls.map (·.part) = ns.map (·.k)
  cv : ∀ k, C k → Free P own k → k ∈ keysW (ws ++ ns)
  dt : (ws ++ ns).map WayAt.dat = st
  lt : ls.map Ent.dat = ns.map fun q => (q.ps, q.k, (rowsOfP P q.k).length)
theorem WayOk.mv {P : Prog} {own index : Nat} {st : List Addr} {H0 H H' : Hp} {q : WayAt} (o : WayOk P own index st H0 H q) (b : But st H H') : WayOk P own index st H0 H' q := ⟨o.new, o.rep.mv b, o.way, o.lev⟩
theorem EntOk.mv {P : Prog} {own index t : Nat} {st : List Addr} {H H' : Hp} {q : Ent} (o : EntOk P own index t st H q) (ns : q.e ∉ st) (b : But st H H') : EntOk P own index t st H' q := ⟨b _ _ ns o.tup, o.rep.mv b, o.way, o.few, o.lt, o.len, o.rdy⟩
theorem Mid.cover {P : Prog} {own index t : Nat} {H0 : Hp} {D5 Wd Lg : Addr} {es : List Ent} {ws : List WayAt} {H : Hp} {ns : List WayAt} {ls : List Ent} {C C' : Nat → Prop} {st st' : WL} (m : Mid P own index t H0 D5 Wd Lg es ws H ns ls C st) {H' : Hp} (s : Same H H')
    (h : ∀ k, C' k → Free P own k → C k ∨ k ∈ keysW (ws ++ ns)) (e : st = st' := by rfl) : Mid P own index t H0 D5 Wd Lg es ws H' ns ls C' st' :=
  ⟨m.sm.trans s, s _ _ m.d5, s _ _ m.wd, s _ _ m.lg, m.nd, fun q hq => (m.w q hq).mv (.of s), m.nw, fun q hq => ⟨s _ _ (m.en q hq).tup, (m.en q hq).rep.sm s, (m.en q hq).way, (m.en q hq).few, (m.en q hq).lt, (m.en q hq).len, (m.en q hq).rdy⟩,
    fun q hq => ⟨⟨s _ _ (m.ln q hq).1.tup, (m.ln q hq).1.rep.sm s, (m.ln q hq).1.way, (m.ln q hq).1.few, (m.ln q hq).1.lt, (m.ln q hq).1.len, (m.ln q hq).1.rdy⟩, (m.ln q hq).2⟩, m.lk, fun k hk hf => (h k hk hf).elim (fun z => m.cv k z hf) id, m.dt.trans e, m.lt⟩
def dW (ws : List WayAt) : HO := .dK (ws.map WayAt.kv)
def eL (es : List Ent) : HO := .lst (es.map fun q => V.ref q.e)
def mkW (q : Ent) (j k : Nat) (p : Addr) : WayAt := ⟨k, p, q.ps ++ [(q.part, j)]⟩
def mkE (P : Prog) (q : Ent) (j k : Nat) (p te : Addr) : Ent := ⟨te, p, q.ps ++ [(q.part, j)], k, (rowsOfP P k).length⟩
def tE (P : Prog) (k : Nat) (p : Addr) : HO := .tup [.ref p, nV k, nV (rowsOfP P k).length]
theorem Mid.add {P : Prog} (okP : P.Ok) {own index t : Nat} {H0 : Hp} {D5 Wd Lg : Addr} {es : List Ent} {ws : List WayAt} {H : Hp} {ns : List WayAt} {ls : List Ent} {C : Nat → Prop} {st : WL} (m : Mid P own index t H0 D5 Wd Lg es ws H ns ls C st)
    (hws : ∀ k, k ∈ keysW ws ↔ RdyP P own index t k) (n5 : H0 D5 = none) (nL : H0 Lg = none) (d5L : D5 ≠ Lg) (wdL : Wd ≠ Lg) {q : Ent} (hq : q ∈ es) {j k : Nat} {r : Row} (hj : j < q.many) (hr : (rowsOfP P q.part)[j]? = some r) (hk : namedOf r = some k) (fr : Free P own k) (nk : k ∉ keysW (ws ++ ns))
    {H' : Hp} (s : Same H H') {p te : Addr} (np : H p = none) (rp : Rep [Lg, D5] H' (.ref p) (stsD (q.ps ++ [(q.part, j)]))) (ne : H' te = none) :
    Mid P own index t H0 D5 Wd Lg es ws (upd (upd (upd H' D5 (dW (ws ++ (ns ++ [mkW q j k p])))) te (tE P k p)) Lg (eL (ls ++ [mkE P q j k p te])))
      (ns ++ [mkW q j k p]) (ls ++ [mkE P q j k p te]) (fun k' => C k' ∨ k' = k) (st ++ [(k, q.ps ++ [(q.part, j)])]) := by
  have eq := m.en q hq
  have kn : k < P.parts.length := ((links_ok okP).at q.part).2 k (names_at ⟨j, r, hj, hr, hk⟩)
  have r1 : RdyP P own index (t + 1) k := by
    refine ⟨kn, fr, ?_⟩
    rcases eq.rdy with ⟨e0, e1, e2⟩ | h
    · exact .inl (names_start.mp ⟨j, r, by omega, by rw [← e1]; exact hr, hk⟩)
    · exact .inr ⟨q.part, h, names_at ⟨j, r, hj, hr, hk⟩⟩
  have nt : ¬ RdyP P own index t k := fun z => nk (by
    rw [keysW, List.map_append]
    exact List.mem_append_left _ ((hws k).mpr z))
  have h5 := s _ _ m.d5
  have hW := s _ _ m.wd
  have hL := s _ _ m.lg
  have te5 : te ≠ D5 := ne_of_none h5 ne |>.symm
  have teL : te ≠ Lg := ne_of_none hL ne |>.symm
  have teW : te ≠ Wd := ne_of_none hW ne |>.symm
  have w5 : Wd ≠ D5 := fun e => by rw [e, h5] at hW; exact nomatch hW
  have bt : But [Lg, D5] H' (upd (upd (upd H' D5 (dW (ws ++ (ns ++ [mkW q j k p])))) te (tE P k p)) Lg (eL (ls ++ [mkE P q j k p te]))) := fun b o nb e => by
    rw [upd_ne fun z => nb (by rw [z]; exact List.mem_cons_self), upd_ne (ne_of_none e ne), upd_ne fun z => nb (by rw [z]; exact List.mem_cons_of_mem _ List.mem_cons_self)]
    exact e
  have tup_no : ∀ {b : Addr} {xs : List V}, H' b = some (.tup xs) → b ∉ [Lg, D5] := fun {b xs} e z => by
    rcases List.mem_cons.mp z with z | z
    · rw [z, hL] at e; exact nomatch e
    · rw [List.mem_singleton.mp z, h5] at e; exact nomatch e
  have k5 : (upd (upd (upd H' D5 (dW (ws ++ (ns ++ [mkW q j k p])))) te (tE P k p)) Lg (eL (ls ++ [mkE P q j k p te]))) D5 = some (dW (ws ++ (ns ++ [mkW q j k p]))) := by
    rw [upd_ne d5L, upd_ne te5.symm, upd_same]
  have kt : (upd (upd (upd H' D5 (dW (ws ++ (ns ++ [mkW q j k p])))) te (tE P k p)) Lg (eL (ls ++ [mkE P q j k p te]))) te = some (tE P k p) := by
    rw [upd_ne teL, upd_same]
  have kL : (upd (upd (upd H' D5 (dW (ws ++ (ns ++ [mkW q j k p])))) te (tE P k p)) Lg (eL (ls ++ [mkE P q j k p te]))) Lg = some (eL (ls ++ [mkE P q j k p te])) := upd_same
  have kS : Same H0 (upd (upd (upd H' D5 (dW (ws ++ (ns ++ [mkW q j k p])))) te (tE P k p)) Lg (eL (ls ++ [mkE P q j k p te]))) :=
    same_own (same_own (same_own (m.sm.trans s) n5) (same_none (m.sm.trans s) ne)) nL
  have kW : Wd ≠ Lg → (upd (upd (upd H' D5 (dW (ws ++ (ns ++ [mkW q j k p])))) te (tE P k p)) Lg (eL (ls ++ [mkE P q j k p te]))) Wd = some (.lst (es.map fun q => V.ref q.e)) := fun z => by
    rw [upd_ne z, upd_ne teW.symm, upd_ne w5]
    exact hW
  generalize (upd (upd (upd H' D5 (dW (ws ++ (ns ++ [mkW q j k p])))) te (tE P k p)) Lg (eL (ls ++ [mkE P q j k p te]))) = H3 at *
  have wy : Way P own index k (q.ps ++ [(q.part, j)]) := by
    exact .snoc eq.way hr hk (fun e => by have := eq.few e; omega) (Rdy.four okP.four r1)
  have ln' : (q.ps ++ [(q.part, j)]).length = t + 1 := by rw [List.length_append, eq.len]; rfl
  have app : keysW (ws ++ (ns ++ [mkW q j k p])) = keysW (ws ++ ns) ++ [k] := by rw [← List.append_assoc, keysW, List.map_append]; rfl
  refine ⟨kS, k5, kW wdL, kL, ?_, fun x hx => ?_, fun x hx => ?_, fun x hx => ?_, fun x hx => ?_, ?_, fun x hx hf => ?_, ?_, ?_⟩
  · rw [app]
    exact List.nodup_append.mpr ⟨m.nd, by simp, fun a ha b hb => by rw [List.mem_singleton.mp hb]; exact fun e => nk (by rw [← e]; exact ha)⟩
  · rw [← List.append_assoc] at hx
    rcases List.mem_append.mp hx with z | z
    · exact ((m.w x z).mv (.of s)).mv bt
    · rw [List.mem_singleton.mp z]
      exact ⟨same_none m.sm np, rp.mv bt, wy, by show LevP P own index k (q.ps ++ [(q.part, j)]).length; rw [ln']; exact Lev.new okP.four r1 nt⟩
  · rcases List.mem_append.mp hx with z | z
    · exact m.nw x z
    · rw [List.mem_singleton.mp z]
      exact ⟨r1, nt⟩
  · have o := m.en x hx
    have o2 : EntOk P own index t [Lg, D5] H' x := ⟨s _ _ o.tup, o.rep.sm s, o.way, o.few, o.lt, o.len, o.rdy⟩
    exact o2.mv (tup_no o2.tup) bt
  · rcases List.mem_append.mp hx with z | z
    · have o := (m.ln x z).1
      have o2 : EntOk P own index (t + 1) [Lg, D5] H' x := ⟨s _ _ o.tup, o.rep.sm s, o.way, o.few, o.lt, o.len, o.rdy⟩
      exact ⟨o2.mv (tup_no o2.tup) bt, (m.ln x z).2⟩
    · rw [List.mem_singleton.mp z]
      exact ⟨⟨kt, rp.mv bt, wy, fun e => absurd e fr.1, kn, ln', .inr r1⟩, rfl⟩
  · rw [List.map_append, List.map_append, m.lk]
    rfl
  · rw [app]
    rcases hx with z | z
    · exact List.mem_append_left _ (m.cv x z hf)
    · rw [z]
      exact List.mem_append_right _ (List.mem_singleton.mpr rfl)
  · rw [← List.append_assoc, List.map_append (l₁ := ws ++ ns), m.dt]
    rfl
  · rw [List.map_append, List.map_append, m.lt]
    rfl
/-- between two levels -/
structure Top (P : Prog) (own index t : Nat) (H0 : Hp) (D5 Wd : Addr) (es : List Ent) (ws : List WayAt) (H : Hp) : Prop where
  sm : Same H0 H
  d5 : H D5 = some (dW ws)
  wd : H Wd = some (eL es)
  nW : H0 Wd = none
  nd : (keysW ws).Nodup
  w : ∀ q ∈ ws, WayOk P own index [D5] H0 H q
  mem : ∀ k, k ∈ keysW ws ↔ RdyP P own index t k
  en : ∀ q ∈ es, EntOk P own index t [D5] H q
  cv : ∀ k, RdyP P own index (t + 1) k → ¬ RdyP P own index t k → ∃ q ∈ es, Names P q.part q.many k
  few : es.length ≤ 5
  tl : es ≠ [] → t ≤ ws.length
  tb : t ≤ ws.length + 1
  dt : ws.map WayAt.dat = (levelF P own index t).1
  et : es.map Ent.dat = (levelF P own index t).2
theorem Top.done {P : Prog} (n4 : P.parts.length ≤ 4) {own index t : Nat} {H0 H : Hp} {D5 Wd : Addr} {ws : List WayAt} (m : Top P own index t H0 D5 Wd [] ws H) : WaysAt P own index H0 H ws := by
  refine ⟨m.nd, fun k => ?_, fun q hq => ⟨(m.w q hq).new, (m.w q hq).rep.less (fun _ z => absurd z List.not_mem_nil), (m.w q hq).way, (m.w q hq).lev⟩, ?_⟩
  rw [m.mem]
  refine ⟨Rdy.four n4, Rdy.still fun j hj => ?_⟩
  rcases Classical.em (RdyP P own index t j) with c | c
  · exact c
  · obtain ⟨q, hq, _⟩ := m.cv j hj c
    exact nomatch hq
  have z := nodup_lt (n := P.parts.length) m.nd fun k hk => ((m.mem k).mp hk).lt
  rw [List.length_map] at z
  have tb := m.tb
  have y := (levelF_still m.et.symm (5 - t)).1
  rw [show t + (5 - t) = 5 by omega] at y
  rw [m.dt, ← y]
  rfl
theorem Top.mid {P : Prog} {own index t : Nat} {H0 H : Hp} {D5 Wd Lg : Addr} {es : List Ent} {ws : List WayAt} (m : Top P own index t H0 D5 Wd es ws H) (nL : H Lg = none) : Mid P own index t H0 D5 Wd Lg es ws (upd H Lg (.lst [])) [] [] (fun _ => False) (levelF P own index t).1 := by
  have s : Same H (upd H Lg (.lst [])) := same_new nL
  refine ⟨m.sm.trans s, by rw [List.append_nil]; exact s _ _ m.d5, s _ _ m.wd, upd_same, by rw [List.append_nil]; exact m.nd, fun q hq => ?_, fun _ z => (nomatch z), fun q hq => ?_, fun _ z => (nomatch z), rfl, fun _ z => z.elim, by rw [List.append_nil]; exact m.dt, rfl⟩
  · rw [List.append_nil] at hq
    have o := m.w q hq
    exact ⟨o.new, (o.rep.more nL).sm s, o.way, o.lev⟩
  · have o := m.en q hq
    exact ⟨s _ _ o.tup, (o.rep.more nL).sm s, o.way, o.few, o.lt, o.len, o.rdy⟩
theorem Mid.len {P : Prog} (n4 : P.parts.length ≤ 4) {own index t : Nat} {H0 H : Hp} {D5 Wd Lg : Addr} {es : List Ent} {ws : List WayAt} {ns : List WayAt} {ls : List Ent} {C : Nat → Prop} {st : WL} (m : Mid P own index t H0 D5 Wd Lg es ws H ns ls C st) (mem : ∀ k, k ∈ keysW ws ↔ RdyP P own index t k) : ws.length + ns.length ≤ 4 ∧ ls.length = ns.length := by
  have e := congrArg List.length m.lk
  rw [List.length_map, List.length_map] at e
  refine ⟨?_, e⟩
  have z := nodup_lt (n := P.parts.length) m.nd fun k hk => by
    rw [keysW, List.map_append] at hk
    rcases List.mem_append.mp hk with h | h
    · exact ((mem k).mp h).lt
    · obtain ⟨q, hq, rfl⟩ := List.mem_map.mp h
      exact (m.nw q hq).1.lt
  rw [keysW, List.length_map, List.length_append] at z
  omega
theorem Mid.next {P : Prog} (n4 : P.parts.length ≤ 4) {own index t : Nat} {H0 H : Hp} {D5 Wd Lg : Addr} {es : List Ent} {ws : List WayAt} {ns : List WayAt} {ls : List Ent} (m : Mid P own index t H0 D5 Wd Lg es ws H ns ls (fun k => ∃ q ∈ es, Names P q.part q.many k) (entsF P own (levelF P own index t).1 (levelF P own index t).2)) (wdt : ws.map WayAt.dat = (levelF P own index t).1) (nL : H0 Lg = none)
    (mem : ∀ k, k ∈ keysW ws ↔ RdyP P own index t k) (cv : ∀ k, RdyP P own index (t + 1) k → ¬ RdyP P own index t k → ∃ q ∈ es, Names P q.part q.many k) (tl : t ≤ ws.length) : Top P own index (t + 1) H0 D5 Lg ls (ws ++ ns) H := by
  have le := m.len n4 mem
  have mem' : ∀ k, k ∈ keysW (ws ++ ns) ↔ RdyP P own index (t + 1) k := fun k => by
    constructor
    · intro h
      rw [keysW, List.map_append] at h
      rcases List.mem_append.mp h with h | h
      · exact ((mem k).mp h).up
      · obtain ⟨q, hq, rfl⟩ := List.mem_map.mp h
        exact (m.nw q hq).1
    · intro h
      rcases Classical.em (RdyP P own index t k) with c | c
      · rw [keysW, List.map_append]
        exact List.mem_append_left _ ((mem k).mpr c)
      · exact m.cv k (cv k h c) h.fr
  have sub : ∀ a ∈ [D5], a ∈ [Lg, D5] := fun a h => List.mem_cons_of_mem _ h
  refine ⟨m.sm, m.d5, m.lg, nL, m.nd, fun q hq => ?_, mem', fun q hq => ?_, fun k h1 h2 => ?_, by omega, fun nl => ?_, by rw [List.length_append]; omega, m.dt, ?_⟩
  · have o := m.w q hq
    exact ⟨o.new, o.rep.less sub, o.way, o.lev⟩
  · have o := (m.ln q hq).1
    exact ⟨o.tup, o.rep.less sub, o.way, o.few, o.lt, o.len, o.rdy⟩
  · obtain ⟨j, a, b, c⟩ := Rdy.next h1 h2
    have hj := (mem' j).mpr a
    rw [keysW, List.map_append] at hj
    rcases List.mem_append.mp hj with h | h
    · exact (b ((mem j).mp h)).elim
    · rw [← m.lk] at h
      obtain ⟨q, hq, rfl⟩ := List.mem_map.mp h
      exact ⟨q, hq, by rw [(m.ln q hq).2]; exact at_names c⟩
  · have p : 0 < ls.length := List.length_pos_iff.mpr nl
    rw [List.length_append]
    omega
  · rw [m.lt]
    show _ = ((entsF P own (levelF P own index t).1 (levelF P own index t).2).drop (levelF P own index t).1.length).map _
    rw [← m.dt, ← wdt, List.map_append, List.drop_left, List.map_map]
    rfl
def topM (es : List Ent) (ws : List WayAt) : Nat := 2 * (4 - ws.length) + es.length.min 1
theorem Mid.falls {P : Prog} (n4 : P.parts.length ≤ 4) {own index t : Nat} {H0 H : Hp} {D5 Wd Lg : Addr} {es : List Ent} {ws : List WayAt} {ns : List WayAt} {ls : List Ent} {C : Nat → Prop} {st : WL} (m : Mid P own index t H0 D5 Wd Lg es ws H ns ls C st) (mem : ∀ k, k ∈ keysW ws ↔ RdyP P own index t k) (ne : es ≠ []) : topM ls (ws ++ ns) < topM es ws := by
  have le := m.len n4 mem
  have p : 0 < es.length := List.length_pos_iff.mpr ne
  unfold topM
  rw [List.length_append, le.2, show es.length.min 1 = 1 from Nat.min_eq_right p]
  have := Nat.min_le_left ns.length 1
  have := Nat.min_le_right ns.length 1
  show 2 * (4 - (ws.length + ns.length)) + min ns.length 1 < _
  omega
theorem Top.start {P : Prog} (okP : P.Ok) {own index : Nat} (lo : own < P.parts.length) {H0 H : Hp} {D5 Wd e0 a0 : Addr} (sm : Same H0 H) (d5 : H D5 = some (.dK [])) (wd : H Wd = some (.lst [.ref e0])) (nW : H0 Wd = none) (he : H e0 = some (.tup [.ref a0, nV own, nV index])) (ha : H a0 = some (.lst [])) (ne : a0 ≠ D5) : Top P own index 0 H0 D5 Wd [⟨e0, a0, [], own, index⟩] [] H := by
  refine ⟨sm, d5, wd, nW, .nil, fun _ z => (nomatch z), fun k => ⟨fun z => absurd z List.not_mem_nil, fun z => z.elim⟩, fun q hq => ?_, fun k h _ => ?_, by show 1 ≤ 5; omega, fun _ => Nat.le_refl _, Nat.zero_le _, rfl, rfl⟩
  · rw [List.mem_singleton.mp hq]
    exact ⟨he, .lst ha (fun z => ne (List.mem_singleton.mp z)) .nil, .nil, fun _ => Nat.le_refl _, lo, rfl, .inl ⟨rfl, rfl, rfl⟩⟩
  · rcases h.2.2 with h | ⟨j, z, _⟩
    · exact ⟨_, List.mem_singleton.mpr rfl, names_start.mpr h⟩
    · exact z.elim
theorem WaysAt.old {P : Prog} {own index : Nat} {H0 H1 H : Hp} {ws : List WayAt} (w : WaysAt P own index H1 H ws) (s : Same H0 H1) : WaysAt P own index H0 H ws := ⟨w.nd, w.mem, fun q hq => ⟨same_none s (w.ok q hq).new, (w.ok q hq).rep, (w.ok q hq).way, (w.ok q hq).lev⟩, w.dt⟩
/-- all but lists and dicts stands -/
def Keep (H H' : Hp) : Prop := ∀ b o, H b = some o → (∀ xs, o ≠ .lst xs) → (∀ kvs, o ≠ .dK kvs) → H' b = some o
theorem Keep.of {H H' : Hp} (s : Same H H') : Keep H H' := fun b o e _ _ => s b o e
theorem Keep.trans {H H1 H' : Hp} (a : Keep H H1) (c : Keep H1 H') : Keep H H' := fun b o e n1 n2 => c b o (a b o e n1 n2) n1 n2
theorem Keep.lst {H : Hp} {a : Addr} {xs : List V} {o : HO} (h : H a = some (.lst xs)) : Keep H (upd H a o) := fun b u e n1 _ => by
  rw [upd_ne]
  · exact e
  · intro z
    rw [z, h] at e
    injection e with e
    exact n1 xs e.symm
theorem Keep.dk {H : Hp} {a : Addr} {kvs : List (Key × V)} {o : HO} (h : H a = some (.dK kvs)) : Keep H (upd H a o) := fun b u e _ n2 => by
  rw [upd_ne]
  · exact e
  · intro z
    rw [z, h] at e
    injection e with e
    exact n2 kvs e.symm
theorem SqT.keep {K : PySem.W.Frag} {H H' : Hp} {a : Addr} {xs : List V} (k : Keep H H') (h : SqT K H a xs) : SqT K H' a xs := by
  rcases h with (h | ⟨o, h⟩) | h
  · exact .inl (.inl (k _ _ h (fun _ => nofun) (fun _ => nofun)))
  · exact .inl (.inr ⟨o, k _ _ h (fun _ => nofun) (fun _ => nofun)⟩)
  · exact .inr h
theorem valV_last {kvs : List (Key × V)} {k : Key} {v : V} (h : valV kvs k = none) : valV (kvs ++ [(k, v)]) k = some v := by
  induction kvs with
  | nil => exact valV_pos rfl
  | cons p kvs ih =>
    by_cases c : p.1 = k
    · rw [valV_pos c] at h
      exact nomatch h
    · rw [valV_neg c] at h
      rw [List.cons_append, valV_neg c, ih h]
theorem sorted_nats {ys : List Int} {ks : List Nat} (p : ys.Perm (ks.map fun (k : Nat) => (k : Int))) (s : ys.Pairwise (· ≤ ·)) (nd : ks.Nodup) : ∃ l : List Nat, ys.map V.int = l.map nV ∧ l.Pairwise (· < ·) ∧ ∀ k, k ∈ l ↔ k ∈ ks := by
  have mem : ∀ y, y ∈ ys ↔ ∃ k ∈ ks, (k : Int) = y := fun y => by rw [p.mem_iff, List.mem_map]
  have nd2 : ys.Nodup := p.nodup_iff.mpr (List.Pairwise.map _ (fun a b h e => h (by omega)) nd)
  have st : ys.Pairwise (· < ·) := (List.Pairwise.and s nd2).imp fun ⟨a, b⟩ => by
    have b : _ ≠ _ := b
    omega
  have nat : ∀ y ∈ ys, ((y.toNat : Nat) : Int) = y := fun y hy => by
    obtain ⟨k, _, e⟩ := (mem y).mp hy
    omega
  refine ⟨ys.map Int.toNat, ?_, ?_, fun k => ?_⟩
  · rw [List.map_map]
    exact List.map_congr_left fun y hy => (congrArg V.int (nat y hy)).symm
  · rw [List.pairwise_map]
    refine st.imp_of_mem fun ha hb h => ?_
    have := nat _ ha
    have := nat _ hb
    omega
  · rw [List.mem_map]
    constructor
    · rintro ⟨y, hy, rfl⟩
      obtain ⟨k, hk, e⟩ := (mem y).mp hy
      have : y.toNat = k := by omega
      rw [this]
      exact hk
    · intro hk
      exact ⟨(k : Int), (mem _).mpr ⟨k, hk, rfl⟩, Int.toNat_natCast k⟩
def namedZ (r : Row) : Int := match namedOf r with
  | some n => (n : Int)
  | none => -1
theorem namedZ_ge (r : Row) : decide (0 ≤ namedZ r) = (namedOf r).isSome := by
  unfold namedZ
  cases namedOf r with
  | none => rfl
  | some n => exact decide_eq_true (Int.natCast_nonneg n)
def lateN : Row → Option Nat
  | .late _ p _ => if 0 ≤ p then some p.toNat else none
  | _ => none
def doorsL (P : Prog) (i : Nat) : List Nat := P.entries.map Int.toNat ++ (P.parts.take i).flatMap (List.filterMap lateN)
theorem flat_len (f : Row → Option Nat) : ∀ {ps : List (List Row)}, (∀ rs ∈ ps, rs.length ≤ 5) → (ps.flatMap (List.filterMap f)).length ≤ 5 * ps.length
  | [], _ => Nat.le_refl _
  | rs :: ps, h => by
    rw [List.flatMap_cons, List.length_append, List.length_cons]
    have h1 := List.length_filterMap_le f rs
    have h2 := h rs List.mem_cons_self
    have h3 := flat_len f (ps := ps) fun q hq => h q (List.mem_cons_of_mem _ hq)
    omega
theorem doorsL_len {P : Prog} (ok : P.Ok) (i : Nat) : (doorsL P i).length ≤ 25 := by
  unfold doorsL
  rw [List.length_append, List.length_map]
  have h1 := flat_len lateN (ps := P.parts.take i) fun rs h => ok.five rs (List.mem_of_mem_take h)
  have h2 := ok.four
  have h3 := ok.ent3
  rw [List.length_take] at h1
  omega
theorem doorsL_iff {P : Prog} (ok : P.Ok) (j : Nat) : j ∈ doorsL P P.parts.length ↔ IsDoor P j := by
  unfold doorsL IsDoor
  rw [List.take_length, List.mem_append, List.mem_map, List.mem_flatMap]
  constructor
  · rintro (⟨e, he, rfl⟩ | ⟨rs, hrs, h⟩)
    · have := (ok.entIn e he).1
      exact .inl (by rw [Int.toNat_of_nonneg this]; exact he)
    · obtain ⟨r, hr, e⟩ := List.mem_filterMap.mp h
      cases r with
      | late n p ns =>
        have e : (if 0 ≤ p then some p.toNat else none) = some j := e
        split at e
        · rename_i c
          injection e with e
          exact .inr ⟨rs, hrs, _, hr, n, ns, by rw [← e, Int.toNat_of_nonneg c]⟩
        · exact nomatch e
      | _ => exact nomatch e
  · rintro (h | ⟨rs, hrs, r, hr, n, ns, rfl⟩)
    · exact .inl ⟨_, h, Int.toNat_natCast j⟩
    · refine .inr ⟨rs, hrs, List.mem_filterMap.mpr ⟨_, hr, ?_⟩⟩
      show (if (0 : Int) ≤ (j : Int) then some ((j : Int).toNat) else none) = some j
      rw [if_pos (Int.natCast_nonneg j), Int.toNat_natCast]
theorem lay_nats : ∀ l : List Nat, PyData.canLayAll0 (l.map nD) = true
  | [] => by simp only [List.map_nil, PyData.canLayAll0]
  | k :: l => by simp only [List.map_cons, PyData.canLayAll0, nD, PyData.canLay0, lay_nats l, Bool.and_true]
theorem depth_nats : ∀ l : List Nat, PyData.depthAll (l.map nD) ≤ 1
  | [] => by simp only [List.map_nil, PyData.depthAll]; omega
  | k :: l => by
    have := depth_nats l
    simp only [List.map_cons, PyData.depthAll, nD, PyData.depth]
    omega
theorem shaped_nats (l : List Nat) : SeqAt.shaped (nsD l) = true := by
  have := depth_nats l
  unfold SeqAt.shaped nsD
  rw [Bool.and_eq_true, decide_eq_true_eq]
  refine ⟨by simp only [PyData.canLay0]; exact lay_nats l, by simp only [PyData.depth]; omega⟩
theorem noDict_nats : ∀ l : List Nat, noDicts (l.map nD) = true
  | [] => rfl
  | k :: l => by rw [List.map_cons, noDicts, noDict_nats l]; rfl
theorem dp_nats {K : PySem.W.Frag} {H : Hp} {a : Addr} {l : List Nat} (h : H a = some (.lst (l.map nV))) : Dp K H (.ref a) (nsD l) := Rep.dp (st := []) _ _ (noDict_nats l) (.lst h List.not_mem_nil (nats_rep l))
theorem eqv_nats : ∀ l : List Nat, PyData.eqv (nsD l) (nsD []) = l.isEmpty
  | [] => by decide +kernel
  | k :: l => by simp only [nsD, List.map_cons, List.map_nil, PyData.eqv, PyData.eqvAll, List.isEmpty_cons]
theorem inV_int (x : Int) (l : List Int) : inV (V.int x) (l.map V.int) = decide (x ∈ l) := by
  unfold inV
  rw [List.any_map, Bool.eq_iff_iff, List.any_eq_true, decide_eq_true_eq]
  constructor
  · rintro ⟨y, hy, e⟩
    have e : (y == x) = true := e
    rw [beq_iff_eq] at e
    rw [← e]
    exact hy
  · intro hx
    exact ⟨x, hx, beq_iff_eq.mpr rfl⟩
theorem flat_ints (l : List Int) : (l.map V.int).all flatV = true := by
  rw [List.all_map]
  exact List.all_eq_true.mpr fun _ _ => rfl
/-- the lengths that are found up to a level, what the next one may be of -/
structure Lay1 (P : Prog) (own index t : Nat) (ds : List Nat) (xs : List Int) : Prop where
  len : ds.length = P.parts.length
  lev : ∀ k d, ds[k]? = some d → (RdyP P own index t k ∧ LevP P own index k d) ∨ (¬ RdyP P own index t k ∧ d = 0)
  cv : ∀ k, RdyP P own index (t + 1) k → ¬ RdyP P own index t k → (k : Int) ∈ xs
  sound : ∀ k : Nat, (k : Int) ∈ xs → k < P.parts.length → Free P own k → RdyP P own index (t + 1) k
  few : xs.length ≤ 400
theorem named_start {P : Prog} {own index k : Nat} : (k : Int) ∈ ((rowsOfP P own).take index).map namedZ ↔ k ∈ startL P own index := by
  unfold startL
  rw [List.mem_map, List.mem_filterMap]
  constructor
  · rintro ⟨r, hr, e⟩
    refine ⟨r, hr, ?_⟩
    unfold namedZ at e
    cases z : namedOf r with
    | none => rw [z] at e; exact absurd e (by show (-1 : Int) ≠ _; omega)
    | some n =>
      rw [z] at e
      have e : (n : Int) = k := e
      congr 1
      omega
  · rintro ⟨r, hr, e⟩
    refine ⟨r, hr, ?_⟩
    unfold namedZ
    rw [e]
theorem Lay1.start (P : Prog) (ok : P.Ok) (own index : Nat) : Lay1 P own index 0 (List.replicate P.parts.length 0) (((rowsOfP P own).take index).map namedZ) := by
  refine ⟨List.length_replicate, fun k d h => .inr ⟨fun z => z.elim, ?_⟩, fun k h _ => ?_, fun k h hk hf => ⟨hk, hf, .inl (named_start.mp h)⟩, ?_⟩
  · exact List.eq_of_mem_replicate (List.mem_of_getElem? h)
  · rcases h.2.2 with h | ⟨j, z, _⟩
    · exact named_start.mpr h
    · exact z.elim
  · rw [List.length_map, List.length_take]
    have : (rowsOfP P own).length ≤ 5 := by
      unfold rowsOfP
      rw [List.getD_eq_getElem?_getD]
      cases z : P.parts[own]? with
      | none => exact Nat.zero_le _
      | some rs => exact ok.five rs (List.mem_of_getElem? z)
    omega
theorem Lay1.fresh {P : Prog} (ok : P.Ok) {own index t : Nat} {ds : List Nat} {xs : List Int} (l : Lay1 P own index t ds xs) {k d : Nat} (hd : ds[k]? = some d) : ((k : Int) ∈ xs ∧ Free P own k ∧ d = 0) ↔ (RdyP P own index (t + 1) k ∧ ¬ RdyP P own index t k) := by
  have kn : k < P.parts.length := by
    have := (List.getElem?_eq_some_iff.mp hd).1
    have := l.len
    omega
  constructor
  · rintro ⟨h1, h2, rfl⟩
    refine ⟨l.sound k h1 kn h2, fun z => ?_⟩
    rcases l.lev k 0 hd with ⟨_, e⟩ | ⟨e, _⟩
    · exact absurd ((Lev.pos e).mpr (Rdy.four ok.four z)) (Nat.lt_irrefl 0)
    · exact e z
  · rintro ⟨h1, h2⟩
    refine ⟨l.cv k h1 h2, h1.fr, ?_⟩
    rcases l.lev k d hd with ⟨e, _⟩ | ⟨_, e⟩
    · exact (h2 e).elim
    · exact e
theorem Lay1.next {P : Prog} (ok : P.Ok) {own index t : Nat} {ds ds' fs xs' : List Nat} {xs : List Int} (l : Lay1 P own index t ds xs) (mem : ∀ k, k ∈ fs ↔ RdyP P own index (t + 1) k ∧ ¬ RdyP P own index t k) (len : ds'.length = ds.length)
    (h : ∀ k d, ds'[k]? = some d → (k ∈ fs ∧ d = t + 1) ∨ (k ∉ fs ∧ ds[k]? = some d)) (hx : ∀ k, k ∈ xs' ↔ ∃ j ∈ fs, k ∈ at_ (linksL P) j) (few : xs'.length ≤ 400) : Lay1 P own index (t + 1) ds' (xs'.map fun (k : Nat) => (k : Int)) := by
  have inX : ∀ k : Nat, (k : Int) ∈ xs'.map (fun (k : Nat) => (k : Int)) ↔ k ∈ xs' := fun k => by
    rw [List.mem_map]
    exact ⟨fun ⟨j, hj, e⟩ => by have e : (j : Int) = k := e; rw [show k = j by omega]; exact hj, fun hk => ⟨k, hk, rfl⟩⟩
  refine ⟨by rw [len, l.len], fun k d hd => ?_, fun k h1 h2 => ?_, fun k hk kn hf => ?_, by rw [List.length_map]; exact few⟩
  · rcases h k d hd with ⟨hk, rfl⟩ | ⟨hk, e⟩
    · have z := (mem k).mp hk
      exact .inl ⟨z.1, Lev.new ok.four z.1 z.2⟩
    · rcases l.lev k d e with ⟨r, lv⟩ | ⟨r, e0⟩
      · exact .inl ⟨r.up, lv⟩
      · exact .inr ⟨fun z => hk ((mem k).mpr ⟨z, r⟩), e0⟩
  · obtain ⟨j, a, b, c⟩ := Rdy.next h1 h2
    exact (inX k).mpr ((hx k).mpr ⟨j, (mem j).mpr ⟨a, b⟩, c⟩)
  · obtain ⟨j, hj, c⟩ := (hx k).mp ((inX k).mp hk)
    exact ⟨kn, hf, .inr ⟨j, ((mem j).mp hj).1, c⟩⟩
theorem Lay1.done {P : Prog} {own index : Nat} {ds : List Nat} {xs : List Int} (l : Lay1 P own index 4 ds xs) : ∀ k d, ds[k]? = some d → LevP P own index k d := fun k d h => by
  rcases l.lev k d h with ⟨_, e⟩ | ⟨a, b⟩
  · exact e
  · exact .inl ⟨b, a⟩
theorem ixN_n {n j : Nat} (hj : j < n) : ixN n (j : Int) = some j := by
  unfold ixN
  rw [if_pos (by omega), if_pos (by omega), Int.toNat_natCast]
theorem map_setN (ds : List Nat) (p v : Nat) {x : V} (e : x = nV v) : (ds.map nV).set p x = (ds.set p v).map nV := by
  rw [e, List.map_set]
def partPl (P : Prog) (a n : Nat) : List (Nat × Nat) := (List.range n).map fun k => (a, k)
def placesP (P : Prog) (i : Nat) : List (Nat × Nat) := (List.range i).flatMap fun a => partPl P a (rowsOfP P a).length
theorem placesP_succ (P : Prog) (i : Nat) : placesP P (i + 1) = placesP P i ++ partPl P i (rowsOfP P i).length := by
  unfold placesP
  rw [List.range_succ, List.flatMap_append, List.flatMap_singleton]
theorem partPl_succ (P : Prog) (a n : Nat) : partPl P a (n + 1) = partPl P a n ++ [(a, n)] := by
  unfold partPl
  rw [List.range_succ, List.map_append]
  rfl
theorem rowsOfP_len {P : Prog} (ok : P.Ok) (a : Nat) : (rowsOfP P a).length ≤ 5 := by
  unfold rowsOfP
  rw [List.getD_eq_getElem?_getD]
  cases z : P.parts[a]? with
  | none => exact Nat.zero_le _
  | some rs => exact ok.five rs (List.mem_of_getElem? z)
theorem placesP_len {P : Prog} (ok : P.Ok) : ∀ i : Nat, (placesP P i).length ≤ 5 * i
  | 0 => Nat.le_refl _
  | i + 1 => by
    have := placesP_len ok i
    have := rowsOfP_len ok i
    rw [placesP_succ, List.length_append]
    unfold partPl
    rw [List.length_map, List.length_range]
    omega
theorem placesP_mem {P : Prog} {i a k : Nat} : (a, k) ∈ placesP P i ↔ a < i ∧ k < (rowsOfP P a).length := by
  unfold placesP partPl
  rw [List.mem_flatMap]
  constructor
  · rintro ⟨b, hb, h⟩
    obtain ⟨j, hj, e⟩ := List.mem_map.mp h
    injection e with e1 e2
    subst e1 e2
    exact ⟨List.mem_range.mp hb, List.mem_range.mp hj⟩
  · rintro ⟨h1, h2⟩
    exact ⟨a, List.mem_range.mpr h1, List.mem_map.mpr ⟨k, List.mem_range.mpr h2, rfl⟩⟩
theorem int_rep' {S : List Addr} {H : Hp} {n m : Int} (e : n = m) : Rep S H (.int n) (.int m) := by
  subst e
  exact .int _
theorem ascN : ∀ {xs ys : List Nat}, xs.Pairwise (· < ·) → ys.Pairwise (· < ·) → (∀ k, k ∈ xs ↔ k ∈ ys) → xs = ys
  | [], [], _, _, _ => rfl
  | [], b :: ys, _, _, h => absurd ((h b).mpr List.mem_cons_self) List.not_mem_nil
  | a :: xs, [], _, _, h => absurd ((h a).mp List.mem_cons_self) List.not_mem_nil
  | a :: xs, b :: ys, px, py, h => by
    have hx := List.pairwise_cons.mp px
    have hy := List.pairwise_cons.mp py
    have e : a = b := by
      rcases List.mem_cons.mp ((h a).mp List.mem_cons_self) with e | m
      · exact e
      · rcases List.mem_cons.mp ((h b).mpr List.mem_cons_self) with e | m'
        · exact e.symm
        · have := hy.1 a m
          have := hx.1 b m'
          omega
    subst e
    rw [ascN hx.2 hy.2 fun k => ⟨fun m => ?_, fun m => ?_⟩]
    · rcases List.mem_cons.mp ((h k).mp (List.mem_cons_of_mem _ m)) with e | m'
      · have := hx.1 k m
        omega
      · exact m'
    · rcases List.mem_cons.mp ((h k).mpr (List.mem_cons_of_mem _ m)) with e | m'
      · have := hy.1 k m
        omega
      · exact m'
def dueL (ds : List Nat) : List Nat := (List.range ds.length).filter fun i => decide (0 < ds.getD i 0)
theorem due_eq {P : Prog} {own index : Nat} {ds l : List Nat} (len : ds.length = P.parts.length) (lev : ∀ k d, ds[k]? = some d → LevP P own index k d) (up : l.Pairwise (· < ·)) (mem : ∀ k, k ∈ l ↔ RdyP P own index 4 k) : l = dueL ds := by
  refine ascN up (List.Pairwise.filter _ List.pairwise_lt_range) fun k => ?_
  unfold dueL
  rw [mem, List.mem_filter, List.mem_range, decide_eq_true_eq, List.getD_eq_getElem?_getD]
  constructor
  · intro h
    have kl : k < ds.length := by rw [len]; exact h.lt
    refine ⟨kl, ?_⟩
    rw [List.getElem?_eq_getElem kl]
    exact (lev k _ (List.getElem?_eq_getElem kl)).pos.mpr h
  · rintro ⟨kl, h⟩
    rw [List.getElem?_eq_getElem kl] at h
    exact (lev k _ (List.getElem?_eq_getElem kl)).pos.mp h
theorem due_map (ds : List Nat) : (List.range ds.length).filterMap (fun i => if 0 < ds.getD i 0 then some (nV i) else none) = (dueL ds).map nV := flt_map (fun i => 0 < ds.getD i 0) (fun _ => inferInstance) nV _
theorem due_len (ds : List Nat) : (dueL ds).length ≤ ds.length := by
  have z := List.length_filter_le (fun i => decide (0 < ds.getD i 0)) (List.range ds.length)
  rwa [List.length_range] at z
theorem place_ok {P : Prog} {a k : Nat} (h1 : a < P.parts.length) (h2 : k < (rowsOfP P a).length) : placeB P.d (.tuple [nD a, nD k]) = true := by
  have e : itemsD (partD P.d a) = (rowsOfP P a).map Row.d := by
    unfold partD rowsOfP
    show itemsD (nthD (.tuple (P.parts.map rowsD)) a) = _
    unfold nthD itemsD
    show itemsD ((P.parts.map rowsD).getD a .none) = _
    rw [List.getD_eq_getElem?_getD, List.getD_eq_getElem?_getD, List.getElem?_map, List.getElem?_eq_getElem h1]
    rfl
  unfold placeB
  rw [Bool.and_eq_true, Bool.and_eq_true]
  refine ⟨rfl, numB_iff.mpr ⟨a, rfl, by omega, ?_⟩, numB_iff.mpr ⟨k, rfl, by omega, ?_⟩⟩
  · show (a : Int) < ((P.parts.map rowsD).length : Int)
    rw [List.length_map]
    omega
  · show (k : Int) < ((itemsD (partD P.d ((a : Int)).toNat)).length : Int)
    rw [Int.toNat_natCast, e, List.length_map]
    omega
end Lb

set_option Elab.async false
set_option linter.all false
set_option maxRecDepth 100000
set_option maxHeartbeats 4000000
/-! enumerate over a list from a number on, the number given by name -/
namespace Lb
open PySem PySem.Spec PyProof.Rows L2
section
variable {M : Model} {A : Around} {E : Value → Shared → Prop} {s : Shared} {env : Env}
/-- a built-in class called with values and keywords -/
theorem type_kw {at_ : Pos} {T : String} {vs : List (Bool × Sem Value)} {kws : List (Option Str × Sem Value)} {F : Value → Shared → Prop} (np : vs.any (·.1) = false) (nk : kws.any (·.1.isNone) = false)
    (go : wpAny M A (evalArgs (.type T) true vs kws) (fun a now => wpAny M A (call (.type T) ([] ++ a.pos) a.kw) F E now) E s) : wpAny M A (callWith at_ (.type T) [] vs kws) F E s := by
  unfold callWith
  refine wpAny_bind (wpAny_holding ?_)
  refine wpAny_mono go (fun a now q => ?_) fun _ _ z => z
  refine wpAny_bind (wpAny_standAt ?_)
  simp only [np, nk, Bool.or_false]
  refine wpAny_bind (wpAny_pure (wpAny_bind ?_))
  exact wpAny_mono q (fun r then_ hr => wpAny_bind (wpAny_holding (wpAny_point (wpAny_pure hr)))) fun _ _ z => z
theorem type_kw1 {at_ : Pos} {T : String} {e : Expr} {kws : List Keyword} {F : Value → Shared → Prop}
    (go : wpAny M A (spliced (backTo at_ (starEach [e] env))) (fun vs now => wpAny M A (evalAll ((backToKw at_ (keywordEach kws env)).map (·.2))) (fun ws now2 => wpAny M A (call (.type T) vs (((backToKw at_ (keywordEach kws env)).filterMap (·.1)).zip ws)) F E now2) E now) E s)
    (he : backTo at_ (starEach [e] env) = [(false, eval e env)]) (all : (backToKw at_ (keywordEach kws env)).all (·.1.isSome) = true) (nk : (backToKw at_ (keywordEach kws env)).any (·.1.isNone) = false) :
    wpAny M A (callWith at_ (.type T) [] (backTo at_ (starEach [e] env)) (backToKw at_ (keywordEach kws env))) F E s := by
  rw [he] at go ⊢
  exact type_kw rfl nk (PyProof.Rows.evalArgs_kwB all go)
end
/-- the list at a as it stands at each turn, each item in a new pair behind its number from k on -/
def IteK (K : PySem.W.Frag) (a : Addr) (k : Nat) : It :=
  ⟨fun i H => ∃ (xs : List V) (x : V), SqL K H a xs ∧ xs[i]? = some x, fun i H v H' => ∃ T x, v = .ref T ∧ H T = none ∧ H' = upd H T (.tup [.int ((k + i : Nat) : Int), x]) ∧ ∀ xs, SqL K H a xs → xs[i]? = some x,
    fun i H => ∃ xs : List V, SqL K H a xs ∧ xs.length ≤ i⟩
theorem turn_enumK {P : Program} {w : World} {K : PySem.W.Frag} {elts : List Expr} {kk : Nat} {tpos : Pos} (a e it : Addr) (k : Nat) :
    Turn P w K (.Tuple elts kk tpos) (IteK K a k) [e, it] e (fun i h => (∃ old, IsEnum h e it ((k + i : Nat) : Int) old) ∧ h.IsListIter it a i ∧ e ≠ it) where
  mem := List.mem_cons_self
  obj := fun i h st b hb => by
    obtain ⟨⟨old, he⟩, ⟨o, ho, hc, hd⟩, _⟩ := st
    rcases List.mem_cons.mp hb with z | z
    · rw [z]
      exact ⟨_, he, fun v q => nomatch q⟩
    · rw [List.mem_singleton.mp z]
      exact ⟨o, ho, fun v q => by rw [hd] at q; cases q⟩
  keep := fun i h h' st k => by
    obtain ⟨⟨old, he⟩, hi, ne⟩ := st
    exact ⟨⟨old, k e List.mem_cons_self _ he⟩, hi.at fun o q => k it (List.mem_cons_of_mem _ List.mem_cons_self) o q, ne⟩
  item := by
    intro X hP hw hK hc i pins s σ H E I hf st hg
    subst hP hw hK
    obtain ⟨⟨old, he⟩, hit, hne⟩ := st
    obtain ⟨xs, x, hq, hx⟩ := hg
    obtain ⟨its, rv, p, hz⟩ := I.list hq
    obtain ⟨u, hu, ru⟩ := rv.get hx
    have pt : s.heap.IsList a its.toArray := p.isList
    have hel : e < s.heap.objs.size := Heap.lt_size he
    have hil : it < s.heap.objs.size := by
      obtain ⟨_, q, _⟩ := hit
      exact Heap.lt_size q
    have hai : a ≠ it := fun z => by
      obtain ⟨o1, q1, c1, _⟩ := hit
      obtain ⟨o2, q2, c2, _⟩ := pt
      rw [z, q1] at q2
      obtain rfl := Option.some.inj q2
      rw [c1] at c2
      exact absurd c2 (by decide)
    have hae : a ≠ e := fun z => by
      obtain ⟨o2, q2, c2, _⟩ := pt
      rw [z, he] at q2
      obtain rfl := Option.some.inj q2
      exact absurd (show Value.type "enumerate" = Value.type "list" from c2) (by decide)
    have D : Draws X.prog X.w X.A.in1 it [it, a] its.toArray.size (fun i v => its.toArray[i]? = some v) (fun i h => h.IsListIter it a i ∧ h.IsList a its.toArray) := Draws.list (show X.A.in1.handled = none from I.ok.hd hc) it a hai its.toArray
    have ilt : i < its.toArray.size := by
      have z := (List.getElem?_eq_some_iff.mp hu).1
      simpa using z
    refine wpAny_pyNext_enum_itemC D he ⟨hit, pt⟩ ilt hne (fun z => ?_) fun y h' tk hy ho st' hT hsz hk => ?_
    · rcases List.mem_cons.mp z with z | z
      · exact hne z
      · exact hae (List.mem_singleton.mp z).symm
    have hyu : y = u := by
      have hy2 : its.toArray[i]? = some y := hy
      rw [List.getElem?_toArray, hu] at hy2
      exact (Option.some.inj hy2).symm
    subst hyu
    refine ⟨_, rfl, wpAny_letOwnedTupleGo_enum (s := { s with heap := h', toks := tk + 1 }) ho fun h'' he' sb => ?_⟩
    have hT2 : h''.get? s.heap.objs.size = some { cls := .type "tuple", data := .seq #[.int ((k + i : Nat) : Int) tk, y] } := (sb.2 _ (Nat.ne_of_gt hel)).trans hT
    have new : ObjOk X.prog X.w (upd H s.heap.objs.size (.tup [.int ((k + i : Nat) : Int), x])) h'' s.heap.objs.size (.tup [.int ((k + i : Nat) : Int), x]) :=
      ⟨by show 2 ≤ sizeLine; decide, [.int ((k + i : Nat) : Int) tk, y], .cons ⟨_, rfl⟩ (.cons ru .nil), ⟨_, hT2, rfl, _, rfl⟩⟩
    have I1 : Inv X pins σ (upd H s.heap.objs.size (.tup [.int ((k + i : Nat) : Int), x])) { s with heap := h'', toks := tk + 1 } :=
      I.turnedNew (ch := [e, it]) (fun b ob hb q => (sb.2 b (fun z => hb (by simp [z]))).trans (hk b ob (fun z => hb (by simp [z])) (fun z => hb (by simp [z])) q)) hf (Nat.le_refl _) new
    refine ⟨.ref s.heap.objs.size, _, I1, rfl, ⟨_, x, rfl, I.hok.fresh (Nat.le_refl _), rfl, fun ys hys => by rw [I.list_inj hys hq]; exact hx⟩, ⟨⟨y, ?_⟩, st'.1.at fun o q => (sb.2 it (Ne.symm hne)).trans q, hne⟩, fun b hb => ?_⟩
    · have e1 : ((k + (i + 1) : Nat) : Int) = ((k + i : Nat) : Int) + 1 := by omega
      rw [e1]
      exact he'
    · have hb' : b < s.heap.objs.size := by
        rcases List.mem_cons.mp hb with z | z
        · rw [z]
          exact hel
        · rw [List.mem_singleton.mp z]
          exact hil
      rw [upd_ne (Nat.ne_of_lt hb')]
      exact (hf b hb).1
  done := by
    intro X hP hw hK hc i pins s σ H E I hf st hg
    subst hP hw hK
    obtain ⟨⟨old, he⟩, hit, hne⟩ := st
    obtain ⟨xs, hq, hx⟩ := hg
    obtain ⟨its, rv, p, hz⟩ := I.list hq
    have pt : s.heap.IsList a its.toArray := p.isList
    have none_ : its.toArray[i]? = none := by
      have hl := rv.length
      rw [List.getElem?_toArray]
      exact List.getElem?_eq_none (by omega)
    obtain ⟨f0, f1, f2, f3, f4, f5⟩ := hf it (List.mem_cons_of_mem _ List.mem_cons_self)
    have ty : s.TypeIs (.ref e) "enumerate" := ⟨_, he, rfl⟩
    unfold pyNext
    refine wpAny_bind (wpAny_attempt (wpAny_callSpecial?_slot (name := Str.ofString "__next__") ty F.slot_enumerate_next
      (wpAny_call_entry F.slot_enumerate_next ty F.entry_enumerate_next ?_ (F.args_enumerate_next_1 _))))
    show wpAny _ _ (field (.ref e) 2 >>= fun _ => _) _ _ _
    refine wpAny_bind (wpAny_field he rfl (x := .ref it) rfl ?_)
    refine wpAny_bind (wpAny_nextOf_list_end (show X.A.in1.handled = none from I.ok.hd hc) hit pt none_ fun h' x eb hx' => ?_)
    obtain ⟨o, ho, hcl⟩ := hx'
    refine wpAny_bind (wpAny_isInstance (T := "StopIteration") (b := true) ⟨o, ho, hcl⟩ isSubtype_stop ?_)
    exact wpAny_pure ⟨rfl, I.turned (t' := s.toks) (fun b o hb q => eb b o hb q) f0 f1 f3 f4 f5⟩
  self := fun A i s Q E st h => by
    obtain ⟨⟨_, he⟩, _⟩ := st
    exact wpAny_pyIter_enum he h
def iEnumK (K : PySem.W.Frag) (ta tk : TA) : TI := fun σ H R => ta σ H fun vs H1 => tk σ H1 fun zs H2 => ∃ (a : Addr) (xs : List V) (k : Nat), vs = [.ref a] ∧ zs = [.int (k : Nat)] ∧ k < 1000 ∧ SqL K H2 a xs ∧ R (IteK K a k) H2
theorem pi_enumK {X : Cx} {e : Expr} {kws : List Keyword} {ta tk : TA} {p pos tpos : Pos} {elts : List Expr} {kk : Nat} (hg : Gl X "enumerate") (hm : X.mg "enumerate" = none) (ha : PA X [e] ta) (hk : PK X kws tk)
    (he : backTo pos (starEach [e] X.env) = [(false, eval e X.env)] := by rfl)
    (hall : (backToKw pos (keywordEach kws X.env)).all (·.1.isSome) = true := by rfl) (hnone : (backToKw pos (keywordEach kws X.env)).any (·.1.isNone) = false := by rfl) (hks : (backToKw pos (keywordEach kws X.env)).filterMap (·.1) = [Str.ofString "start"] := by rfl) :
    PI X (.Tuple elts kk tpos) (.Call (.Name "enumerate" p) [e] kws pos) (iEnumK X.K ta tk) := by
  refine ⟨fun pins s σ H R I h => ?_⟩
  refine wpAny_Call_Name_kw (ld_blt I hg hm boot_enumerate ?_)
  refine type_kw1 (thn (ha.run pos pins s σ H _ I h) fun us s1 ⟨vs, H1, I1, r1, q1⟩ => thn (hk.run pos pins s1 σ H1 _ I1 q1) fun ws s2 ⟨zs, H2, I2, r2, q2⟩ => ?_) he hall hnone
  rw [hks]
  obtain ⟨a, xs, k, ex, ez, k1, hq, q⟩ := q2
  subst ex ez
  cases r1 with
  | cons r rr =>
    cases rr
    cases r
    cases r2 with
    | cons rz rrz =>
      cases rrz
      obtain ⟨t, rfl⟩ := rz
      obtain ⟨its, rv, pt, hz⟩ := I2.list hq
      refine enum_begins_start (begins_list a its.toArray) (show s2.heap.IsList a its.toArray from pt.isList) (by omega) (by omega) fun h' he hit hsz hk => wpAny_pyIter_enum he ?_
      have I3 : Inv X pins σ H2 { s2 with heap := h' } := I2.kept (t' := s2.toks) hk
      refine ⟨s2.heap.objs.size + 1, [s2.heap.objs.size + 1, s2.heap.objs.size], _, _, H2, rfl, I3, turn_enumK a (s2.heap.objs.size + 1) s2.heap.objs.size k, ⟨⟨.none, he⟩, ⟨_, hit, rfl, rfl⟩, Nat.succ_ne_self _⟩, fun b hb => ?_, q⟩
      have le : s2.heap.objs.size ≤ b := by
        rcases List.mem_cons.mp hb with z | z
        · rw [z]
          exact Nat.le_add_right _ _
        · rw [List.mem_singleton.mp z]
          exact Nat.le_refl _
      exact I2.fpOk le (I2.hok.fresh le)
theorem walk_enumK {K : PySem.W.Frag} {a : Addr} {xs : List V} {k : Nat} : Walk (IteK K a k) xs.length (fun H => SqL K H a xs) (YPair (fun i => some (.int ((k + i : Nat) : Int))) (fun i => xs[i]?)) := by
  refine ⟨fun i _ hi q => ⟨xs, xs[i], q, List.getElem?_eq_getElem hi⟩, fun _ q => ⟨xs, q, Nat.le_refl _⟩, fun i H v H' _ q y => ?_⟩
  obtain ⟨T, x, h1, h2, h3, h4⟩ := y
  exact ⟨T, .int ((k + i : Nat) : Int), x, h1, h2, h3, rfl, h4 xs q⟩
end Lb

set_option Elab.async false
set_option linter.all false
set_option maxRecDepth 100000
set_option maxHeartbeats 4000000
/-! l.count(x), over data -/
namespace Lb
open PySem PySem.Spec PyProof.Rows L2
def rCntD (K : PySem.W.Frag) : V → List V → Hp → VK → Prop := fun x xs H Q => ∃ (p : Addr) (y : V) (ys : List V) (d : PyData) (ds : List PyData), x = .ref p ∧ xs = [y] ∧ Dp K H y d ∧ SqL K H p ys ∧ DpAll K H ys ds ∧ d.plain = true ∧ PyData.plainAll ds = true ∧ d.depth ≤ 50 ∧ Q (.int (ds.countP fun z => PyData.eqv z d : Nat)) H
theorem mt_cntD {X : Cx} (hu : X.A.units + 64 < cLine) : MtR X "list.count" (rCntD X.K) := by
  intro pins s σ H x xs v us Q I rx rxs h
  obtain ⟨p, y, ys, d, ds, rfl, rfl, dy, sq, dall, pd, pds, dep, q⟩ := h
  cases rx
  obtain ⟨u, rfl, ru⟩ := rxs.one
  obtain ⟨its, rv, at_, few⟩ := I.list sq
  obtain ⟨as, r1⟩ := Dp.reads I d y u dy ru
  obtain ⟨bs, r2⟩ := Dp.readsAll I ds _ its dall rv
  refine SeqAt.count_list_data (vs := its.toArray) at_.isList (by simpa using r2) r1 pds pd ?_ ⟨.int (ds.countP fun z => PyData.eqv z d : Nat), H, I.tok _, ⟨_, rfl⟩, q⟩
  have := Nat.min_le_right (PyData.depthAll ds) d.depth
  omega
end Lb

set_option Elab.async false
set_option linter.all false
set_option maxRecDepth 100000
set_option maxHeartbeats 4000000
/-! texts read back: what each function gives, and that it undoes what is written -/
namespace Lb
open PySem PySem.Spec PyProof.Rows L2 TL
def digR (c : Nat) : Option Int := if 48 ≤ c ∧ c ≤ 57 then some ((c : Int) - 48) else none
def numR (t : Str) : Option Int := match tl t with
  | [c] => digR c
  | _ => none
def needR (w : Str) : Option Nm := match numR (Txt.partition w ".").1 with
  | some k => if (Txt.partition w ".").2.2 ∈ letters then some (k, (Txt.partition w ".").2.2) else none
  | none => none
def allO {α : Type} : List (Option α) → Option (List α)
  | [] => some []
  | none :: _ => none
  | some x :: l => (allO l).map (x :: ·)
def needsR (t : Str) (most : Nat) : Option (List Nm) := if t = "-" then some [] else match allO ((Txt.split t ",").map needR) with
  | some ns => if ns.length ≤ most then some ns else none
  | none => none
def plainR (ws : List Str) (b : Bool) : Option Row := match ws with
  | [a, t] => if a = "show" then (needsR t 2).map fun ns => .show_ ns b else none
  | [a, n, t] => if a = "give" ∧ n ∈ letters then (needsR t 1).map fun ns => .give n ns b else none
  | _ => none
def riskyR (ws : List Str) : Option Row := if ws.getLast? = some "!" then plainR ws.dropLast true else plainR ws false
def passR (ws : List Str) : Option Row := match ws with
  | [_, n, w] => match needR w with
    | some q => if n ∈ letters then some (.pass n q.1 q.2) else none
    | none => none
  | _ => none
def partR (t : Str) : Option Int := if t = "-" then some (-1) else numR t
def lateR (ws : List Str) : Option Row := match ws with
  | [_, n, p, t] => match partR p, needsR t 2 with
    | some k, some ns => if n ∈ letters then some (.late n k ns) else none
    | _, _ => none
  | _ => none
def wordR (line : Str) (ws : List Str) (w : Str) : Option Row :=
  if w = "give" ∨ w = "show" then riskyR ws
  else if w = "pass" ∧ ws.length = 3 then passR ws
  else if w = "late" ∧ ws.length = 4 then lateR ws
  else if w = "load" ∧ ws.length = 2 then (numR (ws.getD 1 "")).map .load
  else if line = "out" then some .out else none
def rowR (line : Str) : Option Row := wordR line (Txt.split line " ") ((Txt.split line " ").getD 0 "")
/-! short words -/
theorem allO_some {α β : Type} {f : β → Option α} {g : α → β} : ∀ {l : List α}, (∀ x ∈ l, f (g x) = some x) → allO ((l.map g).map f) = some l
  | [], _ => rfl
  | x :: l, h => by
    rw [List.map_cons, List.map_cons, h x List.mem_cons_self, allO, allO_some fun y hy => h y (List.mem_cons_of_mem _ hy)]
    rfl
theorem ten {P : Int → Prop} (h : P 0 ∧ P 1 ∧ P 2 ∧ P 3 ∧ P 4 ∧ P 5 ∧ P 6 ∧ P 7 ∧ P 8 ∧ P 9) {i : Int} (h0 : 0 ≤ i) (h1 : i < 10) : P i := by
  obtain ⟨a0, a1, a2, a3, a4, a5, a6, a7, a8, a9⟩ := h
  rcases (by omega : i = 0 ∨ i = 1 ∨ i = 2 ∨ i = 3 ∨ i = 4 ∨ i = 5 ∨ i = 6 ∨ i = 7 ∨ i = 8 ∨ i = 9) with e | e | e | e | e | e | e | e | e | e <;> (rw [e]; assumption)
theorem num_dig {i : Int} (h0 : 0 ≤ i) (h1 : i < 10) : numR (digT i) = some i := ten (P := fun i => numR (digT i) = some i) (by decide +kernel) h0 h1
def signs : List Nat := [32, 46, 44, 10, 45, 33]
def plainB (t : Str) : Bool := signs.all fun c => !(tl t).contains c
theorem dig_plain {i : Int} (h0 : 0 ≤ i) (h1 : i < 10) : plainB (digT i) = true := ten (P := fun i => plainB (digT i) = true) (by decide +kernel) h0 h1
theorem letter_plain {s : Str} (h : s ∈ letters) : plainB s = true := by
  have all : ∀ x ∈ letters, plainB x = true := by decide +kernel
  exact all s h
theorem plain_free {t : Str} (h : plainB t = true) {c : Nat} (hc : c ∈ signs) : c ∉ tl t := fun m => by
  have z := List.all_eq_true.mp h c hc
  rw [List.contains_iff_mem.mpr m] at z
  cases z
def freeB (t : Str) (cs : List Nat) : Bool := cs.all fun c => !(tl t).contains c
theorem free_at {t : Str} {cs : List Nat} (h : freeB t cs = true) {c : Nat} (hc : c ∈ cs) : c ∉ tl t := fun m => by
  have z := List.all_eq_true.mp h c hc
  rw [List.contains_iff_mem.mpr m] at z
  cases z
theorem free_app {a b : Str} {c : Nat} (h1 : c ∉ tl a) (h2 : c ∉ tl b) : c ∉ tl (a ++ b) := fun m => by
  rw [tl_append] at m
  exact (List.mem_append.mp m).elim h1 h2
theorem need_back {p : Nm} {c : Int} (h : nmOk c p) (c4 : c ≤ 4) : needR (needT p) = some p := by
  have h0 := h.1
  have h1 := h.2.1
  have e : Txt.partition (needT p) "." = (digT p.1, ("." : Str), p.2) := partition_app (y := ".") (s := 46) (S := []) (by decide +kernel) (plain_free (dig_plain h0 (by omega)) (by decide))
  unfold needR
  rw [e]
  dsimp only
  rw [num_dig h0 (by omega)]
  dsimp only
  rw [if_pos h.2.2]
theorem need_free {p : Nm} {c : Int} (h : nmOk c p) (c4 : c ≤ 4) {s : Nat} (hs : s ∈ [32, 44, 10, 45, 33]) : s ∉ tl (needT p) := by
  have h0 := h.1
  have h1 := h.2.1
  have hs2 : s ∈ signs := by
    have all : ∀ x ∈ [32, 44, 10, 45, 33], x ∈ signs := by decide
    exact all s hs
  have d : ∀ x ∈ [32, 44, 10, 45, 33], x ∉ tl ("." : Str) := by decide +kernel
  exact free_app (free_app (plain_free (dig_plain h0 (by omega)) hs2) (d s hs)) (plain_free (letter_plain h.2.2) hs2)
theorem join_one (y a : Str) : Txt.join y [a] = a := by rw [join_eq]; rfl
theorem join_more (y a b : Str) (l : List Str) : Txt.join y (a :: b :: l) = a ++ y ++ Txt.join y (b :: l) := by rw [join_eq, join_eq]; rfl
theorem join_free {y : Str} {s : Nat} (hy : s ∉ tl y) : ∀ {ps : List Str}, (∀ p ∈ ps, s ∉ tl p) → s ∉ tl (Txt.join y ps)
  | [], _ => by
    rw [join_eq]
    exact fun h => nomatch (h : s ∈ tl Str.empty)
  | [a], h => by
    rw [join_one]
    exact h a List.mem_cons_self
  | a :: b :: l, h => by
    rw [join_more]
    exact free_app (free_app (h a List.mem_cons_self) hy) (join_free hy fun p hp => h p (List.mem_cons_of_mem _ hp))
theorem needT_three {p : Nm} {c : Int} (h : nmOk c p) (c4 : c ≤ 4) : (needT p).length = 3 := by
  have h0 := h.1
  have h1 := h.2.1
  have l1 := ten (P := fun i => (digT i).length = 1) (by decide +kernel) h0 (by omega)
  have l2 := letter_len h.2.2
  unfold needT
  rw [len_app, len_app, l1, l2]
  rfl
theorem needs_split {ps : List Nm} {c : Int} (ne : ps ≠ []) (h : ∀ p ∈ ps, nmOk c p) (c4 : c ≤ 4) : Txt.split (Txt.join "," (ps.map needT)) "," = ps.map needT :=
  split_join (y := ",") (s := 44) (S := []) (by decide +kernel) (by decide +kernel) (by simpa using ne) fun t ht => by
    obtain ⟨p, hp, rfl⟩ := List.mem_map.mp ht
    exact need_free (h p hp) c4 (by decide)
theorem needs_back {ps : List Nm} {c : Int} {most : Nat} (h : ∀ p ∈ ps, nmOk c p) (c4 : c ≤ 4) (few : ps.length ≤ most) : needsR (needsT ps) most = some ps := by
  unfold needsT needsR
  by_cases e : ps = []
  · subst e
    rfl
  · rw [if_neg e]
    have sp := needs_split e h c4
    have ne : ¬ Txt.join "," (ps.map needT) = "-" := fun z => by
      rw [z] at sp
      rw [show Txt.split "-" "," = (["-"] : List Str) by decide +kernel] at sp
      cases ps with
      | nil => exact e rfl
      | cons p l =>
        rw [List.map_cons] at sp
        have z1 := needT_three (h p List.mem_cons_self) c4
        rw [← (List.cons.inj sp).1] at z1
        exact absurd z1 (by decide +kernel)
    rw [if_neg ne, sp, allO_some (f := needR) (g := needT) fun p hp => need_back (h p hp) c4]
    dsimp only
    rw [if_pos few]
theorem needs_free {ps : List Nm} {c : Int} (h : ∀ p ∈ ps, nmOk c p) (c4 : c ≤ 4) {s : Nat} (hs : s ∈ [32, 10, 33]) : s ∉ tl (needsT ps) := by
  have hs2 : s ∈ [32, 44, 10, 45, 33] := by
    have all : ∀ x ∈ [32, 10, 33], x ∈ [32, 44, 10, 45, 33] := by decide
    exact all s hs
  unfold needsT
  split
  · have all : ∀ x ∈ [32, 10, 33], x ∉ tl ("-" : Str) := by decide +kernel
    exact all s hs
  · have all : ∀ x ∈ [32, 10, 33], x ∉ tl ("," : Str) := by decide +kernel
    refine join_free (all s hs) fun t ht => ?_
    obtain ⟨p, hp, rfl⟩ := List.mem_map.mp ht
    exact need_free (h p hp) c4 hs2
/-! rows -/
def wordsT : Row → List Str
  | .load p => ["load", digT p]
  | .pass n p o => ["pass", n, needT (p, o)]
  | .late n p ns => ["late", n, partT p, needsT ns]
  | .give n ns b => (["give", n, needsT ns] : List Str) ++ (if b then (["!"] : List Str) else [])
  | .show_ ns b => (["show", needsT ns] : List Str) ++ (if b then (["!"] : List Str) else [])
  | .out => ["out"]
theorem app3 (a b c : Str) : a ++ b ++ c = a ++ (b ++ c) := ext_tl (by simp only [tl_append, List.append_assoc])
theorem row_words (r : Row) : rowT r = Txt.join " " (wordsT r) := by
  have e1 : ("load " : Str) = "load" ++ " " := by decide +kernel
  have e2 : ("pass " : Str) = "pass" ++ " " := by decide +kernel
  have e3 : ("late " : Str) = "late" ++ " " := by decide +kernel
  have e4 : ("give " : Str) = "give" ++ " " := by decide +kernel
  have e5 : ("show " : Str) = "show" ++ " " := by decide +kernel
  have e6 : (" !" : Str) = " " ++ "!" := by decide +kernel
  cases r with
  | load p => simp only [rowT, wordsT, join_more, join_one, e1]
  | pass n p o => simp only [rowT, wordsT, join_more, join_one, e2, needT, app3]
  | late n p ns => simp only [rowT, wordsT, join_more, join_one, e3, app3]
  | give n ns b =>
    cases b
    · refine ext_tl ?_
      simp only [rowT, wordsT, riskT, List.cons_append, List.nil_append, List.append_nil, join_more, join_one, e4, tl_append, List.append_assoc, Bool.false_eq_true, if_false]
      rw [show tl ("" : Str) = [] by decide +kernel, List.append_nil]
    · simp only [rowT, wordsT, riskT, List.cons_append, List.nil_append, join_more, join_one, e4, e6, app3, if_true]
  | show_ ns b =>
    cases b
    · refine ext_tl ?_
      simp only [rowT, wordsT, riskT, List.cons_append, List.nil_append, List.append_nil, join_more, join_one, e5, tl_append, List.append_assoc, Bool.false_eq_true, if_false]
      rw [show tl ("" : Str) = [] by decide +kernel, List.append_nil]
    · simp only [rowT, wordsT, riskT, List.cons_append, List.nil_append, join_more, join_one, e5, e6, app3, if_true]
  | out => simp only [rowT, wordsT, join_one]
theorem part_free {p c : Int} (h0 : -1 ≤ p) (h1 : p < c) (c4 : c ≤ 4) {s : Nat} (hs : s ∈ [32, 10]) : s ∉ tl (partT p) := by
  unfold partT
  split
  · have all : ∀ x ∈ [32, 10], x ∉ tl ("-" : Str) := by decide +kernel
    exact all s hs
  · have all : ∀ x ∈ [32, 10], x ∈ signs := by decide
    exact plain_free (dig_plain (by omega) (by omega)) (all s hs)
theorem words_free {r : Row} {c : Int} (h : r.ok c) (c4 : c ≤ 4) {s : Nat} (hs : s ∈ [32, 10]) {t : Str} (ht : t ∈ wordsT r) : s ∉ tl t := by
  have lit : ∀ w ∈ (["load", "pass", "late", "give", "show", "out", "!"] : List Str), ∀ x ∈ [32, 10], x ∉ tl w := by decide +kernel
  have up : ∀ x ∈ [32, 10], x ∈ signs ∧ x ∈ [32, 44, 10, 45, 33] ∧ x ∈ [32, 10, 33] := by decide
  obtain ⟨u1, u2, u3⟩ := up s hs
  cases r with
  | load p =>
    simp only [wordsT, List.mem_cons, List.not_mem_nil, or_false] at ht
    rcases ht with rfl | rfl
    · exact lit _ (by decide +kernel) s hs
    · exact plain_free (dig_plain h.1 (by have := h.2; omega)) u1
  | pass n p o =>
    simp only [wordsT, List.mem_cons, List.not_mem_nil, or_false] at ht
    rcases ht with rfl | rfl | rfl
    · exact lit _ (by decide +kernel) s hs
    · exact plain_free (letter_plain h.1) u1
    · exact need_free (c := c) ⟨h.2.1.1, h.2.1.2, h.2.2⟩ c4 u2
  | late n p ns =>
    simp only [wordsT, List.mem_cons, List.not_mem_nil, or_false] at ht
    rcases ht with rfl | rfl | rfl | rfl
    · exact lit _ (by decide +kernel) s hs
    · exact plain_free (letter_plain h.1) u1
    · exact part_free h.2.1.1 h.2.1.2 c4 hs
    · exact needs_free h.2.2.2 c4 u3
  | give n ns b =>
    have ht : t ∈ (["give", n, needsT ns] : List Str) ∨ t = "!" := by
      cases b
      · exact .inl (by simpa [wordsT] using ht)
      · rcases List.mem_append.mp ht with z | z
        · exact .inl z
        · exact .inr (List.mem_singleton.mp z)
    simp only [List.mem_cons, List.not_mem_nil, or_false] at ht
    rcases ht with (rfl | rfl | rfl) | rfl
    · exact lit _ (by decide +kernel) s hs
    · exact plain_free (letter_plain h.1) u1
    · exact needs_free h.2.2 c4 u3
    · exact lit _ (by decide +kernel) s hs
  | show_ ns b =>
    have ht : t ∈ (["show", needsT ns] : List Str) ∨ t = "!" := by
      cases b
      · exact .inl (by simpa [wordsT] using ht)
      · rcases List.mem_append.mp ht with z | z
        · exact .inl z
        · exact .inr (List.mem_singleton.mp z)
    simp only [List.mem_cons, List.not_mem_nil, or_false] at ht
    rcases ht with (rfl | rfl) | rfl
    · exact lit _ (by decide +kernel) s hs
    · exact needs_free h.2 c4 u3
    · exact lit _ (by decide +kernel) s hs
  | out =>
    simp only [wordsT, List.mem_cons, List.not_mem_nil, or_false] at ht
    subst ht
    exact lit _ (by decide +kernel) s hs
theorem row_split {r : Row} {c : Int} (h : r.ok c) (c4 : c ≤ 4) : Txt.split (rowT r) " " = wordsT r := by
  rw [row_words]
  refine split_join (y := " ") (s := 32) (S := []) (by decide +kernel) (by decide +kernel) (by cases r <;> simp [wordsT]) fun t ht => words_free h c4 (by decide) ht
theorem not_bang {ps : List Nm} {c : Int} (h : ∀ p ∈ ps, nmOk c p) (c4 : c ≤ 4) : needsT ps ≠ "!" := fun e => by
  have z := needs_free h c4 (s := 33) (by decide)
  rw [e] at z
  exact z (by decide +kernel)
theorem row_back {r : Row} {c : Int} (h : r.ok c) (c4 : c ≤ 4) : rowR (rowT r) = some r := by
  unfold rowR
  rw [row_split h c4]
  cases r with
  | load p =>
    have h0 := h.1
    have h1 := h.2
    simp only [wordsT, List.getD_cons_zero]
    unfold wordR
    rw [if_neg (by decide +kernel), if_neg (fun z => absurd z.1 (by decide +kernel)), if_neg (fun z => absurd z.1 (by decide +kernel)), if_pos ⟨rfl, rfl⟩]
    show (numR (digT p)).map Row.load = _
    rw [num_dig h0 (by omega)]
    rfl
  | pass n p o =>
    simp only [wordsT, List.getD_cons_zero]
    unfold wordR
    rw [if_neg (by decide +kernel), if_pos ⟨rfl, rfl⟩]
    unfold passR
    dsimp only
    rw [need_back (c := c) ⟨h.2.1.1, h.2.1.2, h.2.2⟩ c4]
    dsimp only
    rw [if_pos h.1]
  | late n p ns =>
    simp only [wordsT, List.getD_cons_zero]
    unfold wordR
    rw [if_neg (by decide +kernel), if_neg (fun z => absurd z.1 (by decide +kernel)), if_pos ⟨rfl, rfl⟩]
    unfold lateR
    dsimp only
    have e : partR (partT p) = some p := by
      unfold partR partT
      by_cases q : p = -1
      · rw [if_pos q, if_pos rfl, q]
      · have h0 := h.2.1.1
        have h1 := h.2.1.2
        rw [if_neg q, if_neg, num_dig (by omega) (by omega)]
        intro e
        have z := plain_free (dig_plain (i := p) (by omega) (by omega)) (c := 45) (by decide)
        rw [e] at z
        exact z (by decide +kernel)
    rw [e, needs_back h.2.2.2 c4 h.2.2.1]
    dsimp only
    rw [if_pos h.1]
  | give n ns b =>
    have nb := needs_back (most := 1) h.2.2 c4 h.2.1
    have bang := not_bang h.2.2 c4
    simp only [wordsT]
    cases b
    · rw [if_neg (by decide), List.append_nil]
      simp only [List.getD_cons_zero]
      unfold wordR
      rw [if_pos (.inl rfl)]
      unfold riskyR
      rw [if_neg (by simpa using bang)]
      unfold plainR
      dsimp only
      rw [if_pos ⟨rfl, h.1⟩, nb]
      rfl
    · rw [if_pos rfl]
      unfold wordR
      rw [if_pos (.inl (by rfl))]
      unfold riskyR
      rw [if_pos (by simp)]
      show plainR ["give", n, needsT ns] true = _
      unfold plainR
      dsimp only
      rw [if_pos ⟨rfl, h.1⟩, nb]
      rfl
  | show_ ns b =>
    have nb := needs_back (most := 2) h.2 c4 h.1
    have bang := not_bang h.2 c4
    simp only [wordsT]
    cases b
    · rw [if_neg (by decide), List.append_nil]
      simp only [List.getD_cons_zero]
      unfold wordR
      rw [if_pos (.inr rfl)]
      unfold riskyR
      rw [if_neg (by simpa using bang)]
      unfold plainR
      dsimp only
      rw [if_pos rfl, nb]
      rfl
    · rw [if_pos rfl]
      unfold wordR
      rw [if_pos (.inr (by rfl))]
      unfold riskyR
      rw [if_pos (by simp)]
      show plainR ["show", needsT ns] true = _
      unfold plainR
      dsimp only
      rw [if_pos rfl, nb]
      rfl
  | out =>
    simp only [wordsT, List.getD_cons_zero]
    unfold wordR
    rw [if_neg (by decide +kernel), if_neg (fun z => absurd z.1 (by decide +kernel)), if_neg (fun z => absurd z.1 (by decide +kernel)), if_neg (fun z => absurd z.1 (by decide +kernel)), if_pos (show rowT Row.out = "out" from rfl)]
/-! the lines ahead -/
def numsR (t : Str) : Option (List Int) := if tl t = [] then none else allO ((tl t).map digR)
def entriesR (line : Str) : Option (List Int) := match numsR (Txt.partition line " ").2.2 with
  | some ns => if (Txt.partition line " ").1 = "entries" ∧ ns.length ≤ 3 ∧ ascB (ns.map PyData.int) = true then some ns else none
  | none => none
def opensR (line : Str) : Option (List Nm) := match needsR (Txt.partition line " ").2.2 4 with
  | some ns => if (Txt.partition line " ").1 = "open" ∧ ascB (ns.map nmD) = true then some ns else none
  | none => none
theorem tl_empty : tl ("" : Str) = [] := by decide +kernel
theorem dig_tl {i : Int} (h0 : 0 ≤ i) (h1 : i < 10) : tl (digT i) = [48 + i.toNat] := ten (P := fun i => tl (digT i) = [48 + i.toNat]) (by decide +kernel) h0 h1
theorem digs_tl : ∀ {es : List Int}, (∀ e ∈ es, 0 ≤ e ∧ e < 10) → tl (Txt.join "" (es.map digT)) = es.map fun e => 48 + e.toNat
  | [], _ => by rw [join_eq]; rfl
  | [e], h => by
    rw [List.map_cons, List.map_nil, join_one, dig_tl (h e List.mem_cons_self).1 (h e List.mem_cons_self).2]
    rfl
  | e :: f :: l, h => by
    rw [List.map_cons, List.map_cons, join_more, tl_append, tl_append, tl_empty, List.append_nil, dig_tl (h e List.mem_cons_self).1 (h e List.mem_cons_self).2, ← List.map_cons, digs_tl fun x hx => h x (List.mem_cons_of_mem _ hx)]
    rfl
theorem digR_dig {e : Int} (h0 : 0 ≤ e) (h1 : e < 10) : digR (48 + e.toNat) = some e := by
  unfold digR
  rw [if_pos (by omega)]
  congr 1
  omega
theorem nums_back {es : List Int} (ne : es ≠ []) (h : ∀ e ∈ es, 0 ≤ e ∧ e < 10) : numsR (Txt.join "" (es.map digT)) = some es := by
  unfold numsR
  rw [digs_tl h, if_neg (by simpa using ne), allO_some (f := digR) (g := fun e : Int => 48 + e.toNat) fun e he => digR_dig (h e he).1 (h e he).2]
theorem entries_back {P : Prog} (ok : P.Ok) : entriesR ("entries " ++ Txt.join "" (P.entries.map digT)) = some P.entries := by
  have c4 := c_le ok
  have e : ("entries " ++ Txt.join "" (P.entries.map digT) : Str) = "entries" ++ " " ++ Txt.join "" (P.entries.map digT) := by
    rw [show ("entries " : Str) = "entries" ++ " " by decide +kernel]
  have pt : Txt.partition ("entries " ++ Txt.join "" (P.entries.map digT)) " " = (("entries" : Str), (" " : Str), Txt.join "" (P.entries.map digT)) := by
    rw [e]
    exact partition_app (y := " ") (s := 32) (S := []) (by decide +kernel) (by decide +kernel)
  unfold entriesR
  rw [pt]
  dsimp only
  have ne : P.entries ≠ [] := fun z => by
    have := ok.ent1
    rw [z] at this
    exact absurd this (by decide)
  rw [nums_back ne fun e he => ⟨(ok.entIn e he).1, by have := (ok.entIn e he).2; omega⟩]
  dsimp only
  rw [if_pos ⟨rfl, ok.ent3, ascB_of (fun i => PyData.int i) (· < ·) (fun a b lt => by
    rw [PySem.W.dataLt_int]
    exact decide_eq_true lt) _ ok.entUp⟩]
theorem opens_back {P : Prog} (ok : P.Ok) : opensR ("open " ++ needsT P.opens) = some P.opens := by
  have pt : Txt.partition ("open " ++ needsT P.opens) " " = (("open" : Str), (" " : Str), needsT P.opens) := by
    rw [show ("open " : Str) = "open" ++ " " by decide +kernel]
    exact partition_app (y := " ") (s := 32) (S := []) (by decide +kernel) (by decide +kernel)
  unfold opensR
  rw [pt]
  dsimp only
  rw [needs_back ok.opIn (c_le ok) ok.op4]
  dsimp only
  rw [if_pos ⟨rfl, ascB_of nmD (fun p q => nmLt p q = true) (fun a b lt => by rw [nmD_lt]; exact lt) _ ok.opUp⟩]
/-! the lines of parts -/
def outB : Row → Bool
  | .out => true
  | _ => false
abbrev RSt := List (List Row) × List Bool
def pushR (ps : List (List Row)) (r : Row) : List (List Row) := ps.set (ps.length - 1) (ps.getD (ps.length - 1) [] ++ [r])
def rowsR (st : RSt) (r : Row) : Option RSt :=
  if st.1 = [] then none
  else if 5 < ((pushR st.1 r).getD (st.1.length - 1) []).length ∨ 12 < (pushR st.1 r).flatten.length then none
  else if (pushR st.1 r).flatten.countP outB ≤ 2 then some (pushR st.1 r, st.2) else none
def addR (st : RSt) (line : Str) : Option RSt :=
  if line = "part" ∨ line = "part plain" then (if st.1.length + 1 ≤ 4 then some (st.1 ++ [[]], st.2 ++ [decide (line = "part plain")]) else none)
  else match rowR line with
  | none => none
  | some r => rowsR st r
def foldR : List Str → RSt → Option RSt
  | [], st => some st
  | l :: ls, st => (addR st l).bind (foldR ls)
theorem foldR_app : ∀ (a b : List Str) (st : RSt), foldR (a ++ b) st = (foldR a st).bind (foldR b)
  | [], _, _ => rfl
  | l :: a, b, st => by
    rw [List.cons_append, foldR, foldR]
    cases addR st l with
    | none => rfl
    | some s => exact foldR_app a b s
theorem foldR_at {L : List Str} {st fin : RSt} (h : foldR L st = some fin) {i : Nat} {l : Str} (hi : L[i]? = some l) : ∃ s s', foldR (L.take i) st = some s ∧ addR s l = some s' ∧ foldR (L.take (i + 1)) st = some s' := by
  have il := (List.getElem?_eq_some_iff.mp hi).1
  have e : L = L.take (i + 1) ++ L.drop (i + 1) := (List.take_append_drop _ _).symm
  have tk : L.take (i + 1) = L.take i ++ [l] := by rw [List.take_succ, hi]; rfl
  rw [e, foldR_app] at h
  obtain ⟨s', h1, _⟩ := Option.bind_eq_some_iff.mp h
  have h2 := h1
  rw [tk, foldR_app] at h2
  obtain ⟨s, h3, h4⟩ := Option.bind_eq_some_iff.mp h2
  rw [foldR] at h4
  obtain ⟨s2, h5, h6⟩ := Option.bind_eq_some_iff.mp h4
  obtain rfl := Option.some.inj h6
  exact ⟨s, s2, h3, h5, h1⟩
theorem push_last (ps : List (List Row)) (rs : List Row) (r : Row) : pushR (ps ++ [rs]) r = ps ++ [rs ++ [r]] := by
  unfold pushR
  rw [List.length_append, List.length_singleton, Nat.add_sub_cancel, List.getD_eq_getElem?_getD, List.getElem?_append_right (Nat.le_refl _), Nat.sub_self, List.set_append_right _ _ (Nat.le_refl _), Nat.sub_self]
  rfl
theorem not_part {r : Row} {c : Int} (h : r.ok c) (c4 : c ≤ 4) : ¬ (rowT r = "part" ∨ rowT r = "part plain") := fun z => by
  have b := row_back h c4
  rcases z with z | z
  · rw [z, show rowR "part" = none by decide +kernel] at b
    cases b
  · rw [z, show rowR "part plain" = none by decide +kernel] at b
    cases b
theorem fold_rows {c : Int} (c4 : c ≤ 4) : ∀ (rs : List Row) (ps : List (List Row)) (ms : List Bool) (rs0 : List Row), (∀ r ∈ rs, r.ok c) → (rs0 ++ rs).length ≤ 5 → (ps ++ [rs0 ++ rs]).flatten.length ≤ 12 → (ps ++ [rs0 ++ rs]).flatten.countP outB ≤ 2 →
    foldR (rs.map rowT) (ps ++ [rs0], ms) = some (ps ++ [rs0 ++ rs], ms)
  | [], ps, ms, rs0, _, _, _, _ => by rw [List.append_nil]; rfl
  | r :: rs, ps, ms, rs0, ok, h5, h12, h2 => by
    have e : rs0 ++ r :: rs = (rs0 ++ [r]) ++ rs := by rw [List.append_assoc]; rfl
    rw [e] at h5 h12 h2 ⊢
    have step : addR (ps ++ [rs0], ms) (rowT r) = some (ps ++ [rs0 ++ [r]], ms) := by
      unfold addR
      rw [if_neg (not_part (ok r List.mem_cons_self) c4), row_back (ok r List.mem_cons_self) c4]
      dsimp only
      unfold rowsR
      rw [if_neg (by simp), push_last]
      have l1 : ((ps ++ [rs0 ++ [r]]).getD ((ps ++ [rs0]).length - 1) []) = rs0 ++ [r] := by
        rw [List.length_append, List.length_singleton, Nat.add_sub_cancel, List.getD_eq_getElem?_getD, List.getElem?_append_right (Nat.le_refl _), Nat.sub_self]
        rfl
      dsimp only
      rw [l1, if_neg, if_pos]
      · simp only [List.flatten_append, List.countP_append, List.flatten_cons, List.flatten_nil, List.append_nil] at h2 ⊢
        omega
      · simp only [List.flatten_append, List.length_append, List.flatten_cons, List.flatten_nil, List.append_nil] at h12 h5 ⊢
        omega
    rw [List.map_cons, foldR, step]
    exact fold_rows c4 rs ps ms (rs0 ++ [r]) (fun x hx => ok x (List.mem_cons_of_mem _ hx)) h5 h12 h2
theorem fold_parts {c : Int} (c4 : c ≤ 4) : ∀ (zs : List (List Row × Bool)) (ps : List (List Row)) (ms : List Bool), (∀ q ∈ zs, (∀ r ∈ q.1, r.ok c) ∧ q.1.length ≤ 5) → (ps ++ zs.map Prod.fst).length ≤ 4 → (ps ++ zs.map Prod.fst).flatten.length ≤ 12 → (ps ++ zs.map Prod.fst).flatten.countP outB ≤ 2 →
    foldR (zs.flatMap partTs) (ps, ms) = some (ps ++ zs.map Prod.fst, ms ++ zs.map Prod.snd)
  | [], ps, ms, _, _, _, _ => by simp [foldR]
  | q :: zs, ps, ms, ok, h4, h12, h2 => by
    obtain ⟨rs, b⟩ := q
    have okq := ok _ List.mem_cons_self
    have e1 : ps ++ ((rs, b) :: zs).map Prod.fst = (ps ++ [rs]) ++ zs.map Prod.fst := by rw [List.append_assoc]; rfl
    have e2 : ms ++ ((rs, b) :: zs).map Prod.snd = (ms ++ [b]) ++ zs.map Prod.snd := by rw [List.append_assoc]; rfl
    rw [e1] at h4 h12 h2 ⊢
    rw [e2, List.flatMap_cons, foldR_app]
    have step : addR (ps, ms) (if b then ("part plain" : Str) else "part") = some (ps ++ [[]], ms ++ [b]) := by
      have len : ps.length + 1 ≤ 4 := by
        rw [List.length_append, List.length_append, List.length_singleton] at h4
        omega
      unfold addR
      cases b
      · rw [if_pos (.inl rfl), if_pos len]
        rfl
      · rw [if_pos (.inr rfl), if_pos len]
        rfl
    have part : foldR (partTs (rs, b)) (ps, ms) = some (ps ++ [rs], ms ++ [b]) := by
      unfold partTs
      rw [foldR]
      dsimp only
      rw [step]
      refine fold_rows c4 rs ps (ms ++ [b]) [] okq.1 okq.2 ?_ ?_
      · simp only [List.flatten_append, List.length_append, List.nil_append] at h12 ⊢
        omega
      · simp only [List.flatten_append, List.countP_append, List.nil_append] at h2 ⊢
        omega
    rw [part]
    exact fold_parts c4 zs (ps ++ [rs]) (ms ++ [b]) (fun q hq => ok q (List.mem_cons_of_mem _ hq)) h4 h12 h2
theorem out_is (r : Row) : decide (r.word = ("out" : Str)) = outB r := match r with
  | .load _ => (by decide +kernel : decide (("load" : Str) = "out") = false)
  | .give .. => (by decide +kernel : decide (("give" : Str) = "out") = false)
  | .pass .. => (by decide +kernel : decide (("pass" : Str) = "out") = false)
  | .show_ .. => (by decide +kernel : decide (("show" : Str) = "out") = false)
  | .late .. => (by decide +kernel : decide (("late" : Str) = "out") = false)
  | .out => (by decide +kernel : decide (("out" : Str) = "out") = true)
def bodyT (P : Prog) : List Str := (P.parts.zip P.marks).flatMap partTs
theorem fold_prog {P : Prog} (ok : P.Ok) : foldR (bodyT P) ([], []) = some (P.parts, P.marks) := by
  have lm := ok.marks
  have e1 : (P.parts.zip P.marks).map Prod.fst = P.parts := List.map_fst_zip (by omega)
  have e2 : (P.parts.zip P.marks).map Prod.snd = P.marks := List.map_snd_zip (by omega)
  have z := fold_parts (c_le ok) (P.parts.zip P.marks) [] [] (fun q hq => ?_) (by rw [e1]; exact ok.four) (by rw [e1]; exact ok.twelve) ?_
  · rw [e1, e2] at z
    exact z
  · have m := (List.of_mem_zip (a := q.1) (b := q.2) hq).1
    exact ⟨ok.rows _ m, ok.five _ m⟩
  · rw [e1, List.nil_append]
    have o := ok.outs
    rw [List.countP_map] at o
    refine Nat.le_trans (Nat.le_of_eq ?_) o
    congr 1
    funext r
    exact (out_is r).symm
/-! the parts that a line names -/
def ownN : Row → List Int
  | .load p => [p]
  | .pass _ p _ => [p]
  | .late _ p _ => [p]
  | _ => []
def onR (line : Str) : List Int := match rowR line with
  | none => []
  | some r => (needsL r).map Prod.fst ++ ownN r
theorem on_lt {P : Prog} (ok : P.Ok) {l : Str} (h : l ∈ bodyT P) : ∀ k ∈ onR l, k < P.c := by
  obtain ⟨q, hq, hl⟩ := List.mem_flatMap.mp h
  have m := (List.of_mem_zip (a := q.1) (b := q.2) hq).1
  have c4 := c_le ok
  rcases List.mem_cons.mp hl with e | e
  · have n : rowR l = none := by
      rw [e]
      split <;> decide +kernel
    intro k hk
    unfold onR at hk
    rw [n] at hk
    cases hk
  · obtain ⟨r, hr, rfl⟩ := List.mem_map.mp e
    have rok := ok.rows _ m r hr
    intro k hk
    unfold onR at hk
    rw [row_back rok c4] at hk
    dsimp only at hk
    have nl : ∀ ns : List Nm, (∀ p ∈ ns, nmOk P.c p) → k ∈ ns.map Prod.fst → k < P.c := fun ns h hk => by
      obtain ⟨p, hp, rfl⟩ := List.mem_map.mp hk
      exact (h p hp).2.1
    cases r with
    | load p => simp only [needsL, ownN, List.map_nil, List.nil_append, List.mem_singleton] at hk; rw [hk]; exact rok.2
    | pass n p o => simp only [needsL, ownN, List.map_nil, List.nil_append, List.mem_singleton] at hk; rw [hk]; exact rok.2.1.2
    | late n p ns =>
      rcases List.mem_append.mp hk with z | z
      · exact nl ns rok.2.2.2 z
      · rw [List.mem_singleton.mp z]; exact rok.2.1.2
    | give n ns b =>
      rcases List.mem_append.mp hk with z | z
      · exact nl ns rok.2.2 z
      · cases z
    | show_ ns b =>
      rcases List.mem_append.mp hk with z | z
      · exact nl ns rok.2 z
      · cases z
    | out => cases hk
theorem lines_body (P : Prog) : linesT P = headT P ++ bodyT P := rfl
theorem line_free {P : Prog} (ok : P.Ok) : ∀ l ∈ linesT P, (10 : Nat) ∉ tl l := by
  have c4 := c_le ok
  intro l h
  rw [lines_body] at h
  rcases List.mem_append.mp h with h | h
  · rcases List.mem_cons.mp h with rfl | h
    · refine free_app (by decide +kernel) (join_free (by decide +kernel) fun t ht => ?_)
      obtain ⟨e, he, rfl⟩ := List.mem_map.mp ht
      have z := ok.entIn e he
      exact plain_free (dig_plain z.1 (by omega)) (by decide)
    · rw [List.mem_singleton.mp h]
      exact free_app (by decide +kernel) (needs_free ok.opIn c4 (by decide))
  · obtain ⟨q, hq, hl⟩ := List.mem_flatMap.mp h
    have m := (List.of_mem_zip (a := q.1) (b := q.2) hq).1
    rcases List.mem_cons.mp hl with e | e
    · rw [e]
      split <;> decide +kernel
    · obtain ⟨r, hr, rfl⟩ := List.mem_map.mp e
      rw [row_words]
      exact join_free (by decide +kernel) fun t ht => words_free (ok.rows _ m r hr) c4 (by decide) ht
theorem text_split {P : Prog} (ok : P.Ok) : Txt.split (progT P) "\n" = linesT P :=
  split_join (y := "\n") (s := 10) (S := []) (by decide +kernel) (by decide +kernel) (by simp [linesT, headT]) (line_free ok)
theorem text_len {P : Prog} (ok : P.Ok) : (progT P).length ≤ 10000 := by
  have h1 := join_len "\n" (linesT P)
  have h2 := lines_many ok
  have h3 : ((linesT P).map (·.length)).sum ≤ (linesT P).length * 60 := sum_le _ 60 _ (lines_small ok)
  have h4 := nl_len
  rw [h4] at h1
  show (Txt.join "\n" (linesT P)).length ≤ 10000
  omega
/-! bounds -/
theorem spl_len (s : Nat) : ∀ (l acc : List Nat), (spl [s] 0 acc l).length ≤ l.length + 1 ∧ ∀ p ∈ spl [s] 0 acc l, p.length ≤ acc.length + l.length
  | [], acc => by
    rw [spl_nil]
    exact ⟨Nat.le_refl _, fun p hp => by rw [List.mem_singleton.mp hp]; exact Nat.le_refl _⟩
  | c :: r, acc => by
    cases h : pre [s] (c :: r) with
    | true =>
      rw [spl_hit h]
      have z := spl_len s r []
      refine ⟨by have := z.1; simp only [List.length_cons, List.length_nil, Nat.sub_self, Nat.zero_add] at this ⊢; omega, fun p hp => ?_⟩
      rcases List.mem_cons.mp hp with e | e
      · rw [e]; omega
      · have := z.2 p e
        simp only [List.length_nil, List.length_cons] at this ⊢
        omega
    | false =>
      rw [spl_miss h]
      have z := spl_len s r (acc ++ [c])
      refine ⟨by have := z.1; simp only [List.length_cons]; omega, fun p hp => ?_⟩
      have := z.2 p hp
      simp only [List.length_append, List.length_cons, List.length_nil] at this ⊢
      omega
theorem split_le {t y : Str} {s : Nat} (ey : tl y = [s]) (hk : y.cps.all (· < 256) = true) : (Txt.split t y).length ≤ t.length + 1 ∧ ∀ w ∈ Txt.split t y, w.length ≤ t.length := by
  have e := split_spl t y (by rw [ey]; simp) (kind_ok hk)
  rw [ey] at e
  have z := spl_len s (tl t) []
  rw [← e, List.length_map, ← len_tl] at z
  refine ⟨z.1, fun w hw => ?_⟩
  have := z.2 (tl w) (List.mem_map.mpr ⟨w, hw, rfl⟩)
  rw [← len_tl, List.length_nil] at this
  omega
theorem split_ne {t y : Str} {s : Nat} (ey : tl y = [s]) (hk : y.cps.all (· < 256) = true) : Txt.split t y ≠ [] := fun h => by
  have e := split_spl t y (by rw [ey]; simp) (kind_ok hk)
  rw [h, ey] at e
  have : ∀ (l acc : List Nat), spl [s] 0 acc l ≠ [] := by
    intro l
    induction l with
    | nil => intro acc h; rw [spl_nil] at h; cases h
    | cons c r ih =>
      intro acc
      cases q : pre [s] (c :: r) with
      | true => rw [spl_hit q]; exact fun h => nomatch h
      | false => rw [spl_miss q]; exact ih _
  exact this _ _ e.symm
theorem par_len (s : Nat) : ∀ (l acc : List Nat) (a b : List Nat), par [s] acc l = some (a, b) → a.length ≤ acc.length + l.length ∧ b.length ≤ l.length
  | [], acc, a, b, h => nomatch h
  | c :: r, acc, a, b, h => by
    cases q : pre [s] (c :: r) with
    | true =>
      rw [par_hit q] at h
      obtain ⟨rfl, rfl⟩ := Prod.mk.injEq .. ▸ Option.some.inj h
      exact ⟨by omega, by rw [List.length_drop]; omega⟩
    | false =>
      rw [par_miss q] at h
      have z := par_len s r (acc ++ [c]) a b h
      simp only [List.length_append, List.length_cons, List.length_nil] at z ⊢
      omega
theorem part_le {t y : Str} {s : Nat} (ey : tl y = [s]) : (Txt.partition t y).1.length ≤ t.length ∧ (Txt.partition t y).2.2.length ≤ t.length := by
  rw [partition_par t y (by rw [ey]; simp), ey]
  cases h : par [s] [] (tl t) with
  | none => exact ⟨Nat.le_refl _, Nat.zero_le _⟩
  | some q =>
    obtain ⟨a, b⟩ := q
    have z := par_len s _ _ _ _ h
    rw [List.length_nil] at z
    have lt := len_tl t
    dsimp only
    rw [len_tl ⟨a.toArray⟩, len_tl ⟨b.toArray⟩]
    show a.length ≤ _ ∧ b.length ≤ _
    omega
/-! what is told: a value or None -/
def optD {α : Type} (D : α → PyData) : Option α → PyData
  | none => .none
  | some x => D x
def numV : Option Int → V
  | none => .non
  | some i => .int i
theorem num_rep {S : List Addr} {H : Hp} : ∀ o : Option Int, Rep S H (numV o) (optD PyData.int o)
  | none => .non
  | some i => .int i
theorem num_of {S : List Addr} {H : Hp} {x : V} : ∀ {o : Option Int}, Rep S H x (optD PyData.int o) → x = numV o
  | none, r => r.nonV
  | some _, r => r.intV
theorem in_digits (c : Nat) : decide (c ∈ ("0123456789" : Str).cps.toList) = decide (48 ≤ c ∧ c ≤ 57) := by
  rw [show ("0123456789" : Str).cps.toList = [48, 49, 50, 51, 52, 53, 54, 55, 56, 57] by decide +kernel]
  rw [Bool.eq_iff_iff, decide_eq_true_eq, decide_eq_true_eq]
  simp only [List.mem_cons, List.not_mem_nil, or_false]
  omega
theorem int_sign {c : Nat} (h : 48 ≤ c ∧ c ≤ 57) : PySem.intText? ⟨#[c]⟩ = some ((c : Int) - 48) := by
  have e : (⟨#[c]⟩ : Str) = digT ((c : Int) - 48) := ext_tl (by
    rw [dig_tl (by omega) (by omega)]
    show [c] = [48 + ((c : Int) - 48).toNat]
    congr 1
    omega)
  obtain ⟨n, hn⟩ : ∃ n : Nat, (c : Int) - 48 = (n : Int) := ⟨c - 48, by omega⟩
  rw [e, hn]
  exact int_num (numL_len (by decide) (by have : n < 10 := by omega
                                          exact Nat.lt_of_lt_of_le this (by decide)))
theorem numR_one {t : Str} (h : t.length = 1) : ∃ c, t = ⟨#[c]⟩ ∧ numR t = digR c := by
  rw [len_tl] at h
  obtain ⟨c, hc⟩ := List.length_eq_one_iff.mp h
  exact ⟨c, ext_tl (by rw [hc]), by unfold numR; rw [hc]⟩
theorem numR_not {t : Str} (h : t.length ≠ 1) : numR t = none := by
  rw [len_tl] at h
  unfold numR
  split
  · rename_i c hc
    rw [hc] at h
    exact absurd rfl h
  · rfl
theorem lay_optI : ∀ l : List (Option Int), PyData.canLayAll0 (l.map (optD PyData.int)) = true
  | [] => by simp only [List.map_nil, PyData.canLayAll0]
  | none :: l => by simp only [List.map_cons, optD, PyData.canLayAll0, PyData.canLay0, lay_optI l, Bool.and_true]
  | some _ :: l => by simp only [List.map_cons, optD, PyData.canLayAll0, PyData.canLay0, lay_optI l, Bool.and_true]
theorem depth_optI : ∀ l : List (Option Int), PyData.depthAll (l.map (optD PyData.int)) ≤ 1
  | [] => by simp only [List.map_nil, PyData.depthAll]; omega
  | none :: l => by
    have := depth_optI l
    simp only [List.map_cons, optD, PyData.depthAll, PyData.depth]
    omega
  | some _ :: l => by
    have := depth_optI l
    simp only [List.map_cons, optD, PyData.depthAll, PyData.depth]
    omega
theorem shaped_optI (l : List (Option Int)) : SeqAt.shaped (.list (l.map (optD PyData.int))) = true := by
  have := depth_optI l
  unfold SeqAt.shaped
  rw [Bool.and_eq_true, decide_eq_true_eq]
  refine ⟨by simp only [PyData.canLay0]; exact lay_optI l, by simp only [PyData.depth]; omega⟩
theorem noDicts_optI : ∀ l : List (Option Int), noDicts (l.map (optD PyData.int)) = true
  | [] => rfl
  | none :: l => by rw [List.map_cons, noDicts, noDicts_optI l]; rfl
  | some _ :: l => by rw [List.map_cons, noDicts, noDicts_optI l]; rfl
def nmOpt (o : Option Nm) : Prop := ∀ p, o = some p → p.2 ∈ letters
theorem need_letter {w : Str} : nmOpt (needR w) := fun p h => by
  unfold needR at h
  split at h
  · split at h
    · rename_i hl
      rw [← Option.some.inj h]
      exact hl
    · cases h
  · cases h
theorem lay_optN : ∀ l : List (Option Nm), (∀ o ∈ l, nmOpt o) → PyData.canLayAll0 (l.map (optD nmD)) = true
  | [], _ => by simp only [List.map_nil, PyData.canLayAll0]
  | none :: l, h => by
    have z := lay_optN l fun o ho => h o (List.mem_cons_of_mem _ ho)
    simp only [List.map_cons, optD, PyData.canLayAll0, PyData.canLay0, z, Bool.and_true]
  | some p :: l, h => by
    have z := lay_optN l fun o ho => h o (List.mem_cons_of_mem _ ho)
    have h1 := strOk_letter (h _ List.mem_cons_self p rfl)
    simp only [List.map_cons, optD, PyData.canLayAll0, nmD, PyData.canLay0, z, Bool.and_true, Bool.true_and]
    simpa only [PyData.canLay0] using h1
theorem depth_optN : ∀ l : List (Option Nm), PyData.depthAll (l.map (optD nmD)) ≤ 2
  | [] => by simp only [List.map_nil, PyData.depthAll]; omega
  | none :: l => by
    have := depth_optN l
    simp only [List.map_cons, optD, PyData.depthAll, PyData.depth]
    omega
  | some _ :: l => by
    have := depth_optN l
    simp only [List.map_cons, optD, nmD, PyData.depthAll, PyData.depth]
    omega
theorem shaped_optN {l : List (Option Nm)} (h : ∀ o ∈ l, nmOpt o) : SeqAt.shaped (.list (l.map (optD nmD))) = true := by
  have := depth_optN l
  unfold SeqAt.shaped
  rw [Bool.and_eq_true, decide_eq_true_eq]
  refine ⟨by simp only [PyData.canLay0]; exact lay_optN l h, by simp only [PyData.depth]; omega⟩
theorem noDicts_optN : ∀ l : List (Option Nm), noDicts (l.map (optD nmD)) = true
  | [] => rfl
  | none :: l => by rw [List.map_cons, noDicts, noDicts_optN l]; rfl
  | some _ :: l => by rw [List.map_cons, noDicts, noDicts_optN l]; rfl
theorem any_non {α : Type} {D : α → PyData} (hD : ∀ x, PyData.eqv (D x) .none = false) : ∀ l : List (Option α), ((l.map (optD D)).any fun z => PyData.eqv z .none) = l.any Option.isNone
  | [] => rfl
  | none :: l => by rw [List.map_cons, List.any_cons, List.any_cons, any_non hD l]; rfl
  | some x :: l => by
    rw [List.map_cons, List.any_cons, List.any_cons, any_non hD l]
    show (PyData.eqv (D x) .none || _) = _
    rw [hD]
    rfl
theorem allO_non {α : Type} : ∀ {l : List (Option α)}, l.any Option.isNone = true → allO l = none
  | none :: _, _ => rfl
  | some x :: l, h => by
    rw [List.any_cons] at h
    rw [allO, allO_non (l := l) (by simpa using h)]
    rfl
theorem allO_yes {α : Type} : ∀ {l : List (Option α)}, l.any Option.isNone = false → ∃ xs, allO l = some xs ∧ l = xs.map some
  | [], _ => ⟨[], rfl, rfl⟩
  | none :: _, h => nomatch h
  | some x :: l, h => by
    rw [List.any_cons] at h
    obtain ⟨xs, e1, e2⟩ := allO_yes (l := l) (by simpa using h)
    exact ⟨x :: xs, by rw [allO, e1]; rfl, by rw [e2]; rfl⟩
theorem optD_some {α : Type} (D : α → PyData) (xs : List α) : (xs.map some).map (optD D) = xs.map D := by rw [List.map_map]; rfl
/-! rows that a text gives -/
theorem num_lt {t : Str} {i : Int} (h : numR t = some i) : 0 ≤ i ∧ i < 10 := by
  unfold numR at h
  split at h
  · unfold digR at h
    split at h
    · have := Option.some.inj h
      omega
    · cases h
  · cases h
theorem need_ok {w : Str} {p : Nm} (h : needR w = some p) : nmOk 10 p := by
  unfold needR at h
  split at h
  · rename_i k hk
    split at h
    · rename_i hl
      rw [← Option.some.inj h]
      exact ⟨(num_lt hk).1, (num_lt hk).2, hl⟩
    · cases h
  · cases h
theorem allO_map {α β : Type} {f : β → Option α} : ∀ {l : List β} {xs : List α}, allO (l.map f) = some xs → ∀ x ∈ xs, ∃ y, f y = some x
  | [], xs, h, x, hx => by
    obtain rfl := Option.some.inj h
    cases hx
  | y :: l, xs, h, x, hx => by
    rw [List.map_cons] at h
    cases e : f y with
    | none => rw [e] at h; cases h
    | some z =>
      rw [e, allO] at h
      obtain ⟨zs, h1, rfl⟩ := Option.map_eq_some_iff.mp h
      rcases List.mem_cons.mp hx with rfl | hx
      · exact ⟨y, e⟩
      · exact allO_map h1 x hx
theorem needs_ok {t : Str} {m : Nat} {ns : List Nm} (h : needsR t m = some ns) : needsOk 10 m ns := by
  unfold needsR at h
  split at h
  · rw [← Option.some.inj h]
    exact ⟨Nat.zero_le _, fun p hp => nomatch hp⟩
  · split at h
    · rename_i xs hx
      split at h
      · rename_i hl
        obtain rfl := Option.some.inj h
        refine ⟨hl, fun p hp => ?_⟩
        obtain ⟨w, hw⟩ := allO_map hx p hp
        exact need_ok hw
      · cases h
    · cases h
theorem plain_ok {ws : List Str} {b : Bool} {r : Row} (h : plainR ws b = some r) : r.ok 10 := by
  unfold plainR at h
  split at h
  · split at h
    · obtain ⟨ns, hn, rfl⟩ := Option.map_eq_some_iff.mp h
      exact needs_ok hn
    · cases h
  · split at h
    · rename_i hc
      obtain ⟨ns, hn, rfl⟩ := Option.map_eq_some_iff.mp h
      exact ⟨hc.2, needs_ok hn⟩
    · cases h
  · cases h
theorem rowR_ok {t : Str} {r : Row} (h : rowR t = some r) : r.ok 10 := by
  unfold rowR wordR at h
  split at h
  · unfold riskyR at h
    split at h <;> exact plain_ok h
  split at h
  · unfold passR at h
    split at h
    · split at h
      · rename_i q hq
        split at h
        · rename_i hl
          rw [← Option.some.inj h]
          have z := need_ok hq
          exact ⟨hl, ⟨z.1, z.2.1⟩, z.2.2⟩
        · cases h
      · cases h
    · cases h
  split at h
  · unfold lateR at h
    split at h
    · split at h
      · rename_i k ns hk hn
        split at h
        · rename_i hl
          rw [← Option.some.inj h]
          refine ⟨hl, ?_, needs_ok hn⟩
          unfold partR at hk
          split at hk
          · have := Option.some.inj hk
            omega
          · have := num_lt hk
            omega
        · cases h
      · cases h
    · cases h
  split at h
  · obtain ⟨p, hp, rfl⟩ := Option.map_eq_some_iff.mp h
    exact num_lt hp
  split at h
  · rw [← Option.some.inj h]
    exact trivial
  · cases h
/-! what stays where lists alone change -/
mutual
theorem Rep.kp {H H' : Hp} (k : Keep H H') : ∀ (d : PyData) (v : V), noLst d = true → Rep [] H v d → Rep [] H' v d
  | .none, _, _, .non => .non
  | .bool _, _, _, .bl b => .bl b
  | .int _, _, _, .int i => .int i
  | .str _, _, _, .str x => .str x
  | .tuple ds, _, z, .tup (xs := xs) h n r => .tup (k _ _ h (fun _ e => nomatch e) (fun _ e => nomatch e)) n (Reps.kp k ds xs z r)
  | .list ds, _, z, .lst h n r => nomatch z
  | .dict _, _, z, .dct h n => nomatch z
theorem Reps.kp {H H' : Hp} (k : Keep H H') : ∀ (ds : List PyData) (vs : List V), noLsts ds = true → Reps [] H vs ds → Reps [] H' vs ds
  | [], _, _, .nil => .nil
  | d :: ds, _, z, .cons r rs => .cons (Rep.kp k d _ (Bool.and_eq_true_iff.mp z).1 r) (Reps.kp k ds _ (Bool.and_eq_true_iff.mp z).2 rs)
end
theorem plain_nms (ns : List Nm) : PyData.plainAll (ns.map nmD) = true := by
  induction ns with
  | nil => rfl
  | cons p ns ih => rw [List.map_cons, PyData.plainAll, ih]; rfl
theorem plain_row (r : Row) : PyData.plain r.d = true := by
  cases r with
  | load p => rfl
  | pass n p o => rfl
  | out => rfl
  | late n p ns => simp [Row.d, needsD, PyData.plain, PyData.plainAll, plain_nms]
  | give n ns b => simp [Row.d, needsD, PyData.plain, PyData.plainAll, plain_nms]
  | show_ ns b => simp [Row.d, needsD, PyData.plain, PyData.plainAll, plain_nms]
theorem plain_rows (rs : List Row) : PyData.plainAll (rs.map Row.d) = true := by
  induction rs with
  | nil => rfl
  | cons r rs ih => rw [List.map_cons, PyData.plainAll, ih, plain_row]; rfl
theorem eqv_out (r : Row) : PyData.eqv r.d (.tuple [.str "out"]) = outB r := by
  cases r with
  | out => decide +kernel
  | load p => simp [Row.d, PyData.eqv, PyData.eqvAll, outB]
  | pass n p o => simp [Row.d, PyData.eqv, PyData.eqvAll, outB]
  | late n p ns => simp [Row.d, PyData.eqv, PyData.eqvAll, outB]
  | give n ns b => simp [Row.d, PyData.eqv, PyData.eqvAll, outB]
  | show_ ns b => simp [Row.d, PyData.eqv, PyData.eqvAll, outB]
theorem count_out (rs : List Row) : (rs.map Row.d).countP (fun z => PyData.eqv z (.tuple [.str "out"])) = rs.countP outB := by
  rw [List.countP_map]
  congr 1
  funext r
  exact eqv_out r
/-- the parts and marks read so far, in lists of our own -/
structure PartsAt (H0 H : Hp) (Pa Mk : Addr) (st : RSt) (as : List Addr) : Prop where
  sm : Same H0 H
  pa : H Pa = some (.lst (as.map V.ref))
  mkl : H Mk = some (.lst (st.2.map V.bl))
  ne : Pa ≠ Mk
  nd : as.Nodup
  pn : Pa ∉ as
  mn : Mk ∉ as
  n0 : H0 Pa = none ∧ H0 Mk = none ∧ ∀ a ∈ as, H0 a = none
  len : as.length = st.1.length
  each : ∀ (i : Nat) (a : Addr) (rs : List Row), as[i]? = some a → st.1[i]? = some rs → ∃ vs, H a = some (.lst vs) ∧ Reps [] H vs (rs.map Row.d)
theorem PartsAt.to {H0 H H' : Hp} {Pa Mk : Addr} {st : RSt} {as : List Addr} (p : PartsAt H0 H Pa Mk st as) (s : Same H H') : PartsAt H0 H' Pa Mk st as :=
  ⟨p.sm.trans s, s _ _ p.pa, s _ _ p.mkl, p.ne, p.nd, p.pn, p.mn, p.n0, p.len, fun i a rs h1 h2 => by
    obtain ⟨vs, h3, h4⟩ := p.each i a rs h1 h2
    exact ⟨vs, s _ _ h3, h4.sm s⟩⟩
theorem same_upd0 {H0 H : Hp} {a : Addr} {o : HO} (s : Same H0 H) (n : H0 a = none) : Same H0 (upd H a o) := same_own s n
structure StOk (st : RSt) : Prop where
  four : st.1.length ≤ 4
  twelve : st.1.flatten.length ≤ 12
  marks : st.2.length = st.1.length
theorem addR_ok {st st' : RSt} {t : Str} (ok : StOk st) (h : addR st t = some st') : StOk st' := by
  unfold addR at h
  split at h
  · split at h
    · rename_i hl
      obtain rfl := Option.some.inj h
      have := ok.marks
      have := ok.twelve
      exact ⟨by rw [List.length_append]; exact hl, by simpa using this, by simp; omega⟩
    · cases h
  · split at h
    · cases h
    · unfold rowsR at h
      split at h
      · cases h
      · split at h
        · cases h
        · rename_i hn
          split at h
          · obtain rfl := Option.some.inj h
            refine ⟨by show (pushR _ _).length ≤ 4; unfold pushR; rw [List.length_set]; exact ok.four, by show (pushR _ _).flatten.length ≤ 12; omega, by show _ = (pushR _ _).length; unfold pushR; rw [List.length_set]; exact ok.marks⟩
          · cases h
theorem in_part (t : Str) : inV (V.str t) [V.str "part", V.str "part plain"] = decide (t = "part" ∨ t = "part plain") := by
  unfold inV
  simp only [List.any_cons, List.any_nil, Bool.or_false]
  rw [Bool.eq_iff_iff, Bool.or_eq_true, decide_eq_true_eq]
  simp only [eqV]
  constructor
  · rintro (h | h)
    · exact .inl (by simp at h; exact h.symm)
    · exact .inr (by simp at h; exact h.symm)
  · rintro (h | h) <;> subst h
    · exact .inl (by simp)
    · exact .inr (by simp)
end Lb

set_option Elab.async false
set_option linter.all false
set_option maxRecDepth 100000
set_option maxHeartbeats 4000000
/-! len(set(xs)) of lists of tuples of numbers and of tuples of numbers; t[::-1] of a tuple -/
namespace SL
open PySem PySem.Spec PyProof.Rows L2
section
variable {X : Cx}
/-- len(set(xs)), xs a list of tuples of numbers -/
def tLenSetT (K : PySem.W.Frag) (ta : TE) : TE := fun σ H Q => ta σ H fun x H1 => ∃ (l : Addr) (ks : List (Addr × List Int)), x = V.ref l ∧ SqL K H1 l (ks.map fun p => V.ref p.1) ∧ (∀ p ∈ ks, SqT K H1 p.1 (p.2.map V.int)) ∧ ks.length < 64 ∧
  ∀ L : List (Addr × List Int), (L.map (·.2)).Nodup → (∀ p ∈ L, p ∈ ks) → (∀ p ∈ ks, p.2 ∈ L.map (·.2)) → Q (.int (L.length : Nat)) H1
theorem pe_lenSetT {a : Expr} {ta : TE} {p p2 q pos : Pos} (hc : X.calm = true) (hu : X.A.units + 64 < cLine) (hg : Gl X "len") (hm : X.mg "len" = none) (hg2 : Gl X "set") (hm2 : X.mg "set" = none) (ha : PE X a ta)
    (na : starEach [a] X.env = (false, eval a X.env) :: starEach [] X.env := by rfl) : PE X (.Call (.Name "len" p) [.Call (.Name "set" p2) [a] [] q] [] pos) (tLenSetT X.K ta) := by
  refine ⟨fun pins s σ H Q I h => ?_⟩
  refine Call_ (ld_blt I hg hm PySem.boot_len ?_)
  refine PyProof.Rows.callWith_builtin1 (PyProof.Rows.args_cons ?_ rfl) rfl rfl
  refine Call_ (ld_blt I hg2 hm2 PyProof.Rows.boot_set ?_)
  refine PyProof.Rows.callWith_type1 (PyProof.Rows.args_cons (thn (ha.run pins s σ H _ I h) fun v s1 ⟨x, H1, I1, r1, q1⟩ => PyProof.Rows.args_nil ?_) na) na rfl
  obtain ⟨l, ks, rfl, hq, hk, hf, q1⟩ := q1
  cases r1
  obtain ⟨its, r, pl, hz⟩ := I1.list hq
  refine call_set_tups (P := X.prog) (w := X.w) ks (I1.ok.hd hc) pl.isList (by simpa using refs_of_vals r) (fun p hp => I1.isT (hk p hp)) hf (by omega) fun h' tk L es ep t R g k => ?_
  refine PyProof.Rows.args_nil ?_
  obtain ⟨o, ho, hex, hd⟩ := R.ob
  have sz : es.size = L.length := by
    have h := congrArg List.length R.rows
    unfold rowsOf at h
    rw [Array.length_toList, List.length_map] at h
    exact h
  have few := R.few
  have room := R.room
  have I2 : Inv X pins σ H1 { s1 with heap := h', toks := tk } := I1.kept fun b o e => k b o e
  have fits : t.fits es.size = true := SetTR.fits (s := { s1 with heap := h', toks := tk }) R
  refine call_len_set ho hex hd fits (by rw [sz] <;> omega) ⟨.int L.length, H1, I2.tok _, ⟨_, by rw [sz]⟩, q1 L R.nd (fun p hp => List.mem_of_mem_take (g.sub p hp)) fun p hp => g.all p (by rw [List.take_length]; exact hp)⟩
/-- len(set(t)), t a tuple of numbers -/
def tLenSetTI (K : PySem.W.Frag) (ta : TE) : TE := fun σ H Q => ta σ H fun x H1 => ∃ (l : Addr) (ns : List Int), x = V.ref l ∧ SqT K H1 l (ns.map V.int) ∧ ns.length < 60 ∧ ∀ L : List Int, L.Nodup → (∀ j, j ∈ L ↔ j ∈ ns) → Q (.int (L.length : Nat)) H1
theorem pe_lenSetTI {a : Expr} {ta : TE} {p p2 q pos : Pos} (hc : X.calm = true) (hg : Gl X "len") (hm : X.mg "len" = none) (hg2 : Gl X "set") (hm2 : X.mg "set" = none) (ha : PE X a ta)
    (na : starEach [a] X.env = (false, eval a X.env) :: starEach [] X.env := by rfl) : PE X (.Call (.Name "len" p) [.Call (.Name "set" p2) [a] [] q] [] pos) (tLenSetTI X.K ta) := by
  refine ⟨fun pins s σ H Q I h => ?_⟩
  refine Call_ (ld_blt I hg hm PySem.boot_len ?_)
  refine PyProof.Rows.callWith_builtin1 (PyProof.Rows.args_cons ?_ rfl) rfl rfl
  refine Call_ (ld_blt I hg2 hm2 PyProof.Rows.boot_set ?_)
  refine PyProof.Rows.callWith_type1 (PyProof.Rows.args_cons (thn (ha.run pins s σ H _ I h) fun v s1 ⟨x, H1, I1, r1, q1⟩ => PyProof.Rows.args_nil ?_) na) na rfl
  obtain ⟨l, ns, rfl, hq, hf, q1⟩ := q1
  cases r1
  obtain ⟨its, r, pl, hz⟩ := I1.tuple hq
  refine call_set_tupI (P := X.prog) (w := X.w) ns (I1.ok.hd hc) pl (by simpa using r.ints) (by unfold scanBound; omega) fun h' tk c S cn k => ?_
  refine PyProof.Rows.args_nil ?_
  obtain ⟨o, es, ep, t, ho, hex, hd, _, nd, mem, _, fits, sz, _⟩ := S
  have I2 : Inv X pins σ H1 { s1 with heap := h', toks := tk } := I1.kept fun b o e => k b o e
  have lz : (es.toList.map keyOf).length = es.size := by rw [List.length_map, Array.length_toList]
  have q2 := q1 (es.toList.map keyOf) nd (fun j => (mem j).symm.trans (by simp))
  rw [lz] at q2
  exact call_len_set ho hex hd fits (by omega) ⟨.int es.size, H1, I2.tok _, ⟨_, rfl⟩, q2⟩
end
end SL
namespace HT
open PySem PySem.Spec PyProof.Rows L2
section
variable {prog : Program} {w : World} {A : Around} {E : Value → Shared → Prop} {s : Shared}
theorem back_adjust (n : Nat) : Builtin.Slice.sliceAdjust none none (-1) (n : Int) = ((n : Int) - 1, -1) := by
  unfold Builtin.Slice.sliceAdjust
  simp
theorem back_places (n : Nat) : Builtin.Slice.slicePlaces ((n : Int) - 1) (-1) (-1) = n := by
  unfold Builtin.Slice.slicePlaces
  simp
  omega
theorem back_applied {sl : Addr} {vs : Value} {n : Nat} {Q : Int × Int × Nat → Shared → Prop} (hs : s.heap.IsSliceOf sl .none .none vs) (ps : IsPart vs (some (-1))) (h : Q ((n : Int) - 1, -1, n) s) : wpAny (model prog w) A (Builtin.Slice.sliceApplied (.ref sl) (pure (n : Int))) Q E s := by
  obtain ⟨os, hos, hcs, hds⟩ := id hs
  unfold Builtin.Slice.sliceApplied Builtin.Slice.sliceFields
  refine wpAny_bind (wpAny_bind (wpAny_field hos hds (x := .none) rfl (wpAny_bind (wpAny_field hos hds (x := .none) rfl (wpAny_bind (wpAny_field hos hds (x := vs) rfl (wpAny_pure ?_)))))))
  refine wpAny_bind (slicePart_ ps ?_)
  show wpAny _ _ (if ((-1 : Int) == 0) = true then _ else _) _ _ s
  rw [if_neg (by decide)]
  refine wpAny_bind (slicePart_ .none (wpAny_bind (slicePart_ .none (wpAny_bind (wpAny_pure ?_)))))
  show wpAny _ _ (match Builtin.Slice.sliceAdjust none none (-1) (n : Int) with | (lo, hi) => pure (lo, (-1 : Int), Builtin.Slice.slicePlaces lo hi (-1))) _ _ s
  rw [back_adjust]
  show wpAny _ _ (pure ((n : Int) - 1, (-1 : Int), Builtin.Slice.slicePlaces ((n : Int) - 1) (-1) (-1))) _ _ s
  rw [back_places]
  exact wpAny_pure h
theorem fm_congr {α β : Type} {f g : α → Option β} : ∀ {l : List α}, (∀ x ∈ l, f x = g x) → l.filterMap f = l.filterMap g
  | [], _ => rfl
  | x :: l, h => by
    rw [List.filterMap_cons, List.filterMap_cons, h x List.mem_cons_self, fm_congr fun y hy => h y (List.mem_cons_of_mem _ hy)]
theorem back_pick (xs : Array Value) : ((List.range xs.size).filterMap fun (m : Nat) => xs[(((xs.size : Nat) : Int) - 1 + (m : Int) * (-1)).toNat]?).toArray = xs.toList.reverse.toArray := by
  have h : ((List.range xs.size).map fun k => xs.size - 1 - k).filterMap (xs[·]?) = xs.toList.reverse := by
    rw [PySem.W.krv_range, List.filterMap_reverse, PySem.W.krv_all]
  rw [List.filterMap_map] at h
  have e : (List.range xs.size).filterMap (fun (m : Nat) => xs[(((xs.size : Nat) : Int) - 1 + (m : Int) * (-1)).toNat]?) = (List.range xs.size).filterMap ((xs[·]?) ∘ fun k => xs.size - 1 - k) := by
    apply fm_congr
    intro k hk
    have lt := List.mem_range.mp hk
    have e2 : (((xs.size : Nat) : Int) - 1 + (k : Int) * (-1)).toNat = xs.size - 1 - k := by omega
    rw [e2]
    rfl
  rw [e, h]
theorem getItem_tuple_back {t sl : Addr} {items : Array Value} {vs : Value} {Q : Value → Shared → Prop} (ht : IsTup s.heap t items) (hs : s.heap.IsSliceOf sl .none .none vs) (ps : IsPart vs (some (-1)))
    (h : Q (.ref s.heap.objs.size) { s with heap := s.heap.push { cls := .type "tuple", data := .seq items.toList.reverse.toArray } })
    (hsz : items.size ≤ sizeLine) : wpAny (model prog w) A (getItem (.ref t) (.ref sl)) Q E s := by
  have htake : sizeOk (.seq items.toList.reverse.toArray) := by
    show items.toList.reverse.toArray.size ≤ sizeLine
    rw [List.size_toArray, List.length_reverse, Array.length_toList]
    exact hsz
  obtain ⟨os, hos, hcs, hds⟩ := id hs
  have hTs : s.TypeIs (.ref sl) "slice" := ⟨os, hos, hcs⟩
  unfold getItem
  try with_reducible refine wpAny_holding ?_
  first | refine wpAny_bind (wpAny_pure ?_) | skip
  refine wpAny_bind (wpAny_sequenceKey ht.typeIs (by decide) ?_)
  refine wpAny_bind (wpAny_callSpecial?_slot (name := Str.ofString "__getitem__") ht.typeIs PyProof.Rows.slot_tuple_getitem
    (wpAny_call_entry PyProof.Rows.slot_tuple_getitem ht.typeIs entry_tuple_getitem ?_ (args_tuple_getitem _ _)))
  show wpAny _ _ (Builtin.Tuple.tupleItemsOf (.ref t) >>= _) _ _ s
  refine wpAny_bind (tupleItemsOf_ ht ?_)
  refine wpAny_bind (wpAny_typeOf hTs ?_)
  rw [if_pos (by decide)]
  refine wpAny_bind (back_applied hs ps ?_)
  have hno : ¬ ((((items.size : Nat) : Int) - 1 == 0 && (-1 : Int) == 1 && items.size == items.size) = true) := by
    intro q
    rw [Bool.and_eq_true, Bool.and_eq_true] at q
    exact absurd q.1.2 (by decide)
  show wpAny _ _ (if (((items.size : Nat) : Int) - 1 == 0 && (-1 : Int) == 1 && items.size == items.size) = true then _ else _) _ _ s
  rw [if_neg hno, back_pick]
  first
    | exact wpAny_bind (m := Builtin.Tuple.tupleExact _) (wpAny_newObj_type (wpAny_pure ⟨_, rfl, wpAny_pure h⟩) htake)
    | exact wpAny_bind (m := Builtin.Tuple.tupleExact _) (wpAny_newObj_type (wpAny_bind (wpAny_pure (wpAny_pure ⟨_, rfl, wpAny_pure h⟩))) htake)
end
end HT
namespace SL
open PySem PySem.Spec PyProof.Rows L2
/-- t[::-1], t a tuple: a new tuple -/
def tRevT (K : PySem.W.Frag) (te : TE) : TE := fun σ H Q => te σ H fun x H1 => ∃ a xs, x = .ref a ∧ SqT K H1 a xs ∧ ∀ p, H1 p = none → Q (.ref p) (upd H1 p (.tup xs.reverse))
section
variable {X : Cx}
theorem pe_revT {e : Expr} {te : TE} {k : Nat} {p1 p2 p3 pos : Pos} (he : PE X e te) : PE X (.Subscript e (.Slice none none (some (.UnaryOp .USub (.Constant (.int 1) k p1) p2)) p3) pos) (tRevT X.K te) := by
  refine ⟨fun pins s σ H Q I h => ?_⟩
  refine Subscript_ (thn (he.run pins s σ H _ I h) fun v s1 ⟨x, H1, I1, r1, q1⟩ => ?_)
  obtain ⟨a, xs, ex, hx, q⟩ := q1
  subst ex
  cases r1
  have hst : PO X (some (.UnaryOp .USub (.Constant (.int 1) k p1) p2)) (tPart (tUn (rU fun i => .int (-i)) (tC (.int 1)))) := po_some (pe_un un_neg pe_int)
  refine wpAny_Slice (thn (po_none.run pins s1 σ H1 (fun o H2 => o = none ∧ H2 = H1) I1 ⟨rfl, rfl⟩) fun vl s2 ⟨l, H2, I2, pl, el, e2⟩ => ?_)
  subst el e2
  refine thn (po_none.run pins s2 σ H2 (fun o H3 => o = none ∧ H3 = H2) I2 ⟨rfl, rfl⟩) fun vu s3 ⟨u, H3, I3, pu, eu, e3⟩ => ?_
  subst eu e3
  refine thn (hst.run pins s3 σ H3 (fun o H4 => o = some (-1) ∧ H4 = H3) I3 ⟨1, rfl, -1, rfl, rfl, rfl⟩) fun vs s4 ⟨o, H4, I4, ps, eo, e4⟩ => ?_
  subst eo e4
  have I5 : Inv X pins σ H4 { s4 with heap := s4.heap.push { cls := .type "slice", data := .fields #[vl, vu, vs] } } := I4.kept (t' := s4.toks) fun b ob q => Heap.get?_push_of_some _ q
  obtain ⟨its, r, ht, hz⟩ := I5.tuple hx
  have hlen := r.length
  show wpAny (model X.prog X.w) X.A (subscriptTail e (.Slice none none (some (.UnaryOp .USub (.Constant (.int 1) k p1) p2)) p3) (.ref a) (.ref s4.heap.objs.size)) (EP X pins σ Q) X.xe { s4 with heap := s4.heap.push { cls := .type "slice", data := .fields #[vl, vu, vs] } }
  refine tail_any (ops := [.ref a, .ref s4.heap.objs.size]) ht.typeIs PyProof.Rows.slot_tuple_getitem.lookup ?_ (by with_unfolding_all rfl)
  cases pl
  cases pu
  refine HT.getItem_tuple_back ht (Heap.IsSliceOf.new _ .none .none vs) ps ?_ (by rw [List.size_toArray]; omega)
  refine ⟨.ref _, _, I5.laid (t' := s4.toks) (o := .tup xs.reverse) (fun b ob q => Heap.get?_push_of_some _ q) (Nat.le_refl _) ?_, rfl, q _ (I5.hok.fresh (Nat.le_refl _))⟩
  exact ⟨by rw [List.length_reverse]; exact hz, its.reverse, r.reverse, IsTup.new _ _⟩
end
end SL

set_option Elab.async false
set_option linter.all false
set_option maxRecDepth 100000
set_option maxHeartbeats 4000000
/-! zip of a tuple and a list -/
namespace ZL
open PySem PySem.Spec PyProof.Rows L2
/-- the tuple at a and the list at b, in new pairs -/
def ItzM (K : PySem.W.Frag) (a b : Addr) : It where
  go := fun i H => ∃ (xs ys : List V) (x y : V), SqT K H a xs ∧ SqL K H b ys ∧ xs[i]? = some x ∧ ys[i]? = some y
  yld := fun i H v H' => ∃ T x y, v = .ref T ∧ H T = none ∧ H' = upd H T (.tup [x, y]) ∧ (∀ xs, SqT K H a xs → xs[i]? = some x) ∧ ∀ ys, SqL K H b ys → ys[i]? = some y
  stop := fun i H => ∃ xs ys : List V, SqT K H a xs ∧ SqL K H b ys ∧ i ≤ xs.length ∧ i ≤ ys.length ∧ (i = xs.length ∨ i = ys.length)
theorem sepM {a b z TI TO i1 i2 : Addr} (D : ZipApart z TI TO i1 i2 a b) : ZipSep2 z TI TO i1 i2 [i1, a] [i2, b] where
  TIz := D.TIz
  TOz := D.TOz
  TITO := D.TITO
  TIi1 := D.TIi1
  mem1 := List.mem_cons_self
  zf1 := by simp [D.i1z.symm, D.l1z.symm]
  Tf1 := by simp [D.TOi1, D.l1TO.symm]
  TIi2 := D.TIi2
  mem2 := List.mem_cons_self
  zf2 := by simp [D.i2z.symm, D.l2z.symm]
  Tf2 := by simp [D.TOi2, D.l2TO.symm]
  sep1_2 := by simp [D.i12, D.l2i1.symm]
  sep2_1 := by simp [D.i12.symm, D.l1i2.symm]
def ZSt (z TI TO i1 i2 a b : Addr) (i : Nat) (h : Heap) : Prop := IsZip h z TI TO .none ∧ IsPair h TI (.ref i1) (.ref i2) ∧ (∃ x y, IsPair h TO x y) ∧ h.IsTupleIter i1 a i ∧ h.IsListIter i2 b i
theorem five {z TI TO i1 i2 c : Addr} (h : c ∈ [z, TI, TO, i1, i2]) : c = z ∨ c = TI ∨ c = TO ∨ c = i1 ∨ c = i2 := by simpa using h
theorem turnM {P : Program} {w : World} {K : PySem.W.Frag} {elts : List Expr} {kk : Nat} {tpos : Pos} {a b z TI TO i1 i2 : Addr} (D : ZipApart z TI TO i1 i2 a b) :
    Turn P w K (.Tuple elts kk tpos) (ItzM K a b) [z, TI, TO, i1, i2] z (ZSt z TI TO i1 i2 a b) where
  mem := List.mem_cons_self
  obj := fun i h st c hc => by
    have ⟨hz, hTI, ⟨x, y, hTO⟩, ⟨o1, e1, _, d1⟩, ⟨o2, e2, _, d2⟩⟩ := st
    rcases five hc with q | q | q | q | q <;> subst q
    · exact ⟨_, hz, fun v q => nomatch q⟩
    · exact ⟨_, hTI, fun v q => nomatch q⟩
    · exact ⟨_, hTO, fun v q => nomatch q⟩
    · exact ⟨o1, e1, fun v q => by rw [d1] at q; exact nomatch q⟩
    · exact ⟨o2, e2, fun v q => by rw [d2] at q; exact nomatch q⟩
  keep := fun i h h' st k => by
    have ⟨hz, hTI, ⟨x, y, hTO⟩, h1, h2⟩ := st
    exact ⟨k _ (by simp) _ hz, k _ (by simp) _ hTI, ⟨x, y, k _ (by simp) _ hTO⟩, h1.at fun o q => k _ (by simp) o q, h2.at fun o q => k _ (by simp) o q⟩
  item := by
    intro X hP hw hK hc i pins s σ H E I hf st hg
    subst hP hw hK
    have ⟨hz, hTI, ⟨x0, y0, hTO⟩, h1, h2⟩ := st
    have ⟨xs, ys, x, y, hqx, hqy, hx, hy⟩ := hg
    have ⟨its, rv, p, _⟩ := I.tuple hqx
    have ⟨its2, rv2, p2, _⟩ := I.list hqy
    have ⟨u, hu, ru⟩ := rv.get hx
    have ⟨u2, hu2, ru2⟩ := rv2.get hy
    have hh := I.ok.hd hc
    have lt1 : i < its.toArray.size := by
      rw [List.size_toArray]
      exact (List.getElem?_eq_some_iff.mp hu).1
    have lt2 : i < its2.toArray.size := by
      rw [List.size_toArray]
      exact (List.getElem?_eq_some_iff.mp hu2).1
    refine wpAny_pyNext_zipD2_item (sepM D) (Draws.tuple (A := X.A.in1) hh i1 a D.l1i1 its.toArray) (Draws.list (A := X.A.in1) hh i2 b D.l2i2 its2.toArray) hz hTI hTO ⟨h1, p⟩ ⟨h2, p2.isList⟩ lt1 lt2 fun x1 x2 h' tk e1 e2 z' TO' st1 st2 hT hsz hk => ?_
    obtain rfl : u = x1 := by
      have e : its.toArray[i]? = some x1 := e1
      rw [List.getElem?_toArray, hu] at e
      exact Option.some.inj e
    obtain rfl : u2 = x2 := by
      have e : its2.toArray[i]? = some x2 := e2
      rw [List.getElem?_toArray, hu2] at e
      exact Option.some.inj e
    refine ⟨_, rfl, wpAny_letOwnedTupleGo_zip (s := { s with heap := h', toks := tk }) z' fun h'' z'' sb => ?_⟩
    have ge : ∀ {c o}, s.heap.get? c = some o → s.heap.objs.size ≠ c := fun e => Nat.ne_of_gt (Heap.lt_size e)
    have hT2 : h''.get? s.heap.objs.size = some { cls := .type "tuple", data := .seq #[u, u2] } := (sb.2 _ (ge hz)).trans hT
    have new : ObjOk X.prog X.w (upd H s.heap.objs.size (.tup [x, y])) h'' s.heap.objs.size (.tup [x, y]) :=
      ⟨by show 2 ≤ sizeLine; decide, [u, u2], .cons ru (.cons ru2 .nil), ⟨_, hT2, rfl, _, rfl⟩⟩
    have old : ∀ c o, c ∉ [z, TI, TO, i1, i2] → s.heap.get? c = some o → h''.get? c = some o := fun c o hb q => by
      have n : c ≠ z ∧ c ≠ TI ∧ c ≠ TO ∧ c ≠ i1 ∧ c ≠ i2 := by simpa using hb
      exact (sb.2 c n.1).trans (hk c o n.1 n.2.2.1 n.2.2.2.1 n.2.2.2.2 q)
    have I1 : Inv X pins σ (upd H s.heap.objs.size (.tup [x, y])) { s with heap := h'', toks := tk } := I.turnedNew (t' := tk) (ch := [z, TI, TO, i1, i2]) old hf (Nat.le_refl _) new
    refine ⟨.ref s.heap.objs.size, _, I1, rfl, ⟨_, x, y, rfl, I.hok.fresh (Nat.le_refl _), rfl, fun l hl => by rw [I.tuple_inj hl hqx]; exact hx, fun l hl => by rw [I.list_inj hl hqy]; exact hy⟩, ⟨z'', (sb.2 _ D.TIz).trans (hk _ _ D.TIz D.TITO D.TIi1 D.TIi2 hTI), ⟨u, u2, (sb.2 _ D.TOz).trans TO'⟩, st1.1.at fun o q => (sb.2 _ D.i1z).trans q, st2.1.at fun o q => (sb.2 _ D.i2z).trans q⟩, fun c hcm => ?_⟩
    have hlt : s.heap.objs.size ≠ c := by
      rcases five hcm with q | q | q | q | q <;> subst q
      · exact ge hz
      · exact ge hTI
      · exact ge hTO
      · obtain ⟨_, e1, _⟩ := h1
        exact ge e1
      · obtain ⟨_, e2, _⟩ := h2
        exact ge e2
    rw [upd_ne hlt.symm]
    exact (hf c hcm).1
  done := by
    intro X hP hw hK hc i pins s σ H E I hf st hg
    subst hP hw hK
    have ⟨hz, hTI, ⟨x0, y0, hTO⟩, h1, h2⟩ := st
    have ⟨xs, ys, hqx, hqy, le1, le2, hend⟩ := hg
    have ⟨its, rv, p, _⟩ := I.tuple hqx
    have ⟨its2, rv2, p2, _⟩ := I.list hqy
    have n1 : its.toArray.size = xs.length := by rw [List.size_toArray]; exact rv.length.symm
    have n2 : its2.toArray.size = ys.length := by rw [List.size_toArray]; exact rv2.length.symm
    have hh := I.ok.hd hc
    refine wpAny_pyNext_zipD2_end (sepM D) (Draws.tuple (A := X.A.in1) hh i1 a D.l1i1 its.toArray) (Draws.list (A := X.A.in1) hh i2 b D.l2i2 its2.toArray) hz hTI hTO ⟨h1, p⟩ ⟨h2, p2.isList⟩ (by rw [n1]; exact le1) (by rw [n2]; exact le2) (by rw [n1, n2]; exact hend) fun h' tk hk => ?_
    refine ⟨rfl, I.turnedL (t' := tk) (ch := [z, TI, TO, i1, i2]) (fun c o hb q => ?_) hf⟩
    have n : c ≠ z ∧ c ≠ TI ∧ c ≠ TO ∧ c ≠ i1 ∧ c ≠ i2 := by simpa using hb
    exact hk c o n.1 n.2.2.1 n.2.2.2.1 n.2.2.2.2 q
  self := fun A i s Q E st h => wpAny_pyIter_zip st.1 h
/-! the call -/
def g1 (h : Heap) (a : Addr) : Heap := h.push { cls := .type "tuple_iterator", data := .fields #[.ref a, .int 0 0] }
def g2 (h : Heap) (a b : Addr) : Heap := (g1 h a).push { cls := .type "list_iterator", data := .fields #[.ref b, .int 0 0] }
def g3 (h : Heap) (a b : Addr) : Heap := (g2 h a b).push { cls := .type "tuple", data := .seq #[.ref h.objs.size, .ref (g1 h a).objs.size] }
def g4 (h : Heap) (a b : Addr) : Heap := (g3 h a b).push { cls := .type "tuple", data := .seq #[.none, .none] }
def g5 (h : Heap) (a b : Addr) : Heap := (g4 h a b).push { cls := .type "zip", data := .fields #[.none, .bool false, .bool false, .ref (g2 h a b).objs.size, .ref (g3 h a b).objs.size] }
theorem meetsM (a b : Addr) (xs ys : Array Value) :
    Meets (Builtin.«zip.__new__» ⟨[.type "zip", .ref a, .ref b], []⟩) (fun _ R s => s.heap.IsTuple a xs ∧ s.heap.IsList b ys ∧ R (.ok (.ret (.ref (g4 s.heap a b).objs.size))) { s with heap := g5 s.heap a b }) :=
  .of_wp fun prog w A R s h => by
    obtain ⟨hp, g, d, tk, os⟩ := s
    obtain ⟨hl1, hl2, h⟩ := h
    have hsub := sub_zip
    have hL1 : Heap.IsTuple (Shared.heap ⟨hp, g, d, tk, os⟩) a xs := hl1
    have hL2 : Heap.IsList (Shared.heap ⟨hp.push { cls := .type "tuple_iterator", data := .fields #[.ref a, .int 0 0] }, g, d, tk, os⟩) b ys := hl2.push _
    wp_walk using wpAny_pyIter_tuple hL1, wpAny_pyIter_list hL2
    exact ⟨_, rfl, h⟩
theorem push5 {h : Heap} {a b c : Addr} {o : Obj} (x : h.get? c = some o) : (g5 h a b).get? c = some o := Heap.get?_push_of_some _ (Heap.get?_push_of_some _ (Heap.get?_push_of_some _ (Heap.get?_push_of_some _ (Heap.get?_push_of_some _ x))))
section
variable {prog : Program} {w : World} {A : Around} {E : Value → Shared → Prop} {s : Shared}
theorem callM {a b : Addr} {xs ys : Array Value} {Q : Value → Shared → Prop} (hl1 : s.heap.IsTuple a xs) (hl2 : s.heap.IsList b ys)
    (h : ∀ h', ZSt (s.heap.objs.size + 4) (s.heap.objs.size + 2) (s.heap.objs.size + 3) s.heap.objs.size (s.heap.objs.size + 1) a b 0 h' →
      (∀ c o, s.heap.get? c = some o → h'.get? c = some o) → Q (.ref (s.heap.objs.size + 4)) { s with heap := h' }) :
    wpAny (model prog w) A (call (.type "zip") [.ref a, .ref b]) Q E s := by
  refine callType_new F.called_zip (by decide) (F.typeCall_zip_2 _ _) (F.newCall_zip_2 _ _) (fun obj => F.args_object_init_3 obj _ _) F.entry_zip_new (meetsM a b xs ys) ⟨hl1, hl2, ?_⟩
  have z1 : (g1 s.heap a).objs.size = s.heap.objs.size + 1 := Heap.size_push ..
  have z2 : (g2 s.heap a b).objs.size = s.heap.objs.size + 2 := by unfold g2; rw [Heap.size_push, z1]
  have z3 : (g3 s.heap a b).objs.size = s.heap.objs.size + 3 := by unfold g3; rw [Heap.size_push, z2]
  have z4 : (g4 s.heap a b).objs.size = s.heap.objs.size + 4 := by unfold g4; rw [Heap.size_push, z3]
  have a5 : (g5 s.heap a b).get? (g4 s.heap a b).objs.size = some _ := Heap.get?_push_size _ rfl
  have a4 : (g5 s.heap a b).get? (g3 s.heap a b).objs.size = some _ := Heap.get?_push_of_some _ (Heap.get?_push_size _ rfl)
  have a3 : (g5 s.heap a b).get? (g2 s.heap a b).objs.size = some _ := Heap.get?_push_of_some _ (Heap.get?_push_of_some _ (Heap.get?_push_size _ rfl))
  have a2 : (g5 s.heap a b).get? (g1 s.heap a).objs.size = some _ := Heap.get?_push_of_some _ (Heap.get?_push_of_some _ (Heap.get?_push_of_some _ (Heap.get?_push_size _ rfl)))
  have a1 : (g5 s.heap a b).get? s.heap.objs.size = some _ := Heap.get?_push_of_some _ (Heap.get?_push_of_some _ (Heap.get?_push_of_some _ (Heap.get?_push_of_some _ (Heap.get?_push_size _ rfl))))
  show _ ∧ _
  rw [z2, z3, z4] at a5
  rw [z1, z2] at a3
  rw [z3] at a4
  rw [z1] at a2
  rw [z4]
  exact ⟨⟨_, a5, rfl⟩, h _ ⟨a5, a3, ⟨_, _, a4⟩, ⟨_, a1, rfl, rfl⟩, ⟨_, a2, rfl, rfl⟩⟩ fun c o x => push5 x⟩
end
/-- zip(t, xs), t a tuple, xs a list -/
def iZipM (K : PySem.W.Frag) (ta : TA) : TI := fun σ H R => ta σ H fun vs H1 => ∃ a b xs ys, vs = [.ref a, .ref b] ∧ SqT K H1 a xs ∧ SqL K H1 b ys ∧ R (ItzM K a b) H1
theorem pi_zipM {X : Cx} {e e2 : Expr} {ta : TA} {p pos tpos : Pos} {elts : List Expr} {kk : Nat} (hg : Gl X "zip") (hm : X.mg "zip" = none) (ha : PA X [e, e2] ta)
    (hs : starEach [e, e2] X.env = (false, eval e X.env) :: starEach [e2] X.env := by rfl) (hpl : (backTo pos (starEach [e2] X.env)).any (·.1) = false := by rfl) :
    PI X (.Tuple elts kk tpos) (.Call (.Name "zip" p) [e, e2] [] pos) (iZipM X.K ta) := by
  refine ⟨fun pins s σ H R I h => ?_⟩
  refine Call_ (ld_blt I hg hm PyProof.Rows.boot_zip (PyProof.Rows.callWith_type1 (thn (ha.run pos pins s σ H _ I h) fun us s1 ⟨vs, H1, I1, r1, q1⟩ => ?_) hs hpl))
  obtain ⟨a, b, xs, ys, ex, hqx, hqy, q⟩ := q1
  subst ex
  cases r1 with
  | cons r rr =>
    cases rr with
    | cons r' rr =>
      cases rr
      cases r
      cases r'
      have fresh : ∀ c, c ∈ [s1.heap.objs.size + 4, s1.heap.objs.size + 2, s1.heap.objs.size + 3, s1.heap.objs.size, s1.heap.objs.size + 1] → FpOk X pins H1 c := fun c hcm => by
        have hle : s1.heap.objs.size ≤ c := by
          rcases five hcm with z | z | z | z | z <;> rw [z]
          · exact Nat.le_add_right _ _
          · exact Nat.le_add_right _ _
          · exact Nat.le_add_right _ _
          · exact Nat.le_refl _
          · exact Nat.le_add_right _ _
        exact I1.fpOk hle (I1.hok.fresh hle)
      obtain ⟨its, rv, p1, _⟩ := I1.tuple hqx
      obtain ⟨its2, rv2, p2, _⟩ := I1.list hqy
      obtain ⟨o1, ho1, _⟩ := id p1
      refine callM (show s1.heap.IsTuple a its.toArray from p1) p2.isList fun h' st hk => wpAny_pyIter_zip st.1 ?_
      have I2 : Inv X pins σ H1 { s1 with heap := h' } := I1.kept (t' := s1.toks) hk
      exact ⟨s1.heap.objs.size + 4, [s1.heap.objs.size + 4, s1.heap.objs.size + 2, s1.heap.objs.size + 3, s1.heap.objs.size, s1.heap.objs.size + 1], _, _, H1, rfl, I2, turnM (PySem.W.ktu_apart s1.heap.objs.size a b (Heap.lt_size ho1) p2.lt), st, fresh, q⟩
/-- its walk -/
theorem walkM {K : PySem.W.Frag} {a b : Addr} {xs ys : List V} {n : Nat} (hn : n = min xs.length ys.length) : Walk (ItzM K a b) n (fun H => SqT K H a xs ∧ SqL K H b ys) (YPair (fun i => xs[i]?) (fun i => ys[i]?)) := by
  subst hn
  refine ⟨fun i _ hi q => ?_, fun _ q => ⟨xs, ys, q.1, q.2, by omega, by omega, by omega⟩, fun i H v H' _ q y => ?_⟩
  · have c1 : i < xs.length := by omega
    have c2 : i < ys.length := by omega
    exact ⟨xs, ys, xs[i], ys[i], q.1, q.2, List.getElem?_eq_getElem c1, List.getElem?_eq_getElem c2⟩
  · obtain ⟨T, x, z, h1, h2, h3, h4, h5⟩ := y
    exact ⟨T, x, z, h1, h2, h3, h4 xs q.1, h5 ys q.2⟩
end ZL

set_option Elab.async false
set_option linter.all false
set_option maxRecDepth 100000
set_option maxHeartbeats 4000000
/-! layouts of a program, as data -/
namespace Lb
open PySem PySem.Spec PyProof.Rows L2
theorem card_iff {α : Type} [DecidableEq α] : ∀ {ns L : List α}, L.Nodup → (∀ j, j ∈ L ↔ j ∈ ns) → (L.length = ns.length ↔ ns.Nodup)
  | [], L, _, m => by
    have e : L = [] := List.eq_nil_iff_forall_not_mem.mpr fun x h => nomatch (m x).mp h
    rw [e]
    exact ⟨fun _ => .nil, fun _ => rfl⟩
  | y :: t, L, nd, m => by
    have yL : y ∈ L := (m y).mpr List.mem_cons_self
    have pos : 0 < L.length := List.length_pos_of_mem yL
    have le : (L.erase y).length = L.length - 1 := List.length_erase_of_mem yL
    by_cases yt : y ∈ t
    · constructor
      · intro e
        exfalso
        have few : ∀ {L M : List α}, L.Nodup → (∀ x ∈ L, x ∈ M) → L.length ≤ M.length := fun {L} => by
          induction L with
          | nil => intro M _ _; exact Nat.zero_le _
          | cons x L ih =>
            intro M nd h
            rw [List.nodup_cons] at nd
            have xm := h x List.mem_cons_self
            have z := ih (M := M.erase x) nd.2 fun z hz => (List.mem_erase_of_ne fun e => nd.1 (by rw [← e]; exact hz)).mpr (h z (List.mem_cons_of_mem _ hz))
            rw [List.length_erase_of_mem xm] at z
            have := List.length_pos_of_mem xm
            show L.length + 1 ≤ M.length
            omega
        have z := few nd (M := t) fun x hx => by
          rcases List.mem_cons.mp ((m x).mp hx) with q | q
          · rw [q]
            exact yt
          · exact q
        rw [e, List.length_cons] at z
        omega
      · intro h
        exact absurd yt (List.nodup_cons.mp h).1
    · have ih := card_iff (ns := t) (L := L.erase y) (nd.erase y) fun j => by
        rw [nd.mem_erase_iff]
        constructor
        · rintro ⟨ne, h⟩
          exact (List.mem_cons.mp ((m j).mp h)).resolve_left ne
        · intro h
          exact ⟨fun e => yt (by rw [← e]; exact h), (m j).mpr (List.mem_cons_of_mem _ h)⟩
      rw [List.nodup_cons, List.length_cons]
      constructor
      · intro e
        exact ⟨yt, ih.mp (by omega)⟩
      · intro h
        have := ih.mpr h.2
        omega
def plQ (x : PyData) : Nat × Nat := ((valI (nthD x 0)).toNat, (valI (nthD x 1)).toNat)
theorem plQ_pD (q : Nat × Nat) : plQ (pD q) = q := by
  show (((q.1 : Int).toNat), ((q.2 : Int).toNat)) = q
  rw [Int.toNat_natCast, Int.toNat_natCast]
theorem plQ_map (qs : List (Nat × Nat)) : (qs.map pD).map plQ = qs := by
  rw [List.map_map]
  have e : plQ ∘ pD = id := funext plQ_pD
  rw [e, List.map_id]
def packsB (P d : PyData) : Bool := tupB d 0 8 && ((itemsD d).all isTup && ((rowsOfD d).all (fun x => placeB P x) && decide ((rowsOfD d).map plQ).Nodup))
def laidB (d : PyData) (door many : Int) : Bool := tupB d 2 2 && (intB (nthD d 0) && (decide (valI (nthD d 0) = door) && (isTup (nthD d 1) && ((itemsD (nthD d 1)).all (fun x => numB x many) && decide ((itemsD (nthD d 1)).map valI).Nodup))))
def laidsB (d : PyData) (ns : List Int) (many : Int) : Bool := tupB d ns.length ns.length && ((List.range ns.length).map fun i => laidB ((itemsD d).getD i .none) (ns.getD i 0) many).all id
def layB (P : PyData) (ns : List Int) (d : PyData) : Bool := tupB d 2 2 && (packsB P (nthD d 0) && laidsB (nthD d 1) ns ((itemsD (nthD d 0)).length : Int))
theorem places_of {P : PyData} {l : List PyData} (h : l.all (fun x => placeB P x) = true) : l = (l.map plQ).map pD := by
  rw [List.map_map]
  conv => lhs; rw [← List.map_id l]
  apply List.map_congr_left
  intro x hx
  obtain ⟨i, j, rfl, _⟩ := placeB_iff.mp (List.all_eq_true.mp h x hx)
  show placeD i j = pD (plQ (pD (i, j)))
  rw [plQ_pD]
  rfl
/-- a drawn layout -/
structure Lay where
  packs : List (List (Nat × Nat))
  nums : List (Int × List Int)
def packD (qs : List (Nat × Nat)) : PyData := .tuple (qs.map pD)
def doorD (p : Int × List Int) : PyData := .tuple [.int p.1, .tuple (p.2.map .int)]
def Lay.d (L : Lay) : PyData := .tuple [.tuple (L.packs.map packD), .tuple (L.nums.map doorD)]
structure Lay.Ok (P : PyData) (ns : List Int) (L : Lay) : Prop where
  eight : L.packs.length ≤ 8
  once : L.packs.flatten.Nodup
  places : ∀ q ∈ L.packs.flatten, q ∈ pairsOf P
  doors : L.nums.map Prod.fst = ns
  nums : ∀ p ∈ L.nums, p.2.Nodup ∧ ∀ k ∈ p.2, 0 ≤ k ∧ k < (L.packs.length : Int)
theorem rows_packs (ps : List (List (Nat × Nat))) : rowsOfD (.tuple (ps.map packD)) = ps.flatten.map pD := by
  show (ps.map packD).flatMap itemsD = _
  rw [List.flatMap_map, List.map_flatten, List.flatMap_def]
  rfl
theorem packs_ok {P : PyData} {ps : List (List (Nat × Nat))} {qs : List PyData} (hP : nthD P 0 = .tuple qs) (h8 : ps.length ≤ 8) (nd : ps.flatten.Nodup) (pl : ∀ q ∈ ps.flatten, q ∈ pairsOf P) : packsB P (.tuple (ps.map packD)) = true := by
  unfold packsB
  rw [rows_packs, plQ_map, decide_eq_true nd]
  have e : pairsOf P = pairsTo qs qs.length := by unfold pairsOf; rw [hP]; rfl
  rw [place_all hP (fun q hq => by rw [← e]; exact pl q hq), tupB_ok (by omega) (by rw [List.length_map]; omega)]
  have z : (itemsD (.tuple (ps.map packD))).all isTup = true := by
    rw [List.all_eq_true]
    intro x hx
    obtain ⟨q, _, rfl⟩ := List.mem_map.mp hx
    rfl
  rw [z]
  rfl
theorem laid_ok {door many : Int} {ks : List Int} (nd : ks.Nodup) (h : ∀ k ∈ ks, 0 ≤ k ∧ k < many) : laidB (doorD (door, ks)) door many = true := by
  unfold laidB doorD
  have e1 : (itemsD (nthD (PyData.tuple [.int door, .tuple (ks.map .int)]) 1)).map valI = ks := by
    show (ks.map PyData.int).map valI = ks
    rw [List.map_map]
    have e : valI ∘ PyData.int = id := funext fun _ => rfl
    rw [e, List.map_id]
  rw [e1, decide_eq_true nd]
  have e2 : (itemsD (nthD (PyData.tuple [.int door, .tuple (ks.map .int)]) 1)).all (fun x => numB x many) = true := by
    show (ks.map PyData.int).all (fun x => numB x many) = true
    rw [List.all_map, List.all_eq_true]
    intro k hk
    exact numB_ok (h k hk).1 (h k hk).2
  rw [e2]
  show (true && (true && (decide (door = door) && (true && (true && true))))) = true
  rw [decide_eq_true rfl]
  rfl
theorem laids_ok {ns : List Int} {many : Int} {l : List (Int × List Int)} (hf : l.map Prod.fst = ns) (h : ∀ p ∈ l, p.2.Nodup ∧ ∀ k ∈ p.2, 0 ≤ k ∧ k < many) : laidsB (.tuple (l.map doorD)) ns many = true := by
  unfold laidsB
  have ln : l.length = ns.length := by rw [← hf, List.length_map]
  rw [tupB_ok (by rw [List.length_map, ln]; exact Int.le_refl _) (by rw [List.length_map, ln]; exact Int.le_refl _), Bool.true_and, List.all_map, List.all_eq_true]
  intro i hi
  have lt : i < l.length := by rw [ln]; exact List.mem_range.mp hi
  have e1 : (itemsD (PyData.tuple (l.map doorD))).getD i .none = doorD l[i] := getD_of (by rw [show itemsD (PyData.tuple (l.map doorD)) = l.map doorD from rfl, List.getElem?_map, List.getElem?_eq_getElem lt]; rfl)
  have e2 : ns.getD i 0 = l[i].1 := by
    rw [← hf, List.getD_eq_getElem?_getD, List.getElem?_map, List.getElem?_eq_getElem lt]
    rfl
  show laidB _ _ _ = true
  rw [e1, e2]
  have z := h _ (List.getElem_mem lt)
  exact laid_ok z.1 z.2
theorem lay_ok {P : PyData} {ns : List Int} {qs : List PyData} {L : Lay} (hP : nthD P 0 = .tuple qs) (h : L.Ok P ns) : layB P ns L.d = true := by
  unfold layB
  show (true && (packsB P (.tuple (L.packs.map packD)) && laidsB (.tuple (L.nums.map doorD)) ns ((L.packs.map packD).length : Int))) = true
  rw [packs_ok hP h.eight h.once h.places, List.length_map, laids_ok h.doors h.nums]
  rfl
/-! spoilt ones -/
section
variable {P x y : PyData} {ns : List Int}
theorem bad_two {ds : List PyData} (h : ds.length ≠ 2) : layB P ns (.tuple ds) = false := by
  have e : tupB (.tuple ds) 2 2 = false := by
    show (true && (decide (2 ≤ (ds.length : Int)) && decide ((ds.length : Int) ≤ 2))) = false
    by_cases c : 2 ≤ (ds.length : Int)
    · rw [decide_eq_false (p := (ds.length : Int) ≤ 2) (by omega)]
      simp
    · rw [decide_eq_false c]
      rfl
  unfold layB
  rw [e]
  rfl
theorem bad_packs (h : packsB P x = false) : layB P ns (.tuple [x, y]) = false := by
  show (true && (packsB P x && _)) = false
  rw [h]
  rfl
theorem bad_laids {many : Int} (hm : ((itemsD x).length : Int) = many) (h : laidsB y ns many = false) : layB P ns (.tuple [x, y]) = false := by
  show (true && (packsB P x && laidsB y ns ((itemsD x).length : Int))) = false
  rw [hm, h]
  simp
theorem packs_dup {ps : List PyData} {p : PyData} (h : ∃ i j : Nat, i < j ∧ (ps.flatMap itemsD)[i]? = some p ∧ (ps.flatMap itemsD)[j]? = some p) : packsB P (.tuple ps) = false := by
  obtain ⟨i, j, lt, hi, hj⟩ := h
  have e : decide ((rowsOfD (.tuple ps)).map plQ).Nodup = false := by
    apply decide_eq_false
    intro nd
    have nd2 : ((ps.flatMap itemsD).map plQ).Nodup := nd
    have ei : ((ps.flatMap itemsD).map plQ)[i]? = some (plQ p) := by rw [List.getElem?_map, hi]; rfl
    have ej : ((ps.flatMap itemsD).map plQ)[j]? = some (plQ p) := by rw [List.getElem?_map, hj]; rfl
    have := (List.getElem?_inj (List.getElem?_eq_some_iff.mp ei).1 nd2).mp (ei.trans ej.symm)
    omega
  unfold packsB
  rw [e]
  simp
theorem packs_no {ps : List PyData} {p : PyData} (hp : p ∈ ps.flatMap itemsD) (h : placeB P p = false) : packsB P (.tuple ps) = false := by
  have e : (rowsOfD (.tuple ps)).all (fun x => placeB P x) = false := by
    rw [List.all_eq_false]
    exact ⟨p, hp, by rw [h]; exact fun z => nomatch z⟩
  unfold packsB
  rw [e]
  simp
theorem packs_list {ps : List PyData} {p : PyData} (hp : p ∈ ps) (h : isTup p = false) : packsB P (.tuple ps) = false := by
  have e : (itemsD (.tuple ps)).all isTup = false := by
    rw [List.all_eq_false]
    exact ⟨p, hp, by rw [h]; exact fun z => nomatch z⟩
  unfold packsB
  rw [e]
  simp
theorem laids_len {many : Int} {ds : List PyData} (h : ds.length ≠ ns.length) : laidsB (.tuple ds) ns many = false := by
  have e : tupB (.tuple ds) ns.length ns.length = false := by
    show (true && (decide ((ns.length : Int) ≤ (ds.length : Int)) && decide ((ds.length : Int) ≤ (ns.length : Int)))) = false
    by_cases c : (ns.length : Int) ≤ (ds.length : Int)
    · rw [decide_eq_false (p := (ds.length : Int) ≤ (ns.length : Int)) (by omega)]
      simp
    · rw [decide_eq_false c]
      rfl
  unfold laidsB
  rw [e]
  rfl
theorem laids_at {many : Int} {ds : List PyData} {i : Nat} {d : PyData} (hi : i < ns.length) (hd : ds[i]? = some d) (h : laidB d (ns.getD i 0) many = false) : laidsB (.tuple ds) ns many = false := by
  have e : ((List.range ns.length).map fun i => laidB ((itemsD (PyData.tuple ds)).getD i .none) (ns.getD i 0) many).all id = false := by
    rw [List.all_map, List.all_eq_false]
    refine ⟨i, List.mem_range.mpr hi, ?_⟩
    show ¬ laidB (ds.getD i .none) (ns.getD i 0) many = true
    rw [getD_of hd, h]
    exact fun z => nomatch z
  unfold laidsB
  rw [e]
  simp
theorem laid_nums {door k many : Int} {ks : List PyData} (hk : PyData.int k ∈ ks) (h : ¬ (0 ≤ k ∧ k < many)) (d : Int) : laidB (.tuple [.int d, .tuple ks]) door many = false := by
  have e : ks.all (fun x => numB x many) = false := by
    rw [List.all_eq_false]
    refine ⟨_, hk, fun z => ?_⟩
    obtain ⟨i, e, h0, h1⟩ := numB_iff.mp z
    injection e with e
    exact h ⟨by omega, by omega⟩
  show (true && (true && (_ && (true && (ks.all (fun x => numB x many) && _))))) = false
  rw [e]
  simp
theorem laid_other {door many d : Int} {y : PyData} (h : d ≠ door) : laidB (.tuple [.int d, y]) door many = false := by
  show (true && (true && (decide (d = door) && _))) = false
  rw [decide_eq_false h]
  rfl
end
end Lb
namespace Lb
open PySem PySem.Spec PyProof.Rows L2
def pNs (q : Nat × Nat) : List Int := [(q.1 : Int), (q.2 : Int)]
theorem pNs_inj {p q : Nat × Nat} (h : pNs p = pNs q) : p = q := by
  unfold pNs at h
  injection h with h1 h
  injection h with h2 _
  exact Prod.ext (by omega) (by omega)
theorem pairs_nodup {qs : List (Nat × Nat)} : (qs.map pNs).Nodup ↔ qs.Nodup := by
  constructor
  · intro h
    exact List.Pairwise.of_map pNs (fun a b ne e => ne (by rw [e])) h
  · intro h
    refine List.pairwise_map.mpr (h.imp fun ne e => ne (pNs_inj e))
theorem places_keys {S : List Addr} {H : Hp} : ∀ {vs : List V} {qs : List (Nat × Nat)}, Reps S H vs (qs.map pD) → ∃ ks : List (Addr × List Int), vs = ks.map (fun p => V.ref p.1) ∧ ks.map Prod.snd = qs.map pNs ∧ ∀ p ∈ ks, H p.1 = some (.tup (p.2.map V.int))
  | _, [], .nil => ⟨[], rfl, rfl, fun _ z => nomatch z⟩
  | _, q :: qs, .cons r rs => by
    obtain ⟨ks, e1, e2, h⟩ := places_keys rs
    obtain ⟨a, x, y, rfl, ha, rx, ry⟩ := Rep.two r
    obtain rfl := rx.intV
    obtain rfl := ry.intV
    refine ⟨(a, pNs q) :: ks, by rw [e1, List.map_cons], by rw [List.map_cons, e2, List.map_cons], fun p hp => ?_⟩
    rcases List.mem_cons.mp hp with z | z
    · rw [z]
      exact ha
    · exact h p z
end Lb
namespace Lb
open PySem PySem.Spec PyProof.Rows L2
/-! lists that change, and what stands in them -/
theorem Rep.avoids {H : Hp} {v : V} {d : PyData} (no : noLst d = true) (r : Rep [] H v d) : ∀ S : List Addr, (∀ z ∈ S, ∃ zs, H z = some (.lst zs)) → Rep S H v d
  | [], _ => r
  | z :: S, h => by
    obtain ⟨zs, hz⟩ := h z List.mem_cons_self
    exact Rep.avoid hz d v no (Rep.avoids no r S fun y hy => h y (List.mem_cons_of_mem _ hy))
theorem Reps.avoids {H : Hp} {vs : List V} {ds : List PyData} (no : noLsts ds = true) (r : Reps [] H vs ds) : ∀ S : List Addr, (∀ z ∈ S, ∃ zs, H z = some (.lst zs)) → Reps S H vs ds
  | [], _ => r
  | z :: S, h => by
    obtain ⟨zs, hz⟩ := h z List.mem_cons_self
    exact Reps.avoid hz ds vs no (Reps.avoids no r S fun y hy => h y (List.mem_cons_of_mem _ hy))
theorem Reps.bare {S : List Addr} {H : Hp} {vs : List V} {ds : List PyData} (r : Reps S H vs ds) : Reps [] H vs ds := r.less fun a z => absurd z List.not_mem_nil
theorem Rep.bare {S : List Addr} {H : Hp} {v : V} {d : PyData} (r : Rep S H v d) : Rep [] H v d := Rep.less (fun a z => absurd z List.not_mem_nil) _ _ r
theorem Reps.past {S : List Addr} {H H' : Hp} {vs : List V} {ds : List PyData} (no : noLsts ds = true) (r : Reps [] H vs ds) (h : ∀ z ∈ S, ∃ zs, H z = some (.lst zs)) (b : But S H H') : Reps [] H' vs ds := ((r.avoids no S h).mv b).bare
theorem Rep.past {S : List Addr} {H H' : Hp} {v : V} {d : PyData} (no : noLst d = true) (r : Rep [] H v d) (h : ∀ z ∈ S, ∃ zs, H z = some (.lst zs)) (b : But S H H') : Rep [] H' v d := ((r.avoids no S h).mv b).bare
theorem But.thin {S T : List Addr} {H H' : Hp} (a : But S H H') (h : ∀ x ∈ S, x ∉ T → H x = none) : But T H H' := fun b o nb e => by
  refine a b o (fun m => ?_) e
  have z := h b m nb
  rw [e] at z
  exact nomatch z
theorem noLst_pairs (qs : List (Nat × Nat)) : noLsts (qs.map pD) = true := noLst_all fun x hx => by
  obtain ⟨y, _, rfl⟩ := List.mem_map.mp hx
  rfl
theorem noLst_ints (ks : List Int) : noLsts (ks.map PyData.int) = true := noLst_all fun x hx => by
  obtain ⟨y, _, rfl⟩ := List.mem_map.mp hx
  rfl
theorem noLst_door (p : Int × List Int) : noLst (doorD p) = true := by
  show (noLst (.int p.1) && (noLst (.tuple (p.2.map .int)) && true)) = true
  rw [show noLst (PyData.tuple (p.2.map .int)) = noLsts (p.2.map .int) from rfl, noLst_ints]
  rfl
theorem noLst_doors (l : List (Int × List Int)) : noLsts (l.map doorD) = true := noLst_all fun x hx => by
  obtain ⟨y, _, rfl⟩ := List.mem_map.mp hx
  exact noLst_door y
theorem noLst_pack (qs : List (Nat × Nat)) : noLst (packD qs) = true := noLst_pairs qs
theorem noLst_packs (l : List (List (Nat × Nat))) : noLsts (l.map packD) = true := noLst_all fun x hx => by
  obtain ⟨y, _, rfl⟩ := List.mem_map.mp hx
  exact noLst_pack y
/-- the lists ls hold these places -/
def PksAt (H : Hp) (ls : List Addr) (qss : List (List (Nat × Nat))) : Prop := ls.length = qss.length ∧ ∀ (j : Nat) (x : Addr), ls[j]? = some x → ∃ vs qs, H x = some (.lst vs) ∧ qss[j]? = some qs ∧ Reps [] H vs (qs.map pD)
theorem PksAt.past {S : List Addr} {H H' : Hp} {ls : List Addr} {qss : List (List (Nat × Nat))} (p : PksAt H ls qss) (h : ∀ z ∈ S, ∃ zs, H z = some (.lst zs)) (b : But S H H') (ap : ∀ x ∈ ls, x ∉ S) : PksAt H' ls qss := by
  refine ⟨p.1, fun j x hj => ?_⟩
  obtain ⟨vs, qs, h1, h2, h3⟩ := p.2 j x hj
  exact ⟨vs, qs, b x _ (ap x (List.mem_of_getElem? hj)) h1, h2, Reps.past (noLst_pairs qs) h3 h b⟩
theorem PksAt.sm {H H' : Hp} {ls : List Addr} {qss : List (List (Nat × Nat))} (p : PksAt H ls qss) (s : Same H H') : PksAt H' ls qss :=
  p.past (S := []) (fun _ z => absurd z List.not_mem_nil) (.of s) fun _ _ => List.not_mem_nil
theorem PksAt.lists {H : Hp} {ls : List Addr} {qss : List (List (Nat × Nat))} (p : PksAt H ls qss) : ∀ z ∈ ls, ∃ zs, H z = some (.lst zs) := fun z hz => by
  obtain ⟨j, hj⟩ := List.mem_iff_getElem?.mp hz
  obtain ⟨vs, _, h, _⟩ := p.2 j z hj
  exact ⟨vs, h⟩
theorem PksAt.put {H : Hp} {ls : List Addr} {qss : List (List (Nat × Nat))} (p : PksAt H ls qss) (nd : ls.Nodup) {a : Nat} {x : Addr} {vs' : List V} {qs' : List (Nat × Nat)} (hx : ls[a]? = some x) (r : Reps [] H vs' (qs'.map pD)) :
    PksAt (upd H x (.lst vs')) ls (qss.set a qs') := by
  obtain ⟨vs0, qs0, h0, hq0, _⟩ := p.2 a x hx
  have b : But [x] H (upd H x (.lst vs')) := But.refl.upd List.mem_cons_self
  have hz : ∀ z ∈ [x], ∃ zs, H z = some (.lst zs) := fun z hz => by rw [List.mem_singleton.mp hz]; exact ⟨_, h0⟩
  refine ⟨by rw [List.length_set]; exact p.1, fun j y hj => ?_⟩
  by_cases e : j = a
  · subst e
    obtain rfl : x = y := Option.some.inj (hx.symm.trans hj)
    exact ⟨vs', qs', upd_same, by rw [List.getElem?_set_self (List.getElem?_eq_some_iff.mp hq0).1], Reps.past (noLst_pairs _) r hz b⟩
  · have yx : y ≠ x := fun z => e ((List.getElem?_inj (List.getElem?_eq_some_iff.mp hj).1 nd).mp (by rw [hj, hx, z]))
    obtain ⟨vs, qs, h1, h2, h3⟩ := p.2 j y hj
    exact ⟨vs, qs, by rw [upd_ne yx]; exact h1, by rw [List.getElem?_set_ne (Ne.symm e)]; exact h2, Reps.past (noLst_pairs _) h3 hz b⟩
theorem flat_put {α : Type} {qs : List α} (u : Nat) (q : α) : ∀ {qss : List (List α)} {a : Nat}, qss[a]? = some qs → (qss.set a (qs.take u ++ [q] ++ qs.drop u)).flatten.Perm (q :: qss.flatten)
  | [], _, h => by simp at h
  | x :: xs, 0, h => by
    obtain rfl : x = qs := by simpa using h
    have e : (x.take u ++ [q] ++ x.drop u).Perm (q :: x) := by
      have z := List.perm_middle (a := q) (l₁ := x.take u) (l₂ := x.drop u)
      rw [List.take_append_drop] at z
      rw [List.append_assoc]
      exact z
    exact e.append_right xs.flatten
  | x :: xs, a + 1, h => by
    have ih := flat_put u q (qss := xs) (a := a) (by simpa using h)
    exact (ih.append_left x).trans List.perm_middle
theorem many_at {u : Int} (h0 : 0 ≤ u) (h1 : u < 6) : ∃ m : Nat, atI [V.int 1, .int 2, .int 3, .int 4, .int 0, .int 8] u = some (.int (m : Nat)) ∧ m ≤ 8 := by
  rcases (by omega : u = 0 ∨ u = 1 ∨ u = 2 ∨ u = 3 ∨ u = 4 ∨ u = 5) with e | e | e | e | e | e <;> subst e
  · exact ⟨1, rfl, by decide⟩
  · exact ⟨2, rfl, by decide⟩
  · exact ⟨3, rfl, by decide⟩
  · exact ⟨4, rfl, by decide⟩
  · exact ⟨0, rfl, by decide⟩
  · exact ⟨8, rfl, by decide⟩
theorem ins_perm {α : Type} (ks : List α) (u : Nat) (q : α) : (ks.take u ++ [q] ++ ks.drop u).Perm (q :: ks) := by
  have z := List.perm_middle (a := q) (l₁ := ks.take u) (l₂ := ks.drop u)
  rw [List.take_append_drop] at z
  rw [List.append_assoc]
  exact z
end Lb
namespace Lb
open PySem PySem.Spec PyProof.Rows L2
theorem flat_rep {α : Type} : ∀ m : Nat, (List.replicate m ([] : List α)).flatten = []
  | 0 => rfl
  | m + 1 => by
    rw [List.replicate_succ, List.flatten_cons, flat_rep m]
    rfl
theorem pairs_len {d : PyData} (h : progB d = true) : (pairsOf d).length ≤ 20 := by
  obtain ⟨ps, m, es, o, rfl, F⟩ := prog_of h
  have z := upTo_len F.five ps.length
  have four := F.four
  have e : (placesD (.tuple [.tuple ps, m, .tuple es, o])).length = (pairsOf (.tuple [.tuple ps, m, .tuple es, o])).length := by rw [places_pairs, List.length_map]
  have e2 : (placesD (.tuple [.tuple ps, m, .tuple es, o])).length ≤ 5 * ps.length := z
  omega
end Lb
namespace Lb
theorem card_le {α : Type} [DecidableEq α] : ∀ {L M : List α}, L.Nodup → (∀ x ∈ L, x ∈ M) → L.length ≤ M.length
  | [], _, _, _ => Nat.zero_le _
  | x :: L, M, nd, h => by
    rw [List.nodup_cons] at nd
    have xm := h x List.mem_cons_self
    have z := card_le (M := M.erase x) nd.2 fun z hz => (List.mem_erase_of_ne fun e => nd.1 (by rw [← e]; exact hz)).mpr (h z (List.mem_cons_of_mem _ hz))
    rw [List.length_erase_of_mem xm] at z
    have := List.length_pos_of_mem xm
    show L.length + 1 ≤ M.length
    omega
end Lb

set_option Elab.async false
set_option linter.all false
set_option maxRecDepth 100000
set_option maxHeartbeats 4000000
/-! steps of a way -/
namespace Lb
open PySem PySem.Spec PyProof.Rows L2
theorem Way.one {P : Prog} {own index k k' : Nat} {ps : List (Nat × Nat)} (a : Way P own index k ps) (b : Way P own index k' ps) : k = k' := by
  cases a with
  | nil =>
    generalize e : ([] : List (Nat × Nat)) = qs at b
    cases b with
    | nil => rfl
    | snoc _ _ _ _ _ =>
      have z := congrArg List.length e
      rw [List.length_append] at z
      exact absurd z (by show (0 : Nat) ≠ _ + 1; omega)
  | @snoc i j _ r qs w1 h1 n1 _ _ =>
    generalize e : qs ++ [(i, j)] = zs at b
    cases b with
    | nil =>
      have z := congrArg List.length e
      rw [List.length_append] at z
      exact absurd z (by show _ + 1 ≠ (0 : Nat); omega)
    | @snoc i' j' _ r' qs' w2 h2 n2 _ _ =>
      obtain ⟨_, e⟩ := List.append_inj' e rfl
      injection e with e _
      injection e with e1 e2
      subst e1 e2
      rw [h1] at h2
      rw [Option.some.inj h2, n2] at n1
      exact (Option.some.inj n1).symm
theorem Way.at_ {P : Prog} {own index k : Nat} {ps : List (Nat × Nat)} (w : Way P own index k ps) : ∀ n, n < ps.length → ∃ i j r k', Way P own index i (ps.take n) ∧ ps[n]? = some (i, j) ∧ (rowsOfP P i)[j]? = some r ∧ namedOf r = some k' ∧ (i = own → j < index) ∧ RdyP P own index 4 k' ∧ Way P own index k' (ps.take (n + 1)) := by
  induction w with
  | nil => exact fun n h => absurd h (Nat.not_lt_zero n)
  | @snoc i j k r qs w1 h1 n1 f1 r1 ih =>
    intro n h
    rw [List.length_append, List.length_singleton] at h
    rcases Nat.lt_or_ge n qs.length with c | c
    · obtain ⟨i', j', r', k', a1, a2, a3, a4, a5, a6, a7⟩ := ih n c
      exact ⟨i', j', r', k', by rw [List.take_append_of_le_length (by omega)]; exact a1, by rw [List.getElem?_append_left c]; exact a2, a3, a4, a5, a6, by rw [List.take_append_of_le_length (by omega)]; exact a7⟩
    · have e : n = qs.length := by omega
      subst e
      exact ⟨i, j, r, k, by rw [List.take_left]; exact w1, by rw [List.getElem?_append_right (Nat.le_refl _), Nat.sub_self]; rfl, h1, n1, f1, r1, by rw [List.take_of_length_le (by rw [List.length_append]; exact Nat.le_refl _)]; exact .snoc w1 h1 n1 f1 r1⟩
theorem eqv_st (p q : Nat × Nat) : PyData.eqv (stD p) (stD q) = decide (p = q) := by
  obtain ⟨a, b⟩ := p
  obtain ⟨c, d⟩ := q
  simp only [stD, PyData.eqv, PyData.eqvAll, Bool.and_true]
  rw [Bool.eq_iff_iff, Bool.and_eq_true, beq_iff_eq, beq_iff_eq, decide_eq_true_eq, Prod.mk.injEq]
  omega
theorem any_st (l : List (Nat × Nat)) (q : Nat × Nat) : ((l.map stD).any fun z => PyData.eqv z (stD q)) = decide (q ∈ l) := by
  rw [List.any_map, Bool.eq_iff_iff, List.any_eq_true, decide_eq_true_eq]
  constructor
  · rintro ⟨p, hp, e⟩
    have e : PyData.eqv (stD p) (stD q) = true := e
    rw [eqv_st, decide_eq_true_eq] at e
    rw [← e]
    exact hp
  · intro h
    exact ⟨q, h, by show PyData.eqv (stD q) (stD q) = true; rw [eqv_st, decide_eq_true rfl]⟩
theorem lay_sts : ∀ l : List (Nat × Nat), PyData.canLayAll0 (l.map stD) = true
  | [] => by simp only [List.map_nil, PyData.canLayAll0]
  | k :: l => by simp only [List.map_cons, PyData.canLayAll0, stD, PyData.canLay0, lay_sts l, Bool.and_true]
theorem depth_sts : ∀ l : List (Nat × Nat), PyData.depthAll (l.map stD) ≤ 2
  | [] => by simp only [List.map_nil, PyData.depthAll]; omega
  | k :: l => by
    have := depth_sts l
    simp only [List.map_cons, PyData.depthAll, stD, PyData.depth]
    omega
theorem shaped_sts (l : List (Nat × Nat)) : SeqAt.shaped (stsD l) = true := by
  have := depth_sts l
  unfold SeqAt.shaped stsD
  rw [Bool.and_eq_true, decide_eq_true_eq]
  refine ⟨by simp only [PyData.canLay0]; exact lay_sts l, by simp only [PyData.depth]; omega⟩
theorem shaped_st (q : Nat × Nat) : SeqAt.shaped (stD q) = true := by
  unfold SeqAt.shaped stD
  rw [Bool.and_eq_true, decide_eq_true_eq]
  refine ⟨by simp only [PyData.canLay0, PyData.canLayAll0]; rfl, by simp only [PyData.depth, PyData.depthAll]; omega⟩
theorem noDict_sts : ∀ l : List (Nat × Nat), noDicts (l.map stD) = true
  | [] => rfl
  | k :: l => by rw [List.map_cons, noDicts, noDict_sts l]; rfl
theorem row_part {P : Prog} {o i : Nat} {r : Row} (h : (rowsOfP P o)[i]? = some r) : ∃ rs, P.parts[o]? = some rs ∧ rs[i]? = some r := by
  unfold rowsOfP at h
  rw [List.getD_eq_getElem?_getD] at h
  cases e : P.parts[o]? with
  | none => rw [e] at h; exact nomatch h
  | some rs => rw [e] at h; exact ⟨rs, rfl, h⟩
theorem eqv_sts : ∀ l : List (Nat × Nat), PyData.eqv (stsD l) (stsD l) = true := fun l => by
  have z : ∀ l : List (Nat × Nat), PyData.eqvAll (l.map stD) (l.map stD) = true := fun l => by
    induction l with
    | nil => rfl
    | cons q l ih =>
      rw [List.map_cons, PyData.eqvAll, ih, eqv_st, decide_eq_true rfl]
      rfl
  show PyData.eqv (.list _) (.list _) = true
  simp only [PyData.eqv]
  exact z l
theorem ways_uniq : ∀ {ws : List WayAt} {q q' : WayAt}, (keysW ws).Nodup → q ∈ ws → q' ∈ ws → q.k = q'.k → q = q'
  | [], _, _, _, h, _, _ => absurd h List.not_mem_nil
  | w :: ws, q, q', nd, h, h', e => by
    have nd := List.nodup_cons.mp nd
    rcases List.mem_cons.mp h with rfl | h1
    · rcases List.mem_cons.mp h' with rfl | h2
      · rfl
      · exact absurd (List.mem_map.mpr ⟨q', h2, e.symm⟩) nd.1
    · rcases List.mem_cons.mp h' with rfl | h2
      · exact absurd (List.mem_map.mpr ⟨q, h1, e⟩) nd.1
      · exact ways_uniq nd.2 h1 h2 e
theorem WaysAt.only {P : Prog} {own index : Nat} {H0 H : Hp} {ws : List WayAt} (w : WaysAt P own index H0 H ws) {q : WayAt} (hq : q ∈ ws) : (q.k, q.ps) ∈ resF P own index ∧ ∀ ps', (q.k, ps') ∈ resF P own index → ps' = q.ps := by
  rw [← w.dt]
  refine ⟨List.mem_map.mpr ⟨q, hq, rfl⟩, fun ps' h => ?_⟩
  obtain ⟨q', hq', e⟩ := List.mem_map.mp h
  have e : (q'.k, q'.ps) = (q.k, ps') := e
  injection e with e1 e2
  rw [← e2, ways_uniq w.nd hq' hq e1]
end Lb

set_option Elab.async false
set_option linter.all false
set_option maxRecDepth 100000
set_option maxHeartbeats 4000000
/-! lots and layouts as texts -/
namespace Lb
open PySem PySem.Spec PyProof.Rows L2 TL
abbrev Pl := Nat × Nat
def placeT (q : Pl) : Str := digT (q.1 : Int) ++ ":" ++ digT (q.2 : Int)
def lotT (qs : List Pl) : Str := Txt.join " " (qs.map placeT)
def packT (qs : List Pl) : Str := Txt.join " " (("pack" : Str) :: qs.map placeT)
def digitsT (ks : List Int) : Str := if ks = [] then "-" else Txt.join "" (ks.map digT)
def doorT (p : Int × List Int) : Str := "door " ++ digT p.1 ++ " " ++ digitsT p.2
def layLines (L : Lay) : List Str := L.packs.map packT ++ L.nums.map doorT
def layT (L : Lay) : Str := Txt.join "\n" (layLines L)
def Pl.ok (q : Pl) : Prop := q.1 < 10 ∧ q.2 < 10
theorem placeT_free {q : Pl} (h : Pl.ok q) {s : Nat} (hs : s ∈ [32, 10, 45]) : s ∉ tl (placeT q) := by
  obtain ⟨h1, h2⟩ := h
  have up : ∀ x ∈ [32, 10, 45], x ∈ signs ∧ x ∉ tl (":" : Str) := by decide +kernel
  have u := up s hs
  exact free_app (free_app (plain_free (dig_plain (by omega) (by omega)) u.1) u.2) (plain_free (dig_plain (by omega) (by omega)) u.1)
theorem placeT_part {q : Pl} (h : Pl.ok q) : Txt.partition (placeT q) ":" = (digT (q.1 : Int), (":" : Str), digT (q.2 : Int)) := by
  obtain ⟨h1, h2⟩ := h
  exact partition_app (y := ":") (s := 58) (S := []) (by decide +kernel) (ten (P := fun i => (58 : Nat) ∉ tl (digT i)) (by decide +kernel) (by omega) (by omega))
theorem placeT_len {q : Pl} (h : Pl.ok q) : (placeT q).length = 3 := by
  obtain ⟨h1, h2⟩ := h
  have l1 := ten (P := fun i => (digT i).length = 1) (by decide +kernel) (i := (q.1 : Int)) (by omega) (by omega)
  have l2 := ten (P := fun i => (digT i).length = 1) (by decide +kernel) (i := (q.2 : Int)) (by omega) (by omega)
  unfold placeT
  rw [len_app, len_app, l1, l2]
  rfl
theorem lot_split {qs : List Pl} (ne : qs ≠ []) (h : ∀ q ∈ qs, Pl.ok q) : Txt.split (lotT qs) " " = qs.map placeT :=
  split_join (y := " ") (s := 32) (S := []) (by decide +kernel) (by decide +kernel) (by simpa using ne) fun t ht => by
    obtain ⟨q, hq, rfl⟩ := List.mem_map.mp ht
    exact placeT_free (h q hq) (by decide)
theorem pack_split {qs : List Pl} (h : ∀ q ∈ qs, Pl.ok q) : Txt.split (packT qs) " " = ("pack" : Str) :: qs.map placeT :=
  split_join (y := " ") (s := 32) (S := []) (by decide +kernel) (by decide +kernel) (by simp) fun t ht => by
    rcases List.mem_cons.mp ht with rfl | ht
    · decide +kernel
    · obtain ⟨q, hq, rfl⟩ := List.mem_map.mp ht
      exact placeT_free (h q hq) (by decide)
theorem lotT_nil : lotT [] = "" := by unfold lotT; rw [join_eq]; rfl
theorem lotT_ne {qs : List Pl} (ne : qs ≠ []) (h : ∀ q ∈ qs, Pl.ok q) : lotT qs ≠ "" := fun e => by
  have sp := lot_split ne h
  rw [e, show Txt.split "" " " = ([""] : List Str) by decide +kernel] at sp
  cases qs with
  | nil => exact ne rfl
  | cons q l =>
    rw [List.map_cons] at sp
    have z := placeT_len (h q List.mem_cons_self)
    rw [← (List.cons.inj sp).1] at z
    exact absurd z (by decide +kernel)
theorem sum_const {α : Type} (f : α → Str) (n : Nat) : ∀ l : List α, (∀ x ∈ l, (f x).length ≤ n) → ((l.map f).map (·.length)).sum ≤ l.length * n := fun l h => by
  rw [List.map_map]
  exact sum_le _ n _ fun x hx => h x hx
theorem lotT_len {qs : List Pl} (few : qs.length ≤ 20) (h : ∀ q ∈ qs, Pl.ok q) : (lotT qs).length ≤ 100 := by
  have h1 := join_len " " (qs.map placeT)
  have h2 := sum_const placeT 3 qs fun q hq => Nat.le_of_eq (placeT_len (h q hq))
  have h3 : ((" " : Str)).length = 1 := by decide +kernel
  rw [List.length_map, h3] at h1
  show (Txt.join " " (qs.map placeT)).length ≤ 100
  omega
theorem packT_len {qs : List Pl} (few : qs.length ≤ 20) (h : ∀ q ∈ qs, Pl.ok q) : (packT qs).length ≤ 110 := by
  have h1 := join_len " " (("pack" : Str) :: qs.map placeT)
  have h2 := sum_const placeT 3 qs fun q hq => Nat.le_of_eq (placeT_len (h q hq))
  have h3 : ((" " : Str)).length = 1 := by decide +kernel
  have h4 : (("pack" : Str)).length = 4 := by decide +kernel
  rw [List.map_cons, List.sum_cons, List.length_cons, List.length_map, h3, h4] at h1
  show (Txt.join " " (("pack" : Str) :: qs.map placeT)).length ≤ 110
  omega
def NumsOk (p : Int × List Int) : Prop := 0 ≤ p.1 ∧ p.1 < 10 ∧ p.2.length ≤ 8 ∧ ∀ k ∈ p.2, 0 ≤ k ∧ k < 10
theorem digits_free {ks : List Int} (h : ∀ k ∈ ks, 0 ≤ k ∧ k < 10) {s : Nat} (hs : s ∈ [32, 10]) : s ∉ tl (digitsT ks) := by
  unfold digitsT
  split
  · have all : ∀ x ∈ [32, 10], x ∉ tl ("-" : Str) := by decide +kernel
    exact all s hs
  · have all : ∀ x ∈ [32, 10], x ∉ tl ("" : Str) ∧ x ∈ signs := by decide +kernel
    refine join_free (all s hs).1 fun t ht => ?_
    obtain ⟨k, hk, rfl⟩ := List.mem_map.mp ht
    exact plain_free (dig_plain (h k hk).1 (h k hk).2) (all s hs).2
theorem digits_back {ks : List Int} (ne : ks ≠ []) (h : ∀ k ∈ ks, 0 ≤ k ∧ k < 10) : digitsT ks ≠ "-" ∧ numsR (digitsT ks) = some ks := by
  unfold digitsT
  rw [if_neg ne]
  have nb := nums_back ne h
  refine ⟨fun e => ?_, nb⟩
  rw [e, show numsR "-" = none by decide +kernel] at nb
  cases nb
theorem digits_len {ks : List Int} (few : ks.length ≤ 8) (h : ∀ k ∈ ks, 0 ≤ k ∧ k < 10) : (digitsT ks).length ≤ 20 := by
  unfold digitsT
  split
  · decide +kernel
  · have h1 := join_len "" (ks.map digT)
    have h2 := sum_const digT 2 ks fun k hk => digT_len (by have := (h k hk).1; omega) (h k hk).2
    have h3 : (("" : Str)).length = 0 := by decide +kernel
    rw [List.length_map, h3] at h1
    omega
theorem door_words (p : Int × List Int) : doorT p = Txt.join " " [("door" : Str), digT p.1, digitsT p.2] := by
  unfold doorT
  rw [join_more, join_more, join_one, show ("door " : Str) = "door" ++ " " by decide +kernel]
  simp only [app3]
theorem door_split {p : Int × List Int} (h : NumsOk p) : Txt.split (doorT p) " " = [("door" : Str), digT p.1, digitsT p.2] := by
  rw [door_words]
  refine split_join (y := " ") (s := 32) (S := []) (by decide +kernel) (by decide +kernel) (by simp) fun t ht => ?_
  simp only [List.mem_cons, List.not_mem_nil, or_false] at ht
  rcases ht with rfl | rfl | rfl
  · decide +kernel
  · exact plain_free (dig_plain h.1 h.2.1) (by decide)
  · exact digits_free h.2.2.2 (by decide)
theorem door_len {p : Int × List Int} (h : NumsOk p) : (doorT p).length ≤ 40 := by
  have h1 := digT_len (i := p.1) (by have := h.1; omega) h.2.1
  have h2 := digits_len h.2.2.1 h.2.2.2
  have h3 : (("door " : Str)).length = 5 := by decide +kernel
  have h4 : ((" " : Str)).length = 1 := by decide +kernel
  unfold doorT
  rw [len_app, len_app, len_app, h3, h4]
  omega
theorem starts_pre (x y : Str) : Txt.startswith x y = ((tl x).take (tl y).length == tl y) := by
  unfold Txt.startswith
  rw [PySem.StrLaws.subAt_eq, List.drop_zero]
  have l1 := len_tl x
  have l2 := len_tl y
  rw [show y.length = (tl y).length from l2]
  cases h : ((tl x).take (tl y).length == tl y)
  · rw [Bool.and_false]
  · rw [Bool.and_true]
    have e := congrArg List.length (beq_iff_eq.mp h)
    rw [List.length_take] at e
    exact decide_eq_true (by omega)
theorem pack_starts (qs : List Pl) : Txt.startswith (packT qs) "pack" = true := by
  rw [starts_pre]
  unfold packT
  cases qs with
  | nil => rw [List.map_nil, join_one]; decide +kernel
  | cons q l =>
    rw [List.map_cons, join_more, tl_append, tl_append, List.append_assoc, List.take_left']
    · exact beq_self_eq_true _
    · rfl
theorem door_starts (p : Int × List Int) : Txt.startswith (doorT p) "pack" = false := by
  rw [starts_pre]
  unfold doorT
  rw [tl_append, tl_append, tl_append, List.append_assoc, List.append_assoc]
  have e : tl ("door " : Str) = [100, 111, 111, 114, 32] := by decide +kernel
  have e2 : tl ("pack" : Str) = [112, 97, 99, 107] := by decide +kernel
  rw [e, e2]
  rfl
/-- what is drawn: packs of places, numbers for each door -/
structure LayOk (P : Prog) (ns : List Int) (L : Lay) : Prop where
  eight : L.packs.length ≤ 8
  once : L.packs.flatten.Nodup
  places : ∀ q ∈ L.packs.flatten, q ∈ placesP P P.parts.length
  doors : L.nums.map Prod.fst = ns
  nums : ∀ p ∈ L.nums, p.2.Nodup ∧ ∀ k ∈ p.2, 0 ≤ k ∧ k < (L.packs.length : Int)
  few : ∀ p ∈ L.nums, p.2.length ≤ 8
theorem place_small {P : Prog} (ok : P.Ok) {q : Pl} (h : q ∈ placesP P P.parts.length) : Pl.ok q := by
  obtain ⟨a, k⟩ := q
  obtain ⟨h1, h2⟩ := placesP_mem.mp h
  have := ok.four
  have := rowsOfP_len ok a
  exact ⟨by show a < 10; omega, by show k < 10; omega⟩
theorem place_in {P : Prog} {q : Pl} (h : q ∈ placesP P P.parts.length) : placeB P.d (stD q) = true := by
  obtain ⟨a, k⟩ := q
  obtain ⟨h1, h2⟩ := placesP_mem.mp h
  exact place_ok h1 h2
theorem placesP_many {P : Prog} (ok : P.Ok) : (placesP P P.parts.length).length ≤ 20 := by
  have := placesP_len ok P.parts.length
  have := ok.four
  omega
theorem placesP_up (P : Prog) : ∀ i : Nat, (placesP P i).Pairwise fun p q => p.1 < q.1 ∨ (p.1 = q.1 ∧ p.2 < q.2)
  | 0 => .nil
  | i + 1 => by
    rw [placesP_succ, List.pairwise_append]
    refine ⟨placesP_up P i, ?_, fun p hp q hq => ?_⟩
    · unfold partPl
      rw [List.pairwise_map]
      exact List.Pairwise.imp (fun h => .inr ⟨rfl, h⟩) List.pairwise_lt_range
    · obtain ⟨a, k⟩ := p
      unfold partPl at hq
      obtain ⟨j, _, rfl⟩ := List.mem_map.mp hq
      exact .inl (placesP_mem.mp hp).1
theorem placesP_nd (P : Prog) (i : Nat) : (placesP P i).Nodup := by
  refine List.Pairwise.imp (fun {p q} h e => ?_) (placesP_up P i)
  rw [e] at h
  omega
theorem st_lt {p q : Pl} (h : p.1 < q.1 ∨ (p.1 = q.1 ∧ p.2 < q.2)) : PySem.W.dataLt (stD p) (stD q) = true := by
  show PySem.W.dataLt (pD p) (pD q) = true
  exact (pD_lt p q).mpr h
theorem lot_in {P : Prog} {l : List Pl} (h : ∀ q ∈ l, q ∈ placesP P P.parts.length) (up : l.Pairwise fun p q => p.1 < q.1 ∨ (p.1 = q.1 ∧ p.2 < q.2)) : lotB P.d (.tuple (l.map stD)) = true := by
  unfold lotB
  have e1 : (itemsD (.tuple (l.map stD))).all (fun x => placeB P.d x) = true := by
    rw [List.all_eq_true]
    intro x hx
    obtain ⟨q, hq, rfl⟩ := List.mem_map.mp hx
    exact place_in (h q hq)
  rw [e1, show itemsD (.tuple (l.map stD)) = l.map stD from rfl, ascB_of stD _ (fun a b lt => st_lt lt) l up]
  rfl
theorem plQ_st (q : Pl) : plQ (stD q) = q := plQ_pD q
theorem packs_in {P : Prog} {ps : List (List Pl)} (h8 : ps.length ≤ 8) (nd : ps.flatten.Nodup) (pl : ∀ q ∈ ps.flatten, q ∈ placesP P P.parts.length) : packsB P.d (.tuple (ps.map packD)) = true := by
  unfold packsB
  rw [rows_packs, plQ_map, decide_eq_true nd, tupB_ok (by omega) (by rw [List.length_map]; omega)]
  have z : (itemsD (.tuple (ps.map packD))).all isTup = true := by
    rw [List.all_eq_true]
    intro x hx
    obtain ⟨q, _, rfl⟩ := List.mem_map.mp hx
    rfl
  have e1 : (ps.flatten.map pD).all (fun x => placeB P.d x) = true := by
    rw [List.all_eq_true]
    intro x hx
    obtain ⟨q, hq, rfl⟩ := List.mem_map.mp hx
    exact place_in (pl q hq)
  rw [z, e1]
  rfl
theorem lay_in {P : Prog} {ns : List Int} {L : Lay} (h : LayOk P ns L) : layB P.d ns L.d = true := by
  unfold layB
  show (true && (packsB P.d (.tuple (L.packs.map packD)) && laidsB (.tuple (L.nums.map doorD)) ns ((L.packs.map packD).length : Int))) = true
  rw [packs_in h.eight h.once h.places, List.length_map, laids_ok h.doors h.nums]
  rfl
theorem packs_few {P : Prog} (ok : P.Ok) {ns : List Int} {L : Lay} (h : LayOk P ns L) : L.packs.flatten.length ≤ 20 := by
  have z := card_le h.once h.places
  have := placesP_many ok
  omega
theorem nums_ok {P : Prog} (ok : P.Ok) {ns : List Int} (mem : ∀ k, k ∈ ns ↔ k ∈ doorsD P.d) {L : Lay} (h : LayOk P ns L) {p : Int × List Int} (hp : p ∈ L.nums) : NumsOk p := by
  have m : p.1 ∈ ns := by
    rw [← h.doors]
    exact List.mem_map.mpr ⟨p, hp, rfl⟩
  obtain ⟨d0, d1⟩ := (door_iff ok).mp ((mem p.1).mp m)
  have dl := door_lt ok d1
  have := ok.four
  have e8 := h.eight
  exact ⟨d0, by omega, h.few p hp, fun k hk => ⟨((h.nums p hp).2 k hk).1, by have := ((h.nums p hp).2 k hk).2; omega⟩⟩
theorem nums_few {P : Prog} (ok : P.Ok) {ns : List Int} (few : ns.length ≤ 15) {L : Lay} (h : LayOk P ns L) : L.nums.length ≤ 15 := by
  have e := congrArg List.length h.doors
  rw [List.length_map] at e
  omega
theorem pack_few {P : Prog} (ok : P.Ok) {ns : List Int} {L : Lay} (h : LayOk P ns L) {qs : List Pl} (hq : qs ∈ L.packs) : qs.length ≤ 20 ∧ ∀ q ∈ qs, Pl.ok q := by
  have z := packs_few ok h
  have y := (List.sublist_flatten_of_mem hq).length_le
  exact ⟨by omega, fun q m => place_small ok (h.places q (List.mem_flatten.mpr ⟨qs, hq, m⟩))⟩
theorem lay_lines_free {P : Prog} (ok : P.Ok) {ns : List Int} (mem : ∀ k, k ∈ ns ↔ k ∈ doorsD P.d) {L : Lay} (h : LayOk P ns L) : ∀ l ∈ layLines L, (10 : Nat) ∉ tl l ∧ l.length ≤ 110 := by
  intro l hl
  rcases List.mem_append.mp hl with z | z
  · obtain ⟨qs, hq, rfl⟩ := List.mem_map.mp z
    obtain ⟨f, o⟩ := pack_few ok h hq
    refine ⟨join_free (by decide +kernel) fun t ht => ?_, packT_len f o⟩
    rcases List.mem_cons.mp ht with rfl | ht
    · decide +kernel
    · obtain ⟨q, hq, rfl⟩ := List.mem_map.mp ht
      exact placeT_free (o q hq) (by decide)
  · obtain ⟨p, hp, rfl⟩ := List.mem_map.mp z
    have n := nums_ok ok mem h hp
    refine ⟨?_, Nat.le_trans (door_len n) (by decide)⟩
    unfold doorT
    exact free_app (free_app (free_app (by decide +kernel) (plain_free (dig_plain n.1 n.2.1) (by decide))) (by decide +kernel)) (digits_free n.2.2.2 (by decide))
theorem lay_lines_len {P : Prog} (ok : P.Ok) {ns : List Int} (few : ns.length ≤ 15) {L : Lay} (h : LayOk P ns L) : (layLines L).length ≤ 23 := by
  have := h.eight
  have := nums_few ok few h
  unfold layLines
  rw [List.length_append, List.length_map, List.length_map]
  omega
theorem lay_split {P : Prog} (ok : P.Ok) {ns : List Int} (mem : ∀ k, k ∈ ns ↔ k ∈ doorsD P.d) {L : Lay} (h : LayOk P ns L) (ne : layLines L ≠ []) : Txt.split (layT L) "\n" = layLines L :=
  split_join (y := "\n") (s := 10) (S := []) (by decide +kernel) (by decide +kernel) ne fun l hl => (lay_lines_free ok mem h l hl).1
theorem lay_sum {P : Prog} (ok : P.Ok) {ns : List Int} (mem : ∀ k, k ∈ ns ↔ k ∈ doorsD P.d) (few : ns.length ≤ 15) {L : Lay} (h : LayOk P ns L) : ((layLines L).map (·.length)).sum + (layLines L).length * (("\n" : Str)).length ≤ 5000 := by
  have h1 := sum_le (fun x : Str => x.length) 110 (layLines L) fun l hl => (lay_lines_free ok mem h l hl).2
  have h2 := lay_lines_len ok few h
  have h3 := nl_len
  rw [h3]
  omega
theorem lay_len {P : Prog} (ok : P.Ok) {ns : List Int} (mem : ∀ k, k ∈ ns ↔ k ∈ doorsD P.d) (few : ns.length ≤ 15) {L : Lay} (h : LayOk P ns L) : (layT L).length ≤ 5000 := by
  have h1 := join_len "\n" (layLines L)
  have := lay_sum ok mem few h
  show (Txt.join "\n" (layLines L)).length ≤ 5000
  omega
theorem packs_of_lines (L : Lay) : (layLines L).filterMap (fun l => if Txt.startswith l "pack" = true then some (V.str l) else none) = (L.packs.map packT).map V.str := by
  unfold layLines
  rw [List.filterMap_append]
  have e1 : (L.packs.map packT).filterMap (fun l => if Txt.startswith l "pack" = true then some (V.str l) else none) = (L.packs.map packT).map V.str := by
    rw [List.filterMap_map, List.map_map]
    induction L.packs with
    | nil => rfl
    | cons q l ih =>
      rw [List.filterMap_cons, List.map_cons, ih]
      have e : ((fun l : Str => if Txt.startswith l "pack" = true then some (V.str l) else none) ∘ packT) q = some (V.str (packT q)) := if_pos (pack_starts q)
      rw [e]
      rfl
  have e2 : (L.nums.map doorT).filterMap (fun l => if Txt.startswith l "pack" = true then some (V.str l) else none) = [] := by
    rw [List.filterMap_eq_nil_iff]
    intro l hl
    obtain ⟨p, _, rfl⟩ := List.mem_map.mp hl
    rw [if_neg (by rw [door_starts]; exact fun z => nomatch z)]
  rw [e1, e2, List.append_nil]
end Lb

set_option Elab.async false
set_option linter.all false
set_option maxRecDepth 100000
set_option maxHeartbeats 4000000

namespace Lb
open PySem PySem.Spec PyProof.Rows L2
def top (i : Nat) : Stmt := PySem.Challenge.pw_leanbundle_k85_whole_lots_and_layouts_th.main.body.getD i (.Pass ⟨0, 0, 0, 0⟩)
abbrev s_is_integer : Stmt := top 18
abbrev N_is_integer : List Str := ["thing"]
theorem sc_is_integer : FnScope N_is_integer ["thing"] (defScope s_is_integer) := ⟨rfl, rfl, rfl, by decide +kernel, rfl, by decide +kernel, by decide +kernel⟩
abbrev s_is_number : Stmt := top 19
abbrev N_is_number : List Str := ["thing", "many"]
theorem sc_is_number : FnScope N_is_number ["thing", "many"] (defScope s_is_number) := ⟨rfl, rfl, rfl, by decide +kernel, rfl, by decide +kernel, by decide +kernel⟩
abbrev s_is_name : Stmt := top 20
abbrev N_is_name : List Str := ["thing"]
theorem sc_is_name : FnScope N_is_name ["thing"] (defScope s_is_name) := ⟨rfl, rfl, rfl, by decide +kernel, rfl, by decide +kernel, by decide +kernel⟩
abbrev s_is_tuple : Stmt := top 21
abbrev N_is_tuple : List Str := ["thing", "least", "most"]
theorem sc_is_tuple : FnScope N_is_tuple ["thing", "least", "most"] (defScope s_is_tuple) := ⟨rfl, rfl, rfl, by decide +kernel, rfl, by decide +kernel, by decide +kernel⟩
abbrev s_is_ascending : Stmt := top 22
abbrev N_is_ascending : List Str := ["things", "low", "high"]
theorem sc_is_ascending : FnScope N_is_ascending ["things"] (defScope s_is_ascending) := ⟨rfl, rfl, rfl, by decide +kernel, rfl, by decide +kernel, by decide +kernel⟩
abbrev s_is_need : Stmt := top 23
abbrev N_is_need : List Str := ["thing", "many_parts"]
theorem sc_is_need : FnScope N_is_need ["thing", "many_parts"] (defScope s_is_need) := ⟨rfl, rfl, rfl, by decide +kernel, rfl, by decide +kernel, by decide +kernel⟩
abbrev s_are_needs : Stmt := top 24
abbrev N_are_needs : List Str := ["thing", "many_parts", "most", "need"]
theorem sc_are_needs : FnScope N_are_needs ["thing", "many_parts", "most"] (defScope s_are_needs) := ⟨rfl, rfl, rfl, by decide +kernel, rfl, by decide +kernel, by decide +kernel⟩
abbrev s_starts_with_word : Stmt := top 25
abbrev N_starts_with_word : List Str := ["thing"]
theorem sc_starts_with_word : FnScope N_starts_with_word ["thing"] (defScope s_starts_with_word) := ⟨rfl, rfl, rfl, by decide +kernel, rfl, by decide +kernel, by decide +kernel⟩
abbrev s_is_row : Stmt := top 26
abbrev N_is_row : List Str := ["thing", "many_parts", "word"]
theorem sc_is_row : FnScope N_is_row ["thing", "many_parts"] (defScope s_is_row) := ⟨rfl, rfl, rfl, by decide +kernel, rfl, by decide +kernel, by decide +kernel⟩
abbrev s_is_give : Stmt := top 27
abbrev N_is_give : List Str := ["row", "many_parts"]
theorem sc_is_give : FnScope N_is_give ["row", "many_parts"] (defScope s_is_give) := ⟨rfl, rfl, rfl, by decide +kernel, rfl, by decide +kernel, by decide +kernel⟩
abbrev s_is_late : Stmt := top 28
abbrev N_is_late : List Str := ["row", "many_parts"]
theorem sc_is_late : FnScope N_is_late ["row", "many_parts"] (defScope s_is_late) := ⟨rfl, rfl, rfl, by decide +kernel, rfl, by decide +kernel, by decide +kernel⟩
abbrev s_are_parts : Stmt := top 29
abbrev N_are_parts : List Str := ["thing", "rows", "part", "row"]
theorem sc_are_parts : FnScope N_are_parts ["thing"] (defScope s_are_parts) := ⟨rfl, rfl, rfl, by decide +kernel, rfl, by decide +kernel, by decide +kernel⟩
abbrev s_are_marks : Stmt := top 30
abbrev N_are_marks : List Str := ["thing", "many_parts", "mark"]
theorem sc_are_marks : FnScope N_are_marks ["thing", "many_parts"] (defScope s_are_marks) := ⟨rfl, rfl, rfl, by decide +kernel, rfl, by decide +kernel, by decide +kernel⟩
abbrev s_are_entries : Stmt := top 31
abbrev N_are_entries : List Str := ["thing", "many_parts", "part"]
theorem sc_are_entries : FnScope N_are_entries ["thing", "many_parts"] (defScope s_are_entries) := ⟨rfl, rfl, rfl, by decide +kernel, rfl, by decide +kernel, by decide +kernel⟩
abbrev s_are_opens : Stmt := top 32
abbrev N_are_opens : List Str := ["thing", "many_parts"]
theorem sc_are_opens : FnScope N_are_opens ["thing", "many_parts"] (defScope s_are_opens) := ⟨rfl, rfl, rfl, by decide +kernel, rfl, by decide +kernel, by decide +kernel⟩
abbrev s_is_program : Stmt := top 33
abbrev N_is_program : List Str := ["thing", "many_parts"]
theorem sc_is_program : FnScope N_is_program ["thing"] (defScope s_is_program) := ⟨rfl, rfl, rfl, by decide +kernel, rfl, by decide +kernel, by decide +kernel⟩
abbrev s_demand_program : Stmt := top 34
abbrev N_demand_program : List Str := ["thing"]
theorem sc_demand_program : FnScope N_demand_program ["thing"] (defScope s_demand_program) := ⟨rfl, rfl, rfl, by decide +kernel, rfl, by decide +kernel, by decide +kernel⟩
abbrev s_is_place : Stmt := top 35
abbrev N_is_place : List Str := ["program", "thing", "parts"]
theorem sc_is_place : FnScope N_is_place ["program", "thing"] (defScope s_is_place) := ⟨rfl, rfl, rfl, by decide +kernel, rfl, by decide +kernel, by decide +kernel⟩
abbrev s_is_lot : Stmt := top 36
abbrev N_is_lot : List Str := ["program", "thing", "place"]
theorem sc_is_lot : FnScope N_is_lot ["program", "thing"] (defScope s_is_lot) := ⟨rfl, rfl, rfl, by decide +kernel, rfl, by decide +kernel, by decide +kernel⟩
abbrev s_demand_lot : Stmt := top 37
abbrev N_demand_lot : List Str := ["program", "thing"]
theorem sc_demand_lot : FnScope N_demand_lot ["program", "thing"] (defScope s_demand_lot) := ⟨rfl, rfl, rfl, by decide +kernel, rfl, by decide +kernel, by decide +kernel⟩
abbrev s_is_layout : Stmt := top 38
abbrev N_is_layout : List Str := ["program", "thing"]
theorem sc_is_layout : FnScope N_is_layout ["program", "thing"] (defScope s_is_layout) := ⟨rfl, rfl, rfl, by decide +kernel, rfl, by decide +kernel, by decide +kernel⟩
abbrev s_are_packs : Stmt := top 39
abbrev N_are_packs : List Str := ["program", "thing", "places", "pack", "place"]
theorem sc_are_packs : FnScope N_are_packs ["program", "thing"] (defScope s_are_packs) := ⟨rfl, rfl, rfl, by decide +kernel, rfl, by decide +kernel, by decide +kernel⟩
abbrev s_are_laid_doors : Stmt := top 40
abbrev N_are_laid_doors : List Str := ["thing", "doors", "many_packs", "laid", "door"]
theorem sc_are_laid_doors : FnScope N_are_laid_doors ["thing", "doors", "many_packs"] (defScope s_are_laid_doors) := ⟨rfl, rfl, rfl, by decide +kernel, rfl, by decide +kernel, by decide +kernel⟩
abbrev s_is_laid_door : Stmt := top 41
abbrev N_is_laid_door : List Str := ["thing", "door", "many_packs", "numbers", "number"]
theorem sc_is_laid_door : FnScope N_is_laid_door ["thing", "door", "many_packs"] (defScope s_is_laid_door) := ⟨rfl, rfl, rfl, by decide +kernel, rfl, by decide +kernel, by decide +kernel⟩
abbrev s_demand_layout : Stmt := top 42
abbrev N_demand_layout : List Str := ["program", "thing"]
theorem sc_demand_layout : FnScope N_demand_layout ["program", "thing"] (defScope s_demand_layout) := ⟨rfl, rfl, rfl, by decide +kernel, rfl, by decide +kernel, by decide +kernel⟩
abbrev s_doors_of : Stmt := top 43
abbrev N_doors_of : List Str := ["program", "named", "rows", "row"]
theorem sc_doors_of : FnScope N_doors_of ["program"] (defScope s_doors_of) := ⟨rfl, rfl, rfl, by decide +kernel, rfl, by decide +kernel, by decide +kernel⟩
abbrev s_place_text : Stmt := top 46
abbrev N_place_text : List Str := ["place"]
theorem sc_place_text : FnScope N_place_text ["place"] (defScope s_place_text) := ⟨rfl, rfl, rfl, by decide +kernel, rfl, by decide +kernel, by decide +kernel⟩
abbrev s_show_lot : Stmt := top 47
abbrev N_show_lot : List Str := ["program", "lot", "place"]
theorem sc_show_lot : FnScope N_show_lot ["program", "lot"] (defScope s_show_lot) := ⟨rfl, rfl, rfl, by decide +kernel, rfl, by decide +kernel, by decide +kernel⟩
abbrev s_show_layout : Stmt := top 48
abbrev N_show_layout : List Str := ["program", "layout", "lines", "door", "numbers", "digits", "pack", "place"]
theorem sc_show_layout : FnScope N_show_layout ["program", "layout"] (defScope s_show_layout) := ⟨rfl, rfl, rfl, by decide +kernel, rfl, by decide +kernel, by decide +kernel⟩
abbrev s_demand_text : Stmt := top 49
abbrev N_demand_text : List Str := ["thing"]
theorem sc_demand_text : FnScope N_demand_text ["thing"] (defScope s_demand_text) := ⟨rfl, rfl, rfl, by decide +kernel, rfl, by decide +kernel, by decide +kernel⟩
abbrev s_read_place : Stmt := top 50
abbrev N_read_place : List Str := ["word", "number", "_", "other", "part", "index"]
theorem sc_read_place : FnScope N_read_place ["word"] (defScope s_read_place) := ⟨rfl, rfl, rfl, by decide +kernel, rfl, by decide +kernel, by decide +kernel⟩
abbrev s_read_number : Stmt := top 51
abbrev N_read_number : List Str := ["text"]
theorem sc_read_number : FnScope N_read_number ["text"] (defScope s_read_number) := ⟨rfl, rfl, rfl, by decide +kernel, rfl, by decide +kernel, by decide +kernel⟩
abbrev s_read_numbers : Stmt := top 52
abbrev N_read_numbers : List Str := ["text", "numbers", "digit"]
theorem sc_read_numbers : FnScope N_read_numbers ["text"] (defScope s_read_numbers) := ⟨rfl, rfl, rfl, by decide +kernel, rfl, by decide +kernel, by decide +kernel⟩
abbrev s_read_lot : Stmt := top 53
abbrev N_read_lot : List Str := ["program", "text", "lot", "word"]
theorem sc_read_lot : FnScope N_read_lot ["program", "text"] (defScope s_read_lot) := ⟨rfl, rfl, rfl, by decide +kernel, rfl, by decide +kernel, by decide +kernel⟩
abbrev s_read_layout : Stmt := top 54
abbrev N_read_layout : List Str := ["program", "text", "lines", "many", "layout", "line"]
theorem sc_read_layout : FnScope N_read_layout ["program", "text"] (defScope s_read_layout) := ⟨rfl, rfl, rfl, by decide +kernel, rfl, by decide +kernel, by decide +kernel⟩
abbrev s_read_pack : Stmt := top 55
abbrev N_read_pack : List Str := ["line", "words", "word"]
theorem sc_read_pack : FnScope N_read_pack ["line"] (defScope s_read_pack) := ⟨rfl, rfl, rfl, by decide +kernel, rfl, by decide +kernel, by decide +kernel⟩
abbrev s_read_door : Stmt := top 56
abbrev N_read_door : List Str := ["line", "words"]
theorem sc_read_door : FnScope N_read_door ["line"] (defScope s_read_door) := ⟨rfl, rfl, rfl, by decide +kernel, rfl, by decide +kernel, by decide +kernel⟩
abbrev s_law_pool : Stmt := top 58
abbrev N_law_pool : List Str := ["script", "cell"]
theorem sc_law_pool : FnScope N_law_pool ["script"] (defScope s_law_pool) := ⟨rfl, rfl, rfl, by decide +kernel, rfl, by decide +kernel, by decide +kernel⟩
abbrev s_law_draw : Stmt := top 59
abbrev N_law_draw : List Str := ["pool", "limit", "k", "at", "cell", "number", "mixed", "prime"]
theorem sc_law_draw : FnScope N_law_draw ["pool", "limit"] (defScope s_law_draw) := ⟨rfl, rfl, rfl, by decide +kernel, rfl, by decide +kernel, by decide +kernel⟩
abbrev s_law_subset : Stmt := top 60
abbrev N_law_subset : List Str := ["pool", "items", "most", "kept", "item"]
theorem sc_law_subset : FnScope N_law_subset ["pool", "items", "most"] (defScope s_law_subset) := ⟨rfl, rfl, rfl, by decide +kernel, rfl, by decide +kernel, by decide +kernel⟩
abbrev s_law_need : Stmt := top 61
abbrev N_law_need : List Str := ["pool", "count", "given"]
theorem sc_law_need : FnScope N_law_need ["pool", "count", "given"] (defScope s_law_need) := ⟨rfl, rfl, rfl, by decide +kernel, rfl, by decide +kernel, by decide +kernel⟩
abbrev s_law_needs : Stmt := top 62
abbrev N_law_needs : List Str := ["pool", "count", "given", "most", "k"]
theorem sc_law_needs : FnScope N_law_needs ["pool", "count", "given", "most"] (defScope s_law_needs) := ⟨rfl, rfl, rfl, by decide +kernel, rfl, by decide +kernel, by decide +kernel⟩
abbrev s_law_words : Stmt := top 63
abbrev N_law_words : List Str := ["pool", "count", "most_rows", "most_outs", "words", "left", "outs", "part", "row", "k", "word"]
theorem sc_law_words : FnScope N_law_words ["pool", "count", "most_rows", "most_outs"] (defScope s_law_words) := ⟨rfl, rfl, rfl, by decide +kernel, rfl, by decide +kernel, by decide +kernel⟩
abbrev s_law_with_show : Stmt := top 64
abbrev N_law_with_show : List Str := ["words", "row", "word", "name", "full", "at", "k"]
theorem sc_law_with_show : FnScope N_law_with_show ["words"] (defScope s_law_with_show) := ⟨rfl, rfl, rfl, by decide +kernel, rfl, by decide +kernel, by decide +kernel⟩
abbrev s_law_row : Stmt := top 65
abbrev N_law_row : List Str := ["pool", "word", "name", "count", "given"]
theorem sc_law_row : FnScope N_law_row ["pool", "word", "name", "count", "given"] (defScope s_law_row) := ⟨rfl, rfl, rfl, by decide +kernel, rfl, by decide +kernel, by decide +kernel⟩
abbrev s_law_program : Stmt := top 66
abbrev N_law_program : List Str := ["pool", "most_parts", "most_rows", "most_outs", "most_entries", "most_opens", "count", "entries", "words", "given", "part", "one", "opens", "marks", "parts", "row", "word", "name"]
theorem sc_law_program : FnScope N_law_program ["pool", "most_parts", "most_rows", "most_outs", "most_entries", "most_opens"] (defScope s_law_program) := ⟨rfl, rfl, rfl, by decide +kernel, rfl, by decide +kernel, by decide +kernel⟩
abbrev s_law_places : Stmt := top 67
abbrev N_law_places : List Str := ["program", "places", "part", "k"]
theorem sc_law_places : FnScope N_law_places ["program"] (defScope s_law_places) := ⟨rfl, rfl, rfl, by decide +kernel, rfl, by decide +kernel, by decide +kernel⟩
abbrev s_law_at : Stmt := top 68
abbrev N_law_at : List Str := ["program", "place"]
theorem sc_law_at : FnScope N_law_at ["program", "place"] (defScope s_law_at) := ⟨rfl, rfl, rfl, by decide +kernel, rfl, by decide +kernel, by decide +kernel⟩
abbrev s_law_named : Stmt := top 69
abbrev N_law_named : List Str := ["row"]
theorem sc_law_named : FnScope N_law_named ["row"] (defScope s_law_named) := ⟨rfl, rfl, rfl, by decide +kernel, rfl, by decide +kernel, by decide +kernel⟩
abbrev s_law_links : Stmt := top 70
abbrev N_law_links : List Str := ["program", "part", "row"]
theorem sc_law_links : FnScope N_law_links ["program"] (defScope s_law_links) := ⟨rfl, rfl, rfl, by decide +kernel, rfl, by decide +kernel, by decide +kernel⟩
abbrev s_law_doors : Stmt := top 71
abbrev N_law_doors : List Str := ["program", "gates", "part", "row"]
theorem sc_law_doors : FnScope N_law_doors ["program"] (defScope s_law_doors) := ⟨rfl, rfl, rfl, by decide +kernel, rfl, by decide +kernel, by decide +kernel⟩
abbrev s_law_reached : Stmt := top 72
abbrev N_law_reached : List Str := ["links", "start", "reached", "pending", "part"]
theorem sc_law_reached : FnScope N_law_reached ["links", "start"] (defScope s_law_reached) := ⟨rfl, rfl, rfl, by decide +kernel, rfl, by decide +kernel, by decide +kernel⟩
abbrev s_law_ready : Stmt := top 73
abbrev N_law_ready : List Str := ["program", "place", "own", "index", "links", "wide", "free", "ways", "layer", "length", "fresh", "part", "k", "row"]
theorem sc_law_ready : FnScope N_law_ready ["program", "place"] (defScope s_law_ready) := ⟨rfl, rfl, rfl, by decide +kernel, rfl, by decide +kernel, by decide +kernel⟩
abbrev s_law_lot : Stmt := top 74
abbrev N_law_lot : List Str := ["pool", "program"]
theorem sc_law_lot : FnScope N_law_lot ["pool", "program"] (defScope s_law_lot) := ⟨rfl, rfl, rfl, by decide +kernel, rfl, by decide +kernel, by decide +kernel⟩
abbrev s_law_layout : Stmt := top 75
abbrev N_law_layout : List Str := ["pool", "program", "packs", "place", "at", "gates", "part", "numbers", "k", "pack"]
theorem sc_law_layout : FnScope N_law_layout ["pool", "program"] (defScope s_law_layout) := ⟨rfl, rfl, rfl, by decide +kernel, rfl, by decide +kernel, by decide +kernel⟩
abbrev s_law_place_text : Stmt := top 76
abbrev N_law_place_text : List Str := ["place"]
theorem sc_law_place_text : FnScope N_law_place_text ["place"] (defScope s_law_place_text) := ⟨rfl, rfl, rfl, by decide +kernel, rfl, by decide +kernel, by decide +kernel⟩
abbrev s_law_layout_lines : Stmt := top 77
abbrev N_law_layout_lines : List Str := ["layout", "lines", "part", "numbers", "digits", "pack", "place", "k"]
theorem sc_law_layout_lines : FnScope N_law_layout_lines ["layout"] (defScope s_law_layout_lines) := ⟨rfl, rfl, rfl, by decide +kernel, rfl, by decide +kernel, by decide +kernel⟩
abbrev s_law_same : Stmt := top 78
abbrev N_law_same : List Str := ["told", "due", "k"]
theorem sc_law_same : FnScope N_law_same ["told", "due"] (defScope s_law_same) := ⟨rfl, rfl, rfl, by decide +kernel, rfl, by decide +kernel, by decide +kernel⟩
abbrev s_law : Stmt := top 79
abbrev N_law : List Str := ["script", "pool", "program", "lot", "layout", "written", "one", "text", "place"]
theorem sc_law : FnScope N_law ["script"] (defScope s_law) := ⟨rfl, rfl, rfl, by decide +kernel, rfl, by decide +kernel, by decide +kernel⟩
structure Ad where
  (f_is_integer f_is_number f_is_name f_is_tuple f_is_ascending f_is_need f_are_needs f_starts_with_word f_is_row f_is_give f_is_late f_are_parts f_are_marks f_are_entries f_are_opens f_is_program f_demand_program f_is_place f_is_lot f_demand_lot f_is_layout f_are_packs f_are_laid_doors f_is_laid_door f_demand_layout f_doors_of f_place_text f_show_lot f_show_layout f_demand_text f_read_place f_read_number f_read_numbers f_read_lot f_read_layout f_read_pack f_read_door f_law_pool f_law_draw f_law_subset f_law_need f_law_needs f_law_words f_law_with_show f_law_row f_law_program f_law_places f_law_at f_law_named f_law_links f_law_doors f_law_reached f_law_ready f_law_lot f_law_layout f_law_place_text f_law_layout_lines f_law_same f_law o_NAMES : Addr)
  (d_is_integer d_is_number d_is_name d_is_tuple d_is_ascending d_is_need d_are_needs d_starts_with_word d_is_row d_is_give d_is_late d_are_parts d_are_marks d_are_entries d_are_opens d_is_program d_demand_program d_is_place d_is_lot d_demand_lot d_is_layout d_are_packs d_are_laid_doors d_is_laid_door d_demand_layout d_doors_of d_place_text d_show_lot d_show_layout d_demand_text d_read_place d_read_number d_read_numbers d_read_lot d_read_layout d_read_pack d_read_door d_law_pool d_law_draw d_law_subset d_law_need d_law_needs d_law_words d_law_with_show d_law_row d_law_program d_law_places d_law_at d_law_named d_law_links d_law_doors d_law_reached d_law_ready d_law_lot d_law_layout d_law_place_text d_law_layout_lines d_law_same d_law : FuncData)
abbrev FnP (K : PySem.W.Frag) (x : Str) (st : Stmt) (f : Addr) (fd : FuncData) : Prop := FunD K x x (defArgs st) (defBody st) (defScope st) [] [] f fd
structure Txt (K : PySem.W.Frag) (w : World) (mg : Str → Option Value) (A : Ad) : Prop where
  m_is_integer : mg "is_integer" = some (.ref A.f_is_integer)
  F_is_integer : FnP K "is_integer" s_is_integer A.f_is_integer A.d_is_integer
  m_is_number : mg "is_number" = some (.ref A.f_is_number)
  F_is_number : FnP K "is_number" s_is_number A.f_is_number A.d_is_number
  m_is_name : mg "is_name" = some (.ref A.f_is_name)
  F_is_name : FnP K "is_name" s_is_name A.f_is_name A.d_is_name
  m_is_tuple : mg "is_tuple" = some (.ref A.f_is_tuple)
  F_is_tuple : FnP K "is_tuple" s_is_tuple A.f_is_tuple A.d_is_tuple
  m_is_ascending : mg "is_ascending" = some (.ref A.f_is_ascending)
  F_is_ascending : FnP K "is_ascending" s_is_ascending A.f_is_ascending A.d_is_ascending
  m_is_need : mg "is_need" = some (.ref A.f_is_need)
  F_is_need : FnP K "is_need" s_is_need A.f_is_need A.d_is_need
  m_are_needs : mg "are_needs" = some (.ref A.f_are_needs)
  F_are_needs : FnP K "are_needs" s_are_needs A.f_are_needs A.d_are_needs
  m_starts_with_word : mg "starts_with_word" = some (.ref A.f_starts_with_word)
  F_starts_with_word : FnP K "starts_with_word" s_starts_with_word A.f_starts_with_word A.d_starts_with_word
  m_is_row : mg "is_row" = some (.ref A.f_is_row)
  F_is_row : FnP K "is_row" s_is_row A.f_is_row A.d_is_row
  m_is_give : mg "is_give" = some (.ref A.f_is_give)
  F_is_give : FnP K "is_give" s_is_give A.f_is_give A.d_is_give
  m_is_late : mg "is_late" = some (.ref A.f_is_late)
  F_is_late : FnP K "is_late" s_is_late A.f_is_late A.d_is_late
  m_are_parts : mg "are_parts" = some (.ref A.f_are_parts)
  F_are_parts : FnP K "are_parts" s_are_parts A.f_are_parts A.d_are_parts
  m_are_marks : mg "are_marks" = some (.ref A.f_are_marks)
  F_are_marks : FnP K "are_marks" s_are_marks A.f_are_marks A.d_are_marks
  m_are_entries : mg "are_entries" = some (.ref A.f_are_entries)
  F_are_entries : FnP K "are_entries" s_are_entries A.f_are_entries A.d_are_entries
  m_are_opens : mg "are_opens" = some (.ref A.f_are_opens)
  F_are_opens : FnP K "are_opens" s_are_opens A.f_are_opens A.d_are_opens
  m_is_program : mg "is_program" = some (.ref A.f_is_program)
  F_is_program : FnP K "is_program" s_is_program A.f_is_program A.d_is_program
  m_demand_program : mg "demand_program" = some (.ref A.f_demand_program)
  F_demand_program : FnP K "demand_program" s_demand_program A.f_demand_program A.d_demand_program
  m_is_place : mg "is_place" = some (.ref A.f_is_place)
  F_is_place : FnP K "is_place" s_is_place A.f_is_place A.d_is_place
  m_is_lot : mg "is_lot" = some (.ref A.f_is_lot)
  F_is_lot : FnP K "is_lot" s_is_lot A.f_is_lot A.d_is_lot
  m_demand_lot : mg "demand_lot" = some (.ref A.f_demand_lot)
  F_demand_lot : FnP K "demand_lot" s_demand_lot A.f_demand_lot A.d_demand_lot
  m_is_layout : mg "is_layout" = some (.ref A.f_is_layout)
  F_is_layout : FnP K "is_layout" s_is_layout A.f_is_layout A.d_is_layout
  m_are_packs : mg "are_packs" = some (.ref A.f_are_packs)
  F_are_packs : FnP K "are_packs" s_are_packs A.f_are_packs A.d_are_packs
  m_are_laid_doors : mg "are_laid_doors" = some (.ref A.f_are_laid_doors)
  F_are_laid_doors : FnP K "are_laid_doors" s_are_laid_doors A.f_are_laid_doors A.d_are_laid_doors
  m_is_laid_door : mg "is_laid_door" = some (.ref A.f_is_laid_door)
  F_is_laid_door : FnP K "is_laid_door" s_is_laid_door A.f_is_laid_door A.d_is_laid_door
  m_demand_layout : mg "demand_layout" = some (.ref A.f_demand_layout)
  F_demand_layout : FnP K "demand_layout" s_demand_layout A.f_demand_layout A.d_demand_layout
  m_doors_of : mg "doors_of" = some (.ref A.f_doors_of)
  F_doors_of : FnP K "doors_of" s_doors_of A.f_doors_of A.d_doors_of
  m_place_text : mg "place_text" = some (.ref A.f_place_text)
  F_place_text : FnP K "place_text" s_place_text A.f_place_text A.d_place_text
  m_show_lot : mg "show_lot" = some (.ref A.f_show_lot)
  F_show_lot : FnP K "show_lot" s_show_lot A.f_show_lot A.d_show_lot
  m_show_layout : mg "show_layout" = some (.ref A.f_show_layout)
  F_show_layout : FnP K "show_layout" s_show_layout A.f_show_layout A.d_show_layout
  m_demand_text : mg "demand_text" = some (.ref A.f_demand_text)
  F_demand_text : FnP K "demand_text" s_demand_text A.f_demand_text A.d_demand_text
  m_read_place : mg "read_place" = some (.ref A.f_read_place)
  F_read_place : FnP K "read_place" s_read_place A.f_read_place A.d_read_place
  m_read_number : mg "read_number" = some (.ref A.f_read_number)
  F_read_number : FnP K "read_number" s_read_number A.f_read_number A.d_read_number
  m_read_numbers : mg "read_numbers" = some (.ref A.f_read_numbers)
  F_read_numbers : FnP K "read_numbers" s_read_numbers A.f_read_numbers A.d_read_numbers
  m_read_lot : mg "read_lot" = some (.ref A.f_read_lot)
  F_read_lot : FnP K "read_lot" s_read_lot A.f_read_lot A.d_read_lot
  m_read_layout : mg "read_layout" = some (.ref A.f_read_layout)
  F_read_layout : FnP K "read_layout" s_read_layout A.f_read_layout A.d_read_layout
  m_read_pack : mg "read_pack" = some (.ref A.f_read_pack)
  F_read_pack : FnP K "read_pack" s_read_pack A.f_read_pack A.d_read_pack
  m_read_door : mg "read_door" = some (.ref A.f_read_door)
  F_read_door : FnP K "read_door" s_read_door A.f_read_door A.d_read_door
  m_law_pool : mg "_law_pool" = some (.ref A.f_law_pool)
  F_law_pool : FnP K "_law_pool" s_law_pool A.f_law_pool A.d_law_pool
  m_law_draw : mg "_law_draw" = some (.ref A.f_law_draw)
  F_law_draw : FnP K "_law_draw" s_law_draw A.f_law_draw A.d_law_draw
  m_law_subset : mg "_law_subset" = some (.ref A.f_law_subset)
  F_law_subset : FnP K "_law_subset" s_law_subset A.f_law_subset A.d_law_subset
  m_law_need : mg "_law_need" = some (.ref A.f_law_need)
  F_law_need : FnP K "_law_need" s_law_need A.f_law_need A.d_law_need
  m_law_needs : mg "_law_needs" = some (.ref A.f_law_needs)
  F_law_needs : FnP K "_law_needs" s_law_needs A.f_law_needs A.d_law_needs
  m_law_words : mg "_law_words" = some (.ref A.f_law_words)
  F_law_words : FnP K "_law_words" s_law_words A.f_law_words A.d_law_words
  m_law_with_show : mg "_law_with_show" = some (.ref A.f_law_with_show)
  F_law_with_show : FnP K "_law_with_show" s_law_with_show A.f_law_with_show A.d_law_with_show
  m_law_row : mg "_law_row" = some (.ref A.f_law_row)
  F_law_row : FnP K "_law_row" s_law_row A.f_law_row A.d_law_row
  m_law_program : mg "_law_program" = some (.ref A.f_law_program)
  F_law_program : FnP K "_law_program" s_law_program A.f_law_program A.d_law_program
  m_law_places : mg "_law_places" = some (.ref A.f_law_places)
  F_law_places : FnP K "_law_places" s_law_places A.f_law_places A.d_law_places
  m_law_at : mg "_law_at" = some (.ref A.f_law_at)
  F_law_at : FnP K "_law_at" s_law_at A.f_law_at A.d_law_at
  m_law_named : mg "_law_named" = some (.ref A.f_law_named)
  F_law_named : FnP K "_law_named" s_law_named A.f_law_named A.d_law_named
  m_law_links : mg "_law_links" = some (.ref A.f_law_links)
  F_law_links : FnP K "_law_links" s_law_links A.f_law_links A.d_law_links
  m_law_doors : mg "_law_doors" = some (.ref A.f_law_doors)
  F_law_doors : FnP K "_law_doors" s_law_doors A.f_law_doors A.d_law_doors
  m_law_reached : mg "_law_reached" = some (.ref A.f_law_reached)
  F_law_reached : FnP K "_law_reached" s_law_reached A.f_law_reached A.d_law_reached
  m_law_ready : mg "_law_ready" = some (.ref A.f_law_ready)
  F_law_ready : FnP K "_law_ready" s_law_ready A.f_law_ready A.d_law_ready
  m_law_lot : mg "_law_lot" = some (.ref A.f_law_lot)
  F_law_lot : FnP K "_law_lot" s_law_lot A.f_law_lot A.d_law_lot
  m_law_layout : mg "_law_layout" = some (.ref A.f_law_layout)
  F_law_layout : FnP K "_law_layout" s_law_layout A.f_law_layout A.d_law_layout
  m_law_place_text : mg "_law_place_text" = some (.ref A.f_law_place_text)
  F_law_place_text : FnP K "_law_place_text" s_law_place_text A.f_law_place_text A.d_law_place_text
  m_law_layout_lines : mg "_law_layout_lines" = some (.ref A.f_law_layout_lines)
  F_law_layout_lines : FnP K "_law_layout_lines" s_law_layout_lines A.f_law_layout_lines A.d_law_layout_lines
  m_law_same : mg "_law_same" = some (.ref A.f_law_same)
  F_law_same : FnP K "_law_same" s_law_same A.f_law_same A.d_law_same
  m_law : mg "law" = some (.ref A.f_law)
  F_law : FnP K "law" s_law A.f_law A.d_law
  zlen : mg "len" = none
  zint : mg "int" = none
  zabs : mg "abs" = none
  zisinstance : mg "isinstance" = none
  zrange : mg "range" = none
  zlist : mg "list" = none
  ztuple : mg "tuple" = none
  zsorted : mg "sorted" = none
  zset : mg "set" = none
  zmin : mg "min" = none
  zall : mg "all" = none
  zany : mg "any" = none
  zzip : mg "zip" = none
  zenumerate : mg "enumerate" = none
  zbool : mg "bool" = none
  zstr : mg "str" = none
  zmap : mg "map" = none
  zreversed : mg "reversed" = none
  i_DIGITS : ∃ t, mg "DIGITS" = some (.str "0123456789" t)
  i_MOST_ENTRIES : ∃ t, mg "MOST_ENTRIES" = some (.int (3) t)
  i_MOST_NEEDS : ∃ t, mg "MOST_NEEDS" = some (.int (2) t)
  i_MOST_NEEDS_OF_GIVE : ∃ t, mg "MOST_NEEDS_OF_GIVE" = some (.int (1) t)
  i_MOST_OPENS : ∃ t, mg "MOST_OPENS" = some (.int (4) t)
  i_MOST_OUTS : ∃ t, mg "MOST_OUTS" = some (.int (2) t)
  i_MOST_PACKS : ∃ t, mg "MOST_PACKS" = some (.int (8) t)
  i_MOST_PARTS : ∃ t, mg "MOST_PARTS" = some (.int (4) t)
  i_MOST_ROWS : ∃ t, mg "MOST_ROWS" = some (.int (12) t)
  i_MOST_ROWS_OF_PART : ∃ t, mg "MOST_ROWS_OF_PART" = some (.int (5) t)
  m_NAMES : mg "NAMES" = some (.ref A.o_NAMES)
  t_NAMES : ∀ H : Hp, SqT K H A.o_NAMES [V.str "a", V.str "b", V.str "c", V.str "d"]
  i_NO_PART : ∃ t, mg "NO_PART" = some (.int (-1) t)
section
variable {P : Program} {w : World} {K : PySem.W.Frag} {mg : Str → Option Value} {base : Heap} {A : Ad}
theorem b_is_integer (T : Txt K w mg A) : Binds K A.d_is_integer ["thing"] [] := T.F_is_integer.bindsN fun _ _ _ _ _ _ us hl => match us, hl with | [_], _ => rfl
theorem b_is_number (T : Txt K w mg A) : Binds K A.d_is_number ["thing", "many"] [] := T.F_is_number.bindsN fun _ _ _ _ _ _ us hl => match us, hl with | [_, _], _ => rfl
theorem b_is_name (T : Txt K w mg A) : Binds K A.d_is_name ["thing"] [] := T.F_is_name.bindsN fun _ _ _ _ _ _ us hl => match us, hl with | [_], _ => rfl
theorem b_is_tuple (T : Txt K w mg A) : Binds K A.d_is_tuple ["thing", "least", "most"] [] := T.F_is_tuple.bindsN fun _ _ _ _ _ _ us hl => match us, hl with | [_, _, _], _ => rfl
theorem b_is_ascending (T : Txt K w mg A) : Binds K A.d_is_ascending ["things"] [] := T.F_is_ascending.bindsN fun _ _ _ _ _ _ us hl => match us, hl with | [_], _ => rfl
theorem b_is_need (T : Txt K w mg A) : Binds K A.d_is_need ["thing", "many_parts"] [] := T.F_is_need.bindsN fun _ _ _ _ _ _ us hl => match us, hl with | [_, _], _ => rfl
theorem b_are_needs (T : Txt K w mg A) : Binds K A.d_are_needs ["thing", "many_parts", "most"] [] := T.F_are_needs.bindsN fun _ _ _ _ _ _ us hl => match us, hl with | [_, _, _], _ => rfl
theorem b_starts_with_word (T : Txt K w mg A) : Binds K A.d_starts_with_word ["thing"] [] := T.F_starts_with_word.bindsN fun _ _ _ _ _ _ us hl => match us, hl with | [_], _ => rfl
theorem b_is_row (T : Txt K w mg A) : Binds K A.d_is_row ["thing", "many_parts"] [] := T.F_is_row.bindsN fun _ _ _ _ _ _ us hl => match us, hl with | [_, _], _ => rfl
theorem b_is_give (T : Txt K w mg A) : Binds K A.d_is_give ["row", "many_parts"] [] := T.F_is_give.bindsN fun _ _ _ _ _ _ us hl => match us, hl with | [_, _], _ => rfl
theorem b_is_late (T : Txt K w mg A) : Binds K A.d_is_late ["row", "many_parts"] [] := T.F_is_late.bindsN fun _ _ _ _ _ _ us hl => match us, hl with | [_, _], _ => rfl
theorem b_are_parts (T : Txt K w mg A) : Binds K A.d_are_parts ["thing"] [] := T.F_are_parts.bindsN fun _ _ _ _ _ _ us hl => match us, hl with | [_], _ => rfl
theorem b_are_marks (T : Txt K w mg A) : Binds K A.d_are_marks ["thing", "many_parts"] [] := T.F_are_marks.bindsN fun _ _ _ _ _ _ us hl => match us, hl with | [_, _], _ => rfl
theorem b_are_entries (T : Txt K w mg A) : Binds K A.d_are_entries ["thing", "many_parts"] [] := T.F_are_entries.bindsN fun _ _ _ _ _ _ us hl => match us, hl with | [_, _], _ => rfl
theorem b_are_opens (T : Txt K w mg A) : Binds K A.d_are_opens ["thing", "many_parts"] [] := T.F_are_opens.bindsN fun _ _ _ _ _ _ us hl => match us, hl with | [_, _], _ => rfl
theorem b_is_program (T : Txt K w mg A) : Binds K A.d_is_program ["thing"] [] := T.F_is_program.bindsN fun _ _ _ _ _ _ us hl => match us, hl with | [_], _ => rfl
theorem b_demand_program (T : Txt K w mg A) : Binds K A.d_demand_program ["thing"] [] := T.F_demand_program.bindsN fun _ _ _ _ _ _ us hl => match us, hl with | [_], _ => rfl
theorem b_is_place (T : Txt K w mg A) : Binds K A.d_is_place ["program", "thing"] [] := T.F_is_place.bindsN fun _ _ _ _ _ _ us hl => match us, hl with | [_, _], _ => rfl
theorem b_is_lot (T : Txt K w mg A) : Binds K A.d_is_lot ["program", "thing"] [] := T.F_is_lot.bindsN fun _ _ _ _ _ _ us hl => match us, hl with | [_, _], _ => rfl
theorem b_demand_lot (T : Txt K w mg A) : Binds K A.d_demand_lot ["program", "thing"] [] := T.F_demand_lot.bindsN fun _ _ _ _ _ _ us hl => match us, hl with | [_, _], _ => rfl
theorem b_is_layout (T : Txt K w mg A) : Binds K A.d_is_layout ["program", "thing"] [] := T.F_is_layout.bindsN fun _ _ _ _ _ _ us hl => match us, hl with | [_, _], _ => rfl
theorem b_are_packs (T : Txt K w mg A) : Binds K A.d_are_packs ["program", "thing"] [] := T.F_are_packs.bindsN fun _ _ _ _ _ _ us hl => match us, hl with | [_, _], _ => rfl
theorem b_are_laid_doors (T : Txt K w mg A) : Binds K A.d_are_laid_doors ["thing", "doors", "many_packs"] [] := T.F_are_laid_doors.bindsN fun _ _ _ _ _ _ us hl => match us, hl with | [_, _, _], _ => rfl
theorem b_is_laid_door (T : Txt K w mg A) : Binds K A.d_is_laid_door ["thing", "door", "many_packs"] [] := T.F_is_laid_door.bindsN fun _ _ _ _ _ _ us hl => match us, hl with | [_, _, _], _ => rfl
theorem b_demand_layout (T : Txt K w mg A) : Binds K A.d_demand_layout ["program", "thing"] [] := T.F_demand_layout.bindsN fun _ _ _ _ _ _ us hl => match us, hl with | [_, _], _ => rfl
theorem b_doors_of (T : Txt K w mg A) : Binds K A.d_doors_of ["program"] [] := T.F_doors_of.bindsN fun _ _ _ _ _ _ us hl => match us, hl with | [_], _ => rfl
theorem b_place_text (T : Txt K w mg A) : Binds K A.d_place_text ["place"] [] := T.F_place_text.bindsN fun _ _ _ _ _ _ us hl => match us, hl with | [_], _ => rfl
theorem b_show_lot (T : Txt K w mg A) : Binds K A.d_show_lot ["program", "lot"] [] := T.F_show_lot.bindsN fun _ _ _ _ _ _ us hl => match us, hl with | [_, _], _ => rfl
theorem b_show_layout (T : Txt K w mg A) : Binds K A.d_show_layout ["program", "layout"] [] := T.F_show_layout.bindsN fun _ _ _ _ _ _ us hl => match us, hl with | [_, _], _ => rfl
theorem b_demand_text (T : Txt K w mg A) : Binds K A.d_demand_text ["thing"] [] := T.F_demand_text.bindsN fun _ _ _ _ _ _ us hl => match us, hl with | [_], _ => rfl
theorem b_read_place (T : Txt K w mg A) : Binds K A.d_read_place ["word"] [] := T.F_read_place.bindsN fun _ _ _ _ _ _ us hl => match us, hl with | [_], _ => rfl
theorem b_read_number (T : Txt K w mg A) : Binds K A.d_read_number ["text"] [] := T.F_read_number.bindsN fun _ _ _ _ _ _ us hl => match us, hl with | [_], _ => rfl
theorem b_read_numbers (T : Txt K w mg A) : Binds K A.d_read_numbers ["text"] [] := T.F_read_numbers.bindsN fun _ _ _ _ _ _ us hl => match us, hl with | [_], _ => rfl
theorem b_read_lot (T : Txt K w mg A) : Binds K A.d_read_lot ["program", "text"] [] := T.F_read_lot.bindsN fun _ _ _ _ _ _ us hl => match us, hl with | [_, _], _ => rfl
theorem b_read_layout (T : Txt K w mg A) : Binds K A.d_read_layout ["program", "text"] [] := T.F_read_layout.bindsN fun _ _ _ _ _ _ us hl => match us, hl with | [_, _], _ => rfl
theorem b_read_pack (T : Txt K w mg A) : Binds K A.d_read_pack ["line"] [] := T.F_read_pack.bindsN fun _ _ _ _ _ _ us hl => match us, hl with | [_], _ => rfl
theorem b_read_door (T : Txt K w mg A) : Binds K A.d_read_door ["line"] [] := T.F_read_door.bindsN fun _ _ _ _ _ _ us hl => match us, hl with | [_], _ => rfl
theorem b_law_pool (T : Txt K w mg A) : Binds K A.d_law_pool ["script"] [] := T.F_law_pool.bindsN fun _ _ _ _ _ _ us hl => match us, hl with | [_], _ => rfl
theorem b_law_draw (T : Txt K w mg A) : Binds K A.d_law_draw ["pool", "limit"] [] := T.F_law_draw.bindsN fun _ _ _ _ _ _ us hl => match us, hl with | [_, _], _ => rfl
theorem b_law_subset (T : Txt K w mg A) : Binds K A.d_law_subset ["pool", "items", "most"] [] := T.F_law_subset.bindsN fun _ _ _ _ _ _ us hl => match us, hl with | [_, _, _], _ => rfl
theorem b_law_need (T : Txt K w mg A) : Binds K A.d_law_need ["pool", "count", "given"] [] := T.F_law_need.bindsN fun _ _ _ _ _ _ us hl => match us, hl with | [_, _, _], _ => rfl
theorem b_law_needs (T : Txt K w mg A) : Binds K A.d_law_needs ["pool", "count", "given", "most"] [] := T.F_law_needs.bindsN fun _ _ _ _ _ _ us hl => match us, hl with | [_, _, _, _], _ => rfl
theorem b_law_words (T : Txt K w mg A) : Binds K A.d_law_words ["pool", "count", "most_rows", "most_outs"] [] := T.F_law_words.bindsN fun _ _ _ _ _ _ us hl => match us, hl with | [_, _, _, _], _ => rfl
theorem b_law_with_show (T : Txt K w mg A) : Binds K A.d_law_with_show ["words"] [] := T.F_law_with_show.bindsN fun _ _ _ _ _ _ us hl => match us, hl with | [_], _ => rfl
theorem b_law_row (T : Txt K w mg A) : Binds K A.d_law_row ["pool", "word", "name", "count", "given"] [] := T.F_law_row.bindsN fun _ _ _ _ _ _ us hl => match us, hl with | [_, _, _, _, _], _ => rfl
theorem b_law_program (T : Txt K w mg A) : Binds K A.d_law_program ["pool", "most_parts", "most_rows", "most_outs", "most_entries", "most_opens"] [] := T.F_law_program.bindsN fun _ _ _ _ _ _ us hl => match us, hl with | [_, _, _, _, _, _], _ => rfl
theorem b_law_places (T : Txt K w mg A) : Binds K A.d_law_places ["program"] [] := T.F_law_places.bindsN fun _ _ _ _ _ _ us hl => match us, hl with | [_], _ => rfl
theorem b_law_at (T : Txt K w mg A) : Binds K A.d_law_at ["program", "place"] [] := T.F_law_at.bindsN fun _ _ _ _ _ _ us hl => match us, hl with | [_, _], _ => rfl
theorem b_law_named (T : Txt K w mg A) : Binds K A.d_law_named ["row"] [] := T.F_law_named.bindsN fun _ _ _ _ _ _ us hl => match us, hl with | [_], _ => rfl
theorem b_law_links (T : Txt K w mg A) : Binds K A.d_law_links ["program"] [] := T.F_law_links.bindsN fun _ _ _ _ _ _ us hl => match us, hl with | [_], _ => rfl
theorem b_law_doors (T : Txt K w mg A) : Binds K A.d_law_doors ["program"] [] := T.F_law_doors.bindsN fun _ _ _ _ _ _ us hl => match us, hl with | [_], _ => rfl
theorem b_law_reached (T : Txt K w mg A) : Binds K A.d_law_reached ["links", "start"] [] := T.F_law_reached.bindsN fun _ _ _ _ _ _ us hl => match us, hl with | [_, _], _ => rfl
theorem b_law_ready (T : Txt K w mg A) : Binds K A.d_law_ready ["program", "place"] [] := T.F_law_ready.bindsN fun _ _ _ _ _ _ us hl => match us, hl with | [_, _], _ => rfl
theorem b_law_lot (T : Txt K w mg A) : Binds K A.d_law_lot ["pool", "program"] [] := T.F_law_lot.bindsN fun _ _ _ _ _ _ us hl => match us, hl with | [_, _], _ => rfl
theorem b_law_layout (T : Txt K w mg A) : Binds K A.d_law_layout ["pool", "program"] [] := T.F_law_layout.bindsN fun _ _ _ _ _ _ us hl => match us, hl with | [_, _], _ => rfl
theorem b_law_place_text (T : Txt K w mg A) : Binds K A.d_law_place_text ["place"] [] := T.F_law_place_text.bindsN fun _ _ _ _ _ _ us hl => match us, hl with | [_], _ => rfl
theorem b_law_layout_lines (T : Txt K w mg A) : Binds K A.d_law_layout_lines ["layout"] [] := T.F_law_layout_lines.bindsN fun _ _ _ _ _ _ us hl => match us, hl with | [_], _ => rfl
theorem b_law_same (T : Txt K w mg A) : Binds K A.d_law_same ["told", "due"] [] := T.F_law_same.bindsN fun _ _ _ _ _ _ us hl => match us, hl with | [_, _], _ => rfl
theorem b_law (T : Txt K w mg A) : Binds K A.d_law ["script"] [] := T.F_law.bindsN fun _ _ _ _ _ _ us hl => match us, hl with | [_], _ => rfl
end

local macro_rules | `(tactic| walk_at "rd") => `(tactic| simp only [tSeq, tAsg, tRet, tRetN, tDrop, tNext, tIfS, tTest, tB, tVar, tC, tOp, tUn, tCB, tCons, tNil, tCall, tAnd, tOr, tNot, tAndV, tOrV, tNotV, tIf, tTup, tLst, tChain, gName, gCons, gNil, gTup, rI0, rI, rU, rEq, rNe, scal, List.append_nil, List.getElem?_cons_zero, List.getElem?_cons_succ, List.set_cons_zero, List.set_cons_succ, Option.some.injEq, V.int.injEq, V.bl.injEq, V.ref.injEq, V.str.injEq, List.cons.injEq, and_true, true_and, exists_eq_left', exists_eq_left, exists_and_left, exists_eq', exists_eq])

end Lb

set_option Elab.async false
set_option linter.all false
set_option maxRecDepth 100000
set_option maxHeartbeats 4000000

namespace Lb
open PySem PySem.Spec PyProof.Rows L2
section
variable {P : Program} {w : World} {K : PySem.W.Frag} {mg : Str → Option Value} {base : Heap} {A : Ad}
theorem kitTL {K : PySem.W.Frag} (d : PyData) : PySem.W.kitAny K (.type (tyN d)) [.type "tuple", .type "list"] = some (isTup d || isLst d) := by
  refine kitAny_cons (kit_ty (kit_tup d)) (fun e => ?_) (fun e => by rw [e]; rfl)
  refine kitAny_cons (kit_ty (kit_list d)) (fun e2 => ?_) (fun e2 => by rw [e2, Bool.or_true])
  rw [e, e2]
  rfl
/-- data of at most such a depth, no dict in it, of at most 1000 items each -/
def Flat : Nat → PyData → Prop
  | 0, _ => False
  | n + 1, .tuple ds => ds.length ≤ 1000 ∧ ∀ d ∈ ds, Flat n d
  | n + 1, .list ds => ds.length ≤ 1000 ∧ ∀ d ∈ ds, Flat n d
  | _ + 1, .dict _ => False
  | _ + 1, _ => True
def sp_same (n : Nat) : Sp := fun vs H Q _ => ∃ (v u : V) (S : List Addr) (d : PyData), vs = [v, u] ∧ Rep S H v d ∧ Rep S H u d ∧ Flat n d ∧ ∀ H', Same H H' → Q (.bl true) H'
theorem ok_same (T : Txt K w mg A) : ∀ n : Nat, FnOk P w K mg base CX0 (n + 1) A.f_law_same A.d_law_same ["told", "due"] (sp_same n)
  | 0 => by
    refine T.F_law_same.ok sc_law_same (fun vs H Q E h => ?_) (fun cdv Ar outer s H vs Q E hr h => ?_)
    · obtain ⟨v, u, S, d, rfl, _⟩ := h
      rfl
    · obtain ⟨v, u, S, d, rfl, _, _, f, _⟩ := h
      exact (f : False).elim
  | n + 1 => by
    refine T.F_law_same.ok sc_law_same (fun vs H Q E h => ?_) (fun cdv Ar outer s H vs Q E hr h => ?_)
    · obtain ⟨v, u, S, d, rfl, _⟩ := h
      rfl
    · obtain ⟨v, u, S, d, rfl, r, u, fl, k⟩ := h
      refine ⟨_, PSs.nox ((pss_cons (ps_if (pt_val (pe_callB call_isiT (by rfl) T.zisinstance (by decide +kernel) (pa_cons (pv 1) (pa_cons (pe_tup (pa_cons (pe_bltn (v := .ty "tuple") (by rfl) T.ztuple (by decide +kernel) rfl) (pa_cons (pe_bltn (v := .ty "list") (by rfl) T.zlist (by decide +kernel) rfl) pa_nil))) pa_nil)))) (pss_cons (ps_if (PW.pt (pw_or (pt_cmpR op_ne (pe_callB call_isiD (by rfl) T.zisinstance (by decide +kernel) (pa_cons (pv 0) (pa_cons (pe_bltn (v := .ty "tuple") (by rfl) T.ztuple (by decide +kernel) rfl) pa_nil))) (pe_callB call_isiD (by rfl) T.zisinstance (by decide +kernel) (pa_cons (pv 1) (pa_cons (pe_bltn (v := .ty "tuple") (by rfl) T.ztuple (by decide +kernel) rfl) pa_nil))) (nomark _)) (pw_or1 (pt_cmpR op_ne (pe_callB call_isiD (by rfl) T.zisinstance (by decide +kernel) (pa_cons (pv 0) (pa_cons (pe_bltn (v := .ty "list") (by rfl) T.zlist (by decide +kernel) rfl) pa_nil))) (pe_callB call_isiD (by rfl) T.zisinstance (by decide +kernel) (pa_cons (pv 1) (pa_cons (pe_bltn (v := .ty "list") (by rfl) T.zlist (by decide +kernel) rfl) pa_nil))) (nomark _))))) (pss_one (ps_ret pe_bl)) pss_nil)
 (pss_one (ps_ret (pe_and (pe_cmpR op_eq (pe_callB call_len_seq (by rfl) T.zlen (by decide +kernel) (pa_cons (pv 0) pa_nil)) (pe_callB call_len_seq (by rfl) T.zlen (by decide +kernel) (pa_cons (pv 1) pa_nil)) (nomark _)) (pe_one (pe_callB (cr_all rfl) (by rfl) T.zall (by decide +kernel) (pa_cons (pe_lc (own := [("k", 2)]) (g := (gName 2)) (tt := tYes) rfl sc_law_same.nd (pi_range1 (by rfl) T.zrange (pa_cons (pe_callB call_len_seq (by rfl) T.zlen (by decide +kernel) (pa_cons (pv 1) pa_nil)) pa_nil)) (blkOk_by (N := N_law_same) (sc := defScope s_law_same) (by decide +kernel)) (fun _ _ _ _ _ => (pg_name (i := 2) sc_law_same.nd rfl (Or.inl rfl))) (fun _ _ _ _ _ => pts_nil) (fun _ _ _ _ _ => (pe_call (ok_same T n) hr rfl T.m_law_same T.F_law_same.kp (b_law_same T) .nil pass0 (pa_cons (pe_ix (show IxR _ (L2.rIx K) from ix_seq) (pv 0) (pv 2) (fun _ _ => rfl)) (pa_cons (pe_ix (show IxR _ (L2.rIx K) from ix_seq) (pv 1) (pv 2) (fun _ _ => rfl)) pa_nil))))) pa_nil))))))) pss_nil)
 (pss_cons (ps_if (pt_cmpR op_isN (pv 1) pe_non (nomark _)) (pss_one (ps_ret (pe_cmpR op_isN (pv 0) pe_non (nomark _)))) pss_nil)
 (pss_cons (ps_if (PW.pt (pw_or (pt_val (pe_callB call_isiT (by rfl) T.zisinstance (by decide +kernel) (pa_cons (pv 0) (pa_cons (pe_tup (pa_cons (pe_bltn (v := .ty "tuple") (by rfl) T.ztuple (by decide +kernel) rfl) (pa_cons (pe_bltn (v := .ty "list") (by rfl) T.zlist (by decide +kernel) rfl) pa_nil))) pa_nil)))) (pw_or1 (pt_cmpR op_ne (pe_callB call_isiD (by rfl) T.zisinstance (by decide +kernel) (pa_cons (pv 0) (pa_cons (pe_bltn (v := .ty "bool") (by rfl) T.zbool (by decide +kernel) rfl) pa_nil))) (pe_callB call_isiD (by rfl) T.zisinstance (by decide +kernel) (pa_cons (pv 1) (pa_cons (pe_bltn (v := .ty "bool") (by rfl) T.zbool (by decide +kernel) rfl) pa_nil))) (nomark _))))) (pss_one (ps_ret pe_bl)) pss_nil)
 (pss_one (ps_ret (pe_and (pe_cmpR op_eq (pe_callB call_isiD (by rfl) T.zisinstance (by decide +kernel) (pa_cons (pv 0) (pa_cons (pe_bltn (v := .ty "str") (by rfl) T.zstr (by decide +kernel) rfl) pa_nil))) (pe_callB call_isiD (by rfl) T.zisinstance (by decide +kernel) (pa_cons (pv 1) (pa_cons (pe_bltn (v := .ty "str") (by rfl) T.zstr (by decide +kernel) rfl) pa_nil))) (nomark _)) (pe_one (pe_cmpR op_eq (pv 0) (pv 1) (nomark _)))))))))), ?_⟩
      cases d with
      | none =>
        obtain rfl := r.nonV
        obtain rfl := u.nonV
        rw [show start N_law_same [V.non, V.non] = [some (V.non), some (V.non), none] from rfl]
        refine ⟨_, rfl, (by show 2 ≤ sizeLine; decide), fun t1 nt1 => ⟨_, t1, _, _, _, _, rfl, upd_same, .cons (.ty _) (.cons (.ty _) .nil), (Rep.sm u (same_new nt1)).ty, kitTL .none, _, rfl, ?_⟩⟩
        have s1 := same_new (o := .tup [V.ty "tuple", V.ty "list"]) nt1
        replace r := r.sm s1
        replace u := u.sm s1
        replace k := fun H' s' => k H' (s1.trans s')
        dsimp only
        generalize upd H t1 (.tup [V.ty "tuple", V.ty "list"]) = H1 at *
        refine ite2 (fun c => absurd c (by simp [isTup, isLst])) (fun _ => ?_)
        refine ⟨_, rfl, rfl, _, rfl, ?_⟩
        refine ite2 (fun _ => ?_) (fun c => absurd rfl c)
        exact ⟨_, rfl, rfl, k H1 (.refl _)⟩
      | bool x =>
        obtain rfl := r.blV
        obtain rfl := u.blV
        rw [show start N_law_same [V.bl x, V.bl x] = [some (V.bl x), some (V.bl x), none] from rfl]
        refine ⟨_, rfl, (by show 2 ≤ sizeLine; decide), fun t1 nt1 => ⟨_, t1, _, _, _, _, rfl, upd_same, .cons (.ty _) (.cons (.ty _) .nil), (Rep.sm u (same_new nt1)).ty, kitTL (.bool x), _, rfl, ?_⟩⟩
        have s1 := same_new (o := .tup [V.ty "tuple", V.ty "list"]) nt1
        replace r := r.sm s1
        replace u := u.sm s1
        replace k := fun H' s' => k H' (s1.trans s')
        dsimp only
        generalize upd H t1 (.tup [V.ty "tuple", V.ty "list"]) = H1 at *
        refine ite2 (fun c => absurd c (by simp [isTup, isLst])) (fun _ => ?_)
        refine ⟨_, rfl, rfl, _, rfl, ?_⟩
        refine ite2 (fun c => absurd c (by simp)) (fun _ => ?_)
        refine ⟨_, rfl, (by show 2 ≤ sizeLine; decide), fun t2 nt2 => ⟨_, t2, _, _, _, _, rfl, upd_same, .cons (.ty _) (.cons (.ty _) .nil), (Rep.sm r (same_new nt2)).ty, kitTL (.bool x), _, rfl, ?_⟩⟩
        have s2 := same_new (o := .tup [V.ty "tuple", V.ty "list"]) nt2
        replace r := r.sm s2
        replace u := u.sm s2
        replace k := fun H' s' => k H' (s2.trans s')
        dsimp only
        generalize upd H1 t2 (.tup [V.ty "tuple", V.ty "list"]) = H2 at *
        refine ite2 (fun c => absurd c (by simp [isTup, isLst])) (fun _ => ?_)
        refine ⟨_, rfl, _, "bool", S, (.bool x), _, rfl, r, kit_bool (.bool x), _, rfl, _, "bool", S, (.bool x), _, rfl, u, kit_bool (.bool x), rfl, _, rfl, ?_⟩
        refine ite2 (fun c => absurd c (by simp)) (fun _ => ?_)
        refine ⟨_, rfl, _, "str", S, (.bool x), _, rfl, r, kit_str (.bool x), _, rfl, _, "str", S, (.bool x), _, rfl, u, kit_str (.bool x), rfl, _, rfl, ?_⟩
        refine ite2 (fun _ => ?_) (fun c => absurd (by simp) c)
        refine ⟨_, rfl, _, rfl, rfl, ?_⟩
        rw [decide_eq_true rfl]
        exact k H2 (.refl _)
      | int x =>
        obtain rfl := r.intV
        obtain rfl := u.intV
        rw [show start N_law_same [V.int x, V.int x] = [some (V.int x), some (V.int x), none] from rfl]
        refine ⟨_, rfl, (by show 2 ≤ sizeLine; decide), fun t1 nt1 => ⟨_, t1, _, _, _, _, rfl, upd_same, .cons (.ty _) (.cons (.ty _) .nil), (Rep.sm u (same_new nt1)).ty, kitTL (.int x), _, rfl, ?_⟩⟩
        have s1 := same_new (o := .tup [V.ty "tuple", V.ty "list"]) nt1
        replace r := r.sm s1
        replace u := u.sm s1
        replace k := fun H' s' => k H' (s1.trans s')
        dsimp only
        generalize upd H t1 (.tup [V.ty "tuple", V.ty "list"]) = H1 at *
        refine ite2 (fun c => absurd c (by simp [isTup, isLst])) (fun _ => ?_)
        refine ⟨_, rfl, rfl, _, rfl, ?_⟩
        refine ite2 (fun c => absurd c (by simp)) (fun _ => ?_)
        refine ⟨_, rfl, (by show 2 ≤ sizeLine; decide), fun t2 nt2 => ⟨_, t2, _, _, _, _, rfl, upd_same, .cons (.ty _) (.cons (.ty _) .nil), (Rep.sm r (same_new nt2)).ty, kitTL (.int x), _, rfl, ?_⟩⟩
        have s2 := same_new (o := .tup [V.ty "tuple", V.ty "list"]) nt2
        replace r := r.sm s2
        replace u := u.sm s2
        replace k := fun H' s' => k H' (s2.trans s')
        dsimp only
        generalize upd H1 t2 (.tup [V.ty "tuple", V.ty "list"]) = H2 at *
        refine ite2 (fun c => absurd c (by simp [isTup, isLst])) (fun _ => ?_)
        refine ⟨_, rfl, _, "bool", S, (.int x), _, rfl, r, kit_bool (.int x), _, rfl, _, "bool", S, (.int x), _, rfl, u, kit_bool (.int x), rfl, _, rfl, ?_⟩
        refine ite2 (fun c => absurd c (by simp)) (fun _ => ?_)
        refine ⟨_, rfl, _, "str", S, (.int x), _, rfl, r, kit_str (.int x), _, rfl, _, "str", S, (.int x), _, rfl, u, kit_str (.int x), rfl, _, rfl, ?_⟩
        refine ite2 (fun _ => ?_) (fun c => absurd (by simp) c)
        refine ⟨_, rfl, _, rfl, rfl, ?_⟩
        rw [decide_eq_true rfl]
        exact k H2 (.refl _)
      | str x =>
        obtain rfl := r.strV
        obtain rfl := u.strV
        rw [show start N_law_same [V.str x, V.str x] = [some (V.str x), some (V.str x), none] from rfl]
        refine ⟨_, rfl, (by show 2 ≤ sizeLine; decide), fun t1 nt1 => ⟨_, t1, _, _, _, _, rfl, upd_same, .cons (.ty _) (.cons (.ty _) .nil), (Rep.sm u (same_new nt1)).ty, kitTL (.str x), _, rfl, ?_⟩⟩
        have s1 := same_new (o := .tup [V.ty "tuple", V.ty "list"]) nt1
        replace r := r.sm s1
        replace u := u.sm s1
        replace k := fun H' s' => k H' (s1.trans s')
        dsimp only
        generalize upd H t1 (.tup [V.ty "tuple", V.ty "list"]) = H1 at *
        refine ite2 (fun c => absurd c (by simp [isTup, isLst])) (fun _ => ?_)
        refine ⟨_, rfl, rfl, _, rfl, ?_⟩
        refine ite2 (fun c => absurd c (by simp)) (fun _ => ?_)
        refine ⟨_, rfl, (by show 2 ≤ sizeLine; decide), fun t2 nt2 => ⟨_, t2, _, _, _, _, rfl, upd_same, .cons (.ty _) (.cons (.ty _) .nil), (Rep.sm r (same_new nt2)).ty, kitTL (.str x), _, rfl, ?_⟩⟩
        have s2 := same_new (o := .tup [V.ty "tuple", V.ty "list"]) nt2
        replace r := r.sm s2
        replace u := u.sm s2
        replace k := fun H' s' => k H' (s2.trans s')
        dsimp only
        generalize upd H1 t2 (.tup [V.ty "tuple", V.ty "list"]) = H2 at *
        refine ite2 (fun c => absurd c (by simp [isTup, isLst])) (fun _ => ?_)
        refine ⟨_, rfl, _, "bool", S, (.str x), _, rfl, r, kit_bool (.str x), _, rfl, _, "bool", S, (.str x), _, rfl, u, kit_bool (.str x), rfl, _, rfl, ?_⟩
        refine ite2 (fun c => absurd c (by simp)) (fun _ => ?_)
        refine ⟨_, rfl, _, "str", S, (.str x), _, rfl, r, kit_str (.str x), _, rfl, _, "str", S, (.str x), _, rfl, u, kit_str (.str x), rfl, _, rfl, ?_⟩
        refine ite2 (fun _ => ?_) (fun c => absurd (by simp) c)
        refine ⟨_, rfl, _, rfl, rfl, ?_⟩
        rw [decide_eq_true rfl]
        exact k H2 (.refl _)
      | tuple ds =>
        obtain ⟨a, _, rfl, _⟩ := r.tupV
        obtain ⟨b, _, rfl, _⟩ := u.tupV
        rw [show start N_law_same [V.ref a, V.ref b] = [some (V.ref a), some (V.ref b), none] from rfl]
        refine ⟨_, rfl, (by show 2 ≤ sizeLine; decide), fun t1 nt1 => ⟨_, t1, _, _, _, _, rfl, upd_same, .cons (.ty _) (.cons (.ty _) .nil), (Rep.sm u (same_new nt1)).ty, kitTL (.tuple ds), _, rfl, ?_⟩⟩
        have s1 := same_new (o := .tup [V.ty "tuple", V.ty "list"]) nt1
        replace r := r.sm s1
        replace u := u.sm s1
        replace k := fun H' s' => k H' (s1.trans s')
        dsimp only
        generalize upd H t1 (.tup [V.ty "tuple", V.ty "list"]) = H1 at *
        refine ite2 (fun _ => ?_) (fun c => absurd rfl c)
        obtain ⟨xs, ha, an, rx⟩ := r.tupI
        obtain ⟨ys, hb, bn, ry⟩ := u.tupI
        refine ⟨_, rfl, .ref a, "tuple", S, (.tuple ds), _, rfl, (.tup ha an rx), kit_tup (.tuple ds), _, rfl, .ref b, "tuple", S, (.tuple ds), _, rfl, (.tup hb bn ry), kit_tup (.tuple ds), rfl, _, rfl, ?_⟩
        refine ite2 (fun c => absurd c (by simp)) (fun _ => ?_)
        refine ⟨_, rfl, .ref a, "list", S, (.tuple ds), _, rfl, (.tup ha an rx), kit_list (.tuple ds), _, rfl, .ref b, "list", S, (.tuple ds), _, rfl, (.tup hb bn ry), kit_list (.tuple ds), rfl, _, rfl, ?_⟩
        refine ite2 (fun c => absurd c (by simp)) (fun _ => ?_)
        refine ⟨_, rfl, a, xs, rfl, .inr (SqT.of ha), _, rfl, b, ys, rfl, .inr (SqT.of hb), rfl, _, rfl, ?_⟩
        refine ite2 (fun _ => ?_) (fun c => absurd (by simp [rx.length, ry.length]) c)
        have few := fl.1
        refine ⟨_, rfl, b, ys, rfl, .inr (SqT.of hb), (ds.length : Int), by rw [ry.length], by omega, by omega, fun D nD => ?_⟩
        refine lc_pure walk_range nD (fun _ => V.bl true) (by rw [sizeLine_eq]; omega) (fun _ _ => trivial) ?_ ?_
        · rintro i x H3 H4 F hi s3 ⟨rfl, rfl⟩ fin
          have il : i < ds.length := by omega
          obtain ⟨x, hx, r1⟩ := rx.at_ (List.getElem?_eq_getElem il)
          obtain ⟨y, hy, r2⟩ := ry.at_ (List.getElem?_eq_getElem il)
          exact ⟨rfl, _, rfl, _, rfl, .inr <| .inl ⟨a, xs, (i : Int), x, rfl, congrArg V.int (Int.zero_add _), SqT.of (s3 _ _ ha), atI_nat hx, _, rfl, _, rfl, .inr <| .inl ⟨b, ys, (i : Int), y, rfl, congrArg V.int (Int.zero_add _), SqT.of (s3 _ _ hb), atI_nat hy, x, y, S, ds[i], rfl, r1.sm s3, r2.sm s3, fl.2 _ (List.getElem_mem il), fun H5 s5 => fin H5 s5⟩⟩⟩
        · intro H3 s3 hD
          have eD : (List.range ((ds.length : Int)).toNat).map (fun _ => V.bl true) = (List.replicate ds.length true).map V.bl := by
            rw [Int.toNat_natCast]
            refine List.ext_getElem (by simp) fun i h1 h2 => by simp
          rw [eD] at hD
          refine ⟨D, _, rfl, SqL.of hD, ?_⟩
          rw [show (List.replicate ds.length true).all id = true by simp]
          exact k H3 s3
      | list ds =>
        obtain ⟨a, _, rfl, _⟩ := r.lstV
        obtain ⟨b, _, rfl, _⟩ := u.lstV
        rw [show start N_law_same [V.ref a, V.ref b] = [some (V.ref a), some (V.ref b), none] from rfl]
        refine ⟨_, rfl, (by show 2 ≤ sizeLine; decide), fun t1 nt1 => ⟨_, t1, _, _, _, _, rfl, upd_same, .cons (.ty _) (.cons (.ty _) .nil), (Rep.sm u (same_new nt1)).ty, kitTL (.list ds), _, rfl, ?_⟩⟩
        have s1 := same_new (o := .tup [V.ty "tuple", V.ty "list"]) nt1
        replace r := r.sm s1
        replace u := u.sm s1
        replace k := fun H' s' => k H' (s1.trans s')
        dsimp only
        generalize upd H t1 (.tup [V.ty "tuple", V.ty "list"]) = H1 at *
        refine ite2 (fun _ => ?_) (fun c => absurd rfl c)
        obtain ⟨xs, ha, an, rx⟩ := r.lstI
        obtain ⟨ys, hb, bn, ry⟩ := u.lstI
        refine ⟨_, rfl, .ref a, "tuple", S, (.list ds), _, rfl, (.lst ha an rx), kit_tup (.list ds), _, rfl, .ref b, "tuple", S, (.list ds), _, rfl, (.lst hb bn ry), kit_tup (.list ds), rfl, _, rfl, ?_⟩
        refine ite2 (fun c => absurd c (by simp)) (fun _ => ?_)
        refine ⟨_, rfl, .ref a, "list", S, (.list ds), _, rfl, (.lst ha an rx), kit_list (.list ds), _, rfl, .ref b, "list", S, (.list ds), _, rfl, (.lst hb bn ry), kit_list (.list ds), rfl, _, rfl, ?_⟩
        refine ite2 (fun c => absurd c (by simp)) (fun _ => ?_)
        refine ⟨_, rfl, a, xs, rfl, .inl (SqL.of ha), _, rfl, b, ys, rfl, .inl (SqL.of hb), rfl, _, rfl, ?_⟩
        refine ite2 (fun _ => ?_) (fun c => absurd (by simp [rx.length, ry.length]) c)
        have few := fl.1
        refine ⟨_, rfl, b, ys, rfl, .inl (SqL.of hb), (ds.length : Int), by rw [ry.length], by omega, by omega, fun D nD => ?_⟩
        refine lc_pure walk_range nD (fun _ => V.bl true) (by rw [sizeLine_eq]; omega) (fun _ _ => trivial) ?_ ?_
        · rintro i x H3 H4 F hi s3 ⟨rfl, rfl⟩ fin
          have il : i < ds.length := by omega
          obtain ⟨x, hx, r1⟩ := rx.at_ (List.getElem?_eq_getElem il)
          obtain ⟨y, hy, r2⟩ := ry.at_ (List.getElem?_eq_getElem il)
          exact ⟨rfl, _, rfl, _, rfl, .inl ⟨a, xs, (i : Int), x, rfl, congrArg V.int (Int.zero_add _), SqL.of (s3 _ _ ha), atI_nat hx, _, rfl, _, rfl, .inl ⟨b, ys, (i : Int), y, rfl, congrArg V.int (Int.zero_add _), SqL.of (s3 _ _ hb), atI_nat hy, x, y, S, ds[i], rfl, r1.sm s3, r2.sm s3, fl.2 _ (List.getElem_mem il), fun H5 s5 => fin H5 s5⟩⟩⟩
        · intro H3 s3 hD
          have eD : (List.range ((ds.length : Int)).toNat).map (fun _ => V.bl true) = (List.replicate ds.length true).map V.bl := by
            rw [Int.toNat_natCast]
            refine List.ext_getElem (by simp) fun i h1 h2 => by simp
          rw [eD] at hD
          refine ⟨D, _, rfl, SqL.of hD, ?_⟩
          rw [show (List.replicate ds.length true).all id = true by simp]
          exact k H3 s3
      | dict _ => exact (fl : False).elim

end
end Lb

set_option Elab.async false
set_option linter.all false
set_option maxRecDepth 100000
set_option maxHeartbeats 4000000

namespace Lb
open PySem PySem.Spec PyProof.Rows L2
section
variable {P : Program} {w : World} {K : PySem.W.Frag} {mg : Str → Option Value} {base : Heap} {A : Ad}
def sp_law_pool (K : PySem.W.Frag) : Sp := fun vs H Q _ => ∃ (a : Addr) (ns : List Int), vs = [.ref a] ∧ SqL K H a (ns.map V.int) ∧ ns.length ≤ 63 ∧ ∀ H' l, Same H H' → H l = none → Pool 0 l H' → Q (.ref l) H'
theorem ok_law_pool (T : Txt K w mg A) : FnOk P w K mg base CX0 1 A.f_law_pool A.d_law_pool ["script"] (sp_law_pool K) := by
  refine T.F_law_pool.ok sc_law_pool (fun vs H Q E h => ?_) (fun cdv Ar outer s H vs Q E hr h => ?_)
  · obtain ⟨a, ns, rfl, hS, few, k⟩ := h
    rfl
  · obtain ⟨a, ns, rfl, hS, few, k⟩ := h
    refine ⟨_, PSs.nox ((pss_one (ps_ret (pe_op op_cat (pe_op op_cat (pe_lst (pa_cons pe_int pa_nil)) (pe_lc (own := [("cell", 1)]) (g := (gName 1)) (tt := tYes) rfl sc_law_pool.nd (pi_list (pv 0)) (blkOk_by (N := N_law_pool) (sc := defScope s_law_pool) (by decide +kernel)) (fun _ _ _ _ _ => (pg_name (i := 1) sc_law_pool.nd rfl (Or.inl rfl))) (fun _ _ _ _ _ => pts_nil) (fun _ _ _ _ _ => (pe_callTy call_int1 (by rfl) T.zint (by decide +kernel) (pa_cons (pv 1) pa_nil))))) (pe_op op_rep (pe_lst (pa_cons pe_int pa_nil)) (pe_callTy call_int1 (by rfl) T.zint (by decide +kernel) (pa_cons (pe_cmpR op_eq (pe_callB call_len_seq (by rfl) T.zlen (by decide +kernel) (pa_cons (pv 0) pa_nil)) pe_int (nomark _)) pa_nil))))))), ?_⟩
    rw [show start N_law_pool [.ref a] = [some (.ref a), none] from rfl]
    refine ⟨(by show 1 ≤ sizeLine; decide), fun p np => ?_⟩
    have sp : Same H (upd H p (.lst [V.int 0])) := same_new np
    have hp : (upd H p (.lst [V.int 0])) p = some (.lst [V.int 0]) := upd_same
    generalize upd H p (.lst [V.int 0]) = H1 at sp hp ⊢
    refine ⟨_, rfl, a, rfl, ⟨_, sp.seq hS⟩, fun D nD => ?_⟩
    refine lc_pure (walk_list (xs := ns.map V.int)) nD (fun i => V.int (ns.getD i 0)) (by rw [List.length_map, sizeLine_eq]; omega) (fun H' s' => s'.seq (sp.seq hS)) ?_ ?_
    · rintro i x H' H'' F hi s' ⟨rfl, hx⟩ fin
      rw [List.getElem?_map] at hx
      obtain ⟨z, hz, rfl⟩ := Option.map_eq_some_iff.mp hx
      refine ⟨rfl, ⟨_, rfl, .inl ⟨z, rfl, ?_⟩⟩⟩
      have e := fin _ (.refl _)
      rw [List.getD_eq_getElem?_getD, hz, Option.getD_some] at e
      exact e
    · intro H2 s2 hD
      have eD : (List.range (ns.map V.int).length).map (fun i => V.int (ns.getD i 0)) = ns.map V.int := by
        refine List.ext_getElem (by simp) fun i h1 h2 => ?_
        simp only [List.getElem_map, List.getElem_range, List.getD_eq_getElem?_getD]
        rw [List.getElem?_eq_getElem (by simpa using h2), Option.getD_some]
      rw [eD] at hD
      refine ⟨p, D, _, _, rfl, rfl, s2 _ _ hp, hD, by simp only [List.length_map, List.length_cons, List.length_nil]; rw [sizeLine_eq]; omega, fun q nq => ⟨(by show 1 ≤ sizeLine; decide), fun r nr => ?_⟩⟩
      have s3 : Same H2 (upd (upd H2 q (.lst ([V.int 0] ++ ns.map V.int))) r (.lst [V.int 0])) := (same_new nq).trans (same_new nr)
      have hr : (upd (upd H2 q (.lst ([V.int 0] ++ ns.map V.int))) r (.lst [V.int 0])) r = some (.lst [V.int 0]) := upd_same
      have hq : (upd (upd H2 q (.lst ([V.int 0] ++ ns.map V.int))) r (.lst [V.int 0])) q = some (.lst ([V.int 0] ++ ns.map V.int)) := by
        rw [upd_ne (ne_of_none upd_same nr)]
        exact upd_same
      generalize upd (upd H2 q (.lst ([V.int 0] ++ ns.map V.int))) r (.lst [V.int 0]) = H3 at s3 hr hq ⊢
      refine ⟨_, rfl, a, _, rfl, .inl (s3.seq (s2.seq (sp.seq hS))), rfl, .inr ⟨_, rfl, ?_⟩⟩
      have last : ∀ j : Nat, j ≤ 1 → (j = 0 → 0 < ns.length) → (∃ l k xs, V.ref r = .ref l ∧ V.int (j : Int) = .int k ∧ H3 l = some (.lst xs) ∧ -(2 ^ 63) ≤ k ∧ k < 2 ^ 63 ∧ xs.length * k.toNat ≤ sizeLine ∧ ∀ p, H3 p = none → rCat (.ref q) (.ref p) (upd H3 p (.lst (List.replicate k.toNat xs).flatten)) fun v H' => Q v H') := by
        intro j j1 j0
        refine ⟨r, (j : Int), _, rfl, rfl, hr, by omega, by omega, by simp only [List.length_cons, List.length_nil]; rw [sizeLine_eq]; omega, fun z nz => ⟨q, z, _, _, rfl, rfl, by rw [upd_ne (ne_of_none hq nz)]; exact hq, upd_same, ?_, fun l nl => ?_⟩⟩
        · have : ((List.replicate ((j : Int)).toNat [V.int 0]).flatten).length ≤ 1 := by
            rw [Int.toNat_natCast]
            rcases (by omega : j = 0 ∨ j = 1) with e | e <;> subst e <;> decide
          simp only [List.length_append, List.length_map, List.length_cons, List.length_nil]
          rw [sizeLine_eq]
          omega
        · have nH : H l = none := (sp.trans (s2.trans (s3.trans (same_new nz)))).free nl
          refine k _ l (sp.trans (s2.trans (s3.trans ((same_new nz).trans (same_new nl))))) nH ?_
          rcases (by omega : j = 0 ∨ j = 1) with e | e
          · subst e
            exact ⟨0, ns, by rw [upd_same]; simp, by omega, by omega, by have := j0 rfl; omega, by omega⟩
          · subst e
            exact ⟨0, ns ++ [0], by rw [upd_same]; simp, by omega, by omega, by simp, by simp; omega⟩
      by_cases c : ns.length = 0
      · have e : decide (V.int ((ns.map V.int).length : Int) = V.int 0) = true := by simp [c]
        rw [e]
        exact last 1 (by omega) (by omega)
      · have e : decide (V.int ((ns.map V.int).length : Int) = V.int 0) = false := by simp [c]
        rw [e]
        exact last 0 (by omega) (by omega)
def sp_law_draw : Sp := fun vs H Q _ => ∃ (l : Addr) (m : Nat) (n : Int), vs = [.ref l, .int n] ∧ Pool m l H ∧ m ≤ 60000 ∧ 0 < n ∧ n < 1073741824 ∧ ∀ (H' : Hp) (v : Int), But [l] H H' → Pool (m + 1) l H' → 0 ≤ v → v < n → Q (.int v) H'
theorem ok_law_draw (T : Txt K w mg A) : FnOk P w K mg base CX0 1 A.f_law_draw A.d_law_draw ["pool", "limit"] (sp_law_draw) := by
  refine T.F_law_draw.ok sc_law_draw (fun vs H Q E h => ?_) (fun cdv Ar outer s H vs Q E hr h => ?_)
  · obtain ⟨l, m, n, rfl, hp, m6, n0, n1, k⟩ := h
    rfl
  · obtain ⟨l, m, n, rfl, hp, m6, n0, n1, k⟩ := h
    refine ⟨_, PSs.nox ((pss_cons (ps_set (i := 2) sc_law_draw.nd rfl (Or.inl rfl) (pe_ix ix_list (pv 0) pe_int (fun _ _ => rfl)))
 (pss_cons (ps_asg (pe_op op_add (pv 2) pe_int) (pg_sub (pv 0) pe_int set_list))
 (pss_cons (ps_set (i := 3) sc_law_draw.nd rfl (Or.inl rfl) (pe_op op_add pe_int (pe_op op_mod (pe_callTy call_int1 (by rfl) T.zint (by decide +kernel) (pa_cons (pv 2) pa_nil)) (pe_op op_sub (pe_callB call_len_seq (by rfl) T.zlen (by decide +kernel) (pa_cons (pv 0) pa_nil)) pe_int))))
 (pss_cons (ps_set (i := 4) sc_law_draw.nd rfl (Or.inl rfl) (pe_ix ix_list (pv 0) (pv 3) (fun _ _ => rfl)))
 (pss_cons (ps_if (pt_cmpR op_ge (pv 4) (pe_op op_pow pe_int pe_int) (nomark _)) (pss_cons (ps_asg (pe_op op_fdiv (pv 4) (pv 1)) (pg_sub (pv 0) (pv 3) set_list))
 (pss_one (ps_ret (pe_op op_mod (pe_callTy call_int1 (by rfl) T.zint (by decide +kernel) (pa_cons (pv 4) pa_nil)) (pv 1))))) pss_nil)
 (pss_cons (ps_set (i := 5) sc_law_draw.nd rfl (Or.inl rfl) (pe_op op_add (pe_op op_mod (pe_callTy call_int1 (by rfl) T.zint (by decide +kernel) (pa_cons (pv 4) pa_nil)) pe_int) pe_int))
 (pss_cons (ps_set (i := 6) sc_law_draw.nd rfl (Or.inl rfl) (pe_op op_add (pe_op op_add (pe_op op_mul (pe_op op_mul (pv 5) (pv 5)) (pe_op op_add (pv 2) pe_int)) (pe_op op_mul (pv 5) (pe_op op_add (pe_op op_mul (pv 2) (pv 2)) pe_int))) (pe_op op_pow (pe_op op_add (pv 2) pe_int) pe_int)))
 (pss_cons (ps_set (i := 7) sc_law_draw.nd rfl (Or.inl rfl) (pe_ix ix_list (pe_lst (pa_cons pe_int (pa_cons pe_int (pa_cons pe_int (pa_cons pe_int (pa_cons pe_int pa_nil)))))) (pe_op op_mod (pe_callTy call_int1 (by rfl) T.zint (by decide +kernel) (pa_cons (pv 2) pa_nil)) pe_int) (fun _ _ => rfl)))
 (pss_one (ps_ret (pe_op op_mod (pe_op op_mod (pe_callTy call_int1 (by rfl) T.zint (by decide +kernel) (pa_cons (pe_op op_fdiv (pe_op op_mul (pv 6) (pv 6)) pe_int) pa_nil)) (pv 7)) (pv 1))))))))))))), ?_⟩
    rw [show start N_law_draw [.ref l, .int n] = [some (.ref l), some (.int n), none, none, none, none, none, none] from rfl]
    obtain ⟨k0, cs, hl, k00, k0m, c1, c64⟩ := hp
    refine ⟨_, rfl, l, _, 0, _, rfl, rfl, SqL.of hl, atI_nat (j := 0) rfl, ?_⟩
    refine ⟨_, rfl, _, _, rfl, rfl, _, rfl, l, _, 0, 0, rfl, rfl, hl, by simp [ixN], ?_⟩
    have b1 : But [l] H (upd H l (.lst ((V.int k0 :: cs.map V.int).set 0 (V.int (k0 + 1))))) := .upd .refl List.mem_cons_self
    have hl1 : (upd H l (.lst ((V.int k0 :: cs.map V.int).set 0 (V.int (k0 + 1))))) l = some (.lst (V.int (k0 + 1) :: cs.map V.int)) := upd_same
    show tSeq _ _ _ _ (upd H l (.lst ((V.int k0 :: cs.map V.int).set 0 (V.int (k0 + 1)))))
    generalize upd H l (.lst ((V.int k0 :: cs.map V.int).set 0 (V.int (k0 + 1)))) = H1 at b1 hl1 ⊢
    have rest0 : 0 ≤ k0 % (cs.length : Int) := Int.emod_nonneg _ (by omega)
    have rest1 : k0 % (cs.length : Int) < (cs.length : Int) := Int.emod_lt_of_pos _ (by omega)
    refine ⟨_, rfl, .inl ⟨k0, rfl, _, rfl, l, _, rfl, .inl (SqL.of hl1), _, _, rfl, rfl, _, _, rfl, rfl, ?_, ?_⟩⟩
    · simp only [List.length_cons, List.length_map]
      omega
    rw [show (((V.int (k0 + 1) :: cs.map V.int).length : Int) - 1) = (cs.length : Int) by simp only [List.length_cons, List.length_map]; omega]
    refine ⟨_, _, rfl, rfl, ?_⟩
    obtain ⟨j, ej⟩ : ∃ j : Nat, k0 % (cs.length : Int) = (j : Int) := ⟨(k0 % (cs.length : Int)).toNat, by omega⟩
    dsimp only [List.set]
    rw [ej] at rest0 rest1 ⊢
    obtain ⟨x, hx⟩ : ∃ x, cs[j]? = some x := ⟨_, List.getElem?_eq_getElem (by omega)⟩
    have at_j : atI (V.int (k0 + 1) :: cs.map V.int) (1 + (j : Int)) = some (V.int x) := by
      have e := atI_nat (xs := V.int (k0 + 1) :: cs.map V.int) (j := j + 1) (v := V.int x) (by rw [List.getElem?_cons_succ, List.getElem?_map, hx]; rfl)
      rwa [show ((j + 1 : Nat) : Int) = 1 + (j : Int) by omega] at e
    have mod0 : ∀ y : Int, 0 ≤ y % n ∧ y % n < n := fun y => ⟨Int.emod_nonneg _ (by omega), Int.emod_lt_of_pos _ n0⟩
    refine ⟨_, rfl, _, rfl, l, _, _, _, rfl, rfl, SqL.of hl1, at_j, ?_⟩
    refine ⟨_, rfl, _, _, rfl, rfl, ⟨by omega, by omega, by decide⟩, _, _, rfl, rfl, _, rfl, ?_⟩
    refine ite2 (fun c => ?_) (fun c => ?_)
    · refine ⟨_, rfl, _, rfl, _, _, rfl, rfl, ⟨n0, n1⟩, _, rfl, _, rfl, l, _, _, j + 1, rfl, rfl, hl1, ?_, ?_⟩
      · simp only [ixN, List.length_cons, List.length_map]
        rw [if_pos (by omega), if_pos (by omega)]
        congr 1
        omega
      have b2 : But [l] H (upd H1 l (.lst ((V.int (k0 + 1) :: cs.map V.int).set (j + 1) (V.int (x / n))))) := b1.upd List.mem_cons_self
      have hl2 : (upd H1 l (.lst ((V.int (k0 + 1) :: cs.map V.int).set (j + 1) (V.int (x / n))))) l = some (.lst (V.int (k0 + 1) :: (cs.set j (x / n)).map V.int)) := by
        rw [upd_same, List.set_cons_succ, List.map_set]
      dsimp only
      generalize upd H1 l (.lst ((V.int (k0 + 1) :: cs.map V.int).set (j + 1) (V.int (x / n)))) = H2 at b2 hl2 ⊢
      refine ⟨_, rfl, .inl ⟨_, rfl, _, rfl, _, _, rfl, rfl, n0, ?_⟩⟩
      exact k _ _ b2 ⟨k0 + 1, _, hl2, by omega, by omega, by rw [List.length_set]; exact c1, by rw [List.length_set]; exact c64⟩ (mod0 x).1 (mod0 x).2
    · have P1 : Pool (m + 1) l H1 := ⟨k0 + 1, cs, hl1, by omega, by omega, c1, c64⟩
      refine ⟨_, rfl, .inl ⟨_, rfl, _, _, rfl, rfl, (by show (0 : Int) < 1000003; decide), _, _, rfl, rfl, ?_⟩⟩
      have f0 : 0 ≤ x % 1000003 := Int.emod_nonneg _ (by decide)
      have f1 : x % 1000003 < 1000003 := Int.emod_lt_of_pos _ (by decide)
      obtain ⟨f, ef⟩ : ∃ f : Int, x % 1000003 + 5 = f := ⟨_, rfl⟩
      dsimp only [List.set]
      rw [ef]
      have M := mixed_small (f := f) (k := k0) (by omega) (by omega) k00 (by omega)
      refine ⟨_, rfl, _, rfl, _, _, rfl, rfl, .inl ⟨by omega, by omega⟩, _, rfl, _, _, rfl, rfl, _, _, rfl, rfl, .inr ⟨by omega, by omega⟩, ?_⟩
      refine ⟨_, rfl, _, rfl, _, rfl, _, _, rfl, rfl, .inl ⟨by omega, by omega⟩, _, _, rfl, rfl, _, _, rfl, rfl, .inl ⟨by omega, by omega⟩, _, _, rfl, rfl, ?_⟩
      refine ⟨_, rfl, _, _, rfl, rfl, _, _, rfl, rfl, ⟨by decide, by decide, by omega⟩, _, _, rfl, rfl, ?_⟩
      dsimp only [List.set]
      generalize f * f * (k0 + 7) + f * (k0 * k0 + 13) + (k0 + 11) ^ (3 : Int).toNat = mx at M ⊢
      obtain ⟨pr, hpr, p0, p1⟩ := prime_at (Int.emod_nonneg k0 (by decide : (5 : Int) ≠ 0)) (Int.emod_lt_of_pos k0 (by decide : (0 : Int) < 5))
      refine ⟨(by show 5 ≤ sizeLine; decide), fun q nq => ⟨_, rfl, .inl ⟨_, rfl, _, _, rfl, rfl, (by show (0 : Int) < 5; decide), q, _, _, _, rfl, rfl, SqL.of upd_same, hpr, ?_⟩⟩⟩
      have b3 : But [l] H (upd H1 q (.lst [V.int 999979, V.int 999961, V.int 999953, V.int 999931, V.int 999917])) := b1.new nq
      refine ⟨_, rfl, _, rfl, _, _, rfl, rfl, .inl M, _, _, rfl, rfl, ⟨by decide, by decide⟩, .inl ⟨_, rfl, _, rfl, _, _, rfl, rfl, p0, _, rfl, _, _, rfl, rfl, n0, ?_⟩⟩
      exact k _ _ b3 (P1.new nq) (mod0 _).1 (mod0 _).2
end
end Lb

set_option Elab.async false
set_option linter.all false
set_option maxRecDepth 100000
set_option maxHeartbeats 4000000

namespace Lb
open PySem PySem.Spec PyProof.Rows L2
section
variable {P : Program} {w : World} {K : PySem.W.Frag} {mg : Str → Option Value} {base : Heap} {A : Ad}
def sp_law_subset : Sp := fun vs H Q _ => ∃ (l a : Addr) (m : Nat) (most : Int) (xs : List V), vs = [.ref l, .ref a, .int most] ∧ Pool m l H ∧ m ≤ 50000 ∧ H a = some (.lst xs) ∧ a ≠ l ∧ xs.length ≤ 25 ∧ 0 ≤ most ∧ ∀ (H' : Hp) (p : Addr) (ys : List V), But [l] H H' → Pool (m + 25) l H' → H p = none → H' p = some (.lst ys) → ys.Sublist xs → (ys.length : Int) ≤ most → Q (.ref p) H'
theorem ok_law_subset (T : Txt K w mg A) : FnOk P w K mg base CX0 2 A.f_law_subset A.d_law_subset ["pool", "items", "most"] (sp_law_subset) := by
  refine T.F_law_subset.ok sc_law_subset (fun vs H Q E h => ?_) (fun cdv Ar outer s H vs Q E hr h => ?_)
  · obtain ⟨l, a, m, most, xs, rfl, hp, m5, ha, al, x20, most0, k⟩ := h
    rfl
  · obtain ⟨l, a, m, most, xs, rfl, hp, m5, ha, al, x20, most0, k⟩ := h
    refine ⟨_, PSs.nox ((pss_cons (ps_set (i := 3) sc_law_subset.nd rfl (Or.inl rfl) (pe_lst pa_nil))
 (pss_cons (ps_for PassesOwn.never rfl (pi_list (pv 1)) (pg_name (i := 4) sc_law_subset.nd rfl (Or.inl rfl)) (pss_one (ps_if (PW.pt (pw_and (pt_cmpR op_lt (pe_callB call_len_seq (by rfl) T.zlen (by decide +kernel) (pa_cons (pv 3) pa_nil)) (pv 2) (nomark _)) (pw_and1 (pt_cmpR op_eq (pe_call (ok_law_draw T) hr rfl T.m_law_draw T.F_law_draw.kp (b_law_draw T) .nil pass0 (pa_cons (pv 0) (pa_cons pe_int pa_nil))) pe_int (nomark _))))) (pss_one (ps_expr (pe_bm PySem.F.plainAttrs_list PySem.F.slot_list_append PySem.F.type_list_append mt_append (pv 3) (pa_cons (pv 4) pa_nil)))) pss_nil)))
 (pss_one (ps_ret (pv 3)))))), ?_⟩
    rw [show start N_law_subset [.ref l, .ref a, .int most] = [some (.ref l), some (.ref a), some (.int most), none, none] from rfl]
    refine ⟨Nat.zero_le _, fun p np => ?_⟩
    have pl := hp.ne np
    have ap : a ≠ p := ne_of_none ha np
    refine ⟨_, rfl, a, rfl, ⟨_, SqL.of (by rw [upd_ne ap]; exact ha)⟩, for_list (K := K) (a := a) (xs := xs) (fun i σ H' => ∃ (ys : List V) (o : Option V), σ = [some (.ref l), some (.ref a), some (.int most), some (.ref p), o] ∧
      But [p, l] H H' ∧ Pool (m + i) l H' ∧ H' p = some (.lst ys) ∧ ys.Sublist (xs.take i) ∧ (ys.length : Int) ≤ most) ?_ (fun i σ H' _ q => ?_) ?_ ?_⟩
    · exact ⟨[], _, rfl, But.refl.new np, hp.new np, upd_same, List.nil_sublist _, most0⟩
    · obtain ⟨_, _, _, bb, _⟩ := q
      exact SqL.of (bb a _ (fun z => (List.mem_cons.mp z).elim ap (fun z => al (List.mem_singleton.mp z))) ha)
    · rintro i y σ H' hi ⟨ys, o, rfl, b2, p2, h2, sub, len⟩
      have il : i < xs.length := (List.getElem?_eq_some_iff.mp hi).1
      have ly := sub.length_le
      rw [List.length_take] at ly
      refine ⟨_, rfl, p, _, rfl, .inl (SqL.of h2), _, rfl, _, _, rfl, rfl, _, rfl, ?_⟩
      have tk : xs.take (i + 1) = xs.take i ++ [y] := by rw [List.take_succ, hi]; rfl
      have skip_ : ∀ H3, But [p, l] H' H3 → Pool (m + (i + 1)) l H3 → H3 p = some (.lst ys) → ∃ (ys : List V) (o : Option V), [some (.ref l), some (.ref a), some (.int most), some (.ref p), some y] = [some (.ref l), some (.ref a), some (.int most), some (.ref p), o] ∧
          But [p, l] H H3 ∧ Pool (m + (i + 1)) l H3 ∧ H3 p = some (.lst ys) ∧ ys.Sublist (xs.take (i + 1)) ∧ (ys.length : Int) ≤ most := fun H3 b3 p3 h3 => ⟨ys, _, rfl, b2.trans b3, p3, h3, by rw [tk]; exact sub.trans (List.sublist_append_left _ _), len⟩
      refine ite2 (fun c => ?_) (fun c => iteF (skip_ H' .refl (p2.le (by omega)) h2))
      have c' : (ys.length : Int) < most := of_decide_eq_true c
      refine ⟨_, rfl, l, m + i, 2, rfl, p2, by omega, by decide, by decide, fun H3 u b3 p3 u0 u1 => ⟨rfl, _, rfl, ?_⟩⟩
      have h3 := b3.at1 h2 pl
      have b3' : But [p, l] H' H3 := b3.mono fun x z => List.mem_cons_of_mem _ z
      refine ite2 (fun c2 => ?_) (fun c2 => skip_ H3 b3' p3 h3)
      refine ⟨_, rfl, .inl ⟨rfl, _, SqL.of h3⟩, _, rfl, p, ys, _, rfl, rfl, h3, by rw [sizeLine_eq]; omega, ?_⟩
      exact ⟨ys ++ [y], _, rfl, b2.trans (b3'.upd List.mem_cons_self), p3.away pl, upd_same, by rw [tk]; exact sub.append (.refl _), by rw [List.length_append]; show ((ys.length + 1 : Nat) : Int) ≤ most; omega⟩
    · rintro σ H' ⟨ys, o, rfl, b2, p2, h2, sub, len⟩
      rw [List.take_length] at sub
      refine ⟨_, rfl, k _ p ys (fun b u n e => ?_) (p2.le (by omega)) np h2 sub len⟩
      exact b2 b u (fun z => (List.mem_cons.mp z).elim (ne_of_none e np) n) e
theorem letter_ix {v : Int} (h0 : 0 ≤ v) (h1 : v < 4) : ∃ c, atI ("abcd" : Str).cps.toList v = some c ∧ (⟨#[c]⟩ : Str) ∈ letters := letter_at h0 h1
theorem eqv_nil (ps : List Nm) : PyData.eqv (.list (ps.map nmD)) (.list []) = decide (ps = []) := by
  cases ps with
  | nil => rfl
  | cons p r => rfl
def sp_law_need : Sp := fun vs H Q _ => ∃ (l g : Addr) (m : Nat) (c : Int) (gs : List V) (ps : List Nm), vs = [.ref l, .int c, .ref g] ∧ Pool m l H ∧ m ≤ 50000 ∧ H g = some (.lst gs) ∧ g ≠ l ∧ Reps [l] H gs (ps.map nmD) ∧ (∀ p ∈ ps, nmOk c p) ∧ ps.length ≤ 40 ∧ 0 < c ∧ c ≤ 4 ∧ ∀ (H' : Hp) (v : V) (p : Nm), But [l] H H' → Pool (m + 4) l H' → Rep [l] H' v (nmD p) → nmOk c p → Q v H'
theorem ok_law_need (T : Txt K w mg A) : FnOk P w K mg base CX0 2 A.f_law_need A.d_law_need ["pool", "count", "given"] (sp_law_need) := by
  refine T.F_law_need.ok sc_law_need (fun vs H Q E h => ?_) (fun cdv Ar outer s H vs Q E hr h => ?_)
  · obtain ⟨l, g, m, c, gs, ps, rfl, hp, m5, hg, gl, rg, gok, g40, c0, c4, k⟩ := h
    rfl
  · obtain ⟨l, g, m, c, gs, ps, rfl, hp, m5, hg, gl, rg, gok, g40, c0, c4, k⟩ := h
    refine ⟨_, PSs.nox ((pss_cons (ps_if (PW.pt (pw_and (pt_cmpR (op_neD hr.units) (pv 2) (pe_lst pa_nil) (nomark _)) (pw_and1 (pt_cmpR op_gt (pe_call (ok_law_draw T) hr rfl T.m_law_draw T.F_law_draw.kp (b_law_draw T) .nil pass0 (pa_cons (pv 0) (pa_cons pe_int pa_nil))) pe_int (nomark _))))) (pss_one (ps_ret (pe_ix ix_list (pv 2) (pe_call (ok_law_draw T) hr rfl T.m_law_draw T.F_law_draw.kp (b_law_draw T) .nil pass0 (pa_cons (pv 0) (pa_cons (pe_callB call_len_seq (by rfl) T.zlen (by decide +kernel) (pa_cons (pv 2) pa_nil)) pa_nil))) (fun _ _ => rfl)))) pss_nil)
 (pss_one (ps_ret (pe_tup (pa_cons (pe_call (ok_law_draw T) hr rfl T.m_law_draw T.F_law_draw.kp (b_law_draw T) .nil pass0 (pa_cons (pv 0) (pa_cons (pv 1) pa_nil))) (pa_cons (pe_ix ix_str pe_str (pe_call (ok_law_draw T) hr rfl T.m_law_draw T.F_law_draw.kp (b_law_draw T) .nil pass0 (pa_cons (pv 0) (pa_cons pe_int pa_nil))) (fun _ _ => rfl)) pa_nil))))))), ?_⟩
    rw [show start N_law_need [.ref l, .int c, .ref g] = [some (.ref l), some (.int c), some (.ref g)] from rfl]
    refine ⟨_, rfl, Nat.zero_le _, fun e ne => ?_⟩
    have he : Same H (upd H e (.lst [])) := same_new ne
    refine ⟨_, _, Rep.dp (st := [l]) (.list (ps.map nmD)) _ (noDict_nms ps) (.lst (he _ _ hg) (fun z => gl (List.mem_singleton.mp z)) (rg.sm he)), Rep.dp (st := [l]) (.list []) _ rfl (.lst upd_same (fun z => hp.ne ne (List.mem_singleton.mp z)) .nil), shaped_nms gok, (by decide +kernel), _, rfl, ?_⟩
    rw [eqv_nil]
    have last : ∀ (n : Nat) (H1 : Hp), n ≤ 1 → But [l] H H1 → Pool (m + n) l H1 → tRet (tTup (tCons (tCall sp_law_draw [] E0 (tCons (tVar 0) (tCons (tVar 1) tNil))) (tCons (tOp rIxS (tC (.str "abcd")) (tCall sp_law_draw [] E0 (tCons (tVar 0) (tCons (tC (.int 4)) tNil)))) tNil)))
        { nx := fun _ H' => Q .non H', rt := Q } [some (.ref l), some (.int c), some (.ref g)] H1 := by
      intro n H1 n1 b1 s1
      refine ⟨_, rfl, _, rfl, l, m + n, c, rfl, s1, by omega, c0, by omega, fun H2 v b2 s2 v0 v1 => ⟨_, rfl, l, m + n + 1, 4, rfl, s2, by omega, by decide, by decide, fun H3 u b3 s3 u0 u1 => ?_⟩⟩
      obtain ⟨ch, e, mem⟩ := letter_at u0 u1
      refine ⟨_, _, ch, rfl, rfl, (by decide +kernel), e, (by show 2 ≤ sizeLine; decide), fun p np => ?_⟩
      have bn : But [l] H3 (upd H3 p (.tup [.int v, .str ⟨#[ch]⟩])) := .new .refl np
      exact k _ _ (v, ⟨#[ch]⟩) (((b1.trans b2).trans b3).trans bn) ((s3.new np).le (by omega)) (.tup upd_same (fun z => s3.ne np (List.mem_singleton.mp z)) (.cons (.int _) (.cons (.str _) .nil))) ⟨v0, v1, mem⟩
    have hpe : Pool m l (upd H e (.lst [])) := hp.same he
    refine ite2 (fun c1 => ?_) (fun c1 => iteF (last 0 _ (by omega) (.of he) hpe))
    have some_ : ps ≠ [] := by simpa using c1
    have lgs : gs.length = ps.length := by rw [rg.length, List.length_map]
    have pos : 0 < ps.length := List.length_pos_iff.mpr some_
    refine ⟨_, rfl, l, m, 6, rfl, hpe, by omega, by decide, by decide, fun H1 v b1 s1 v0 v1 => ⟨_, _, rfl, rfl, _, rfl, ?_⟩⟩
    have b01 := (But.of he).trans b1
    refine ite2 (fun c2 => ?_) (fun c2 => last 1 H1 (by omega) b01 s1)
    have hg1 := b01.at1 hg gl
    refine ⟨_, rfl, _, rfl, _, rfl, g, _, rfl, .inl (SqL.of hg1), l, m + 1, _, rfl, s1, by omega, (by omega), (by omega), fun H2 u b2 s2 u0 u1 => ?_⟩
    have b02 := b01.trans b2
    have hg2 := b2.at1 hg1 gl
    obtain ⟨x, hx⟩ : ∃ x, gs[u.toNat]? = some x := ⟨_, List.getElem?_eq_getElem (by omega)⟩
    have at_u : atI gs u = some x := by
      have e := atI_nat (xs := gs) (j := u.toNat) hx
      rwa [Int.toNat_of_nonneg u0] at e
    obtain ⟨d, hd, rx⟩ := rg.get hx
    rw [List.getElem?_map] at hd
    obtain ⟨p, hp2, rfl⟩ := Option.map_eq_some_iff.mp hd
    exact ⟨g, gs, u, x, rfl, rfl, SqL.of hg2, at_u, k _ _ p b02 (s2.le (by omega)) (rx.mv b02) (gok p (List.mem_of_getElem? hp2))⟩
def sp_law_needs : Sp := fun vs H Q _ => ∃ (l g : Addr) (m t : Nat) (c : Int) (gs : List V) (ps : List Nm), vs = [.ref l, .int c, .ref g, .int (t : Nat)] ∧ t ≤ 2 ∧ Pool m l H ∧ m ≤ 40000 ∧ H g = some (.lst gs) ∧ g ≠ l ∧ Reps [l] H gs (ps.map nmD) ∧ (∀ p ∈ ps, nmOk c p) ∧ ps.length ≤ 40 ∧ 0 < c ∧ c ≤ 4 ∧ ∀ (H' : Hp) (v : V) (qs : List Nm), But [l] H H' → Pool (m + 10) l H' → Rep [l] H' v (needsD qs) → needsOk c t qs → Q v H'
theorem ok_law_needs (T : Txt K w mg A) : FnOk P w K mg base CX0 3 A.f_law_needs A.d_law_needs ["pool", "count", "given", "most"] (sp_law_needs) := by
  refine T.F_law_needs.ok sc_law_needs (fun vs H Q E h => ?_) (fun cdv Ar outer s H vs Q E hr h => ?_)
  · obtain ⟨l, g, m, t, c, gs, ps, rfl, t2, hp, m4, hg, gl, rg, gok, g40, c0, c4, k⟩ := h
    rfl
  · obtain ⟨l, g, m, t, c, gs, ps, rfl, t2, hp, m4, hg, gl, rg, gok, g40, c0, c4, k⟩ := h
    refine ⟨_, PSs.nox ((pss_one (ps_ret (pe_callTy call_tuple_of (by rfl) T.ztuple (by decide +kernel) (pa_cons (pe_lc (own := [("k", 4)]) (g := (gName 4)) (tt := tYes) rfl sc_law_needs.nd (pi_range1 (by rfl) T.zrange (pa_cons (pe_call (ok_law_draw T) (hr.mono (by decide)) rfl T.m_law_draw T.F_law_draw.kp (b_law_draw T) .nil pass0 (pa_cons (pv 0) (pa_cons (pe_op op_add (pv 3) pe_int) pa_nil))) pa_nil)) (blkOk_by (N := N_law_needs) (sc := defScope s_law_needs) (by decide +kernel)) (fun _ _ _ _ _ => (pg_name (i := 4) sc_law_needs.nd rfl (Or.inl rfl))) (fun _ _ _ _ _ => pts_nil) (fun _ _ _ _ _ => (pe_call (ok_law_need T) hr rfl T.m_law_need T.F_law_need.kp (b_law_need T) .nil pass0 (pa_cons (pv 0) (pa_cons (pv 1) (pa_cons (pv 2) pa_nil)))))) pa_nil))))), ?_⟩
    rw [show start N_law_needs [.ref l, .int c, .ref g, .int (t : Nat)] = [some (.ref l), some (.int c), some (.ref g), some (.int (t : Nat)), none] from rfl]
    refine ⟨_, rfl, _, rfl, _, _, rfl, rfl, l, m, (t : Int) + 1, rfl, hp, by omega, by omega, by omega, fun H1 n b1 s1 n0 n1 => ⟨n, rfl, by omega, by omega, fun D nD => ?_⟩⟩
    have Dl : D ≠ l := s1.ne nD
    refine lc_range (lo := 0) (n := n.toNat) (fun i H' => But [l] H1 H' ∧ Pool (m + 1 + 4 * i) l H' ∧ ∃ (acc : List V) (qs : List Nm), H' D = some (.lst acc) ∧ Reps [D, l] H' acc (qs.map nmD) ∧ qs.length = i ∧ ∀ q ∈ qs, nmOk c q) ?_ ?_ ?_
    · exact ⟨.new .refl nD, s1.new nD, [], [], upd_same, .nil, rfl, fun _ z => nomatch z⟩
    · rintro i H' hi ⟨b2, s2, acc, qs, hD, ra, ql, qo⟩
      have b := b1.trans b2
      refine ⟨rfl, ?_⟩
      refine ⟨_, rfl, _, rfl, _, rfl, l, g, m + 1 + 4 * i, c, gs, ps, rfl, s2, by omega, b.at1 hg gl, gl, rg.mv b, gok, g40, c0, c4, fun H3 v p b3 s3 rv okp => ?_⟩
      have hD3 := b3.at1 hD Dl
      have lq : acc.length = qs.length := by rw [ra.length, List.length_map]
      have ra3 := ra.mv (b3.mono fun x z => List.mem_cons_of_mem _ z)
      have u3 : But [D, l] H3 (upd H3 D (.lst (acc ++ [v]))) := But.upd .refl List.mem_cons_self
      refine ⟨acc, hD3, by rw [lq, ql, sizeLine_eq]; omega, (b2.trans b3).own nD, (s3.away Dl).le (by omega), acc ++ [v], qs ++ [p], upd_same, ?_, by rw [List.length_append, ql]; rfl, fun q hq => ?_⟩
      · rw [List.map_append]
        exact (ra3.app (.one (Rep.avoid hD3 _ _ rfl rv))).mv u3
      · rcases List.mem_append.mp hq with z | z
        · exact qo q z
        · rw [List.mem_singleton.mp z]
          exact okp
    · rintro H' ⟨b2, s2, acc, qs, hD, ra, ql, qo⟩
      refine ⟨D, acc, rfl, .inl ⟨SqL.of hD, fun t nt => ?_⟩⟩
      have bt : But [l] H' (upd H' t (.tup acc)) := .new .refl nt
      refine k _ _ qs ((b1.trans b2).trans bt) ((s2.new nt).le (by omega)) (.tup upd_same (fun z => s2.ne nt (List.mem_singleton.mp z)) ((ra.less fun a z => List.mem_cons_of_mem _ z).mv bt)) ⟨by omega, qo⟩
def sp_law_words : Sp := fun vs H Q _ => ∃ (l : Addr) (m : Nat) (c R O : Int), vs = [.ref l, .int c, .int R, .int O] ∧ Pool m l H ∧ m ≤ 40000 ∧ 0 < c ∧ c ≤ 4 ∧ 0 ≤ R ∧ R ≤ 12 ∧ 0 ≤ O ∧ O ≤ 2 ∧ ∀ (H' : Hp) (v : V) (ws : List (List Wd)), But [l] H H' → Pool (m + 44) l H' → Rep [l] H' v (.list (ws.map wdsD)) → WsOk ws → (ws.length : Int) = c → Q v H'
theorem ok_law_words (T : Txt K w mg A) : FnOk P w K mg base CX0 2 A.f_law_words A.d_law_words ["pool", "count", "most_rows", "most_outs"] (sp_law_words) := by
  refine T.F_law_words.ok sc_law_words (fun vs H Q E h => ?_) (fun cdv Ar outer s H vs Q E hr h => ?_)
  · obtain ⟨l, m, c, R, O, rfl, hp, m4, c0, c4, R0, R1, O0, O1, k⟩ := h
    rfl
  · obtain ⟨l, m, c, R, O, rfl, hp, m4, c0, c4, R0, R1, O0, O1, k⟩ := h
    refine ⟨_, PSs.nox ((pss_cons (ps_set (i := 4) sc_law_words.nd rfl (Or.inl rfl) (pe_lst pa_nil))
 (pss_cons (ps_set (i := 5) sc_law_words.nd rfl (Or.inl rfl) (pv 2))
 (pss_cons (ps_set (i := 6) sc_law_words.nd rfl (Or.inl rfl) (pv 3))
 (pss_cons (ps_for PassesOwn.never rfl (pi_range1 (by rfl) T.zrange (pa_cons (pv 1) pa_nil)) (pg_name (i := 7) sc_law_words.nd rfl (Or.inl rfl)) (pss_cons (ps_set (i := 8) sc_law_words.nd rfl (Or.inl rfl) (pe_lst pa_nil))
 (pss_cons (ps_for PassesOwn.never rfl (pi_range1 (by rfl) T.zrange (pa_cons (pe_callB (call_min2 rfl) (by rfl) T.zmin (by decide +kernel) (pa_cons (pv 5) (pa_cons (pe_call (ok_law_draw T) hr rfl T.m_law_draw T.F_law_draw.kp (b_law_draw T) .nil pass0 (pa_cons (pv 0) (pa_cons pe_int pa_nil))) pa_nil))) pa_nil)) (pg_name (i := 9) sc_law_words.nd rfl (Or.inl rfl)) (pss_cons (ps_set (i := 10) sc_law_words.nd rfl (Or.inl rfl) (pe_ix ix_list (pe_lst (pa_cons pe_str (pa_cons pe_str (pa_cons pe_str (pa_cons pe_str (pa_cons pe_str (pa_cons pe_str (pa_cons pe_str (pa_cons pe_str pa_nil))))))))) (pe_call (ok_law_draw T) hr rfl T.m_law_draw T.F_law_draw.kp (b_law_draw T) .nil pass0 (pa_cons (pv 0) (pa_cons pe_int pa_nil))) (fun _ _ => rfl)))
 (pss_cons (ps_if (PW.pt (pw_and (pt_cmpR op_eq (pv 10) pe_str (nomark _)) (pw_and1 (pt_cmpR op_eq (pv 6) pe_int (nomark _))))) (pss_one (ps_set (i := 10) sc_law_words.nd rfl (Or.inl rfl) pe_str)) pss_nil)
 (pss_cons (ps_set (i := 6) sc_law_words.nd rfl (Or.inl rfl) (pe_op op_sub (pv 6) (pe_callTy call_int1 (by rfl) T.zint (by decide +kernel) (pa_cons (pe_cmpR op_eq (pv 10) pe_str (nomark _)) pa_nil))))
 (pss_one (ps_expr (pe_bm PySem.F.plainAttrs_list PySem.F.slot_list_append PySem.F.type_list_append mt_append (pv 8) (pa_cons (pe_tup (pa_cons (pv 10) (pa_cons (pe_ix ix_str pe_str (pe_call (ok_law_draw T) hr rfl T.m_law_draw T.F_law_draw.kp (b_law_draw T) .nil pass0 (pa_cons (pv 0) (pa_cons pe_int pa_nil))) (fun _ _ => rfl)) pa_nil))) pa_nil))))))))
 (pss_cons (ps_set (i := 5) sc_law_words.nd rfl (Or.inl rfl) (pe_op op_sub (pv 5) (pe_callB call_len_seq (by rfl) T.zlen (by decide +kernel) (pa_cons (pv 8) pa_nil))))
 (pss_one (ps_expr (pe_bm PySem.F.plainAttrs_list PySem.F.slot_list_append PySem.F.type_list_append mt_append (pv 4) (pa_cons (pv 8) pa_nil))))))))
 (pss_one (ps_ret (pv 4)))))))), ?_⟩
    rw [show start N_law_words [.ref l, .int c, .int R, .int O] = [some (.ref l), some (.int c), some (.int R), some (.int O), none, none, none, none, none, none, none] from rfl]
    refine ⟨Nat.zero_le _, fun wl nwl => ?_⟩
    have wll := hp.ne nwl
    refine ⟨_, rfl, _, rfl, _, rfl, c, rfl, by omega, by omega, for_range (lo := 0) (n := c.toNat) (fun i σ H' => ∃ (wvs : List V) (ws : List (List Wd)) (o7 o8 o9 o10 : Option V), σ = [some (.ref l), some (.int c), some (.int R), some (.int O), some (.ref wl), some (.int (R - (totW ws : Int))), some (.int (O - (outW ws : Int))), o7, o8, o9, o10] ∧
      But [l] H H' ∧ Pool (m + 11 * i) l H' ∧ H' wl = some (.lst wvs) ∧ Reps [wl, l] H' wvs (ws.map wdsD) ∧ (∀ x ∈ ws, x.length ≤ 5) ∧ (∀ x ∈ ws, ∀ q ∈ x, Wd.ok q) ∧ (totW ws : Int) ≤ R ∧ (outW ws : Int) ≤ O ∧ ws.length = i) ?_ ?_ ?_⟩
    · refine ⟨[], [], none, none, none, none, ?_, But.refl.new nwl, hp.new nwl, upd_same, .nil, fun _ z => (nomatch z), fun _ z => (nomatch z), R0, O0, rfl⟩
      show _ = [some (V.ref l), some (.int c), some (.int R), some (.int O), some (.ref wl), some (.int (R - 0)), some (.int (O - 0)), none, none, none, none]
      rw [Int.sub_zero, Int.sub_zero]
      rfl
    · rintro i σ H' hi ⟨wvs, ws, o7, o8, o9, o10, rfl, b2, s2, hwl2, rw2, five, wsok, tot, out, wi⟩
      refine ⟨Nat.zero_le _, fun ln nln => ?_⟩
      have lnl := s2.ne nln
      have lnwl : ln ≠ wl := (ne_of_none hwl2 nln).symm
      have nlnH : H ln = none := by
        cases e : H ln with
        | none => rfl
        | some o => rw [b2.at1 e lnl] at nln; exact nomatch nln
      refine ⟨_, rfl, _, rfl, l, m + 11 * i, 6, rfl, s2.new nln, by omega, by decide, by decide, fun H3 u b3 s3 u0 u1 => ⟨_, _, rfl, ?_⟩⟩
      have mm : ∃ n : Nat, (if u < R - (totW ws : Int) then u else R - (totW ws : Int)) = (n : Int) ∧ n ≤ 5 ∧ (totW ws : Int) + n ≤ R := by
        by_cases q : u < R - (totW ws : Int)
        · rw [if_pos q]
          exact ⟨u.toNat, by omega, by omega, by omega⟩
        · rw [if_neg q]
          exact ⟨(R - (totW ws : Int)).toNat, by omega, by omega, by omega⟩
      obtain ⟨n, en, n5, nR⟩ := mm
      rw [en]
      have hln3 : H3 ln = some (.lst []) := b3.at1 upd_same lnl
      have hwl3 : H3 wl = some (.lst wvs) := b3.at1 (by rw [upd_ne lnwl.symm]; exact hwl2) wll
      have b13 : But [l] H H3 := (b2.new nln).trans b3
      have rw3 : Reps [ln, wl, l] H3 wvs (ws.map wdsD) := ((Reps.more nln _ _ rw2).mv (.of (same_new nln))).mv (b3.mono fun x q => List.mem_cons_of_mem _ (List.mem_cons_of_mem _ q))
      refine ⟨(n : Int), rfl, by omega, by omega, for_range (lo := 0) (n := ((n : Int)).toNat) (fun j σ H4 => ∃ (acc : List V) (qs : List Wd) (oo : Int) (o9 o10 : Option V), σ = [some (.ref l), some (.int c), some (.int R), some (.int O), some (.ref wl), some (.int (R - (totW ws : Int))), some (.int oo), some (.int (0 + (i : Int))), some (.ref ln), o9, o10] ∧
        But [l] H H4 ∧ Pool (m + 11 * i + 1 + 2 * j) l H4 ∧ H4 wl = some (.lst wvs) ∧ Reps [ln, wl, l] H4 wvs (ws.map wdsD) ∧ H4 ln = some (.lst acc) ∧ Reps [ln, wl, l] H4 acc (qs.map wdD) ∧ qs.length = j ∧ (∀ q ∈ qs, Wd.ok q) ∧ (oo = O - (outW ws : Int) - (outsW qs : Int) ∧ 0 ≤ oo)) ?_ ?_ ?_⟩
      · exact ⟨[], [], O - (outW ws : Int), _, _, rfl, b13, s3, hwl3, rw3, hln3, .nil, rfl, fun _ q => (nomatch q), by show _ = O - (outW ws : Int) - 0; omega, by omega⟩
      · rintro j σ H4 hj ⟨acc, qs, oo, o9, o10, rfl, b4, s4, hwl4, rw4, hln4, ra4, ql, qo, oe, o0⟩
        have lacc : acc.length = qs.length := by rw [ra4.length, List.length_map]
        have j5 : j < 5 := by
          have : j < ((n : Int)).toNat := hj
          omega
        refine ⟨(by show 8 ≤ sizeLine; decide), fun w8 nw8 => ?_⟩
        have w8ln : w8 ≠ ln := (ne_of_none hln4 nw8).symm
        refine ⟨_, rfl, l, m + 11 * i + 1 + 2 * j, 8, rfl, s4.new nw8, by omega, by decide, by decide, fun H5 u5 b5' s5 u50 u51 => ?_⟩
        have hw8 : H5 w8 = some (.lst (wordsL.map V.str)) := b5'.at1 upd_same (s4.ne nw8)
        have b5 : But [l] H4 H5 := (But.refl.new nw8).trans b5'
        have hln5 := b5.at1 hln4 lnl
        obtain ⟨wd, atw, wok⟩ := wordL_at u50 u51
        refine ⟨w8, _, u5, _, rfl, rfl, SqL.of hw8, atw, ?_⟩
        refine ⟨_, rfl, rfl, _, rfl, ?_⟩
        refine ite2 (fun q => ?_) (fun q => iteF ?_)
        · have ew : wd = "out" := by simpa using q
          refine ⟨_, rfl, rfl, _, rfl, ?_⟩
          refine ite2 (fun q2 => ?_) (fun q2 => ?_)
          · have oz : oo = 0 := by simpa using q2
            replace wok : ("give" : Str) ∈ wordsOf := by decide +kernel
            have ooE : oo - (if decide (V.str "give" = V.str "out") = true then 1 else 0) = oo := by rw [if_neg (by decide +kernel)]; omega
            refine ⟨_, rfl, _, rfl, rfl, .inr ⟨_, rfl, _, _, rfl, rfl, ?_⟩⟩
            refine ⟨_, rfl, .inl ⟨rfl, _, SqL.of hln5⟩, _, rfl, _, rfl, l, m + 11 * i + 1 + 2 * j + 1, 4, rfl, s5, by omega, by decide, by decide, fun H6 u6 b6 s6 u60 u61 => ?_⟩
            obtain ⟨ch, at_c, mem⟩ := letter_at u60 u61
            refine ⟨_, _, ch, rfl, rfl, (by decide +kernel), at_c, (by show 2 ≤ sizeLine; decide), fun t nt => ?_⟩
            have hln6 := b6.at1 hln5 lnl
            have tln : t ≠ ln := (ne_of_none hln6 nt).symm
            refine ⟨ln, acc, .ref t, rfl, rfl, by rw [upd_ne tln.symm]; exact hln6, by rw [lacc, ql, sizeLine_eq]; omega, ?_⟩
            have b46 := b5.trans b6
            have hwl6 := b46.at1 hwl4 wll
            have bw : But [ln, wl, l] H4 (upd (upd H6 t (.tup [.str "give", .str ⟨#[ch]⟩])) ln (.lst (acc ++ [.ref t]))) := ((b46.mono fun x z => List.mem_cons_of_mem _ (List.mem_cons_of_mem _ z)).new nt).upd List.mem_cons_self
            refine ⟨acc ++ [.ref t], qs ++ [(("give" : Str), (⟨#[ch]⟩ : Str))], oo, some (.int (0 + (j : Int))), some (.str "give"), ?_, ?_, ((s6.new nt).away lnl).le (by omega), ?_, rw4.mv bw, upd_same, ?_, by rw [List.length_append, ql]; rfl, ?_, ?_⟩
            · dsimp only [List.set]
              rw [ooE]
            · exact ((b4.trans b46).new nt).own nlnH
            · rw [upd_ne lnwl.symm, upd_ne (ne_of_none hwl6 nt)]
              exact hwl6
            · rw [List.map_append]
              refine (ra4.mv bw).app (.one (.tup (by rw [upd_ne tln]; exact upd_same) (fun z => ?_) (.cons (.str _) (.cons (.str _) .nil))))
              rcases List.mem_cons.mp z with e | z
              · exact tln e
              · rcases List.mem_cons.mp z with e | z
                · exact ne_of_none hwl6 nt e.symm
                · exact s6.ne nt (List.mem_singleton.mp z)
            · intro q hq
              rcases List.mem_append.mp hq with e | e
              · exact qo q e
              · rw [List.mem_singleton.mp e]
                exact ⟨wok, mem⟩
            · rw [outsW_snoc]
              dsimp only
              rw [if_neg (by decide +kernel)]
              exact ⟨by omega, o0⟩
          · have nz : oo ≠ 0 := by simpa using q2
            have ooE : oo - (if decide (V.str wd = V.str "out") = true then 1 else 0) = oo - 1 := by rw [if_pos (by rw [ew]; decide +kernel)]
            refine ⟨_, rfl, _, rfl, rfl, .inr ⟨_, rfl, _, _, rfl, rfl, ?_⟩⟩
            refine ⟨_, rfl, .inl ⟨rfl, _, SqL.of hln5⟩, _, rfl, _, rfl, l, m + 11 * i + 1 + 2 * j + 1, 4, rfl, s5, by omega, by decide, by decide, fun H6 u6 b6 s6 u60 u61 => ?_⟩
            obtain ⟨ch, at_c, mem⟩ := letter_at u60 u61
            refine ⟨_, _, ch, rfl, rfl, (by decide +kernel), at_c, (by show 2 ≤ sizeLine; decide), fun t nt => ?_⟩
            have hln6 := b6.at1 hln5 lnl
            have tln : t ≠ ln := (ne_of_none hln6 nt).symm
            refine ⟨ln, acc, .ref t, rfl, rfl, by rw [upd_ne tln.symm]; exact hln6, by rw [lacc, ql, sizeLine_eq]; omega, ?_⟩
            have b46 := b5.trans b6
            have hwl6 := b46.at1 hwl4 wll
            have bw : But [ln, wl, l] H4 (upd (upd H6 t (.tup [.str wd, .str ⟨#[ch]⟩])) ln (.lst (acc ++ [.ref t]))) := ((b46.mono fun x z => List.mem_cons_of_mem _ (List.mem_cons_of_mem _ z)).new nt).upd List.mem_cons_self
            refine ⟨acc ++ [.ref t], qs ++ [((wd : Str), (⟨#[ch]⟩ : Str))], oo - 1, some (.int (0 + (j : Int))), some (.str wd), ?_, ?_, ((s6.new nt).away lnl).le (by omega), ?_, rw4.mv bw, upd_same, ?_, by rw [List.length_append, ql]; rfl, ?_, ?_⟩
            · dsimp only [List.set]
              rw [ooE]
            · exact ((b4.trans b46).new nt).own nlnH
            · rw [upd_ne lnwl.symm, upd_ne (ne_of_none hwl6 nt)]
              exact hwl6
            · rw [List.map_append]
              refine (ra4.mv bw).app (.one (.tup (by rw [upd_ne tln]; exact upd_same) (fun z => ?_) (.cons (.str _) (.cons (.str _) .nil))))
              rcases List.mem_cons.mp z with e | z
              · exact tln e
              · rcases List.mem_cons.mp z with e | z
                · exact ne_of_none hwl6 nt e.symm
                · exact s6.ne nt (List.mem_singleton.mp z)
            · intro q hq
              rcases List.mem_append.mp hq with e | e
              · exact qo q e
              · rw [List.mem_singleton.mp e]
                exact ⟨wok, mem⟩
            · rw [outsW_snoc]
              dsimp only
              rw [if_pos ew]
              exact ⟨by omega, by omega⟩
        · have ew : ¬ wd = "out" := fun e => q (by simp [e])
          have ooE : oo - (if decide (V.str wd = V.str "out") = true then 1 else 0) = oo := by rw [if_neg (by simpa using ew)]; omega
          refine ⟨_, rfl, _, rfl, rfl, .inr ⟨_, rfl, _, _, rfl, rfl, ?_⟩⟩
          refine ⟨_, rfl, .inl ⟨rfl, _, SqL.of hln5⟩, _, rfl, _, rfl, l, m + 11 * i + 1 + 2 * j + 1, 4, rfl, s5, by omega, by decide, by decide, fun H6 u6 b6 s6 u60 u61 => ?_⟩
          obtain ⟨ch, at_c, mem⟩ := letter_at u60 u61
          refine ⟨_, _, ch, rfl, rfl, (by decide +kernel), at_c, (by show 2 ≤ sizeLine; decide), fun t nt => ?_⟩
          have hln6 := b6.at1 hln5 lnl
          have tln : t ≠ ln := (ne_of_none hln6 nt).symm
          refine ⟨ln, acc, .ref t, rfl, rfl, by rw [upd_ne tln.symm]; exact hln6, by rw [lacc, ql, sizeLine_eq]; omega, ?_⟩
          have b46 := b5.trans b6
          have hwl6 := b46.at1 hwl4 wll
          have bw : But [ln, wl, l] H4 (upd (upd H6 t (.tup [.str wd, .str ⟨#[ch]⟩])) ln (.lst (acc ++ [.ref t]))) := ((b46.mono fun x z => List.mem_cons_of_mem _ (List.mem_cons_of_mem _ z)).new nt).upd List.mem_cons_self
          refine ⟨acc ++ [.ref t], qs ++ [((wd : Str), (⟨#[ch]⟩ : Str))], oo, some (.int (0 + (j : Int))), some (.str wd), ?_, ?_, ((s6.new nt).away lnl).le (by omega), ?_, rw4.mv bw, upd_same, ?_, by rw [List.length_append, ql]; rfl, ?_, ?_⟩
          · dsimp only [List.set]
            rw [ooE]
          · exact ((b4.trans b46).new nt).own nlnH
          · rw [upd_ne lnwl.symm, upd_ne (ne_of_none hwl6 nt)]
            exact hwl6
          · rw [List.map_append]
            refine (ra4.mv bw).app (.one (.tup (by rw [upd_ne tln]; exact upd_same) (fun z => ?_) (.cons (.str _) (.cons (.str _) .nil))))
            rcases List.mem_cons.mp z with e | z
            · exact tln e
            · rcases List.mem_cons.mp z with e | z
              · exact ne_of_none hwl6 nt e.symm
              · exact s6.ne nt (List.mem_singleton.mp z)
          · intro q hq
            rcases List.mem_append.mp hq with e | e
            · exact qo q e
            · rw [List.mem_singleton.mp e]
              exact ⟨wok, mem⟩
          · rw [outsW_snoc]
            dsimp only
            rw [if_neg ew]
            exact ⟨by omega, o0⟩
      · rintro σ H4 ⟨acc, qs, oo, o9, o10, rfl, b4, s4, hwl4, rw4, hln4, ra4, ql, qo, oe, o0⟩
        rw [Int.toNat_natCast] at ql
        have lacc : acc.length = qs.length := by rw [ra4.length, List.length_map]
        have lwv : wvs.length = ws.length := by rw [rw4.length, List.length_map]
        have i4 : i < 4 := by omega
        refine ⟨_, rfl, _, rfl, ln, acc, rfl, .inl (SqL.of hln4), _, _, rfl, rfl, ?_⟩
        refine ⟨_, rfl, .inl ⟨rfl, _, SqL.of hwl4⟩, _, rfl, wl, wvs, _, rfl, rfl, hwl4, by rw [lwv, wi, sizeLine_eq]; omega, ?_⟩
        have bw : But [wl, l] H4 (upd H4 wl (.lst (wvs ++ [.ref ln]))) := But.refl.upd List.mem_cons_self
        have lt := totW_snoc ws qs
        have lo := outW_snoc ws qs
        refine ⟨wvs ++ [.ref ln], ws ++ [qs], some (.int (0 + (i : Int))), some (.ref ln), o9, o10, ?_, b4.own nwl, (s4.away wll).le (by omega), upd_same, ?_, fun y hy => ?_, fun y hy => ?_, by omega, by omega, by rw [List.length_append, wi]; rfl⟩
        · dsimp only [List.set]
          rw [show (R - (totW ws : Int)) - (acc.length : Int) = R - (totW (ws ++ [qs]) : Int) by rw [lacc]; omega, show oo = O - (outW (ws ++ [qs]) : Int) by omega]
        · rw [List.map_append]
          refine ((rw4.less fun a q => List.mem_cons_of_mem _ q).mv bw).app (.one (.lst (by rw [upd_ne lnwl]; exact hln4) (fun q => ?_) ((ra4.less fun a q => List.mem_cons_of_mem _ q).mv bw)))
          rcases List.mem_cons.mp q with e | q
          · exact lnwl e
          · exact lnl (List.mem_singleton.mp q)
        · rcases List.mem_append.mp hy with e | e
          · exact five y e
          · rw [List.mem_singleton.mp e, ql]
            exact n5
        · rcases List.mem_append.mp hy with e | e
          · exact wsok y e
          · rw [List.mem_singleton.mp e]
            exact qo
    · rintro σ H' ⟨wvs, ws, o7, o8, o9, o10, rfl, b2, s2, hwl2, rw2, five, wsok, tot, out, wi⟩
      refine ⟨_, rfl, k _ _ ws b2 (s2.le (by omega)) (.lst hwl2 (fun q => wll (List.mem_singleton.mp q)) (rw2.less fun a q => List.mem_cons_of_mem _ q)) ⟨five, wsok, by omega, by omega⟩ (by omega)⟩
def sp_law_with_show : Sp := fun vs H Q _ => ∃ (l a : Addr) (wvs : List V) (ws : List (List Wd)), vs = [.ref a] ∧ H a = some (.lst wvs) ∧ a ≠ l ∧ Reps [l] H wvs (ws.map wdsD) ∧ WsOk ws ∧ 1 ≤ ws.length ∧ ws.length ≤ 4 ∧ (∃ xs, H l = some (.lst xs)) ∧ ∀ (H' : Hp) (v : V) (us : List (List Wd)), Same H H' → Rep [l] H' v (.list (us.map wdsD)) → WsOk us → us.length = ws.length → (∃ x ∈ us, ∃ q ∈ x, q.1 = ("give" : Str) ∨ q.1 = ("show" : Str)) → Q v H'
theorem ok_law_with_show (T : Txt K w mg A) : FnOk P w K mg base CX0 1 A.f_law_with_show A.d_law_with_show ["words"] (sp_law_with_show) := by
  refine T.F_law_with_show.ok sc_law_with_show (fun vs H Q E h => ?_) (fun cdv Ar outer s H vs Q E hr h => ?_)
  · obtain ⟨l, a, wvs, ws, rfl, ha, al, rw_, ok, one, four, ⟨lx, hl⟩, k⟩ := h
    rfl
  · obtain ⟨l, a, wvs, ws, rfl, ha, al, rw_, ok, one, four, ⟨lx, hl⟩, k⟩ := h
    refine ⟨_, PSs.nox ((pss_cons (ps_for PassesOwn.never rfl (pi_list (pv 0)) (pg_name (i := 1) sc_law_with_show.nd rfl (Or.inl rfl)) (pss_one (ps_for PassesOwn.never rfl (pi_list (pv 1)) (pg_tup (by rfl) (pgs_cons (pg_name (i := 2) sc_law_with_show.nd rfl (Or.inl rfl)) (pgs_cons (pg_name (i := 3) sc_law_with_show.nd rfl (Or.inl rfl)) pgs_nil))) (pss_one (ps_if (PW.pt (pw_or (pt_cmpR op_eq (pv 2) pe_str (nomark _)) (pw_or1 (pt_cmpR op_eq (pv 2) pe_str (nomark _))))) (pss_one (ps_ret (pv 0))) pss_nil)))))
 (pss_cons (ps_setLc (i := 4) (own := [("k", 6)]) (g := (gName 6)) (tt := _) rfl sc_law_with_show.nd rfl rfl (sw_true rfl rfl rfl (by decide +kernel)) (pi_range1 (by rfl) T.zrange (pa_cons (pe_callB call_len_seq (by rfl) T.zlen (by decide +kernel) (pa_cons (pv 0) pa_nil)) pa_nil)) (blkOk_by (N := N_law_with_show) (sc := defScope s_law_with_show) (by decide +kernel)) (fun _ _ _ _ _ => (pg_name (i := 6) sc_law_with_show.nd rfl (Or.inl rfl))) (fun _ _ _ _ _ => (pts_one (pt_cmpR (show OpR _ (compareOp .NotEq) (rNeD K) from op_neD hr.units) (pe_ix (show IxR _ (rIxL K) from ix_list) (pv 0) (pv 6) (fun _ _ => rfl)) (pe_lst pa_nil) (nomark _)))) (fun _ _ _ _ _ => (pv 6)))
 (pss_cons (ps_set (i := 5) sc_law_with_show.nd rfl (Or.inr rfl) (pe_ix ix_list (pe_op op_cat (pv 4) (pe_lst (pa_cons pe_int pa_nil))) pe_int (fun _ _ => rfl)))
 (pss_one (ps_ret (pe_lc (own := [("k", 6), ("row", 1)]) (g := (gTup _ 2 (gCons (gName 6) (gCons (gName 1) gNil)))) (tt := tYes) rfl sc_law_with_show.nd (pi_enum (by rfl) T.zenumerate (pa_cons (pv 0) pa_nil)) (blkOk_by (N := N_law_with_show) (sc := defScope s_law_with_show) (by decide +kernel)) (fun _ _ _ _ _ => (pg_tup (by rfl) (pgs_cons (pg_name (i := 6) sc_law_with_show.nd rfl (Or.inl rfl)) (pgs_cons (pg_name (i := 1) sc_law_with_show.nd rfl (Or.inl rfl)) pgs_nil)))) (fun _ _ _ _ _ => pts_nil) (fun _ _ _ _ _ => (pe_ifExp (pt_cmpR op_eq (pv 6) (pv 5) (nomark _)) (pe_op op_cat (pe_slice (show SlR _ (rSlL K) from sl_list) (pv 1) po_none (po_some (pe_un un_neg pe_int))) (pe_lst (pa_cons (pe_tup (pa_cons pe_str (pa_cons pe_str pa_nil))) pa_nil))) (pv 1)))))))))), ?_⟩
    rw [show start N_law_with_show [.ref a] = [some (.ref a), none, none, none, none, none, none] from rfl]
    have lw : wvs.length = ws.length := by rw [rw_.length, List.length_map]
    refine ⟨_, rfl, a, rfl, ⟨_, SqL.of ha⟩, for_list (K := K) (a := a) (xs := wvs) (fun i σ H' => H' = H ∧ ∃ o1 o2 o3 : Option V, σ = [some (.ref a), o1, o2, o3, none, none, none]) ⟨rfl, _, _, _, rfl⟩ (fun i σ H' _ q => by rw [q.1]; exact SqL.of ha) ?_ ?_⟩
    · rintro i y σ H' hi ⟨rfl, o1, o2, o3, rfl⟩
      obtain ⟨d, hd, ry⟩ := rw_.get hi
      rw [List.getElem?_map] at hd
      obtain ⟨x, hx, rfl⟩ := Option.map_eq_some_iff.mp hd
      obtain ⟨b, bvs, rfl, hb, _, rb⟩ := ry.lstV
      refine ⟨_, rfl, b, rfl, ⟨_, SqL.of hb⟩, for_list (K := K) (a := b) (xs := bvs) (fun i σ H'' => H'' = H' ∧ ∃ o2 o3 : Option V, σ = [some (.ref a), some (.ref b), o2, o3, none, none, none]) ⟨rfl, _, _, rfl⟩ (fun i σ H'' _ q => by rw [q.1]; exact SqL.of hb) ?_ ?_⟩
      · rintro j z σ H'' hj ⟨rfl, o2, o3, rfl⟩
        obtain ⟨d2, hd2, rz⟩ := rb.get hj
        rw [List.getElem?_map] at hd2
        obtain ⟨q, hq, rfl⟩ := Option.map_eq_some_iff.mp hd2
        obtain ⟨t, p1, p2, rfl, ht, r1, r2⟩ := rz.two
        obtain rfl := r1.strV
        obtain rfl := r2.strV
        refine ⟨t, _, rfl, SqT.of ht, rfl, _, _, rfl, _, _, rfl, rfl, ?_⟩
        have fin_ : q.1 = ("give" : Str) ∨ q.1 = ("show" : Str) → Q (.ref a) H'' := fun c => k H'' _ ws (.refl _) (.lst ha (fun z => al (List.mem_singleton.mp z)) rw_) ok rfl ⟨x, List.mem_of_getElem? hx, q, List.mem_of_getElem? hq, c⟩
        refine ⟨_, rfl, rfl, _, rfl, ?_⟩
        refine ite2 (fun c => iteT ?_) (fun c => ?_)
        · exact ⟨_, rfl, fin_ (.inl (by simpa using c))⟩
        · refine ⟨_, rfl, rfl, _, rfl, ?_⟩
          refine ite2 (fun c => ?_) (fun c => ?_)
          · exact ⟨_, rfl, fin_ (.inr (by simpa using c))⟩
          · exact ⟨rfl, _, _, rfl⟩
      · rintro σ H'' ⟨rfl, o2, o3, rfl⟩
        exact ⟨rfl, _, _, _, rfl⟩
    · rintro σ H' ⟨rfl, o1, o2, o3, rfl⟩
      refine ⟨_, rfl, a, _, rfl, .inl (SqL.of ha), (ws.length : Int), by rw [lw], by omega, by omega, fun D nD => ?_⟩
      refine lc_range (lo := 0) (n := ((ws.length : Int)).toNat) (fun i H2 => Same H' H2 ∧ ∃ ks : List Nat, H2 D = some (.lst (ks.map fun (n : Nat) => V.int (n : Int))) ∧ (∀ n ∈ ks, n < ws.length ∧ ws.getD n [] ≠ []) ∧ ks.length ≤ i ∧ (ks = [] → ∀ j, j < i → ws.getD j [] = [])) ?_ ?_ ?_
      · exact ⟨same_new nD, [], upd_same, fun _ z => (nomatch z), Nat.le_refl _, fun _ j z => (nomatch z)⟩
      · rintro i H2 hi ⟨s2, ks, hD, kok, kl, kn⟩
        have il : i < ws.length := by omega
        obtain ⟨x, hx⟩ : ∃ x, ws[i]? = some x := ⟨_, List.getElem?_eq_getElem il⟩
        have gx : ws.getD i [] = x := by rw [List.getD_eq_getElem?_getD, hx, Option.getD_some]
        obtain ⟨y, hy, ry⟩ := rw_.at_ (i := i) (d := wdsD x) (by rw [List.getElem?_map, hx]; rfl)
        have at_i : atI wvs (0 + (i : Int)) = some y := by
          rw [Int.zero_add]
          exact atI_nat hy
        have xok := ok.ok x (List.mem_of_getElem? hx)
        refine ⟨rfl, _, rfl, _, rfl, a, wvs, _, y, rfl, rfl, SqL.of (s2 _ _ ha), at_i, (Nat.zero_le _), fun e ne => ?_⟩
        have se : Same H2 (upd H2 e (.lst [])) := same_new ne
        refine ⟨_, _, Rep.dp (st := [l]) (wdsD x) y (noDict_wds x) ((ry.sm s2).sm se), Rep.dp (st := [l]) (.list []) _ rfl (.lst upd_same (fun z => ne_of_none (s2 _ _ hl) ne (List.mem_singleton.mp z).symm) .nil), shaped_wds xok, (by decide +kernel), _, rfl, ?_⟩
        rw [eqv_wds]
        refine ite2 (fun c => ?_) (fun c => ?_)
        · have xn : x ≠ [] := by simpa using c
          refine ⟨_, rfl, _, se _ _ hD, by rw [List.length_map, sizeLine_eq]; omega, same_own (s2.trans se) nD, ks ++ [i], ?_, fun n hn => ?_, by rw [List.length_append]; show ks.length + 1 ≤ i + 1; omega, fun z => ?_⟩
          · rw [upd_same, List.map_append, Int.zero_add]
            rfl
          · rcases List.mem_append.mp hn with z | z
            · exact kok n z
            · rw [List.mem_singleton.mp z, gx]
              exact ⟨il, xn⟩
          · simp at z
        · have xn : x = [] := by simpa using c
          refine ⟨s2.trans se, ks, se _ _ hD, kok, by omega, fun z j hj => ?_⟩
          rcases (by omega : j < i ∨ j = i) with e | e
          · exact kn z j e
          · rw [e, gx]
            exact xn
      · rintro H2 ⟨s2, ks, hD, kok, kl, kn⟩
        refine ⟨_, rfl, (by show 1 ≤ sizeLine; decide), fun z nz => ⟨D, z, _, _, rfl, rfl, same_new nz _ _ hD, upd_same, by simp only [List.length_map, List.length_singleton]; rw [sizeLine_eq]; omega, fun q nq => ?_⟩⟩
        have s3 : Same H2 (upd (upd H2 z (.lst [V.int 0])) q (.lst (ks.map (fun (n : Nat) => V.int (n : Int)) ++ [V.int 0]))) := (same_new nz).trans (same_new nq)
        have hq : (upd (upd H2 z (.lst [V.int 0])) q (.lst (ks.map (fun (n : Nat) => V.int (n : Int)) ++ [V.int 0]))) q = some (.lst (ks.map (fun (n : Nat) => V.int (n : Int)) ++ [V.int 0])) := upd_same
        generalize upd (upd H2 z (.lst [V.int 0])) q (.lst (ks.map (fun (n : Nat) => V.int (n : Int)) ++ [V.int 0])) = H3 at s3 hq ⊢
        have s23 := s2.trans s3
        obtain ⟨n, hn, nl, nn⟩ : ∃ n : Nat, atI (ks.map (fun (n : Nat) => V.int (n : Int)) ++ [V.int 0]) 0 = some (V.int (n : Int)) ∧ n < ws.length ∧ (ws.getD n [] ≠ [] ∨ totW ws = 0) := by
          cases ks with
          | nil => exact ⟨0, atI_nat (j := 0) rfl, by omega, .inr (totW_zero fun j hj => kn rfl j (by omega))⟩
          | cons n r => exact ⟨n, atI_nat (j := 0) rfl, (kok n List.mem_cons_self).1, .inl (kok n List.mem_cons_self).2⟩
        refine ⟨q, _, 0, _, rfl, rfl, SqL.of hq, hn, ?_⟩
        refine ⟨_, rfl, a, wvs, rfl, SqL.of (s23 _ _ ha), fun D2 nD2 => ?_⟩
        have wl := withShow_len ws n
        refine lc_it walk_enum (fun i H4 => Same H3 H4 ∧ ∃ acc : List V, H4 D2 = some (.lst acc) ∧ Reps [D2, l] H4 acc (((withShow ws n).take i).map wdsD)) ?_ (fun i H4 _ p => SqL.of (p.1 _ _ (s23 _ _ ha))) ?_ ?_
        · exact ⟨same_new nD2, [], upd_same, .nil⟩
        · rintro i x0 H4 H5 hi ⟨s4, acc, hD2, ra⟩ ⟨T, x1, x2, rfl, nt, rfl, h1, h2⟩
          obtain rfl := Option.some.inj h1
          have il : i < ws.length := by omega
          obtain ⟨x, hx⟩ : ∃ x, ws[i]? = some x := ⟨_, List.getElem?_eq_getElem il⟩
          have gx : ws.getD i [] = x := by rw [List.getD_eq_getElem?_getD, hx, Option.getD_some]
          obtain ⟨y, hy, ry⟩ := rw_.at_ (i := i) (d := wdsD x) (by rw [List.getElem?_map, hx]; rfl)
          obtain rfl := Option.some.inj (hy.symm.trans h2)
          have s5 : Same H4 (upd H4 T (.tup [V.int (i : Int), y])) := same_new nt
          have hD5 := s5 _ _ hD2
          have lacc : acc.length = i := by rw [ra.length, List.length_map, List.length_take, wl]; omega
          have tk : (withShow ws n).take (i + 1) = (withShow ws n).take i ++ [if i = n then (ws.getD n []).dropLast ++ [showA] else x] := by
            rw [List.take_succ, withShow_at ws n i il, gx]
            rfl
          refine ⟨T, _, rfl, SqT.of upd_same, rfl, _, _, rfl, _, _, rfl, rfl, rfl, ?_⟩
          refine ⟨_, rfl, _, rfl, rfl, _, rfl, ?_⟩
          generalize upd H4 T (.tup [V.int (i : Int), y]) = H5 at s5 hD5 ⊢
          have s35 := s4.trans s5
          have ry5 : Rep [D2, l] H5 y (wdsD x) := (Rep.more nD2 _ _ ((ry.sm s23))).sm s35
          have ra5 := ra.sm s5
          have small : acc.length < sizeLine := by rw [lacc, sizeLine_eq]; omega
          refine ite2 (fun c => ?_) (fun c => ?_)
          · have ei : i = n := by
              have e : V.int (i : Int) = V.int (n : Int) := by simpa using c
              injection e with e
              omega
            obtain ⟨b, bvs, rfl, hb, _, rb⟩ := ry5.lstV
            refine ⟨_, rfl, _, rfl, _, rfl, b, bvs, rfl, SqL.of hb, fun p np => ⟨(by show 2 ≤ sizeLine; decide), fun t nt2 => ⟨(by show 1 ≤ sizeLine; decide), fun z2 nz2 => ?_⟩⟩⟩
            rw [cut_last] at nt2 nz2 ⊢
            have hp2 : (upd (upd (upd H5 p (.lst bvs.dropLast)) t (.tup [V.str "show", V.str "a"])) z2 (.lst [V.ref t])) p = some (.lst bvs.dropLast) := (same_new nz2) _ _ ((same_new nt2) _ _ upd_same)
            refine ⟨p, z2, _, _, rfl, rfl, hp2, upd_same, by rw [List.length_dropLast, rb.length, List.length_map, List.length_singleton, sizeLine_eq]; have := ok.five x (List.mem_of_getElem? hx); omega, fun r nr => ?_⟩
            have s6 : Same H5 (upd (upd (upd (upd H5 p (.lst bvs.dropLast)) t (.tup [V.str "show", V.str "a"])) z2 (.lst [V.ref t])) r (.lst (bvs.dropLast ++ [V.ref t]))) := (same_new np).trans ((same_new nt2).trans ((same_new nz2).trans (same_new nr)))
            have ht6 : (upd (upd (upd (upd H5 p (.lst bvs.dropLast)) t (.tup [V.str "show", V.str "a"])) z2 (.lst [V.ref t])) r (.lst (bvs.dropLast ++ [V.ref t]))) t = some (.tup [V.str "show", V.str "a"]) := (same_new nr) _ _ ((same_new nz2) _ _ upd_same)
            have hr6 : (upd (upd (upd (upd H5 p (.lst bvs.dropLast)) t (.tup [V.str "show", V.str "a"])) z2 (.lst [V.ref t])) r (.lst (bvs.dropLast ++ [V.ref t]))) r = some (.lst (bvs.dropLast ++ [V.ref t])) := upd_same
            have rD : r ≠ D2 := (ne_of_none (((same_new np).trans ((same_new nt2).trans (same_new nz2))) _ _ hD5) nr).symm
            have rl : r ≠ l := (ne_of_none (((same_new np).trans ((same_new nt2).trans (same_new nz2))) _ _ (s35 _ _ (s23 _ _ hl))) nr).symm
            have tD : t ≠ D2 := (ne_of_none ((same_new np) _ _ hD5) nt2).symm
            have tl : t ≠ l := (ne_of_none ((same_new np) _ _ (s35 _ _ (s23 _ _ hl))) nt2).symm
            generalize upd (upd (upd (upd H5 p (.lst bvs.dropLast)) t (.tup [V.str "show", V.str "a"])) z2 (.lst [V.ref t])) r (.lst (bvs.dropLast ++ [V.ref t])) = H6 at s6 ht6 hr6 ⊢
            have in2 : ∀ {x : Addr}, x ≠ D2 → x ≠ l → x ∉ [D2, l] := fun n1 n2 z => (List.mem_cons.mp z).elim n1 (fun z => n2 (List.mem_singleton.mp z))
            refine ⟨acc, s6 _ _ hD5, small, same_own (s35.trans s6) nD2, acc ++ [.ref r], upd_same, ?_⟩
            rw [tk, if_pos ei, List.map_append]
            have bD : But [D2, l] H6 (upd H6 D2 (.lst (acc ++ [.ref r]))) := But.refl.upd List.mem_cons_self
            refine ((ra5.sm s6).mv bD).app (.one ?_)
            rw [show ws.getD n [] = x by rw [← ei]; exact gx]
            refine .lst (by rw [upd_ne rD]; exact hr6) (in2 rD rl) ?_
            rw [List.map_append]
            refine Reps.app ?_ (.one (.tup (by rw [upd_ne tD]; exact ht6) (in2 tD tl) (.cons (.str _) (.cons (.str _) .nil))))
            have rb2 := ((rb.sm s6).mv bD).cut (bvs.length - 1)
            rw [← List.dropLast_eq_take, show (x.map wdD).take (bvs.length - 1) = x.dropLast.map wdD by rw [rb.length, List.length_map, ← List.map_take, List.dropLast_eq_take]] at rb2
            exact rb2
          · have ei : i ≠ n := fun e => c (by rw [e]; simp)
            refine ⟨_, rfl, acc, hD5, small, same_own s35 nD2, acc ++ [y], upd_same, ?_⟩
            rw [tk, if_neg ei, List.map_append]
            exact (ra5.app (.one ry5)).mv (But.refl.upd List.mem_cons_self)
        · rintro H4 ⟨s4, acc, hD2, ra⟩
          rw [lw, ← wl, List.take_length] at ra
          have Dl : D2 ≠ l := (ne_of_none (s23 _ _ hl) nD2).symm
          refine k H4 _ (withShow ws n) (s23.trans s4) (.lst hD2 (fun z => Dl (List.mem_singleton.mp z)) (ra.less fun x z => List.mem_cons_of_mem _ z)) (wsOk_set ok nl nn) wl ?_
          refine ⟨(ws.getD n []).dropLast ++ [showA], List.mem_of_getElem? (i := n) (by rw [withShow_at ws n n nl, if_pos rfl]), showA, List.mem_append_right _ (List.mem_singleton.mpr rfl), .inr rfl⟩
def sp_law_row : Sp := fun vs H Q _ => ∃ (l g : Addr) (m : Nat) (wd n : Str) (c : Int) (gs : List V) (ps : List Nm), vs = [.ref l, .str wd, .str n, .int c, .ref g] ∧ wd ∈ wordsOf ∧ n ∈ letters ∧ Pool m l H ∧ m ≤ 30000 ∧ H g = some (.lst gs) ∧ g ≠ l ∧ Reps [l] H gs (ps.map nmD) ∧ (∀ p ∈ ps, nmOk c p) ∧ ps.length ≤ 40 ∧ 0 < c ∧ c ≤ 4 ∧ ∀ (H' : Hp) (v : V) (r : Row), But [l] H H' → Pool (m + 12) l H' → Rep [l] H' v r.d → r.ok c → r.word = wd → Q v H'
theorem ok_law_row (T : Txt K w mg A) : FnOk P w K mg base CX0 4 A.f_law_row A.d_law_row ["pool", "word", "name", "count", "given"] (sp_law_row) := by
  refine T.F_law_row.ok sc_law_row (fun vs H Q E h => ?_) (fun cdv Ar outer s H vs Q E hr h => ?_)
  · obtain ⟨l, g, m, wd, n, c, gs, ps, rfl, xw, hn, hp, m3, hg, gl, rg, gok, g40, c0, c4, k⟩ := h
    rfl
  · obtain ⟨l, g, m, wd, n, c, gs, ps, rfl, xw, hn, hp, m3, hg, gl, rg, gok, g40, c0, c4, k⟩ := h
    refine ⟨_, PSs.nox ((pss_cons (ps_if (pt_cmpR op_eq (pv 1) pe_str (nomark _)) (pss_one (ps_ret (pe_tup (pa_cons (pv 1) (pa_cons (pe_call (ok_law_draw T) (hr.mono (by decide)) rfl T.m_law_draw T.F_law_draw.kp (b_law_draw T) .nil pass0 (pa_cons (pv 0) (pa_cons (pv 3) pa_nil))) pa_nil))))) pss_nil)
 (pss_cons (ps_if (pt_cmpR op_eq (pv 1) pe_str (nomark _)) (pss_one (ps_ret (pe_tup (pa_cons (pv 1) (pa_cons (pv 2) (pa_cons (pe_call (ok_law_needs T) hr rfl T.m_law_needs T.F_law_needs.kp (b_law_needs T) .nil pass0 (pa_cons (pv 0) (pa_cons (pv 3) (pa_cons (pv 4) (pa_cons pe_int pa_nil))))) (pa_cons (pe_cmpR op_eq (pe_call (ok_law_draw T) (hr.mono (by decide)) rfl T.m_law_draw T.F_law_draw.kp (b_law_draw T) .nil pass0 (pa_cons (pv 0) (pa_cons pe_int pa_nil))) pe_int (nomark _)) pa_nil))))))) pss_nil)
 (pss_cons (ps_if (pt_cmpR op_eq (pv 1) pe_str (nomark _)) (pss_one (ps_ret (pe_op op_catT (pe_tup (pa_cons (pv 1) (pa_cons (pv 2) pa_nil))) (pe_call (ok_law_need T) (hr.mono (by decide)) rfl T.m_law_need T.F_law_need.kp (b_law_need T) .nil pass0 (pa_cons (pv 0) (pa_cons (pv 3) (pa_cons (pv 4) pa_nil))))))) pss_nil)
 (pss_cons (ps_if (pt_cmpR op_eq (pv 1) pe_str (nomark _)) (pss_one (ps_ret (pe_tup (pa_cons (pv 1) (pa_cons (pe_call (ok_law_needs T) hr rfl T.m_law_needs T.F_law_needs.kp (b_law_needs T) .nil pass0 (pa_cons (pv 0) (pa_cons (pv 3) (pa_cons (pv 4) (pa_cons pe_int pa_nil))))) (pa_cons (pe_cmpR op_eq (pe_call (ok_law_draw T) (hr.mono (by decide)) rfl T.m_law_draw T.F_law_draw.kp (b_law_draw T) .nil pass0 (pa_cons (pv 0) (pa_cons pe_int pa_nil))) pe_int (nomark _)) pa_nil)))))) pss_nil)
 (pss_cons (ps_if (pt_cmpR op_eq (pv 1) pe_str (nomark _)) (pss_one (ps_ret (pe_tup (pa_cons (pv 1) (pa_cons (pv 2) (pa_cons (pe_op op_sub (pe_call (ok_law_draw T) (hr.mono (by decide)) rfl T.m_law_draw T.F_law_draw.kp (b_law_draw T) .nil pass0 (pa_cons (pv 0) (pa_cons (pe_op op_add (pv 3) pe_int) pa_nil))) pe_int) (pa_cons (pe_call (ok_law_needs T) hr rfl T.m_law_needs T.F_law_needs.kp (b_law_needs T) .nil pass0 (pa_cons (pv 0) (pa_cons (pv 3) (pa_cons (pv 4) (pa_cons pe_int pa_nil))))) pa_nil))))))) pss_nil)
 (pss_one (ps_ret (pe_tup (pa_cons (pv 1) pa_nil)))))))))), ?_⟩
    rw [show start N_law_row [.ref l, .str wd, .str n, .int c, .ref g] = [some (.ref l), some (.str wd), some (.str n), some (.int c), some (.ref g)] from rfl]
    simp only [wordsOf, List.mem_cons, List.not_mem_nil, or_false] at xw
    rcases xw with e | e | e | e | e | e <;> subst e
    · refine ⟨_, rfl, rfl, _, rfl, ?_⟩
      refine ite2 (fun c => absurd c (by decide +kernel)) (fun _ => ?_)
      refine ⟨_, rfl, rfl, _, rfl, ?_⟩
      refine ite2 (fun _ => ?_) (fun c => absurd (by decide +kernel) c)
      refine ⟨_, rfl, _, rfl, _, rfl, _, rfl, _, rfl, l, g, m, 1, c, gs, ps, rfl, by decide, hp, by omega, hg, gl, rg, gok, g40, c0, c4, fun H1 u qs b1 s1 ru oq => ?_⟩
      refine ⟨_, rfl, l, m + 10, 4, rfl, s1, by omega, by decide, by decide, fun H2 v b2 s2 v0 v1 => ⟨rfl, ?_⟩⟩
      generalize decide (V.int v = V.int 0) = rk
      refine ⟨(by show 4 ≤ sizeLine; decide), fun t nt => ?_⟩
      have bt : But [l] H2 (upd H2 t (.tup [.str "give", .str n, u, .bl rk])) := .new .refl nt
      exact k _ _ (.give n qs rk) ((b1.trans b2).trans bt) ((s2.new nt).le (by omega)) (.tup upd_same (fun z => s2.ne nt (List.mem_singleton.mp z)) (.cons (.str _) (.cons (.str _) (.cons ((ru.mv b2).mv bt) (.cons (.bl _) .nil))))) ⟨hn, oq⟩ rfl
    · refine ⟨_, rfl, rfl, _, rfl, ?_⟩
      refine ite2 (fun c => absurd c (by decide +kernel)) (fun _ => ?_)
      refine ⟨_, rfl, rfl, _, rfl, ?_⟩
      refine ite2 (fun c => absurd c (by decide +kernel)) (fun _ => ?_)
      refine ⟨_, rfl, rfl, _, rfl, ?_⟩
      refine ite2 (fun c => absurd c (by decide +kernel)) (fun _ => ?_)
      refine ⟨_, rfl, rfl, _, rfl, ?_⟩
      refine ite2 (fun _ => ?_) (fun c => absurd (by decide +kernel) c)
      refine ⟨_, rfl, _, rfl, _, rfl, _, rfl, l, g, m, 2, c, gs, ps, rfl, by decide, hp, by omega, hg, gl, rg, gok, g40, c0, c4, fun H1 u qs b1 s1 ru oq => ?_⟩
      refine ⟨_, rfl, l, m + 10, 4, rfl, s1, by omega, by decide, by decide, fun H2 v b2 s2 v0 v1 => ⟨rfl, ?_⟩⟩
      generalize decide (V.int v = V.int 0) = rk
      refine ⟨(by show 3 ≤ sizeLine; decide), fun t nt => ?_⟩
      have bt : But [l] H2 (upd H2 t (.tup [.str "show", u, .bl rk])) := .new .refl nt
      exact k _ _ (.show_ qs rk) ((b1.trans b2).trans bt) ((s2.new nt).le (by omega)) (.tup upd_same (fun z => s2.ne nt (List.mem_singleton.mp z)) (.cons (.str _) (.cons ((ru.mv b2).mv bt) (.cons (.bl _) .nil)))) oq rfl
    · refine ⟨_, rfl, rfl, _, rfl, ?_⟩
      refine ite2 (fun _ => ?_) (fun c => absurd (by decide +kernel) c)
      refine ⟨_, rfl, _, rfl, _, rfl, l, m, c, rfl, hp, by omega, c0, by omega, fun H1 v b1 s1 v0 v1 => ⟨(by show 2 ≤ sizeLine; decide), fun t nt => ?_⟩⟩
      exact k _ _ (.load v) (b1.new nt) ((s1.new nt).le (by omega)) (.tup upd_same (fun z => s1.ne nt (List.mem_singleton.mp z)) (.cons (.str _) (.cons (.int _) .nil))) ⟨v0, v1⟩ rfl
    · refine ⟨_, rfl, rfl, _, rfl, ?_⟩
      refine ite2 (fun c => absurd c (by decide +kernel)) (fun _ => ?_)
      refine ⟨_, rfl, rfl, _, rfl, ?_⟩
      refine ite2 (fun c => absurd c (by decide +kernel)) (fun _ => ?_)
      refine ⟨_, rfl, rfl, _, rfl, ?_⟩
      refine ite2 (fun _ => ?_) (fun c => absurd (by decide +kernel) c)
      refine ⟨_, rfl, _, rfl, (by show 2 ≤ sizeLine; decide), fun p np => ?_⟩
      have s0 : Same H (upd H p (.tup [.str "pass", .str n])) := same_new np
      have hp0 : (upd H p (.tup [.str "pass", .str n])) p = some (.tup [.str "pass", .str n]) := upd_same
      have pl := hp.ne np
      have P0 : Pool m l (upd H p (.tup [.str "pass", .str n])) := hp.new np
      generalize upd H p (.tup [.str "pass", .str n]) = H0 at s0 hp0 P0 ⊢
      refine ⟨_, rfl, _, rfl, _, rfl, l, g, m, c, gs, ps, rfl, P0, by omega, s0 _ _ hg, gl, rg.sm s0, gok, g40, c0, c4, fun H1 v q b1 s1 rv okq => ?_⟩
      obtain ⟨b, x, y, rfl, hb, rx, ry⟩ := rv.two
      obtain rfl := rx.intV
      obtain rfl := ry.strV
      refine ⟨p, b, _, _, rfl, rfl, SqT.of (b1.at1 hp0 pl), SqT.of hb, (fun z => nomatch z), (by show 4 ≤ sizeLine; decide), (fun z => nomatch z), fun _ t nt => ?_⟩
      exact k _ _ (.pass n q.1 q.2) (((But.of s0).trans b1).new nt) ((s1.new nt).le (by omega)) (.tup upd_same (fun z => s1.ne nt (List.mem_singleton.mp z)) (.cons (.str _) (.cons (.str _) (.cons (.int _) (.cons (.str _) .nil))))) ⟨hn, ⟨okq.1, okq.2.1⟩, okq.2.2⟩ rfl
    · refine ⟨_, rfl, rfl, _, rfl, ?_⟩
      refine ite2 (fun c => absurd c (by decide +kernel)) (fun _ => ?_)
      refine ⟨_, rfl, rfl, _, rfl, ?_⟩
      refine ite2 (fun c => absurd c (by decide +kernel)) (fun _ => ?_)
      refine ⟨_, rfl, rfl, _, rfl, ?_⟩
      refine ite2 (fun c => absurd c (by decide +kernel)) (fun _ => ?_)
      refine ⟨_, rfl, rfl, _, rfl, ?_⟩
      refine ite2 (fun c => absurd c (by decide +kernel)) (fun _ => ?_)
      refine ⟨_, rfl, rfl, _, rfl, ?_⟩
      refine ite2 (fun _ => ?_) (fun c => absurd (by decide +kernel) c)
      refine ⟨_, rfl, _, rfl, _, rfl, _, rfl, _, _, rfl, rfl, l, m, c + 1, rfl, hp, by omega, by omega, by omega, fun H1 v b1 s1 v0 v1 => ⟨_, _, rfl, rfl, ?_⟩⟩
      refine ⟨_, rfl, _, rfl, _, rfl, l, g, m + 1, 2, c, gs, ps, rfl, by decide, s1, by omega, b1.at1 hg gl, gl, rg.mv b1, gok, g40, c0, c4, fun H2 u qs b2 s2 ru oq => ⟨(by show 4 ≤ sizeLine; decide), fun t nt => ?_⟩⟩
      have bt : But [l] H2 (upd H2 t (.tup [.str "late", .str n, .int (v - 1), u])) := .new .refl nt
      exact k _ _ (.late n (v - 1) qs) ((b1.trans b2).trans bt) ((s2.new nt).le (by omega)) (.tup upd_same (fun z => s2.ne nt (List.mem_singleton.mp z)) (.cons (.str _) (.cons (.str _) (.cons (.int _) (.cons (ru.mv bt) .nil))))) ⟨hn, ⟨by omega, by omega⟩, oq⟩ rfl
    · refine ⟨_, rfl, rfl, _, rfl, ?_⟩
      refine ite2 (fun c => absurd c (by decide +kernel)) (fun _ => ?_)
      refine ⟨_, rfl, rfl, _, rfl, ?_⟩
      refine ite2 (fun c => absurd c (by decide +kernel)) (fun _ => ?_)
      refine ⟨_, rfl, rfl, _, rfl, ?_⟩
      refine ite2 (fun c => absurd c (by decide +kernel)) (fun _ => ?_)
      refine ⟨_, rfl, rfl, _, rfl, ?_⟩
      refine ite2 (fun c => absurd c (by decide +kernel)) (fun _ => ?_)
      refine ⟨_, rfl, rfl, _, rfl, ?_⟩
      refine ite2 (fun c => absurd c (by decide +kernel)) (fun _ => ?_)
      refine ⟨_, rfl, (by show 1 ≤ sizeLine; decide), fun t nt => ?_⟩
      exact k _ _ .out (.new .refl nt) ((hp.new nt).le (by omega)) (.tup upd_same (fun z => hp.ne nt (List.mem_singleton.mp z)) (.cons (.str _) .nil)) trivial rfl
def sp_law_program : Sp := fun vs H Q _ => ∃ (l : Addr) (m : Nat) (mp R O me mo : Int), vs = [.ref l, .int mp, .int R, .int O, .int me, .int mo] ∧ Pool m l H ∧ m ≤ 20000 ∧ 1 ≤ mp ∧ mp ≤ 4 ∧ 0 ≤ R ∧ R ≤ 12 ∧ 0 ≤ O ∧ O ≤ 2 ∧ 1 ≤ me ∧ me ≤ 3 ∧ 0 ≤ mo ∧ mo ≤ 4 ∧ ∀ (H' : Hp) (v : V) (P : Prog), But [l] H H' → Pool (m + 400) l H' → Rep [l] H' v P.d → P.Ok → P.c ≤ mp → (∃ rs ∈ P.parts, ∃ r ∈ rs, r.word = ("give" : Str) ∨ r.word = ("show" : Str)) → Q v H'
theorem ok_law_program (T : Txt K w mg A) : FnOk P w K mg base CX0 5 A.f_law_program A.d_law_program ["pool", "most_parts", "most_rows", "most_outs", "most_entries", "most_opens"] (sp_law_program) := by
  refine T.F_law_program.ok sc_law_program (fun vs H Q E h => ?_) (fun cdv Ar outer s H vs Q E hr h => ?_)
  · obtain ⟨l, m, mp, R, O, me, mo, rfl, hp, m2, mp1, mp4, R0, R1, O0, O1, me1, me3, mo0, mo4, k⟩ := h
    rfl
  · obtain ⟨l, m, mp, R, O, me, mo, rfl, hp, m2, mp1, mp4, R0, R1, O0, O1, me1, me3, mo0, mo4, k⟩ := h
    refine ⟨_, PSs.nox ((pss_cons (ps_set (i := 6) sc_law_program.nd rfl (Or.inr rfl) (pe_op op_add pe_int (pe_call (ok_law_draw T) (hr.mono (by decide)) rfl T.m_law_draw T.F_law_draw.kp (b_law_draw T) .nil pass0 (pa_cons (pv 0) (pa_cons (pv 1) pa_nil)))))
 (pss_cons (ps_set (i := 7) sc_law_program.nd rfl (Or.inl rfl) (pe_call (ok_law_subset T) (hr.mono (by decide)) rfl T.m_law_subset T.F_law_subset.kp (b_law_subset T) .nil pass0 (pa_cons (pv 0) (pa_cons (pe_listRg rfl (by rfl) T.zlist (prg_1 (by rfl) T.zrange (pv 6))) (pa_cons (pv 4) pa_nil)))))
 (pss_cons (ps_if (pt_cmpR (op_eqD hr.units) (pv 7) (pe_lst pa_nil) (nomark _)) (pss_one (ps_set (i := 7) sc_law_program.nd rfl (Or.inl rfl) (pe_lst (pa_cons (pe_call (ok_law_draw T) (hr.mono (by decide)) rfl T.m_law_draw T.F_law_draw.kp (b_law_draw T) .nil pass0 (pa_cons (pv 0) (pa_cons (pv 6) pa_nil))) pa_nil)))) pss_nil)
 (pss_cons (ps_set (i := 8) sc_law_program.nd rfl (Or.inl rfl) (pe_call (ok_law_with_show T) (hr.mono (by decide)) rfl T.m_law_with_show T.F_law_with_show.kp (b_law_with_show T) .nil pass0 (pa_cons (pe_call (ok_law_words T) (hr.mono (by decide)) rfl T.m_law_words T.F_law_words.kp (b_law_words T) .nil pass0 (pa_cons (pv 0) (pa_cons (pv 6) (pa_cons (pv 2) (pa_cons (pv 3) pa_nil))))) pa_nil)))
 (pss_cons (ps_set (i := 9) sc_law_program.nd rfl (Or.inr rfl) (pe_lst pa_nil))
 (pss_cons (ps_for PassesOwn.never rfl (pi_range1 (by rfl) T.zrange (pa_cons (pv 6) pa_nil)) (pg_name (i := 10) sc_law_program.nd rfl (Or.inr rfl)) (pss_one (ps_set (i := 9) sc_law_program.nd rfl (Or.inr rfl) (pe_op op_cat (pv 9) (pe_lc (own := [("word", 16), ("name", 17)]) (g := (gTup _ 2 (gCons (gName 16) (gCons (gName 17) gNil)))) (tt := _) rfl sc_law_program.nd (pi_list (pe_ix ix_list (pv 8) (pv 10) (fun _ _ => rfl))) (blkOk_by (N := N_law_program) (sc := defScope s_law_program) (by decide +kernel)) (fun _ _ _ _ _ => (pg_tup (by rfl) (pgs_cons (pg_name (i := 16) sc_law_program.nd rfl (Or.inl rfl)) (pgs_cons (pg_name (i := 17) sc_law_program.nd rfl (Or.inl rfl)) pgs_nil)))) (fun _ _ _ _ _ => (pts_one (pt_cmpR (show OpR _ (compareOp .In) (rIn K false) from op_in_seq) (pv 16) (pe_lst (pa_cons pe_str (pa_cons pe_str (pa_cons pe_str pa_nil)))) rfl))) (fun _ _ _ _ _ => (pe_tup (pa_cons (pv 10) (pa_cons (pv 17) pa_nil)))))))))
 (pss_cons (ps_set (i := 9) sc_law_program.nd rfl (Or.inr rfl) (pe_callB (cr_sortNm rfl hr.units) (by rfl) T.zsorted (by decide +kernel) (pa_cons (pe_callTy (cr_setNm rfl hr.units) (by rfl) T.zset (by decide +kernel) (pa_cons (pv 9) pa_nil)) pa_nil)))
 (pss_cons (ps_set (i := 11) sc_law_program.nd rfl (Or.inl rfl) (pe_tup (pa_cons (pe_call (ok_law_draw T) (hr.mono (by decide)) rfl T.m_law_draw T.F_law_draw.kp (b_law_draw T) .nil pass0 (pa_cons (pv 0) (pa_cons (pv 6) pa_nil))) (pa_cons (pe_ix ix_str pe_str (pe_call (ok_law_draw T) (hr.mono (by decide)) rfl T.m_law_draw T.F_law_draw.kp (b_law_draw T) .nil pass0 (pa_cons (pv 0) (pa_cons pe_int pa_nil))) (fun _ _ => rfl)) pa_nil))))
 (pss_cons (ps_set (i := 12) sc_law_program.nd rfl (Or.inl rfl) (pe_call (ok_law_subset T) (hr.mono (by decide)) rfl T.m_law_subset T.F_law_subset.kp (b_law_subset T) .nil pass0 (pa_cons (pv 0) (pa_cons (pe_callB (cr_sortNm rfl hr.units) (by rfl) T.zsorted (by decide +kernel) (pa_cons (pe_callTy (cr_setNm rfl hr.units) (by rfl) T.zset (by decide +kernel) (pa_cons (pe_op op_cat (pv 9) (pe_lst (pa_cons (pv 11) pa_nil))) pa_nil)) pa_nil)) (pa_cons (pv 5) pa_nil)))))
 (pss_cons (ps_set (i := 13) sc_law_program.nd rfl (Or.inl rfl) (pe_callTy call_tuple_of (by rfl) T.ztuple (by decide +kernel) (pa_cons (pe_lc (own := [("part", 10)]) (g := (gName 10)) (tt := tYes) rfl sc_law_program.nd (pi_range1 (by rfl) T.zrange (pa_cons (pv 6) pa_nil)) (blkOk_by (N := N_law_program) (sc := defScope s_law_program) (by decide +kernel)) (fun _ _ _ _ _ => (pg_name (i := 10) sc_law_program.nd rfl (Or.inl rfl))) (fun _ _ _ _ _ => pts_nil) (fun _ _ _ _ _ => (pe_cmpR op_eq (pe_call (ok_law_draw T) (hr.mono (by decide)) rfl T.m_law_draw T.F_law_draw.kp (b_law_draw T) .nil pass0 (pa_cons (pv 0) (pa_cons pe_int pa_nil))) pe_int (nomark _)))) pa_nil)))
 (pss_cons (ps_set (i := 14) sc_law_program.nd rfl (Or.inl rfl) (pe_lst pa_nil))
 (pss_cons (ps_for PassesOwn.never rfl (pi_list (pv 8)) (pg_name (i := 15) sc_law_program.nd rfl (Or.inl rfl)) (pss_one (ps_expr (pe_bm PySem.F.plainAttrs_list PySem.F.slot_list_append PySem.F.type_list_append mt_append (pv 14) (pa_cons (pe_callTy call_tuple_of (by rfl) T.ztuple (by decide +kernel) (pa_cons (pe_lc (own := [("word", 16), ("name", 17)]) (g := (gTup _ 2 (gCons (gName 16) (gCons (gName 17) gNil)))) (tt := tYes) rfl sc_law_program.nd (pi_list (pv 15)) (blkOk_by (N := N_law_program) (sc := defScope s_law_program) (by decide +kernel)) (fun _ _ _ _ _ => (pg_tup (by rfl) (pgs_cons (pg_name (i := 16) sc_law_program.nd rfl (Or.inl rfl)) (pgs_cons (pg_name (i := 17) sc_law_program.nd rfl (Or.inl rfl)) pgs_nil)))) (fun _ _ _ _ _ => pts_nil) (fun _ _ _ _ _ => (pe_call (ok_law_row T) hr rfl T.m_law_row T.F_law_row.kp (b_law_row T) .nil pass0 (pa_cons (pv 0) (pa_cons (pv 16) (pa_cons (pv 17) (pa_cons (pv 6) (pa_cons (pv 9) pa_nil)))))))) pa_nil)) pa_nil)))))
 (pss_one (ps_ret (pe_tup (pa_cons (pe_callTy call_tuple_of (by rfl) T.ztuple (by decide +kernel) (pa_cons (pv 14) pa_nil)) (pa_cons (pv 13) (pa_cons (pe_callTy call_tuple_of (by rfl) T.ztuple (by decide +kernel) (pa_cons (pv 7) pa_nil)) (pa_cons (pe_callTy call_tuple_of (by rfl) T.ztuple (by decide +kernel) (pa_cons (pv 12) pa_nil)) pa_nil)))))))))))))))))))), ?_⟩
    rw [show start N_law_program [.ref l, .int mp, .int R, .int O, .int me, .int mo] = [some (.ref l), some (.int mp), some (.int R), some (.int O), some (.int me), some (.int mo), none, none, none, none, none, none, none, none, none, none, none, none] from rfl]
    have in1 : ∀ {x : Addr}, x ≠ l → x ∉ [l] := fun n z => n (List.mem_singleton.mp z)
    refine ⟨_, rfl, _, rfl, l, m, mp, rfl, hp, by omega, by omega, by omega, fun H1 v b1 s1 v0 v1 => ⟨_, _, rfl, rfl, ?_⟩⟩
    dsimp only [List.set]
    have c0 : 0 < 1 + v := by omega
    have cm : 1 + v ≤ mp := by omega
    generalize 1 + v = c at c0 cm ⊢
    have c4 : c ≤ 4 := by omega
    refine ⟨_, rfl, _, rfl, c, rfl, RgOk.of_le (by omega) (by omega) (by omega) (by omega), fun q nq => ⟨_, rfl, l, q, m + 1, me, _, rfl, s1.new nq, by omega, upd_same, s1.ne nq, by rw [rgV_length]; omega, by omega, fun H2 p ys b2 s2 np hp2 sub yl => ?_⟩⟩
    obtain ⟨es, rfl, eok, eup⟩ := sub_range sub
    have pl : p ≠ l := (s1.new nq).ne np
    have b12 : But [l] H H2 := (b1.new nq).trans b2
    rw [List.length_map] at yl
    clear b1 b2 s1 hp sub np nq
    dsimp only [gName, List.set]
    refine cut_by (fun σ H' => ∃ (p : Addr) (es : List Int), σ = [some (.ref l), some (.int mp), some (.int R), some (.int O), some (.int me), some (.int mo), some (.int c), some (.ref p), none, none, none, none, none, none, none, none, none, none] ∧
      But [l] H H' ∧ Pool (m + 27) l H' ∧ H' p = some (.lst (es.map V.int)) ∧ p ≠ l ∧ (∀ e ∈ es, 0 ≤ e ∧ e < c) ∧ es.Pairwise (· < ·) ∧ 1 ≤ es.length ∧ es.length ≤ 3) ?_ ?_
    rotate_left
    · intro nx
      refine ⟨_, rfl, Nat.zero_le _, fun e ne => ?_⟩
      have se : Same H2 (upd H2 e (.lst [])) := same_new ne
      refine ⟨_, _, Rep.dp (st := [l]) (.list (es.map PyData.int)) _ (noDict_ints es) (.lst (se _ _ hp2) (in1 pl) (ints_rep es)), Rep.dp (st := [l]) (.list []) _ rfl (.lst upd_same (in1 (s2.ne ne)) .nil), shaped_ints es, (by decide +kernel), _, rfl, ?_⟩
      rw [eqv_ints]
      refine ite2 (fun q => ?_) (fun q => ?_)
      · refine ⟨_, rfl, _, rfl, l, m + 26, c, rfl, s2.new ne, by omega, c0, by omega, fun H3 u b3 s3 u0 u1 => ⟨(by show 1 ≤ sizeLine; decide), fun q nq => ?_⟩⟩
        exact nx _ _ ⟨q, [u], rfl, ((b12.new ne).trans b3).new nq, s3.new nq, upd_same, s3.ne nq, fun x hx => by rw [List.mem_singleton.mp hx]; exact ⟨u0, u1⟩, List.pairwise_singleton _ _, Nat.le_refl _, (by decide : 1 ≤ 3)⟩
      · have en : es ≠ [] := by simpa using q
        exact nx _ _ ⟨p, es, rfl, b12.new ne, (s2.new ne).le (by omega), se _ _ hp2, pl, eok, eup, List.length_pos_iff.mpr en, by omega⟩
    clear b12 s2 hp2 pl eok eup yl es p H2
    rintro σ H2 ⟨p, es, rfl, b12, s2, hp2, pl, eok, eup, e1, e3⟩
    refine ⟨_, rfl, _, rfl, _, rfl, _, rfl, l, m + 27, c, R, O, rfl, s2, by omega, c0, c4, R0, R1, O0, O1, fun H4 v4 ws4 b4 s4 rv4 ok4 l4 => ?_⟩
    obtain ⟨a4, wv4, rfl, ha4, an4, rw4⟩ := rv4.lstV
    refine ⟨l, a4, wv4, ws4, rfl, ha4, (fun z => an4 (List.mem_singleton.mpr z)), rw4, ok4, by omega, by omega, s4.lst, fun H5 v5 ws s5 rv5 wok wl gos => ?_⟩
    obtain ⟨wa, wvs, rfl, hwa, wan, rwa⟩ := rv5.lstV
    have wal : wa ≠ l := fun z => wan (List.mem_singleton.mpr z)
    have b5 : But [l] H H5 := (b12.trans b4).trans (.of s5)
    have P5 := s4.same s5
    have hp5 : H5 p = some (.lst (es.map V.int)) := s5 _ _ (b4.at1 hp2 pl)
    have lws : (ws.length : Int) = c := by omega
    have lwv : wvs.length = ws.length := by rw [rwa.length, List.length_map]
    clear b12 b4 s4 s5 rv4 rv5 ok4 l4 rw4 ha4 an4 hp2 s2
    refine ⟨Nat.zero_le _, fun g0 ng0 => ?_⟩
    refine ⟨_, rfl, c, rfl, by omega, by omega, for_range (lo := 0) (n := c.toNat) (fun i σ H' => ∃ (g : Addr) (gs : List V) (ps : List Nm) (o10 : Option V), σ = [some (.ref l), some (.int mp), some (.int R), some (.int O), some (.int me), some (.int mo), some (.int c), some (.ref p), some (.ref wa), some (.ref g), o10, none, none, none, none, none, none, none] ∧
      But [l] H5 H' ∧ Pool (m + 71) l H' ∧ H' g = some (.lst gs) ∧ g ≠ l ∧ Reps [l] H' gs (ps.map nmD) ∧ (∀ q ∈ ps, nmOk c q) ∧ ps.length ≤ 5 * i) ?_ ?_ ?_⟩
    · exact ⟨g0, [], [], _, rfl, But.refl.new ng0, P5.new ng0, upd_same, P5.ne ng0, .nil, fun _ z => (nomatch z), Nat.le_refl _⟩
    · rintro i σ H' hi ⟨g, gs, ps, o10, rfl, b6, P6, hg, gl, rg, gok, gn⟩
      have il : i < ws.length := by omega
      obtain ⟨xs, hxs⟩ : ∃ xs, ws[i]? = some xs := ⟨_, List.getElem?_eq_getElem il⟩
      obtain ⟨lv, hlv, rlv⟩ := rwa.at_ (i := i) (d := wdsD xs) (by rw [List.getElem?_map, hxs]; rfl)
      obtain ⟨la, lvs, rfl, hla, lan, rla⟩ := rlv.lstV
      have lal : la ≠ l := fun z => lan (List.mem_singleton.mpr z)
      have at_i : atI wvs (0 + (i : Int)) = some (.ref la) := by
        rw [Int.zero_add]
        exact atI_nat hlv
      have xm := List.mem_of_getElem? hxs
      have five := wok.five xs xm
      have lgs : gs.length = ps.length := by rw [rg.length, List.length_map]
      refine ⟨_, rfl, _, rfl, _, rfl, wa, wvs, _, _, rfl, rfl, SqL.of (b6.at1 hwa wal), at_i, la, rfl, ⟨_, SqL.of (b6.at1 hla lal)⟩, fun D nD => ?_⟩
      have Dl := P6.ne nD
      refine lc_list (K := K) (a := la) (xs := lvs) (fun j H'' => But [l] H' H'' ∧ Pool (m + 71) l H'' ∧ ∃ (acc : List V) (qs : List Nm), H'' D = some (.lst acc) ∧ Reps [D, l] H'' acc (qs.map nmD) ∧ (∀ q ∈ qs, nmOk c q) ∧ qs.length ≤ j) ?_ (fun j H'' _ q => SqL.of ((b6.trans q.1).at1 hla lal)) ?_ ?_
      · exact ⟨.new .refl nD, P6.new nD, [], [], upd_same, .nil, fun _ z => (nomatch z), Nat.le_refl _⟩
      · rintro j y H'' hj ⟨b7, P7, acc, qs, hD, ra, qok, qn⟩
        obtain ⟨d2, hd2, rz⟩ := ((rla.mv b6).mv b7).get hj
        rw [List.getElem?_map] at hd2
        obtain ⟨q, hq, rfl⟩ := Option.map_eq_some_iff.mp hd2
        obtain ⟨t, p1, p2, rfl, ht, r1, r2⟩ := rz.two
        obtain rfl := r1.strV
        obtain rfl := r2.strV
        have jl : j < xs.length := (List.getElem?_eq_some_iff.mp hq).1
        have qw := wok.ok xs xm q (List.mem_of_getElem? hq)
        have lacc : acc.length = qs.length := by rw [ra.length, List.length_map]
        refine ⟨t, _, rfl, SqT.of ht, rfl, _, _, rfl, _, _, rfl, rfl, rfl, ?_⟩
        refine ⟨_, rfl, (by show 3 ≤ sizeLine; decide), fun w3 nw3 => ⟨w3, _, rfl, .inl (SqL.of upd_same), rfl, rfl, _, rfl, ?_⟩⟩
        have b8 : But [l] H'' (upd H'' w3 (.lst [.str "give", .str "pass", .str "late"])) := .new .refl nw3
        have s8 : Same H'' (upd H'' w3 (.lst [.str "give", .str "pass", .str "late"])) := same_new nw3
        have P8 : Pool (m + 71) l (upd H'' w3 (.lst [.str "give", .str "pass", .str "late"])) := P7.new nw3
        generalize upd H'' w3 (.lst [.str "give", .str "pass", .str "late"]) = H8 at b8 s8 P8 ⊢
        have hD8 := s8 _ _ hD
        refine ite2 (fun _ => ?_) (fun _ => ⟨b7.trans b8, P8, acc, qs, hD8, ra.sm s8, qok, by omega⟩)
        refine ⟨_, rfl, _, rfl, (by show 2 ≤ sizeLine; decide), fun t2 nt2 => ?_⟩
        have s9 : Same H8 (upd H8 t2 (.tup [.int (0 + (i : Int)), .str q.2])) := same_new nt2
        have tD : t2 ≠ D := (ne_of_none hD8 nt2).symm
        have bu : But [D, l] (upd H8 t2 (.tup [.int (0 + (i : Int)), .str q.2])) (upd (upd H8 t2 (.tup [.int (0 + (i : Int)), .str q.2])) D (.lst (acc ++ [.ref t2]))) := But.refl.upd List.mem_cons_self
        refine ⟨acc, s9 _ _ hD8, by rw [lacc, sizeLine_eq]; omega, ((b7.trans b8).new nt2).own nD, (P8.new nt2).away Dl, acc ++ [.ref t2], qs ++ [((0 + (i : Int)), q.2)], upd_same, ?_, fun r hr => ?_, by rw [List.length_append]; show qs.length + 1 ≤ j + 1; omega⟩
        · rw [List.map_append]
          refine (((ra.sm s8).sm s9).mv bu).app (.one (.tup (by rw [upd_ne tD]; exact upd_same) (fun z => (List.mem_cons.mp z).elim tD (fun z => P8.ne nt2 (List.mem_singleton.mp z))) (.cons (.int _) (.cons (.str _) .nil))))
        · rcases List.mem_append.mp hr with z | z
          · exact qok r z
          · rw [List.mem_singleton.mp z]
            exact ⟨by show 0 ≤ 0 + (i : Int); omega, by show 0 + (i : Int) < c; omega, qw.2⟩
      · rintro H'' ⟨b7, P7, acc, qs, hD, ra, qok, qn⟩
        have lacc : acc.length = qs.length := by rw [ra.length, List.length_map]
        have llv : lvs.length = xs.length := by rw [rla.length, List.length_map]
        refine ⟨g, D, gs, acc, rfl, rfl, b7.at1 hg gl, hD, by rw [lgs, lacc, sizeLine_eq]; omega, fun g2 ng2 => ?_⟩
        have sg : Same H'' (upd H'' g2 (.lst (gs ++ acc))) := same_new ng2
        refine ⟨g2, gs ++ acc, ps ++ qs, _, rfl, (b6.trans b7).new ng2, P7.new ng2, upd_same, P7.ne ng2, ?_, fun q hq => ?_, by rw [List.length_append]; omega⟩
        · rw [List.map_append]
          exact ((rg.mv b7).sm sg).app ((ra.less fun a z => List.mem_cons_of_mem _ z).sm sg)
        · rcases List.mem_append.mp hq with z | z
          · exact gok q z
          · exact qok q z
    rintro σ H6 ⟨g, gs, ps, o10, rfl, b6, P6, hg, gl, rg, gok, gn⟩
    have gn2 : ps.length ≤ 20 := by omega
    clear ng0 gn
    have b56 := b5.trans b6
    have hwa6 := b6.at1 hwa wal
    have hp6 := b6.at1 hp5 pl
    have rwa6 := rwa.mv b6
    obtain ⟨ks, rfl, ek, hks⟩ := nms_keys rg
    have kl : ks.length ≤ 20 := by
      rw [← List.length_map (f := Prod.snd), ek]
      exact gn2
    refine ⟨_, rfl, g, ks, rfl, SqL.of hg, fun q hq => SqT.of (hks q hq).1, by omega, fun a2 l2 na2 ln2 nd2 sub2 all2 => ⟨a2, l2, rfl, upd_same, fun q hq => SqT.of ((same_new na2) _ _ (hks q (sub2 q hq)).1), fun l3 p2 perm3 pw3 len3 l360 np2 => ?_⟩⟩
    have s7 := (same_new na2).trans (same_new (o := .lst (l3.map fun q => V.ref q.1)) np2)
    have p2l : p2 ≠ l := ((P6.same (same_new na2)).ne np2)
    dsimp only [gName, List.set]
    refine at_heap (fun H7 => Same H6 H7 ∧ H7 p2 = some (.lst (l3.map fun q => V.ref q.1))) ⟨s7, upd_same⟩ ?_
    clear s7
    rintro H7 ⟨s7, hp27⟩
    have h3 : ∀ q ∈ l3, H7 q.1 = some (.tup [.int q.2.1, .str q.2.2]) ∧ q.1 ∉ [l] := fun q hq => by
      have z := hks q (sub2 q (perm3.mem_iff.mp hq))
      exact ⟨s7 _ _ z.1, z.2⟩
    have ok3 : ∀ q ∈ l3.map Prod.snd, nmOk c q := fun q hq => by
      obtain ⟨r, hr, rfl⟩ := List.mem_map.mp hq
      refine gok _ ?_
      rw [← ek]
      exact List.mem_map.mpr ⟨r, sub2 r (perm3.mem_iff.mp hr), rfl⟩
    have len20 : l3.length ≤ 20 := by omega
    have rg7 := keys_nms l3 h3
    have P7 := P6.same s7
    have b57 := b56.trans (.of s7)
    replace hwa6 := s7 _ _ hwa6
    replace hp6 := s7 _ _ hp6
    replace rwa6 := rwa6.sm s7
    clear s7 P6 hks sub2 all2 nd2 ln2 na2 np2 perm3 pw3 len3 l360 gok ek kl gn2 rg hg gl b56 b6 b5 hp5 hwa rwa P5
    -- one more name
    refine ⟨_, rfl, _, rfl, l, m + 71, c, rfl, P7, by omega, c0, by omega, fun H8 v8 b8 P8 v80 v81 => ⟨_, rfl, l, m + 72, 4, rfl, P8, by omega, by decide, by decide, fun H9 u9 b9 P9 u90 u91 => ?_⟩⟩
    obtain ⟨ch, ech, mem⟩ := letter_at u90 u91
    refine ⟨_, _, ch, rfl, rfl, (by decide +kernel), ech, (by show 2 ≤ sizeLine; decide), fun t1 nt1 => ?_⟩
    have t1l := P9.ne nt1
    dsimp only [gName, List.set]
    have b10 : But [l] H7 (upd H9 t1 (.tup [V.int v8, .str ⟨#[ch]⟩])) := (b8.trans b9).new nt1
    refine at_heap (fun H10 => But [l] H7 H10 ∧ Pool (m + 73) l H10 ∧ H10 t1 = some (.tup [V.int v8, .str ⟨#[ch]⟩])) ⟨b10, P9.new nt1, upd_same⟩ ?_
    clear b10 b8 b9 P9 P8 nt1
    rintro H10 ⟨b10, P10, ht1⟩
    have hp210 := b10.at1 hp27 p2l
    -- the open names
    refine ⟨_, rfl, _, rfl, _, rfl, (by show 1 ≤ sizeLine; decide), fun z nz => ⟨p2, z, _, _, rfl, rfl, (same_new nz) _ _ hp210, upd_same, by rw [List.length_map, List.length_singleton, sizeLine_eq]; omega, fun q nq => ?_⟩⟩
    have s11 : Same H10 (upd (upd H10 z (.lst [V.ref t1])) q (.lst ((l3.map fun q => V.ref q.1) ++ [V.ref t1]))) := (same_new nz).trans (same_new nq)
    refine ⟨q, l3 ++ [(t1, (v8, ⟨#[ch]⟩))], rfl, SqL.of (by rw [upd_same, List.map_append]; rfl), ?_, by rw [List.length_append, List.length_singleton]; omega, fun a3 k3 na3 ln3 nd3 sub3 all3 => ⟨a3, k3, rfl, upd_same, ?_, fun l4 p4 perm4 pw4 len4 l460 np4 => ?_⟩⟩
    · intro r hr
      rcases List.mem_append.mp hr with e | e
      · exact SqT.of (s11 _ _ (b10.at1 (h3 r e).1 (fun x => (h3 r e).2 (List.mem_singleton.mpr x))))
      · rw [List.mem_singleton.mp e]
        exact SqT.of (s11 _ _ ht1)
    · intro r hr
      rcases List.mem_append.mp (sub3 r hr) with e | e
      · exact SqT.of ((same_new na3) _ _ (s11 _ _ (b10.at1 (h3 r e).1 (fun x => (h3 r e).2 (List.mem_singleton.mpr x)))))
      · rw [List.mem_singleton.mp e]
        exact SqT.of ((same_new na3) _ _ (s11 _ _ ht1))
    have s12 := s11.trans ((same_new na3).trans (same_new (o := .lst (l4.map fun q => V.ref q.1)) np4))
    have P12 := P10.same s12
    have l4len : l4.length ≤ 21 := by
      rw [List.length_append, List.length_singleton] at ln3
      omega
    refine ⟨_, rfl, l, p4, m + 73, mo, _, rfl, P12, by omega, upd_same, (P10.same (s11.trans (same_new na3))).ne np4, by rw [List.length_map]; omega, mo0, fun H13 p13 ys b13 P13 np13 hp13 sub13 ly => ?_⟩
    obtain ⟨l5, sub5, rfl⟩ := List.sublist_map_iff.mp sub13
    have p13l : p13 ≠ l := P12.ne np13
    have b713 := (b10.trans (.of s12)).trans b13
    have h5 : ∀ r ∈ l5, H13 r.1 = some (.tup [.int r.2.1, .str r.2.2]) ∧ r.1 ∉ [l] := fun r hr => by
      rcases List.mem_append.mp (sub3 r (perm4.mem_iff.mp (sub5.subset hr))) with e | e
      · exact ⟨b713.at1 (h3 r e).1 (fun x => (h3 r e).2 (List.mem_singleton.mpr x)), (h3 r e).2⟩
      · rw [List.mem_singleton.mp e]
        exact ⟨b13.at1 (s12 _ _ ht1) t1l, in1 t1l⟩
    have ok5 : ∀ r ∈ l5.map Prod.snd, nmOk c r := fun r hr => by
      obtain ⟨x, hx, rfl⟩ := List.mem_map.mp hr
      rcases List.mem_append.mp (sub3 x (perm4.mem_iff.mp (sub5.subset hx))) with e | e
      · exact ok3 _ (List.mem_map.mpr ⟨x, e, rfl⟩)
      · rw [List.mem_singleton.mp e]
        exact ⟨v80, v81, mem⟩
    have up5 : (l5.map Prod.snd).Pairwise (fun p q => nmLt p q = true) := List.pairwise_map.mpr (pw4.sublist sub5)
    have len5 : l5.length ≤ 4 := by
      rw [List.length_map] at ly
      omega
    clear sub13 ly sub5 l4len P12 s12 s11 pw4 perm4 len4 l460 np4 nd3 sub3 all3 ln3 na3 nz nq ht1 hp210 P10 b10 np13 b13
    have hp213 := b713.at1 hp27 p2l
    have hwa13 := b713.at1 hwa6 wal
    have hp013 := b713.at1 hp6 pl
    have rwa13 := rwa6.mv b713
    have rg13 := rg7.mv b713
    have b13 := b57.trans b713
    clear b713 b57 h3 hp27 hwa6 hp6 rwa6 rg7 P7
    dsimp only [gName, List.set]
    -- the marks
    refine ⟨_, rfl, c, rfl, by omega, by omega, fun D nD => ?_⟩
    have Dl := P13.ne nD
    refine lc_range (lo := 0) (n := c.toNat) (fun i H' => But [l] H13 H' ∧ Pool (m + 98 + i) l H' ∧ ∃ bs : List Bool, H' D = some (.lst (bs.map V.bl)) ∧ bs.length = i) ?_ ?_ ?_
    · exact ⟨.new .refl nD, P13.new nD, [], upd_same, rfl⟩
    · rintro i H' hi ⟨b14, P14, bs, hD, lb⟩
      refine ⟨rfl, ?_⟩
      refine ⟨_, rfl, l, m + 98 + i, 2, rfl, P14, by omega, by decide, by decide, fun H6 u b6 s6 u0 u1 => ⟨rfl, ?_⟩⟩
      have hD6 := b6.at1 hD Dl
      exact ⟨_, hD6, by rw [List.length_map, lb, sizeLine_eq]; omega, (b14.trans b6).own nD, (s6.away Dl).le (by omega), bs ++ [decide (V.int u = V.int 1)], by rw [upd_same, List.map_append]; rfl, by rw [List.length_append, lb]; rfl⟩
    rintro H14 ⟨b14, P14, bs, hD, lb⟩
    refine ⟨D, _, rfl, .inl ⟨SqL.of hD, fun mk nm => ?_⟩⟩
    have mkl := P14.ne nm
    dsimp only [gName, List.set]
    refine at_heap (fun H15 => But [l] H13 H15 ∧ Pool (m + 102) l H15 ∧ H15 mk = some (.tup (bs.map V.bl))) ⟨b14.new nm, (P14.new nm).le (by omega), upd_same⟩ ?_
    clear hD nD b14 P14 nm Dl
    rintro H15 ⟨b15, P15, hmk⟩
    have hp215 := b15.at1 hp213 p2l
    have hwa15 := b15.at1 hwa13 wal
    have hp015 := b15.at1 hp013 pl
    have hp15 := b15.at1 hp13 p13l
    have rwa15 := rwa13.mv b15
    have rg15 := rg13.mv b15
    have h515 : ∀ r ∈ l5, H15 r.1 = some (.tup [.int r.2.1, .str r.2.2]) ∧ r.1 ∉ [l] := fun r hr => ⟨b15.at1 (h5 r hr).1 (fun x => (h5 r hr).2 (List.mem_singleton.mpr x)), (h5 r hr).2⟩
    have bb := b13.trans b15
    clear b13 b15 hp213 hwa13 hp013 hp13 rwa13 rg13 h5 P13
    -- the parts
    refine ⟨Nat.zero_le _, fun pt npt => ?_⟩
    have ptl := P15.ne npt
    have ptp2 : p2 ≠ pt := ne_of_none hp215 npt
    have ptwa : wa ≠ pt := ne_of_none hwa15 npt
    have s16 : Same H15 (upd H15 pt (.lst [])) := same_new npt
    have in2 : ∀ {x : Addr}, x ≠ pt → x ≠ l → x ∉ [pt, l] := fun n1 n2 z => (List.mem_cons.mp z).elim n1 (fun z => n2 (List.mem_singleton.mp z))
    have rg16 : Reps [pt, l] (upd H15 pt (.lst [])) (l3.map fun q => V.ref q.1) ((l3.map Prod.snd).map nmD) := (Reps.more npt _ _ rg15).sm s16
    have rwa16 : Reps [pt, l] (upd H15 pt (.lst [])) wvs (ws.map wdsD) := (Reps.more npt _ _ rwa15).sm s16
    have P16 : Pool (m + 102) l (upd H15 pt (.lst [])) := P15.new npt
    have nptH : H pt = none := by
      cases e : H pt with
      | none => rfl
      | some o => rw [bb.at1 e ptl] at npt; exact nomatch npt
    dsimp only [gName, List.set]
    refine at_heap (fun H16 => Same H15 H16 ∧ H16 pt = some (.lst []) ∧ Pool (m + 102) l H16 ∧ Reps [pt, l] H16 (l3.map fun q => V.ref q.1) ((l3.map Prod.snd).map nmD) ∧ Reps [pt, l] H16 wvs (ws.map wdsD)) ⟨s16, upd_same, P16, rg16, rwa16⟩ ?_
    clear s16 P16 rg16 rwa16 rg15 rwa15
    rintro H16 ⟨s16, hpt16, P16, rg16, rwa16⟩
    refine ⟨_, rfl, wa, rfl, ⟨_, SqL.of (s16 _ _ hwa15)⟩, for_list (K := K) (a := wa) (xs := wvs) (fun i σ H' => ∃ (tvs : List V) (prs : List (List Row)) (o15 : Option V), σ = [some (.ref l), some (.int mp), some (.int R), some (.int O), some (.int me), some (.int mo), some (.int c), some (.ref p), some (.ref wa), some (.ref p2), o10, some (.ref t1), some (.ref p13), some (.ref mk), some (.ref pt), o15, none, none] ∧
      But [pt, l] H16 H' ∧ Pool (m + 102 + 60 * i) l H' ∧ H' pt = some (.lst tvs) ∧ Reps [pt, l] H' tvs (prs.map rowsD) ∧ prs.map (List.map Row.word) = (ws.take i).map (List.map Prod.fst) ∧ ∀ rs ∈ prs, ∀ r ∈ rs, r.ok c) ?_ (fun i σ H' _ q => ?_) ?_ ?_⟩
    · exact ⟨[], [], _, rfl, .refl, P16, hpt16, .nil, rfl, fun _ z => (nomatch z)⟩
    · obtain ⟨_, _, _, _, b17, _⟩ := q
      exact SqL.of (b17 _ _ (in2 ptwa wal) (s16 _ _ hwa15))
    · rintro i y σ H' hi ⟨tvs, prs, o15, rfl, b17, P17, hpt, rpt, pw, pok⟩
      have il : i < ws.length := by
        have := (List.getElem?_eq_some_iff.mp hi).1
        omega
      obtain ⟨d, hd, ry⟩ := (rwa16.mv b17).get hi
      rw [List.getElem?_map] at hd
      obtain ⟨xs, hxs, rfl⟩ := Option.map_eq_some_iff.mp hd
      have xm := List.mem_of_getElem? hxs
      have five := wok.five xs xm
      obtain ⟨la, lvs, rfl, hla, lan, rla⟩ := ry.lstV
      have lal : la ≠ l := fun z => lan (List.mem_cons_of_mem _ (List.mem_singleton.mpr z))
      have lapt : la ≠ pt := fun z => lan (by rw [z]; exact List.mem_cons_self)
      have lx : lvs.length = xs.length := by rw [rla.length, List.length_map]
      refine ⟨_, rfl, .inl ⟨rfl, _, SqL.of hpt⟩, _, rfl, la, rfl, ⟨_, SqL.of hla⟩, fun D nD => ?_⟩
      have Dl := P17.ne nD
      refine lc_list (K := K) (a := la) (xs := lvs) (fun j H'' => But [l] H' H'' ∧ Pool (m + 102 + 60 * i + 12 * j) l H'' ∧ ∃ (acc : List V) (rs : List Row), H'' D = some (.lst acc) ∧ Reps [D, l] H'' acc (rs.map Row.d) ∧ rs.map Row.word = (xs.take j).map Prod.fst ∧ ∀ r ∈ rs, r.ok c) ?_ (fun j H'' _ q => SqL.of (q.1.at1 hla lal)) ?_ ?_
      · exact ⟨.new .refl nD, P17.new nD, [], [], upd_same, .nil, rfl, fun _ z => (nomatch z)⟩
      · rintro j y H'' hj ⟨b18, P18, acc, rs, hD, ra, rw_, ro⟩
        obtain ⟨d2, hd2, rz⟩ := (rla.mv (b18.mono fun x z => List.mem_cons_of_mem _ z)).get hj
        rw [List.getElem?_map] at hd2
        obtain ⟨q, hq, rfl⟩ := Option.map_eq_some_iff.mp hd2
        obtain ⟨t, q1, q2, rfl, ht, r1, r2⟩ := rz.two
        obtain rfl := r1.strV
        obtain rfl := r2.strV
        have qw := wok.ok xs xm q (List.mem_of_getElem? hq)
        have jl : j < xs.length := (List.getElem?_eq_some_iff.mp hq).1
        have i4 : i < 4 := by omega
        have b1618 : But [pt, l] H16 H'' := b17.trans (b18.mono fun x z => List.mem_cons_of_mem _ z)
        refine ⟨t, _, rfl, SqT.of ht, rfl, _, _, rfl, _, _, rfl, rfl, rfl, ?_⟩
        refine ⟨_, rfl, _, rfl, _, rfl, _, rfl, _, rfl, l, p2, m + 102 + 60 * i + 12 * j, q.1, q.2, c, l3.map (fun q => V.ref q.1), l3.map Prod.snd, rfl, qw.1, qw.2, P18, by omega, b1618 _ _ (in2 ptp2 p2l) (s16 _ _ hp215), p2l, (rg16.mv b1618).less (fun a z => List.mem_cons_of_mem _ z), ok3, by rw [List.length_map]; omega, c0, c4, fun H19 v r b19 P19 rv rok rwd => ?_⟩
        have hD19 := b19.at1 hD Dl
        have lr : rs.length ≤ 5 := by
          have e := congrArg List.length rw_
          rw [List.length_map, List.length_map, List.length_take] at e
          omega
        have lq : acc.length = rs.length := by rw [ra.length, List.length_map]
        have u19 : But [D, l] H19 (upd H19 D (.lst (acc ++ [v]))) := But.upd .refl List.mem_cons_self
        refine ⟨acc, hD19, by rw [lq, sizeLine_eq]; omega, (b18.trans b19).own nD, (P19.away Dl).le (by omega), acc ++ [v], rs ++ [r], upd_same, ?_, ?_, fun q hq => ?_⟩
        · rw [List.map_append]
          exact ((ra.mv (b19.mono fun x z => List.mem_cons_of_mem _ z)).app (.one (Rep.avoid hD19 _ _ (noLst_row r) rv))).mv u19
        · rw [List.map_append, rw_, List.take_succ, hq, List.map_append]
          show _ ++ [r.word] = _ ++ [q.1]
          rw [rwd]
        · rcases List.mem_append.mp hq with z | z
          · exact ro q z
          · rw [List.mem_singleton.mp z]
            exact rok
      · rintro H'' ⟨b18, P18, acc, rs, hD, ra, rw_, ro⟩
        rw [lx, List.take_length] at rw_
        have hpt5 := b18.at1 hpt ptl
        refine ⟨D, acc, rfl, .inl ⟨SqL.of hD, fun t nt => ?_⟩⟩
        have tpt : t ≠ pt := (ne_of_none hpt5 nt).symm
        have i4 : i < 4 := by omega
        have lt : tvs.length = i := by
          have e := congrArg List.length pw
          rw [List.length_map, List.length_map, List.length_take] at e
          have := rpt.length
          rw [List.length_map] at this
          omega
        refine ⟨pt, tvs, .ref t, rfl, rfl, (same_new nt) _ _ hpt5, by rw [lt, sizeLine_eq]; omega, ?_⟩
        have bu : But [pt, l] H' (upd (upd H'' t (.tup acc)) pt (.lst (tvs ++ [.ref t]))) := ((b18.mono fun x z => List.mem_cons_of_mem _ z).new nt).upd List.mem_cons_self
        refine ⟨tvs ++ [.ref t], prs ++ [rs], _, rfl, b17.trans bu, ((P18.new nt).away ptl).le (by omega), upd_same, ?_, ?_, fun rs' hrs => ?_⟩
        · rw [List.map_append]
          refine (rpt.mv bu).app (.one (.tup (by rw [upd_ne tpt]; exact upd_same) (in2 tpt (P18.ne nt)) ?_))
          have r1 : Reps [l] (upd H'' t (.tup acc)) acc (rs.map Row.d) := (ra.less fun a z => List.mem_cons_of_mem _ z).sm (same_new nt)
          exact (Reps.avoid ((same_new nt) _ _ hpt5) _ _ (noLst_rows rs) r1).mv (But.refl.upd List.mem_cons_self)
        · rw [List.map_append, pw, List.take_succ, hxs, List.map_append]
          show _ ++ [rs.map Row.word] = _ ++ [xs.map Prod.fst]
          rw [rw_]
        · rcases List.mem_append.mp hrs with z | z
          · exact pok rs' z
          · rw [List.mem_singleton.mp z]
            exact ro
    rintro σ H17 ⟨tvs, prs, o15, rfl, b17, P17, hpt, rpt, pw, pok⟩
    rw [lwv, List.take_length] at pw
    obtain ⟨pl0, p5, p12, pout⟩ := prog_shapeW pw wok
    have b1517 : But [pt, l] H15 H17 := (But.of s16).trans b17
    have at17 : ∀ {x : Addr} {o : HO}, H15 x = some o → x ≠ l → H17 x = some o := fun e n => b1517 _ _ (in2 (ne_of_none e npt) n) e
    have cl : c = (prs.length : Int) := by omega
    have reps17 : Reps [l] H17 tvs (prs.map rowsD) := rpt.less fun a z => List.mem_cons_of_mem _ z
    have h517 : ∀ r ∈ l5, H17 r.1 = some (.tup [.int r.2.1, .str r.2.2]) ∧ r.1 ∉ [l] := fun r hr => ⟨at17 (h515 r hr).1 (fun x => (h515 r hr).2 (List.mem_singleton.mpr x)), (h515 r hr).2⟩
    refine ⟨_, rfl, pt, tvs, rfl, .inl ⟨SqL.of hpt, fun tp ntp => ?_⟩⟩
    have s18 : Same H17 (upd H17 tp (.tup tvs)) := same_new ntp
    refine ⟨_, rfl, _, rfl, p, _, rfl, .inl ⟨SqL.of (s18 _ _ (at17 hp015 pl)), fun te nte => ?_⟩⟩
    have s19 := s18.trans (same_new (o := .tup (es.map V.int)) nte)
    refine ⟨_, rfl, p13, _, rfl, .inl ⟨SqL.of (s19 _ _ (at17 hp15 p13l)), fun to nto => ⟨(by show 4 ≤ sizeLine; decide), fun tt ntt => ?_⟩⟩⟩
    have s20 := s19.trans (same_new (o := .tup (l5.map fun q => V.ref q.1)) nto)
    have s21 := s20.trans (same_new (o := .tup [.ref tp, .ref mk, .ref te, .ref to]) ntt)
    have s1821 : Same (upd H17 tp (.tup tvs)) _ := (same_new (o := .tup (es.map V.int)) nte).trans ((same_new (o := .tup (l5.map fun q => V.ref q.1)) nto).trans (same_new (o := .tup [.ref tp, .ref mk, .ref te, .ref to]) ntt))
    have s1921 : Same (upd (upd H17 tp (.tup tvs)) te (.tup (es.map V.int))) _ := (same_new (o := .tup (l5.map fun q => V.ref q.1)) nto).trans (same_new (o := .tup [.ref tp, .ref mk, .ref te, .ref to]) ntt)
    have bAll : But [l] H H17 := fun b o n e => by
      have z := bb b o n e
      exact at17 z (fun y => n (List.mem_singleton.mpr y))
    refine k _ _ ⟨prs, bs, es, l5.map Prod.snd⟩ (bAll.trans (.of s21)) ((P17.same s21).le (by omega)) (.tup upd_same (in1 ((P17.same s20).ne ntt)) (.cons (.tup (s1821 _ _ upd_same) (in1 (P17.ne ntp)) (reps17.sm s21)) (.cons (.tup (s21 _ _ (at17 hmk mkl)) (in1 mkl) (bls_rep bs)) (.cons (.tup (s1921 _ _ upd_same) (in1 ((P17.same s18).ne nte)) (ints_rep es)) (.cons (.tup ((same_new (o := .tup [.ref tp, .ref mk, .ref te, .ref to]) ntt) _ _ upd_same) (in1 ((P17.same s19).ne nto)) (keys_nms l5 fun r hr => ⟨s21 _ _ (h517 r hr).1, (h517 r hr).2⟩)) .nil))))) ?_ (by show (prs.length : Int) ≤ mp; omega) (with_show_rows pw gos)
    have pc : Prog.c ⟨prs, bs, es, l5.map Prod.snd⟩ = c := cl.symm
    refine ⟨by show 1 ≤ prs.length; omega, by show prs.length ≤ 4; omega, p5, p12, pout, fun rs hr r h => by rw [pc]; exact pok rs hr r h, by show bs.length = prs.length; omega, e1, e3, fun e he => by rw [pc]; exact eok e he, eup, by show (l5.map Prod.snd).length ≤ 4; rw [List.length_map]; exact len5, fun q hq => by rw [pc]; exact ok5 q hq, up5⟩
end
end Lb

set_option Elab.async false
set_option linter.all false
set_option maxRecDepth 100000
set_option maxHeartbeats 4000000

namespace Lb
open PySem PySem.Spec PyProof.Rows L2
section
variable {P : Program} {w : World} {K : PySem.W.Frag} {mg : Str → Option Value} {base : Heap} {A : Ad}
def sp_is_integer : Sp := fun vs H Q _ => ∃ (v : V) (S : List Addr) (d : PyData), vs = [v] ∧ Rep S H v d ∧ ∀ H', Same H H' → Q (.bl (intB d)) H'
theorem ok_is_integer (T : Txt K w mg A) : FnOk P w K mg base CX0 1 A.f_is_integer A.d_is_integer ["thing"] (sp_is_integer) := by
  refine T.F_is_integer.ok sc_is_integer (fun vs H Q E h => ?_) (fun cdv Ar outer s H vs Q E hr h => ?_)
  · obtain ⟨v, S, d, rfl, r, k⟩ := h
    rfl
  · obtain ⟨v, S, d, rfl, r, k⟩ := h
    refine ⟨_, PSs.nox ((pss_one (ps_ret (pe_and (pe_callB call_isiD (by rfl) T.zisinstance (by decide +kernel) (pa_cons (pv 0) (pa_cons (pe_bltn (v := .ty "int") (by rfl) T.zint (by decide +kernel) rfl) pa_nil))) (pe_one (pe_not (pe_callB call_isiD (by rfl) T.zisinstance (by decide +kernel) (pa_cons (pv 0) (pa_cons (pe_bltn (v := .ty "bool") (by rfl) T.zbool (by decide +kernel) rfl) pa_nil))))))))), ?_⟩
    rw [show start N_is_integer [v] = [some (v)] from rfl]
    refine ⟨_, rfl, _, "int", S, d, _, rfl, r, kit_int d, _, rfl, ?_⟩
    refine ite2 (fun c => ?_) (fun c => ?_)
    · refine ⟨_, rfl, _, "bool", S, d, _, rfl, r, kit_bool d, _, rfl, ?_⟩
      have e := k H (Same.refl _)
      rwa [show intB d = !isBl d by simp [intB, c]] at e
    · have e := k H (Same.refl _)
      rwa [show intB d = false by simp [intB, c]] at e
def sp_is_number : Sp := fun vs H Q _ => ∃ (v : V) (S : List Addr) (d : PyData) (n : Int), vs = [v, .int n] ∧ Rep S H v d ∧ ∀ H', Same H H' → Q (.bl (numB d n)) H'
theorem ok_is_number (T : Txt K w mg A) : FnOk P w K mg base CX0 2 A.f_is_number A.d_is_number ["thing", "many"] (sp_is_number) := by
  refine T.F_is_number.ok sc_is_number (fun vs H Q E h => ?_) (fun cdv Ar outer s H vs Q E hr h => ?_)
  · obtain ⟨v, S, d, n, rfl, r, k⟩ := h
    rfl
  · obtain ⟨v, S, d, n, rfl, r, k⟩ := h
    refine ⟨_, PSs.nox ((pss_one (ps_ret (pe_and (pe_call (ok_is_integer T) hr rfl T.m_is_integer T.F_is_integer.kp (b_is_integer T) .nil pass0 (pa_cons (pv 0) pa_nil)) (pe_one (pe_chain op_le op_lt pe_int (pv 0) (pv 1))))))), ?_⟩
    rw [show start N_is_number [v, .int n] = [some (v), some (.int n)] from rfl]
    refine ⟨_, rfl, v, S, d, rfl, r, fun H1 s1 => ⟨_, rfl, ?_⟩⟩
    refine ite2 (fun c => ?_) (fun c => ?_)
    · obtain ⟨i, rfl⟩ := int_of c
      obtain rfl := r.intV
      refine ⟨_, rfl, _, _, rfl, rfl, _, rfl, ?_⟩
      refine ite2 (fun c1 => ?_) (fun c1 => ?_)
      · refine ⟨_, rfl, _, _, rfl, rfl, ?_⟩
        have e := k H1 s1
        rwa [show numB (.int i) n = decide (i < n) by simp [numB, c, valI, of_decide_eq_true c1] <;> rfl] at e
      · have e := k H1 s1
        have c2 : ¬ 0 ≤ i := fun z => c1 (decide_eq_true z)
        rwa [show numB (.int i) n = false by simp [numB, c, valI, c2]] at e
    · have e := k H1 s1
      rwa [show numB d n = false by simp [numB, c]] at e
def sp_is_name : Sp := fun vs H Q _ => ∃ (v : V) (S : List Addr) (d : PyData), vs = [v] ∧ Rep S H v d ∧ ∀ H', Same H H' → Q (.bl (nameB d)) H'
theorem ok_is_name (T : Txt K w mg A) : FnOk P w K mg base CX0 1 A.f_is_name A.d_is_name ["thing"] (sp_is_name) := by
  refine T.F_is_name.ok sc_is_name (fun vs H Q E h => ?_) (fun cdv Ar outer s H vs Q E hr h => ?_)
  · obtain ⟨v, S, d, rfl, r, k⟩ := h
    rfl
  · obtain ⟨v, S, d, rfl, r, k⟩ := h
    refine ⟨_, PSs.nox ((pss_one (ps_ret (pe_and (pe_callB call_isiD (by rfl) T.zisinstance (by decide +kernel) (pa_cons (pv 0) (pa_cons (pe_bltn (v := .ty "str") (by rfl) T.zstr (by decide +kernel) rfl) pa_nil))) (pe_one (pe_cmpR op_in_seq (pv 0) (pe_glob (v := .ref A.o_NAMES) (by rfl) T.m_NAMES rfl) rfl)))))), ?_⟩
    rw [show start N_is_name [v] = [some (v)] from rfl]
    refine ⟨_, rfl, _, "str", S, d, _, rfl, r, kit_str d, _, rfl, ?_⟩
    refine ite2 (fun c => ?_) (fun c => ?_)
    · obtain ⟨x, rfl⟩ := str_of c
      obtain rfl := r.strV
      refine ⟨_, rfl, A.o_NAMES, _, rfl, .inr (T.t_NAMES H), rfl, rfl, ?_⟩
      have e := k H (Same.refl _)
      rw [show nameB (.str x) = inV (.str x) [V.str "a", V.str "b", V.str "c", V.str "d"] by rw [in_letters]; simp [nameB, isStr, strOf] <;> rfl] at e
      exact e
    · have e := k H (Same.refl _)
      rwa [show nameB d = false by simp [nameB, c]] at e
def sp_is_tuple : Sp := fun vs H Q _ => ∃ (v : V) (S : List Addr) (d : PyData) (lo hi : Int), vs = [v, .int lo, .int hi] ∧ Rep S H v d ∧ ∀ H', Same H H' → Q (.bl (tupB d lo hi)) H'
theorem ok_is_tuple (T : Txt K w mg A) : FnOk P w K mg base CX0 1 A.f_is_tuple A.d_is_tuple ["thing", "least", "most"] (sp_is_tuple) := by
  refine T.F_is_tuple.ok sc_is_tuple (fun vs H Q E h => ?_) (fun cdv Ar outer s H vs Q E hr h => ?_)
  · obtain ⟨v, S, d, lo, hi, rfl, r, k⟩ := h
    rfl
  · obtain ⟨v, S, d, lo, hi, rfl, r, k⟩ := h
    refine ⟨_, PSs.nox ((pss_one (ps_ret (pe_and (pe_callB call_isiD (by rfl) T.zisinstance (by decide +kernel) (pa_cons (pv 0) (pa_cons (pe_bltn (v := .ty "tuple") (by rfl) T.ztuple (by decide +kernel) rfl) pa_nil))) (pe_one (pe_chain op_le op_le (pv 1) (pe_callB call_len_seq (by rfl) T.zlen (by decide +kernel) (pa_cons (pv 0) pa_nil)) (pv 2))))))), ?_⟩
    rw [show start N_is_tuple [v, .int lo, .int hi] = [some (v), some (.int lo), some (.int hi)] from rfl]
    refine ⟨_, rfl, _, "tuple", S, d, _, rfl, r, kit_tup d, _, rfl, ?_⟩
    refine ite2 (fun c => ?_) (fun c => ?_)
    · obtain ⟨ds, rfl⟩ := tup_of c
      obtain ⟨a, xs, rfl, ha, _, rs⟩ := r.tupV
      refine ⟨_, rfl, _, rfl, a, xs, rfl, .inr (SqT.of ha), _, _, rfl, rfl, _, rfl, ?_⟩
      rw [rs.length]
      refine ite2 (fun c1 => ?_) (fun c1 => ?_)
      · refine ⟨_, rfl, _, _, rfl, rfl, ?_⟩
        have e := k H (Same.refl _)
        rwa [show tupB (.tuple ds) lo hi = decide ((ds.length : Int) ≤ hi) by simp [tupB, isTup, itemsD, of_decide_eq_true c1] <;> rfl] at e
      · have e := k H (Same.refl _)
        have c2 : ¬ lo ≤ (ds.length : Int) := fun z => c1 (decide_eq_true z)
        rwa [show tupB (.tuple ds) lo hi = false by simp [tupB, isTup, itemsD, c2]] at e
    · have e := k H (Same.refl _)
      rwa [show tupB d lo hi = false by simp [tupB, c]] at e
def sp_is_ascending : Sp := fun vs H Q _ => ∃ (v : V) (S : List Addr) (ds : List PyData), vs = [v] ∧ Rep S H v (.tuple ds) ∧ ds.length ≤ 1000 ∧ (∀ d ∈ ds, ∀ e ∈ ds, PySem.W.alike d e = true) ∧ (∀ d ∈ ds, d ≠ .none ∧ d.depth ≤ 64 ∧ noDict d = true) ∧ ∀ H', Same H H' → Q (.bl (ascB ds)) H'
theorem ok_is_ascending (T : Txt K w mg A) : FnOk P w K mg base CX0 1 A.f_is_ascending A.d_is_ascending ["things"] (sp_is_ascending) := by
  refine T.F_is_ascending.ok sc_is_ascending (fun vs H Q E h => ?_) (fun cdv Ar outer s H vs Q E hr h => ?_)
  · obtain ⟨v, S, ds, rfl, r, dl, al, nn, k⟩ := h
    rfl
  · obtain ⟨v, S, ds, rfl, r, dl, al, nn, k⟩ := h
    refine ⟨_, PSs.nox ((pss_one (ps_ret (pe_callB (cr_all rfl) (by rfl) T.zall (by decide +kernel) (pa_cons (pe_lc (own := [("low", 1), ("high", 2)]) (g := (gTup _ 2 (gCons (gName 1) (gCons (gName 2) gNil)))) (tt := tYes) rfl sc_is_ascending.nd (RZ.pi_zipA (by rfl) T.zzip (pa_cons (pv 0) (pa_cons (pe_slice sl_tupA (pv 0) (po_some pe_int) po_none) pa_nil))) (blkOk_by (N := N_is_ascending) (sc := defScope s_is_ascending) (by decide +kernel)) (fun _ _ _ _ _ => (pg_tup (by rfl) (pgs_cons (pg_name (i := 1) sc_is_ascending.nd rfl (Or.inl rfl)) (pgs_cons (pg_name (i := 2) sc_is_ascending.nd rfl (Or.inl rfl)) pgs_nil)))) (fun _ _ _ _ _ => pts_nil) (fun _ _ _ _ _ => (pe_cmpR (show OpR _ (compareOp .Lt) (rLtD K) from op_ltD hr.units) (pv 1) (pv 2) (nomark _)))) pa_nil))))), ?_⟩
    rw [show start N_is_ascending [v] = [some (v), none, none] from rfl]
    obtain ⟨a, xs, rfl, ha, na, rs⟩ := r.tupV
    have ln := rs.length
    have few : ∀ {H1 : Hp}, Same H H1 → H a = some (.tup xs) → xs.length - 1 < sizeLine := fun _ _ => by
      rw [ln, sizeLine_eq]
      omega
    refine ⟨_, rfl, _, rfl, _, rfl, a, xs, rfl, SqT.of ha, fun w => ?_, fun w b nb => ?_⟩
    · have e0 := whole_one w.1
      have ha2 : H a = some (.tup (xs.drop 1)) := by rw [ha, e0]; rfl
      refine ⟨a, a, xs, xs.drop 1, rfl, .inr ⟨SqT.of ((Same.refl H) _ _ ha), SqT.of ((Same.refl H) _ _ ha2), fun D nD => ?_⟩⟩
      refine lc_pure (walk_zipT (xs := xs) (ys := xs.drop 1) (n := xs.length - 1) (by rw [List.length_drop]; omega)) nD (fun i => V.bl (PySem.W.dataLt (ds.getD i .none) (ds.getD (i + 1) .none))) (few (Same.refl H) ha) (fun H' s' => ⟨SqT.of (s' _ _ ((Same.refl H) _ _ ha)), SqT.of (s' _ _ ((Same.refl H) _ _ ha2))⟩) ?_ ?_
      · rintro i x H' H'' F hi s' ⟨t, x1, x2, rfl, nt, rfl, h1, h2⟩ fin
        replace h1 : xs[i]? = some x1 := h1
        replace h2 : xs[1 + i]? = some x2 := by rw [← List.getElem?_drop]; exact h2
        obtain ⟨d1, e1, r1⟩ := rs.get h1
        obtain ⟨d2, e2, r2⟩ := rs.get h2
        have sA := (Same.refl H).trans (s'.trans (same_new (o := .tup [x1, x2]) nt))
        have m1 := List.mem_of_getElem? e1
        have m2 := List.mem_of_getElem? e2
        refine ⟨t, _, rfl, SqT.of upd_same, rfl, _, _, rfl, _, _, rfl, rfl, rfl, ?_⟩
        refine ⟨_, rfl, _, rfl, d1, d2, Rep.dp d1 x1 (nn d1 m1).2.2 (r1.sm sA), Rep.dp d2 x2 (nn d2 m2).2.2 (r2.sm sA), al d1 m1 d2 m2, (nn d1 m1).1, (nn d1 m1).2.1, ?_⟩
        have e := fin _ (same_new (o := .tup [x1, x2]) nt)
        rw [getD_of e1, Nat.add_comm i 1, getD_of e2] at e
        exact e
      · intro H' s' hD
        rw [bl_map] at hD
        refine ⟨D, _, rfl, SqL.of hD, ?_⟩
        have e := k H' ((Same.refl H).trans s')
        rw [asc_range, ← ln] at e
        exact e
    · rw [cut_one]
      have sb : Same H (upd H b (.tup (xs.drop 1))) := same_new nb
      refine ⟨a, b, xs, xs.drop 1, rfl, .inr ⟨SqT.of (sb _ _ ha), SqT.of (upd_same), fun D nD => ?_⟩⟩
      refine lc_pure (walk_zipT (xs := xs) (ys := xs.drop 1) (n := xs.length - 1) (by rw [List.length_drop]; omega)) nD (fun i => V.bl (PySem.W.dataLt (ds.getD i .none) (ds.getD (i + 1) .none))) (few sb ha) (fun H' s' => ⟨SqT.of (s' _ _ (sb _ _ ha)), SqT.of (s' _ _ (upd_same))⟩) ?_ ?_
      · rintro i x H' H'' F hi s' ⟨t, x1, x2, rfl, nt, rfl, h1, h2⟩ fin
        replace h1 : xs[i]? = some x1 := h1
        replace h2 : xs[1 + i]? = some x2 := by rw [← List.getElem?_drop]; exact h2
        obtain ⟨d1, e1, r1⟩ := rs.get h1
        obtain ⟨d2, e2, r2⟩ := rs.get h2
        have sA := (sb).trans (s'.trans (same_new (o := .tup [x1, x2]) nt))
        have m1 := List.mem_of_getElem? e1
        have m2 := List.mem_of_getElem? e2
        refine ⟨t, _, rfl, SqT.of upd_same, rfl, _, _, rfl, _, _, rfl, rfl, rfl, ?_⟩
        refine ⟨_, rfl, _, rfl, d1, d2, Rep.dp d1 x1 (nn d1 m1).2.2 (r1.sm sA), Rep.dp d2 x2 (nn d2 m2).2.2 (r2.sm sA), al d1 m1 d2 m2, (nn d1 m1).1, (nn d1 m1).2.1, ?_⟩
        have e := fin _ (same_new (o := .tup [x1, x2]) nt)
        rw [getD_of e1, Nat.add_comm i 1, getD_of e2] at e
        exact e
      · intro H' s' hD
        rw [bl_map] at hD
        refine ⟨D, _, rfl, SqL.of hD, ?_⟩
        have e := k H' ((sb).trans s')
        rw [asc_range, ← ln] at e
        exact e
def sp_is_need : Sp := fun vs H Q _ => ∃ (v : V) (S : List Addr) (d : PyData) (n : Int), vs = [v, .int n] ∧ Rep S H v d ∧ ∀ H', Same H H' → Q (.bl (needB d n)) H'
theorem ok_is_need (T : Txt K w mg A) : FnOk P w K mg base CX0 3 A.f_is_need A.d_is_need ["thing", "many_parts"] (sp_is_need) := by
  refine T.F_is_need.ok sc_is_need (fun vs H Q E h => ?_) (fun cdv Ar outer s H vs Q E hr h => ?_)
  · obtain ⟨v, S, d, n, rfl, r, k⟩ := h
    rfl
  · obtain ⟨v, S, d, n, rfl, r, k⟩ := h
    refine ⟨_, PSs.nox ((pss_one (ps_ret (pe_and (pe_call (ok_is_tuple T) (hr.mono (by decide)) rfl T.m_is_tuple T.F_is_tuple.kp (b_is_tuple T) .nil pass0 (pa_cons (pv 0) (pa_cons pe_int (pa_cons pe_int pa_nil)))) (pe_and (pe_call (ok_is_number T) hr rfl T.m_is_number T.F_is_number.kp (b_is_number T) .nil pass0 (pa_cons (pe_ix ix_tup (pv 0) pe_int (fun _ _ => rfl)) (pa_cons (pv 1) pa_nil))) (pe_one (pe_call (ok_is_name T) (hr.mono (by decide)) rfl T.m_is_name T.F_is_name.kp (b_is_name T) .nil pass0 (pa_cons (pe_ix ix_tup (pv 0) pe_int (fun _ _ => rfl)) pa_nil)))))))), ?_⟩
    rw [show start N_is_need [v, .int n] = [some (v), some (.int n)] from rfl]
    refine ⟨_, rfl, v, S, d, 2, 2, rfl, r, fun H1 s1 => ⟨_, rfl, ?_⟩⟩
    refine ite2 (fun c => ?_) (fun c => ?_)
    · obtain ⟨ds, rfl, h1, h2⟩ := tupB_len c
      obtain ⟨x, y, rfl⟩ := len2 h1 h2
      obtain ⟨a, p, q, rfl, ha, rp, rq⟩ := r.two
      refine ⟨_, rfl, a, _, 0, _, rfl, rfl, SqT.of (s1 _ _ ha), atI_nat (j := 0) rfl, _, rfl, p, S, x, n, rfl, rp.sm s1, fun H2 s2 => ⟨_, rfl, ?_⟩⟩
      refine ite2 (fun c2 => ?_) (fun c2 => ?_)
      · refine ⟨_, rfl, a, _, 1, _, rfl, rfl, SqT.of (s2 _ _ (s1 _ _ ha)), atI_nat (j := 1) rfl, q, S, y, rfl, rq.sm (s1.trans s2), fun H3 s3 => ?_⟩
        have e := k H3 (s1.trans (s2.trans s3))
        rwa [show needB (.tuple [x, y]) n = nameB y by simp [needB, c, nthD, itemsD, c2]] at e
      · have e := k H2 (s1.trans s2)
        rwa [show needB (.tuple [x, y]) n = false by simp [needB, c, nthD, itemsD, c2]] at e
    · have e := k H1 s1
      rwa [show needB d n = false by simp [needB, c]] at e
def sp_are_needs : Sp := fun vs H Q _ => ∃ (v : V) (S : List Addr) (d : PyData) (n m : Int), vs = [v, .int n, .int m] ∧ Rep S H v d ∧ m ≤ 100 ∧ ∀ H', Same H H' → Q (.bl (needsB d n m)) H'
theorem ok_are_needs (T : Txt K w mg A) : FnOk P w K mg base CX0 4 A.f_are_needs A.d_are_needs ["thing", "many_parts", "most"] (sp_are_needs) := by
  refine T.F_are_needs.ok sc_are_needs (fun vs H Q E h => ?_) (fun cdv Ar outer s H vs Q E hr h => ?_)
  · obtain ⟨v, S, d, n, m, rfl, r, m100, k⟩ := h
    rfl
  · obtain ⟨v, S, d, n, m, rfl, r, m100, k⟩ := h
    refine ⟨_, PSs.nox ((pss_one (ps_ret (pe_and (pe_call (ok_is_tuple T) (hr.mono (by decide)) rfl T.m_is_tuple T.F_is_tuple.kp (b_is_tuple T) .nil pass0 (pa_cons (pv 0) (pa_cons pe_int (pa_cons (pv 2) pa_nil)))) (pe_one (pe_callB (cr_all rfl) (by rfl) T.zall (by decide +kernel) (pa_cons (pe_lc (own := [("need", 3)]) (g := (gName 3)) (tt := tYes) rfl sc_are_needs.nd (pi_tup (pv 0)) (blkOk_by (N := N_are_needs) (sc := defScope s_are_needs) (by decide +kernel)) (fun _ _ _ _ _ => (pg_name (i := 3) sc_are_needs.nd rfl (Or.inl rfl))) (fun _ _ _ _ _ => pts_nil) (fun _ _ _ _ _ => (pe_call (ok_is_need T) hr rfl T.m_is_need T.F_is_need.kp (b_is_need T) .nil pass0 (pa_cons (pv 3) (pa_cons (pv 1) pa_nil))))) pa_nil))))))), ?_⟩
    rw [show start N_are_needs [v, .int n, .int m] = [some (v), some (.int n), some (.int m), none] from rfl]
    refine ⟨_, rfl, _, rfl, v, S, d, 0, m, rfl, r, fun H1 s1 => ⟨_, rfl, ?_⟩⟩
    refine ite2 (fun c => ?_) (fun c => ?_)
    · obtain ⟨ds, rfl, h1, h2⟩ := tupB_len c
      obtain ⟨a, xs, rfl, ha, _, rs⟩ := r.tupV
      refine ⟨_, rfl, a, rfl, ⟨_, SqT.of (s1 _ _ ha)⟩, fun D nD => ?_⟩
      refine lc_pure (walk_tup (xs := xs)) nD (fun i => V.bl ((fun z => needB z n) (ds.getD i .none))) (by rw [rs.length, sizeLine_eq]; omega) (fun H' s' => SqT.of (s' _ _ (s1 _ _ ha))) ?_ ?_
      · rintro i x H' H'' F hi s' ⟨rfl, hx⟩ fin
        obtain ⟨d1, e1, r0⟩ := rs.get hx
        have r1 := r0.sm (s1.trans s')
        refine ⟨rfl, ?_⟩
        rw [getD_of e1] at fin
        exact ⟨_, rfl, _, rfl, x, S, d1, n, rfl, r1, fun H3 s3 => fin H3 s3⟩
      · intro H' s' hD
        have e2 : (List.range xs.length).map (fun i => V.bl ((fun z => needB z n) (ds.getD i .none))) = ((List.range ds.length).map fun i => (fun z => needB z n) (ds.getD i .none)).map V.bl := by rw [rs.length, bl_map (fun i => (fun z => needB z n) (ds.getD i .none))]
        rw [e2] at hD
        refine ⟨D, _, rfl, SqL.of hD, ?_⟩
        rw [range_all (fun z => (fun z => needB z n) z)]
        have e := k H' (s1.trans s')
        rwa [show needsB (.tuple ds) n m = ds.all (fun z => needB z n) by simp [needsB, c, itemsD]] at e
    · have e := k H1 s1
      rwa [show needsB d n m = false by simp [needsB, c]] at e
def sp_starts_with_word : Sp := fun vs H Q _ => ∃ (v : V) (S : List Addr) (d : PyData), vs = [v] ∧ Rep S H v d ∧ ∀ H', Same H H' → Q (.bl (wordB d)) H'
theorem ok_starts_with_word (T : Txt K w mg A) : FnOk P w K mg base CX0 1 A.f_starts_with_word A.d_starts_with_word ["thing"] (sp_starts_with_word) := by
  refine T.F_starts_with_word.ok sc_starts_with_word (fun vs H Q E h => ?_) (fun cdv Ar outer s H vs Q E hr h => ?_)
  · obtain ⟨v, S, d, rfl, r, k⟩ := h
    rfl
  · obtain ⟨v, S, d, rfl, r, k⟩ := h
    refine ⟨_, PSs.nox ((pss_one (ps_ret (pe_and (pe_callB call_isiD (by rfl) T.zisinstance (by decide +kernel) (pa_cons (pv 0) (pa_cons (pe_bltn (v := .ty "tuple") (by rfl) T.ztuple (by decide +kernel) rfl) pa_nil))) (pe_and (pe_cmpR op_gt (pe_callB call_len_seq (by rfl) T.zlen (by decide +kernel) (pa_cons (pv 0) pa_nil)) pe_int (nomark _)) (pe_one (pe_callB call_isiD (by rfl) T.zisinstance (by decide +kernel) (pa_cons (pe_ix ix_tup (pv 0) pe_int (fun _ _ => rfl)) (pa_cons (pe_bltn (v := .ty "str") (by rfl) T.zstr (by decide +kernel) rfl) pa_nil))))))))), ?_⟩
    rw [show start N_starts_with_word [v] = [some (v)] from rfl]
    refine ⟨_, rfl, _, "tuple", S, d, _, rfl, r, kit_tup d, _, rfl, ?_⟩
    refine ite2 (fun c => ?_) (fun c => ?_)
    · obtain ⟨ds, rfl⟩ := tup_of c
      obtain ⟨a, xs, rfl, ha, _, rs⟩ := r.tupV
      refine ⟨_, rfl, a, xs, rfl, .inr (SqT.of ha), _, _, rfl, rfl, _, rfl, ?_⟩
      rw [rs.length]
      refine ite2 (fun c2 => ?_) (fun c2 => ?_)
      · have c3 : 0 < (ds.length : Int) := of_decide_eq_true c2
        obtain ⟨x, hx⟩ : ∃ x, xs[0]? = some x := ⟨_, List.getElem?_eq_getElem (by rw [rs.length]; omega)⟩
        obtain ⟨d1, e1, r1⟩ := rs.get hx
        refine ⟨_, rfl, a, xs, 0, x, rfl, rfl, SqT.of ha, atI_nat (j := 0) hx, _, "str", S, d1, _, rfl, r1, kit_str d1, ?_⟩
        have e := k H (Same.refl _)
        have z : nthD (.tuple ds) 0 = d1 := getD_of e1
        rwa [show wordB (.tuple ds) = isStr d1 by show (true && (decide (0 < (ds.length : Int)) && isStr (nthD (.tuple ds) 0))) = isStr d1; rw [c2, z]; rfl] at e
      · have e := k H (Same.refl _)
        have c3 : decide (0 < (ds.length : Int)) = false := Bool.eq_false_iff.mpr c2
        rwa [show wordB (.tuple ds) = false by show (true && (decide (0 < (ds.length : Int)) && isStr (nthD (.tuple ds) 0))) = false; rw [c3]; rfl] at e
    · have e := k H (Same.refl _)
      rwa [show wordB d = false by simp [wordB, c]] at e
def sp_is_give : Sp := fun vs H Q _ => ∃ (v : V) (S : List Addr) (d : PyData) (n : Int), vs = [v, .int n] ∧ Rep S H v d ∧ isTup d = true ∧ ∀ H', Same H H' → Q (.bl (giveB d n)) H'
theorem ok_is_give (T : Txt K w mg A) : FnOk P w K mg base CX0 5 A.f_is_give A.d_is_give ["row", "many_parts"] (sp_is_give) := by
  refine T.F_is_give.ok sc_is_give (fun vs H Q E h => ?_) (fun cdv Ar outer s H vs Q E hr h => ?_)
  · obtain ⟨v, S, d, n, rfl, r, td, k⟩ := h
    rfl
  · obtain ⟨v, S, d, n, rfl, r, td, k⟩ := h
    obtain ⟨t_MOST_NEEDS_OF_GIVE, c_MOST_NEEDS_OF_GIVE⟩ := T.i_MOST_NEEDS_OF_GIVE
    refine ⟨_, PSs.nox ((pss_cons (ps_if (PW.pt (pw_or (pt_cmpR op_ne (pe_callB call_len_seq (by rfl) T.zlen (by decide +kernel) (pa_cons (pv 0) pa_nil)) pe_int (nomark _)) (pw_or1 (pt_not (pt_val (pe_call (ok_is_name T) (hr.mono (by decide)) rfl T.m_is_name T.F_is_name.kp (b_is_name T) .nil pass0 (pa_cons (pe_ix ix_tup (pv 0) pe_int (fun _ _ => rfl)) pa_nil))))))) (pss_one (ps_ret pe_bl)) pss_nil)
 (pss_one (ps_ret (pe_and (pe_call (ok_are_needs T) hr rfl T.m_are_needs T.F_are_needs.kp (b_are_needs T) .nil pass0 (pa_cons (pe_ix ix_tup (pv 0) pe_int (fun _ _ => rfl)) (pa_cons (pv 1) (pa_cons (pe_glob (v := .int (1)) (by rfl) c_MOST_NEEDS_OF_GIVE ⟨_, rfl⟩) pa_nil)))) (pe_one (pe_callB call_isiD (by rfl) T.zisinstance (by decide +kernel) (pa_cons (pe_ix ix_tup (pv 0) pe_int (fun _ _ => rfl)) (pa_cons (pe_bltn (v := .ty "bool") (by rfl) T.zbool (by decide +kernel) rfl) pa_nil))))))))), ?_⟩
    rw [show start N_is_give [v, .int n] = [some (v), some (.int n)] from rfl]
    obtain ⟨ds, rfl⟩ := tup_of td
    obtain ⟨a, xs, rfl, ha, _, rs⟩ := r.tupV
    refine ⟨_, rfl, a, _, rfl, .inr (SqT.of (ha)), rfl, _, rfl, ?_⟩
    rw [rs.length]
    have eq4 : (!decide (V.int (ds.length : Int) = V.int 4)) = !lenIs (.tuple ds) 4 := by
      unfold lenIs
      simp [itemsD] <;> rfl
    refine ite2 (fun c => iteT ?_) (fun c => ?_)
    · rw [eq4] at c
      have e := k H (Same.refl _)
      rwa [show giveB (.tuple ds) n = false by simp only [giveB]; rw [show lenIs (.tuple ds) 4 = false by simpa using c]; rfl] at e
    · rw [eq4] at c
      have c4 : lenIs (.tuple ds) 4 = true := by simpa using c
      obtain ⟨x, y, z, u, rfl⟩ := len4 (of_decide_eq_true c4)
      obtain ⟨a', p, q, s', t, e0, ha', rp, rq, rz, ru⟩ := r.four
      obtain rfl : a = a' := by injection e0
      rw [ha] at ha'
      obtain rfl : xs = [p, q, s', t] := by injection (Option.some.inj ha')
      refine ⟨_, rfl, a, _, 1, _, rfl, rfl, SqT.of (ha), atI_nat (j := 1) rfl, q, S, y, rfl, rq, fun H1 s1 => ⟨_, rfl, ?_⟩⟩
      refine ite2 (fun c1 => ?_) (fun c1 => ?_)
      · have e := k H1 s1
        rwa [show giveB (.tuple [x, y, z, u]) n = false by simp only [giveB, c4]; rw [show nameB (nthD (.tuple [x, y, z, u]) 1) = false from nbF c1]; rfl] at e
      · have c5 : nameB (nthD (.tuple [x, y, z, u]) 1) = true := nbT c1
        refine ⟨_, rfl, a, _, 2, _, rfl, rfl, SqT.of (s1 _ _ ha), atI_nat (j := 2) rfl, _, rfl, s', S, z, n, 1, rfl, rz.sm s1, by decide, fun H2 s2 => ⟨_, rfl, ?_⟩⟩
        refine ite2 (fun c6 => ?_) (fun c6 => ?_)
        · refine ⟨_, rfl, a, _, 3, _, rfl, rfl, SqT.of (s2 _ _ (s1 _ _ ha)), atI_nat (j := 3) rfl, _, "bool", S, u, _, rfl, ru.sm (s1.trans s2), kit_bool u, ?_⟩
          have e := k H2 (s1.trans s2)
          rwa [show giveB (.tuple [x, y, z, u]) n = isBl u by simp only [giveB, c4, c5]; rw [show needsB (nthD (.tuple [x, y, z, u]) 2) n 1 = true from c6]; rfl] at e
        · have e := k H2 (s1.trans s2)
          rwa [show giveB (.tuple [x, y, z, u]) n = false by simp only [giveB, c4, c5]; rw [show needsB (nthD (.tuple [x, y, z, u]) 2) n 1 = false from bF c6]; rfl] at e
def sp_is_late : Sp := fun vs H Q _ => ∃ (v : V) (S : List Addr) (d : PyData) (n : Int), vs = [v, .int n] ∧ Rep S H v d ∧ isTup d = true ∧ ∀ H', Same H H' → Q (.bl (lateB d n)) H'
theorem ok_is_late (T : Txt K w mg A) : FnOk P w K mg base CX0 5 A.f_is_late A.d_is_late ["row", "many_parts"] (sp_is_late) := by
  refine T.F_is_late.ok sc_is_late (fun vs H Q E h => ?_) (fun cdv Ar outer s H vs Q E hr h => ?_)
  · obtain ⟨v, S, d, n, rfl, r, td, k⟩ := h
    rfl
  · obtain ⟨v, S, d, n, rfl, r, td, k⟩ := h
    obtain ⟨t_MOST_NEEDS, c_MOST_NEEDS⟩ := T.i_MOST_NEEDS
    obtain ⟨t_NO_PART, c_NO_PART⟩ := T.i_NO_PART
    refine ⟨_, PSs.nox ((pss_cons (ps_if (PW.pt (pw_or (pt_cmpR op_ne (pe_callB call_len_seq (by rfl) T.zlen (by decide +kernel) (pa_cons (pv 0) pa_nil)) pe_int (nomark _)) (pw_or (pt_not (pt_val (pe_call (ok_is_name T) (hr.mono (by decide)) rfl T.m_is_name T.F_is_name.kp (b_is_name T) .nil pass0 (pa_cons (pe_ix ix_tup (pv 0) pe_int (fun _ _ => rfl)) pa_nil)))) (pw_or1 (pt_not (pt_val (pe_call (ok_is_integer T) (hr.mono (by decide)) rfl T.m_is_integer T.F_is_integer.kp (b_is_integer T) .nil pass0 (pa_cons (pe_ix ix_tup (pv 0) pe_int (fun _ _ => rfl)) pa_nil)))))))) (pss_one (ps_ret pe_bl)) pss_nil)
 (pss_one (ps_ret (pe_and (pe_or (pe_cmpR op_eq (pe_ix ix_tup (pv 0) pe_int (fun _ _ => rfl)) (pe_glob (v := .int (-1)) (by rfl) c_NO_PART ⟨_, rfl⟩) (nomark _)) (pe_one (pe_call (ok_is_number T) (hr.mono (by decide)) rfl T.m_is_number T.F_is_number.kp (b_is_number T) .nil pass0 (pa_cons (pe_ix ix_tup (pv 0) pe_int (fun _ _ => rfl)) (pa_cons (pv 1) pa_nil))))) (pe_one (pe_call (ok_are_needs T) hr rfl T.m_are_needs T.F_are_needs.kp (b_are_needs T) .nil pass0 (pa_cons (pe_ix ix_tup (pv 0) pe_int (fun _ _ => rfl)) (pa_cons (pv 1) (pa_cons (pe_glob (v := .int (2)) (by rfl) c_MOST_NEEDS ⟨_, rfl⟩) pa_nil)))))))))), ?_⟩
    rw [show start N_is_late [v, .int n] = [some (v), some (.int n)] from rfl]
    obtain ⟨ds, rfl⟩ := tup_of td
    obtain ⟨a, xs, rfl, ha, _, rs⟩ := r.tupV
    refine ⟨_, rfl, a, _, rfl, .inr (SqT.of (ha)), rfl, _, rfl, ?_⟩
    rw [rs.length]
    have eq4 : (!decide (V.int (ds.length : Int) = V.int 4)) = !lenIs (.tuple ds) 4 := by
      unfold lenIs
      simp [itemsD] <;> rfl
    refine ite2 (fun c => iteT ?_) (fun c => ?_)
    · rw [eq4] at c
      have e := k H (Same.refl _)
      rwa [show lateB (.tuple ds) n = false by simp only [lateB]; rw [show lenIs (.tuple ds) 4 = false by simpa using c]; rfl] at e
    · rw [eq4] at c
      have c4 : lenIs (.tuple ds) 4 = true := by simpa using c
      obtain ⟨x, y, z, u, rfl⟩ := len4 (of_decide_eq_true c4)
      obtain ⟨a', p, q, s', t, e0, ha', rp, rq, rz, ru⟩ := r.four
      obtain rfl : a = a' := by injection e0
      rw [ha] at ha'
      obtain rfl : xs = [p, q, s', t] := by injection (Option.some.inj ha')
      refine ⟨_, rfl, a, _, 1, _, rfl, rfl, SqT.of (ha), atI_nat (j := 1) rfl, q, S, y, rfl, rq, fun H1 s1 => ⟨_, rfl, ?_⟩⟩
      refine ite2 (fun c1 => iteT ?_) (fun c1 => ?_)
      · have e := k H1 s1
        rwa [show lateB (.tuple [x, y, z, u]) n = false by simp only [lateB, c4]; rw [show nameB (nthD (.tuple [x, y, z, u]) 1) = false from nbF c1]; rfl] at e
      · have c5 : nameB (nthD (.tuple [x, y, z, u]) 1) = true := nbT c1
        refine ⟨_, rfl, a, _, 2, _, rfl, rfl, SqT.of (s1 _ _ ha), atI_nat (j := 2) rfl, s', S, z, rfl, rz.sm s1, fun H2 s2 => ⟨_, rfl, ?_⟩⟩
        have ha2 := s2 _ _ (s1 _ _ ha)
        refine ite2 (fun c6 => ?_) (fun c6 => ?_)
        · have e := k H2 (s1.trans s2)
          rwa [show lateB (.tuple [x, y, z, u]) n = false by simp only [lateB, c4, c5]; rw [show intB (nthD (.tuple [x, y, z, u]) 2) = false from nbF c6]; rfl] at e
        · have c7 : intB z = true := by simpa using c6
          obtain ⟨i, rfl⟩ := int_of c7
          obtain rfl := rz.intV
          have c8 : intB (nthD (.tuple [x, y, .int i, u]) 2) = true := c7
          have fin : ∀ (H3 : Hp), Same H H3 → numB (.int i) n = true ∨ i = -1 → tCall sp_are_needs [] E0 (tCons (tOp (rIxT K) (tVar 0) (tC (.int 3))) (tCons (tVar 1) (tCons (tC (.int 2)) tNil))) [some (.ref a), some (.int n)] H3 Q := by
            intro H3 s3 yes
            refine ⟨_, rfl, a, _, 3, _, rfl, rfl, SqT.of (s3 _ _ ha), atI_nat (j := 3) rfl, _, rfl, t, S, u, n, 2, rfl, ru.sm s3, by decide, fun H4 s4 => ?_⟩
            have e := k H4 (s3.trans s4)
            rwa [show lateB (.tuple [x, y, .int i, u]) n = needsB u n 2 by
              simp only [lateB, c4, c5, c8]
              rw [show (decide (valI (nthD (.tuple [x, y, .int i, u]) 2) = -1) || numB (nthD (.tuple [x, y, .int i, u]) 2) n) = true by
                rw [Bool.or_eq_true, decide_eq_true_eq]
                exact yes.symm]
              rfl] at e
          refine ⟨_, rfl, a, _, 2, _, rfl, rfl, SqT.of (ha2), atI_nat (j := 2) rfl, rfl, _, rfl, ?_⟩
          refine ite2 (fun c9 => ?_) (fun c9 => ?_)
          · exact ⟨_, rfl, fin H2 (s1.trans s2) (.inr (by simpa using c9))⟩
          · refine ⟨_, rfl, a, _, 2, _, rfl, rfl, SqT.of (ha2), atI_nat (j := 2) rfl, _, rfl, _, S, .int i, n, rfl, rz.sm (s1.trans s2), fun H3 s3 => ⟨_, rfl, ?_⟩⟩
            refine ite2 (fun c10 => fin H3 (s1.trans (s2.trans s3)) (.inl c10)) (fun c10 => ?_)
            have e := k H3 (s1.trans (s2.trans s3))
            rwa [show lateB (.tuple [x, y, .int i, u]) n = false by
              simp only [lateB, c4, c5, c8]
              rw [show (decide (valI (nthD (.tuple [x, y, .int i, u]) 2) = -1) || numB (nthD (.tuple [x, y, .int i, u]) 2) n) = false by
                rw [Bool.or_eq_false_iff]
                exact ⟨decide_eq_false fun z => c9 (decide_eq_true (congrArg V.int (show i = -1 from z))), Bool.eq_false_iff.mpr c10⟩]
              rfl] at e
def sp_is_row : Sp := fun vs H Q _ => ∃ (v : V) (S : List Addr) (d : PyData) (n : Int), vs = [v, .int n] ∧ Rep S H v d ∧ ∀ H', Same H H' → Q (.bl (rowB d n)) H'
theorem ok_is_row (T : Txt K w mg A) : FnOk P w K mg base CX0 6 A.f_is_row A.d_is_row ["thing", "many_parts"] (sp_is_row) := by
  refine T.F_is_row.ok sc_is_row (fun vs H Q E h => ?_) (fun cdv Ar outer s H vs Q E hr h => ?_)
  · obtain ⟨v, S, d, n, rfl, r, k⟩ := h
    rfl
  · obtain ⟨v, S, d, n, rfl, r, k⟩ := h
    obtain ⟨t_MOST_NEEDS, c_MOST_NEEDS⟩ := T.i_MOST_NEEDS
    refine ⟨_, PSs.nox ((pss_cons (ps_if (pt_not (pt_val (pe_call (ok_starts_with_word T) (hr.mono (by decide)) rfl T.m_starts_with_word T.F_starts_with_word.kp (b_starts_with_word T) .nil pass0 (pa_cons (pv 0) pa_nil)))) (pss_one (ps_ret pe_bl)) pss_nil)
 (pss_cons (ps_set (i := 2) sc_is_row.nd rfl (Or.inl rfl) (pe_ix ix_tup (pv 0) pe_int (fun _ _ => rfl)))
 (pss_cons (ps_if (pt_cmpR op_eq (pv 2) pe_str (nomark _)) (pss_one (ps_ret (pe_and (pe_cmpR op_eq (pe_callB call_len_seq (by rfl) T.zlen (by decide +kernel) (pa_cons (pv 0) pa_nil)) pe_int (nomark _)) (pe_one (pe_call (ok_is_number T) (hr.mono (by decide)) rfl T.m_is_number T.F_is_number.kp (b_is_number T) .nil pass0 (pa_cons (pe_ix ix_tup (pv 0) pe_int (fun _ _ => rfl)) (pa_cons (pv 1) pa_nil))))))) pss_nil)
 (pss_cons (ps_if (pt_cmpR op_eq (pv 2) pe_str (nomark _)) (pss_one (ps_ret (pe_call (ok_is_give T) hr rfl T.m_is_give T.F_is_give.kp (b_is_give T) .nil pass0 (pa_cons (pv 0) (pa_cons (pv 1) pa_nil))))) pss_nil)
 (pss_cons (ps_if (pt_cmpR op_eq (pv 2) pe_str (nomark _)) (pss_one (ps_ret (pe_and (pe_cmpR op_eq (pe_callB call_len_seq (by rfl) T.zlen (by decide +kernel) (pa_cons (pv 0) pa_nil)) pe_int (nomark _)) (pe_and (pe_call (ok_is_need T) (hr.mono (by decide)) rfl T.m_is_need T.F_is_need.kp (b_is_need T) .nil pass0 (pa_cons (pe_tup (pa_cons (pe_ix ix_tup (pv 0) pe_int (fun _ _ => rfl)) (pa_cons (pe_ix ix_tup (pv 0) pe_int (fun _ _ => rfl)) pa_nil))) (pa_cons (pv 1) pa_nil))) (pe_one (pe_call (ok_is_name T) (hr.mono (by decide)) rfl T.m_is_name T.F_is_name.kp (b_is_name T) .nil pass0 (pa_cons (pe_ix ix_tup (pv 0) pe_int (fun _ _ => rfl)) pa_nil))))))) pss_nil)
 (pss_cons (ps_if (pt_cmpR op_eq (pv 2) pe_str (nomark _)) (pss_one (ps_ret (pe_and (pe_cmpR op_eq (pe_callB call_len_seq (by rfl) T.zlen (by decide +kernel) (pa_cons (pv 0) pa_nil)) pe_int (nomark _)) (pe_and (pe_call (ok_are_needs T) (hr.mono (by decide)) rfl T.m_are_needs T.F_are_needs.kp (b_are_needs T) .nil pass0 (pa_cons (pe_ix ix_tup (pv 0) pe_int (fun _ _ => rfl)) (pa_cons (pv 1) (pa_cons (pe_glob (v := .int (2)) (by rfl) c_MOST_NEEDS ⟨_, rfl⟩) pa_nil)))) (pe_one (pe_callB call_isiD (by rfl) T.zisinstance (by decide +kernel) (pa_cons (pe_ix ix_tup (pv 0) pe_int (fun _ _ => rfl)) (pa_cons (pe_bltn (v := .ty "bool") (by rfl) T.zbool (by decide +kernel) rfl) pa_nil)))))))) pss_nil)
 (pss_cons (ps_if (pt_cmpR op_eq (pv 2) pe_str (nomark _)) (pss_one (ps_ret (pe_call (ok_is_late T) hr rfl T.m_is_late T.F_is_late.kp (b_is_late T) .nil pass0 (pa_cons (pv 0) (pa_cons (pv 1) pa_nil))))) pss_nil)
 (pss_one (ps_ret (pe_and (pe_cmpR op_eq (pv 2) pe_str (nomark _)) (pe_one (pe_cmpR op_eq (pe_callB call_len_seq (by rfl) T.zlen (by decide +kernel) (pa_cons (pv 0) pa_nil)) pe_int (nomark _)))))))))))))), ?_⟩
    rw [show start N_is_row [v, .int n] = [some (v), some (.int n), none] from rfl]
    refine ⟨_, rfl, v, S, d, rfl, r, fun H1 s1 => ?_⟩
    have k1 : ∀ b, rowB d n = b → ∀ H', Same H1 H' → Q (.bl b) H' := fun b e H' s' => by
      have z := k H' (s1.trans s')
      rwa [e] at z
    refine ⟨_, rfl, ?_⟩
    refine ite2 (fun c => ?_) (fun c => ?_)
    · exact k1 false (by simp only [rowB]; rw [nbF c]; rfl) H1 (.refl _)
    replace c := nbT c
    obtain ⟨ds, rfl⟩ : ∃ ds, d = .tuple ds := tup_of (by
      have z := c
      unfold wordB at z
      exact (Bool.and_eq_true_iff.mp z).1)
    obtain ⟨a, xs, rfl, ha, _, rs⟩ := r.tupV
    have ha1 := s1 _ _ ha
    have rs1 := rs.sm s1
    have cw : decide (0 < (ds.length : Int)) = true ∧ isStr (nthD (.tuple ds) 0) = true := by
      have z : (true && (decide (0 < (ds.length : Int)) && isStr (nthD (.tuple ds) 0))) = true := c
      simpa using z
    have pos := of_decide_eq_true cw.1
    obtain ⟨w0, hw0⟩ : ∃ x, xs[0]? = some x := ⟨_, List.getElem?_eq_getElem (by rw [rs.length]; omega)⟩
    obtain ⟨d0, e0, r0⟩ := rs1.get hw0
    have n0 : nthD (.tuple ds) 0 = d0 := getD_of e0
    rw [n0] at cw
    obtain ⟨wd, rfl⟩ := str_of cw.2
    obtain rfl := r0.strV
    have rw0 : ∀ b, (if wd = "load" then lenIs (.tuple ds) 2 && numB (nthD (.tuple ds) 1) n
       else if wd = "give" then giveB (.tuple ds) n
       else if wd = "pass" then lenIs (.tuple ds) 4 && ((numB (nthD (.tuple ds) 2) n && nameB (nthD (.tuple ds) 1)) && nameB (nthD (.tuple ds) 3))
       else if wd = "show" then lenIs (.tuple ds) 3 && (needsB (nthD (.tuple ds) 1) n 2 && isBl (nthD (.tuple ds) 2))
       else if wd = "late" then lateB (.tuple ds) n
       else decide (wd = "out") && lenIs (.tuple ds) 1) = b → ∀ H', Same H1 H' → Q (.bl b) H' := fun b e => k1 b (by
      unfold rowB
      rw [c, n0]
      exact e)
    clear k1 k
    refine ⟨_, rfl, a, xs, 0, _, rfl, rfl, SqT.of ha1, atI_nat (j := 0) hw0, ?_⟩
    dsimp only [List.set]
    have lenE : ∀ m : Int, decide (V.int (xs.length : Int) = V.int m) = lenIs (.tuple ds) m := fun m => by
      rw [rs.length]
      unfold lenIs
      simp [itemsD] <;> rfl
    -- load
    refine ⟨_, rfl, rfl, _, rfl, ?_⟩
    refine ite2 (fun q => ?_) (fun q => ?_)
    · replace q : wd = "load" := by simpa using q
      rw [if_pos q] at rw0
      refine ⟨_, rfl, a, _, rfl, .inr (SqT.of (ha1)), rfl, _, rfl, ?_⟩
      rw [lenE]
      refine ite2 (fun c2 => ?_) (fun c2 => rw0 false (by rw [bF c2]; rfl) H1 (.refl _))
      obtain ⟨x, y, rfl⟩ := len2' (of_decide_eq_true c2)
      obtain ⟨a', p0, p1, e1, ha', rp0, rp1⟩ := (Rep.tup ha1 ‹_› rs1 : Rep S H1 (.ref a) (.tuple [x, y])).two
      obtain rfl : a = a' := by injection e1
      rw [ha1] at ha'
      obtain rfl : xs = [p0, p1] := by injection (Option.some.inj ha')
      refine ⟨_, rfl, a, _, 1, _, rfl, rfl, SqT.of (ha1), atI_nat (j := 1) rfl, _, rfl, p1, S, y, n, rfl, rp1, fun H2 s2 => rw0 _ (by rw [c2]; rfl) H2 s2⟩
    rw [if_neg (by simpa using q)] at rw0
    -- give
    refine ⟨_, rfl, rfl, _, rfl, ?_⟩
    refine ite2 (fun q => ?_) (fun q => ?_)
    · replace q : wd = "give" := by simpa using q
      rw [if_pos q] at rw0
      exact ⟨_, rfl, _, rfl, .ref a, S, .tuple ds, n, rfl, r.sm s1, rfl, fun H2 s2 => rw0 _ rfl H2 s2⟩
    rw [if_neg (by simpa using q)] at rw0
    -- pass
    refine ⟨_, rfl, rfl, _, rfl, ?_⟩
    refine ite2 (fun q => ?_) (fun q => ?_)
    · replace q : wd = "pass" := by simpa using q
      rw [if_pos q] at rw0
      refine ⟨_, rfl, a, _, rfl, .inr (SqT.of (ha1)), rfl, _, rfl, ?_⟩
      rw [lenE]
      refine ite2 (fun c2 => ?_) (fun c2 => rw0 false (by rw [bF c2]; rfl) H1 (.refl _))
      obtain ⟨x, y, z, u, rfl⟩ := len4 (of_decide_eq_true c2)
      obtain ⟨a', p0, p1, p2, p3, e1, ha', rp0, rp1, rp2, rp3⟩ := (Rep.tup ha1 ‹_› rs1 : Rep S H1 (.ref a) (.tuple [x, y, z, u])).four
      obtain rfl : a = a' := by injection e1
      rw [ha1] at ha'
      obtain rfl : xs = [p0, p1, p2, p3] := by injection (Option.some.inj ha')
      refine ⟨_, rfl, a, _, 2, _, rfl, rfl, SqT.of (ha1), atI_nat (j := 2) rfl, _, rfl, a, _, 1, _, rfl, rfl, SqT.of (ha1), atI_nat (j := 1) rfl, (by show 2 ≤ sizeLine; decide), fun t nt => ?_⟩
      have st : Same H1 (upd H1 t (.tup [p2, p1])) := same_new nt
      have rt : Rep [] (upd H1 t (.tup [p2, p1])) (.ref t) (.tuple [z, y]) := .tup upd_same (fun m => nomatch m) (.cons (Rep.less (fun _ m => absurd m (List.not_mem_nil)) _ _ (rp2.sm st)) (.cons (Rep.less (fun _ m => absurd m (List.not_mem_nil)) _ _ (rp1.sm st)) .nil))
      refine ⟨_, rfl, .ref t, [], .tuple [z, y], n, rfl, rt, fun H2 s2 => ⟨_, rfl, ?_⟩⟩
      have nb : needB (.tuple [z, y]) n = (numB z n && nameB y) := rfl
      refine ite2 (fun c3 => ?_) (fun c3 => rw0 false (by rw [c2]; show (true && ((numB z n && nameB y) && nameB u)) = false; rw [← nb, bF c3]; rfl) H2 (st.trans s2))
      refine ⟨_, rfl, a, _, 3, _, rfl, rfl, SqT.of ((st.trans s2) _ _ ha1), atI_nat (j := 3) rfl, p3, S, u, rfl, rp3.sm (st.trans s2), fun H3 s3 => rw0 _ (by rw [c2]; show (true && ((numB z n && nameB y) && nameB u)) = _; rw [← nb, c3]; rfl) H3 (st.trans (s2.trans s3))⟩
    rw [if_neg (by simpa using q)] at rw0
    -- show
    refine ⟨_, rfl, rfl, _, rfl, ?_⟩
    refine ite2 (fun q => ?_) (fun q => ?_)
    · replace q : wd = "show" := by simpa using q
      rw [if_pos q] at rw0
      refine ⟨_, rfl, a, _, rfl, .inr (SqT.of (ha1)), rfl, _, rfl, ?_⟩
      rw [lenE]
      refine ite2 (fun c2 => ?_) (fun c2 => rw0 false (by rw [bF c2]; rfl) H1 (.refl _))
      obtain ⟨x, y, z, rfl⟩ := len3 (of_decide_eq_true c2)
      obtain ⟨a', p0, p1, p2, e1, ha', rp0, rp1, rp2⟩ := (Rep.tup ha1 ‹_› rs1 : Rep S H1 (.ref a) (.tuple [x, y, z])).three
      obtain rfl : a = a' := by injection e1
      rw [ha1] at ha'
      obtain rfl : xs = [p0, p1, p2] := by injection (Option.some.inj ha')
      refine ⟨_, rfl, a, _, 1, _, rfl, rfl, SqT.of (ha1), atI_nat (j := 1) rfl, _, rfl, p1, S, y, n, 2, rfl, rp1, by decide, fun H2 s2 => ⟨_, rfl, ?_⟩⟩
      refine ite2 (fun c3 => ?_) (fun c3 => rw0 false (by rw [c2]; show (true && (needsB y n 2 && isBl z)) = false; rw [bF c3]; rfl) H2 s2)
      refine ⟨_, rfl, a, _, 2, _, rfl, rfl, SqT.of (s2 _ _ ha1), atI_nat (j := 2) rfl, _, "bool", S, z, _, rfl, rp2.sm s2, kit_bool z, rw0 _ (by rw [c2]; show (true && (needsB y n 2 && isBl z)) = _; rw [c3]; rfl) H2 s2⟩
    rw [if_neg (by simpa using q)] at rw0
    -- late
    refine ⟨_, rfl, rfl, _, rfl, ?_⟩
    refine ite2 (fun q => ?_) (fun q => ?_)
    · replace q : wd = "late" := by simpa using q
      rw [if_pos q] at rw0
      exact ⟨_, rfl, _, rfl, .ref a, S, .tuple ds, n, rfl, r.sm s1, rfl, fun H2 s2 => rw0 _ rfl H2 s2⟩
    rw [if_neg (by simpa using q)] at rw0
    -- out
    refine ⟨_, rfl, rfl, _, rfl, ?_⟩
    refine ite2 (fun q => ?_) (fun q => ?_)
    · refine ⟨_, rfl, a, _, rfl, .inr (SqT.of (ha1)), rfl, ?_⟩
      rw [lenE]
      exact rw0 _ (by rw [show decide (wd = ("out" : Str)) = true by simpa using q]; rfl) H1 (.refl _)
    · exact rw0 false (by rw [show decide (wd = ("out" : Str)) = false by simpa using q]; rfl) H1 (.refl _)
def sp_are_parts : Sp := fun vs H Q _ => ∃ (v : V) (S : List Addr) (d : PyData), vs = [v] ∧ Rep S H v d ∧ ∀ H', Same H H' → Q (.bl (partsB d)) H'
theorem ok_are_parts (T : Txt K w mg A) : FnOk P w K mg base CX0 7 A.f_are_parts A.d_are_parts ["thing"] (sp_are_parts) := by
  refine T.F_are_parts.ok sc_are_parts (fun vs H Q E h => ?_) (fun cdv Ar outer s H vs Q E hr h => ?_)
  · obtain ⟨v, S, d, rfl, r, k⟩ := h
    rfl
  · obtain ⟨v, S, d, rfl, r, k⟩ := h
    obtain ⟨t_MOST_PARTS, c_MOST_PARTS⟩ := T.i_MOST_PARTS
    obtain ⟨t_MOST_ROWS_OF_PART, c_MOST_ROWS_OF_PART⟩ := T.i_MOST_ROWS_OF_PART
    obtain ⟨t_MOST_ROWS, c_MOST_ROWS⟩ := T.i_MOST_ROWS
    obtain ⟨t_MOST_OUTS, c_MOST_OUTS⟩ := T.i_MOST_OUTS
    refine ⟨_, PSs.nox ((pss_cons (ps_if (pt_not (pt_val (pe_call (ok_is_tuple T) (hr.mono (by decide)) rfl T.m_is_tuple T.F_is_tuple.kp (b_is_tuple T) .nil pass0 (pa_cons (pv 0) (pa_cons pe_int (pa_cons (pe_glob (v := .int (4)) (by rfl) c_MOST_PARTS ⟨_, rfl⟩) pa_nil)))))) (pss_one (ps_ret pe_bl)) pss_nil)
 (pss_cons (ps_if (pt_not (pt_val (pe_callB (cr_all rfl) (by rfl) T.zall (by decide +kernel) (pa_cons (pe_lc (own := [("part", 2)]) (g := (gName 2)) (tt := tYes) rfl sc_are_parts.nd (pi_tup (pv 0)) (blkOk_by (N := N_are_parts) (sc := defScope s_are_parts) (by decide +kernel)) (fun _ _ _ _ _ => (pg_name (i := 2) sc_are_parts.nd rfl (Or.inl rfl))) (fun _ _ _ _ _ => pts_nil) (fun _ _ _ _ _ => (pe_call (ok_is_tuple T) (hr.mono (by decide)) rfl T.m_is_tuple T.F_is_tuple.kp (b_is_tuple T) .nil pass0 (pa_cons (pv 2) (pa_cons pe_int (pa_cons (pe_glob (v := .int (5)) (by rfl) c_MOST_ROWS_OF_PART ⟨_, rfl⟩) pa_nil)))))) pa_nil)))) (pss_one (ps_ret pe_bl)) pss_nil)
 (pss_cons (ps_setLc2 (i := 1) (own := [("part", 2), ("row", 3)]) (vs1 := [3]) (g := (gName 2)) (tt := tYes) (g1 := (gName 3)) (tt1 := tYes) rfl sc_are_parts.nd rfl rfl (sw_true rfl rfl rfl (by decide +kernel)) (pi_tup (pv 0)) (blkOk_by (N := N_are_parts) (sc := defScope s_are_parts) (by decide +kernel)) (by decide) (fun _ _ _ _ _ => (pg_name (i := 2) sc_are_parts.nd rfl (Or.inl rfl))) (fun _ _ _ _ _ => pts_nil) (fun _ _ _ _ _ => (show PI _ _ _ (iTup K (tVar 2)) from pi_tup (pv 2))) (fun _ _ _ _ _ => (pg_name (i := 3) sc_are_parts.nd rfl (Or.inl rfl))) (fun _ _ _ _ _ => pts_nil) (fun _ _ _ _ _ => (pv 3)))
 (pss_cons (ps_if (PW.pt (pw_or (pt_cmpR op_gt (pe_callB call_len_seq (by rfl) T.zlen (by decide +kernel) (pa_cons (pv 1) pa_nil)) (pe_glob (v := .int (12)) (by rfl) c_MOST_ROWS ⟨_, rfl⟩) (nomark _)) (pw_or1 (pt_not (pt_val (pe_callB (cr_all rfl) (by rfl) T.zall (by decide +kernel) (pa_cons (pe_lc (own := [("row", 3)]) (g := (gName 3)) (tt := tYes) rfl sc_are_parts.nd (pi_list (pv 1)) (blkOk_by (N := N_are_parts) (sc := defScope s_are_parts) (by decide +kernel)) (fun _ _ _ _ _ => (pg_name (i := 3) sc_are_parts.nd rfl (Or.inl rfl))) (fun _ _ _ _ _ => pts_nil) (fun _ _ _ _ _ => (pe_call (ok_is_row T) hr rfl T.m_is_row T.F_is_row.kp (b_is_row T) .nil pass0 (pa_cons (pv 3) (pa_cons (pe_callB (show CallR _ _ (rLen2 K) from len_k) (by rfl) T.zlen (by decide +kernel) (pa_cons (pv 0) pa_nil)) pa_nil))))) pa_nil))))))) (pss_one (ps_ret pe_bl)) pss_nil)
 (pss_one (ps_ret (pe_cmpR op_le (pe_callB call_len_seq (by rfl) T.zlen (by decide +kernel) (pa_cons (pe_lc (own := [("row", 3)]) (g := (gName 3)) (tt := _) rfl sc_are_parts.nd (pi_list (pv 1)) (blkOk_by (N := N_are_parts) (sc := defScope s_are_parts) (by decide +kernel)) (fun _ _ _ _ _ => (pg_name (i := 3) sc_are_parts.nd rfl (Or.inl rfl))) (fun _ _ _ _ _ => (pts_one (pt_cmpR op_eq (pe_ix (show IxR _ (rIxT K) from ix_tup) (pv 3) pe_int (fun _ _ => rfl)) pe_str (nomark _)))) (fun _ _ _ _ _ => (pv 3))) pa_nil)) (pe_glob (v := .int (2)) (by rfl) c_MOST_OUTS ⟨_, rfl⟩) (nomark _))))))))), ?_⟩
    rw [show start N_are_parts [v] = [some (v), none, none, none] from rfl]
    refine ⟨_, rfl, v, S, d, 1, 4, rfl, r, fun H1 s1 => ⟨_, rfl, ?_⟩⟩
    refine ite2 (fun c => ?_) (fun c => ?_)
    · have e := k H1 s1
      rwa [show partsB d = false by unfold partsB; rw [nbF c]; rfl] at e
    replace c := nbT c
    obtain ⟨ps, rfl, p1, p4⟩ := tupB_len c
    obtain ⟨a, xs, rfl, ha, _, rs⟩ := r.tupV
    have dl : ps.length ≤ 1000 := by omega
    have H1' := s1
    
    refine ⟨_, rfl, a, rfl, ⟨_, SqT.of (s1 _ _ ha)⟩, fun D nD => ?_⟩
    refine lc_pure (walk_tup (xs := xs)) nD (fun i => V.bl ((fun z => tupB z 0 5) (ps.getD i .none))) (by rw [rs.length, sizeLine_eq]; omega) (fun H' s' => SqT.of (s' _ _ (s1 _ _ ha))) ?_ ?_
    · rintro i x H' H'' F hi s' ⟨rfl, hx⟩ fin
      obtain ⟨d1, e1, r0⟩ := rs.get hx
      have r1 := r0.sm (s1.trans s')
      refine ⟨rfl, ?_⟩
      rw [getD_of e1] at fin
      exact ⟨_, rfl, x, S, d1, 0, 5, rfl, r1, fun H3 s3 => fin H3 s3⟩
    · intro H' s' hD
      have e2 : (List.range xs.length).map (fun i => V.bl ((fun z => tupB z 0 5) (ps.getD i .none))) = ((List.range ps.length).map fun i => (fun z => tupB z 0 5) (ps.getD i .none)).map V.bl := by rw [rs.length, bl_map (fun i => (fun z => tupB z 0 5) (ps.getD i .none))]
      rw [e2] at hD
      refine ⟨D, _, rfl, SqL.of hD, ?_⟩
      rw [range_all (fun z => (fun z => tupB z 0 5) z)]
    
      refine ⟨_, rfl, ?_⟩
      refine ite2 (fun c2 => ?_) (fun c2 => ?_)
      · have e := k H' (s1.trans s')
        rwa [show partsB (.tuple ps) = false by
          unfold partsB
          rw [c]
          show (true && (ps.all (fun p => tupB p 0 5) && _)) = false
          rw [nbF c2]
          rfl] at e
      replace c2 := nbT c2
      have all5 : ∀ p ∈ ps, ∃ rows, p = .tuple rows ∧ rows.length ≤ 5 := fun p hp => by
        obtain ⟨rows, e, _, h5⟩ := tupB_len (List.all_eq_true.mp c2 p hp)
        exact ⟨rows, e, by omega⟩
      have s2 := s1.trans s'
      clear hD e2 s' c2 nD
      -- rows
      refine ⟨_, rfl, a, rfl, ⟨_, SqT.of (s2 _ _ ha)⟩, fun R nR => ?_⟩
      have rsR : Reps (R :: S) H' xs ps := Reps.more nR _ _ (rs.sm s2)
      refine lc2_out (walk_tup (xs := xs)) (fun i H3 => Same H' H3 ∧ ∃ acc, H3 R = some (.lst acc) ∧ Reps (R :: S) H3 acc ((ps.take i).flatMap itemsD)) ⟨same_new nR, [], upd_same, .nil⟩ (fun i H3 _ p => SqT.of (p.1 _ _ (s2 _ _ ha))) ?_ ?_
      · rintro i x H3 H3' hi ⟨s3, acc, hR, rA⟩ ⟨rfl, hx⟩
        obtain ⟨p, hp, rp⟩ := rsR.get hx
        have pm := List.mem_of_getElem? hp
        obtain ⟨rows, rfl, l5⟩ := all5 p pm
        obtain ⟨b, ys, rfl, hb, _, rb⟩ := rp.tupV
        have ip : i < ps.length := (List.getElem?_eq_some_iff.mp hp).1
        have accl : acc.length ≤ 5 * i := by
          rw [rA.length, List.length_flatMap]
          have key : ∀ l : List PyData, (∀ p ∈ l, ∃ rows, p = .tuple rows ∧ rows.length ≤ 5) → (l.map fun p => (itemsD p).length).sum ≤ 5 * l.length := by
            intro l
            induction l with
            | nil => intro _; simp
            | cons q l ih =>
              intro h
              obtain ⟨rows, rfl, h5⟩ := h _ List.mem_cons_self
              have := ih fun p hp => h p (List.mem_cons_of_mem _ hp)
              rw [List.map_cons, List.sum_cons]
              show rows.length + (l.map fun p => (itemsD p).length).sum ≤ 5 * (l.length + 1)
              omega
          have := key (ps.take i) fun p hp => all5 p (List.mem_of_mem_take hp)
          rw [List.length_take] at this
          omega
        refine ⟨rfl, _, rfl, b, rfl, ⟨_, SqT.of (s3 _ _ hb)⟩, ?_⟩
        refine lc2_in (walk_tup (xs := ys)) (fun j H4 => Same H' H4 ∧ ∃ acc', H4 R = some (.lst acc') ∧ Reps (R :: S) H4 acc' ((ps.take i).flatMap itemsD ++ rows.take j)) ⟨s3, acc, hR, by rw [List.take_zero, List.append_nil]; exact rA⟩ (fun j H4 _ p => SqT.of (p.1 _ _ hb)) ?_ ?_
        · rintro j y H4 H4' hj ⟨s4, acc', hR4, rA4⟩ ⟨rfl, hy⟩
          obtain ⟨q, hq, rq⟩ := (rb.sm s4).get hy
          have lb := rb.length
          have l4 : acc'.length < sizeLine := by
            rw [rA4.length, List.length_append, ← rA.length, List.length_take, sizeLine_eq]
            omega
          have bu : But (R :: S) H4' (upd H4' R (.lst (acc' ++ [y]))) := But.refl.upd List.mem_cons_self
          refine ⟨rfl, y, rfl, acc', hR4, l4, ?_, acc' ++ [y], upd_same, ?_⟩
          · intro b' o e
            rw [upd_ne (ne_of_none e nR)]
            exact s4 _ _ e
          · rw [List.take_succ, hq, ← List.append_assoc]
            exact (rA4.app (.one rq)).mv bu
        · rintro H4 ⟨s4, acc', hR4, rA4⟩
          refine ⟨s4, acc', hR4, ?_⟩
          rw [rb.length, List.take_length] at rA4
          rw [List.take_succ, hp, List.flatMap_append]
          simpa [itemsD] using rA4
      · rintro H3 ⟨s3, acc, hR, rA⟩
        rw [rs.length, List.take_length] at rA
        have s23 := s2.trans s3
        have rA' : Reps S H3 acc (rowsOfD (.tuple ps)) := rA.less fun b z => List.mem_cons_of_mem _ z
        have pb : partsB (.tuple ps) = (decide (((rowsOfD (.tuple ps)).length : Int) ≤ 12) && ((rowsOfD (.tuple ps)).all (fun r => rowB r (ps.length : Int)) && decide ((((rowsOfD (.tuple ps)).filter fun r => decide (strOf (nthD r 0) = "out")).length : Int) ≤ 2))) := by
          unfold partsB
          rw [c]
          show (true && (ps.all (fun p => tupB p 0 5) && _)) = _
          rw [show ps.all (fun p => tupB p 0 5) = true from List.all_eq_true.mpr fun p hp => by
            obtain ⟨rows, rfl, h5⟩ := all5 p hp
            show (true && (decide (0 ≤ (rows.length : Int)) && decide ((rows.length : Int) ≤ 5))) = true
            rw [decide_eq_true (by omega), decide_eq_true (by omega)]
            rfl]
          rfl
        rw [pb] at k
        clear pb rA all5 c p1
        generalize rowsOfD (.tuple ps) = rows at rA' k
        refine ⟨_, rfl, R, acc, rfl, .inl (SqL.of hR), _, _, rfl, rfl, _, rfl, ?_⟩
        rw [rA'.length]
        refine ite2 (fun c => iteT ?_) (fun c => ?_)
        · have c12 : 12 < (rows.length : Int) := of_decide_eq_true c
          have e := k H3 s23
          rwa [show decide ((rows.length : Int) ≤ 12) = false from decide_eq_false (by omega)] at e
        have c12 : ¬ 12 < (rows.length : Int) := fun z => c (decide_eq_true z)
        rw [show decide ((rows.length : Int) ≤ 12) = true from decide_eq_true (by omega)] at k
        refine ⟨_, rfl, R, rfl, ⟨_, SqL.of hR⟩, fun D nD => ?_⟩
        refine lc_pure (walk_list (xs := acc)) nD (fun i => V.bl ((fun r => rowB r (ps.length : Int)) (rows.getD i .none))) (by rw [rA'.length, sizeLine_eq]; omega) (fun H4 s4 => SqL.of (s4 _ _ hR)) ?_ ?_
        · rintro i x H4 H4' F hi s4 ⟨rfl, hx⟩ fin
          obtain ⟨d1, e1, r1⟩ := rA'.get hx
          rw [getD_of e1] at fin
          refine ⟨rfl, _, rfl, _, rfl, a, xs, rfl, .inr (SqT.of (s4 _ _ (s23 _ _ ha))), ?_⟩
          rw [rs.length]
          exact ⟨x, S, d1, _, rfl, r1.sm s4, fun H5 s5 => fin H5 s5⟩
        · intro H4 s4 hD
          have e2 : (List.range acc.length).map (fun i => V.bl ((fun r => rowB r (ps.length : Int)) (rows.getD i .none))) = ((List.range rows.length).map fun i => (fun r => rowB r (ps.length : Int)) (rows.getD i .none)).map V.bl := by rw [rA'.length, bl_map (fun i => (fun r => rowB r (ps.length : Int)) (rows.getD i .none))]
          rw [e2] at hD
          refine ⟨D, _, rfl, SqL.of hD, ?_⟩
          rw [range_all (fun r => rowB r (ps.length : Int))]
          refine ⟨_, rfl, ?_⟩
          refine ite2 (fun c2 => ?_) (fun c2 => ?_)
          · have e := k H4 (s23.trans s4)
            rwa [show rows.all (fun r => rowB r (ps.length : Int)) = false from nbF c2] at e
          replace c2 := nbT c2
          rw [c2] at k
          clear hD e2 nD
          have hR4 := s4 _ _ hR
          have rA4 := rA'.sm s4
          have s24 := s23.trans s4
          refine ⟨_, rfl, R, rfl, ⟨_, SqL.of hR4⟩, fun D nD => ?_⟩
          refine lc_it (walk_list (xs := acc)) (fun i H5 => Same H4 H5 ∧ ∃ kept, H5 D = some (.lst kept) ∧ kept.length = ((rows.take i).filter fun r => decide (strOf (nthD r 0) = "out")).length) ⟨same_new nD, [], upd_same, rfl⟩ (fun i H5 _ p => SqL.of (p.1 _ _ hR4)) ?_ ?_
          · rintro i x H5 H5' hi ⟨s5, kept, hD5, kl⟩ ⟨rfl, hx⟩
            obtain ⟨d1, e1, r1⟩ := (rA4.sm s5).get hx
            have rb := List.all_eq_true.mp c2 d1 (List.mem_of_getElem? e1)
            have wb : wordB d1 = true := by
              unfold rowB at rb
              exact (Bool.and_eq_true_iff.mp rb).1
            unfold wordB at wb
            rw [Bool.and_eq_true, Bool.and_eq_true, decide_eq_true_eq] at wb
            obtain ⟨wt, wl, ws⟩ := wb
            obtain ⟨ws', rfl⟩ := tup_of wt
            obtain ⟨t, tv, rfl, ht, _, rt⟩ := r1.tupV
            have wl' : 0 < (ws'.length : Int) := wl
            obtain ⟨w0, hw0⟩ : ∃ x, tv[0]? = some x := ⟨_, List.getElem?_eq_getElem (by rw [rt.length]; omega)⟩
            obtain ⟨d0, e0, r0⟩ := rt.get hw0
            have n0 : nthD (.tuple ws') 0 = d0 := getD_of e0
            rw [n0] at ws
            obtain ⟨wd, rfl⟩ := str_of ws
            obtain rfl := r0.strV
            have tk : (rows.take (i + 1)).filter (fun r => decide (strOf (nthD r 0) = "out")) = (rows.take i).filter (fun r => decide (strOf (nthD r 0) = "out")) ++ (if wd = "out" then [.tuple ws'] else []) := by
              rw [List.take_succ, e1, List.filter_append]
              congr 1
              show List.filter _ [PyData.tuple ws'] = _
              by_cases q : wd = "out"
              · rw [if_pos q, List.filter_cons_of_pos (by show decide (strOf (nthD (.tuple ws') 0) = "out") = true; rw [n0]; exact decide_eq_true q), List.filter_nil]
              · rw [if_neg q, List.filter_cons_of_neg (by show ¬ decide (strOf (nthD (.tuple ws') 0) = "out") = true; rw [n0]; exact fun z => q (of_decide_eq_true z)), List.filter_nil]
            have kk_ : kept.length ≤ i := by
              rw [kl]
              refine Nat.le_trans (List.length_filter_le _ _) ?_
              rw [List.length_take]
              omega
            have il : i < rows.length := (List.getElem?_eq_some_iff.mp e1).1
            refine ⟨rfl, _, rfl, t, tv, 0, _, rfl, rfl, SqT.of ht, atI_nat (j := 0) hw0, rfl, _, rfl, ?_⟩
            refine ite2 (fun q => ?_) (fun q => ?_)
            · refine ⟨_, rfl, kept, hD5, by rw [sizeLine_eq]; omega, fun b o e => ?_, _, upd_same, ?_⟩
              · rw [upd_ne (ne_of_none e nD)]
                exact s5 _ _ e
              · rw [tk, if_pos (by simpa using q), List.length_append, List.length_append, kl]
                rfl
            · refine ⟨s5, kept, hD5, ?_⟩
              rw [tk, if_neg (by simpa using q), List.append_nil]
              exact kl
          · rintro H5 ⟨s5, kept, hD5, kl⟩
            rw [rA'.length, List.take_length] at kl
            refine ⟨D, kept, rfl, .inl (SqL.of hD5), _, _, rfl, rfl, ?_⟩
            rw [kl]
            exact k H5 (s24.trans s5)
def sp_are_marks : Sp := fun vs H Q _ => ∃ (v : V) (S : List Addr) (d : PyData) (n : Int), vs = [v, .int n] ∧ Rep S H v d ∧ n ≤ 100 ∧ ∀ H', Same H H' → Q (.bl (marksB d n)) H'
theorem ok_are_marks (T : Txt K w mg A) : FnOk P w K mg base CX0 2 A.f_are_marks A.d_are_marks ["thing", "many_parts"] (sp_are_marks) := by
  refine T.F_are_marks.ok sc_are_marks (fun vs H Q E h => ?_) (fun cdv Ar outer s H vs Q E hr h => ?_)
  · obtain ⟨v, S, d, n, rfl, r, m100, k⟩ := h
    rfl
  · obtain ⟨v, S, d, n, rfl, r, m100, k⟩ := h
    refine ⟨_, PSs.nox ((pss_one (ps_ret (pe_and (pe_call (ok_is_tuple T) hr rfl T.m_is_tuple T.F_is_tuple.kp (b_is_tuple T) .nil pass0 (pa_cons (pv 0) (pa_cons (pv 1) (pa_cons (pv 1) pa_nil)))) (pe_one (pe_callB (cr_all rfl) (by rfl) T.zall (by decide +kernel) (pa_cons (pe_lc (own := [("mark", 2)]) (g := (gName 2)) (tt := tYes) rfl sc_are_marks.nd (pi_tup (pv 0)) (blkOk_by (N := N_are_marks) (sc := defScope s_are_marks) (by decide +kernel)) (fun _ _ _ _ _ => (pg_name (i := 2) sc_are_marks.nd rfl (Or.inl rfl))) (fun _ _ _ _ _ => pts_nil) (fun _ _ _ _ _ => (pe_callB call_isiD (by rfl) T.zisinstance (by decide +kernel) (pa_cons (pv 2) (pa_cons (pe_bltn (v := .ty "bool") (by rfl) T.zbool (by decide +kernel) rfl) pa_nil))))) pa_nil))))))), ?_⟩
    rw [show start N_are_marks [v, .int n] = [some (v), some (.int n), none] from rfl]
    refine ⟨_, rfl, _, rfl, _, rfl, v, S, d, n, n, rfl, r, fun H1 s1 => ⟨_, rfl, ?_⟩⟩
    refine ite2 (fun c => ?_) (fun c => ?_)
    · obtain ⟨ds, rfl, h1, h2⟩ := tupB_len c
      obtain ⟨a, xs, rfl, ha, _, rs⟩ := r.tupV
      refine ⟨_, rfl, a, rfl, ⟨_, SqT.of (s1 _ _ ha)⟩, fun D nD => ?_⟩
      refine lc_pure (walk_tup (xs := xs)) nD (fun i => V.bl (isBl (ds.getD i .none))) (by rw [rs.length, sizeLine_eq]; omega) (fun H' s' => SqT.of (s' _ _ (s1 _ _ ha))) ?_ ?_
      · rintro i x H' H'' F hi s' ⟨rfl, hx⟩ fin
        obtain ⟨d1, e1, r0⟩ := rs.get hx
        have r1 := r0.sm (s1.trans s')
        refine ⟨rfl, ?_⟩
        rw [getD_of e1] at fin
        exact ⟨_, rfl, x, "bool", S, d1, _, rfl, r1, kit_bool d1, fin _ (.refl _)⟩
      · intro H' s' hD
        have e2 : (List.range xs.length).map (fun i => V.bl (isBl (ds.getD i .none))) = ((List.range ds.length).map fun i => isBl (ds.getD i .none)).map V.bl := by rw [rs.length, bl_map (fun i => isBl (ds.getD i .none))]
        rw [e2] at hD
        refine ⟨D, _, rfl, SqL.of hD, ?_⟩
        rw [range_all (fun z => isBl z)]
        have e := k H' (s1.trans s')
        rwa [show marksB (.tuple ds) n = ds.all (fun z => isBl z) by simp [marksB, c, itemsD]] at e
    · have e := k H1 s1
      rwa [show marksB d n = false by simp [marksB, c]] at e
def sp_are_entries : Sp := fun vs H Q _ => ∃ (v : V) (S : List Addr) (d : PyData) (n : Int), vs = [v, .int n] ∧ Rep S H v d ∧ ∀ H', Same H H' → Q (.bl (entriesB d n)) H'
theorem ok_are_entries (T : Txt K w mg A) : FnOk P w K mg base CX0 3 A.f_are_entries A.d_are_entries ["thing", "many_parts"] (sp_are_entries) := by
  refine T.F_are_entries.ok sc_are_entries (fun vs H Q E h => ?_) (fun cdv Ar outer s H vs Q E hr h => ?_)
  · obtain ⟨v, S, d, n, rfl, r, k⟩ := h
    rfl
  · obtain ⟨v, S, d, n, rfl, r, k⟩ := h
    obtain ⟨t_MOST_ENTRIES, c_MOST_ENTRIES⟩ := T.i_MOST_ENTRIES
    refine ⟨_, PSs.nox ((pss_cons (ps_if (PW.pt (pw_or (pt_not (pt_val (pe_call (ok_is_tuple T) (hr.mono (by decide)) rfl T.m_is_tuple T.F_is_tuple.kp (b_is_tuple T) .nil pass0 (pa_cons (pv 0) (pa_cons pe_int (pa_cons (pe_glob (v := .int (3)) (by rfl) c_MOST_ENTRIES ⟨_, rfl⟩) pa_nil)))))) (pw_or1 (pt_not (pt_val (pe_callB (cr_all rfl) (by rfl) T.zall (by decide +kernel) (pa_cons (pe_lc (own := [("part", 2)]) (g := (gName 2)) (tt := tYes) rfl sc_are_entries.nd (pi_tup (pv 0)) (blkOk_by (N := N_are_entries) (sc := defScope s_are_entries) (by decide +kernel)) (fun _ _ _ _ _ => (pg_name (i := 2) sc_are_entries.nd rfl (Or.inl rfl))) (fun _ _ _ _ _ => pts_nil) (fun _ _ _ _ _ => (pe_call (ok_is_number T) hr rfl T.m_is_number T.F_is_number.kp (b_is_number T) .nil pass0 (pa_cons (pv 2) (pa_cons (pv 1) pa_nil))))) pa_nil))))))) (pss_one (ps_ret pe_bl)) pss_nil)
 (pss_one (ps_ret (pe_call (ok_is_ascending T) (hr.mono (by decide)) rfl T.m_is_ascending T.F_is_ascending.kp (b_is_ascending T) .nil pass0 (pa_cons (pv 0) pa_nil)))))), ?_⟩
    rw [show start N_are_entries [v, .int n] = [some (v), some (.int n), none] from rfl]
    refine ⟨_, rfl, v, S, d, 1, 3, rfl, r, fun H1 s1 => ⟨_, rfl, ?_⟩⟩
    refine ite2 (fun c => iteT ?_) (fun c => ?_)
    · have e := k H1 s1
      rwa [show entriesB d n = false by unfold entriesB; rw [nbF c]; rfl] at e
    replace c := nbT c
    obtain ⟨ds, rfl, h1, h2⟩ := tupB_len c
    obtain ⟨a, xs, rfl, ha, _, rs⟩ := r.tupV
    
    refine ⟨_, rfl, a, rfl, ⟨_, SqT.of (s1 _ _ ha)⟩, fun D nD => ?_⟩
    refine lc_pure (walk_tup (xs := xs)) nD (fun i => V.bl ((fun z => numB z n) (ds.getD i .none))) (by rw [rs.length, sizeLine_eq]; omega) (fun H' s' => SqT.of (s' _ _ (s1 _ _ ha))) ?_ ?_
    · rintro i x H' H'' F hi s' ⟨rfl, hx⟩ fin
      obtain ⟨d1, e1, r0⟩ := rs.get hx
      have r1 := r0.sm (s1.trans s')
      refine ⟨rfl, ?_⟩
      rw [getD_of e1] at fin
      exact ⟨_, rfl, _, rfl, x, S, d1, n, rfl, r1, fun H3 s3 => fin H3 s3⟩
    · intro H' s' hD
      have e2 : (List.range xs.length).map (fun i => V.bl ((fun z => numB z n) (ds.getD i .none))) = ((List.range ds.length).map fun i => (fun z => numB z n) (ds.getD i .none)).map V.bl := by rw [rs.length, bl_map (fun i => (fun z => numB z n) (ds.getD i .none))]
      rw [e2] at hD
      refine ⟨D, _, rfl, SqL.of hD, ?_⟩
      rw [range_all (fun z => (fun z => numB z n) z)]
    
      refine ⟨_, rfl, ?_⟩
      refine ite2 (fun c2 => ?_) (fun c2 => ?_)
      · have e := k H' (s1.trans s')
        rwa [show entriesB (.tuple ds) n = false by
          unfold entriesB
          rw [c]
          show (true && (ds.all (fun x => numB x n) && _)) = false
          rw [nbF c2]
          rfl] at e
      replace c2 := nbT c2
      have allI : ∀ d ∈ ds, ∃ i, d = .int i := fun d hd => by
        have z := List.all_eq_true.mp c2 d hd
        exact int_of (Bool.and_eq_true_iff.mp z).1
      refine ⟨_, rfl, .ref a, S, ds, rfl, r.sm (s1.trans s'), by omega, fun d hd e he => ?_, fun d hd => ?_, fun H4 s4 => ?_⟩
      · obtain ⟨i, rfl⟩ := allI d hd
        obtain ⟨j, rfl⟩ := allI e he
        simp [PySem.W.alike]
      · obtain ⟨i, rfl⟩ := allI d hd
        exact ⟨(fun z => nomatch z), by simp [PyData.depth], rfl⟩
      · have e := k H4 (s1.trans (s'.trans s4))
        rwa [show entriesB (.tuple ds) n = ascB ds by
          unfold entriesB
          rw [c]
          show (true && (ds.all (fun x => numB x n) && _)) = _
          rw [c2]
          rfl] at e
def sp_are_opens : Sp := fun vs H Q _ => ∃ (v : V) (S : List Addr) (d : PyData) (n : Int), vs = [v, .int n] ∧ Rep S H v d ∧ ∀ H', Same H H' → Q (.bl (opensB d n)) H'
theorem ok_are_opens (T : Txt K w mg A) : FnOk P w K mg base CX0 5 A.f_are_opens A.d_are_opens ["thing", "many_parts"] (sp_are_opens) := by
  refine T.F_are_opens.ok sc_are_opens (fun vs H Q E h => ?_) (fun cdv Ar outer s H vs Q E hr h => ?_)
  · obtain ⟨v, S, d, n, rfl, r, k⟩ := h
    rfl
  · obtain ⟨v, S, d, n, rfl, r, k⟩ := h
    obtain ⟨t_MOST_OPENS, c_MOST_OPENS⟩ := T.i_MOST_OPENS
    refine ⟨_, PSs.nox ((pss_one (ps_ret (pe_and (pe_call (ok_are_needs T) hr rfl T.m_are_needs T.F_are_needs.kp (b_are_needs T) .nil pass0 (pa_cons (pv 0) (pa_cons (pv 1) (pa_cons (pe_glob (v := .int (4)) (by rfl) c_MOST_OPENS ⟨_, rfl⟩) pa_nil)))) (pe_one (pe_call (ok_is_ascending T) (hr.mono (by decide)) rfl T.m_is_ascending T.F_is_ascending.kp (b_is_ascending T) .nil pass0 (pa_cons (pv 0) pa_nil))))))), ?_⟩
    rw [show start N_are_opens [v, .int n] = [some (v), some (.int n)] from rfl]
    refine ⟨_, rfl, _, rfl, v, S, d, n, 4, rfl, r, by decide, fun H1 s1 => ⟨_, rfl, ?_⟩⟩
    refine ite2 (fun c => ?_) (fun c => ?_)
    · have cc := c
      unfold needsB at cc
      rw [Bool.and_eq_true] at cc
      obtain ⟨ds, rfl, h1, h2⟩ := tupB_len cc.1
      have nms : ∀ d ∈ ds, ∃ i x, d = .tuple [.int i, .str x] := fun d hd => by
        have z := List.all_eq_true.mp cc.2 d hd
        unfold needB at z
        rw [Bool.and_eq_true, Bool.and_eq_true] at z
        obtain ⟨es, rfl, l1, l2⟩ := tupB_len z.1
        obtain ⟨x, y, rfl⟩ := len2 l1 l2
        obtain ⟨i, hi⟩ := int_of (Bool.and_eq_true_iff.mp z.2.1).1
        obtain ⟨w, hw⟩ := str_of (Bool.and_eq_true_iff.mp z.2.2).1
        have ex : x = .int i := hi
        have ey : y = .str w := hw
        exact ⟨i, w, by rw [ex, ey]⟩
      refine ⟨_, rfl, v, S, ds, rfl, r.sm s1, by omega, fun d hd e he => ?_, fun d hd => ?_, fun H4 s4 => ?_⟩
      · obtain ⟨i, x, rfl⟩ := nms d hd
        obtain ⟨j, y, rfl⟩ := nms e he
        simp [PySem.W.alike, PySem.W.alikeAll]
      · obtain ⟨i, x, rfl⟩ := nms d hd
        exact ⟨(fun z => nomatch z), by simp [PyData.depth, PyData.depthAll], rfl⟩
      · have e := k H4 (s1.trans s4)
        rwa [show opensB (.tuple ds) n = ascB ds by
          unfold opensB
          rw [c]
          rfl] at e
    · have e := k H1 s1
      rwa [show opensB d n = false by unfold opensB; rw [bF c]; rfl] at e
def sp_is_program : Sp := fun vs H Q _ => ∃ (v : V) (S : List Addr) (d : PyData), vs = [v] ∧ Rep S H v d ∧ ∀ H', Same H H' → Q (.bl (progB d)) H'
theorem ok_is_program (T : Txt K w mg A) : FnOk P w K mg base CX0 8 A.f_is_program A.d_is_program ["thing"] (sp_is_program) := by
  refine T.F_is_program.ok sc_is_program (fun vs H Q E h => ?_) (fun cdv Ar outer s H vs Q E hr h => ?_)
  · obtain ⟨v, S, d, rfl, r, k⟩ := h
    rfl
  · obtain ⟨v, S, d, rfl, r, k⟩ := h
    refine ⟨_, PSs.nox ((pss_cons (ps_if (PW.pt (pw_or (pt_not (pt_val (pe_call (ok_is_tuple T) (hr.mono (by decide)) rfl T.m_is_tuple T.F_is_tuple.kp (b_is_tuple T) .nil pass0 (pa_cons (pv 0) (pa_cons pe_int (pa_cons pe_int pa_nil)))))) (pw_or1 (pt_not (pt_val (pe_call (ok_are_parts T) hr rfl T.m_are_parts T.F_are_parts.kp (b_are_parts T) .nil pass0 (pa_cons (pe_ix ix_tup (pv 0) pe_int (fun _ _ => rfl)) pa_nil))))))) (pss_one (ps_ret pe_bl)) pss_nil)
 (pss_cons (ps_set (i := 1) sc_is_program.nd rfl (Or.inl rfl) (pe_callB call_len_seq (by rfl) T.zlen (by decide +kernel) (pa_cons (pe_ix ix_tup (pv 0) pe_int (fun _ _ => rfl)) pa_nil)))
 (pss_one (ps_ret (pe_and (pe_call (ok_are_marks T) (hr.mono (by decide)) rfl T.m_are_marks T.F_are_marks.kp (b_are_marks T) .nil pass0 (pa_cons (pe_ix ix_tup (pv 0) pe_int (fun _ _ => rfl)) (pa_cons (pv 1) pa_nil))) (pe_and (pe_call (ok_are_entries T) (hr.mono (by decide)) rfl T.m_are_entries T.F_are_entries.kp (b_are_entries T) .nil pass0 (pa_cons (pe_ix ix_tup (pv 0) pe_int (fun _ _ => rfl)) (pa_cons (pv 1) pa_nil))) (pe_one (pe_call (ok_are_opens T) (hr.mono (by decide)) rfl T.m_are_opens T.F_are_opens.kp (b_are_opens T) .nil pass0 (pa_cons (pe_ix ix_tup (pv 0) pe_int (fun _ _ => rfl)) (pa_cons (pv 1) pa_nil))))))))))), ?_⟩
    rw [show start N_is_program [v] = [some (v), none] from rfl]
    refine ⟨_, rfl, v, S, d, 4, 4, rfl, r, fun H1 s1 => ⟨_, rfl, ?_⟩⟩
    refine ite2 (fun c => iteT ?_) (fun c => ?_)
    · have e := k H1 s1
      rwa [show progB d = false by unfold progB; rw [nbF c]; rfl] at e
    replace c := nbT c
    obtain ⟨ds, rfl, h1, h2⟩ := tupB_len c
    obtain ⟨x, y, z, u, rfl⟩ := len4 (by omega : (ds.length : Int) = 4)
    obtain ⟨a, p, q, s', t, rfl, ha, rp, rq, rz, ru⟩ := r.four
    have pb : progB (.tuple [x, y, z, u]) = (partsB x && (marksB y ((itemsD x).length : Int) && (entriesB z ((itemsD x).length : Int) && opensB u ((itemsD x).length : Int)))) := by
      unfold progB
      rw [c]
      rfl
    rw [pb] at k
    refine ⟨_, rfl, a, _, 0, _, rfl, rfl, SqT.of (s1 _ _ ha), atI_nat (j := 0) rfl, p, S, x, rfl, rp.sm s1, fun H2 s2 => ⟨_, rfl, ?_⟩⟩
    have s12 := s1.trans s2
    refine ite2 (fun c2 => ?_) (fun c2 => ?_)
    · have e := k H2 s12
      rwa [nbF c2] at e
    replace c2 := nbT c2
    rw [c2] at k
    have x4 : ∃ ps, x = .tuple ps ∧ ps.length ≤ 4 := by
      have z := c2
      unfold partsB at z
      rw [Bool.and_eq_true] at z
      obtain ⟨ps, e, _, h4⟩ := tupB_len z.1
      exact ⟨ps, e, by omega⟩
    obtain ⟨ps, rfl, l4⟩ := x4
    obtain ⟨b, xs, rfl, hb, _, rs⟩ := rp.tupV
    refine ⟨_, rfl, a, _, 0, _, rfl, rfl, SqT.of (s12 _ _ ha), atI_nat (j := 0) rfl, b, xs, rfl, .inr (SqT.of (s12 _ _ hb)), ?_⟩
    rw [rs.length]
    have e0 : ((itemsD (.tuple ps)).length : Int) = (ps.length : Int) := rfl
    rw [e0] at k
    refine ⟨_, rfl, a, _, 1, _, rfl, rfl, SqT.of (s12 _ _ ha), atI_nat (j := 1) rfl, _, rfl, q, S, y, _, rfl, rq.sm s12, by omega, fun H3 s3 => ⟨_, rfl, ?_⟩⟩
    have s13 := s12.trans s3
    refine ite2 (fun c3 => ?_) (fun c3 => ?_)
    · rw [c3] at k
      refine ⟨_, rfl, a, _, 2, _, rfl, rfl, SqT.of (s13 _ _ ha), atI_nat (j := 2) rfl, _, rfl, s', S, z, _, rfl, rz.sm s13, fun H4 s4 => ⟨_, rfl, ?_⟩⟩
      have s14 := s13.trans s4
      refine ite2 (fun c4 => ?_) (fun c4 => ?_)
      · rw [c4] at k
        refine ⟨_, rfl, a, _, 3, _, rfl, rfl, SqT.of (s14 _ _ ha), atI_nat (j := 3) rfl, _, rfl, t, S, u, _, rfl, ru.sm s14, fun H5 s5 => k H5 (s14.trans s5)⟩
      · have e := k H4 s14
        rwa [bF c4] at e
    · have e := k H3 s13
      rwa [bF c3] at e
def sp_demand_program : Sp := fun vs H Q _ => ∃ (v : V) (S : List Addr) (d : PyData), vs = [v] ∧ Rep S H v d ∧ progB d = true ∧ ∀ H', Same H H' → Q .non H'
theorem ok_demand_program (T : Txt K w mg A) : FnOk P w K mg base CX0 9 A.f_demand_program A.d_demand_program ["thing"] (sp_demand_program) := by
  refine T.F_demand_program.ok sc_demand_program (fun vs H Q E h => ?_) (fun cdv Ar outer s H vs Q E hr h => ?_)
  · obtain ⟨v, S, d, rfl, r, ok, k⟩ := h
    rfl
  · obtain ⟨v, S, d, rfl, r, ok, k⟩ := h
    refine ⟨_, PSs.nox ((pss_one (ps_if (pt_not (pt_val (pe_call (ok_is_program T) hr rfl T.m_is_program T.F_is_program.kp (b_is_program T) .nil pass0 (pa_cons (pv 0) pa_nil)))) (pss_one ps_never) pss_nil))), ?_⟩
    rw [show start N_demand_program [v] = [some (v)] from rfl]
    refine ⟨_, rfl, v, S, d, rfl, r, fun H1 s1 => ⟨_, rfl, ?_⟩⟩
    rw [ok]
    exact k H1 s1
def sp_doors_of : Sp := fun vs H Q _ => ∃ (v : V) (S : List Addr) (d : PyData), vs = [v] ∧ Rep S H v d ∧ progB d = true ∧ ∀ (H' : Hp) (p : Addr) (ns : List Int), Same H H' → H p = none → H' p = some (.lst (ns.map V.int)) → ns.Pairwise (· < ·) → (∀ k, k ∈ ns ↔ k ∈ doorsD d) → ns.length ≤ 15 → Q (.ref p) H'
theorem ok_doors_of (T : Txt K w mg A) : FnOk P w K mg base CX0 10 A.f_doors_of A.d_doors_of ["program"] (sp_doors_of) := by
  refine T.F_doors_of.ok sc_doors_of (fun vs H Q E h => ?_) (fun cdv Ar outer s H vs Q E hr h => ?_)
  · obtain ⟨v, S, d, rfl, r, ok, k⟩ := h
    rfl
  · obtain ⟨v, S, d, rfl, r, ok, k⟩ := h
    obtain ⟨t_NO_PART, c_NO_PART⟩ := T.i_NO_PART
    refine ⟨_, PSs.nox ((pss_cons (ps_expr (pe_call (ok_demand_program T) hr rfl T.m_demand_program T.F_demand_program.kp (b_demand_program T) .nil pass0 (pa_cons (pv 0) pa_nil)))
 (pss_cons (ps_setLc2 (i := 1) (own := [("rows", 2), ("row", 3)]) (vs1 := [3]) (g := (gName 2)) (tt := tYes) (g1 := (gName 3)) (tt1 := _) rfl sc_doors_of.nd rfl rfl (sw_true rfl rfl rfl (by decide +kernel)) (pi_tup (pe_ix ix_tup (pv 0) pe_int (fun _ _ => rfl))) (blkOk_by (N := N_doors_of) (sc := defScope s_doors_of) (by decide +kernel)) (by decide) (fun _ _ _ _ _ => (pg_name (i := 2) sc_doors_of.nd rfl (Or.inl rfl))) (fun _ _ _ _ _ => pts_nil) (fun _ _ _ _ _ => (show PI _ _ _ (iTup K (tVar 2)) from pi_tup (pv 2))) (fun _ _ _ _ _ => (pg_name (i := 3) sc_doors_of.nd rfl (Or.inl rfl))) (fun _ _ _ _ _ => (pts_one (PW.pt (pw_and (pt_cmpR op_eq (pe_ix (show IxR _ (rIxT K) from ix_tup) (pv 3) pe_int (fun _ _ => rfl)) pe_str (nomark _)) (pw_and1 (pt_cmpR op_ne (pe_ix (show IxR _ (rIxT K) from ix_tup) (pv 3) pe_int (fun _ _ => rfl)) (pe_glob (v := .int (-1)) (by rfl) c_NO_PART ⟨_, rfl⟩) (nomark _))))))) (fun _ _ _ _ _ => (pe_ix (show IxR _ (rIxT K) from ix_tup) (pv 3) pe_int (fun _ _ => rfl))))
 (pss_one (ps_ret (pe_callB (cr_sortedSet rfl) (by rfl) T.zsorted (by decide +kernel) (pa_cons (pe_callTy (cr_setI rfl) (by rfl) T.zset (by decide +kernel) (pa_cons (pe_op op_cat (pe_callTy call_list_of (by rfl) T.zlist (by decide +kernel) (pa_cons (pe_ix ix_tup (pv 0) pe_int (fun _ _ => rfl)) pa_nil)) (pv 1)) pa_nil)) pa_nil))))))), ?_⟩
    rw [show start N_doors_of [v] = [some (v), none, none, none] from rfl]
    refine ⟨_, rfl, v, S, d, rfl, r, ok, fun H1 s1 => ?_⟩
    obtain ⟨ps, m, es, o, rfl, F⟩ := prog_of ok
    obtain ⟨a, p, q, s', t, rfl, ha, rp, rq, rz, ru⟩ := r.four
    obtain ⟨b, xs, rfl, hb, _, rs⟩ := rp.tupV
    obtain ⟨ea, ys, rfl, hea, _, re⟩ := rz.tupV
    obtain rfl := re.asInts F.allI
    
    refine ⟨_, rfl, a, _, 0, _, rfl, rfl, SqT.of (s1 _ _ ha), atI_nat (j := 0) rfl, b, rfl, ⟨_, SqT.of (s1 _ _ hb)⟩, fun R nR => ?_⟩
    have rsR : Reps (R :: S) H1 xs ps := Reps.more nR _ _ (rs.sm s1)
    refine lc2_out (walk_tup (xs := xs)) (fun i H3 => Same H1 H3 ∧ H3 R = some (.lst (goV ((ps.take i).flatMap itemsD)))) ⟨same_new nR, upd_same⟩ (fun i H3 _ p => SqT.of (p.1 _ _ (s1 _ _ hb))) ?_ ?_
    · rintro i x H3 H3' hi ⟨s3, hR⟩ ⟨rfl, hx⟩
      obtain ⟨p1, hp, rp1⟩ := rsR.get hx
      obtain ⟨rows, rfl, l5⟩ := F.five p1 (List.mem_of_getElem? hp)
      obtain ⟨c, zs, rfl, hc, _, rb⟩ := rp1.tupV
      refine ⟨rfl, _, rfl, c, rfl, ⟨_, SqT.of (s3 _ _ hc)⟩, ?_⟩
      refine lc2_in (walk_tup (xs := zs)) (fun j H4 => Same H1 H4 ∧ H4 R = some (.lst (goV ((ps.take i).flatMap itemsD ++ rows.take j)))) ⟨s3, by rw [List.take_zero, List.append_nil]; exact hR⟩ (fun j H4 _ p => SqT.of (p.1 _ _ hc)) ?_ ?_
      · rintro j y H4 H4' hj ⟨s4, hR4⟩ ⟨rfl, hy⟩
        obtain ⟨q1, hq, rq1⟩ := (rb.sm s4).get hy
        obtain ⟨w, rest, rfl, sh⟩ := late_shape (F.rows q1 (flat_mem hp (List.mem_of_getElem? hq)))
        obtain ⟨ra, rv, rfl, hra, _, rr⟩ := rq1.tupV
        have few := flat_few (j := j) hp F.twelve
        have tk : (ps.take i).flatMap itemsD ++ rows.take (j + 1) = ((ps.take i).flatMap itemsD ++ rows.take j) ++ [.tuple (.str w :: rest)] := by rw [List.take_succ, hq, List.append_assoc]; rfl
        rw [tk]
        cases rr with
        | cons r0 rr =>
          obtain rfl := r0.strV
          refine ⟨rfl, _, rfl, ra, _, 0, _, rfl, rfl, SqT.of hra, atI_nat (j := 0) rfl, rfl, _, rfl, ?_⟩
          refine ite2 (fun c1 => ?_) (fun c1 => ?_)
          · have ew : w = "late" := by simpa using c1
            obtain ⟨nm, pt, ns, rfl, lo⟩ := sh ew
            cases rr with
            | cons r1 rr => cases rr with
              | cons r2 rr => cases rr with
                | cons r3 rr =>
                  cases rr
                  obtain rfl := r2.intV
                  refine ⟨_, rfl, ra, _, 2, _, rfl, rfl, SqT.of hra, atI_nat (j := 2) rfl, rfl, _, rfl, ?_⟩
                  have g0 : goB (.tuple [.str w, nm, .int pt, ns]) = !decide (pt = -1) := by
                    show (decide (w = "late") && !decide (pt = -1)) = _
                    rw [decide_eq_true ew, Bool.true_and]
                  refine ite2 (fun c2 => ?_) (fun c2 => ?_)
                  · have n1 : ¬ pt = -1 := by simpa using c2
                    rw [goV_yes (by rw [g0, decide_eq_false n1]; rfl)]
                    refine ⟨_, rfl, ra, _, 2, _, rfl, rfl, SqT.of hra, atI_nat (j := 2) rfl, _, hR4, by rw [goV_len, sizeLine_eq]; omega, fun b' o' e => ?_, upd_same⟩
                    rw [upd_ne (ne_of_none e nR)]
                    exact s4 _ _ e
                  · have n1 : pt = -1 := by simpa using c2
                    rw [goV_no (by rw [g0, decide_eq_true n1]; decide)]
                    exact ⟨s4, hR4⟩
          · have ew : ¬ w = "late" := by simpa using c1
            rw [goV_no (by
              show ¬ (decide (w = "late") && _) = true
              rw [decide_eq_false ew]
              exact fun z => nomatch z)]
            exact ⟨s4, hR4⟩
      · rintro H4 ⟨s4, hR4⟩
        refine ⟨s4, ?_⟩
        rw [rb.length, List.take_length] at hR4
        rw [flat_snoc hp]
        exact hR4
    · rintro H3 ⟨s3, hR⟩
      rw [rs.length, List.take_length] at hR
      have s13 := s1.trans s3
      have dg := doors_goV ps es m o
      have dl := doors_len m o F
      generalize doorsD (.tuple [.tuple ps, m, .tuple es, o]) = ds at k dg dl
      refine ⟨_, rfl, a, _, 2, _, rfl, rfl, SqT.of (s13 _ _ ha), atI_nat (j := 2) rfl, ea, _, rfl, .inr (SqT.of (s13 _ _ hea)), fun l nl => ?_⟩
      have lR := ne_of_none hR nl
      have e1 : (upd H3 l (.lst ((es.map valI).map V.int))) R = some (.lst (goV (ps.flatMap itemsD))) := by rw [upd_ne lR]; exact hR
      have ll := congrArg List.length dg
      rw [List.length_append, List.length_map] at ll
      refine ⟨_, rfl, l, R, _, _, rfl, rfl, upd_same, e1, by rw [sizeLine_eq]; omega, fun u nu => ?_⟩
      rw [← dg]
      refine ⟨u, ds, rfl, SqL.of upd_same, by omega, fun sa c nsa cle => ?_⟩
      refine ⟨sa, _, c, rfl, upd_same, by omega, fun ns pp up mem len np => ?_⟩
      refine k _ pp ns ?_ ?_ upd_same up (fun j => by rw [mem j, decide_eq_true_eq]) (by omega)
      · exact (((s13.trans (same_new nl)).trans (same_new nu)).trans (same_new nsa)).trans (same_new np)
      · exact none_back (((s13.trans (same_new nl)).trans (same_new nu)).trans (same_new nsa)) np
end
end Lb

set_option Elab.async false
set_option linter.all false
set_option maxRecDepth 100000
set_option maxHeartbeats 4000000

namespace Lb
open PySem PySem.Spec PyProof.Rows L2
section
variable {P : Program} {w : World} {K : PySem.W.Frag} {mg : Str → Option Value} {base : Heap} {A : Ad}
def sp_is_place : Sp := fun vs H Q _ => ∃ (pr v : V) (S : List Addr) (P d : PyData), vs = [pr, v] ∧ Rep S H pr P ∧ progB P = true ∧ Rep S H v d ∧ ∀ H', Same H H' → Q (.bl (placeB P d)) H'
theorem ok_is_place (T : Txt K w mg A) : FnOk P w K mg base CX0 3 A.f_is_place A.d_is_place ["program", "thing"] (sp_is_place) := by
  refine T.F_is_place.ok sc_is_place (fun vs H Q E h => ?_) (fun cdv Ar outer s H vs Q E hr h => ?_)
  · obtain ⟨pr, v, S, P, d, rfl, rP, okp, r, k⟩ := h
    rfl
  · obtain ⟨pr, v, S, P, d, rfl, rP, okp, r, k⟩ := h
    refine ⟨_, PSs.nox ((pss_cons (ps_set (i := 2) sc_is_place.nd rfl (Or.inl rfl) (pe_ix ix_tup (pv 0) pe_int (fun _ _ => rfl)))
 (pss_one (ps_ret (pe_and (pe_call (ok_is_tuple T) (hr.mono (by decide)) rfl T.m_is_tuple T.F_is_tuple.kp (b_is_tuple T) .nil pass0 (pa_cons (pv 1) (pa_cons pe_int (pa_cons pe_int pa_nil)))) (pe_and (pe_call (ok_is_number T) hr rfl T.m_is_number T.F_is_number.kp (b_is_number T) .nil pass0 (pa_cons (pe_ix ix_tup (pv 1) pe_int (fun _ _ => rfl)) (pa_cons (pe_callB call_len_seq (by rfl) T.zlen (by decide +kernel) (pa_cons (pv 2) pa_nil)) pa_nil))) (pe_one (pe_call (ok_is_number T) hr rfl T.m_is_number T.F_is_number.kp (b_is_number T) .nil pass0 (pa_cons (pe_ix ix_tup (pv 1) pe_int (fun _ _ => rfl)) (pa_cons (pe_callB call_len_seq (by rfl) T.zlen (by decide +kernel) (pa_cons (pe_ix ix_tup (pv 2) (pe_ix ix_tup (pv 1) pe_int (fun _ _ => rfl)) (fun _ _ => rfl)) pa_nil)) pa_nil)))))))))), ?_⟩
    rw [show start N_is_place [pr, v] = [some (pr), some (v), none] from rfl]
    obtain ⟨ps, m, es, o, rfl, F⟩ := prog_of okp
    obtain ⟨a, p, q, s', t, rfl, ha, rp, rq, rz, ru⟩ := rP.four
    obtain ⟨b, xs, rfl, hb, _, rs⟩ := rp.tupV
    
    refine ⟨_, rfl, a, _, 0, _, rfl, rfl, SqT.of (ha), atI_nat (j := 0) rfl, _, rfl, v, S, d, 2, 2, rfl, r, fun H1 s1 => ⟨_, rfl, ?_⟩⟩
    have e0 : itemsD (nthD (.tuple [.tuple ps, m, .tuple es, o]) 0) = ps := rfl
    unfold placeB at k
    rw [e0] at k
    refine ite2 (fun c => ?_) (fun c => ?_)
    · rw [c] at k
      obtain ⟨ds, rfl, h1, h2⟩ := tupB_len c
      obtain ⟨x, y, rfl⟩ := len2 h1 h2
      obtain ⟨a2, p2, q2, rfl, ha2, rp2, rq2⟩ := r.two
      have k2 : ∀ H', Same H H' → Q (.bl (numB x (ps.length : Int) && numB y ((itemsD (partD (.tuple [.tuple ps, m, .tuple es, o]) (valI x).toNat)).length : Int))) H' := k
      refine ⟨_, rfl, a2, _, 0, _, rfl, rfl, SqT.of (s1 _ _ ha2), atI_nat (j := 0) rfl, _, rfl, b, xs, rfl, .inr (SqT.of (s1 _ _ hb)), p2, S, x, _, rfl, rp2.sm s1, fun H2 s2 => ⟨_, rfl, ?_⟩⟩
      rw [rs.length]
      refine ite2 (fun c2 => ?_) (fun c2 => ?_)
      · rw [c2] at k2
        obtain ⟨i, rfl, i0, i1⟩ := numB_iff.mp c2
        obtain rfl := rp2.intV
        have s12 := s1.trans s2
        have ei : i = ((i.toNat : Nat) : Int) := (Int.toNat_of_nonneg i0).symm
        obtain ⟨z, hz⟩ : ∃ z, ps[i.toNat]? = some z := ⟨_, List.getElem?_eq_getElem (by omega)⟩
        obtain ⟨rows, rfl, l5⟩ := F.five z (List.mem_of_getElem? hz)
        obtain ⟨zv, hzv, rz2⟩ := rs.at_ hz
        obtain ⟨c3, zs, rfl, hc3, _, rb⟩ := rz2.tupV
        have ep : partD (.tuple [.tuple ps, m, .tuple es, o]) i.toNat = .tuple rows := getD_of hz
        have at_i : atI xs i = some (.ref c3) := by
          rw [ei]
          exact atI_nat hzv
        refine ⟨_, rfl, a2, _, 1, _, rfl, rfl, SqT.of (s12 _ _ ha2), atI_nat (j := 1) rfl, _, rfl, _, rfl, a2, _, 0, _, rfl, rfl, SqT.of (s12 _ _ ha2), atI_nat (j := 0) rfl, b, xs, i, _, rfl, rfl, SqT.of (s12 _ _ hb), at_i, c3, zs, rfl, .inr (SqT.of (s12 _ _ hc3)), q2, S, y, _, rfl, rq2.sm s12, fun H3 s3 => ?_⟩
        have e := k2 H3 (s12.trans s3)
        rw [show valI (.int i) = i from rfl, ep] at e
        rw [rb.length]
        exact e
      · have e := k2 H2 (s1.trans s2)
        rwa [bF c2] at e
    · have e := k H1 s1
      rwa [bF c] at e
def sp_is_lot : Sp := fun vs H Q _ => ∃ (pr v : V) (S : List Addr) (P d : PyData), vs = [pr, v] ∧ Rep S H pr P ∧ progB P = true ∧ Rep S H v d ∧ (itemsD d).length ≤ 100 ∧ ∀ H', Same H H' → Q (.bl (lotB P d)) H'
theorem ok_is_lot (T : Txt K w mg A) : FnOk P w K mg base CX0 10 A.f_is_lot A.d_is_lot ["program", "thing"] (sp_is_lot) := by
  refine T.F_is_lot.ok sc_is_lot (fun vs H Q E h => ?_) (fun cdv Ar outer s H vs Q E hr h => ?_)
  · obtain ⟨pr, v, S, P, d, rfl, rP, okp, r, len, k⟩ := h
    rfl
  · obtain ⟨pr, v, S, P, d, rfl, rP, okp, r, len, k⟩ := h
    refine ⟨_, PSs.nox ((pss_cons (ps_expr (pe_call (ok_demand_program T) hr rfl T.m_demand_program T.F_demand_program.kp (b_demand_program T) .nil pass0 (pa_cons (pv 0) pa_nil)))
 (pss_cons (ps_if (PW.pt (pw_or (pt_not (pt_val (pe_callB call_isiD (by rfl) T.zisinstance (by decide +kernel) (pa_cons (pv 1) (pa_cons (pe_bltn (v := .ty "tuple") (by rfl) T.ztuple (by decide +kernel) rfl) pa_nil))))) (pw_or1 (pt_not (pt_val (pe_callB (cr_all rfl) (by rfl) T.zall (by decide +kernel) (pa_cons (pe_lc (own := [("place", 2)]) (g := (gName 2)) (tt := tYes) rfl sc_is_lot.nd (pi_tup (pv 1)) (blkOk_by (N := N_is_lot) (sc := defScope s_is_lot) (by decide +kernel)) (fun _ _ _ _ _ => (pg_name (i := 2) sc_is_lot.nd rfl (Or.inl rfl))) (fun _ _ _ _ _ => pts_nil) (fun _ _ _ _ _ => (pe_call (ok_is_place T) (hr.mono (by decide)) rfl T.m_is_place T.F_is_place.kp (b_is_place T) .nil pass0 (pa_cons (pv 0) (pa_cons (pv 2) pa_nil))))) pa_nil))))))) (pss_one (ps_ret pe_bl)) pss_nil)
 (pss_one (ps_ret (pe_call (ok_is_ascending T) (hr.mono (by decide)) rfl T.m_is_ascending T.F_is_ascending.kp (b_is_ascending T) .nil pass0 (pa_cons (pv 1) pa_nil))))))), ?_⟩
    rw [show start N_is_lot [pr, v] = [some (pr), some (v), none] from rfl]
    refine ⟨_, rfl, pr, S, P, rfl, rP, okp, fun H1 s1 => ?_⟩
    refine ⟨_, rfl, _, "tuple", S, d, _, rfl, r.sm s1, kit_tup d, _, rfl, ?_⟩
    refine ite2 (fun c => iteT ?_) (fun c => ?_)
    · have e := k H1 s1
      rwa [show lotB P d = false by unfold lotB; rw [nbF c]; rfl] at e
    replace c := nbT c
    obtain ⟨ds, rfl⟩ := tup_of c
    have dl : ds.length ≤ 100 := len
    obtain ⟨a, xs, rfl, ha, _, rs⟩ := r.tupV
    
    refine ⟨_, rfl, a, rfl, ⟨_, SqT.of (s1 _ _ ha)⟩, fun D nD => ?_⟩
    refine lc_pure (walk_tup (xs := xs)) nD (fun i => V.bl ((fun z => placeB P z) (ds.getD i .none))) (by rw [rs.length, sizeLine_eq]; omega) (fun H' s' => SqT.of (s' _ _ (s1 _ _ ha))) ?_ ?_
    · rintro i x H' H'' F hi s' ⟨rfl, hx⟩ fin
      obtain ⟨d1, e1, r0⟩ := rs.get hx
      have r1 := r0.sm (s1.trans s')
      refine ⟨rfl, ?_⟩
      rw [getD_of e1] at fin
      exact ⟨_, rfl, _, rfl, pr, x, S, P, d1, rfl, rP.sm (s1.trans s'), okp, r1, fun H3 s3 => fin H3 s3⟩
    · intro H' s' hD
      have e2 : (List.range xs.length).map (fun i => V.bl ((fun z => placeB P z) (ds.getD i .none))) = ((List.range ds.length).map fun i => (fun z => placeB P z) (ds.getD i .none)).map V.bl := by rw [rs.length, bl_map (fun i => (fun z => placeB P z) (ds.getD i .none))]
      rw [e2] at hD
      refine ⟨D, _, rfl, SqL.of hD, ?_⟩
      rw [range_all (fun z => (fun z => placeB P z) z)]
    
      refine ⟨_, rfl, ?_⟩
      refine ite2 (fun c2 => ?_) (fun c2 => ?_)
      · have e := k H' (s1.trans s')
        rwa [show lotB P (.tuple ds) = false by
          unfold lotB
          show (true && (ds.all (fun x => placeB P x) && _)) = false
          rw [nbF c2]
          rfl] at e
      replace c2 := nbT c2
      have allP : ∀ d ∈ ds, ∃ i j : Nat, d = placeD i j := fun d hd => by
        obtain ⟨i, j, e, _⟩ := placeB_iff.mp (List.all_eq_true.mp c2 d hd)
        exact ⟨i, j, e⟩
      refine ⟨_, rfl, .ref a, S, ds, rfl, r.sm (s1.trans s'), by omega, fun d hd e he => ?_, fun d hd => ?_, fun H4 s4 => ?_⟩
      · obtain ⟨i, j, rfl⟩ := allP d hd
        obtain ⟨i', j', rfl⟩ := allP e he
        rfl
      · obtain ⟨i, j, rfl⟩ := allP d hd
        exact ⟨(fun z => nomatch z), by simp [placeD, PyData.depth, PyData.depthAll], rfl⟩
      · have e := k H4 (s1.trans (s'.trans s4))
        rwa [show lotB P (.tuple ds) = ascB ds by
          unfold lotB
          show (true && (ds.all (fun x => placeB P x) && _)) = _
          rw [c2]
          rfl] at e
def sp_demand_lot : Sp := fun vs H Q _ => ∃ (pr v : V) (S : List Addr) (P d : PyData), vs = [pr, v] ∧ Rep S H pr P ∧ progB P = true ∧ Rep S H v d ∧ (itemsD d).length ≤ 100 ∧ lotB P d = true ∧ ∀ H', Same H H' → Q .non H'
theorem ok_demand_lot (T : Txt K w mg A) : FnOk P w K mg base CX0 11 A.f_demand_lot A.d_demand_lot ["program", "thing"] (sp_demand_lot) := by
  refine T.F_demand_lot.ok sc_demand_lot (fun vs H Q E h => ?_) (fun cdv Ar outer s H vs Q E hr h => ?_)
  · obtain ⟨pr, v, S, P, d, rfl, rP, okp, r, l100, ok, k⟩ := h
    rfl
  · obtain ⟨pr, v, S, P, d, rfl, rP, okp, r, l100, ok, k⟩ := h
    refine ⟨_, PSs.nox ((pss_one (ps_if (pt_not (pt_val (pe_call (ok_is_lot T) hr rfl T.m_is_lot T.F_is_lot.kp (b_is_lot T) .nil pass0 (pa_cons (pv 0) (pa_cons (pv 1) pa_nil))))) (pss_one ps_never) pss_nil))), ?_⟩
    rw [show start N_demand_lot [pr, v] = [some (pr), some (v)] from rfl]
    refine ⟨_, rfl, _, rfl, pr, v, S, P, d, rfl, rP, okp, r, l100, fun H1 s1 => ⟨_, rfl, ?_⟩⟩
    rw [ok]
    exact ite2 (fun c => absurd c (by decide)) (fun _ => k H1 s1)
end
end Lb

set_option Elab.async false
set_option linter.all false
set_option maxRecDepth 100000
set_option maxHeartbeats 4000000

namespace Lb
open PySem PySem.Spec PyProof.Rows L2
section
variable {P : Program} {w : World} {K : PySem.W.Frag} {mg : Str → Option Value} {base : Heap} {A : Ad}
def sp_is_laid_door : Sp := fun vs H Q _ => ∃ (v : V) (S : List Addr) (d : PyData) (door many : Int), vs = [v, .int door, .int many] ∧ Rep S H v d ∧ (itemsD (nthD d 1)).length ≤ 50 ∧ ∀ H', Same H H' → Q (.bl (laidB d door many)) H'
theorem ok_is_laid_door (T : Txt K w mg A) : FnOk P w K mg base CX0 3 A.f_is_laid_door A.d_is_laid_door ["thing", "door", "many_packs"] (sp_is_laid_door) := by
  refine T.F_is_laid_door.ok sc_is_laid_door (fun vs H Q E h => ?_) (fun cdv Ar outer s H vs Q E hr h => ?_)
  · obtain ⟨v, S, d, door, many, rfl, r, few, k⟩ := h
    rfl
  · obtain ⟨v, S, d, door, many, rfl, r, few, k⟩ := h
    refine ⟨_, PSs.nox ((pss_cons (ps_if (PW.pt (pw_or (pt_not (pt_val (pe_call (ok_is_tuple T) (hr.mono (by decide)) rfl T.m_is_tuple T.F_is_tuple.kp (b_is_tuple T) .nil pass0 (pa_cons (pv 0) (pa_cons pe_int (pa_cons pe_int pa_nil)))))) (pw_or (pt_not (pt_val (pe_call (ok_is_integer T) (hr.mono (by decide)) rfl T.m_is_integer T.F_is_integer.kp (b_is_integer T) .nil pass0 (pa_cons (pe_ix ix_tup (pv 0) pe_int (fun _ _ => rfl)) pa_nil)))) (pw_or1 (pt_cmpR op_ne (pe_ix ix_tup (pv 0) pe_int (fun _ _ => rfl)) (pv 1) (nomark _)))))) (pss_one (ps_ret pe_bl)) pss_nil)
 (pss_cons (ps_set (i := 3) sc_is_laid_door.nd rfl (Or.inl rfl) (pe_ix ix_tup (pv 0) pe_int (fun _ _ => rfl)))
 (pss_cons (ps_if (PW.pt (pw_or (pt_not (pt_val (pe_callB call_isiD (by rfl) T.zisinstance (by decide +kernel) (pa_cons (pv 3) (pa_cons (pe_bltn (v := .ty "tuple") (by rfl) T.ztuple (by decide +kernel) rfl) pa_nil))))) (pw_or1 (pt_not (pt_val (pe_callB (cr_all rfl) (by rfl) T.zall (by decide +kernel) (pa_cons (pe_lc (own := [("number", 4)]) (g := (gName 4)) (tt := tYes) rfl sc_is_laid_door.nd (pi_tup (pv 3)) (blkOk_by (N := N_is_laid_door) (sc := defScope s_is_laid_door) (by decide +kernel)) (fun _ _ _ _ _ => (pg_name (i := 4) sc_is_laid_door.nd rfl (Or.inl rfl))) (fun _ _ _ _ _ => pts_nil) (fun _ _ _ _ _ => (pe_call (ok_is_number T) hr rfl T.m_is_number T.F_is_number.kp (b_is_number T) .nil pass0 (pa_cons (pv 4) (pa_cons (pv 2) pa_nil))))) pa_nil))))))) (pss_one (ps_ret pe_bl)) pss_nil)
 (pss_one (ps_ret (pe_cmpR op_eq (SL.pe_lenSetTI rfl (by rfl) T.zlen (by rfl) T.zset (pv 3)) (pe_callB call_len_seq (by rfl) T.zlen (by decide +kernel) (pa_cons (pv 3) pa_nil)) (nomark _)))))))), ?_⟩
    rw [show start N_is_laid_door [v, .int door, .int many] = [some (v), some (.int door), some (.int many), none, none] from rfl]
    refine ⟨_, rfl, v, S, d, 2, 2, rfl, r, fun H1 s1 => ⟨_, rfl, ?_⟩⟩
    have k1 : ∀ b, laidB d door many = b → ∀ H', Same H1 H' → Q (.bl b) H' := fun b e H' s' => by
      have z := k H' (s1.trans s')
      rwa [e] at z
    
    refine ite2 (fun c => iteT ?_) (fun c => ?_)
    · exact k1 false (by unfold laidB; rw [nbF c]; rfl) H1 (.refl _)
    replace c := nbT c
    obtain ⟨ds, rfl, h1, h2⟩ := tupB_len c
    obtain ⟨x, y, rfl⟩ := len2 h1 h2
    obtain ⟨a, p, q, rfl, ha, rp, rq⟩ := r.two
    have ha1 := s1 _ _ ha
    have few2 : (itemsD y).length ≤ 50 := few
    have l0 : ∀ b, (intB x && (decide (valI x = door) && (isTup y && ((itemsD y).all (fun x => numB x many) && decide ((itemsD y).map valI).Nodup)))) = b → ∀ H', Same H1 H' → Q (.bl b) H' := fun b e => k1 b e
    clear k1 k
    refine ⟨_, rfl, a, _, 0, _, rfl, rfl, SqT.of (ha1), atI_nat (j := 0) rfl, p, S, x, rfl, rp.sm s1, fun H2 s2 => ⟨_, rfl, ?_⟩⟩
    refine ite2 (fun c1 => iteT ?_) (fun c1 => ?_)
    · exact l0 false (by rw [nbF c1]; rfl) H2 s2
    replace c1 := nbT c1
    obtain ⟨i, rfl⟩ := int_of c1
    obtain rfl := rp.intV
    have ha2 := s2 _ _ ha1
    refine ⟨_, rfl, a, _, 0, _, rfl, rfl, SqT.of (ha2), atI_nat (j := 0) rfl, _, rfl, rfl, _, rfl, ?_⟩
    refine ite2 (fun c2 => ?_) (fun c2 => ?_)
    · have ne : i ≠ door := fun e => by
        rw [e] at c2
        simp at c2
      exact l0 false (by show (true && (decide (i = door) && _)) = false; rw [decide_eq_false ne]; rfl) H2 s2
    have eq : i = door := by simpa using c2
    have l1 : ∀ b, (isTup y && ((itemsD y).all (fun x => numB x many) && decide ((itemsD y).map valI).Nodup)) = b → ∀ H', Same H1 H' → Q (.bl b) H' := fun b e => l0 b (by show (true && (decide (i = door) && _)) = b; rw [decide_eq_true eq]; exact e)
    refine ⟨_, rfl, a, _, 1, _, rfl, rfl, SqT.of (ha2), atI_nat (j := 1) rfl, ?_⟩
    dsimp only [gName, List.set]
    have s12 := s1.trans s2
    refine ⟨_, rfl, _, "tuple", S, y, _, rfl, rq.sm s12, kit_tup y, _, rfl, ?_⟩
    refine ite2 (fun c3 => iteT ?_) (fun c3 => ?_)
    · exact l1 false (by rw [nbF c3]; rfl) H2 s2
    replace c3 := nbT c3
    obtain ⟨ds, rfl⟩ := tup_of c3
    obtain ⟨b, xs, rfl, hb, _, rs⟩ := rq.tupV
    have dl : ds.length ≤ 50 := few2
    
    refine ⟨_, rfl, b, rfl, ⟨_, SqT.of (s12 _ _ hb)⟩, fun D nD => ?_⟩
    refine lc_pure (walk_tup (xs := xs)) nD (fun i => V.bl ((fun z => numB z many) (ds.getD i .none))) (by rw [rs.length, sizeLine_eq]; omega) (fun H' s' => SqT.of (s' _ _ (s12 _ _ hb))) ?_ ?_
    · rintro i x H' H'' F hi s' ⟨rfl, hx⟩ fin
      obtain ⟨d1, e1, r0⟩ := rs.get hx
      have r1 := r0.sm (s12.trans s')
      refine ⟨rfl, ?_⟩
      rw [getD_of e1] at fin
      exact ⟨_, rfl, _, rfl, x, S, d1, many, rfl, r1, fun H3 s3 => fin H3 s3⟩
    · intro H' s' hD
      have e2 : (List.range xs.length).map (fun i => V.bl ((fun z => numB z many) (ds.getD i .none))) = ((List.range ds.length).map fun i => (fun z => numB z many) (ds.getD i .none)).map V.bl := by rw [rs.length, bl_map (fun i => (fun z => numB z many) (ds.getD i .none))]
      rw [e2] at hD
      refine ⟨D, _, rfl, SqL.of hD, ?_⟩
      rw [range_all (fun z => (fun z => numB z many) z)]
    
      refine ⟨_, rfl, ?_⟩
      have l2 : ∀ b, (ds.all (fun x => numB x many) && decide (ds.map valI).Nodup) = b → ∀ H', Same H1 H' → Q (.bl b) H' := l1
      refine ite2 (fun c4 => ?_) (fun c4 => ?_)
      · exact l2 false (by rw [nbF c4]; rfl) H' (s2.trans s')
      replace c4 := nbT c4
      have allI : ∀ e ∈ ds, ∃ i, e = .int i := fun e he => by
        obtain ⟨i, z, _⟩ := numB_iff.mp (List.all_eq_true.mp c4 e he)
        exact ⟨i, z⟩
      have exs := rs.asInts allI
      have lx := rs.length
      have hb' := s' _ _ (s12 _ _ hb)
      refine ⟨_, rfl, b, ds.map valI, rfl, by rw [← exs]; exact SqT.of hb', by rw [List.length_map]; omega, fun L nd mem => ⟨_, rfl, b, xs, rfl, .inr (SqT.of hb'), rfl, ?_⟩⟩
      refine l2 _ ?_ H' (s2.trans s')
      rw [c4, Bool.true_and, Bool.eq_iff_iff, decide_eq_true_eq, decide_eq_true_eq, V.int.injEq, lx]
      have z := card_iff nd mem
      rw [List.length_map] at z
      rw [← z]
      omega
def sp_are_laid_doors : Sp := fun vs H Q _ => ∃ (v : V) (p : Addr) (S : List Addr) (d : PyData) (ns : List Int) (many : Int), vs = [v, .ref p, .int many] ∧ Rep S H v d ∧ H p = some (.lst (ns.map V.int)) ∧ ns.length ≤ 15 ∧ (∀ x ∈ itemsD d, (itemsD (nthD x 1)).length ≤ 50) ∧ ∀ H', Same H H' → Q (.bl (laidsB d ns many)) H'
theorem ok_are_laid_doors (T : Txt K w mg A) : FnOk P w K mg base CX0 4 A.f_are_laid_doors A.d_are_laid_doors ["thing", "doors", "many_packs"] (sp_are_laid_doors) := by
  refine T.F_are_laid_doors.ok sc_are_laid_doors (fun vs H Q E h => ?_) (fun cdv Ar outer s H vs Q E hr h => ?_)
  · obtain ⟨v, p, S, d, ns, many, rfl, r, hp, n15, few, k⟩ := h
    rfl
  · obtain ⟨v, p, S, d, ns, many, rfl, r, hp, n15, few, k⟩ := h
    refine ⟨_, PSs.nox ((pss_cons (ps_if (pt_not (pt_val (pe_call (ok_is_tuple T) (hr.mono (by decide)) rfl T.m_is_tuple T.F_is_tuple.kp (b_is_tuple T) .nil pass0 (pa_cons (pv 0) (pa_cons (pe_callB call_len_seq (by rfl) T.zlen (by decide +kernel) (pa_cons (pv 1) pa_nil)) (pa_cons (pe_callB call_len_seq (by rfl) T.zlen (by decide +kernel) (pa_cons (pv 1) pa_nil)) pa_nil)))))) (pss_one (ps_ret pe_bl)) pss_nil)
 (pss_one (ps_ret (pe_callB (cr_all rfl) (by rfl) T.zall (by decide +kernel) (pa_cons (pe_lc (own := [("laid", 3), ("door", 4)]) (g := (gTup _ 2 (gCons (gName 3) (gCons (gName 4) gNil)))) (tt := tYes) rfl sc_are_laid_doors.nd (ZL.pi_zipM (by rfl) T.zzip (pa_cons (pv 0) (pa_cons (pv 1) pa_nil))) (blkOk_by (N := N_are_laid_doors) (sc := defScope s_are_laid_doors) (by decide +kernel)) (fun _ _ _ _ _ => (pg_tup (by rfl) (pgs_cons (pg_name (i := 3) sc_are_laid_doors.nd rfl (Or.inl rfl)) (pgs_cons (pg_name (i := 4) sc_are_laid_doors.nd rfl (Or.inl rfl)) pgs_nil)))) (fun _ _ _ _ _ => pts_nil) (fun _ _ _ _ _ => (pe_call (ok_is_laid_door T) hr rfl T.m_is_laid_door T.F_is_laid_door.kp (b_is_laid_door T) .nil pass0 (pa_cons (pv 3) (pa_cons (pv 4) (pa_cons (pv 2) pa_nil)))))) pa_nil)))))), ?_⟩
    rw [show start N_are_laid_doors [v, .ref p, .int many] = [some (v), some (.ref p), some (.int many), none, none] from rfl]
    have ln : (ns.map V.int).length = ns.length := List.length_map _
    refine ⟨_, rfl, _, rfl, p, _, rfl, .inl (SqL.of hp), _, rfl, p, _, rfl, .inl (SqL.of hp), v, S, d, _, _, rfl, r, fun H1 s1 => ⟨_, rfl, ?_⟩⟩
    rw [ln]
    refine ite2 (fun c => ?_) (fun c => ?_)
    · have e := k H1 s1
      rwa [show laidsB d ns many = false by unfold laidsB; rw [nbF c]; rfl] at e
    replace c := nbT c
    obtain ⟨ds, rfl, h1, h2⟩ := tupB_len c
    have dn : ds.length = ns.length := by omega
    obtain ⟨a, xs, rfl, ha, _, rs⟩ := r.tupV
    have lx := rs.length
    refine ⟨_, rfl, _, rfl, a, p, xs, ns.map V.int, rfl, SqT.of (s1 _ _ ha), SqL.of (s1 _ _ hp), fun D nD => ?_⟩
    refine lc_pure (ZL.walkM (xs := xs) (ys := ns.map V.int) (n := ns.length) (by rw [lx, ln, dn, Nat.min_self])) nD (fun i => V.bl (laidB (ds.getD i .none) (ns.getD i 0) many)) (by rw [sizeLine_eq]; omega) (fun H' s' => ⟨SqT.of (s' _ _ (s1 _ _ ha)), SqL.of (s' _ _ (s1 _ _ hp))⟩) ?_ ?_
    · rintro i x H' H'' F hi s' ⟨t, x1, x2, rfl, nt, rfl, e1, e2⟩ fin
      replace e1 : xs[i]? = some x1 := e1
      replace e2 : (ns.map V.int)[i]? = some x2 := e2
      obtain ⟨d1, hd1, r1⟩ := rs.get e1
      rw [List.getElem?_map] at e2
      obtain ⟨n, hn, rfl⟩ := Option.map_eq_some_iff.mp e2
      have sA := s1.trans (s'.trans (same_new (o := .tup [x1, .int n]) nt))
      refine ⟨t, _, rfl, SqT.of upd_same, rfl, _, _, rfl, _, _, rfl, rfl, rfl, ?_⟩
      refine ⟨_, rfl, _, rfl, _, rfl, x1, S, d1, n, many, rfl, r1.sm sA, few d1 (List.mem_of_getElem? hd1), fun H3 s3 => ?_⟩
      have z := fin H3 ((same_new nt).trans s3)
      rw [getD_of hd1, show ns.getD i 0 = n by rw [List.getD_eq_getElem?_getD, hn]; rfl] at z
      exact z
    · intro H' s' hD
      rw [bl_map] at hD
      refine ⟨D, _, rfl, SqL.of hD, ?_⟩
      have e := k H' (s1.trans s')
      rwa [show laidsB (.tuple ds) ns many = ((List.range ns.length).map fun i => laidB (ds.getD i .none) (ns.getD i 0) many).all id by unfold laidsB; rw [c]; rfl] at e
def sp_are_packs : Sp := fun vs H Q _ => ∃ (pr v : V) (S : List Addr) (P d : PyData), vs = [pr, v] ∧ Rep S H pr P ∧ progB P = true ∧ Rep S H v d ∧ (rowsOfD d).length ≤ 60 ∧ ∀ H', Same H H' → Q (.bl (packsB P d)) H'
theorem ok_are_packs (T : Txt K w mg A) : FnOk P w K mg base CX0 4 A.f_are_packs A.d_are_packs ["program", "thing"] (sp_are_packs) := by
  refine T.F_are_packs.ok sc_are_packs (fun vs H Q E h => ?_) (fun cdv Ar outer s H vs Q E hr h => ?_)
  · obtain ⟨pr, v, S, P, d, rfl, rP, okp, r, few, k⟩ := h
    rfl
  · obtain ⟨pr, v, S, P, d, rfl, rP, okp, r, few, k⟩ := h
    obtain ⟨t_MOST_PACKS, c_MOST_PACKS⟩ := T.i_MOST_PACKS
    refine ⟨_, PSs.nox ((pss_cons (ps_if (PW.pt (pw_or (pt_not (pt_val (pe_call (ok_is_tuple T) (hr.mono (by decide)) rfl T.m_is_tuple T.F_is_tuple.kp (b_is_tuple T) .nil pass0 (pa_cons (pv 1) (pa_cons pe_int (pa_cons (pe_glob (v := .int (8)) (by rfl) c_MOST_PACKS ⟨_, rfl⟩) pa_nil)))))) (pw_or1 (pt_not (pt_val (pe_callB (cr_all rfl) (by rfl) T.zall (by decide +kernel) (pa_cons (pe_lc (own := [("pack", 3)]) (g := (gName 3)) (tt := tYes) rfl sc_are_packs.nd (pi_tup (pv 1)) (blkOk_by (N := N_are_packs) (sc := defScope s_are_packs) (by decide +kernel)) (fun _ _ _ _ _ => (pg_name (i := 3) sc_are_packs.nd rfl (Or.inl rfl))) (fun _ _ _ _ _ => pts_nil) (fun _ _ _ _ _ => (pe_callB call_isiD (by rfl) T.zisinstance (by decide +kernel) (pa_cons (pv 3) (pa_cons (pe_bltn (v := .ty "tuple") (by rfl) T.ztuple (by decide +kernel) rfl) pa_nil))))) pa_nil))))))) (pss_one (ps_ret pe_bl)) pss_nil)
 (pss_cons (ps_setLc2 (i := 2) (own := [("pack", 3), ("place", 4)]) (vs1 := [4]) (g := (gName 3)) (tt := tYes) (g1 := (gName 4)) (tt1 := tYes) rfl sc_are_packs.nd rfl rfl (sw_true rfl rfl rfl (by decide +kernel)) (pi_tup (pv 1)) (blkOk_by (N := N_are_packs) (sc := defScope s_are_packs) (by decide +kernel)) (by decide) (fun _ _ _ _ _ => (pg_name (i := 3) sc_are_packs.nd rfl (Or.inl rfl))) (fun _ _ _ _ _ => pts_nil) (fun _ _ _ _ _ => (show PI _ _ _ (iTup K (tVar 3)) from pi_tup (pv 3))) (fun _ _ _ _ _ => (pg_name (i := 4) sc_are_packs.nd rfl (Or.inl rfl))) (fun _ _ _ _ _ => pts_nil) (fun _ _ _ _ _ => (pv 4)))
 (pss_one (ps_ret (pe_and (pe_callB (cr_all rfl) (by rfl) T.zall (by decide +kernel) (pa_cons (pe_lc (own := [("place", 4)]) (g := (gName 4)) (tt := tYes) rfl sc_are_packs.nd (pi_list (pv 2)) (blkOk_by (N := N_are_packs) (sc := defScope s_are_packs) (by decide +kernel)) (fun _ _ _ _ _ => (pg_name (i := 4) sc_are_packs.nd rfl (Or.inl rfl))) (fun _ _ _ _ _ => pts_nil) (fun _ _ _ _ _ => (pe_call (ok_is_place T) hr rfl T.m_is_place T.F_is_place.kp (b_is_place T) .nil pass0 (pa_cons (pv 0) (pa_cons (pv 4) pa_nil))))) pa_nil)) (pe_one (pe_cmpR op_eq (SL.pe_lenSetT rfl hr.units (by rfl) T.zlen (by rfl) T.zset (pv 2)) (pe_callB call_len_seq (by rfl) T.zlen (by decide +kernel) (pa_cons (pv 2) pa_nil)) (nomark _))))))))), ?_⟩
    rw [show start N_are_packs [pr, v] = [some (pr), some (v), none, none, none] from rfl]
    refine ⟨_, rfl, v, S, d, 0, 8, rfl, r, fun H1 s1 => ⟨_, rfl, ?_⟩⟩
    have k1 : ∀ b, packsB P d = b → ∀ H', Same H1 H' → Q (.bl b) H' := fun b e H' s' => by
      have z := k H' (s1.trans s')
      rwa [e] at z
    
    refine ite2 (fun c => iteT ?_) (fun c => ?_)
    · exact k1 false (by unfold packsB; rw [nbF c]; rfl) H1 (.refl _)
    replace c := nbT c
    obtain ⟨ds, rfl, h1, h2⟩ := tupB_len c
    obtain ⟨a, xs, rfl, ha, _, rs⟩ := r.tupV
    have l0 : ∀ b, (ds.all isTup && ((rowsOfD (.tuple ds)).all (fun x => placeB P x) && decide ((rowsOfD (.tuple ds)).map plQ).Nodup)) = b → ∀ H', Same H1 H' → Q (.bl b) H' := fun b e => k1 b (by unfold packsB; rw [c]; exact e)
    clear k1 k
    
    refine ⟨_, rfl, a, rfl, ⟨_, SqT.of (s1 _ _ ha)⟩, fun D nD => ?_⟩
    refine lc_pure (walk_tup (xs := xs)) nD (fun i => V.bl (isTup (ds.getD i .none))) (by rw [rs.length, sizeLine_eq]; omega) (fun H' s' => SqT.of (s' _ _ (s1 _ _ ha))) ?_ ?_
    · rintro i x H' H'' F hi s' ⟨rfl, hx⟩ fin
      obtain ⟨d1, e1, r0⟩ := rs.get hx
      have r1 := r0.sm (s1.trans s')
      refine ⟨rfl, ?_⟩
      rw [getD_of e1] at fin
      exact ⟨_, rfl, x, "tuple", S, d1, _, rfl, r1, kit_tup d1, fin _ (.refl _)⟩
    · intro H' s' hD
      have e2 : (List.range xs.length).map (fun i => V.bl (isTup (ds.getD i .none))) = ((List.range ds.length).map fun i => isTup (ds.getD i .none)).map V.bl := by rw [rs.length, bl_map (fun i => isTup (ds.getD i .none))]
      rw [e2] at hD
      refine ⟨D, _, rfl, SqL.of hD, ?_⟩
      rw [range_all (fun z => isTup z)]
    
      refine ⟨_, rfl, ?_⟩
      refine ite2 (fun c2 => ?_) (fun c2 => ?_)
      · exact l0 false (by rw [nbF c2]; rfl) H' s'
      replace c2 := nbT c2
      have l1 : ∀ b, ((rowsOfD (.tuple ds)).all (fun x => placeB P x) && decide ((rowsOfD (.tuple ds)).map plQ).Nodup) = b → ∀ H', Same H1 H' → Q (.bl b) H' := fun b e => l0 b (by rw [c2]; exact e)
      have allT : ∀ p ∈ ds, ∃ rows, p = .tuple rows := fun p hp => tup_of (List.all_eq_true.mp c2 p hp)
      have s2 := s1.trans s'
      clear hD e2 nD c2
      refine ⟨_, rfl, a, rfl, ⟨_, SqT.of (s2 _ _ ha)⟩, fun R nR => ?_⟩
      have rsR : Reps (R :: S) H' xs ds := Reps.more nR _ _ (rs.sm s2)
      have cut60 : ∀ {i j : Nat} {rows : List PyData}, ds[i]? = some (.tuple rows) → ((ds.take i).flatMap itemsD ++ rows.take j).length ≤ 60 := fun {i j rows} h => by
        have e : ds.flatMap itemsD = (ds.take i).flatMap itemsD ++ (rows ++ (ds.drop (i + 1)).flatMap itemsD) := by
          have lt := (List.getElem?_eq_some_iff.mp h).1
          have eg := (List.getElem?_eq_some_iff.mp h).2
          conv => lhs; rw [← List.take_append_drop i ds, List.flatMap_append, List.drop_eq_getElem_cons lt, List.flatMap_cons, eg]
          rfl
        have f : (ds.flatMap itemsD).length ≤ 60 := few
        rw [e, List.length_append, List.length_append] at f
        rw [List.length_append, List.length_take]
        omega
      refine lc2_out (walk_tup (xs := xs)) (fun i H3 => Same H' H3 ∧ ∃ acc, H3 R = some (.lst acc) ∧ Reps (R :: S) H3 acc ((ds.take i).flatMap itemsD)) ⟨same_new nR, [], upd_same, .nil⟩ (fun i H3 _ p => SqT.of (p.1 _ _ (s2 _ _ ha))) ?_ ?_
      · rintro i x H3 H3' hi ⟨s3, acc, hR, rA⟩ ⟨rfl, hx⟩
        obtain ⟨p, hp, rp⟩ := rsR.get hx
        obtain ⟨rows, rfl⟩ := allT p (List.mem_of_getElem? hp)
        obtain ⟨b, ys, rfl, hb, _, rb⟩ := rp.tupV
        refine ⟨rfl, _, rfl, b, rfl, ⟨_, SqT.of (s3 _ _ hb)⟩, ?_⟩
        refine lc2_in (walk_tup (xs := ys)) (fun j H4 => Same H' H4 ∧ ∃ acc', H4 R = some (.lst acc') ∧ Reps (R :: S) H4 acc' ((ds.take i).flatMap itemsD ++ rows.take j)) ⟨s3, acc, hR, by rw [List.take_zero, List.append_nil]; exact rA⟩ (fun j H4 _ p => SqT.of (p.1 _ _ hb)) ?_ ?_
        · rintro j y H4 H4' hj ⟨s4, acc', hR4, rA4⟩ ⟨rfl, hy⟩
          obtain ⟨q, hq, rq⟩ := (rb.sm s4).get hy
          have l4 : acc'.length < sizeLine := by
            have z := cut60 (j := j) hp
            rw [rA4.length, sizeLine_eq]
            omega
          have bu : But (R :: S) H4' (upd H4' R (.lst (acc' ++ [y]))) := But.refl.upd List.mem_cons_self
          refine ⟨rfl, y, rfl, acc', hR4, l4, ?_, acc' ++ [y], upd_same, ?_⟩
          · intro b' o e
            rw [upd_ne (ne_of_none e nR)]
            exact s4 _ _ e
          · rw [List.take_succ, hq, ← List.append_assoc]
            exact (rA4.app (.one rq)).mv bu
        · rintro H4 ⟨s4, acc', hR4, rA4⟩
          refine ⟨s4, acc', hR4, ?_⟩
          rw [rb.length, List.take_length] at rA4
          rw [List.take_succ, hp, List.flatMap_append]
          simpa [itemsD] using rA4
      · rintro H3 ⟨s3, acc, hR, rA⟩
        rw [rs.length, List.take_length] at rA
        have s13 := s'.trans s3
        have sH3 := s2.trans s3
        have rA' : Reps S H3 acc (rowsOfD (.tuple ds)) := rA.less fun b z => List.mem_cons_of_mem _ z
        generalize rowsOfD (.tuple ds) = rows at rA' l1 few
        have lA := rA'.length
        refine ⟨_, rfl, R, rfl, ⟨_, SqL.of hR⟩, fun D nD => ?_⟩
        refine lc_pure (walk_list (xs := acc)) nD (fun i => V.bl ((fun z => placeB P z) (rows.getD i .none))) (by rw [lA, sizeLine_eq]; omega) (fun H4 s4 => SqL.of (s4 _ _ hR)) ?_ ?_
        · rintro i x H4 H4' F hi s4 ⟨rfl, hx⟩ fin
          obtain ⟨d1, e1, r0⟩ := rA'.get hx
          refine ⟨rfl, ?_⟩
          rw [getD_of e1] at fin
          exact ⟨_, rfl, _, rfl, pr, x, S, P, d1, rfl, (rP.sm sH3).sm s4, okp, r0.sm s4, fun H5 s5 => fin H5 s5⟩
        · intro H4 s4 hD
          have e2 : (List.range acc.length).map (fun i => V.bl ((fun z => placeB P z) (rows.getD i .none))) = ((List.range rows.length).map fun i => (fun z => placeB P z) (rows.getD i .none)).map V.bl := by rw [lA, bl_map (fun i => (fun z => placeB P z) (rows.getD i .none))]
          rw [e2] at hD
          refine ⟨D, _, rfl, SqL.of hD, ?_⟩
          rw [range_all (fun z => placeB P z)]
          refine ⟨_, rfl, ?_⟩
          refine ite2 (fun c4 => ?_) (fun c4 => ?_)
          · have pe := places_of c4
            have hR4 := s4 _ _ hR
            have rq : Reps S H4 acc (((rows.map plQ)).map pD) := by rw [← pe]; exact rA'.sm s4
            obtain ⟨ks, ek, es, hk⟩ := places_keys rq
            have lk : ks.length = acc.length := by rw [ek, List.length_map]
            refine ⟨_, rfl, R, ks, rfl, by rw [← ek]; exact SqL.of hR4, fun p hp => SqT.of (hk p hp), by omega, fun L nd sub all => ⟨_, rfl, R, acc, rfl, .inl (SqL.of hR4), rfl, ?_⟩⟩
            refine l1 _ ?_ H4 (s13.trans s4)
            rw [c4, Bool.true_and, Bool.eq_iff_iff, decide_eq_true_eq, decide_eq_true_eq, V.int.injEq]
            have z := card_iff (ns := ks.map Prod.snd) nd fun j => ⟨fun h => by
              obtain ⟨p, hp, rfl⟩ := List.mem_map.mp h
              exact List.mem_map.mpr ⟨p, sub p hp, rfl⟩, fun h => by
              obtain ⟨p, hp, rfl⟩ := List.mem_map.mp h
              exact all p hp⟩
            rw [List.length_map, List.length_map, es] at z
            rw [← pairs_nodup, ← z]
            omega
          · exact l1 false (by rw [bF c4]; rfl) H4 (s13.trans s4)
def sp_is_layout : Sp := fun vs H Q _ => ∃ (pr v : V) (S : List Addr) (P d : PyData) (ns : List Int), vs = [pr, v] ∧ Rep S H pr P ∧ progB P = true ∧ Rep S H v d ∧ (rowsOfD (nthD d 0)).length ≤ 60 ∧ (∀ x ∈ itemsD (nthD d 1), (itemsD (nthD x 1)).length ≤ 50) ∧ ns.Pairwise (· < ·) ∧ (∀ k, k ∈ ns ↔ k ∈ doorsD P) ∧ ∀ H', Same H H' → Q (.bl (layB P ns d)) H'
theorem ok_is_layout (T : Txt K w mg A) : FnOk P w K mg base CX0 11 A.f_is_layout A.d_is_layout ["program", "thing"] (sp_is_layout) := by
  refine T.F_is_layout.ok sc_is_layout (fun vs H Q E h => ?_) (fun cdv Ar outer s H vs Q E hr h => ?_)
  · obtain ⟨pr, v, S, P, d, ns, rfl, rP, okp, r, f60, f50, up, mem, k⟩ := h
    rfl
  · obtain ⟨pr, v, S, P, d, ns, rfl, rP, okp, r, f60, f50, up, mem, k⟩ := h
    refine ⟨_, PSs.nox ((pss_cons (ps_expr (pe_call (ok_demand_program T) (hr.mono (by decide)) rfl T.m_demand_program T.F_demand_program.kp (b_demand_program T) .nil pass0 (pa_cons (pv 0) pa_nil)))
 (pss_cons (ps_if (PW.pt (pw_or (pt_not (pt_val (pe_call (ok_is_tuple T) (hr.mono (by decide)) rfl T.m_is_tuple T.F_is_tuple.kp (b_is_tuple T) .nil pass0 (pa_cons (pv 1) (pa_cons pe_int (pa_cons pe_int pa_nil)))))) (pw_or1 (pt_not (pt_val (pe_call (ok_are_packs T) (hr.mono (by decide)) rfl T.m_are_packs T.F_are_packs.kp (b_are_packs T) .nil pass0 (pa_cons (pv 0) (pa_cons (pe_ix ix_tup (pv 1) pe_int (fun _ _ => rfl)) pa_nil)))))))) (pss_one (ps_ret pe_bl)) pss_nil)
 (pss_one (ps_ret (pe_call (ok_are_laid_doors T) (hr.mono (by decide)) rfl T.m_are_laid_doors T.F_are_laid_doors.kp (b_are_laid_doors T) .nil pass0 (pa_cons (pe_ix ix_tup (pv 1) pe_int (fun _ _ => rfl)) (pa_cons (pe_call (ok_doors_of T) hr rfl T.m_doors_of T.F_doors_of.kp (b_doors_of T) .nil pass0 (pa_cons (pv 0) pa_nil)) (pa_cons (pe_callB call_len_seq (by rfl) T.zlen (by decide +kernel) (pa_cons (pe_ix ix_tup (pv 1) pe_int (fun _ _ => rfl)) pa_nil)) pa_nil))))))))), ?_⟩
    rw [show start N_is_layout [pr, v] = [some (pr), some (v)] from rfl]
    refine ⟨_, rfl, pr, S, P, rfl, rP, okp, fun H0 s0 => ?_⟩
    refine ⟨_, rfl, v, S, d, 2, 2, rfl, r.sm s0, fun H1 s01 => ⟨_, rfl, ?_⟩⟩
    have s1 := s0.trans s01
    have k1 : ∀ b, layB P ns d = b → ∀ H', Same H1 H' → Q (.bl b) H' := fun b e H' s' => by
      have z := k H' (s1.trans s')
      rwa [e] at z
    
    refine ite2 (fun c => iteT ?_) (fun c => ?_)
    · exact k1 false (by unfold layB; rw [nbF c]; rfl) H1 (.refl _)
    replace c := nbT c
    obtain ⟨ds, rfl, h1, h2⟩ := tupB_len c
    obtain ⟨x, y, rfl⟩ := len2 h1 h2
    obtain ⟨a, p, q, rfl, ha, rp, rq⟩ := r.two
    have l0 : ∀ b, (packsB P x && laidsB y ns ((itemsD x).length : Int)) = b → ∀ H', Same H1 H' → Q (.bl b) H' := fun b e => k1 b e
    clear k1 k
    refine ⟨_, rfl, _, rfl, a, _, 0, _, rfl, rfl, SqT.of (s1 _ _ ha), atI_nat (j := 0) rfl, pr, p, S, P, x, rfl, rP.sm s1, okp, rp.sm s1, f60, fun H2 s2 => ⟨_, rfl, ?_⟩⟩
    refine ite2 (fun c2 => ?_) (fun c2 => ?_)
    · exact l0 false (by rw [nbF c2]; rfl) H2 s2
    replace c2 := nbT c2
    obtain ⟨ps, rfl⟩ : ∃ ps, x = .tuple ps := by
      unfold packsB at c2
      obtain ⟨ds, e, _⟩ := tupB_len (Bool.and_eq_true_iff.mp c2).1
      exact ⟨ds, e⟩
    obtain ⟨b, xs, rfl, hb, _, rs⟩ := rp.tupV
    have s12 := s1.trans s2
    refine ⟨_, rfl, a, _, 1, _, rfl, rfl, SqT.of (s12 _ _ ha), atI_nat (j := 1) rfl, _, rfl, pr, S, P, rfl, rP.sm s12, okp, fun H3 dp ns' s3 ndp hdp up' mem' len => ?_⟩
    obtain rfl := asc_eq up' up fun j => (mem' j).trans (mem j).symm
    have s13 := s12.trans s3
    refine ⟨_, rfl, a, _, 0, _, rfl, rfl, SqT.of (s13 _ _ ha), atI_nat (j := 0) rfl, b, xs, rfl, .inr (SqT.of (s13 _ _ hb)), q, dp, S, y, ns', _, rfl, rq.sm s13, hdp, len, f50, fun H4 s4 => ?_⟩
    rw [rs.length]
    exact l0 _ (by rw [c2]; rfl) H4 (s2.trans (s3.trans s4))
def sp_demand_layout : Sp := fun vs H Q _ => ∃ (pr v : V) (S : List Addr) (P d : PyData) (ns : List Int), vs = [pr, v] ∧ Rep S H pr P ∧ progB P = true ∧ Rep S H v d ∧ (rowsOfD (nthD d 0)).length ≤ 60 ∧ (∀ x ∈ itemsD (nthD d 1), (itemsD (nthD x 1)).length ≤ 50) ∧ ns.Pairwise (· < ·) ∧ (∀ k, k ∈ ns ↔ k ∈ doorsD P) ∧ layB P ns d = true ∧ ∀ H', Same H H' → Q .non H'
theorem ok_demand_layout (T : Txt K w mg A) : FnOk P w K mg base CX0 12 A.f_demand_layout A.d_demand_layout ["program", "thing"] (sp_demand_layout) := by
  refine T.F_demand_layout.ok sc_demand_layout (fun vs H Q E h => ?_) (fun cdv Ar outer s H vs Q E hr h => ?_)
  · obtain ⟨pr, v, S, P, d, ns, rfl, rP, okp, r, f60, f50, up, mem, ok, k⟩ := h
    rfl
  · obtain ⟨pr, v, S, P, d, ns, rfl, rP, okp, r, f60, f50, up, mem, ok, k⟩ := h
    refine ⟨_, PSs.nox ((pss_one (ps_if (pt_not (pt_val (pe_call (ok_is_layout T) hr rfl T.m_is_layout T.F_is_layout.kp (b_is_layout T) .nil pass0 (pa_cons (pv 0) (pa_cons (pv 1) pa_nil))))) (pss_one ps_never) pss_nil))), ?_⟩
    rw [show start N_demand_layout [pr, v] = [some (pr), some (v)] from rfl]
    refine ⟨_, rfl, _, rfl, pr, v, S, P, d, ns, rfl, rP, okp, r, f60, f50, up, mem, fun H1 s1 => ⟨_, rfl, ?_⟩⟩
    rw [ok]
    exact ite2 (fun c => absurd c (by decide)) (fun _ => k H1 s1)
end
end Lb

set_option Elab.async false
set_option linter.all false
set_option maxRecDepth 100000
set_option maxHeartbeats 4000000

namespace Lb
open PySem PySem.Spec PyProof.Rows L2
section
variable {P : Program} {w : World} {K : PySem.W.Frag} {mg : Str → Option Value} {base : Heap} {A : Ad}
def sp_demand_text : Sp := fun vs H Q _ => ∃ t : Str, vs = [.str t] ∧ Q .non H
theorem ok_demand_text (T : Txt K w mg A) : FnOk P w K mg base CX0 1 A.f_demand_text A.d_demand_text ["thing"] (sp_demand_text) := by
  refine T.F_demand_text.ok sc_demand_text (fun vs H Q E h => ?_) (fun cdv Ar outer s H vs Q E hr h => ?_)
  · obtain ⟨t, rfl, k⟩ := h
    rfl
  · obtain ⟨t, rfl, k⟩ := h
    refine ⟨_, PSs.nox ((pss_one (ps_if (pt_not (pt_val (pe_callB call_isiD (by rfl) T.zisinstance (by decide +kernel) (pa_cons (pv 0) (pa_cons (pe_bltn (v := .ty "str") (by rfl) T.zstr (by decide +kernel) rfl) pa_nil))))) (pss_one ps_never) pss_nil))), ?_⟩
    rw [show start N_demand_text [.str t] = [some (.str t)] from rfl]
    refine ⟨_, rfl, _, "str", [], .str t, _, rfl, .str _, kit_str (.str t), _, rfl, ?_⟩
    refine ite2 (fun c => absurd c (by simp [isStr])) (fun _ => ?_)
    exact k
def sp_read_number : Sp := fun vs H Q _ => ∃ t : Str, vs = [.str t] ∧ t.length ≤ 20000 ∧ Q (numV (numR t)) H
theorem ok_read_number (T : Txt K w mg A) : FnOk P w K mg base CX0 1 A.f_read_number A.d_read_number ["text"] (sp_read_number) := by
  refine T.F_read_number.ok sc_read_number (fun vs H Q E h => ?_) (fun cdv Ar outer s H vs Q E hr h => ?_)
  · obtain ⟨t, rfl, lt, k⟩ := h
    rfl
  · obtain ⟨t, rfl, lt, k⟩ := h
    obtain ⟨t_DIGITS, c_DIGITS⟩ := T.i_DIGITS
    refine ⟨_, PSs.nox ((pss_one (ps_ret (pe_ifExp (PW.pt (pw_and (pt_cmpR op_eq (pe_callB call_len_str (by rfl) T.zlen (by decide +kernel) (pa_cons (pv 0) pa_nil)) pe_int (nomark _)) (pw_and1 (pt_cmpR op_in_sign (pv 0) (pe_glob (v := .str "0123456789") (by rfl) c_DIGITS ⟨_, rfl⟩) rfl)))) (pe_callTy call_int_str (by rfl) T.zint (by decide +kernel) (pa_cons (pv 0) pa_nil)) pe_non)))), ?_⟩
    rw [show start N_read_number [.str t] = [some (.str t)] from rfl]
    refine ⟨_, rfl, t, rfl, by rw [sizeLine_eq]; omega, rfl, _, rfl, ?_⟩
    by_cases l1 : t.length = 1
    · obtain ⟨c, rfl, e⟩ := numR_one l1
      rw [e] at k
      refine ite2 (fun _ => ?_) (fun c => absurd (by rw [l1]; decide) c)
      refine ⟨_, rfl, c, _, rfl, rfl, _, rfl, ?_⟩
      rw [in_digits]
      unfold digR at k
      refine ite2 (fun d => ?_) (fun d => ?_)
      · have d := of_decide_eq_true d
        rw [if_pos d] at k
        exact ⟨_, rfl, _, _, rfl, int_sign d, by rw [l1]; decide, k⟩
      · rw [if_neg (fun z => d (decide_eq_true z))] at k
        exact k
    · rw [numR_not l1] at k
      refine ite2 (fun c => absurd c ?_) (fun _ => ?_)
      · simpa using fun z : (t.length : Int) = 1 => l1 (by omega)
      · exact ite2 (fun c => absurd c (by decide)) (fun _ => k)
theorem rdm65 {k : Nat} {A : Around} (r : Room k A) : A.units + 65 < cLine := by have := r.un; omega
theorem nums_rep {S : List Addr} {H : Hp} : ∀ l : List (Option Int), Reps S H (l.map numV) (l.map (optD PyData.int))
  | [] => .nil
  | o :: l => .cons (num_rep o) (nums_rep l)
open TL

def sp_read_numbers : Sp := fun vs H Q _ => ∃ t : Str, vs = [.str t] ∧ t.length ≤ 20000 ∧ ∀ (H' : Hp) (x : V), Same H H' → Rep [] H' x (optD (fun ns : List Int => .tuple (ns.map PyData.int)) (numsR t)) → Q x H'
theorem ok_read_numbers (T : Txt K w mg A) : FnOk P w K mg base CX0 2 A.f_read_numbers A.d_read_numbers ["text"] (sp_read_numbers) := by
  refine T.F_read_numbers.ok sc_read_numbers (fun vs H Q E h => ?_) (fun cdv Ar outer s H vs Q E hr h => ?_)
  · obtain ⟨t, rfl, lt, k⟩ := h
    rfl
  · obtain ⟨t, rfl, lt, k⟩ := h
    refine ⟨_, PSs.nox ((pss_cons (ps_setLc (i := 1) (own := [("digit", 2)]) (g := (gName 2)) (tt := tYes) rfl sc_read_numbers.nd rfl rfl (sw_true rfl rfl rfl (by decide +kernel)) (pi_str (pv 0)) (blkOk_by (N := N_read_numbers) (sc := defScope s_read_numbers) (by decide +kernel)) (fun _ _ _ _ _ => (pg_name (i := 2) sc_read_numbers.nd rfl (Or.inl rfl))) (fun _ _ _ _ _ => pts_nil) (fun _ _ _ _ _ => (pe_call (ok_read_number T) hr rfl T.m_read_number T.F_read_number.kp (b_read_number T) .nil pass0 (pa_cons (pv 2) pa_nil))))
 (pss_one (ps_ret (pe_ifExp (PW.pt (pw_or (pt_not (pt_truth (pv 1) (fun _ => rfl))) (pw_or1 (pt_cmpR (op_inD (rdm65 hr)) pe_non (pv 1) rfl)))) pe_non (pe_callTy call_tuple_of (by rfl) T.ztuple (by decide +kernel) (pa_cons (pv 1) pa_nil))))))), ?_⟩
    rw [show start N_read_numbers [.str t] = [some (.str t), none, none] from rfl]
    have lc := len_tl t
    have hs : t.cps.size = (tl t).length := by simp
    refine ⟨_, rfl, _, rfl, fun D nD => ?_⟩
    refine lc_pure (walk_str (z := t)) nD (fun i => numV (digR ((tl t).getD i 0))) (by rw [hs, sizeLine_eq]; omega) (fun _ _ => trivial) ?_ ?_
    · rintro i x H2 H3 F hi s2 ⟨rfl, c, hc, rfl⟩ fin
      have e : (tl t).getD i 0 = c := by
        rw [List.getD_eq_getElem?_getD, show (tl t)[i]? = some c by simpa using hc]
        rfl
      rw [e] at fin
      exact ⟨rfl, _, rfl, _, rfl, by show 1 ≤ 20000; decide, fin _ (.refl _)⟩
    intro H2 s2 hD
    rw [hs, range_map (fun c => numV (digR c)) 0 (tl t)] at hD
    have eD : (tl t).map (fun c => numV (digR c)) = ((tl t).map digR).map numV := by rw [List.map_map]; rfl
    rw [eD] at hD
    have rD : Reps [] H2 (((tl t).map digR).map numV) (((tl t).map digR).map (optD PyData.int)) := nums_rep _
    dsimp only [gName, List.set]
    unfold numsR at k
    refine ⟨_, rfl, !(((tl t).map digR).map numV).isEmpty, .inl ⟨_, SqL.of hD, rfl⟩, ?_⟩
    by_cases e : tl t = []
    · rw [if_pos e] at k
      rw [e]
      refine ite2 (fun _ => ?_) (fun c => absurd (by decide) c)
      exact ite2 (fun _ => k _ _ s2 .non) (fun c => absurd rfl c)
    rw [if_neg e] at k
    have ne : (((tl t).map digR).map numV).isEmpty = false := by
      cases h : tl t with
      | nil => exact absurd h e
      | cons _ _ => rfl
    rw [ne]
    refine ite2 (fun c => absurd c (by decide)) (fun _ => ?_)
    generalize (tl t).map digR = l at *
    refine ⟨_, rfl, .none, _, .non, (Rep.lst hD List.not_mem_nil rD : Rep [] H2 (.ref D) (.list (l.map (optD PyData.int)))).dp _ _ (noDicts_optI l), by decide +kernel, shaped_optI l, _, rfl, ?_⟩
    rw [any_non (D := PyData.int) (fun _ => rfl)]
    refine ite2 (fun c => ?_) (fun c => ?_)
    · rw [allO_non c] at k
      exact k _ _ s2 .non
    · obtain ⟨xs, e1, rfl⟩ := allO_yes (Bool.eq_false_iff.mpr c)
      rw [e1] at k
      rw [optD_some] at rD
      refine ⟨_, rfl, D, _, rfl, .inl ⟨SqL.of hD, fun tp ntp => ?_⟩⟩
      exact k _ _ (s2.trans (same_new ntp)) (.tup upd_same List.not_mem_nil (rD.sm (same_new ntp)))
end
end Lb

set_option Elab.async false
set_option linter.all false
set_option maxRecDepth 100000
set_option maxHeartbeats 4000000

namespace Lb
open PySem PySem.Spec PyProof.Rows L2
section
variable {P : Program} {w : World} {K : PySem.W.Frag} {mg : Str → Option Value} {base : Heap} {A : Ad}
def sp_place_text : Sp := fun vs H Q _ => ∃ (v : V) (S : List Addr) (q : Pl), vs = [v] ∧ Rep S H v (stD q) ∧ Pl.ok q ∧ Q (.str (placeT q)) H
theorem ok_place_text (T : Txt K w mg A) : FnOk P w K mg base CX0 1 A.f_place_text A.d_place_text ["place"] (sp_place_text) := by
  refine T.F_place_text.ok sc_place_text (fun vs H Q E h => ?_) (fun cdv Ar outer s H vs Q E hr h => ?_)
  · obtain ⟨v, S, q, rfl, r, okq, k⟩ := h
    rfl
  · obtain ⟨v, S, q, rfl, r, okq, k⟩ := h
    refine ⟨_, PSs.nox ((pss_one (ps_ret (pe_joined (PJ.cons (pe_fmt (pe_ix ix_tup (pv 0) pe_int (fun _ _ => rfl))) (PJ.cons pe_str (PJ.cons (pe_fmt (pe_ix ix_tup (pv 0) pe_int (fun _ _ => rfl))) PJ.nil))))))), ?_⟩
    rw [show start N_place_text [v] = [some (v)] from rfl]
    obtain ⟨a, x, y, rfl, ha, rx, ry⟩ := r.two
    obtain rfl := rx.intV
    obtain rfl := ry.intV
    obtain ⟨h1, h2⟩ := okq
    have d1 := digT_len (i := (q.1 : Int)) (by omega) (by omega)
    have d2 := digT_len (i := (q.2 : Int)) (by omega) (by omega)
    have d3 : ((":" : Str)).length = 1 := by decide +kernel
    have big : 100 ≤ sizeLine := by rw [sizeLine_eq]; omega
    refine ⟨_, rfl, a, _, 0, _, rfl, rfl, SqT.of ha, atI_nat (j := 0) rfl, .inr ⟨(q.1 : Int), rfl, log_small (by omega) (by omega), digT (q.1 : Int), rfl, ?_, _, rfl, ?_, ?_⟩⟩
    · rw [emp]
      omega
    · rw [emp, len_app]
      omega
    refine ⟨_, rfl, a, _, 1, _, rfl, rfl, SqT.of ha, atI_nat (j := 1) rfl, .inr ⟨(q.2 : Int), rfl, log_small (by omega) (by omega), digT (q.2 : Int), rfl, ?_, ?_⟩⟩
    · rw [emp, len_app, len_app]
      omega
    rw [emp]
    exact k
def sp_show_lot : Sp := fun vs H Q _ => ∃ (v u : V) (S : List Addr) (P : Prog) (qs : List Pl), vs = [v, u] ∧ Rep S H v P.d ∧ P.Ok ∧ Rep S H u (.tuple (qs.map stD)) ∧ (∀ q ∈ qs, q ∈ placesP P P.parts.length) ∧ (qs.Pairwise fun p q => p.1 < q.1 ∨ (p.1 = q.1 ∧ p.2 < q.2)) ∧ ∀ H', Same H H' → Q (.str (lotT qs)) H'
theorem ok_show_lot (T : Txt K w mg A) : FnOk P w K mg base CX0 12 A.f_show_lot A.d_show_lot ["program", "lot"] (sp_show_lot) := by
  refine T.F_show_lot.ok sc_show_lot (fun vs H Q E h => ?_) (fun cdv Ar outer s H vs Q E hr h => ?_)
  · obtain ⟨v, u, S, P, qs, rfl, r, ok, ru, hq, up, k⟩ := h
    rfl
  · obtain ⟨v, u, S, P, qs, rfl, r, ok, ru, hq, up, k⟩ := h
    refine ⟨_, PSs.nox ((pss_cons (ps_expr (pe_call (ok_demand_program T) (hr.mono (by decide)) rfl T.m_demand_program T.F_demand_program.kp (b_demand_program T) .nil pass0 (pa_cons (pv 0) pa_nil)))
 (pss_cons (ps_expr (pe_call (ok_demand_lot T) hr rfl T.m_demand_lot T.F_demand_lot.kp (b_demand_lot T) .nil pass0 (pa_cons (pv 0) (pa_cons (pv 1) pa_nil))))
 (pss_one (ps_ret (pe_join pe_str (pe_lc (own := [("place", 2)]) (g := (gName 2)) (tt := tYes) rfl sc_show_lot.nd (pi_tup (pv 1)) (blkOk_by (N := N_show_lot) (sc := defScope s_show_lot) (by decide +kernel)) (fun _ _ _ _ _ => (pg_name (i := 2) sc_show_lot.nd rfl (Or.inl rfl))) (fun _ _ _ _ _ => pts_nil) (fun _ _ _ _ _ => (pe_call (ok_place_text T) (hr.mono (by decide)) rfl T.m_place_text T.F_place_text.kp (b_place_text T) .nil pass0 (pa_cons (pv 2) pa_nil)))))))))), ?_⟩
    rw [show start N_show_lot [v, u] = [some (v), some (u), none] from rfl]
    have nd : qs.Nodup := List.Pairwise.imp (fun {p q} h e => by rw [e] at h; omega) up
    have l20 : qs.length ≤ 20 := Nat.le_trans (card_le nd hq) (placesP_many ok)
    have oks : ∀ q ∈ qs, Pl.ok q := fun q h => place_small ok (hq q h)
    
    have rl := ru
    obtain ⟨b, xs, rfl, hb, _, rs⟩ := ru.tupV
    have lx : xs.length = qs.length := by rw [rs.length, List.length_map]
    refine ⟨_, rfl, v, S, P.d, rfl, r, prog_ok ok, fun H1 s1 => ?_⟩
    refine ⟨_, rfl, _, rfl, v, .ref b, S, P.d, _, rfl, r.sm s1, prog_ok ok, rl.sm s1, by show (qs.map stD).length ≤ 100; rw [List.length_map]; omega, lot_in hq up, fun H2 s2 => ?_⟩
    have s02 := s1.trans s2
    refine ⟨⟨_, rfl⟩, _, rfl, b, rfl, ⟨_, SqT.of (s02 _ _ hb)⟩, fun D nD => ?_⟩
    refine lc_pure (walk_tup (xs := xs)) nD (fun i => V.str (placeT (qs.getD i (0, 0)))) (by rw [lx, sizeLine_eq]; omega) (fun H' s' => SqT.of (s' _ _ (s02 _ _ hb))) ?_ ?_
    · rintro i x H4 H3 F hi s3 ⟨rfl, hx⟩ fin
      have il : i < qs.length := by omega
      obtain ⟨d, hd, rx⟩ := rs.get hx
      rw [List.getElem?_map, List.getElem?_eq_getElem il] at hd
      obtain rfl := Option.some.inj hd
      have eg : qs.getD i (0, 0) = qs[i] := by rw [List.getD_eq_getElem?_getD, List.getElem?_eq_getElem il]; rfl
      rw [eg] at fin
      exact ⟨rfl, _, rfl, x, S, qs[i], rfl, rx.sm (s02.trans s3), oks _ (List.getElem_mem il), fin _ (.refl _)⟩
    intro H3 s3 hD
    rw [lx, range_map (fun q => V.str (placeT q)) (0, 0) qs] at hD
    have eD : qs.map (fun q => V.str (placeT q)) = (qs.map placeT).map V.str := by rw [List.map_map]; rfl
    rw [eD] at hD
    have su := sum_const placeT 3 qs fun q h => Nat.le_of_eq (placeT_len (oks q h))
    have h3 : ((" " : Str)).length = 1 := by decide +kernel
    refine ⟨_, D, _, rfl, rfl, .inl (SqL.of hD), ?_, k H3 (s02.trans s3)⟩
    rw [List.length_map, h3]
    omega
end
end Lb

set_option Elab.async false
set_option linter.all false
set_option maxRecDepth 100000
set_option maxHeartbeats 4000000

namespace Lb
open PySem PySem.Spec PyProof.Rows L2
section
variable {P : Program} {w : World} {K : PySem.W.Frag} {mg : Str → Option Value} {base : Heap} {A : Ad}
def sp_read_place : Sp := fun vs H Q _ => ∃ q : Pl, vs = [.str (placeT q)] ∧ Pl.ok q ∧ ∀ (H' : Hp) (x : V), Same H H' → Rep [] H' x (stD q) → Q x H'
theorem ok_read_place (T : Txt K w mg A) : FnOk P w K mg base CX0 2 A.f_read_place A.d_read_place ["word"] (sp_read_place) := by
  refine T.F_read_place.ok sc_read_place (fun vs H Q E h => ?_) (fun cdv Ar outer s H vs Q E hr h => ?_)
  · obtain ⟨q, rfl, okq, k⟩ := h
    rfl
  · obtain ⟨q, rfl, okq, k⟩ := h
    refine ⟨_, PSs.nox ((pss_cons (ps_asg (pe_partition (pv 0) pe_str) (pg_tup (by rfl) (pgs_cons (pg_name (i := 1) sc_read_place.nd rfl (Or.inl rfl)) (pgs_cons (pg_name (i := 2) sc_read_place.nd rfl (Or.inl rfl)) (pgs_cons (pg_name (i := 3) sc_read_place.nd rfl (Or.inl rfl)) pgs_nil)))))
 (pss_cons (ps_par (i := 4) (j := 5) rfl sc_read_place.nd rfl rfl (by decide) rfl rfl (pa_cons (pe_call (ok_read_number T) hr rfl T.m_read_number T.F_read_number.kp (b_read_number T) .nil pass0 (pa_cons (pv 1) pa_nil)) (pa_cons (pe_call (ok_read_number T) hr rfl T.m_read_number T.F_read_number.kp (b_read_number T) .nil pass0 (pa_cons (pv 3) pa_nil)) pa_nil)) (by rfl))
 (pss_one (ps_ret (pe_ifExp (PW.pt (pw_or (pt_cmpR op_isN (pv 4) pe_non (nomark _)) (pw_or1 (pt_cmpR op_isN (pv 5) pe_non (nomark _))))) pe_non (pe_tup (pa_cons (pv 4) (pa_cons (pv 5) pa_nil))))))))), ?_⟩
    rw [show start N_read_place [.str (placeT q)] = [some (.str (placeT q)), none, none, none, none, none] from rfl]
    have lp := placeT_len okq
    have pt := placeT_part okq
    obtain ⟨h1, h2⟩ := okq
    have d1 := digT_len (i := (q.1 : Int)) (by omega) (by omega)
    have d2 := digT_len (i := (q.2 : Int)) (by omega) (by omega)
    refine ⟨_, rfl, ⟨_, rfl⟩, _, _, rfl, rfl, by decide +kernel, by rw [lp, sizeLine_eq]; omega, fun p np => ?_⟩
    rw [pt]
    have s1 : Same H (upd H p (.tup [.str (digT (q.1 : Int)), .str ":", .str (digT (q.2 : Int))])) := same_new np
    refine ⟨p, _, rfl, SqT.of upd_same, rfl, _, _, rfl, _, _, rfl, _, _, rfl, rfl, ?_⟩
    dsimp only [gName, List.set]
    generalize upd H p (.tup [.str (digT (q.1 : Int)), .str ":", .str (digT (q.2 : Int))]) = H1 at *
    refine ⟨_, rfl, digT (q.1 : Int), rfl, by omega, _, rfl, digT (q.2 : Int), rfl, by omega, _, _, rfl, ?_⟩
    rw [num_dig (by omega) (by omega), num_dig (by omega) (by omega)]
    have s2 := s1
    dsimp only [List.set]
    refine ⟨_, rfl, rfl, _, rfl, ?_⟩
    refine ite2 (fun c => absurd c (by simp [numV])) (fun _ => ?_)
    refine ⟨_, rfl, rfl, _, rfl, ?_⟩
    refine ite2 (fun c => absurd c (by simp [numV])) (fun _ => ?_)
    refine ⟨_, rfl, _, rfl, by show 2 ≤ sizeLine; decide, fun t2 nt2 => ?_⟩
    exact k _ _ (s2.trans (same_new nt2)) (.tup upd_same List.not_mem_nil (.cons (.int _) (.cons (.int _) .nil)))
def sp_read_lot : Sp := fun vs H Q _ => ∃ (v : V) (S : List Addr) (P : Prog) (qs : List Pl), vs = [v, .str (lotT qs)] ∧ Rep S H v P.d ∧ P.Ok ∧ (∀ q ∈ qs, q ∈ placesP P P.parts.length) ∧ (qs.Pairwise fun p q => p.1 < q.1 ∨ (p.1 = q.1 ∧ p.2 < q.2)) ∧ ∀ (H' : Hp) (x : V), Same H H' → Rep [] H' x (.tuple (qs.map stD)) → Q x H'
theorem ok_read_lot (T : Txt K w mg A) : FnOk P w K mg base CX0 12 A.f_read_lot A.d_read_lot ["program", "text"] (sp_read_lot) := by
  refine T.F_read_lot.ok sc_read_lot (fun vs H Q E h => ?_) (fun cdv Ar outer s H vs Q E hr h => ?_)
  · obtain ⟨v, S, P, qs, rfl, r, ok, hq, up, k⟩ := h
    rfl
  · obtain ⟨v, S, P, qs, rfl, r, ok, hq, up, k⟩ := h
    refine ⟨_, PSs.nox ((pss_cons (ps_expr (pe_call (ok_demand_program T) (hr.mono (by decide)) rfl T.m_demand_program T.F_demand_program.kp (b_demand_program T) .nil pass0 (pa_cons (pv 0) pa_nil)))
 (pss_cons (ps_expr (pe_call (ok_demand_text T) (hr.mono (by decide)) rfl T.m_demand_text T.F_demand_text.kp (b_demand_text T) .nil pass0 (pa_cons (pv 1) pa_nil)))
 (pss_cons (ps_set (i := 2) sc_read_lot.nd rfl (Or.inl rfl) (pe_ifExp (pt_cmpR op_ne (pv 1) pe_str (nomark _)) (pe_callTy call_tuple_of (by rfl) T.ztuple (by decide +kernel) (pa_cons (pe_lc (own := [("word", 3)]) (g := (gName 3)) (tt := tYes) rfl sc_read_lot.nd (pi_list (pe_split (pv 1) pe_str)) (blkOk_by (N := N_read_lot) (sc := defScope s_read_lot) (by decide +kernel)) (fun _ _ _ _ _ => (pg_name (i := 3) sc_read_lot.nd rfl (Or.inl rfl))) (fun _ _ _ _ _ => pts_nil) (fun _ _ _ _ _ => (pe_call (ok_read_place T) (hr.mono (by decide)) rfl T.m_read_place T.F_read_place.kp (b_read_place T) .nil pass0 (pa_cons (pv 3) pa_nil)))) pa_nil)) (pe_tup pa_nil)))
 (pss_cons (ps_if (pt_not (pt_val (pe_call (ok_is_lot T) (hr.mono (by decide)) rfl T.m_is_lot T.F_is_lot.kp (b_is_lot T) .nil pass0 (pa_cons (pv 0) (pa_cons (pv 2) pa_nil))))) (pss_one ps_never) pss_nil)
 (pss_one (ps_ret (pv 2)))))))), ?_⟩
    rw [show start N_read_lot [v, .str (lotT qs)] = [some (v), some (.str (lotT qs)), none, none] from rfl]
    have nd : qs.Nodup := List.Pairwise.imp (fun {p q} h e => by rw [e] at h; omega) up
    have l20 : qs.length ≤ 20 := Nat.le_trans (card_le nd hq) (placesP_many ok)
    have oks : ∀ q ∈ qs, Pl.ok q := fun q h => place_small ok (hq q h)
    
    have ll := lotT_len l20 oks
    refine ⟨_, rfl, v, S, P.d, rfl, r, prog_ok ok, fun H1 s1 => ?_⟩
    refine ⟨_, rfl, lotT qs, rfl, ?_⟩
    dsimp only
    refine cut_by (R := fun σ H' => ∃ x, σ = [some v, some (.str (lotT qs)), some x, none] ∧ Same H H' ∧ Rep [] H' x (.tuple (qs.map stD))) ?_ ?_
    · rintro σ H2 ⟨x, rfl, s2, rx⟩
      refine ⟨_, rfl, _, rfl, v, x, [], P.d, _, rfl, (r.sm s2).less (fun _ z => absurd z List.not_mem_nil), prog_ok ok, rx, by show (qs.map stD).length ≤ 100; rw [List.length_map]; omega, fun H3 s3 => ⟨_, rfl, ?_⟩⟩
      rw [lot_in hq up]
      exact ite2 (fun c => absurd c (by decide)) (fun _ => ⟨_, rfl, k _ _ (s2.trans s3) (rx.sm s3)⟩)
    · intro fin
      refine ⟨_, rfl, rfl, _, rfl, ?_⟩
      by_cases ne : qs = []
      · subst ne
        refine ite2 (fun c => absurd c (by rw [lotT_nil]; decide)) (fun _ => ?_)
        refine ⟨Nat.zero_le _, fun p np => ?_⟩
        exact fin _ _ ⟨.ref p, rfl, s1.trans (same_new np), .tup upd_same List.not_mem_nil .nil⟩
      · refine ite2 (fun _ => ?_) (fun c => absurd (by simpa using lotT_ne ne oks) c)
        refine ⟨_, rfl, ⟨_, rfl⟩, _, _, rfl, rfl, by decide +kernel, by rw [sizeLine_eq]; omega, fun wa np => ?_⟩
        rw [lot_split ne oks]
        have s2 : Same H1 (upd H1 wa (.lst ((qs.map placeT).map V.str))) := same_new np
        have hw : upd H1 wa (.lst ((qs.map placeT).map V.str)) wa = some (.lst ((qs.map placeT).map V.str)) := upd_same
        generalize upd H1 wa (.lst ((qs.map placeT).map V.str)) = H2 at *
        refine ⟨wa, rfl, ⟨_, SqL.of hw⟩, fun D nD => ?_⟩
        refine lc_it (walk_list (xs := (qs.map placeT).map V.str)) (fun i H' => Same H2 H' ∧ ∃ acc : List V, H' D = some (.lst acc) ∧ acc.length = i ∧ Reps [D] H' acc ((qs.take i).map stD)) ⟨same_new nD, [], upd_same, rfl, .nil⟩ (fun i H' _ p => SqL.of (p.1 _ _ hw)) ?_ ?_
        · rintro i x H5 H4 hi ⟨s4, acc, hD, la, rA⟩ ⟨rfl, hx⟩
          rw [List.length_map, List.length_map] at hi
          rw [List.getElem?_map, List.getElem?_map, List.getElem?_eq_getElem hi] at hx
          obtain rfl := Option.some.inj hx
          have tk : qs.take (i + 1) = qs.take i ++ [qs[i]] := by rw [List.take_succ, List.getElem?_eq_getElem hi]; rfl
          refine ⟨rfl, _, rfl, qs[i], rfl, oks _ (List.getElem_mem hi), fun H6 x6 s6 r6 => ?_⟩
          refine ⟨acc, s6 _ _ hD, by rw [sizeLine_eq]; omega, same_own (s4.trans s6) nD, acc ++ [x6], upd_same, by rw [List.length_append, la]; rfl, ?_⟩
          have bD : But [D] H6 (upd H6 D (.lst (acc ++ [x6]))) := But.refl.upd List.mem_cons_self
          rw [tk, List.map_append]
          exact ((rA.sm s6).mv bD).app (.one ((Rep.avoid (s6 _ _ hD) _ _ rfl r6).mv bD))
        rintro H4 ⟨s4, acc, hD, la, rA⟩
        rw [List.length_map, List.length_map, List.take_length] at rA
        have rA0 := rA.less (st' := []) fun _ z => absurd z List.not_mem_nil
        refine ⟨D, acc, rfl, .inl ⟨SqL.of hD, fun tp ntp => ?_⟩⟩
        have sp : Same H4 (upd H4 tp (.tup acc)) := same_new ntp
        exact fin _ _ ⟨.ref tp, rfl, s1.trans (s2.trans (s4.trans sp)), .tup upd_same List.not_mem_nil (rA0.sm sp)⟩
def sp_read_pack : Sp := fun vs H Q _ => ∃ qs : List Pl, vs = [.str (packT qs)] ∧ qs.length ≤ 20 ∧ (∀ q ∈ qs, Pl.ok q) ∧ ∀ (H' : Hp) (x : V), Same H H' → Rep [] H' x (packD qs) → Q x H'
theorem ok_read_pack (T : Txt K w mg A) : FnOk P w K mg base CX0 3 A.f_read_pack A.d_read_pack ["line"] (sp_read_pack) := by
  refine T.F_read_pack.ok sc_read_pack (fun vs H Q E h => ?_) (fun cdv Ar outer s H vs Q E hr h => ?_)
  · obtain ⟨qs, rfl, l20, oks, k⟩ := h
    rfl
  · obtain ⟨qs, rfl, l20, oks, k⟩ := h
    refine ⟨_, PSs.nox ((pss_cons (ps_set (i := 1) sc_read_pack.nd rfl (Or.inl rfl) (pe_split (pv 0) pe_str))
 (pss_one (ps_ret (pe_ifExp (pt_cmpR op_eq (pe_ix ix_list (pv 1) pe_int (fun _ _ => rfl)) pe_str (nomark _)) (pe_callTy (show CallR _ _ (rTup2 K) from tup_k) (by rfl) T.ztuple (by decide +kernel) (pa_cons (pe_lc (own := [("word", 2)]) (g := (gName 2)) (tt := tYes) rfl sc_read_pack.nd (pi_list (pe_slice sl_list (pv 1) (po_some pe_int) po_none)) (blkOk_by (N := N_read_pack) (sc := defScope s_read_pack) (by decide +kernel)) (fun _ _ _ _ _ => (pg_name (i := 2) sc_read_pack.nd rfl (Or.inl rfl))) (fun _ _ _ _ _ => pts_nil) (fun _ _ _ _ _ => (pe_call (ok_read_place T) hr rfl T.m_read_place T.F_read_place.kp (b_read_place T) .nil pass0 (pa_cons (pv 2) pa_nil)))) pa_nil)) pe_non))))), ?_⟩
    rw [show start N_read_pack [.str (packT qs)] = [some (.str (packT qs)), none, none] from rfl]
    have lp := packT_len l20 oks
    refine ⟨_, rfl, ⟨_, rfl⟩, _, _, rfl, rfl, by decide +kernel, by rw [sizeLine_eq]; omega, fun wa np => ?_⟩
    rw [pack_split oks]
    have s1 : Same H (upd H wa (.lst ((("pack" : Str) :: qs.map placeT).map V.str))) := same_new np
    have hw0 : upd H wa (.lst ((("pack" : Str) :: qs.map placeT).map V.str)) wa = some (.lst ((("pack" : Str) :: qs.map placeT).map V.str)) := upd_same
    generalize upd H wa (.lst ((("pack" : Str) :: qs.map placeT).map V.str)) = H1 at *
    dsimp only [gName, List.set]
    refine ⟨_, rfl, wa, _, 0, _, rfl, rfl, SqL.of hw0, atI_nat (j := 0) rfl, rfl, _, rfl, ?_⟩
    refine ite2 (fun _ => ?_) (fun c => absurd (by decide +kernel) c)
    refine ⟨_, rfl, _, rfl, wa, _, rfl, SqL.of hw0, fun Sl nSl => ?_⟩
    have eS : cutV ((("pack" : Str) :: qs.map placeT).map V.str) (some 1) none = (qs.map placeT).map V.str := by
      rw [show (1 : Int) = ((1 : Nat) : Int) from rfl, cut_from (by simp)]
      rfl
    rw [eS]
    have s2 : Same H1 (upd H1 Sl (.lst ((qs.map placeT).map V.str))) := same_new nSl
    have hw : upd H1 Sl (.lst ((qs.map placeT).map V.str)) Sl = some (.lst ((qs.map placeT).map V.str)) := upd_same
    generalize upd H1 Sl (.lst ((qs.map placeT).map V.str)) = H2 at *
    refine ⟨Sl, rfl, ⟨_, SqL.of hw⟩, fun D nD => ?_⟩
    refine lc_it (walk_list (xs := (qs.map placeT).map V.str)) (fun i H' => Same H2 H' ∧ ∃ acc : List V, H' D = some (.lst acc) ∧ acc.length = i ∧ Reps [D] H' acc ((qs.take i).map stD)) ⟨same_new nD, [], upd_same, rfl, .nil⟩ (fun i H' _ p => SqL.of (p.1 _ _ hw)) ?_ ?_
    · rintro i x H5 H4 hi ⟨s4, acc, hD, la, rA⟩ ⟨rfl, hx⟩
      rw [List.length_map, List.length_map] at hi
      rw [List.getElem?_map, List.getElem?_map, List.getElem?_eq_getElem hi] at hx
      obtain rfl := Option.some.inj hx
      have tk : qs.take (i + 1) = qs.take i ++ [qs[i]] := by rw [List.take_succ, List.getElem?_eq_getElem hi]; rfl
      refine ⟨rfl, _, rfl, qs[i], rfl, oks _ (List.getElem_mem hi), fun H6 x6 s6 r6 => ?_⟩
      refine ⟨acc, s6 _ _ hD, by rw [sizeLine_eq]; omega, same_own (s4.trans s6) nD, acc ++ [x6], upd_same, by rw [List.length_append, la]; rfl, ?_⟩
      have bD : But [D] H6 (upd H6 D (.lst (acc ++ [x6]))) := But.refl.upd List.mem_cons_self
      rw [tk, List.map_append]
      exact ((rA.sm s6).mv bD).app (.one ((Rep.avoid (s6 _ _ hD) _ _ rfl r6).mv bD))
    rintro H4 ⟨s4, acc, hD, la, rA⟩
    rw [List.length_map, List.length_map, List.take_length] at rA
    have rA0 := rA.less (st' := []) fun _ z => absurd z List.not_mem_nil
    refine ⟨D, acc, rfl, .inl ⟨SqL.of hD, fun tp ntp => ?_⟩⟩
    have sp : Same H4 (upd H4 tp (.tup acc)) := same_new ntp
    
    exact k _ _ (s1.trans (s2.trans (s4.trans sp))) (.tup upd_same List.not_mem_nil (rA0.sm sp))
theorem dec_strR {s t : Str} : decide (V.str s = V.str t) = decide (s = t) := by
  rw [Bool.eq_iff_iff, decide_eq_true_eq, decide_eq_true_eq]
  exact ⟨fun h => V.str.inj h, fun h => by rw [h]⟩

def sp_read_door : Sp := fun vs H Q _ => ∃ p : Int × List Int, vs = [.str (doorT p)] ∧ NumsOk p ∧ ∀ (H' : Hp) (x : V), Same H H' → Rep [] H' x (doorD p) → Q x H'
theorem ok_read_door (T : Txt K w mg A) : FnOk P w K mg base CX0 3 A.f_read_door A.d_read_door ["line"] (sp_read_door) := by
  refine T.F_read_door.ok sc_read_door (fun vs H Q E h => ?_) (fun cdv Ar outer s H vs Q E hr h => ?_)
  · obtain ⟨p, rfl, n, k⟩ := h
    rfl
  · obtain ⟨p, rfl, n, k⟩ := h
    refine ⟨_, PSs.nox ((pss_cons (ps_set (i := 1) sc_read_door.nd rfl (Or.inl rfl) (pe_split (pv 0) pe_str))
 (pss_cons (ps_if (PW.pt (pw_or (pt_cmpR op_ne (pe_callB call_len_seq (by rfl) T.zlen (by decide +kernel) (pa_cons (pv 1) pa_nil)) pe_int (nomark _)) (pw_or1 (pt_cmpR op_ne (pe_ix ix_list (pv 1) pe_int (fun _ _ => rfl)) pe_str (nomark _))))) (pss_one (ps_ret pe_non)) pss_nil)
 (pss_one (ps_ret (pe_tup (pa_cons (pe_call (ok_read_number T) (hr.mono (by decide)) rfl T.m_read_number T.F_read_number.kp (b_read_number T) .nil pass0 (pa_cons (pe_ix ix_list (pv 1) pe_int (fun _ _ => rfl)) pa_nil)) (pa_cons (pe_ifExp (pt_cmpR op_eq (pe_ix ix_list (pv 1) pe_int (fun _ _ => rfl)) pe_str (nomark _)) (pe_tup pa_nil) (pe_call (ok_read_numbers T) hr rfl T.m_read_numbers T.F_read_numbers.kp (b_read_numbers T) .nil pass0 (pa_cons (pe_ix ix_list (pv 1) pe_int (fun _ _ => rfl)) pa_nil))) pa_nil)))))))), ?_⟩
    rw [show start N_read_door [.str (doorT p)] = [some (.str (doorT p)), none] from rfl]
    have lp := door_len n
    have l1 := digT_len (i := p.1) (by have := n.1; omega) n.2.1
    have l2 := digits_len n.2.2.1 n.2.2.2
    refine ⟨_, rfl, ⟨_, rfl⟩, _, _, rfl, rfl, by decide +kernel, by rw [sizeLine_eq]; omega, fun wa np => ?_⟩
    rw [door_split n]
    have s1 : Same H (upd H wa (.lst ([("door" : Str), digT p.1, digitsT p.2].map V.str))) := same_new np
    have hw : upd H wa (.lst ([("door" : Str), digT p.1, digitsT p.2].map V.str)) wa = some (.lst ([("door" : Str), digT p.1, digitsT p.2].map V.str)) := upd_same
    generalize upd H wa (.lst ([("door" : Str), digT p.1, digitsT p.2].map V.str)) = H1 at *
    dsimp only [gName, List.set]
    refine ⟨_, rfl, wa, _, rfl, .inl (SqL.of hw), rfl, _, rfl, ?_⟩
    refine ite2 (fun c => absurd c (by simp)) (fun _ => ?_)
    refine ⟨_, rfl, wa, _, 0, _, rfl, rfl, SqL.of hw, atI_nat (j := 0) rfl, rfl, _, rfl, ?_⟩
    refine ite2 (fun c => absurd c (by decide +kernel)) (fun _ => ?_)
    refine ⟨_, rfl, wa, _, 1, _, rfl, rfl, SqL.of hw, atI_nat (j := 1) rfl, digT p.1, rfl, by omega, ?_⟩
    rw [num_dig n.1 n.2.1]
    refine ⟨_, rfl, wa, _, 2, _, rfl, rfl, SqL.of hw, atI_nat (j := 2) rfl, rfl, _, rfl, ?_⟩
    rw [show decide (V.str (digitsT p.2) = V.str "-") = decide (digitsT p.2 = "-") from dec_strR]
    by_cases e : p.2 = []
    · have ed : digitsT p.2 = "-" := by unfold digitsT; rw [if_pos e]
      refine ite2 (fun _ => ?_) (fun c => absurd (decide_eq_true ed) c)
      refine ⟨Nat.zero_le _, fun t nt => ⟨by show 2 ≤ sizeLine; decide, fun t2 nt2 => ?_⟩⟩
      refine k _ _ (s1.trans ((same_new nt).trans (same_new nt2))) (.tup upd_same List.not_mem_nil (.cons (.int _) (.cons ?_ .nil)))
      rw [e]
      exact .tup ((same_new nt2) _ _ upd_same) List.not_mem_nil .nil
    · obtain ⟨e1, e2⟩ := digits_back e n.2.2.2
      refine ite2 (fun c => absurd (of_decide_eq_true c) e1) (fun _ => ?_)
      refine ⟨_, rfl, wa, _, 2, _, rfl, rfl, SqL.of hw, atI_nat (j := 2) rfl, digitsT p.2, rfl, by omega, fun H2 x s2 r => ⟨by show 2 ≤ sizeLine; decide, fun t2 nt2 => ?_⟩⟩
      rw [e2] at r
      exact k _ _ (s1.trans (s2.trans (same_new nt2))) (.tup upd_same List.not_mem_nil (.cons (.int _) (.cons ((show Rep [] H2 x (.tuple (p.2.map .int)) from r).sm (same_new nt2)) .nil)))
end
end Lb

set_option Elab.async false
set_option linter.all false
set_option maxRecDepth 100000
set_option maxHeartbeats 4000000

namespace Lb
open PySem PySem.Spec PyProof.Rows L2
section
variable {P : Program} {w : World} {K : PySem.W.Frag} {mg : Str → Option Value} {base : Heap} {A : Ad}
section
variable {X : Cx}
def tJoinK (K : PySem.W.Frag) (to te : TE) : TE := tM1 (fun x xs H Q => ∃ a p, ∃ ys : List Str, x = .str a ∧ xs = [.ref p] ∧ (SqL K H p (ys.map V.str) ∨ SqT K H p (ys.map V.str)) ∧
  (ys.map (·.length)).sum + ys.length * a.length ≤ 16777216 ∧ Q (.str (Txt.join a ys)) H) to te
theorem pe_joinK {K : PySem.W.Frag} {o e : Expr} {to te : TE} {apos pos : Pos} (ho : PE X o to) (he : PE X e te) (hK : X.K = K := by rfl) (hs : starEach [e] X.env = [(false, eval e X.env)] := by rfl) (hbase : attributeBase o "join" X.env (eval o X.env) = eval o X.env := by rfl) (hline : (apos.endLine == pos.line) = true := by rfl) :
    PE X (.Call (.Attribute o "join" apos) [e] [] pos) (tJoinK K to te) := by
  subst hK
  exact pe_join ho he hs hbase hline
end

def sp_show_layout : Sp := fun vs H Q _ => ∃ (v u : V) (S : List Addr) (P : Prog) (ns : List Int) (L : Lay), vs = [v, u] ∧ Rep S H u L.d ∧ Rep S H v P.d ∧ P.Ok ∧ ns.Pairwise (· < ·) ∧ (∀ k, k ∈ ns ↔ k ∈ doorsD P.d) ∧ ns.length ≤ 15 ∧ LayOk P ns L ∧ ∀ H', Same H H' → Q (.str (layT L)) H'
theorem ok_show_layout (T : Txt K w mg A) : FnOk P w K mg base CX0 13 A.f_show_layout A.d_show_layout ["program", "layout"] (sp_show_layout) := by
  refine T.F_show_layout.ok sc_show_layout (fun vs H Q E h => ?_) (fun cdv Ar outer s H vs Q E hr h => ?_)
  · obtain ⟨v, u, S, P, ns, L, rfl, ru, r, ok, up, mem, n15, h, k⟩ := h
    rfl
  · obtain ⟨v, u, S, P, ns, L, rfl, ru, r, ok, up, mem, n15, h, k⟩ := h
    refine ⟨_, PSs.nox ((pss_cons (ps_expr (pe_call (ok_demand_program T) (hr.mono (by decide)) rfl T.m_demand_program T.F_demand_program.kp (b_demand_program T) .nil pass0 (pa_cons (pv 0) pa_nil)))
 (pss_cons (ps_expr (pe_call (ok_demand_layout T) hr rfl T.m_demand_layout T.F_demand_layout.kp (b_demand_layout T) .nil pass0 (pa_cons (pv 0) (pa_cons (pv 1) pa_nil))))
 (pss_cons (ps_setLc (i := 2) (own := [("pack", 6)]) (g := (gName 6)) (tt := tYes) rfl sc_show_layout.nd rfl rfl (sw_true rfl rfl rfl (by decide +kernel)) (pi_tup (pe_ix ix_tup (pv 1) pe_int (fun _ _ => rfl))) (blkOk_by (N := N_show_layout) (sc := defScope s_show_layout) (by decide +kernel)) (fun _ _ _ _ _ => (pg_name (i := 6) sc_show_layout.nd rfl (Or.inl rfl))) (fun _ _ _ _ _ => pts_nil) (fun _ _ _ _ _ => (pe_joinK (K := K) pe_str (pe_op op_cat (pe_lst (pa_cons pe_str pa_nil)) (pe_lc (own := [("place", 7)]) (g := (gName 7)) (tt := tYes) rfl sc_show_layout.nd (show PI _ _ _ (iTup K (tVar 6)) from pi_tup (pv 6)) (blkOk_by (by rfl)) (fun _ _ _ _ _ => (pg_name (i := 7) sc_show_layout.nd rfl (Or.inl rfl))) (fun _ _ _ _ _ => pts_nil) (fun _ _ _ _ _ => (pe_call (ok_place_text T) (hr.mono (by decide)) rfl T.m_place_text T.F_place_text.kp (b_place_text T) .nil pass0 (pa_cons (pv 7) pa_nil))))))))
 (pss_cons (ps_for PassesOwn.never rfl (pi_tup (pe_ix ix_tup (pv 1) pe_int (fun _ _ => rfl))) (pg_tup (by rfl) (pgs_cons (pg_name (i := 3) sc_show_layout.nd rfl (Or.inl rfl)) (pgs_cons (pg_name (i := 4) sc_show_layout.nd rfl (Or.inl rfl)) pgs_nil))) (pss_cons (ps_set (i := 5) sc_show_layout.nd rfl (Or.inl rfl) (pe_ifExp (pt_truth (pv 4) (fun _ => rfl)) (pe_joinT rfl pe_str (by rfl) T.zmap (pf_bltn (by rfl) T.zstr PySem.Pv.boot_str) (pa_cons (pv 4) pa_nil) mapV_str) pe_str))
 (pss_one (ps_expr (pe_bm PySem.F.plainAttrs_list PySem.F.slot_list_append PySem.F.type_list_append mt_append (pv 2) (pa_cons (pe_joined (PJ.cons pe_str (PJ.cons (pe_fmt (pv 3)) (PJ.cons pe_str (PJ.cons (pe_fmt (pv 5)) PJ.nil))))) pa_nil))))))
 (pss_one (ps_ret (pe_join pe_str (pv 2))))))))), ?_⟩
    rw [show start N_show_layout [v, u] = [some (v), some (u), none, none, none, none, none, none] from rfl]
    have few8 := h.eight
    have n15' := nums_few ok n15 h
    have big : 10000 ≤ sizeLine := by rw [sizeLine_eq]; omega
    have f60 : (rowsOfD (nthD L.d 0)).length ≤ 60 := by
      rw [show nthD L.d 0 = .tuple (L.packs.map packD) from rfl, rows_packs, List.length_map]
      have := packs_few ok h
      omega
    have f50 : ∀ x ∈ itemsD (nthD L.d 1), (itemsD (nthD x 1)).length ≤ 50 := by
      intro x hx
      obtain ⟨p, hp, rfl⟩ := List.mem_map.mp (show x ∈ L.nums.map doorD from hx)
      show (p.2.map PyData.int).length ≤ 50
      have := h.few p hp
      rw [List.length_map]
      omega
    
    obtain ⟨a, p, q, rfl, ha, rp, rq⟩ := Rep.two (show Rep S H u (.tuple [.tuple (L.packs.map packD), .tuple (L.nums.map doorD)]) from ru)
    obtain ⟨b, pvs, rfl, hb, _, rps⟩ := rp.tupV
    obtain ⟨nb, nvs, rfl, hnb, _, rns⟩ := rq.tupV
    have lp : pvs.length = L.packs.length := by rw [rps.length, List.length_map]
    have ln : nvs.length = L.nums.length := by rw [rns.length, List.length_map]
    refine ⟨_, rfl, v, S, P.d, rfl, r, prog_ok ok, fun H1 s1 => ?_⟩
    refine ⟨_, rfl, _, rfl, v, .ref a, S, P.d, L.d, ns, rfl, r.sm s1, prog_ok ok, ru.sm s1, f60, f50, up, mem, lay_in h, fun H2 s2 => ?_⟩
    have s02 := s1.trans s2
    refine ⟨_, rfl, a, _, 0, _, rfl, rfl, SqT.of (s02 _ _ ha), atI_nat (j := 0) rfl, b, rfl, ⟨_, SqT.of (s02 _ _ hb)⟩, fun D nD => ?_⟩
    refine lc_pure (walk_tup (xs := pvs)) nD (fun i => V.str (packT (L.packs.getD i []))) (by rw [lp]; omega) (fun H' s' => SqT.of (s' _ _ (s02 _ _ hb))) ?_ ?_
    · rintro i x H4 H3 F hi s3 ⟨rfl, hx⟩ fin
      have il : i < L.packs.length := by omega
      obtain ⟨d, hd, rx⟩ := rps.get hx
      rw [List.getElem?_map, List.getElem?_eq_getElem il] at hd
      obtain rfl := Option.some.inj hd
      have eg : L.packs.getD i [] = L.packs[i] := by rw [List.getD_eq_getElem?_getD, List.getElem?_eq_getElem il]; rfl
      rw [eg] at fin
      obtain ⟨f20, oks⟩ := pack_few ok h (List.getElem_mem il)
      generalize L.packs[i] = qs at *
      obtain ⟨c, xs, rfl, hc, _, rs⟩ := Rep.tupV (show Rep S H x (.tuple (qs.map pD)) from rx)
      have lx : xs.length = qs.length := by rw [rs.length, List.length_map]
      have s03 := s02.trans s3
      refine ⟨rfl, ⟨_, rfl⟩, (by show 1 ≤ sizeLine; decide), fun l0 nl0 => ?_⟩
      have sl0 : Same H3 (upd H3 l0 (.lst [.str "pack"])) := same_new nl0
      have hl0 : upd H3 l0 (.lst [.str "pack"]) l0 = some (.lst [.str "pack"]) := upd_same
      generalize upd H3 l0 (.lst [.str "pack"]) = H5 at *
      have s05 := s03.trans sl0
      refine ⟨_, rfl, c, rfl, ⟨_, SqT.of ((s3.trans sl0) _ _ (s02 _ _ hc))⟩, fun D1 nD1 => ?_⟩
      refine lc_pure (walk_tup (xs := xs)) nD1 (fun j => V.str (placeT (qs.getD j (0, 0)))) (by omega) (fun H' s' => SqT.of (s' _ _ (s05 _ _ hc))) ?_ ?_
      · rintro j y H7 H6 F2 hj s6 ⟨rfl, hy⟩ fin2
        have jl : j < qs.length := by omega
        obtain ⟨d1, hd1, ry⟩ := rs.get hy
        rw [List.getElem?_map, List.getElem?_eq_getElem jl] at hd1
        obtain rfl := Option.some.inj hd1
        have eg1 : qs.getD j (0, 0) = qs[j] := by rw [List.getD_eq_getElem?_getD, List.getElem?_eq_getElem jl]; rfl
        rw [eg1] at fin2
        exact ⟨rfl, _, rfl, y, S, qs[j], rfl, ry.sm (s05.trans s6), oks _ (List.getElem_mem jl), fin2 _ (.refl _)⟩
      intro H6 s6 hD1
      rw [lx, range_map (fun q => V.str (placeT q)) (0, 0) qs] at hD1
      have eD : qs.map (fun q => V.str (placeT q)) = (qs.map placeT).map V.str := by rw [List.map_map]; rfl
      rw [eD] at hD1
      refine ⟨l0, D1, _, _, rfl, rfl, s6 _ _ hl0, hD1, by rw [List.length_map, List.length_map]; show 1 + _ ≤ _; omega, fun l2 nl2 => ?_⟩
      have su := sum_const placeT 3 qs fun q h => Nat.le_of_eq (placeT_len (oks q h))
      have h3 : ((" " : Str)).length = 1 := by decide +kernel
      have h4 : (("pack" : Str)).length = 4 := by decide +kernel
      refine ⟨_, l2, (("pack" : Str) :: qs.map placeT), rfl, rfl, .inl (SqL.of upd_same), ?_, fin _ (sl0.trans (s6.trans (same_new nl2)))⟩
      rw [List.map_cons, List.sum_cons, List.length_cons, List.length_map, h3, h4]
      omega
    intro H3 s3 hD
    rw [lp, range_map (fun q => V.str (packT q)) [] L.packs] at hD
    have eD : L.packs.map (fun q => V.str (packT q)) = (L.packs.map packT).map V.str := by rw [List.map_map]; rfl
    rw [eD] at hD
    have s03 := s02.trans s3
    dsimp only [gName, List.set]
    refine ⟨_, rfl, a, _, 1, _, rfl, rfl, SqT.of (s03 _ _ ha), atI_nat (j := 1) rfl, nb, rfl, ⟨_, SqT.of (s03 _ _ hnb)⟩, for_it (walk_tup (xs := nvs)) (fun i σ H' => ∃ o3 o4 o5 : Option V, σ = [some v, some (.ref a), some (.ref D), o3, o4, o5, none, none] ∧ Same H2 H' ∧ H' D = some (.lst ((L.packs.map packT ++ (L.nums.take i).map doorT).map V.str))) ⟨none, none, none, rfl, s3, by rw [List.take_zero, List.map_nil, List.append_nil]; exact hD⟩ (fun i σ H' _ q => by obtain ⟨_, _, _, _, s, _⟩ := q; exact SqT.of (s _ _ (s02 _ _ hnb))) ?_ ?_⟩
    · rintro i x σ H4 H5 hi ⟨o3, o4, o5, rfl, s4, hll⟩ ⟨rfl, hx⟩
      have il : i < L.nums.length := by omega
      obtain ⟨d, hd, rx⟩ := rns.get hx
      rw [List.getElem?_map, List.getElem?_eq_getElem il] at hd
      obtain rfl := Option.some.inj hd
      have n := nums_ok ok mem h (List.getElem_mem il)
      have tk : L.nums.take (i + 1) = L.nums.take i ++ [L.nums[i]] := by rw [List.take_succ, List.getElem?_eq_getElem il]; rfl
      generalize L.nums[i] = p at *
      obtain ⟨t, x1, x2, rfl, ht, r1, r2⟩ := Rep.two (show Rep S H x (.tuple [.int p.1, .tuple (p.2.map .int)]) from rx)
      obtain rfl := r1.intV
      obtain ⟨kb, kvs, rfl, hkb, _, rks⟩ := r2.tupV
      obtain rfl := ints_of rks
      have s24 := s02.trans s4
      have hkb4 := s24 _ _ hkb
      refine ⟨t, _, rfl, SqT.of (s24 _ _ ht), rfl, _, _, rfl, _, _, rfl, rfl, ?_⟩
      dsimp only [gName, List.set]
      have l1 := digT_len (i := p.1) (by have := n.1; omega) n.2.1
      have l2 := digits_len n.2.2.1 n.2.2.2
      have h5 : (("door " : Str)).length = 5 := by decide +kernel
      have h1 : ((" " : Str)).length = 1 := by decide +kernel
      refine cut_by (R := fun σ H' => σ = [some v, some (.ref a), some (.ref D), some (.int p.1), some (.ref kb), some (.str (digitsT p.2)), none, none] ∧ H' = H5) ?_ ?_
      · rintro σ H' ⟨rfl, rfl⟩
        refine ⟨_, rfl, .inl ⟨rfl, _, SqL.of hll⟩, _, rfl, by rw [emp, h5]; omega, _, rfl, .inr ⟨p.1, rfl, log_small (by have := n.1; omega) (by have := n.2.1; omega), digT p.1, rfl, by rw [emp, len_app, h5]; omega, _, rfl, by rw [emp, len_app, len_app, h5, h1]; omega, _, rfl, .inl ⟨digitsT p.2, rfl, by omega, _, rfl, by rw [emp, len_app, len_app, len_app, h5, h1]; omega, ?_⟩⟩⟩
        refine ⟨D, _, _, rfl, rfl, hll, by rw [List.length_map, List.length_append, List.length_map, List.length_map, List.length_take]; omega, _, _, _, rfl, same_own s4 nD, ?_⟩
        rw [upd_same, tk, emp]
        simp only [List.map_append, List.append_assoc]
        rfl
      · intro fin
        refine ⟨_, rfl, !(p.2.map V.int).isEmpty, .inr (.inl ⟨_, SqT.of hkb4, rfl⟩), ?_⟩
        by_cases e : p.2 = []
        · have ed : digitsT p.2 = "-" := by unfold digitsT; rw [if_pos e]
          refine ite2 (fun c => absurd c (by rw [e]; decide)) (fun _ => ?_)
          exact fin _ _ ⟨by rw [ed]; rfl, rfl⟩
        · have ed : digitsT p.2 = Txt.join "" (p.2.map digT) := by unfold digitsT; rw [if_neg e]
          refine ite2 (fun _ => ?_) (fun c => absurd (by cases h : p.2 with | nil => exact absurd h e | cons _ _ => rfl) c)
          refine ⟨⟨_, rfl⟩, _, rfl, "", kb, p.2.map V.int, p.2.map digT, rfl, rfl, SqT.of hkb4, ?_, ?_, ?_, fin _ _ ⟨by rw [ed]; rfl, rfl⟩⟩
          · intro z hz
            obtain ⟨k1, hk1, rfl⟩ := List.mem_map.mp hz
            have z := n.2.2.2 k1 hk1
            exact ⟨k1, rfl, log_small (by omega) (by omega)⟩
          · rw [List.map_map, List.map_map]
            rfl
          · have h2 := sum_const digT 2 p.2 fun k1 hk1 => digT_len (by have := (n.2.2.2 k1 hk1).1; omega) (n.2.2.2 k1 hk1).2
            have h3 : (("" : Str)).length = 0 := by decide +kernel
            have := n.2.2.1
            rw [h3]
            omega
    · rintro σ H4 ⟨o3, o4, o5, rfl, s4, hll⟩
      rw [ln, List.take_length] at hll
      exact ⟨⟨_, rfl⟩, _, rfl, _, D, layLines L, rfl, rfl, .inl (SqL.of hll), by have := lay_sum ok mem n15 h; omega, k H4 (s02.trans s4)⟩
end
end Lb

set_option Elab.async false
set_option linter.all false
set_option maxRecDepth 100000
set_option maxHeartbeats 4000000

namespace Lb
open PySem PySem.Spec PyProof.Rows L2
section
variable {P : Program} {w : World} {K : PySem.W.Frag} {mg : Str → Option Value} {base : Heap} {A : Ad}
def sp_read_layout : Sp := fun vs H Q _ => ∃ (v : V) (S : List Addr) (P : Prog) (ns : List Int) (L : Lay), vs = [v, .str (layT L)] ∧ Rep S H v P.d ∧ P.Ok ∧ ns.Pairwise (· < ·) ∧ (∀ k, k ∈ ns ↔ k ∈ doorsD P.d) ∧ ns.length ≤ 15 ∧ LayOk P ns L ∧ ∀ (H' : Hp) (x : V), Same H H' → Rep [] H' x L.d → Q x H'
theorem ok_read_layout (T : Txt K w mg A) : FnOk P w K mg base CX0 13 A.f_read_layout A.d_read_layout ["program", "text"] (sp_read_layout) := by
  refine T.F_read_layout.ok sc_read_layout (fun vs H Q E h => ?_) (fun cdv Ar outer s H vs Q E hr h => ?_)
  · obtain ⟨v, S, P, ns, L, rfl, r, ok, up, mem, n15, h, k⟩ := h
    rfl
  · obtain ⟨v, S, P, ns, L, rfl, r, ok, up, mem, n15, h, k⟩ := h
    refine ⟨_, PSs.nox ((pss_cons (ps_expr (pe_call (ok_demand_program T) (hr.mono (by decide)) rfl T.m_demand_program T.F_demand_program.kp (b_demand_program T) .nil pass0 (pa_cons (pv 0) pa_nil)))
 (pss_cons (ps_expr (pe_call (ok_demand_text T) (hr.mono (by decide)) rfl T.m_demand_text T.F_demand_text.kp (b_demand_text T) .nil pass0 (pa_cons (pv 1) pa_nil)))
 (pss_cons (ps_set (i := 2) sc_read_layout.nd rfl (Or.inl rfl) (pe_split (pv 1) pe_str))
 (pss_cons (ps_set (i := 3) sc_read_layout.nd rfl (Or.inl rfl) (pe_callB call_len_seq (by rfl) T.zlen (by decide +kernel) (pa_cons (pe_lc (own := [("line", 5)]) (g := (gName 5)) (tt := _) rfl sc_read_layout.nd (pi_list (pv 2)) (blkOk_by (N := N_read_layout) (sc := defScope s_read_layout) (by decide +kernel)) (fun _ _ _ _ _ => (pg_name (i := 5) sc_read_layout.nd rfl (Or.inl rfl))) (fun _ _ _ _ _ => (pts_one (pt_val (pe_m1 PySem.F.slot_str_startswith PySem.F.type_str_startswith mt_startswith (pv 5) pe_str)))) (fun _ _ _ _ _ => (pv 5))) pa_nil)))
 (pss_cons (ps_set (i := 4) sc_read_layout.nd rfl (Or.inl rfl) (pe_tup (pa_cons (pe_callTy call_tuple_of (by rfl) T.ztuple (by decide +kernel) (pa_cons (pe_lc (own := [("line", 5)]) (g := (gName 5)) (tt := tYes) rfl sc_read_layout.nd (pi_list (pe_slice sl_list (pv 2) po_none (po_some (pv 3)))) (blkOk_by (N := N_read_layout) (sc := defScope s_read_layout) (by decide +kernel)) (fun _ _ _ _ _ => (pg_name (i := 5) sc_read_layout.nd rfl (Or.inl rfl))) (fun _ _ _ _ _ => pts_nil) (fun _ _ _ _ _ => (pe_call (ok_read_pack T) (hr.mono (by decide)) rfl T.m_read_pack T.F_read_pack.kp (b_read_pack T) .nil pass0 (pa_cons (pv 5) pa_nil)))) pa_nil)) (pa_cons (pe_callTy call_tuple_of (by rfl) T.ztuple (by decide +kernel) (pa_cons (pe_lc (own := [("line", 5)]) (g := (gName 5)) (tt := tYes) rfl sc_read_layout.nd (pi_list (pe_slice sl_list (pv 2) (po_some (pv 3)) po_none)) (blkOk_by (N := N_read_layout) (sc := defScope s_read_layout) (by decide +kernel)) (fun _ _ _ _ _ => (pg_name (i := 5) sc_read_layout.nd rfl (Or.inl rfl))) (fun _ _ _ _ _ => pts_nil) (fun _ _ _ _ _ => (pe_call (ok_read_door T) (hr.mono (by decide)) rfl T.m_read_door T.F_read_door.kp (b_read_door T) .nil pass0 (pa_cons (pv 5) pa_nil)))) pa_nil)) pa_nil))))
 (pss_cons (ps_if (pt_not (pt_val (pe_call (ok_is_layout T) (hr.mono (by decide)) rfl T.m_is_layout T.F_is_layout.kp (b_is_layout T) .nil pass0 (pa_cons (pv 0) (pa_cons (pv 4) pa_nil))))) (pss_one ps_never) pss_nil)
 (pss_one (ps_ret (pv 4)))))))))), ?_⟩
    rw [show start N_read_layout [v, .str (layT L)] = [some (v), some (.str (layT L)), none, none, none, none] from rfl]
    have few8 := h.eight
    have n15' := nums_few ok n15 h
    have big : 10000 ≤ sizeLine := by rw [sizeLine_eq]; omega
    have f60 : (rowsOfD (nthD L.d 0)).length ≤ 60 := by
      rw [show nthD L.d 0 = .tuple (L.packs.map packD) from rfl, rows_packs, List.length_map]
      have := packs_few ok h
      omega
    have f50 : ∀ x ∈ itemsD (nthD L.d 1), (itemsD (nthD x 1)).length ≤ 50 := by
      intro x hx
      obtain ⟨p, hp, rfl⟩ := List.mem_map.mp (show x ∈ L.nums.map doorD from hx)
      show (p.2.map PyData.int).length ≤ 50
      have := h.few p hp
      rw [List.length_map]
      omega
    
    have ll := lay_len ok mem n15 h
    refine ⟨_, rfl, v, S, P.d, rfl, r, prog_ok ok, fun H1 s1 => ?_⟩
    refine ⟨_, rfl, layT L, rfl, ?_⟩
    refine ⟨_, rfl, ⟨_, rfl⟩, _, _, rfl, rfl, by decide +kernel, by omega, fun La np => ?_⟩
    have ne : layLines L ≠ [] := by
      intro z
      obtain ⟨e, he⟩ := List.exists_mem_of_length_pos ok.ent1
      have e0 := (ok.entIn e he).1
      have m := (mem e).mpr ((door_iff ok).mpr ⟨e0, .inl (by rw [Int.toNat_of_nonneg e0]; exact he)⟩)
      rw [← h.doors] at m
      obtain ⟨p, hp, _⟩ := List.mem_map.mp m
      have y : doorT p ∈ layLines L := List.mem_append_right _ (List.mem_map.mpr ⟨p, hp, rfl⟩)
      rw [z] at y
      exact nomatch y
    rw [lay_split ok mem h ne]
    have s2 : Same H1 (upd H1 La (.lst ((layLines L).map V.str))) := same_new np
    have hLa : upd H1 La (.lst ((layLines L).map V.str)) La = some (.lst ((layLines L).map V.str)) := upd_same
    generalize upd H1 La (.lst ((layLines L).map V.str)) = H2 at *
    dsimp only [gName, List.set]
    have l23 := lay_lines_len ok n15 h
    have s02 := s1.trans s2
    refine ⟨_, rfl, La, rfl, ⟨_, SqL.of hLa⟩, fun D nD => ?_⟩
    refine lc_flt (walk_list (xs := (layLines L).map V.str)) nD (fun i => (fun l : Str => if Txt.startswith l "pack" = true then some (V.str l) else none) ((layLines L).getD i "")) (by rw [List.length_map]; omega) (fun H' s' => SqL.of (s' _ _ hLa)) ?_ ?_
    · rintro i x H4 H3 F N hi s3 ⟨rfl, hx⟩ yes no
      rw [List.getElem?_map] at hx
      obtain ⟨l, hl, rfl⟩ := Option.map_eq_some_iff.mp hx
      have eg : (layLines L).getD i "" = l := by rw [List.getD_eq_getElem?_getD, hl]; rfl
      rw [eg] at yes no
      refine ⟨rfl, _, rfl, ⟨_, rfl⟩, l, "pack", rfl, rfl, _, rfl, ?_⟩
      exact ite2 (fun c => ⟨_, rfl, yes _ (if_pos c) _ (.refl _)⟩) (fun c => no (if_neg c) _ (.refl _))
    intro H3 s3 hD
    rw [List.length_map, range_flt (fun l : Str => if Txt.startswith l "pack" = true then some (V.str l) else none) "" (layLines L), packs_of_lines] at hD
    refine ⟨D, _, rfl, .inl (SqL.of hD), ?_⟩
    dsimp only [gName, List.set]
    rw [show ((((L.packs.map packT).map V.str).length : Nat) : Int) = ((L.packs.length : Nat) : Int) by rw [List.length_map, List.length_map]]
    have s03 := s02.trans s3
    have hLa3 := s3 _ _ hLa
    clear hD nD hLa
    refine ⟨_, rfl, _, rfl, _, rfl, La, _, rfl, SqL.of hLa3, fun S1 n1 => ?_⟩
    have e1 : cutV ((layLines L).map V.str) none (some ((L.packs.length : Nat) : Int)) = (L.packs.map packT).map V.str := by
      rw [cut_take]
      unfold layLines
      rw [List.map_append]
      exact List.take_left' (by rw [List.length_map, List.length_map])
    have e2 : cutV ((layLines L).map V.str) (some ((L.packs.length : Nat) : Int)) none = (L.nums.map doorT).map V.str := by
      rw [cut_from (by unfold layLines; rw [List.length_map, List.length_append, List.length_map]; omega)]
      unfold layLines
      rw [List.map_append]
      exact List.drop_left' (by rw [List.length_map, List.length_map])
    rw [e1]
    have s4 : Same H3 (upd H3 S1 (.lst ((L.packs.map packT).map V.str))) := same_new n1
    have hw1 : upd H3 S1 (.lst ((L.packs.map packT).map V.str)) S1 = some (.lst ((L.packs.map packT).map V.str)) := upd_same
    generalize upd H3 S1 (.lst ((L.packs.map packT).map V.str)) = H4 at *
    have s04 := s03.trans s4
    refine ⟨S1, rfl, ⟨_, SqL.of hw1⟩, fun D nD => ?_⟩
    refine lc_it (walk_list (xs := (L.packs.map packT).map V.str)) (fun i H' => Same H4 H' ∧ ∃ acc : List V, H' D = some (.lst acc) ∧ acc.length = i ∧ Reps [D] H' acc ((L.packs.take i).map packD)) ⟨same_new nD, [], upd_same, rfl, .nil⟩ (fun i H' _ p => SqL.of (p.1 _ _ hw1)) ?_ ?_
    · rintro i x H0 H' hi ⟨s', acc, hD, la, rA⟩ ⟨rfl, hx⟩
      rw [List.length_map, List.length_map] at hi
      rw [List.getElem?_map, List.getElem?_map, List.getElem?_eq_getElem hi] at hx
      obtain rfl := Option.some.inj hx
      have tk : L.packs.take (i + 1) = L.packs.take i ++ [L.packs[i]] := by rw [List.take_succ, List.getElem?_eq_getElem hi]; rfl
      refine ⟨rfl, _, rfl, L.packs[i], rfl, (pack_few ok h (List.getElem_mem hi)).1, (pack_few ok h (List.getElem_mem hi)).2, fun H6 x6 s6 r6 => ?_⟩
      refine ⟨acc, s6 _ _ hD, by omega, same_own (s'.trans s6) nD, acc ++ [x6], upd_same, by rw [List.length_append, la]; rfl, ?_⟩
      have bD : But [D] H6 (upd H6 D (.lst (acc ++ [x6]))) := But.refl.upd List.mem_cons_self
      rw [tk, List.map_append]
      exact ((rA.sm s6).mv bD).app (.one ((Rep.avoid (s6 _ _ hD) _ _ (noLst_pack _) r6).mv bD))
    rintro H5 ⟨s5, acc, hD, la, rA⟩
    rw [List.length_map, List.length_map, List.take_length] at rA
    have rA0 := rA.less (st' := []) fun _ z => absurd z List.not_mem_nil
    refine ⟨D, acc, rfl, .inl ⟨SqL.of hD, fun tp ntp => ?_⟩⟩
    have sp : Same H5 (upd H5 tp (.tup acc)) := same_new ntp
    have rp : Rep [] (upd H5 tp (.tup acc)) (.ref tp) (.tuple (L.packs.map packD)) := .tup upd_same List.not_mem_nil (rA0.sm sp)
    generalize upd H5 tp (.tup acc) = H6 at *
    have s46 := s5.trans sp
    have s06 := s04.trans s46
    have hLa6 := s46 _ _ (s4 _ _ hLa3)
    clear rA rA0 hD nD la ntp
    refine ⟨_, rfl, _, rfl, _, rfl, La, _, rfl, SqL.of hLa6, fun S2 n2 => ?_⟩
    rw [e2]
    have s7 : Same H6 (upd H6 S2 (.lst ((L.nums.map doorT).map V.str))) := same_new n2
    have hw2 : upd H6 S2 (.lst ((L.nums.map doorT).map V.str)) S2 = some (.lst ((L.nums.map doorT).map V.str)) := upd_same
    generalize upd H6 S2 (.lst ((L.nums.map doorT).map V.str)) = H7 at *
    refine ⟨S2, rfl, ⟨_, SqL.of hw2⟩, fun D nD => ?_⟩
    refine lc_it (walk_list (xs := (L.nums.map doorT).map V.str)) (fun i H' => Same H7 H' ∧ ∃ acc : List V, H' D = some (.lst acc) ∧ acc.length = i ∧ Reps [D] H' acc ((L.nums.take i).map doorD)) ⟨same_new nD, [], upd_same, rfl, .nil⟩ (fun i H' _ p => SqL.of (p.1 _ _ hw2)) ?_ ?_
    · rintro i x H0 H' hi ⟨s', acc, hD, la, rA⟩ ⟨rfl, hx⟩
      rw [List.length_map, List.length_map] at hi
      rw [List.getElem?_map, List.getElem?_map, List.getElem?_eq_getElem hi] at hx
      obtain rfl := Option.some.inj hx
      have tk : L.nums.take (i + 1) = L.nums.take i ++ [L.nums[i]] := by rw [List.take_succ, List.getElem?_eq_getElem hi]; rfl
      refine ⟨rfl, _, rfl, L.nums[i], rfl, nums_ok ok mem h (List.getElem_mem hi), fun H6 x6 s6 r6 => ?_⟩
      refine ⟨acc, s6 _ _ hD, by omega, same_own (s'.trans s6) nD, acc ++ [x6], upd_same, by rw [List.length_append, la]; rfl, ?_⟩
      have bD : But [D] H6 (upd H6 D (.lst (acc ++ [x6]))) := But.refl.upd List.mem_cons_self
      rw [tk, List.map_append]
      exact ((rA.sm s6).mv bD).app (.one ((Rep.avoid (s6 _ _ hD) _ _ (noLst_door _) r6).mv bD))
    rintro H9 ⟨s9, acc, hD, la, rA⟩
    rw [List.length_map, List.length_map, List.take_length] at rA
    have rA0 := rA.less (st' := []) fun _ z => absurd z List.not_mem_nil
    refine ⟨D, acc, rfl, .inl ⟨SqL.of hD, fun tq ntq => ⟨by show 2 ≤ sizeLine; decide, fun tt ntt => ?_⟩⟩⟩
    have sq : Same H9 (upd H9 tq (.tup acc)) := same_new ntq
    have st : Same (upd H9 tq (.tup acc)) (upd (upd H9 tq (.tup acc)) tt (.tup [.ref tp, .ref tq])) := same_new ntt
    have rL : Rep [] (upd (upd H9 tq (.tup acc)) tt (.tup [.ref tp, .ref tq])) (.ref tt) L.d := .tup upd_same List.not_mem_nil (.cons (rp.sm (s7.trans (s9.trans (sq.trans st)))) (.cons (.tup (st _ _ upd_same) List.not_mem_nil (rA0.sm (sq.trans st))) .nil))
    have s0t := s06.trans (s7.trans (s9.trans (sq.trans st)))
    generalize upd (upd H9 tq (.tup acc)) tt (.tup [.ref tp, .ref tq]) = HA at *
    dsimp only [gName, List.set]
    refine ⟨_, rfl, _, rfl, v, .ref tt, [], P.d, L.d, ns, rfl, (r.sm s0t).less (fun _ z => absurd z List.not_mem_nil), prog_ok ok, rL, f60, f50, up, mem, fun HB sB => ⟨_, rfl, ?_⟩⟩
    rw [lay_in h]
    exact ite2 (fun c => absurd c (by decide)) (fun _ => ⟨_, rfl, k _ _ (s0t.trans sB) (rL.sm sB)⟩)
end
end Lb

set_option Elab.async false
set_option linter.all false
set_option maxRecDepth 100000
set_option maxHeartbeats 4000000

namespace Lb
open PySem PySem.Spec PyProof.Rows L2
section
variable {P : Program} {w : World} {K : PySem.W.Frag} {mg : Str → Option Value} {base : Heap} {A : Ad}
def sp_law_named : Sp := fun vs H Q _ => ∃ (v : V) (S : List Addr) (rw_ : Row) (c : Int), vs = [v] ∧ Rep S H v rw_.d ∧ rw_.ok c ∧ Q (.int (namedZ rw_)) H
theorem ok_law_named (T : Txt K w mg A) : FnOk P w K mg base CX0 1 A.f_law_named A.d_law_named ["row"] (sp_law_named) := by
  refine T.F_law_named.ok sc_law_named (fun vs H Q E h => ?_) (fun cdv Ar outer s H vs Q E hr h => ?_)
  · obtain ⟨v, S, rw_, c, rfl, r, ok, k⟩ := h
    rfl
  · obtain ⟨v, S, rw_, c, rfl, r, ok, k⟩ := h
    refine ⟨_, PSs.nox ((pss_cons (ps_if (pt_cmpR op_eq (pe_ix ix_tup (pv 0) pe_int (fun _ _ => rfl)) pe_str (nomark _)) (pss_one (ps_ret (pe_ix ix_tup (pv 0) pe_int (fun _ _ => rfl)))) pss_nil)
 (pss_cons (ps_if (pt_cmpR op_eq (pe_ix ix_tup (pv 0) pe_int (fun _ _ => rfl)) pe_str (nomark _)) (pss_one (ps_ret (pe_ix ix_tup (pv 0) pe_int (fun _ _ => rfl)))) pss_nil)
 (pss_one (ps_ret (pe_un un_neg pe_int)))))), ?_⟩
    rw [show start N_law_named [v] = [some (v)] from rfl]
    cases rw_ with
    | load p =>
      obtain ⟨a, v0, v1, rfl, ha, r0, r1⟩ := r.two
      obtain rfl := r0.strV
      obtain rfl := r1.intV
      have lo := ok.1
      have e : namedZ (Row.load p) = p := Int.toNat_of_nonneg lo
      rw [e] at k
      refine ⟨_, rfl, a, _, 0, _, rfl, rfl, SqT.of ha, atI_nat (j := 0) rfl, rfl, _, rfl, ?_⟩
      refine ite2 (fun _ => ?_) (fun c => absurd (by decide +kernel) c)
      exact ⟨_, rfl, a, _, 1, _, rfl, rfl, SqT.of ha, atI_nat (j := 1) rfl, k⟩
    | give n ns b =>
      obtain ⟨a, v0, v1, v2, v3, rfl, ha, r0, r1, r2, r3⟩ := r.four
      obtain rfl := r0.strV
      obtain rfl := r1.strV
      obtain rfl := r3.blV
      refine ⟨_, rfl, a, _, 0, _, rfl, rfl, SqT.of ha, atI_nat (j := 0) rfl, rfl, _, rfl, ?_⟩
      refine ite2 (fun c => absurd c (by decide +kernel)) (fun _ => ?_)
      refine ⟨_, rfl, a, _, 0, _, rfl, rfl, SqT.of ha, atI_nat (j := 0) rfl, rfl, _, rfl, ?_⟩
      refine ite2 (fun c => absurd c (by decide +kernel)) (fun _ => ?_)
      exact ⟨_, rfl, k⟩
    | pass n p o =>
      obtain ⟨a, v0, v1, v2, v3, rfl, ha, r0, r1, r2, r3⟩ := r.four
      obtain rfl := r0.strV
      obtain rfl := r1.strV
      obtain rfl := r2.intV
      obtain rfl := r3.strV
      have lo := ok.2.1.1
      have e : namedZ (Row.pass n p o) = p := Int.toNat_of_nonneg lo
      rw [e] at k
      refine ⟨_, rfl, a, _, 0, _, rfl, rfl, SqT.of ha, atI_nat (j := 0) rfl, rfl, _, rfl, ?_⟩
      refine ite2 (fun c => absurd c (by decide +kernel)) (fun _ => ?_)
      refine ⟨_, rfl, a, _, 0, _, rfl, rfl, SqT.of ha, atI_nat (j := 0) rfl, rfl, _, rfl, ?_⟩
      refine ite2 (fun _ => ?_) (fun c => absurd (by decide +kernel) c)
      exact ⟨_, rfl, a, _, 2, _, rfl, rfl, SqT.of ha, atI_nat (j := 2) rfl, k⟩
    | show_ ns b =>
      obtain ⟨a, v0, v1, v2, rfl, ha, r0, r1, r2⟩ := r.three
      obtain rfl := r0.strV
      obtain rfl := r2.blV
      refine ⟨_, rfl, a, _, 0, _, rfl, rfl, SqT.of ha, atI_nat (j := 0) rfl, rfl, _, rfl, ?_⟩
      refine ite2 (fun c => absurd c (by decide +kernel)) (fun _ => ?_)
      refine ⟨_, rfl, a, _, 0, _, rfl, rfl, SqT.of ha, atI_nat (j := 0) rfl, rfl, _, rfl, ?_⟩
      refine ite2 (fun c => absurd c (by decide +kernel)) (fun _ => ?_)
      exact ⟨_, rfl, k⟩
    | out  =>
      obtain ⟨a, xs, rfl, ha, _, rs⟩ := r.tupV
      obtain ⟨v0, rfl, r0⟩ := rs.single
      obtain rfl := r0.strV
      refine ⟨_, rfl, a, _, 0, _, rfl, rfl, SqT.of ha, atI_nat (j := 0) rfl, rfl, _, rfl, ?_⟩
      refine ite2 (fun c => absurd c (by decide +kernel)) (fun _ => ?_)
      refine ⟨_, rfl, a, _, 0, _, rfl, rfl, SqT.of ha, atI_nat (j := 0) rfl, rfl, _, rfl, ?_⟩
      refine ite2 (fun c => absurd c (by decide +kernel)) (fun _ => ?_)
      exact ⟨_, rfl, k⟩
    | late n p ns =>
      obtain ⟨a, v0, v1, v2, v3, rfl, ha, r0, r1, r2, r3⟩ := r.four
      obtain rfl := r0.strV
      obtain rfl := r1.strV
      obtain rfl := r2.intV
      refine ⟨_, rfl, a, _, 0, _, rfl, rfl, SqT.of ha, atI_nat (j := 0) rfl, rfl, _, rfl, ?_⟩
      refine ite2 (fun c => absurd c (by decide +kernel)) (fun _ => ?_)
      refine ⟨_, rfl, a, _, 0, _, rfl, rfl, SqT.of ha, atI_nat (j := 0) rfl, rfl, _, rfl, ?_⟩
      refine ite2 (fun c => absurd c (by decide +kernel)) (fun _ => ?_)
      exact ⟨_, rfl, k⟩
def sp_law_doors : Sp := fun vs H Q _ => ∃ (v : V) (S : List Addr) (P : Prog), vs = [v] ∧ Rep S H v P.d ∧ P.Ok ∧ ∀ (p : Addr) (H' : Hp), Same H H' → H p = none → H' p = some (.lst ((doorsL P P.parts.length).map nV)) → Q (.ref p) H'
theorem ok_law_doors (T : Txt K w mg A) : FnOk P w K mg base CX0 1 A.f_law_doors A.d_law_doors ["program"] (sp_law_doors) := by
  refine T.F_law_doors.ok sc_law_doors (fun vs H Q E h => ?_) (fun cdv Ar outer s H vs Q E hr h => ?_)
  · obtain ⟨v, S, P, rfl, r, ok, k⟩ := h
    rfl
  · obtain ⟨v, S, P, rfl, r, ok, k⟩ := h
    refine ⟨_, PSs.nox ((pss_cons (ps_set (i := 1) sc_law_doors.nd rfl (Or.inl rfl) (pe_callTy call_list_of (by rfl) T.zlist (by decide +kernel) (pa_cons (pe_ix ix_tup (pv 0) pe_int (fun _ _ => rfl)) pa_nil)))
 (pss_cons (ps_for PassesOwn.never rfl (pi_tup (pe_ix ix_tup (pv 0) pe_int (fun _ _ => rfl))) (pg_name (i := 2) sc_law_doors.nd rfl (Or.inl rfl)) (pss_one (ps_set (i := 1) sc_law_doors.nd rfl (Or.inl rfl) (pe_op op_cat (pv 1) (pe_lc (own := [("row", 3)]) (g := (gName 3)) (tt := _) rfl sc_law_doors.nd (show PI _ _ _ (iTup K (tVar 2)) from pi_tup (pv 2)) (blkOk_by (N := N_law_doors) (sc := defScope s_law_doors) (by decide +kernel)) (fun _ _ _ _ _ => (pg_name (i := 3) sc_law_doors.nd rfl (Or.inl rfl))) (fun _ _ _ _ _ => (pts_one (PW.pt (pw_and (pt_cmpR op_eq (pe_ix (show IxR _ (rIxT K) from ix_tup) (pv 3) pe_int (fun _ _ => rfl)) pe_str (nomark _)) (pw_and1 (pt_cmpR op_ge (pe_ix (show IxR _ (rIxT K) from ix_tup) (pv 3) pe_int (fun _ _ => rfl)) pe_int (nomark _))))))) (fun _ _ _ _ _ => (pe_ix (show IxR _ (rIxT K) from ix_tup) (pv 3) pe_int (fun _ _ => rfl))))))))
 (pss_one (ps_ret (pv 1)))))), ?_⟩
    rw [show start N_law_doors [v] = [some (v), none, none, none] from rfl]
    obtain ⟨a, u0, u1, u2, u3, rfl, ha, r0, r1, r2, r3⟩ := r.four
    obtain ⟨b, xs, rfl, hb, _, rs⟩ := r0.tupV
    obtain ⟨eb, eys, rfl, heb, _, re⟩ := r2.tupV
    have four := ok.four
    have lx : xs.length = P.parts.length := by rw [rs.length, List.length_map]
    have ee : eys = (doorsL P 0).map nV := by
      have z := re.asInts fun e he => by obtain ⟨i, _, rfl⟩ := List.mem_map.mp he; exact ⟨i, rfl⟩
      rw [z, List.map_map, List.map_map]
      unfold doorsL
      rw [List.take_zero, List.flatMap_nil, List.append_nil, List.map_map]
      refine List.map_congr_left fun e he => ?_
      exact congrArg V.int (Int.toNat_of_nonneg (ok.entIn e he).1).symm
    refine ⟨_, rfl, a, _, 2, _, rfl, rfl, SqT.of (ha), atI_nat (j := 2) rfl, eb, eys, rfl, .inr (SqT.of heb), fun g0 ng0 => ?_⟩
    have s1 : Same H (upd H g0 (.lst eys)) := same_new ng0
    dsimp only [gName, List.set]
    refine ⟨_, rfl, a, _, 0, _, rfl, rfl, SqT.of (s1 _ _ ha), atI_nat (j := 0) rfl, b, rfl, ⟨_, SqT.of (s1 _ _ hb)⟩, ?_⟩
    refine for_it (walk_tup (xs := xs)) (fun i σ H' => ∃ (g : Addr) (o2 o3 : Option V), σ = [some (.ref a), some (.ref g), o2, o3] ∧ Same H H' ∧ H g = none ∧ H' g = some (.lst ((doorsL P i).map nV))) ⟨g0, none, none, rfl, s1, ng0, by rw [upd_same, ee]⟩ (fun i σ H' _ z => by obtain ⟨g, o2, o3, _, s, _⟩ := z; exact SqT.of (s _ _ hb)) ?_ ?_
    · rintro i x σ H2 H3 hi ⟨g, o2, o3, rfl, s2, ng, hg⟩ ⟨rfl, hx⟩
      obtain ⟨d, hd, rd⟩ := rs.get hx
      have il : i < P.parts.length := by omega
      rw [List.getElem?_map, List.getElem?_eq_getElem il] at hd
      obtain rfl : rowsD P.parts[i] = d := Option.some.inj hd
      have five := ok.five _ (List.getElem_mem il)
      have tk : doorsL P (i + 1) = doorsL P i ++ P.parts[i].filterMap lateN := by
        unfold doorsL
        rw [List.take_succ, List.getElem?_eq_getElem il, List.flatMap_append, ← List.append_assoc, Option.toList_some, List.flatMap_singleton]
      generalize P.parts[i] = rows at *
      obtain ⟨c, zs, rfl, hc, _, rz⟩ := rd.tupV
      have lz : zs.length = rows.length := by rw [rz.length, List.length_map]
      have few := doorsL_len ok i
      refine ⟨_, rfl, _, rfl, c, rfl, ⟨_, SqT.of (s2 _ _ hc)⟩, fun R2 nR2 => ?_⟩
      refine lc_flt (walk_tup (xs := zs)) nR2 (fun j => (lateN (rows.getD j .out)).map nV) (by rw [sizeLine_eq]; omega) (fun H5 s5 => SqT.of ((s2.trans s5) _ _ hc)) ?_ ?_
      · rintro j y H5 H6 F2 N2 hj s5 ⟨rfl, hy⟩ yes no
        obtain ⟨d, hd, rd2⟩ := rz.get hy
        have jl : j < rows.length := by omega
        rw [List.getElem?_map, List.getElem?_eq_getElem jl] at hd
        obtain rfl : rows[j].d = d := Option.some.inj hd
        have eg2 : rows.getD j .out = rows[j] := by rw [List.getD_eq_getElem?_getD, List.getElem?_eq_getElem jl]; rfl
        rw [eg2] at yes no
        generalize rows[j] = rw_ at *
        have r := rd2.sm (s2.trans s5)
        refine ⟨rfl, ?_⟩
        clear rd2 hy
        cases rw_ with
        | load p =>
          obtain ⟨a, v0, v1, rfl, ha, r0, r1⟩ := r.two
          obtain rfl := r0.strV
          obtain rfl := r1.intV
          refine ⟨_, rfl, a, _, 0, _, rfl, rfl, SqT.of ha, atI_nat (j := 0) rfl, rfl, _, rfl, ?_⟩
          refine ite2 (fun c => absurd c (by decide +kernel)) (fun _ => iteF ?_)
          exact no rfl _ (.refl _)
        | give n ns b =>
          obtain ⟨a, v0, v1, v2, v3, rfl, ha, r0, r1, r2, r3⟩ := r.four
          obtain rfl := r0.strV
          obtain rfl := r1.strV
          obtain rfl := r3.blV
          refine ⟨_, rfl, a, _, 0, _, rfl, rfl, SqT.of ha, atI_nat (j := 0) rfl, rfl, _, rfl, ?_⟩
          refine ite2 (fun c => absurd c (by decide +kernel)) (fun _ => iteF ?_)
          exact no rfl _ (.refl _)
        | pass n p o =>
          obtain ⟨a, v0, v1, v2, v3, rfl, ha, r0, r1, r2, r3⟩ := r.four
          obtain rfl := r0.strV
          obtain rfl := r1.strV
          obtain rfl := r2.intV
          obtain rfl := r3.strV
          refine ⟨_, rfl, a, _, 0, _, rfl, rfl, SqT.of ha, atI_nat (j := 0) rfl, rfl, _, rfl, ?_⟩
          refine ite2 (fun c => absurd c (by decide +kernel)) (fun _ => iteF ?_)
          exact no rfl _ (.refl _)
        | show_ ns b =>
          obtain ⟨a, v0, v1, v2, rfl, ha, r0, r1, r2⟩ := r.three
          obtain rfl := r0.strV
          obtain rfl := r2.blV
          refine ⟨_, rfl, a, _, 0, _, rfl, rfl, SqT.of ha, atI_nat (j := 0) rfl, rfl, _, rfl, ?_⟩
          refine ite2 (fun c => absurd c (by decide +kernel)) (fun _ => iteF ?_)
          exact no rfl _ (.refl _)
        | out  =>
          obtain ⟨a, xs, rfl, ha, _, rs⟩ := r.tupV
          obtain ⟨v0, rfl, r0⟩ := rs.single
          obtain rfl := r0.strV
          refine ⟨_, rfl, a, _, 0, _, rfl, rfl, SqT.of ha, atI_nat (j := 0) rfl, rfl, _, rfl, ?_⟩
          refine ite2 (fun c => absurd c (by decide +kernel)) (fun _ => iteF ?_)
          exact no rfl _ (.refl _)
        | late n p ns =>
          obtain ⟨a, v0, v1, v2, v3, rfl, ha, r0, r1, r2, r3⟩ := r.four
          obtain rfl := r0.strV
          obtain rfl := r1.strV
          obtain rfl := r2.intV
          refine ⟨_, rfl, a, _, 0, _, rfl, rfl, SqT.of ha, atI_nat (j := 0) rfl, rfl, _, rfl, ?_⟩
          refine ite2 (fun _ => ?_) (fun c => absurd (by decide +kernel) c)
          refine ⟨_, rfl, a, _, 2, _, rfl, rfl, SqT.of ha, atI_nat (j := 2) rfl, _, _, rfl, rfl, _, rfl, ?_⟩
          by_cases c : 0 ≤ p
          · have e : lateN (.late n p ns) = some p.toNat := if_pos c
            rw [decide_eq_true c]
            refine iteT ⟨_, rfl, a, _, 2, _, rfl, rfl, SqT.of ha, atI_nat (j := 2) rfl, ?_⟩
            have z := yes (nV p.toNat) (by rw [e]; rfl) _ (.refl _)
            rw [show nV p.toNat = V.int p from congrArg V.int (Int.toNat_of_nonneg c)] at z
            exact z
          · have e : lateN (.late n p ns) = none := if_neg c
            rw [decide_eq_false c]
            exact iteF (no (by rw [e]; rfl) _ (.refl _))
      · intro H5 s5 h5
        rw [lz, range_flt (fun row => (lateN row).map nV) .out rows] at h5
        have e5 : rows.filterMap (fun row => (lateN row).map nV) = (rows.filterMap lateN).map nV := by rw [List.map_filterMap]
        rw [e5] at h5
        have fl := List.length_filterMap_le lateN rows
        refine ⟨g, R2, _, _, rfl, rfl, s5 _ _ hg, h5, by rw [List.length_map, List.length_map, sizeLine_eq]; omega, fun q nq => ?_⟩
        have s6 := s2.trans s5
        exact ⟨q, _, _, rfl, s6.trans (same_new nq), same_none s6 nq, by rw [upd_same, tk, List.map_append]⟩
    · rintro σ H3 ⟨g, o2, o3, rfl, s3, ng, hg⟩
      rw [lx] at hg
      exact ⟨_, rfl, k g H3 s3 ng hg⟩
def sp_law_places : Sp := fun vs H Q _ => ∃ (v : V) (S : List Addr) (P : Prog), vs = [v] ∧ Rep S H v P.d ∧ P.Ok ∧ ∀ (p : Addr) (H' : Hp) (ys : List V), Same H H' → H p = none → H' p = some (.lst ys) → Reps [] H' ys ((placesP P P.parts.length).map stD) → Q (.ref p) H'
theorem ok_law_places (T : Txt K w mg A) : FnOk P w K mg base CX0 1 A.f_law_places A.d_law_places ["program"] (sp_law_places) := by
  refine T.F_law_places.ok sc_law_places (fun vs H Q E h => ?_) (fun cdv Ar outer s H vs Q E hr h => ?_)
  · obtain ⟨v, S, P, rfl, r, ok, k⟩ := h
    rfl
  · obtain ⟨v, S, P, rfl, r, ok, k⟩ := h
    refine ⟨_, PSs.nox ((pss_cons (ps_set (i := 1) sc_law_places.nd rfl (Or.inl rfl) (pe_lst pa_nil))
 (pss_cons (ps_for PassesOwn.never rfl (pi_range1 (by rfl) T.zrange (pa_cons (pe_callB call_len_seq (by rfl) T.zlen (by decide +kernel) (pa_cons (pe_ix ix_tup (pv 0) pe_int (fun _ _ => rfl)) pa_nil)) pa_nil)) (pg_name (i := 2) sc_law_places.nd rfl (Or.inr rfl)) (pss_one (ps_set (i := 1) sc_law_places.nd rfl (Or.inl rfl) (pe_op op_cat (pv 1) (pe_lc (own := [("k", 3)]) (g := (gName 3)) (tt := tYes) rfl sc_law_places.nd (pi_range1 (by rfl) T.zrange (pa_cons (pe_callB call_len_seq (by rfl) T.zlen (by decide +kernel) (pa_cons (pe_ix ix_tup (pe_ix ix_tup (pv 0) pe_int (fun _ _ => rfl)) (pv 2) (fun _ _ => rfl)) pa_nil)) pa_nil)) (blkOk_by (N := N_law_places) (sc := defScope s_law_places) (by decide +kernel)) (fun _ _ _ _ _ => (pg_name (i := 3) sc_law_places.nd rfl (Or.inl rfl))) (fun _ _ _ _ _ => pts_nil) (fun _ _ _ _ _ => (pe_tup (pa_cons (pv 2) (pa_cons (pv 3) pa_nil)))))))))
 (pss_one (ps_ret (pv 1)))))), ?_⟩
    rw [show start N_law_places [v] = [some (v), none, none, none] from rfl]
    obtain ⟨a, u0, u1, u2, u3, rfl, ha, r0, r1, r2, r3⟩ := r.four
    obtain ⟨b, xs, rfl, hb, _, rs⟩ := r0.tupV
    have four := ok.four
    have lx : xs.length = P.parts.length := by rw [rs.length, List.length_map]
    have rowE : ∀ j (hj : j < P.parts.length), ∃ c zs, xs[j]? = some (.ref c) ∧ H c = some (.tup zs) ∧ zs.length = (rowsOfP P j).length := fun j hj => by
      obtain ⟨y0, hy0, ry0⟩ := rs.at_ (i := j) (d := rowsD P.parts[j]) (by rw [List.getElem?_map, List.getElem?_eq_getElem hj]; rfl)
      obtain ⟨c, zs, rfl, hc, _, rz⟩ := ry0.tupV
      have eR : P.parts[j] = rowsOfP P j := by unfold rowsOfP; rw [List.getD_eq_getElem?_getD, List.getElem?_eq_getElem hj]; rfl
      exact ⟨c, zs, hy0, hc, by rw [rz.length, List.length_map, eR]⟩
    refine ⟨Nat.zero_le _, fun g0 ng0 => ?_⟩
    have s1 : Same H (upd H g0 (.lst [])) := same_new ng0
    dsimp only [gName, List.set]
    refine ⟨_, rfl, a, _, 0, _, rfl, rfl, SqT.of (s1 _ _ ha), atI_nat (j := 0) rfl, b, xs, rfl, .inr (SqT.of (s1 _ _ hb)), (P.parts.length : Int), by rw [lx], by omega, by omega, ?_⟩
    refine for_range (lo := 0) (n := P.parts.length) (fun i σ H' => ∃ (g : Addr) (o2 o3 : Option V) (ys : List V), σ = [some (.ref a), some (.ref g), o2, o3] ∧ Same H H' ∧ H g = none ∧ H' g = some (.lst ys) ∧ Reps [] H' ys ((placesP P i).map stD)) ⟨g0, none, none, [], rfl, s1, ng0, upd_same, .nil⟩ ?_ ?_
    · rintro i σ H2 hi ⟨g, o2, o3, ys, rfl, s2, ng, hg, ry⟩
      rw [Int.zero_add]
      dsimp only [gName, List.set]
      obtain ⟨c, zs, hy0, hc, lz⟩ := rowE i hi
      have l5 := rowsOfP_len ok i
      have ly := ry.length
      have lp := placesP_len ok i
      rw [List.length_map] at ly
      refine ⟨_, rfl, _, rfl, a, _, 0, _, rfl, rfl, SqT.of (s2 _ _ ha), atI_nat (j := 0) rfl, _, rfl, b, xs, (i : Int), .ref c, rfl, rfl, SqT.of (s2 _ _ hb), atI_nat hy0, c, zs, rfl, .inr (SqT.of (s2 _ _ hc)), ((rowsOfP P i).length : Int), by rw [lz], by omega, by omega, fun D nD => ?_⟩
      refine lc_it walk_range (fun j H3 => Same H2 H3 ∧ ∃ acc, H3 D = some (.lst acc) ∧ Reps [D] H3 acc ((partPl P i j).map stD)) ⟨same_new nD, [], upd_same, .nil⟩ (fun _ _ _ _ => trivial) ?_ ?_
      · rintro j x H4 H3 hj ⟨s3, acc, hD, rA⟩ ⟨rfl, rfl⟩
        have hj : j < (rowsOfP P i).length := by omega
        refine ⟨rfl, _, rfl, _, rfl, by show 2 ≤ sizeLine; decide, fun t nt => ?_⟩
        have st : Same H3 (upd H3 t (.tup [.int (i : Nat), .int (0 + (j : Nat))])) := same_new nt
        have la := rA.length
        unfold partPl at la
        rw [List.length_map, List.length_map, List.length_range] at la
        refine ⟨acc, st _ _ hD, by rw [sizeLine_eq]; omega, same_own (s3.trans st) nD, acc ++ [.ref t], upd_same, ?_⟩
        have bt : But [D] H3 (upd (upd H3 t (.tup [.int (i : Nat), .int (0 + (j : Nat))])) D (.lst (acc ++ [.ref t]))) := (But.of st).upd List.mem_cons_self
        have tD : t ≠ D := fun e => by rw [e, hD] at nt; exact nomatch nt
        rw [partPl_succ, List.map_append]
        exact (rA.mv bt).app (.one (.tup (by rw [upd_ne tD]; exact upd_same) (fun z => tD (List.mem_singleton.mp z)) (.cons (.int _) (.cons (int_rep' (Int.zero_add _)) .nil))))
      · rintro H3 ⟨s3, acc, hD, rA⟩
        rw [Int.toNat_natCast] at rA
        have la := rA.length
        unfold partPl at la
        rw [List.length_map, List.length_map, List.length_range] at la
        refine ⟨g, D, ys, acc, rfl, rfl, s3 _ _ hg, hD, by rw [sizeLine_eq]; omega, fun q nq => ?_⟩
        have sq : Same H3 (upd H3 q (.lst (ys ++ acc))) := same_new nq
        refine ⟨q, _, _, ys ++ acc, rfl, (s2.trans s3).trans sq, same_none (s2.trans s3) nq, upd_same, ?_⟩
        rw [placesP_succ, List.map_append]
        exact (ry.sm (s3.trans sq)).app ((rA.less fun _ z => absurd z List.not_mem_nil).sm sq)
    · rintro σ H3 ⟨g, o2, o3, ys, rfl, s3, ng, hg, ry⟩
      exact ⟨_, rfl, k g H3 ys s3 ng hg ry⟩
end
end Lb

set_option Elab.async false
set_option linter.all false
set_option maxRecDepth 100000
set_option maxHeartbeats 4000000

namespace Lb
open PySem PySem.Spec PyProof.Rows L2
section
variable {P : Program} {w : World} {K : PySem.W.Frag} {mg : Str → Option Value} {base : Heap} {A : Ad}
def sp_law_lot : Sp := fun vs H Q _ => ∃ (l : Addr) (m : Nat) (v : V) (P : Prog), vs = [.ref l, v] ∧ Pool m l H ∧ m ≤ 40000 ∧ Rep [l] H v P.d ∧ P.Ok ∧ ∀ (H' : Hp) (x : V) (qs : List Pl), But [l] H H' → Pool (m + 25) l H' → Rep [l] H' x (.tuple (qs.map stD)) → qs.Sublist (placesP P P.parts.length) → Q x H'
theorem ok_law_lot (T : Txt K w mg A) : FnOk P w K mg base CX0 3 A.f_law_lot A.d_law_lot ["pool", "program"] (sp_law_lot) := by
  refine T.F_law_lot.ok sc_law_lot (fun vs H Q E h => ?_) (fun cdv Ar outer s H vs Q E hr h => ?_)
  · obtain ⟨l, m, v, P, rfl, hp, m4, r, ok, k⟩ := h
    rfl
  · obtain ⟨l, m, v, P, rfl, hp, m4, r, ok, k⟩ := h
    refine ⟨_, PSs.nox ((pss_one (ps_ret (pe_callTy call_tuple_of (by rfl) T.ztuple (by decide +kernel) (pa_cons (pe_call (ok_law_subset T) hr rfl T.m_law_subset T.F_law_subset.kp (b_law_subset T) .nil pass0 (pa_cons (pv 0) (pa_cons (pe_call (ok_law_places T) (hr.mono (by decide)) rfl T.m_law_places T.F_law_places.kp (b_law_places T) .nil pass0 (pa_cons (pv 1) pa_nil)) (pa_cons pe_int pa_nil)))) pa_nil))))), ?_⟩
    rw [show start N_law_lot [.ref l, v] = [some (.ref l), some (v)] from rfl]
    refine ⟨_, rfl, _, rfl, v, [l], P, rfl, r, ok, fun p H1 ys s1 np hpl ry => ?_⟩
    have ly := ry.length
    rw [List.length_map] at ly
    have tot := placesP_many ok
    have pl : p ≠ l := hp.ne np
    refine ⟨l, p, m, 12, ys, rfl, hp.same s1, by omega, hpl, pl, by omega, by decide, fun H2 q zs b2 p2 nq hq sub le => ?_⟩
    refine ⟨q, zs, rfl, .inl ⟨SqL.of hq, fun t nt => ?_⟩⟩
    obtain ⟨es, se, rz⟩ := ry.subl sub
    obtain ⟨qs, sq, rfl⟩ := List.sublist_map_iff.mp se
    have no : noLsts (qs.map stD) = true := noLst_pairs qs
    have hl1 : ∀ z ∈ [l], ∃ zs, H1 z = some (.lst zs) := fun z hz => by
      rw [List.mem_singleton.mp hz]
      exact (hp.same s1).lst
    have rz2 := Reps.past no rz hl1 b2
    have st : Same H2 (upd H2 t (.tup zs)) := same_new nt
    refine k _ _ qs ((But.of s1).trans (b2.trans (.of st))) (p2.same st) ?_ sq
    refine .tup upd_same (fun z => p2.ne nt (List.mem_singleton.mp z)) ?_
    refine Reps.avoids no (rz2.sm st) [l] fun z hz => ?_
    rw [List.mem_singleton.mp hz]
    exact (p2.same st).lst
end
end Lb

set_option Elab.async false
set_option linter.all false
set_option maxRecDepth 100000
set_option maxHeartbeats 4000000

namespace Lb
open PySem PySem.Spec PyProof.Rows L2
section
variable {P : Program} {w : World} {K : PySem.W.Frag} {mg : Str → Option Value} {base : Heap} {A : Ad}
def nsP (P : Prog) : List Int := ((List.range P.parts.length).map fun (k : Nat) => (k : Int)).filter fun k => decide (k ∈ doorsD P.d)
theorem nsP_up (P : Prog) : (nsP P).Pairwise (· < ·) := by
  refine List.Pairwise.filter _ ?_
  rw [List.pairwise_map]
  exact List.Pairwise.imp (fun h => by omega) List.pairwise_lt_range
theorem nsP_mem {P : Prog} (ok : P.Ok) (k : Int) : k ∈ nsP P ↔ k ∈ doorsD P.d := by
  unfold nsP
  rw [List.mem_filter, decide_eq_true_eq]
  refine ⟨fun h => h.2, fun h => ⟨?_, h⟩⟩
  obtain ⟨k0, kd⟩ := (door_iff ok).mp h
  exact List.mem_map.mpr ⟨k.toNat, List.mem_range.mpr (door_lt ok kd), Int.toNat_of_nonneg k0⟩
theorem nsP_few {P : Prog} (ok : P.Ok) : (nsP P).length ≤ 15 := by
  unfold nsP
  refine Nat.le_trans (List.length_filter_le _ _) ?_
  rw [List.length_map, List.length_range]
  have := ok.four
  omega
theorem doorsL_ints {P : Prog} (ok : P.Ok) (k : Int) : k ∈ (doorsL P P.parts.length).map (fun (j : Nat) => (j : Int)) ↔ k ∈ doorsD P.d := by
  rw [door_iff ok, List.mem_map]
  constructor
  · rintro ⟨j, hj, rfl⟩
    exact ⟨Int.natCast_nonneg j, (doorsL_iff ok j).mp hj⟩
  · rintro ⟨k0, kd⟩
    exact ⟨k.toNat, (doorsL_iff ok _).mpr kd, Int.toNat_of_nonneg k0⟩

def sp_law_layout : Sp := fun vs H Q _ => ∃ (l : Addr) (m : Nat) (v : V) (P : Prog), vs = [.ref l, v] ∧ Pool m l H ∧ m ≤ 40000 ∧ Rep [l] H v P.d ∧ P.Ok ∧ ∀ (H' : Hp) (lv : V) (Y : Lay), But [l] H H' → Pool (m + 700) l H' → Rep [l] H' lv Y.d → LayOk P (nsP P) Y → Q lv H'
theorem ok_law_layout (T : Txt K w mg A) : FnOk P w K mg base CX0 3 A.f_law_layout A.d_law_layout ["pool", "program"] (sp_law_layout) := by
  refine T.F_law_layout.ok sc_law_layout (fun vs H Q E h => ?_) (fun cdv Ar outer s H vs Q E hr h => ?_)
  · obtain ⟨l, m, v, P, rfl, hp, m4, r, ok, k⟩ := h
    rfl
  · obtain ⟨l, m, v, P, rfl, hp, m4, r, ok, k⟩ := h
    refine ⟨_, PSs.nox ((pss_cons (ps_setLc (i := 2) (own := [("k", 8)]) (g := (gName 8)) (tt := tYes) rfl sc_law_layout.nd rfl rfl (sw_true rfl rfl rfl (by decide +kernel)) (pi_range1 (by rfl) T.zrange (pa_cons (pe_call (ok_law_draw T) (hr.mono (by decide)) rfl T.m_law_draw T.F_law_draw.kp (b_law_draw T) .nil pass0 (pa_cons (pv 0) (pa_cons pe_int pa_nil))) pa_nil)) (blkOk_by (N := N_law_layout) (sc := defScope s_law_layout) (by decide +kernel)) (fun _ _ _ _ _ => (pg_name (i := 8) sc_law_layout.nd rfl (Or.inl rfl))) (fun _ _ _ _ _ => pts_nil) (fun _ _ _ _ _ => (pe_lst pa_nil)))
 (pss_cons (ps_for PassesOwn.never rfl (pi_list (pe_call (ok_law_places T) (hr.mono (by decide)) rfl T.m_law_places T.F_law_places.kp (b_law_places T) .nil pass0 (pa_cons (pv 1) pa_nil))) (pg_name (i := 3) sc_law_layout.nd rfl (Or.inl rfl)) (pss_cons (ps_set (i := 4) sc_law_layout.nd rfl (Or.inl rfl) (pe_call (ok_law_draw T) (hr.mono (by decide)) rfl T.m_law_draw T.F_law_draw.kp (b_law_draw T) .nil pass0 (pa_cons (pv 0) (pa_cons (pe_op op_add (pe_callB call_len_seq (by rfl) T.zlen (by decide +kernel) (pa_cons (pv 2) pa_nil)) pe_int) pa_nil))))
 (pss_one (ps_if (pt_cmpR op_lt (pv 4) (pe_callB call_len_seq (by rfl) T.zlen (by decide +kernel) (pa_cons (pv 2) pa_nil)) (nomark _)) (pss_one (ps_expr (pe_bm PySem.F.plainAttrs_list PySem.F.slot_list_insert PySem.F.type_list_insert mt_insert (pe_ix ix_list (pv 2) (pv 4) (fun _ _ => rfl)) (pa_cons (pe_call (ok_law_draw T) (hr.mono (by decide)) rfl T.m_law_draw T.F_law_draw.kp (b_law_draw T) .nil pass0 (pa_cons (pv 0) (pa_cons (pe_op op_add (pe_callB call_len_seq (by rfl) T.zlen (by decide +kernel) (pa_cons (pe_ix ix_list (pv 2) (pv 4) (fun _ _ => rfl)) pa_nil)) pe_int) pa_nil))) (pa_cons (pv 3) pa_nil))))) pss_nil))))
 (pss_cons (ps_set (i := 5) sc_law_layout.nd rfl (Or.inl rfl) (pe_lst pa_nil))
 (pss_cons (ps_for PassesOwn.never rfl (pi_list (pe_callB (cr_sortedSet rfl) (by rfl) T.zsorted (by decide +kernel) (pa_cons (pe_callTy (cr_setI rfl) (by rfl) T.zset (by decide +kernel) (pa_cons (pe_call (ok_law_doors T) (hr.mono (by decide)) rfl T.m_law_doors T.F_law_doors.kp (b_law_doors T) .nil pass0 (pa_cons (pv 1) pa_nil)) pa_nil)) pa_nil))) (pg_name (i := 6) sc_law_layout.nd rfl (Or.inl rfl)) (pss_cons (ps_set (i := 7) sc_law_layout.nd rfl (Or.inl rfl) (pe_lst pa_nil))
 (pss_cons (ps_for PassesOwn.never rfl (pi_list (pe_call (ok_law_subset T) hr rfl T.m_law_subset T.F_law_subset.kp (b_law_subset T) .nil pass0 (pa_cons (pv 0) (pa_cons (pe_listRg rfl (by rfl) T.zlist (prg_1 (by rfl) T.zrange (pe_callB call_len_seq (by rfl) T.zlen (by decide +kernel) (pa_cons (pv 2) pa_nil)))) (pa_cons pe_int pa_nil))))) (pg_name (i := 8) sc_law_layout.nd rfl (Or.inl rfl)) (pss_one (ps_expr (pe_bm PySem.F.plainAttrs_list PySem.F.slot_list_insert PySem.F.type_list_insert mt_insert (pv 7) (pa_cons (pe_call (ok_law_draw T) (hr.mono (by decide)) rfl T.m_law_draw T.F_law_draw.kp (b_law_draw T) .nil pass0 (pa_cons (pv 0) (pa_cons (pe_op op_add (pe_callB call_len_seq (by rfl) T.zlen (by decide +kernel) (pa_cons (pv 7) pa_nil)) pe_int) pa_nil))) (pa_cons (pv 8) pa_nil))))))
 (pss_one (ps_expr (pe_bm PySem.F.plainAttrs_list PySem.F.slot_list_append PySem.F.type_list_append mt_append (pv 5) (pa_cons (pe_tup (pa_cons (pv 6) (pa_cons (pe_callTy call_tuple_of (by rfl) T.ztuple (by decide +kernel) (pa_cons (pv 7) pa_nil)) pa_nil))) pa_nil)))))))
 (pss_one (ps_ret (pe_tup (pa_cons (pe_callTy call_tuple_of (by rfl) T.ztuple (by decide +kernel) (pa_cons (pe_lc (own := [("pack", 9)]) (g := (gName 9)) (tt := tYes) rfl sc_law_layout.nd (pi_list (pv 2)) (blkOk_by (N := N_law_layout) (sc := defScope s_law_layout) (by decide +kernel)) (fun _ _ _ _ _ => (pg_name (i := 9) sc_law_layout.nd rfl (Or.inl rfl))) (fun _ _ _ _ _ => pts_nil) (fun _ _ _ _ _ => (pe_callTy (show CallR _ _ (rTup2 K) from tup_k) (by rfl) T.ztuple (by decide +kernel) (pa_cons (pv 9) pa_nil)))) pa_nil)) (pa_cons (pe_callTy call_tuple_of (by rfl) T.ztuple (by decide +kernel) (pa_cons (pv 5) pa_nil)) pa_nil)))))))))), ?_⟩
    rw [show start N_law_layout [.ref l, v] = [some (.ref l), some (v), none, none, none, none, none, none, none, none] from rfl]
    have tot := placesP_many ok
    have PLn := placesP_nd P P.parts.length
    refine ⟨_, rfl, l, m, 9, rfl, hp, by omega, by decide, by decide, fun H2 w b2 p2 w0 w1 => ?_⟩
    obtain ⟨M, rfl⟩ : ∃ M : Nat, w = (M : Int) := ⟨w.toNat, (Int.toNat_of_nonneg w0).symm⟩
    have M8 : M ≤ 8 := by omega
    refine ⟨(M : Int), rfl, by omega, by omega, fun PK nPK => ?_⟩
    refine lc_range (lo := 0) (n := M) (fun i H' => Same H2 H' ∧ ∃ ls : List Addr, H' PK = some (.lst (ls.map V.ref)) ∧ ls.length = i ∧ ls.Nodup ∧ ∀ x ∈ ls, H2 x = none ∧ x ≠ PK ∧ H' x = some (.lst [])) ⟨same_new nPK, [], upd_same, rfl, .nil, fun _ z => absurd z List.not_mem_nil⟩ ?_ ?_
    · rintro i H' hi ⟨s', ls, hPK, ll, nd, fr⟩
      refine ⟨rfl, Nat.zero_le _, fun x nx => ?_⟩
      have xPK : x ≠ PK := (ne_of_none hPK nx).symm
      have xls : x ∉ ls := fun z => by
        have e := (fr x z).2.2
        rw [nx] at e
        exact nomatch e
      refine ⟨ls.map V.ref, same_new nx _ _ hPK, by rw [List.length_map, ll, sizeLine_eq]; omega, ?_, ls ++ [x], by rw [List.map_append]; exact upd_same, by rw [List.length_append, ll]; rfl, ?_, fun y hy => ?_⟩
      · intro b o e
        rw [upd_ne (ne_of_none e nPK)]
        exact same_new nx _ _ (s' _ _ e)
      · refine List.nodup_append.mpr ⟨nd, List.nodup_cons.mpr ⟨List.not_mem_nil, .nil⟩, fun a ha b hb e => ?_⟩
        rw [List.mem_singleton.mp hb] at e
        rw [e] at ha
        exact xls ha
      · rcases List.mem_append.mp hy with z | z
        · have f := fr y z
          exact ⟨f.1, f.2.1, by rw [upd_ne f.2.1]; exact same_new nx _ _ f.2.2⟩
        · rw [List.mem_singleton.mp z]
          exact ⟨none_back s' nx, xPK, by rw [upd_ne xPK]; exact upd_same⟩
    rintro H3 ⟨s3, ls, hPK, ll, nd, fr⟩
    dsimp only [gName, List.set]
    have lm : (ls.map V.ref).length = M := by rw [List.length_map, ll]
    have p3 := p2.same s3
    have b03 : But [l] H H3 := b2.trans (.of s3)
    have PKl := p2.ne nPK
    have lsl : ∀ x ∈ ls, x ≠ l := fun x hx => p2.ne (fr x hx).1
    have lsPK : ∀ x ∈ ls, x ≠ PK := fun x hx => (fr x hx).2.1
    have emp : PksAt H3 ls (List.replicate M []) := ⟨by rw [List.length_replicate, ll], fun j x hj => by
      have xm := List.mem_of_getElem? hj
      have lt := (List.getElem?_eq_some_iff.mp hj).1
      exact ⟨[], [], (fr x xm).2.2, by rw [List.getElem?_replicate, if_pos (by omega)], .nil⟩⟩
    have back : ∀ x : Addr, x ≠ l → H2 x = none → H x = none := fun x n e0 => by
      rcases Classical.em (H x = none) with e | e
      · exact e
      · obtain ⟨o, ho⟩ := Option.ne_none_iff_exists'.mp e
        have z := b2 x o (fun z => n (List.mem_singleton.mp z)) ho
        rw [e0] at z
        exact nomatch z
    have fresh0 : ∀ x ∈ ls, H x = none := fun x hx => back x (lsl x hx) (fr x hx).1
    have freshP : H PK = none := back PK PKl nPK
    clear s3 nPK b2 fr back
    have rv3 := r.mv b03
    refine ⟨_, rfl, v, [l], P, rfl, rv3, ok, fun PL H4 ys s4 nPL hPL rY => ?_⟩
    have ly := rY.length
    rw [List.length_map] at ly
    have p4 := p3.same s4
    have PLl := p3.ne nPL
    have hPK4 := s4 _ _ hPK
    have emp4 := emp.sm s4
    have lsPL : ∀ x ∈ ls, x ≠ PL := fun x hx => by
      obtain ⟨zs, h⟩ := emp.lists x hx
      exact ne_of_none h nPL
    have PKPL : PK ≠ PL := ne_of_none hPK nPL
    have in1 : ∀ {x : Addr}, x ≠ l → (∀ y ∈ ls, y ≠ x) → x ∉ l :: ls := fun n1 n2 z => (List.mem_cons.mp z).elim n1 fun z => n2 _ z rfl
    have lst1 : ∀ {m' : Nat} {H' : Hp}, Pool m' l H' → ∀ z ∈ [l], ∃ zs, H' z = some (.lst zs) := fun p z hz => by
      rw [List.mem_singleton.mp hz]
      exact p.lst
    have off1 : ∀ x ∈ ls, x ∉ [l] := fun x hx z => lsl x hx (List.mem_singleton.mp z)
    refine ⟨PL, rfl, ⟨_, SqL.of hPL⟩, for_list (K := K) (a := PL) (xs := ys) (fun i σ H' => ∃ (qss : List (List (Nat × Nat))) (o3 o4 : Option V), σ = [some (.ref l), some v, some (.ref PK), o3, o4, none, none, none, none, none] ∧
      But (l :: ls) H4 H' ∧ Pool (m + 1 + 2 * i) l H' ∧ PksAt H' ls qss ∧ qss.flatten.Nodup ∧ (∀ q ∈ qss.flatten, q ∈ (placesP P P.parts.length).take i) ∧ Reps [] H' ys ((placesP P P.parts.length).map pD) ∧ qss.flatten.length ≤ i) ?_ ?_ ?_ ?_⟩
    · refine ⟨List.replicate M [], _, _, rfl, .refl, p4, emp4, ?_, ?_, rY, ?_⟩
      · rw [flat_rep]
        exact .nil
      · rw [flat_rep]
        exact fun q z => absurd z List.not_mem_nil
      · rw [flat_rep]
        exact Nat.le_refl _
    · rintro i σ H' hi ⟨qss, o3, o4, rfl, b5, _⟩
      exact SqL.of (b5 _ _ (in1 PLl lsPL) hPL)
    · rintro i y σ H' hy ⟨qss, o3, o4, rfl, b5, p5, pk5, ndq, sub, rY5, fl⟩
      obtain ⟨dq, hdq, ry⟩ := rY5.get hy
      rw [List.getElem?_map] at hdq
      obtain ⟨q, hq, rfl⟩ := Option.map_eq_some_iff.mp hdq
      have iq := (List.getElem?_eq_some_iff.mp hq).1
      have hPK5 := b5 _ _ (in1 PKl lsPK) hPK4
      have lq := pk5.1
      refine ⟨_, rfl, _, rfl, PK, _, rfl, .inl (SqL.of hPK5), _, _, rfl, rfl, l, _, _, rfl, p5, by omega, by rw [lm]; omega, by rw [lm]; omega, fun H6 w b6 p6 w0 w1 => ?_⟩
      rw [lm] at w1
      dsimp only [gName, List.set]
      have pk6 := pk5.past (lst1 p5) b6 off1
      have rY6 := Reps.past (noLst_pairs _) rY5 (lst1 p5) b6
      have ry6 := Rep.past (d := pD q) rfl ry (lst1 p5) b6
      have b46 : But (l :: ls) H4 H6 := b5.trans (b6.mono fun x z => by rw [List.mem_singleton.mp z]; exact List.mem_cons_self)
      have hPK6 := b6.at1 hPK5 PKl
      have tk : (placesP P P.parts.length).take (i + 1) = (placesP P P.parts.length).take i ++ [q] := by rw [List.take_succ, hq]; rfl
      refine ⟨_, rfl, _, rfl, PK, _, rfl, .inl (SqL.of hPK6), _, _, rfl, rfl, _, rfl, ?_⟩
      rw [lm]
      refine ite2 (fun c => ?_) (fun c => ?_)
      · have wm : w < M := of_decide_eq_true c
        obtain ⟨x, hx⟩ : ∃ x, ls[w.toNat]? = some x := ⟨_, List.getElem?_eq_getElem (by omega)⟩
        have xm := List.mem_of_getElem? hx
        have at_w : atI (ls.map V.ref) w = some (.ref x) := by
          have e := atI_nat (xs := ls.map V.ref) (j := w.toNat) (v := .ref x) (by rw [List.getElem?_map, hx]; rfl)
          rwa [Int.toNat_of_nonneg w0] at e
        obtain ⟨vs, qs, hx6, hqs, rqs⟩ := pk6.2 _ _ hx
        have lv := rqs.length
        rw [List.length_map] at lv
        have lqs : qs.length ≤ i := by
          have e := List.getElem?_eq_some_iff.mp hqs
          have z : qs.length ≤ qss.flatten.length := by
            rw [← e.2]
            exact (List.sublist_flatten_of_mem (List.getElem_mem e.1)).length_le
          omega
        refine ⟨_, rfl, _, rfl, PK, _, w, _, rfl, rfl, SqL.of hPK6, at_w, .inl ⟨rfl, _, SqL.of hx6⟩, _, rfl, _, rfl, _, rfl, PK, _, w, _, rfl, rfl, SqL.of hPK6, at_w, x, vs, rfl, .inl (SqL.of hx6), _, _, rfl, rfl, l, _, _, rfl, p6, by omega, by omega, by omega, fun H7 t b7 p7 t0 t1 => ?_⟩
        have xl := lsl x xm
        have hx7 := b7.at1 hx6 xl
        have pk7 := pk6.past (lst1 p6) b7 off1
        have rY7 := Reps.past (noLst_pairs _) rY6 (lst1 p6) b7
        have ry7 := Rep.past (d := pD q) rfl ry6 (lst1 p6) b7
        have rqs7 := Reps.past (noLst_pairs _) rqs (lst1 p6) b7
        refine ⟨_, rfl, x, vs, t, y, rfl, rfl, hx7, by rw [sizeLine_eq]; omega, t0, by omega, ?_⟩
        have rnew : Reps [] H7 (vs.take t.toNat ++ [y] ++ vs.drop t.toNat) ((qs.take t.toNat ++ [q] ++ qs.drop t.toNat).map pD) := by
          rw [List.map_append, List.map_append, List.map_take, List.map_drop]
          exact ((rqs7.cut _).app (.one ry7)).app (rqs7.skip _)
        have bx : But [x] H7 (upd H7 x (.lst (vs.take t.toNat ++ [y] ++ vs.drop t.toNat))) := But.refl.upd List.mem_cons_self
        have pm := flat_put t.toNat q hqs
        refine ⟨qss.set w.toNat (qs.take t.toNat ++ [q] ++ qs.drop t.toNat), _, _, rfl, (b46.trans (b7.mono fun x z => by rw [List.mem_singleton.mp z]; exact List.mem_cons_self)).upd (List.mem_cons_of_mem _ xm), (p7.away xl).le (by omega), pk7.put nd hx rnew, ?_, ?_, ?_, ?_⟩
        · rw [pm.nodup_iff, List.nodup_cons]
          refine ⟨fun z => ?_, ndq⟩
          have z1 := sub q z
          obtain ⟨j, hj⟩ := List.mem_iff_getElem?.mp z1
          rw [List.getElem?_take] at hj
          by_cases c : j < i
          · rw [if_pos c] at hj
            have e := (List.getElem?_inj (by omega) PLn).mp (hj.trans hq.symm)
            omega
          · rw [if_neg c] at hj
            exact nomatch hj
        · intro r hr
          rw [tk]
          rcases List.mem_cons.mp (pm.mem_iff.mp hr) with z | z
          · rw [z]
            exact List.mem_append.mpr (.inr List.mem_cons_self)
          · exact List.mem_append.mpr (.inl (sub r z))
        · exact Reps.past (noLst_pairs _) rY7 (fun z hz => by rw [List.mem_singleton.mp hz]; exact ⟨_, hx7⟩) bx
        · rw [pm.length_eq, List.length_cons]
          omega
      · refine ⟨qss, _, _, rfl, b46, p6.le (by omega), pk6, ndq, fun r hr => ?_, rY6, by omega⟩
        rw [tk]
        exact List.mem_append.mpr (.inl (sub r hr))
    rintro σ H5 ⟨qss, o3, o4, rfl, b45, p5, pk5, ndq, sub, _, _⟩
    rw [ly, List.take_length] at sub
    replace p5 : Pool (m + 60) l H5 := p5.le (by omega)
    have hPK5 := b45 _ _ (in1 PKl lsPK) hPK4
    have b05 : But [l] H H5 := by
      have z : But (l :: ls) H H5 := ((b03.trans (.of s4)).mono fun x z => by rw [List.mem_singleton.mp z]; exact List.mem_cons_self).trans b45
      exact z.thin fun x hx nx => (List.mem_cons.mp hx).elim (fun e => absurd (by rw [e]; exact List.mem_cons_self) nx) fun e => fresh0 x e
    clear b45 emp4 emp rY ly hPL PLl lsPL PKPL nPL s4 p4 hPK4 p3 rv3 b03 hPK in1
    refine ⟨Nat.zero_le _, fun LD nLD => ?_⟩
    dsimp only [gName, List.set]
    have rv6 := (r.mv b05).sm (same_new (o := .lst []) nLD)
    have pk6 := pk5.sm (same_new (o := .lst []) nLD)
    have hPK6 := same_new (o := .lst []) nLD _ _ hPK5
    have p6 := p5.new (o := .lst []) nLD
    have LDl := p5.ne nLD
    have PKLD : PK ≠ LD := ne_of_none hPK5 nLD
    have lsLD : ∀ x ∈ ls, x ≠ LD := fun x hx => by
      obtain ⟨zs, h⟩ := pk5.lists x hx
      exact ne_of_none h nLD
    have hLD6 : upd H5 LD (.lst []) LD = some (.lst []) := upd_same
    have b06 : But [l] H (upd H5 LD (.lst [])) := b05.new nLD
    have freshL : H LD = none := by
      rcases Classical.em (H LD = none) with e | e
      · exact e
      · obtain ⟨o, ho⟩ := Option.ne_none_iff_exists'.mp e
        have z := b05 LD o (fun z => LDl (List.mem_singleton.mp z)) ho
        rw [nLD] at z
        exact nomatch z
    generalize upd H5 LD (.lst []) = H6 at rv6 pk6 hPK6 p6 hLD6 b06 ⊢
    clear b05 pk5 hPK5 p5 nLD
    refine ⟨_, rfl, v, [l], P, rfl, rv6, ok, fun R Hr sr nR hR => ?_⟩
    have eR : (doorsL P P.parts.length).map nV = ((doorsL P P.parts.length).map (fun (j : Nat) => (j : Int))).map V.int := by rw [List.map_map]; rfl
    rw [eR] at hR
    have dl := doorsL_len ok P.parts.length
    refine ⟨R, _, rfl, SqL.of hR, by rw [List.length_map]; omega, fun sa c nsa cle => ?_⟩
    refine ⟨sa, _, c, rfl, upd_same, by rw [List.length_map] at cle; omega, fun ns' DL up' mem' len' nDL => ?_⟩
    have s7 := (sr.trans (same_new nsa)).trans (same_new (o := .lst (ns'.map V.int)) nDL)
    have DLl : DL ≠ l := ((p6.same sr).same (same_new nsa)).ne nDL
    have DLLD : DL ≠ LD := (ne_of_none ((same_new nsa) _ _ (sr _ _ hLD6)) nDL).symm
    obtain rfl : ns' = nsP P := asc_eq up' (nsP_up P) fun j => by rw [mem' j, decide_eq_true_eq, doorsL_ints ok, nsP_mem ok]
    have nfew := nsP_few ok
    refine ⟨DL, rfl, ⟨_, SqL.of upd_same⟩, for_list (K := K) (a := DL) (xs := (nsP P).map V.int) (fun i σ H' => ∃ (nums : List (Int × List Int)) (lvs : List V) (o6 o7 o8 : Option V), σ = [some (.ref l), some v, some (.ref PK), o3, o4, some (.ref LD), o6, o7, o8, none] ∧
      But [LD, l] H6 H' ∧ H' DL = some (.lst ((nsP P).map V.int)) ∧ Pool (m + 60 + 40 * i) l H' ∧ PksAt H' ls qss ∧ H' LD = some (.lst lvs) ∧ Reps [] H' lvs (nums.map doorD) ∧ nums.map Prod.fst = (nsP P).take i ∧ ∀ p ∈ nums, p.2.Nodup ∧ p.2.length ≤ 8 ∧ ∀ k ∈ p.2, 0 ≤ k ∧ k < (M : Int)) ?_ ?_ ?_ ?_⟩
    · exact ⟨[], [], _, _, _, rfl, .of s7, upd_same, p6.same s7, pk6.sm s7, s7 _ _ hLD6, .nil, by rw [List.take_zero]; rfl, fun _ z => absurd z List.not_mem_nil⟩
    · rintro i σ H' hi ⟨nums, lvs, o6, o7, o8, rfl, b8, hDL8, _⟩
      exact SqL.of hDL8
    · rintro i y σ H8 hy ⟨nums, lvs, o6, o7, o8, rfl, b8, hDL8, p8, pk8, hLD8, rl8, fst8, ok8⟩
      rw [List.getElem?_map] at hy
      obtain ⟨door, hdoor, rfl⟩ := Option.map_eq_some_iff.mp hy
      have i15 := (List.getElem?_eq_some_iff.mp hdoor).1
      refine ⟨Nat.zero_le _, fun NB nNB => ?_⟩
      dsimp only [gName, List.set]
      have NBl := p8.ne nNB
      have NBLD : NB ≠ LD := (ne_of_none hLD8 nNB).symm
      have lsNB : ∀ x ∈ ls, x ≠ NB := fun x hx => by
        obtain ⟨zs, h⟩ := pk8.lists x hx
        exact ne_of_none h nNB
      have hPK8 := b8 _ _ (fun z => (List.mem_cons.mp z).elim PKLD fun z => PKl (List.mem_singleton.mp z)) hPK6
      have s9 : Same H8 (upd H8 NB (.lst [])) := same_new nNB
      have hNB9 : upd H8 NB (.lst []) NB = some (.lst []) := upd_same
      generalize upd H8 NB (.lst []) = H9 at s9 hNB9 ⊢
      refine ⟨_, rfl, _, rfl, PK, _, rfl, .inl (SqL.of (s9 _ _ hPK8)), ((M : Nat) : Int), by rw [lm], RgOk.of_le (by omega) (by omega) (by omega) (by omega), fun q nq => ?_⟩
      have p9 := p8.same s9
      have sq : Same H9 (upd H9 q (.lst (rgV 0 (M : Int)))) := same_new nq
      have hq9 : upd H9 q (.lst (rgV 0 (M : Int))) q = some (.lst (rgV 0 (M : Int))) := upd_same
      have ql := p9.ne nq
      have hNBq := sq _ _ hNB9
      have s8q := s9.trans sq
      generalize upd H9 q (.lst (rgV 0 (M : Int))) = Hq at sq hq9 hNBq s8q ⊢
      have pq := p8.same s8q
      refine ⟨l, q, _, 8, _, rfl, pq, by omega, hq9, ql, by rw [rgV_length]; omega, by decide, fun Hs p zs bs ps np hpz sub8 le8 => ?_⟩
      obtain ⟨es, rfl, eok, eup⟩ := sub_range sub8
      rw [List.length_map] at le8
      have pl := pq.ne np
      have pNB : p ≠ NB := (ne_of_none hNBq np).symm
      have hNBs := bs.at1 hNBq NBl
      have pks := (pk8.sm s8q).past (lst1 pq) bs off1
      have rls := Reps.past (noLst_doors nums) (rl8.sm s8q) (lst1 pq) bs
      have hLDs := bs.at1 (s8q _ _ hLD8) LDl
      refine ⟨p, rfl, ⟨_, SqL.of hpz⟩, for_list (K := K) (a := p) (xs := es.map V.int) (fun j σ H' => ∃ (ks : List Int) (o8 : Option V), σ = [some (.ref l), some v, some (.ref PK), o3, o4, some (.ref LD), some (.int door), some (.ref NB), o8, none] ∧
        But [NB, l] Hs H' ∧ Pool (m + 60 + 40 * i + 25 + j) l H' ∧ H' NB = some (.lst (ks.map V.int)) ∧ ks.Perm (es.take j)) ?_ ?_ ?_ ?_⟩
      · exact ⟨[], _, rfl, .refl, ps, hNBs, by rw [List.take_zero]⟩
      · rintro j σ Ha hj ⟨ks, o8, rfl, ba, _⟩
        exact SqL.of (ba _ _ (fun z => (List.mem_cons.mp z).elim pNB fun z => pl (List.mem_singleton.mp z)) hpz)
      · rintro j y σ Ha hy ⟨ks, o8, rfl, ba, pa, hNB, pm⟩
        rw [List.getElem?_map] at hy
        obtain ⟨e, he, rfl⟩ := Option.map_eq_some_iff.mp hy
        have jl := (List.getElem?_eq_some_iff.mp he).1
        have lk := pm.length_eq
        rw [List.length_take] at lk
        dsimp only [gName, List.set]
        refine ⟨_, rfl, .inl ⟨rfl, _, SqL.of hNB⟩, _, rfl, _, rfl, NB, _, rfl, .inl (SqL.of hNB), _, _, rfl, rfl, l, _, _, rfl, pa, by omega, by omega, by rw [List.length_map]; omega, fun Hc t bc pc t0 t1 => ?_⟩
        have hNBc := bc.at1 hNB NBl
        refine ⟨_, rfl, NB, _, t, _, rfl, rfl, hNBc, by rw [List.length_map, sizeLine_eq]; omega, t0, by rw [List.length_map] at t1; omega, ?_⟩
        have pi := ins_perm ks t.toNat e
        refine ⟨ks.take t.toNat ++ [e] ++ ks.drop t.toNat, _, rfl, (ba.trans (bc.mono fun x z => List.mem_cons_of_mem _ z)).upd List.mem_cons_self, (pc.away NBl).le (by omega), ?_, ?_⟩
        · rw [List.map_append, List.map_append, List.map_take, List.map_drop]
          exact upd_same
        · refine pi.trans ?_
          rw [List.take_succ, he]
          exact (pm.cons e).trans (List.perm_append_singleton e _).symm
      · rintro σ Ha ⟨ks, o8, rfl, ba, pa, hNB, pm⟩
        rw [List.length_map] at pa pm
        rw [List.take_length] at pm
        have ndk : ks.Nodup := pm.nodup_iff.mpr (List.Pairwise.imp (fun {a b} h e => by omega) eup)
        have ink : ∀ k ∈ ks, 0 ≤ k ∧ k < (M : Int) := fun k hk => eok k (pm.mem_iff.mp hk)
        have lk := pm.length_eq
        have lists9 : ∀ z ∈ [NB, l], ∃ zs, Hs z = some (.lst zs) := fun z hz => by
          rcases List.mem_cons.mp hz with e | e
          · rw [e]
            exact ⟨_, hNBs⟩
          · exact lst1 ps z e
        have pka := pks.past lists9 ba fun x hx z => (List.mem_cons.mp z).elim (lsNB x hx) fun z => off1 x hx z
        have rla := Reps.past (noLst_doors nums) rls lists9 ba
        have hLDa := ba _ _ (fun z => (List.mem_cons.mp z).elim NBLD.symm fun z => LDl (List.mem_singleton.mp z)) hLDs
        have ll8 := rla.length
        rw [List.length_map] at ll8
        have ln8 : nums.length = ((nsP P).take i).length := by rw [← fst8, List.length_map]
        rw [List.length_take] at ln8
        refine ⟨_, rfl, .inl ⟨rfl, _, SqL.of hLDa⟩, _, rfl, _, rfl, NB, _, rfl, .inl ⟨SqL.of hNB, fun t1 nt1 => ⟨(by show 2 ≤ sizeLine; decide), fun t2 nt2 => ?_⟩⟩⟩
        have s12 := (same_new (o := .tup (ks.map V.int)) nt1).trans (same_new (o := .tup [.int door, .ref t1]) nt2)
        have hLDc := s12 _ _ hLDa
        refine ⟨LD, lvs, _, rfl, rfl, hLDc, by rw [sizeLine_eq]; omega, ?_⟩
        have rnew : Rep [] (upd (upd Ha t1 (.tup (ks.map V.int))) t2 (.tup [.int door, .ref t1])) (.ref t2) (doorD (door, ks)) := .tup upd_same List.not_mem_nil (.cons (.int _) (.cons (.tup (same_new nt2 _ _ upd_same) List.not_mem_nil (ints_rep ks)) .nil))
        have rlc := rla.sm s12
        have pkc := pka.sm s12
        have pc := pa.same s12
        have bac : But [LD, l] H6 (upd (upd Ha t1 (.tup (ks.map V.int))) t2 (.tup [.int door, .ref t1])) := by
          have z : But [NB, LD, l] H6 (upd (upd Ha t1 (.tup (ks.map V.int))) t2 (.tup [.int door, .ref t1])) :=
            ((((b8.trans (.of s8q)).trans (bs.mono fun x z => List.mem_cons_of_mem _ z)).mono fun x z => List.mem_cons_of_mem _ z).trans (ba.mono fun x z => (List.mem_cons.mp z).elim (fun e => by rw [e]; exact List.mem_cons_self) fun z => List.mem_cons_of_mem _ (List.mem_cons_of_mem _ z))).trans (.of s12)
          refine z.thin fun x hx nx => ?_
          rcases List.mem_cons.mp hx with e | e
          · rw [e]
            rcases Classical.em (H6 NB = none) with h | h
            · exact h
            · obtain ⟨o, ho⟩ := Option.ne_none_iff_exists'.mp h
              have y := b8 NB o (fun z => (List.mem_cons.mp z).elim NBLD fun z => NBl (List.mem_singleton.mp z)) ho
              rw [nNB] at y
              exact nomatch y
          · exact absurd e nx
        have DLNB : DL ≠ NB := ne_of_none hDL8 nNB
        have hDLd := s12 _ _ (ba _ _ (fun z => (List.mem_cons.mp z).elim DLNB fun z => DLl (List.mem_singleton.mp z)) (bs.at1 (s8q _ _ hDL8) DLl))
        generalize upd (upd Ha t1 (.tup (ks.map V.int))) t2 (.tup [.int door, .ref t1]) = Hd at hDLd hLDc rnew rlc pkc pc bac ⊢
        have bu : But [LD] Hd (upd Hd LD (.lst (lvs ++ [.ref t2]))) := But.refl.upd List.mem_cons_self
        have lLD : ∀ z ∈ [LD], ∃ zs, Hd z = some (.lst zs) := fun z hz => by
          rw [List.mem_singleton.mp hz]
          exact ⟨_, hLDc⟩
        refine ⟨nums ++ [(door, ks)], lvs ++ [.ref t2], _, _, _, rfl, bac.upd List.mem_cons_self, by rw [upd_ne DLLD]; exact hDLd, (pc.away LDl).le (by omega), pkc.past lLD bu fun x hx z => lsLD x hx (List.mem_singleton.mp z), upd_same, ?_, ?_, ?_⟩
        · rw [List.map_append]
          exact (Reps.past (noLst_doors nums) rlc lLD bu).app (.one (Rep.past (noLst_door _) rnew lLD bu))
        · rw [List.map_append, fst8, List.take_succ, hdoor]
          rfl
        · intro p hp
          rcases List.mem_append.mp hp with z | z
          · exact ok8 p z
          · rw [List.mem_singleton.mp z]
            exact ⟨ndk, by show ks.length ≤ 8; omega, ink⟩
    rintro σ H8 ⟨nums, lvs, o6, o7, o8, rfl, b8, hDL8, p8, pk8, hLD8, rl8, fst8, ok8⟩
    rw [List.length_map] at p8
    rw [List.length_map, List.take_length] at fst8
    have hPK8 := b8 _ _ (fun z => (List.mem_cons.mp z).elim PKLD fun z => PKl (List.mem_singleton.mp z)) hPK6
    have b08 : But [l] H H8 := by
      have z : But [LD, l] H H8 := (b06.mono fun x z => List.mem_cons_of_mem _ z).trans b8
      exact z.thin fun x hx nx => (List.mem_cons.mp hx).elim (fun e => by rw [e]; exact freshL) fun e => absurd e nx
    have lq8 := pk8.1
    refine ⟨_, rfl, PK, rfl, ⟨_, SqL.of hPK8⟩, fun D nD => ?_⟩
    refine lc_it (walk_list (xs := ls.map V.ref)) (fun j H' => Same H8 H' ∧ ∃ tvs, H' D = some (.lst tvs) ∧ tvs.length = j ∧ Reps [] H' tvs ((qss.take j).map packD)) ⟨same_new nD, [], upd_same, rfl, .nil⟩ (fun j H' _ p => SqL.of (p.1 _ _ hPK8)) ?_ ?_
    · rintro j y H0 H9 hj ⟨s9, tvs, hD, tl, rt⟩ ⟨rfl, hy⟩
      rw [List.getElem?_map] at hy
      obtain ⟨x, hx, rfl⟩ := Option.map_eq_some_iff.mp hy
      obtain ⟨vs, qs, h1, h2, h3⟩ := pk8.2 j x hx
      have jl := (List.getElem?_eq_some_iff.mp hx).1
      refine ⟨rfl, _, rfl, x, vs, rfl, .inl ⟨SqL.of (s9 _ _ h1), fun T nT => ?_⟩⟩
      have hDT := same_new (o := .tup vs) nT _ _ hD
      have lD : ∀ z ∈ [D], ∃ zs, upd H9 T (.tup vs) z = some (.lst zs) := fun z hz => by
        rw [List.mem_singleton.mp hz]
        exact ⟨_, hDT⟩
      have bu : But [D] (upd H9 T (.tup vs)) (upd (upd H9 T (.tup vs)) D (.lst (tvs ++ [.ref T]))) := But.refl.upd List.mem_cons_self
      refine ⟨tvs, hDT, by rw [tl, sizeLine_eq]; omega, ?_, tvs ++ [.ref T], upd_same, by rw [List.length_append, tl]; rfl, ?_⟩
      · intro b o e
        rw [upd_ne (ne_of_none e nD)]
        exact same_new nT _ _ (s9 _ _ e)
      · rw [List.take_succ, h2, List.map_append]
        refine (Reps.past (noLst_packs _) (rt.sm (same_new nT)) lD bu).app (.one (Rep.past (noLst_pack qs) ?_ lD bu))
        exact .tup upd_same List.not_mem_nil ((h3.sm s9).sm (same_new nT))
    rintro H9 ⟨s9, tvs, hD, tl, rt⟩
    rw [List.length_map] at tl rt
    rw [lq8, List.take_length] at rt
    have lq7 : qss.length = M := by rw [← lq8, ll]
    refine ⟨D, tvs, rfl, .inl ⟨SqL.of hD, fun TP nTP => ⟨_, rfl, LD, lvs, rfl, .inl ⟨SqL.of (same_new nTP _ _ (s9 _ _ hLD8)), fun TL nTL => ⟨(by show 2 ≤ sizeLine; decide), fun TR nTR => ?_⟩⟩⟩⟩⟩
    have sP := same_new (o := .tup tvs) nTP
    have sL := same_new (o := .tup lvs) nTL
    have sR := same_new (o := .tup [.ref TP, .ref TL]) nTR
    have all := s9.trans (sP.trans (sL.trans sR))
    refine k _ _ ⟨qss, nums⟩ (b08.trans (.of all)) ((p8.same all).le (by omega)) ?_ ⟨by show qss.length ≤ 8; omega, ndq, sub, fst8, fun p hp => by show _ ∧ ∀ k ∈ p.2, 0 ≤ k ∧ k < (qss.length : Int); rw [lq7]; exact ⟨(ok8 p hp).1, (ok8 p hp).2.2⟩, fun p hp => (ok8 p hp).2.1⟩
    refine Rep.avoids ?_ ?_ [l] ?_
    · show (noLst (.tuple (qss.map packD)) && (noLst (.tuple (nums.map doorD)) && true)) = true
      rw [show noLst (PyData.tuple (qss.map packD)) = noLsts (qss.map packD) from rfl, show noLst (PyData.tuple (nums.map doorD)) = noLsts (nums.map doorD) from rfl, noLst_packs, noLst_doors]
      rfl
    · exact .tup upd_same List.not_mem_nil (.cons (.tup ((sL.trans sR) _ _ upd_same) List.not_mem_nil (rt.sm (sP.trans (sL.trans sR)))) (.cons (.tup (sR _ _ upd_same) List.not_mem_nil (rl8.sm all)) .nil))
    · intro z hz
      exact lst1 (p8.same all) z hz
end
end Lb

set_option Elab.async false
set_option linter.all false
set_option maxRecDepth 100000
set_option maxHeartbeats 4000000

namespace Lb
open PySem PySem.Spec PyProof.Rows L2
section
variable {P : Program} {w : World} {K : PySem.W.Frag} {mg : Str → Option Value} {base : Heap} {A : Ad}
def sp_law_place_text : Sp := fun vs H Q _ => ∃ (v : V) (S : List Addr) (q : Pl), vs = [v] ∧ Rep S H v (stD q) ∧ Pl.ok q ∧ Q (.str (placeT q)) H
theorem ok_law_place_text (T : Txt K w mg A) : FnOk P w K mg base CX0 1 A.f_law_place_text A.d_law_place_text ["place"] (sp_law_place_text) := by
  refine T.F_law_place_text.ok sc_law_place_text (fun vs H Q E h => ?_) (fun cdv Ar outer s H vs Q E hr h => ?_)
  · obtain ⟨v, S, q, rfl, r, okq, k⟩ := h
    rfl
  · obtain ⟨v, S, q, rfl, r, okq, k⟩ := h
    refine ⟨_, PSs.nox ((pss_one (ps_ret (pe_op op_add_str (pe_op op_add_str (pe_callTy call_str_int (by rfl) T.zstr (by decide +kernel) (pa_cons (pe_ix ix_tup (pv 0) pe_int (fun _ _ => rfl)) pa_nil)) pe_str) (pe_callTy call_str_int (by rfl) T.zstr (by decide +kernel) (pa_cons (pe_ix ix_tup (pv 0) pe_int (fun _ _ => rfl)) pa_nil)))))), ?_⟩
    rw [show start N_law_place_text [v] = [some (v)] from rfl]
    obtain ⟨a, x, y, rfl, ha, rx, ry⟩ := r.two
    obtain rfl := rx.intV
    obtain rfl := ry.intV
    obtain ⟨h1, h2⟩ := okq
    have d1 := digT_len (i := (q.1 : Int)) (by omega) (by omega)
    have d2 := digT_len (i := (q.2 : Int)) (by omega) (by omega)
    have d3 : ((":" : Str)).length = 1 := by decide +kernel
    have big : 100 ≤ sizeLine := by rw [sizeLine_eq]; omega
    refine ⟨_, rfl, a, _, 0, _, rfl, rfl, SqT.of ha, atI_nat (j := 0) rfl, (q.1 : Int), rfl, log_small (by omega) (by omega), digT (q.1 : Int), _, rfl, rfl, by omega, ?_⟩
    exact ⟨_, rfl, a, _, 1, _, rfl, rfl, SqT.of ha, atI_nat (j := 1) rfl, (q.2 : Int), rfl, log_small (by omega) (by omega), digT (q.1 : Int) ++ ":", digT (q.2 : Int), rfl, rfl, by rw [len_app]; omega, k⟩
def sp_law_layout_lines : Sp := fun vs H Q _ => ∃ (u : V) (S : List Addr) (P : Prog) (ns : List Int) (L : Lay), vs = [u] ∧ Rep S H u L.d ∧ P.Ok ∧ (∀ k, k ∈ ns ↔ k ∈ doorsD P.d) ∧ ns.length ≤ 15 ∧ LayOk P ns L ∧ ∀ H' p, Same H H' → H' p = some (.lst ((layLines L).map V.str)) → Q (.ref p) H'
theorem ok_law_layout_lines (T : Txt K w mg A) : FnOk P w K mg base CX0 2 A.f_law_layout_lines A.d_law_layout_lines ["layout"] (sp_law_layout_lines) := by
  refine T.F_law_layout_lines.ok sc_law_layout_lines (fun vs H Q E h => ?_) (fun cdv Ar outer s H vs Q E hr h => ?_)
  · obtain ⟨u, S, P, ns, L, rfl, ru, ok, mem, n15, h, k⟩ := h
    rfl
  · obtain ⟨u, S, P, ns, L, rfl, ru, ok, mem, n15, h, k⟩ := h
    refine ⟨_, PSs.nox ((pss_cons (ps_setLc (i := 1) (own := [("pack", 5)]) (g := (gName 5)) (tt := tYes) rfl sc_law_layout_lines.nd rfl rfl (sw_true rfl rfl rfl (by decide +kernel)) (pi_tup (pe_ix ix_tup (pv 0) pe_int (fun _ _ => rfl))) (blkOk_by (N := N_law_layout_lines) (sc := defScope s_law_layout_lines) (by decide +kernel)) (fun _ _ _ _ _ => (pg_name (i := 5) sc_law_layout_lines.nd rfl (Or.inl rfl))) (fun _ _ _ _ _ => pts_nil) (fun _ _ _ _ _ => (pe_joinK (K := K) pe_str (pe_op op_cat (pe_lst (pa_cons pe_str pa_nil)) (pe_lc (own := [("place", 6)]) (g := (gName 6)) (tt := tYes) rfl sc_law_layout_lines.nd (show PI _ _ _ (iTup K (tVar 5)) from pi_tup (pv 5)) (blkOk_by (by rfl)) (fun _ _ _ _ _ => (pg_name (i := 6) sc_law_layout_lines.nd rfl (Or.inl rfl))) (fun _ _ _ _ _ => pts_nil) (fun _ _ _ _ _ => (pe_call (ok_law_place_text T) hr rfl T.m_law_place_text T.F_law_place_text.kp (b_law_place_text T) .nil pass0 (pa_cons (pv 6) pa_nil))))))))
 (pss_cons (ps_for PassesOwn.never rfl (pi_tup (pe_ix ix_tup (pv 0) pe_int (fun _ _ => rfl))) (pg_tup (by rfl) (pgs_cons (pg_name (i := 2) sc_law_layout_lines.nd rfl (Or.inl rfl)) (pgs_cons (pg_name (i := 3) sc_law_layout_lines.nd rfl (Or.inl rfl)) pgs_nil))) (pss_cons (ps_set (i := 4) sc_law_layout_lines.nd rfl (Or.inl rfl) (pe_join pe_str (pe_lc (own := [("k", 7)]) (g := (gName 7)) (tt := tYes) rfl sc_law_layout_lines.nd (pi_tup (pv 3)) (blkOk_by (N := N_law_layout_lines) (sc := defScope s_law_layout_lines) (by decide +kernel)) (fun _ _ _ _ _ => (pg_name (i := 7) sc_law_layout_lines.nd rfl (Or.inl rfl))) (fun _ _ _ _ _ => pts_nil) (fun _ _ _ _ _ => (pe_callTy call_str_int (by rfl) T.zstr (by decide +kernel) (pa_cons (pv 7) pa_nil))))))
 (pss_one (ps_expr (pe_bm PySem.F.plainAttrs_list PySem.F.slot_list_append PySem.F.type_list_append mt_append (pv 1) (pa_cons (pe_op op_add_str (pe_op op_add_str (pe_op op_add_str pe_str (pe_callTy call_str_int (by rfl) T.zstr (by decide +kernel) (pa_cons (pv 2) pa_nil))) pe_str) (pe_ifExp (pt_cmpR op_eq (pv 4) pe_str (nomark _)) pe_str (pv 4))) pa_nil))))))
 (pss_one (ps_ret (pv 1)))))), ?_⟩
    rw [show start N_law_layout_lines [u] = [some (u), none, none, none, none, none, none, none] from rfl]
    have few8 := h.eight
    have n15' := nums_few ok n15 h
    have big : 10000 ≤ sizeLine := by rw [sizeLine_eq]; omega
    obtain ⟨a, p, q, rfl, ha, rp, rq⟩ := Rep.two (show Rep S H u (.tuple [.tuple (L.packs.map packD), .tuple (L.nums.map doorD)]) from ru)
    obtain ⟨b, pvs, rfl, hb, _, rps⟩ := rp.tupV
    obtain ⟨nb, nvs, rfl, hnb, _, rns⟩ := rq.tupV
    have lp : pvs.length = L.packs.length := by rw [rps.length, List.length_map]
    have ln : nvs.length = L.nums.length := by rw [rns.length, List.length_map]
    have s02 : Same H H := .refl _
    refine ⟨_, rfl, a, _, 0, _, rfl, rfl, SqT.of (s02 _ _ ha), atI_nat (j := 0) rfl, b, rfl, ⟨_, SqT.of (s02 _ _ hb)⟩, fun D nD => ?_⟩
    refine lc_pure (walk_tup (xs := pvs)) nD (fun i => V.str (packT (L.packs.getD i []))) (by rw [lp]; omega) (fun H' s' => SqT.of (s' _ _ (s02 _ _ hb))) ?_ ?_
    · rintro i x H4 H3 F hi s3 ⟨rfl, hx⟩ fin
      have il : i < L.packs.length := by omega
      obtain ⟨d, hd, rx⟩ := rps.get hx
      rw [List.getElem?_map, List.getElem?_eq_getElem il] at hd
      obtain rfl := Option.some.inj hd
      have eg : L.packs.getD i [] = L.packs[i] := by rw [List.getD_eq_getElem?_getD, List.getElem?_eq_getElem il]; rfl
      rw [eg] at fin
      obtain ⟨f20, oks⟩ := pack_few ok h (List.getElem_mem il)
      generalize L.packs[i] = qs at *
      obtain ⟨c, xs, rfl, hc, _, rs⟩ := Rep.tupV (show Rep S H x (.tuple (qs.map pD)) from rx)
      have lx : xs.length = qs.length := by rw [rs.length, List.length_map]
      have s03 := s02.trans s3
      refine ⟨rfl, ⟨_, rfl⟩, (by show 1 ≤ sizeLine; decide), fun l0 nl0 => ?_⟩
      have sl0 : Same H3 (upd H3 l0 (.lst [.str "pack"])) := same_new nl0
      have hl0 : upd H3 l0 (.lst [.str "pack"]) l0 = some (.lst [.str "pack"]) := upd_same
      generalize upd H3 l0 (.lst [.str "pack"]) = H5 at *
      have s05 := s03.trans sl0
      refine ⟨_, rfl, c, rfl, ⟨_, SqT.of ((s3.trans sl0) _ _ (s02 _ _ hc))⟩, fun D1 nD1 => ?_⟩
      refine lc_pure (walk_tup (xs := xs)) nD1 (fun j => V.str (placeT (qs.getD j (0, 0)))) (by omega) (fun H' s' => SqT.of (s' _ _ (s05 _ _ hc))) ?_ ?_
      · rintro j y H7 H6 F2 hj s6 ⟨rfl, hy⟩ fin2
        have jl : j < qs.length := by omega
        obtain ⟨d1, hd1, ry⟩ := rs.get hy
        rw [List.getElem?_map, List.getElem?_eq_getElem jl] at hd1
        obtain rfl := Option.some.inj hd1
        have eg1 : qs.getD j (0, 0) = qs[j] := by rw [List.getD_eq_getElem?_getD, List.getElem?_eq_getElem jl]; rfl
        rw [eg1] at fin2
        exact ⟨rfl, _, rfl, y, S, qs[j], rfl, ry.sm (s05.trans s6), oks _ (List.getElem_mem jl), fin2 _ (.refl _)⟩
      intro H6 s6 hD1
      rw [lx, range_map (fun q => V.str (placeT q)) (0, 0) qs] at hD1
      have eD : qs.map (fun q => V.str (placeT q)) = (qs.map placeT).map V.str := by rw [List.map_map]; rfl
      rw [eD] at hD1
      refine ⟨l0, D1, _, _, rfl, rfl, s6 _ _ hl0, hD1, by rw [List.length_map, List.length_map]; show 1 + _ ≤ _; omega, fun l2 nl2 => ?_⟩
      have su := sum_const placeT 3 qs fun q h => Nat.le_of_eq (placeT_len (oks q h))
      have h3 : ((" " : Str)).length = 1 := by decide +kernel
      have h4 : (("pack" : Str)).length = 4 := by decide +kernel
      refine ⟨_, l2, (("pack" : Str) :: qs.map placeT), rfl, rfl, .inl (SqL.of upd_same), ?_, fin _ (sl0.trans (s6.trans (same_new nl2)))⟩
      rw [List.map_cons, List.sum_cons, List.length_cons, List.length_map, h3, h4]
      omega
    intro H3 s3 hD
    rw [lp, range_map (fun q => V.str (packT q)) [] L.packs] at hD
    have eD : L.packs.map (fun q => V.str (packT q)) = (L.packs.map packT).map V.str := by rw [List.map_map]; rfl
    rw [eD] at hD
    have s03 := s02.trans s3
    dsimp only [gName, List.set]
    refine ⟨_, rfl, a, _, 1, _, rfl, rfl, SqT.of (s03 _ _ ha), atI_nat (j := 1) rfl, nb, rfl, ⟨_, SqT.of (s03 _ _ hnb)⟩, for_it (walk_tup (xs := nvs)) (fun i σ H' => ∃ o3 o4 o5 : Option V, σ = [some (.ref a), some (.ref D), o3, o4, o5, none, none, none] ∧ Same H H' ∧ H' D = some (.lst ((L.packs.map packT ++ (L.nums.take i).map doorT).map V.str))) ⟨none, none, none, rfl, s3, by rw [List.take_zero, List.map_nil, List.append_nil]; exact hD⟩ (fun i σ H' _ q => by obtain ⟨_, _, _, _, s, _⟩ := q; exact SqT.of (s _ _ (s02 _ _ hnb))) ?_ ?_⟩
    · rintro i x σ H4 H5 hi ⟨o3, o4, o5, rfl, s4, hll⟩ ⟨rfl, hx⟩
      have il : i < L.nums.length := by omega
      obtain ⟨d, hd, rx⟩ := rns.get hx
      rw [List.getElem?_map, List.getElem?_eq_getElem il] at hd
      obtain rfl := Option.some.inj hd
      have n := nums_ok ok mem h (List.getElem_mem il)
      have tk : L.nums.take (i + 1) = L.nums.take i ++ [L.nums[i]] := by rw [List.take_succ, List.getElem?_eq_getElem il]; rfl
      generalize L.nums[i] = p at *
      obtain ⟨t, x1, x2, rfl, ht, r1, r2⟩ := Rep.two (show Rep S H x (.tuple [.int p.1, .tuple (p.2.map .int)]) from rx)
      obtain rfl := r1.intV
      obtain ⟨kb, kvs, rfl, hkb, _, rks⟩ := r2.tupV
      obtain rfl := ints_of rks
      have s24 := s02.trans s4
      have hkb4 := s24 _ _ hkb
      refine ⟨t, _, rfl, SqT.of (s24 _ _ ht), rfl, _, _, rfl, _, _, rfl, rfl, ?_⟩
      dsimp only [gName, List.set]
      have l1 := digT_len (i := p.1) (by have := n.1; omega) n.2.1
      have l2 := digits_len n.2.2.1 n.2.2.2
      have h5 : (("door " : Str)).length = 5 := by decide +kernel
      have h1 : ((" " : Str)).length = 1 := by decide +kernel
      have h3 : (("" : Str)).length = 0 := by decide +kernel
      have h8 := n.2.2.1
      refine ⟨⟨_, rfl⟩, _, rfl, kb, rfl, ⟨_, SqT.of hkb4⟩, fun D1 nD1 => ?_⟩
      refine lc_pure (walk_tup (xs := p.2.map V.int)) nD1 (fun j => V.str (digT (p.2.getD j 0))) (by rw [List.length_map]; omega) (fun H' s' => SqT.of (s' _ _ hkb4)) ?_ ?_
      · rintro j y H7 H6 F2 hj s6 ⟨rfl, hy⟩ fin2
        rw [List.getElem?_map] at hy
        obtain ⟨k1, hk1, rfl⟩ := Option.map_eq_some_iff.mp hy
        have z := n.2.2.2 k1 (List.mem_of_getElem? hk1)
        have e := fin2 _ (.refl _)
        rw [List.getD_eq_getElem?_getD, hk1, Option.getD_some] at e
        exact ⟨rfl, _, rfl, k1, rfl, log_small (by omega) (by omega), e⟩
      intro H6 s6 hD1
      rw [List.length_map, range_map (fun k1 => V.str (digT k1)) 0 p.2] at hD1
      have eD1 : p.2.map (fun k1 => V.str (digT k1)) = (p.2.map digT).map V.str := by rw [List.map_map]; rfl
      rw [eD1] at hD1
      have h2 := sum_const digT 2 p.2 fun k1 hk1 => digT_len (by have := (n.2.2.2 k1 hk1).1; omega) (n.2.2.2 k1 hk1).2
      refine ⟨_, D1, _, rfl, rfl, .inl (SqL.of hD1), by rw [h3]; omega, ?_⟩
      dsimp only [gName, List.set]
      have hll6 := s6 _ _ hll
      have s46 := s4.trans s6
      have big6 : (L.packs.map packT ++ (L.nums.take i).map doorT).length ≤ 100 := by
        rw [List.length_append, List.length_map, List.length_map, List.length_take]
        omega
      have done : ∀ o5 : Option V, ∃ o3 o4 o5' : Option V, [some (.ref a), some (.ref D), some (.int p.1), some (.ref kb), o5, none, none, none] = [some (.ref a), some (.ref D), o3, o4, o5', none, none, none] ∧ Same H (upd H6 D (.lst ((L.packs.map packT ++ (L.nums.take i).map doorT).map V.str ++ [.str (doorT p)]))) ∧ upd H6 D (.lst ((L.packs.map packT ++ (L.nums.take i).map doorT).map V.str ++ [.str (doorT p)])) D = some (.lst ((L.packs.map packT ++ (L.nums.take (i + 1)).map doorT).map V.str)) := fun o5 => by
        refine ⟨_, _, _, rfl, same_own s46 nD, ?_⟩
        rw [upd_same, tk]
        simp only [List.map_append, List.append_assoc]
        rfl
      refine ⟨_, rfl, .inl ⟨rfl, _, SqL.of hll6⟩, _, rfl, p.1, rfl, log_small (by have := n.1; omega) (by have := n.2.1; omega), "door ", digT p.1, rfl, rfl, by omega, "door " ++ digT p.1, " ", rfl, rfl, by rw [len_app]; omega, ?_⟩
      refine ⟨_, rfl, rfl, _, rfl, ?_⟩
      by_cases e : p.2 = []
      · have ed : digitsT p.2 = "-" := by unfold digitsT; rw [if_pos e]
        refine ite2 (fun _ => ?_) (fun c => absurd (by rw [e, List.map_nil, TL.join_eq]; decide +kernel) c)
        refine ⟨"door " ++ digT p.1 ++ " ", "-", rfl, rfl, by rw [len_app, len_app]; rw [ed] at l2; omega, D, _, _, rfl, rfl, hll6, by rw [List.length_map, sizeLine_eq]; omega, ?_⟩
        have z := done (some (.str (Txt.join "" (p.2.map digT))))
        unfold doorT at z
        rw [ed] at z
        exact z
      · have ed : digitsT p.2 = Txt.join "" (p.2.map digT) := by unfold digitsT; rw [if_neg e]
        have nz : ¬ Txt.join "" (p.2.map digT) = "" := fun z => by
          have w := (digits_back e n.2.2.2).2
          rw [ed, z, show numsR "" = none by decide +kernel] at w
          cases w
        refine ite2 (fun c => absurd c (by simpa using nz)) (fun _ => ?_)
        refine ⟨_, rfl, "door " ++ digT p.1 ++ " ", _, rfl, rfl, by rw [len_app, len_app]; rw [ed] at l2; omega, D, _, _, rfl, rfl, hll6, by rw [List.length_map, sizeLine_eq]; omega, ?_⟩
        have z := done (some (.str (Txt.join "" (p.2.map digT))))
        unfold doorT at z
        rw [ed] at z
        exact z
    · rintro σ H4 ⟨o3, o4, o5, rfl, s4, hll⟩
      rw [ln, List.take_length] at hll
      exact ⟨_, rfl, k H4 D s4 hll⟩
end
end Lb

set_option Elab.async false
set_option linter.all false
set_option maxRecDepth 100000
set_option maxHeartbeats 4000000

namespace Lb
open PySem PySem.Spec PyProof.Rows L2
section
variable {P : Program} {w : World} {K : PySem.W.Frag} {mg : Str → Option Value} {base : Heap} {A : Ad}
theorem flat_all {n : Nat} {ds : List PyData} (h : ds.length ≤ 1000) (all : ∀ d ∈ ds, Flat n d) : Flat (n + 1) (.tuple ds) := ⟨h, all⟩
theorem flat_lot {n : Nat} {qs : List Pl} (h : qs.length ≤ 20) : Flat (n + 3) (.tuple (qs.map stD)) := by
  refine flat_all (by rw [List.length_map]; omega) fun d hd => ?_
  obtain ⟨q, _, rfl⟩ := List.mem_map.mp hd
  refine flat_all (by show 2 ≤ 1000; omega) fun e he => ?_
  simp only [List.mem_cons, List.not_mem_nil, or_false] at he
  rcases he with rfl | rfl <;> exact trivial
theorem flat_lay {P : Prog} (ok : P.Ok) {L : Lay} {ns : List Int} (few : ns.length ≤ 15) (h : LayOk P ns L) : Flat 5 L.d := by
  have n15 := nums_few ok few h
  refine flat_all (by show 2 ≤ 1000; omega) fun d hd => ?_
  simp only [List.mem_cons, List.not_mem_nil, or_false] at hd
  rcases hd with rfl | rfl
  · refine flat_all (by rw [List.length_map]; exact Nat.le_trans h.eight (by decide)) fun d hd => ?_
    obtain ⟨q, hq, rfl⟩ := List.mem_map.mp hd
    exact flat_lot (n := 0) (pack_few ok h hq).1
  · refine flat_all (by rw [List.length_map]; omega) fun d hd => ?_
    obtain ⟨p, hp, rfl⟩ := List.mem_map.mp hd
    refine flat_all (by show 2 ≤ 1000; omega) fun e he => ?_
    simp only [List.mem_cons, List.not_mem_nil, or_false] at he
    rcases he with rfl | rfl
    · exact trivial
    · refine flat_all (by rw [List.length_map]; exact Nat.le_trans (h.few p hp) (by decide)) fun z hz => ?_
      obtain ⟨_, _, rfl⟩ := List.mem_map.mp hz
      exact trivial

def sp_law (K : PySem.W.Frag) : Sp := fun vs H Q _ => ∃ (a : Addr) (ns : List Int), vs = [.ref a] ∧ SqL K H a (ns.map V.int) ∧ ns.length ≤ 63 ∧ ∀ H', Q (.bl true) H'
theorem ok_law (T : Txt K w mg A) : FnOk P w K mg base CX0 15 A.f_law A.d_law ["script"] (sp_law K) := by
  refine T.F_law.ok sc_law (fun vs H Q E h => ?_) (fun cdv Ar outer s H vs Q E hr h => ?_)
  · obtain ⟨a, ns, rfl, hS, few, k⟩ := h
    rfl
  · obtain ⟨a, ns, rfl, hS, few, k⟩ := h
    refine ⟨_, PSs.nox ((pss_cons (ps_set (i := 1) sc_law.nd rfl (Or.inl rfl) (pe_call (ok_law_pool T) (hr.mono (by decide)) rfl T.m_law_pool T.F_law_pool.kp (b_law_pool T) .nil pass0 (pa_cons (pv 0) pa_nil)))
 (pss_cons (ps_set (i := 2) sc_law.nd rfl (Or.inl rfl) (pe_call (ok_law_program T) (hr.mono (by decide)) rfl T.m_law_program T.F_law_program.kp (b_law_program T) .nil pass0 (pa_cons (pv 1) (pa_cons pe_int (pa_cons pe_int (pa_cons pe_int (pa_cons pe_int (pa_cons pe_int pa_nil))))))))
 (pss_cons (ps_set (i := 3) sc_law.nd rfl (Or.inl rfl) (pe_call (ok_law_lot T) (hr.mono (by decide)) rfl T.m_law_lot T.F_law_lot.kp (b_law_lot T) .nil pass0 (pa_cons (pv 1) (pa_cons (pv 2) pa_nil))))
 (pss_cons (ps_set (i := 4) sc_law.nd rfl (Or.inl rfl) (pe_call (ok_law_layout T) (hr.mono (by decide)) rfl T.m_law_layout T.F_law_layout.kp (b_law_layout T) .nil pass0 (pa_cons (pv 1) (pa_cons (pv 2) pa_nil))))
 (pss_cons (ps_set (i := 5) sc_law.nd rfl (Or.inl rfl) (pe_join pe_str (pe_call (ok_law_layout_lines T) (hr.mono (by decide)) rfl T.m_law_layout_lines T.F_law_layout_lines.kp (b_law_layout_lines T) .nil pass0 (pa_cons (pv 4) pa_nil))))
 (pss_cons (ps_for PassesOwn.never rfl (pi_list (pe_lst (pa_cons (pv 3) (pa_cons (pe_tup pa_nil) (pa_cons (pv 3) pa_nil))))) (pg_name (i := 6) sc_law.nd rfl (Or.inl rfl)) (pss_cons (ps_set (i := 7) sc_law.nd rfl (Or.inl rfl) (pe_join pe_str (pe_lc (own := [("place", 8)]) (g := (gName 8)) (tt := tYes) rfl sc_law.nd (pi_tup (pv 6)) (blkOk_by (N := N_law) (sc := defScope s_law) (by decide +kernel)) (fun _ _ _ _ _ => (pg_name (i := 8) sc_law.nd rfl (Or.inl rfl))) (fun _ _ _ _ _ => pts_nil) (fun _ _ _ _ _ => (pe_call (ok_law_place_text T) (hr.mono (by decide)) rfl T.m_law_place_text T.F_law_place_text.kp (b_law_place_text T) .nil pass0 (pa_cons (pv 8) pa_nil))))))
 (pss_cons (ps_if (PW.pt (pw_or (pt_cmpR op_ne (pe_call (ok_show_lot T) (hr.mono (by decide)) rfl T.m_show_lot T.F_show_lot.kp (b_show_lot T) .nil pass0 (pa_cons (pv 2) (pa_cons (pv 6) pa_nil))) (pv 7) (nomark _)) (pw_or1 (pt_not (pt_val (pe_call (ok_same T 5) (hr.mono (by decide)) rfl T.m_law_same T.F_law_same.kp (b_law_same T) .nil pass0 (pa_cons (pe_call (ok_read_lot T) (hr.mono (by decide)) rfl T.m_read_lot T.F_read_lot.kp (b_read_lot T) .nil pass0 (pa_cons (pv 2) (pa_cons (pv 7) pa_nil))) (pa_cons (pv 6) pa_nil)))))))) (pss_one (ps_ret pe_bl)) pss_nil)
 (pss_one (ps_if (PW.pt (pw_or (pt_cmpR op_ne (pe_call (ok_show_layout T) (hr.mono (by decide)) rfl T.m_show_layout T.F_show_layout.kp (b_show_layout T) .nil pass0 (pa_cons (pv 2) (pa_cons (pv 4) pa_nil))) (pv 5) (nomark _)) (pw_or1 (pt_not (pt_val (pe_call (ok_same T 5) (hr.mono (by decide)) rfl T.m_law_same T.F_law_same.kp (b_law_same T) .nil pass0 (pa_cons (pe_call (ok_read_layout T) (hr.mono (by decide)) rfl T.m_read_layout T.F_read_layout.kp (b_read_layout T) .nil pass0 (pa_cons (pv 2) (pa_cons (pv 5) pa_nil))) (pa_cons (pv 4) pa_nil)))))))) (pss_one (ps_ret pe_bl)) pss_nil)))))
 (pss_one (ps_ret pe_bl))))))))), ?_⟩
    rw [show start N_law [.ref a] = [some (.ref a), none, none, none, none, none, none, none, none] from rfl]
    refine ⟨_, rfl, a, ns, rfl, hS, few, fun H1 l s1 nl hp1 => ?_⟩
    refine ⟨_, rfl, l, 0, 4, 12, 2, 3, 4, rfl, hp1, by decide, by decide, by decide, by decide, by decide, by decide, by decide, by decide, by decide, by decide, by decide, fun H2 v P b2 p2 rv ok _ _ => ?_⟩
    refine ⟨_, rfl, _, rfl, l, 0 + 400, v, P, rfl, p2, by decide, rv, ok, fun H3 u qs0 b3 p3 ru sub => ?_⟩
    refine ⟨_, rfl, _, rfl, l, 0 + 400 + 25, v, P, rfl, p3, by decide, rv.mv b3, ok, fun H4 lv L b4 p4 rl hl => ?_⟩
    have mem := nsP_mem ok
    have n15 := nsP_few ok
    have up := nsP_up P
    refine ⟨⟨_, rfl⟩, _, rfl, lv, [l], P, nsP P, L, rfl, rl, ok, mem, n15, hl, fun H5 wp s5 hw5 => ⟨_, wp, layLines L, rfl, rfl, .inl (SqL.of hw5), by have := lay_sum ok mem n15 hl; omega, ?_⟩⟩
    dsimp only [gName, List.set]
    have rv5 := ((rv.mv b3).mv b4).sm s5
    have ru5 := (ru.mv b4).sm s5
    have rl5 := rl.sm s5
    refine ⟨_, rfl, Nat.zero_le _, fun E nE => ⟨_, rfl, (by show 3 ≤ sizeLine; decide), fun t nt => ?_⟩⟩
    have sE : Same H5 (upd H5 E (.tup [])) := same_new nE
    have hE : upd H5 E (.tup []) E = some (.tup []) := upd_same
    generalize upd H5 E (.tup []) = H6 at *
    have El : E ≠ l := (p4.same s5).ne nE
    have st : Same H6 (upd H6 t (.lst [u, .ref E, u])) := same_new nt
    refine ⟨t, rfl, ⟨_, SqL.of upd_same⟩, for_list (K := K) (a := t) (xs := [u, .ref E, u]) (fun i σ H' => Same (upd H6 t (.lst [u, .ref E, u])) H' ∧ ∃ o6 o7 : Option V, σ = [some (.ref a), some (.ref l), some v, some u, some lv, some (.str (layT L)), o6, o7, none]) ⟨.refl _, _, _, rfl⟩ (fun i σ H' _ q => SqL.of (q.1 _ _ upd_same)) ?_ ?_⟩
    · rintro i y σ H' hi ⟨s7, o6, o7, rfl⟩
      have s57 := (sE.trans st).trans s7
      obtain ⟨qs, rq, sub2⟩ : ∃ qs : List Pl, Rep [l] H' y (.tuple (qs.map stD)) ∧ qs.Sublist (placesP P P.parts.length) := by
        have m := List.mem_of_getElem? hi
        simp only [List.mem_cons, List.not_mem_nil, or_false] at m
        rcases m with rfl | rfl | rfl
        · exact ⟨qs0, ru5.sm s57, sub⟩
        · exact ⟨[], .tup ((st.trans s7) _ _ hE) (fun z => El (List.mem_singleton.mp z)) .nil, List.nil_sublist _⟩
        · exact ⟨qs0, ru5.sm s57, sub⟩
      have hq : ∀ q ∈ qs, q ∈ placesP P P.parts.length := fun q h => sub2.subset h
      have upq : qs.Pairwise fun p q => p.1 < q.1 ∨ (p.1 = q.1 ∧ p.2 < q.2) := List.Pairwise.sublist sub2 (placesP_up P _)
      have l20 : qs.length ≤ 20 := Nat.le_trans sub2.length_le (placesP_many ok)
      have oks : ∀ q ∈ qs, Pl.ok q := fun q h => place_small ok (hq q h)
      have rv7 := rv5.sm s57
      have rl7 := rl5.sm s57
      have rq0 := rq
      obtain ⟨b, xs, rfl, hb, _, rs⟩ := rq.tupV
      have lx : xs.length = qs.length := by rw [rs.length, List.length_map]
      dsimp only [gName, List.set]
      refine ⟨⟨_, rfl⟩, _, rfl, b, rfl, ⟨_, SqT.of hb⟩, fun D nD => ?_⟩
      refine lc_pure (walk_tup (xs := xs)) nD (fun i => V.str (placeT (qs.getD i (0, 0)))) (by rw [lx, sizeLine_eq]; omega) (fun H' s' => SqT.of (s' _ _ hb)) ?_ ?_
      · rintro i x H9 H8 F hi s8 ⟨rfl, hx⟩ fin
        have il : i < qs.length := by omega
        obtain ⟨d, hd, rx⟩ := rs.get hx
        rw [List.getElem?_map, List.getElem?_eq_getElem il] at hd
        obtain rfl := Option.some.inj hd
        have eg : qs.getD i (0, 0) = qs[i] := by rw [List.getD_eq_getElem?_getD, List.getElem?_eq_getElem il]; rfl
        rw [eg] at fin
        exact ⟨rfl, _, rfl, x, [l], qs[i], rfl, rx.sm s8, oks _ (List.getElem_mem il), fin _ (.refl _)⟩
      intro H8 s8 hD
      rw [lx, range_map (fun q => V.str (placeT q)) (0, 0) qs] at hD
      have eD : qs.map (fun q => V.str (placeT q)) = (qs.map placeT).map V.str := by rw [List.map_map]; rfl
      rw [eD] at hD
      have su := sum_const placeT 3 qs fun q h => Nat.le_of_eq (placeT_len (oks q h))
      have h3 : ((" " : Str)).length = 1 := by decide +kernel
      refine ⟨_, D, _, rfl, rfl, .inl (SqL.of hD), by rw [List.length_map, h3]; omega, ?_⟩
      dsimp only [gName, List.set]
      refine ⟨_, rfl, _, rfl, v, .ref b, [l], P, qs, rfl, rv7.sm s8, ok, rq0.sm s8, hq, upq, fun H9 s9 => ⟨_, rfl, rfl, _, rfl, ?_⟩⟩
      refine ite2 (fun c => absurd c (by simp [lotT])) (fun _ => ?_)
      have s89 := s8.trans s9
      refine ⟨_, rfl, _, rfl, v, [l], P, qs, rfl, rv7.sm s89, ok, hq, upq, fun HA x sA rx => ⟨_, rfl, x, .ref b, [], _, rfl, rx, (rq0.sm (s89.trans sA)).less (fun _ z => absurd z List.not_mem_nil), flat_lot (n := 2) l20, fun HB sB => ⟨_, rfl, ?_⟩⟩⟩
      refine ite2 (fun c => absurd c (by decide)) (fun _ => ?_)
      have s8B := s89.trans (sA.trans sB)
      refine ⟨_, rfl, _, rfl, v, lv, [l], P, nsP P, L, rfl, rl7.sm s8B, rv7.sm s8B, ok, up, mem, n15, hl, fun HC sC => ⟨_, rfl, rfl, _, rfl, ?_⟩⟩
      refine ite2 (fun c => absurd c (by simp [layT])) (fun _ => ?_)
      have s8C := s8B.trans sC
      refine ⟨_, rfl, _, rfl, v, [l], P, nsP P, L, rfl, rv7.sm s8C, ok, up, mem, n15, hl, fun HD x2 sD rx2 => ⟨_, rfl, x2, lv, [], L.d, rfl, rx2, (rl7.sm (s8C.trans sD)).less (fun _ z => absurd z List.not_mem_nil), flat_lay ok n15 hl, fun HE sE2 => ⟨_, rfl, ?_⟩⟩⟩
      refine ite2 (fun c => absurd c (by decide)) (fun _ => ?_)
      exact ⟨s7.trans (s8C.trans (sD.trans sE2)), _, _, rfl⟩
    · rintro σ H' _
      exact k H'
end
end Lb

set_option Elab.async false
set_option linter.all false
set_option maxRecDepth 100000
set_option maxHeartbeats 0
namespace Lb
open PySem PySem.Spec PyProof.Rows L2
/-! the top: what it has bound -/
def df_is_integer : He.DefD := ⟨("is_integer", none), "is_integer", "is_integer", defArgs s_is_integer, defBody s_is_integer, defScope s_is_integer, [], []⟩
def df_is_number : He.DefD := ⟨("is_number", none), "is_number", "is_number", defArgs s_is_number, defBody s_is_number, defScope s_is_number, [], []⟩
def df_is_name : He.DefD := ⟨("is_name", none), "is_name", "is_name", defArgs s_is_name, defBody s_is_name, defScope s_is_name, [], []⟩
def df_is_tuple : He.DefD := ⟨("is_tuple", none), "is_tuple", "is_tuple", defArgs s_is_tuple, defBody s_is_tuple, defScope s_is_tuple, [], []⟩
def df_is_ascending : He.DefD := ⟨("is_ascending", none), "is_ascending", "is_ascending", defArgs s_is_ascending, defBody s_is_ascending, defScope s_is_ascending, [], []⟩
def df_is_need : He.DefD := ⟨("is_need", none), "is_need", "is_need", defArgs s_is_need, defBody s_is_need, defScope s_is_need, [], []⟩
def df_are_needs : He.DefD := ⟨("are_needs", none), "are_needs", "are_needs", defArgs s_are_needs, defBody s_are_needs, defScope s_are_needs, [], []⟩
def df_starts_with_word : He.DefD := ⟨("starts_with_word", none), "starts_with_word", "starts_with_word", defArgs s_starts_with_word, defBody s_starts_with_word, defScope s_starts_with_word, [], []⟩
def df_is_row : He.DefD := ⟨("is_row", none), "is_row", "is_row", defArgs s_is_row, defBody s_is_row, defScope s_is_row, [], []⟩
def df_is_give : He.DefD := ⟨("is_give", none), "is_give", "is_give", defArgs s_is_give, defBody s_is_give, defScope s_is_give, [], []⟩
def df_is_late : He.DefD := ⟨("is_late", none), "is_late", "is_late", defArgs s_is_late, defBody s_is_late, defScope s_is_late, [], []⟩
def df_are_parts : He.DefD := ⟨("are_parts", none), "are_parts", "are_parts", defArgs s_are_parts, defBody s_are_parts, defScope s_are_parts, [], []⟩
def df_are_marks : He.DefD := ⟨("are_marks", none), "are_marks", "are_marks", defArgs s_are_marks, defBody s_are_marks, defScope s_are_marks, [], []⟩
def df_are_entries : He.DefD := ⟨("are_entries", none), "are_entries", "are_entries", defArgs s_are_entries, defBody s_are_entries, defScope s_are_entries, [], []⟩
def df_are_opens : He.DefD := ⟨("are_opens", none), "are_opens", "are_opens", defArgs s_are_opens, defBody s_are_opens, defScope s_are_opens, [], []⟩
def df_is_program : He.DefD := ⟨("is_program", none), "is_program", "is_program", defArgs s_is_program, defBody s_is_program, defScope s_is_program, [], []⟩
def df_demand_program : He.DefD := ⟨("demand_program", none), "demand_program", "demand_program", defArgs s_demand_program, defBody s_demand_program, defScope s_demand_program, [], []⟩
def df_is_place : He.DefD := ⟨("is_place", none), "is_place", "is_place", defArgs s_is_place, defBody s_is_place, defScope s_is_place, [], []⟩
def df_is_lot : He.DefD := ⟨("is_lot", none), "is_lot", "is_lot", defArgs s_is_lot, defBody s_is_lot, defScope s_is_lot, [], []⟩
def df_demand_lot : He.DefD := ⟨("demand_lot", none), "demand_lot", "demand_lot", defArgs s_demand_lot, defBody s_demand_lot, defScope s_demand_lot, [], []⟩
def df_is_layout : He.DefD := ⟨("is_layout", none), "is_layout", "is_layout", defArgs s_is_layout, defBody s_is_layout, defScope s_is_layout, [], []⟩
def df_are_packs : He.DefD := ⟨("are_packs", none), "are_packs", "are_packs", defArgs s_are_packs, defBody s_are_packs, defScope s_are_packs, [], []⟩
def df_are_laid_doors : He.DefD := ⟨("are_laid_doors", none), "are_laid_doors", "are_laid_doors", defArgs s_are_laid_doors, defBody s_are_laid_doors, defScope s_are_laid_doors, [], []⟩
def df_is_laid_door : He.DefD := ⟨("is_laid_door", none), "is_laid_door", "is_laid_door", defArgs s_is_laid_door, defBody s_is_laid_door, defScope s_is_laid_door, [], []⟩
def df_demand_layout : He.DefD := ⟨("demand_layout", none), "demand_layout", "demand_layout", defArgs s_demand_layout, defBody s_demand_layout, defScope s_demand_layout, [], []⟩
def df_doors_of : He.DefD := ⟨("doors_of", none), "doors_of", "doors_of", defArgs s_doors_of, defBody s_doors_of, defScope s_doors_of, [], []⟩
def df_place_text : He.DefD := ⟨("place_text", none), "place_text", "place_text", defArgs s_place_text, defBody s_place_text, defScope s_place_text, [], []⟩
def df_show_lot : He.DefD := ⟨("show_lot", none), "show_lot", "show_lot", defArgs s_show_lot, defBody s_show_lot, defScope s_show_lot, [], []⟩
def df_show_layout : He.DefD := ⟨("show_layout", none), "show_layout", "show_layout", defArgs s_show_layout, defBody s_show_layout, defScope s_show_layout, [], []⟩
def df_demand_text : He.DefD := ⟨("demand_text", none), "demand_text", "demand_text", defArgs s_demand_text, defBody s_demand_text, defScope s_demand_text, [], []⟩
def df_read_place : He.DefD := ⟨("read_place", none), "read_place", "read_place", defArgs s_read_place, defBody s_read_place, defScope s_read_place, [], []⟩
def df_read_number : He.DefD := ⟨("read_number", none), "read_number", "read_number", defArgs s_read_number, defBody s_read_number, defScope s_read_number, [], []⟩
def df_read_numbers : He.DefD := ⟨("read_numbers", none), "read_numbers", "read_numbers", defArgs s_read_numbers, defBody s_read_numbers, defScope s_read_numbers, [], []⟩
def df_read_lot : He.DefD := ⟨("read_lot", none), "read_lot", "read_lot", defArgs s_read_lot, defBody s_read_lot, defScope s_read_lot, [], []⟩
def df_read_layout : He.DefD := ⟨("read_layout", none), "read_layout", "read_layout", defArgs s_read_layout, defBody s_read_layout, defScope s_read_layout, [], []⟩
def df_read_pack : He.DefD := ⟨("read_pack", none), "read_pack", "read_pack", defArgs s_read_pack, defBody s_read_pack, defScope s_read_pack, [], []⟩
def df_read_door : He.DefD := ⟨("read_door", none), "read_door", "read_door", defArgs s_read_door, defBody s_read_door, defScope s_read_door, [], []⟩
def df_law_pool : He.DefD := ⟨("_law_pool", none), "_law_pool", "_law_pool", defArgs s_law_pool, defBody s_law_pool, defScope s_law_pool, [], []⟩
def df_law_draw : He.DefD := ⟨("_law_draw", none), "_law_draw", "_law_draw", defArgs s_law_draw, defBody s_law_draw, defScope s_law_draw, [], []⟩
def df_law_subset : He.DefD := ⟨("_law_subset", none), "_law_subset", "_law_subset", defArgs s_law_subset, defBody s_law_subset, defScope s_law_subset, [], []⟩
def df_law_need : He.DefD := ⟨("_law_need", none), "_law_need", "_law_need", defArgs s_law_need, defBody s_law_need, defScope s_law_need, [], []⟩
def df_law_needs : He.DefD := ⟨("_law_needs", none), "_law_needs", "_law_needs", defArgs s_law_needs, defBody s_law_needs, defScope s_law_needs, [], []⟩
def df_law_words : He.DefD := ⟨("_law_words", none), "_law_words", "_law_words", defArgs s_law_words, defBody s_law_words, defScope s_law_words, [], []⟩
def df_law_with_show : He.DefD := ⟨("_law_with_show", none), "_law_with_show", "_law_with_show", defArgs s_law_with_show, defBody s_law_with_show, defScope s_law_with_show, [], []⟩
def df_law_row : He.DefD := ⟨("_law_row", none), "_law_row", "_law_row", defArgs s_law_row, defBody s_law_row, defScope s_law_row, [], []⟩
def df_law_program : He.DefD := ⟨("_law_program", none), "_law_program", "_law_program", defArgs s_law_program, defBody s_law_program, defScope s_law_program, [], []⟩
def df_law_places : He.DefD := ⟨("_law_places", none), "_law_places", "_law_places", defArgs s_law_places, defBody s_law_places, defScope s_law_places, [], []⟩
def df_law_at : He.DefD := ⟨("_law_at", none), "_law_at", "_law_at", defArgs s_law_at, defBody s_law_at, defScope s_law_at, [], []⟩
def df_law_named : He.DefD := ⟨("_law_named", none), "_law_named", "_law_named", defArgs s_law_named, defBody s_law_named, defScope s_law_named, [], []⟩
def df_law_links : He.DefD := ⟨("_law_links", none), "_law_links", "_law_links", defArgs s_law_links, defBody s_law_links, defScope s_law_links, [], []⟩
def df_law_doors : He.DefD := ⟨("_law_doors", none), "_law_doors", "_law_doors", defArgs s_law_doors, defBody s_law_doors, defScope s_law_doors, [], []⟩
def df_law_reached : He.DefD := ⟨("_law_reached", none), "_law_reached", "_law_reached", defArgs s_law_reached, defBody s_law_reached, defScope s_law_reached, [], []⟩
def df_law_ready : He.DefD := ⟨("_law_ready", none), "_law_ready", "_law_ready", defArgs s_law_ready, defBody s_law_ready, defScope s_law_ready, [], []⟩
def df_law_lot : He.DefD := ⟨("_law_lot", none), "_law_lot", "_law_lot", defArgs s_law_lot, defBody s_law_lot, defScope s_law_lot, [], []⟩
def df_law_layout : He.DefD := ⟨("_law_layout", none), "_law_layout", "_law_layout", defArgs s_law_layout, defBody s_law_layout, defScope s_law_layout, [], []⟩
def df_law_place_text : He.DefD := ⟨("_law_place_text", none), "_law_place_text", "_law_place_text", defArgs s_law_place_text, defBody s_law_place_text, defScope s_law_place_text, [], []⟩
def df_law_layout_lines : He.DefD := ⟨("_law_layout_lines", none), "_law_layout_lines", "_law_layout_lines", defArgs s_law_layout_lines, defBody s_law_layout_lines, defScope s_law_layout_lines, [], []⟩
def df_law_same : He.DefD := ⟨("_law_same", none), "_law_same", "_law_same", defArgs s_law_same, defBody s_law_same, defScope s_law_same, [], []⟩
def df_law : He.DefD := ⟨("law", none), "law", "law", defArgs s_law, defBody s_law, defScope s_law, [], []⟩
def fns : List He.DefD := [df_is_integer, df_is_number, df_is_name, df_is_tuple, df_is_ascending, df_is_need, df_are_needs, df_starts_with_word, df_is_row, df_is_give, df_is_late, df_are_parts, df_are_marks, df_are_entries, df_are_opens, df_is_program, df_demand_program, df_is_place, df_is_lot, df_demand_lot, df_is_layout, df_are_packs, df_are_laid_doors, df_is_laid_door, df_demand_layout, df_doors_of, df_place_text, df_show_lot, df_show_layout, df_demand_text, df_read_place, df_read_number, df_read_numbers, df_read_lot, df_read_layout, df_read_pack, df_read_door, df_law_pool, df_law_draw, df_law_subset, df_law_need, df_law_needs, df_law_words, df_law_with_show, df_law_row, df_law_program, df_law_places, df_law_at, df_law_named, df_law_links, df_law_doors, df_law_reached, df_law_ready, df_law_lot, df_law_layout, df_law_place_text, df_law_layout_lines, df_law_same, df_law]
def fa0 : List He.Fa := [.glo "is_integer", .glo "is_number", .glo "is_name", .glo "is_tuple", .glo "is_ascending", .glo "is_need", .glo "are_needs", .glo "starts_with_word", .glo "is_row", .glo "is_give", .glo "is_late", .glo "are_parts", .glo "are_marks", .glo "are_entries", .glo "are_opens", .glo "is_program", .glo "demand_program", .glo "is_place", .glo "is_lot", .glo "demand_lot"]
def fa1 : List He.Fa := [.glo "is_layout", .glo "are_packs", .glo "are_laid_doors", .glo "is_laid_door", .glo "demand_layout", .glo "doors_of", .glo "place_text", .glo "show_lot", .glo "show_layout", .glo "demand_text", .glo "read_place", .glo "read_number", .glo "read_numbers", .glo "read_lot", .glo "read_layout", .glo "read_pack", .glo "read_door", .glo "_law_pool", .glo "_law_draw", .glo "_law_subset"]
def fa2 : List He.Fa := [.glo "_law_need", .glo "_law_needs", .glo "_law_words", .glo "_law_with_show", .glo "_law_row", .glo "_law_program", .glo "_law_places", .glo "_law_at", .glo "_law_named", .glo "_law_links", .glo "_law_doors", .glo "_law_reached", .glo "_law_ready", .glo "_law_lot", .glo "_law_layout", .glo "_law_place_text", .glo "_law_layout_lines", .glo "_law_same", .glo "law", .free "len"]
def fa3 : List He.Fa := [.free "int", .free "abs", .free "isinstance", .free "range", .free "list", .free "tuple", .free "sorted", .free "set", .free "min", .free "all", .free "any", .free "zip", .free "enumerate", .free "bool", .free "str", .free "map", .free "reversed", .int "MOST_ENTRIES" (3), .int "MOST_NEEDS" (2), .int "MOST_NEEDS_OF_GIVE" (1)]
def fa4 : List He.Fa := [.int "MOST_OPENS" (4), .int "MOST_OUTS" (2), .int "MOST_PACKS" (8), .int "MOST_PARTS" (4), .int "MOST_ROWS" (12), .int "MOST_ROWS_OF_PART" (5), .int "NO_PART" (-1), .str "DIGITS" "0123456789", .glo "NAMES"]
def fas : List He.Fa := fa0 ++ fa1 ++ fa2 ++ fa3 ++ fa4
def tbs : List (Str × List He.Dv) := [("NAMES", [.str "a", .str "b", .str "c", .str "d"])]
def dts : List He.Tab := []
def dvs : List (Str × List (Str × He.Dv)) := []
def dms : List (Str × List Str) := []
def missB (K : PySem.W.Frag) (a : Addr) (x : Str) : Bool := match PySem.W.nsIn K a x with
  | some none => true
  | _ => false
theorem missB_ok {K : PySem.W.Frag} {a : Addr} {x : Str} (h : missB K a x = true) : PySem.W.nsIn K a x = some none := by
  unfold missB at h
  cases e : PySem.W.nsIn K a x with
  | none => rw [e] at h; cases h
  | some r => cases r with
    | none => rfl
    | some u => rw [e] at h; cases h
def moreB (K : PySem.W.Frag) : Bool := (tbs.all fun q => He.tupB K q.1 q.2) && ((dvs.all fun q => He.valsB K (He.ga K q.1) q.2) && (dms.all fun q => q.2.all fun x => missB K (He.ga K q.1) x))
theorem more_ok {K : PySem.W.Frag} (h : moreB K = true) : (tbs.all fun q => He.tupB K q.1 q.2) = true ∧ (dvs.all fun q => He.valsB K (He.ga K q.1) q.2) = true ∧ (dms.all fun q => q.2.all fun x => missB K (He.ga K q.1) x) = true := by
  unfold moreB at h
  rw [Bool.and_eq_true, Bool.and_eq_true] at h
  exact h
/-- what is looked at: names, defs and tables -/
def seenOf (g : Addr → Option Obj) : He.AlT × Bool := (He.obsTG 4 fas fns dts g, moreB (He.frG g (He.asD g 4)))
def hookOf : PySem.W.Hook where
  α := He.AlT × Bool
  obs := fun s => seenOf s.heap.get?
  val := fun w => (He.valT fns dts w, true)
  says := fun w h => ∃ K : PySem.W.Frag, K.In h ∧ He.SaysT fas fns dts w K ∧ moreB K = true
  of := fun _ _ e => ⟨_, He.frG_in, congrArg Prod.fst e, congrArg Prod.snd e⟩
  keeps := fun _ _ _ y k => y.elim fun K c => ⟨K, c.1.keeps k, c.2⟩
def seenT (s : PySem.W.SharedT) : He.AlT × Bool := seenOf (HandSHeadRun.getT s)
theorem seenT_eq (s : PySem.W.SharedT) : seenT s = hookOf.obs s.abs := by
  have e : HandSHeadRun.getT s = s.abs.heap.get? := funext (HandSHeadRun.getT_eq s)
  show seenOf (HandSHeadRun.getT s) = seenOf s.abs.heap.get?
  rw [e]
def others0 : List Str := ["BundleError", "BadProgram", "BadLot", "BadLayout", "BadText", "NAMES", "MOST_PARTS", "MOST_ROWS_OF_PART", "MOST_ROWS", "MOST_OUTS", "MOST_ENTRIES", "MOST_OPENS", "MOST_NEEDS_OF_GIVE", "MOST_NEEDS", "MOST_PACKS", "NO_PART", "is_integer", "is_number", "is_name", "is_tuple", "is_ascending", "is_need", "are_needs", "starts_with_word", "is_row", "is_give", "is_late", "are_parts", "are_marks", "are_entries"]
def others1 : List Str := (["are_opens", "is_program", "demand_program", "is_place", "is_lot", "demand_lot", "is_layout", "are_packs", "are_laid_doors", "is_laid_door", "demand_layout", "doors_of", "DIGITS", "place_text", "show_lot", "show_layout", "demand_text", "read_place", "read_number", "read_numbers", "read_lot", "read_layout", "read_pack", "read_door", "_law_pool", "_law_draw", "_law_subset", "_law_need", "_law_needs", "_law_words"] : List Str) ++ (["_law_with_show", "_law_row", "_law_program", "_law_places", "_law_at", "_law_named", "_law_links", "_law_doors", "_law_reached", "_law_ready", "_law_lot", "_law_layout", "_law_place_text", "_law_layout_lines", "_law_same"] : List Str)
abbrev theRow : PySem.W.OpenRow := PySem.W.OpenLaw.row PySem.Challenge.rw_leanbundle_k85_whole_lots_and_layouts_th
theorem theRunF (w : World) : HandSHeadRun.RunEq theRow (PySem.W.view theRow.prog [79]) hookOf seenT 8000 (others0 ++ others1) (w.withFollow "special-get-raises" false) := by
  intro os
  kernel_rfl
theorem theRunT (w : World) : HandSHeadRun.RunEq theRow (PySem.W.view theRow.prog [79]) hookOf seenT 8000 (others0 ++ others1) (w.withFollow "special-get-raises" true) := by
  intro os
  kernel_rfl
theorem theRun (w : World) : HandSHeadRun.RunEq theRow (PySem.W.view theRow.prog [79]) hookOf seenT 8000 (others0 ++ others1) w := PySem.W.byRow2 "special-get-raises" (P := fun w => HandSHeadRun.RunEq theRow (PySem.W.view theRow.prog [79]) hookOf seenT 8000 (others0 ++ others1) w) theRunF theRunT w
theorem theFacts {P : Program} {w : World} {K : PySem.W.Frag} {h : Heap} {mg : Str → Option Value} {f : Addr} (X : K.In h) (G : h.Ns mainGlobals mg) (hfa : mg ("law" : Str) = some (.ref f)) (cw : He.SaysT fas fns dts w K) (cm : moreB K = true) :
    ∃ fd : FuncData, (∀ (s : Shared) (v : Value), BindsTo s fd ⟨[v], []⟩ [("script", v)]) ∧ ∀ base : Heap, K.In base → base.Ns mainGlobals mg → FnOk P w K mg base CX0 15 f fd ["script"] (sp_law K) := by
  have c := cw.d
  obtain ⟨ct, cv, cn⟩ := more_ok cm
  obtain ⟨d_is_integer, F_is_integer⟩ := c.def_ 0 (d := df_is_integer) rfl
  obtain ⟨d_is_number, F_is_number⟩ := c.def_ 1 (d := df_is_number) rfl
  obtain ⟨d_is_name, F_is_name⟩ := c.def_ 2 (d := df_is_name) rfl
  obtain ⟨d_is_tuple, F_is_tuple⟩ := c.def_ 3 (d := df_is_tuple) rfl
  obtain ⟨d_is_ascending, F_is_ascending⟩ := c.def_ 4 (d := df_is_ascending) rfl
  obtain ⟨d_is_need, F_is_need⟩ := c.def_ 5 (d := df_is_need) rfl
  obtain ⟨d_are_needs, F_are_needs⟩ := c.def_ 6 (d := df_are_needs) rfl
  obtain ⟨d_starts_with_word, F_starts_with_word⟩ := c.def_ 7 (d := df_starts_with_word) rfl
  obtain ⟨d_is_row, F_is_row⟩ := c.def_ 8 (d := df_is_row) rfl
  obtain ⟨d_is_give, F_is_give⟩ := c.def_ 9 (d := df_is_give) rfl
  obtain ⟨d_is_late, F_is_late⟩ := c.def_ 10 (d := df_is_late) rfl
  obtain ⟨d_are_parts, F_are_parts⟩ := c.def_ 11 (d := df_are_parts) rfl
  obtain ⟨d_are_marks, F_are_marks⟩ := c.def_ 12 (d := df_are_marks) rfl
  obtain ⟨d_are_entries, F_are_entries⟩ := c.def_ 13 (d := df_are_entries) rfl
  obtain ⟨d_are_opens, F_are_opens⟩ := c.def_ 14 (d := df_are_opens) rfl
  obtain ⟨d_is_program, F_is_program⟩ := c.def_ 15 (d := df_is_program) rfl
  obtain ⟨d_demand_program, F_demand_program⟩ := c.def_ 16 (d := df_demand_program) rfl
  obtain ⟨d_is_place, F_is_place⟩ := c.def_ 17 (d := df_is_place) rfl
  obtain ⟨d_is_lot, F_is_lot⟩ := c.def_ 18 (d := df_is_lot) rfl
  obtain ⟨d_demand_lot, F_demand_lot⟩ := c.def_ 19 (d := df_demand_lot) rfl
  obtain ⟨d_is_layout, F_is_layout⟩ := c.def_ 20 (d := df_is_layout) rfl
  obtain ⟨d_are_packs, F_are_packs⟩ := c.def_ 21 (d := df_are_packs) rfl
  obtain ⟨d_are_laid_doors, F_are_laid_doors⟩ := c.def_ 22 (d := df_are_laid_doors) rfl
  obtain ⟨d_is_laid_door, F_is_laid_door⟩ := c.def_ 23 (d := df_is_laid_door) rfl
  obtain ⟨d_demand_layout, F_demand_layout⟩ := c.def_ 24 (d := df_demand_layout) rfl
  obtain ⟨d_doors_of, F_doors_of⟩ := c.def_ 25 (d := df_doors_of) rfl
  obtain ⟨d_place_text, F_place_text⟩ := c.def_ 26 (d := df_place_text) rfl
  obtain ⟨d_show_lot, F_show_lot⟩ := c.def_ 27 (d := df_show_lot) rfl
  obtain ⟨d_show_layout, F_show_layout⟩ := c.def_ 28 (d := df_show_layout) rfl
  obtain ⟨d_demand_text, F_demand_text⟩ := c.def_ 29 (d := df_demand_text) rfl
  obtain ⟨d_read_place, F_read_place⟩ := c.def_ 30 (d := df_read_place) rfl
  obtain ⟨d_read_number, F_read_number⟩ := c.def_ 31 (d := df_read_number) rfl
  obtain ⟨d_read_numbers, F_read_numbers⟩ := c.def_ 32 (d := df_read_numbers) rfl
  obtain ⟨d_read_lot, F_read_lot⟩ := c.def_ 33 (d := df_read_lot) rfl
  obtain ⟨d_read_layout, F_read_layout⟩ := c.def_ 34 (d := df_read_layout) rfl
  obtain ⟨d_read_pack, F_read_pack⟩ := c.def_ 35 (d := df_read_pack) rfl
  obtain ⟨d_read_door, F_read_door⟩ := c.def_ 36 (d := df_read_door) rfl
  obtain ⟨d_law_pool, F_law_pool⟩ := c.def_ 37 (d := df_law_pool) rfl
  obtain ⟨d_law_draw, F_law_draw⟩ := c.def_ 38 (d := df_law_draw) rfl
  obtain ⟨d_law_subset, F_law_subset⟩ := c.def_ 39 (d := df_law_subset) rfl
  obtain ⟨d_law_need, F_law_need⟩ := c.def_ 40 (d := df_law_need) rfl
  obtain ⟨d_law_needs, F_law_needs⟩ := c.def_ 41 (d := df_law_needs) rfl
  obtain ⟨d_law_words, F_law_words⟩ := c.def_ 42 (d := df_law_words) rfl
  obtain ⟨d_law_with_show, F_law_with_show⟩ := c.def_ 43 (d := df_law_with_show) rfl
  obtain ⟨d_law_row, F_law_row⟩ := c.def_ 44 (d := df_law_row) rfl
  obtain ⟨d_law_program, F_law_program⟩ := c.def_ 45 (d := df_law_program) rfl
  obtain ⟨d_law_places, F_law_places⟩ := c.def_ 46 (d := df_law_places) rfl
  obtain ⟨d_law_at, F_law_at⟩ := c.def_ 47 (d := df_law_at) rfl
  obtain ⟨d_law_named, F_law_named⟩ := c.def_ 48 (d := df_law_named) rfl
  obtain ⟨d_law_links, F_law_links⟩ := c.def_ 49 (d := df_law_links) rfl
  obtain ⟨d_law_doors, F_law_doors⟩ := c.def_ 50 (d := df_law_doors) rfl
  obtain ⟨d_law_reached, F_law_reached⟩ := c.def_ 51 (d := df_law_reached) rfl
  obtain ⟨d_law_ready, F_law_ready⟩ := c.def_ 52 (d := df_law_ready) rfl
  obtain ⟨d_law_lot, F_law_lot⟩ := c.def_ 53 (d := df_law_lot) rfl
  obtain ⟨d_law_layout, F_law_layout⟩ := c.def_ 54 (d := df_law_layout) rfl
  obtain ⟨d_law_place_text, F_law_place_text⟩ := c.def_ 55 (d := df_law_place_text) rfl
  obtain ⟨d_law_layout_lines, F_law_layout_lines⟩ := c.def_ 56 (d := df_law_layout_lines) rfl
  obtain ⟨d_law_same, F_law_same⟩ := c.def_ 57 (d := df_law_same) rfl
  obtain ⟨d_law, F_law⟩ := c.def_ 58 (d := df_law) rfl
  have T : Txt K w mg ⟨He.fAd K ("is_integer", none), He.fAd K ("is_number", none), He.fAd K ("is_name", none), He.fAd K ("is_tuple", none), He.fAd K ("is_ascending", none), He.fAd K ("is_need", none), He.fAd K ("are_needs", none), He.fAd K ("starts_with_word", none), He.fAd K ("is_row", none), He.fAd K ("is_give", none), He.fAd K ("is_late", none), He.fAd K ("are_parts", none), He.fAd K ("are_marks", none), He.fAd K ("are_entries", none), He.fAd K ("are_opens", none), He.fAd K ("is_program", none), He.fAd K ("demand_program", none), He.fAd K ("is_place", none), He.fAd K ("is_lot", none), He.fAd K ("demand_lot", none), He.fAd K ("is_layout", none), He.fAd K ("are_packs", none), He.fAd K ("are_laid_doors", none), He.fAd K ("is_laid_door", none), He.fAd K ("demand_layout", none), He.fAd K ("doors_of", none), He.fAd K ("place_text", none), He.fAd K ("show_lot", none), He.fAd K ("show_layout", none), He.fAd K ("demand_text", none), He.fAd K ("read_place", none), He.fAd K ("read_number", none), He.fAd K ("read_numbers", none), He.fAd K ("read_lot", none), He.fAd K ("read_layout", none), He.fAd K ("read_pack", none), He.fAd K ("read_door", none), He.fAd K ("_law_pool", none), He.fAd K ("_law_draw", none), He.fAd K ("_law_subset", none), He.fAd K ("_law_need", none), He.fAd K ("_law_needs", none), He.fAd K ("_law_words", none), He.fAd K ("_law_with_show", none), He.fAd K ("_law_row", none), He.fAd K ("_law_program", none), He.fAd K ("_law_places", none), He.fAd K ("_law_at", none), He.fAd K ("_law_named", none), He.fAd K ("_law_links", none), He.fAd K ("_law_doors", none), He.fAd K ("_law_reached", none), He.fAd K ("_law_ready", none), He.fAd K ("_law_lot", none), He.fAd K ("_law_layout", none), He.fAd K ("_law_place_text", none), He.fAd K ("_law_layout_lines", none), He.fAd K ("_law_same", none), He.fAd K ("law", none), He.ga K "NAMES", d_is_integer, d_is_number, d_is_name, d_is_tuple, d_is_ascending, d_is_need, d_are_needs, d_starts_with_word, d_is_row, d_is_give, d_is_late, d_are_parts, d_are_marks, d_are_entries, d_are_opens, d_is_program, d_demand_program, d_is_place, d_is_lot, d_demand_lot, d_is_layout, d_are_packs, d_are_laid_doors, d_is_laid_door, d_demand_layout, d_doors_of, d_place_text, d_show_lot, d_show_layout, d_demand_text, d_read_place, d_read_number, d_read_numbers, d_read_lot, d_read_layout, d_read_pack, d_read_door, d_law_pool, d_law_draw, d_law_subset, d_law_need, d_law_needs, d_law_words, d_law_with_show, d_law_row, d_law_program, d_law_places, d_law_at, d_law_named, d_law_links, d_law_doors, d_law_reached, d_law_ready, d_law_lot, d_law_layout, d_law_place_text, d_law_layout_lines, d_law_same, d_law⟩ := {
    m_is_integer := He.glo_ok X G (c.fact 0 (f := .glo "is_integer") rfl),
    F_is_integer := F_is_integer,
    m_is_number := He.glo_ok X G (c.fact 1 (f := .glo "is_number") rfl),
    F_is_number := F_is_number,
    m_is_name := He.glo_ok X G (c.fact 2 (f := .glo "is_name") rfl),
    F_is_name := F_is_name,
    m_is_tuple := He.glo_ok X G (c.fact 3 (f := .glo "is_tuple") rfl),
    F_is_tuple := F_is_tuple,
    m_is_ascending := He.glo_ok X G (c.fact 4 (f := .glo "is_ascending") rfl),
    F_is_ascending := F_is_ascending,
    m_is_need := He.glo_ok X G (c.fact 5 (f := .glo "is_need") rfl),
    F_is_need := F_is_need,
    m_are_needs := He.glo_ok X G (c.fact 6 (f := .glo "are_needs") rfl),
    F_are_needs := F_are_needs,
    m_starts_with_word := He.glo_ok X G (c.fact 7 (f := .glo "starts_with_word") rfl),
    F_starts_with_word := F_starts_with_word,
    m_is_row := He.glo_ok X G (c.fact 8 (f := .glo "is_row") rfl),
    F_is_row := F_is_row,
    m_is_give := He.glo_ok X G (c.fact 9 (f := .glo "is_give") rfl),
    F_is_give := F_is_give,
    m_is_late := He.glo_ok X G (c.fact 10 (f := .glo "is_late") rfl),
    F_is_late := F_is_late,
    m_are_parts := He.glo_ok X G (c.fact 11 (f := .glo "are_parts") rfl),
    F_are_parts := F_are_parts,
    m_are_marks := He.glo_ok X G (c.fact 12 (f := .glo "are_marks") rfl),
    F_are_marks := F_are_marks,
    m_are_entries := He.glo_ok X G (c.fact 13 (f := .glo "are_entries") rfl),
    F_are_entries := F_are_entries,
    m_are_opens := He.glo_ok X G (c.fact 14 (f := .glo "are_opens") rfl),
    F_are_opens := F_are_opens,
    m_is_program := He.glo_ok X G (c.fact 15 (f := .glo "is_program") rfl),
    F_is_program := F_is_program,
    m_demand_program := He.glo_ok X G (c.fact 16 (f := .glo "demand_program") rfl),
    F_demand_program := F_demand_program,
    m_is_place := He.glo_ok X G (c.fact 17 (f := .glo "is_place") rfl),
    F_is_place := F_is_place,
    m_is_lot := He.glo_ok X G (c.fact 18 (f := .glo "is_lot") rfl),
    F_is_lot := F_is_lot,
    m_demand_lot := He.glo_ok X G (c.fact 19 (f := .glo "demand_lot") rfl),
    F_demand_lot := F_demand_lot,
    m_is_layout := He.glo_ok X G (c.fact 20 (f := .glo "is_layout") rfl),
    F_is_layout := F_is_layout,
    m_are_packs := He.glo_ok X G (c.fact 21 (f := .glo "are_packs") rfl),
    F_are_packs := F_are_packs,
    m_are_laid_doors := He.glo_ok X G (c.fact 22 (f := .glo "are_laid_doors") rfl),
    F_are_laid_doors := F_are_laid_doors,
    m_is_laid_door := He.glo_ok X G (c.fact 23 (f := .glo "is_laid_door") rfl),
    F_is_laid_door := F_is_laid_door,
    m_demand_layout := He.glo_ok X G (c.fact 24 (f := .glo "demand_layout") rfl),
    F_demand_layout := F_demand_layout,
    m_doors_of := He.glo_ok X G (c.fact 25 (f := .glo "doors_of") rfl),
    F_doors_of := F_doors_of,
    m_place_text := He.glo_ok X G (c.fact 26 (f := .glo "place_text") rfl),
    F_place_text := F_place_text,
    m_show_lot := He.glo_ok X G (c.fact 27 (f := .glo "show_lot") rfl),
    F_show_lot := F_show_lot,
    m_show_layout := He.glo_ok X G (c.fact 28 (f := .glo "show_layout") rfl),
    F_show_layout := F_show_layout,
    m_demand_text := He.glo_ok X G (c.fact 29 (f := .glo "demand_text") rfl),
    F_demand_text := F_demand_text,
    m_read_place := He.glo_ok X G (c.fact 30 (f := .glo "read_place") rfl),
    F_read_place := F_read_place,
    m_read_number := He.glo_ok X G (c.fact 31 (f := .glo "read_number") rfl),
    F_read_number := F_read_number,
    m_read_numbers := He.glo_ok X G (c.fact 32 (f := .glo "read_numbers") rfl),
    F_read_numbers := F_read_numbers,
    m_read_lot := He.glo_ok X G (c.fact 33 (f := .glo "read_lot") rfl),
    F_read_lot := F_read_lot,
    m_read_layout := He.glo_ok X G (c.fact 34 (f := .glo "read_layout") rfl),
    F_read_layout := F_read_layout,
    m_read_pack := He.glo_ok X G (c.fact 35 (f := .glo "read_pack") rfl),
    F_read_pack := F_read_pack,
    m_read_door := He.glo_ok X G (c.fact 36 (f := .glo "read_door") rfl),
    F_read_door := F_read_door,
    m_law_pool := He.glo_ok X G (c.fact 37 (f := .glo "_law_pool") rfl),
    F_law_pool := F_law_pool,
    m_law_draw := He.glo_ok X G (c.fact 38 (f := .glo "_law_draw") rfl),
    F_law_draw := F_law_draw,
    m_law_subset := He.glo_ok X G (c.fact 39 (f := .glo "_law_subset") rfl),
    F_law_subset := F_law_subset,
    m_law_need := He.glo_ok X G (c.fact 40 (f := .glo "_law_need") rfl),
    F_law_need := F_law_need,
    m_law_needs := He.glo_ok X G (c.fact 41 (f := .glo "_law_needs") rfl),
    F_law_needs := F_law_needs,
    m_law_words := He.glo_ok X G (c.fact 42 (f := .glo "_law_words") rfl),
    F_law_words := F_law_words,
    m_law_with_show := He.glo_ok X G (c.fact 43 (f := .glo "_law_with_show") rfl),
    F_law_with_show := F_law_with_show,
    m_law_row := He.glo_ok X G (c.fact 44 (f := .glo "_law_row") rfl),
    F_law_row := F_law_row,
    m_law_program := He.glo_ok X G (c.fact 45 (f := .glo "_law_program") rfl),
    F_law_program := F_law_program,
    m_law_places := He.glo_ok X G (c.fact 46 (f := .glo "_law_places") rfl),
    F_law_places := F_law_places,
    m_law_at := He.glo_ok X G (c.fact 47 (f := .glo "_law_at") rfl),
    F_law_at := F_law_at,
    m_law_named := He.glo_ok X G (c.fact 48 (f := .glo "_law_named") rfl),
    F_law_named := F_law_named,
    m_law_links := He.glo_ok X G (c.fact 49 (f := .glo "_law_links") rfl),
    F_law_links := F_law_links,
    m_law_doors := He.glo_ok X G (c.fact 50 (f := .glo "_law_doors") rfl),
    F_law_doors := F_law_doors,
    m_law_reached := He.glo_ok X G (c.fact 51 (f := .glo "_law_reached") rfl),
    F_law_reached := F_law_reached,
    m_law_ready := He.glo_ok X G (c.fact 52 (f := .glo "_law_ready") rfl),
    F_law_ready := F_law_ready,
    m_law_lot := He.glo_ok X G (c.fact 53 (f := .glo "_law_lot") rfl),
    F_law_lot := F_law_lot,
    m_law_layout := He.glo_ok X G (c.fact 54 (f := .glo "_law_layout") rfl),
    F_law_layout := F_law_layout,
    m_law_place_text := He.glo_ok X G (c.fact 55 (f := .glo "_law_place_text") rfl),
    F_law_place_text := F_law_place_text,
    m_law_layout_lines := He.glo_ok X G (c.fact 56 (f := .glo "_law_layout_lines") rfl),
    F_law_layout_lines := F_law_layout_lines,
    m_law_same := He.glo_ok X G (c.fact 57 (f := .glo "_law_same") rfl),
    F_law_same := F_law_same,
    m_law := He.glo_ok X G (c.fact 58 (f := .glo "law") rfl),
    F_law := F_law,
    zlen := He.free_ok X G (c.fact 59 (f := .free "len") rfl),
    zint := He.free_ok X G (c.fact 60 (f := .free "int") rfl),
    zabs := He.free_ok X G (c.fact 61 (f := .free "abs") rfl),
    zisinstance := He.free_ok X G (c.fact 62 (f := .free "isinstance") rfl),
    zrange := He.free_ok X G (c.fact 63 (f := .free "range") rfl),
    zlist := He.free_ok X G (c.fact 64 (f := .free "list") rfl),
    ztuple := He.free_ok X G (c.fact 65 (f := .free "tuple") rfl),
    zsorted := He.free_ok X G (c.fact 66 (f := .free "sorted") rfl),
    zset := He.free_ok X G (c.fact 67 (f := .free "set") rfl),
    zmin := He.free_ok X G (c.fact 68 (f := .free "min") rfl),
    zall := He.free_ok X G (c.fact 69 (f := .free "all") rfl),
    zany := He.free_ok X G (c.fact 70 (f := .free "any") rfl),
    zzip := He.free_ok X G (c.fact 71 (f := .free "zip") rfl),
    zenumerate := He.free_ok X G (c.fact 72 (f := .free "enumerate") rfl),
    zbool := He.free_ok X G (c.fact 73 (f := .free "bool") rfl),
    zstr := He.free_ok X G (c.fact 74 (f := .free "str") rfl),
    zmap := He.free_ok X G (c.fact 75 (f := .free "map") rfl),
    zreversed := He.free_ok X G (c.fact 76 (f := .free "reversed") rfl),
    i_MOST_ENTRIES := He.int_ok X G (c.fact 77 (f := .int "MOST_ENTRIES" (3)) rfl),
    i_MOST_NEEDS := He.int_ok X G (c.fact 78 (f := .int "MOST_NEEDS" (2)) rfl),
    i_MOST_NEEDS_OF_GIVE := He.int_ok X G (c.fact 79 (f := .int "MOST_NEEDS_OF_GIVE" (1)) rfl),
    i_MOST_OPENS := He.int_ok X G (c.fact 80 (f := .int "MOST_OPENS" (4)) rfl),
    i_MOST_OUTS := He.int_ok X G (c.fact 81 (f := .int "MOST_OUTS" (2)) rfl),
    i_MOST_PACKS := He.int_ok X G (c.fact 82 (f := .int "MOST_PACKS" (8)) rfl),
    i_MOST_PARTS := He.int_ok X G (c.fact 83 (f := .int "MOST_PARTS" (4)) rfl),
    i_MOST_ROWS := He.int_ok X G (c.fact 84 (f := .int "MOST_ROWS" (12)) rfl),
    i_MOST_ROWS_OF_PART := He.int_ok X G (c.fact 85 (f := .int "MOST_ROWS_OF_PART" (5)) rfl),
    i_NO_PART := He.int_ok X G (c.fact 86 (f := .int "NO_PART" (-1)) rfl),
    i_DIGITS := He.str_ok X G (c.fact 87 (f := .str "DIGITS" "0123456789") rfl),
    m_NAMES := He.glo_ok X G (c.fact 88 (f := .glo "NAMES") rfl),
    t_NAMES := fun H => He.tupB_ok (List.all_eq_true.mp ct _ (List.mem_of_getElem? (i := 0) rfl)) H }
  have e := hfa.symm.trans (He.glo_ok X G (c.fact 58 (f := .glo "law") rfl))
  cases e
  exact ⟨d_law, fun s v => (FunD.bindsA (ps := ["script"]) F_law fun _ _ _ _ _ _ us hl => match us, hl with | [_], _ => rfl) s [v] rfl, fun base _ _ => ok_law T⟩
end Lb
open PySem PySem.W PySem.Calls PyProof.Rows
theorem PySem.Challenge.cw_leanbundle_k85_whole_lots_and_layouts_th_holds : PySem.Challenge.rw_leanbundle_k85_whole_lots_and_layouts_th.Holds := by
  w_on; o_law
  refine HandSHeadRun.head_any (r := OpenLaw.row PySem.Challenge.rw_leanbundle_k85_whole_lots_and_layouts_th) (q := view (OpenLaw.row PySem.Challenge.rw_leanbundle_k85_whole_lots_and_layouts_th).prog [79]) (H := Lb.hookOf) (ob := Lb.seenT) (M := 8000) (loose := Lb.others0 ++ Lb.others1)
    (d := HandSHeadRun.topDef (OpenLaw.row PySem.Challenge.rw_leanbundle_k85_whole_lots_and_layouts_th).prog 79) (kwd := []) Lb.seenT_eq
    (by kernel_rfl) (fun s => by kernel_rfl) Lb.theRun (by kernel_rfl) (by kernel_rfl) (by kernel_rfl) (by rfl) (by first | decide +kernel | assumption) (by decide +kernel) ⟨rfl, rfl, rfl, rfl, rfl, by decide +kernel⟩ ?hw ?hc
  case hw => w_witness2
  case hc =>
    refine L2.walk_ofE (l := PySem.Challenge.rw_leanbundle_k85_whole_lots_and_layouts_th) (n := 63) (k := 15) (x := "script") (CX := L2.CX0) rfl (by decide) (by kernel_rfl) ⟨rfl, by decide, by decide⟩ ?F (fun _ _ _ _ z => z)
    intro w mg fa h Y G mg0
    obtain ⟨K, KX, c, ct⟩ := Y
    have mgl : mg ("law" : PySem.Str) = some (.ref fa) := by
      have e : (HandSHeadRun.topDef (OpenLaw.row PySem.Challenge.rw_leanbundle_k85_whole_lots_and_layouts_th).prog 79).name = ("law" : PySem.Str) := by kernel_rfl
      rw [← e]
      exact mg0
    obtain ⟨fd, hb, hF⟩ := Lb.theFacts (P := (PySem.Challenge.rw_leanbundle_k85_whole_lots_and_layouts_th).prog) (w := w) KX G mgl c ct
    exact ⟨K, fd, Lb.sp_law K, KX, hb, fun H a ns hl _ hS => ⟨a, ns, rfl, hS, hl, fun _ => rfl⟩, hF⟩
