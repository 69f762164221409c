import PyProof.Rows.All
import Wide.All
import OpenK.AllK
import Wide.FinOn
import HandS.ForMost
import HandS.Wide
import HandS.SetKeys
import HandS.Set
import HandS.SetFor
import HandS.Strs
import HandS.Star
import HandS.ExcField
import HandS.ExcInit
import HandS.TupSets
import KE.KDictKeyed
import KE.KeyNested
import KE.SortData
import KE.OsSortAny
import HandS.Lambda
import HandS.Style
import HandS.IsInst
import HandS.SortInts
import HandS.Iter
import KE.GoesEnum
import KE.GoesMore
import PyProof.EnumMake
import HandS.Zip
import HandS.DictTup
import HandS.TupLen
import HandS.DictComp
import HandS.Deep
import HandS.RaiseMore
import HandS.Defaults
import HandS.OwnEq
import KE.KOpsOwn
import OpenK.KMeth
import OpenK.KOps
import HandS.NamedTupSort
import PyProof.InstEq
import HandS.WordsDict
import KE.KEqDict
import PyProof.Rows.StrMeet
import HandS.More
import KE.RegKIsAll
import HandS.Exc
import HandS.ExcOwn
import HandS.TryMany
import HandS.ExcIs
import HandS.WordsExc
import KE.KExcInit
import PyProof.ExcBaseAll.LookupError
import KE.KExcIs
import HandS.Replace
import PyProof.ReprRoads
import HandS.Ends
import PyProof.TwoTypes
import PyProof.StrOps2
import HandS.ClsMeth
import HandS.Small
import HandS.MakeKw
import HandS.MakeKwOnly
import HandS.Property
import KE.DataEq
import HandS.Text
import HandS.TupAny
import PyProof.EqAt
import HandS.Conv
import HandS.TryOnly
import PyProof.NeKinds
import KE.SortKeyHeap
import KE.KLam
import HandS.Nested
import HandS.EndTab
import KE.KNest
import PyProof.TableCode
import PySem.Challenge.RW_standinparts_k03_books_of_allowances
set_option Elab.async false
set_option linter.all false
set_option maxRecDepth 100000
namespace EL
open PySem PySem.Spec L2
open PyProof.Rows hiding St
/-- what a kind of key must say besides, so that a set may hold it -/
structure Calm {P : Program} {w : World} {κ : Type} [DecidableEq κ] (kd : HeapKind P w κ) : Prop where
  cls : ∀ {A : Around} {E : Value → Shared → Prop} {s : Shared} {k : κ} {b : Addr} {Q : Bool → Shared → Prop}, kd.is s.heap k b → Q false s → wpAny (model P w) A (ofAClassStatement 8 (.ref b)) Q E s
  byv : ∀ {A : Around} {E : Value → Shared → Prop} {s : Shared} {k : κ} {b : Addr} {Q : Bool → Shared → Prop}, kd.is s.heap k b → (∀ c, Q c s) → wpAny (model P w) A (hashByValue 8 (.ref b)) Q E s
  stay : ∀ {h h' : Heap} {k : κ} {b : Addr}, kd.is h k b → (∀ c o vs n, h.get? c = some o → o.data = .seq vs n → h'.get? c = some o) → kd.is h' k b
/-- what lies in the table -/
def tbl {P : Program} {w : World} {κ : Type} [DecidableEq κ] (kd : HeapKind P w κ) (L : List (Addr × κ)) : List (Int × Value) := L.map fun e => (kd.hash e.2, Value.ref e.1)
structure STab {P : Program} {w : World} {κ : Type} [DecidableEq κ] (kd : HeapKind P w κ) (h : Heap) (a : Addr) (L : List (Addr × κ)) (es : Array (Int × Value)) (ep : Nat) (t : SetTable) : Prop where
  ob : ∃ o, h.get? a = some o ∧ o.ExactSet ∧ o.data = .set es ep t
  lay : es.toList = tbl kd L
  tab : TabOk t (L.map fun e => kd.hash e.2)
  nd : (L.map (·.2)).Nodup
  led : w.params.followText "set-order" = true ∨ t.led = true
  room : L.length * 5 < t.mask * 3
  few : L.length < 64
/-- its members lie in the heap -/
def Mem {P : Program} {w : World} {κ : Type} [DecidableEq κ] (kd : HeapKind P w κ) (h : Heap) (L : List (Addr × κ)) : Prop := ∀ e ∈ L, kd.is h e.2 e.1
section
variable {P : Program} {w : World} {κ : Type} [DecidableEq κ] {kd : HeapKind P w κ} {A : Around} {E : Value → Shared → Prop} {s : Shared}
variable {a : Addr} {L : List (Addr × κ)} {es : Array (Int × Value)} {ep : Nat} {t : SetTable}
theorem lay_len (h : es.toList = tbl kd L) : es.size = L.length := by
  have e := congrArg List.length h
  simpa [tbl] using e
theorem lay_at (h : es.toList = tbl kd L) {i : Nat} {e : Addr × κ} (hi : L[i]? = some e) : es[i]? = some (kd.hash e.2, Value.ref e.1) := by
  have q : es.toList[i]? = some (kd.hash e.2, Value.ref e.1) := by rw [h]; simp [tbl, hi]
  rwa [Array.getElem?_toList] at q
theorem STab.size (R : STab kd s.heap a L es ep t) : t.place.toList.length = L.length := by
  have z := R.tab.sz
  rw [List.length_map] at z
  rw [Array.length_toList, z]
theorem STab.fit (R : STab kd s.heap a L es ep t) : t.fits es.size = true := by
  have z := R.tab.sz
  rw [List.length_map] at z
  have y := lay_len R.lay
  have x := R.room
  unfold SetTable.fits SetTable.fill
  rw [R.tab.dm, Bool.and_eq_true, beq_iff_eq, decide_eq_true_eq]
  exact ⟨by omega, by show t.place.size + 0 ≤ _; omega⟩
theorem STab.odd (R : STab kd s.heap a L es ep t) : ¬ t.gaveWay = true := by
  unfold SetTable.gaveWay
  rw [mask_odd R.tab.mok]
  decide
theorem nth_dm (m : Nat) : ∀ (n : Nat) (p : SetTable.Probe), p.dummy = none → (nth m p n).dummy = none
  | 0, _, h => h
  | n + 1, p, h => nth_dm m n (adv m p) (by unfold adv; split <;> exact h)
/-- a search for a tuple among tuples shows nothing -/
theorem unseen (c : Calm kd) {k : κ} {b : Addr} (hk : kd.is s.heap k b) {Q : Bool → Shared → Prop} (h : Q false s) : ∀ {ys : List Value}, (∀ y ∈ ys, ∃ k' c', y = Value.ref c' ∧ kd.is s.heap k' c') →
    wpAny (model P w) A (searchCouldBeSeen (.ref b) ys) Q E s := by
  intro ys hy
  unfold searchCouldBeSeen
  apply wpAny_bind
  refine wpAny_forIn_list _ (fun rest r s' => (r.1 = none ∧ s' = s) ∧ ∀ y ∈ rest, ∃ k' c', y = Value.ref c' ∧ kd.is s.heap k' c') _ (fun v rest r s' q => ?_) (fun r s' q => ?_) _ _ ⟨⟨rfl, rfl⟩, hy⟩
  · obtain ⟨⟨hr, rfl⟩, all⟩ := q
    obtain ⟨k', c', rfl, hc⟩ := all v List.mem_cons_self
    have more : ∀ y ∈ rest, ∃ k' c', y = Value.ref c' ∧ kd.is s'.heap k' c' := fun u hu => all u (List.mem_cons_of_mem _ hu)
    dsimp only
    by_cases hv : (b == c' || (carriedByValue (.ref b) && carriedByValue (.ref c'))) = true
    · exact wp_if_pos hv (wpAny_pure ⟨⟨rfl, rfl⟩, more⟩)
    · refine wp_if_neg hv (wpAny_bind (kd.quiet hk ?_))
      simp only [Bool.not_true, if_neg Bool.false_ne_true]
      apply wpAny_bind
      apply kd.quiet hc
      simp only [Bool.not_true, if_neg Bool.false_ne_true]
      apply wpAny_bind
      apply c.cls hk
      simp only [if_neg Bool.false_ne_true]
      apply wpAny_bind
      apply c.cls hc
      simp only [if_neg Bool.false_ne_true]
      exact wpAny_pure ⟨⟨rfl, rfl⟩, more⟩
  · obtain ⟨⟨hr, rfl⟩, _⟩ := q
    obtain ⟨r1, r2⟩ := r
    cases (show r1 = none from hr)
    exact wpAny_pure h
/-- the c-th place of a hash's way, as a probe -/
abbrev prb (m : Nat) (h : Int) (c : Nat) : SetTable.Probe := nth m (runAt m (SetTable.bits h % (m + 1)) (SetTable.bits h)) c
theorem prb_dm (m : Nat) (h : Int) (c : Nat) : (prb m h c).dummy = none := nth_dm m c _ rfl
theorem prb_add (m : Nat) (h : Int) (c q : Nat) : nth m (prb m h c) q = prb m h (c + q) := (nth_add m c _ q).symm
theorem prb_way (m : Nat) (h : Int) (c q : Nat) : (nth m (prb m h c) q).j = way m h (c + q) := congrArg SetTable.Probe.j (prb_add m h c q)
/-- what a search must come to: K is the first empty slot of the way -/
structure Seek (kd : HeapKind P w κ) (L : List (Addr × κ)) (t : SetTable) (k : κ) (K : Nat) : Prop where
  few : K < 10 * SetTable.turns t.mask
  free : way t.mask (kd.hash k) K ∉ t.place.toList
  full : ∀ c, c < K → way t.mask (kd.hash k) c ∈ t.place.toList
/-- it is not passed yet -/
def Ahead (kd : HeapKind P w κ) (L : List (Addr × κ)) (t : SetTable) (k : κ) (K c : Nat) : Prop := ∀ (i : Nat) (e : Addr × κ), L[i]? = some e → e.2 = k → ∃ c', c ≤ c' ∧ c' < K ∧ t.place.toList[i]? = some (way t.mask (kd.hash k) c')
theorem seek (cm : Calm kd) (R : STab kd s.heap a L es ep t) (M : Mem kd s.heap L) {x : Addr} {k : κ} (hx : kd.is s.heap k x) (hu : kd.room A) {K : Nat} (sk : Seek kd L t k K) (add : Bool) {Q : SetFound → Shared → Prop}
    (hin : k ∈ L.map (·.2) → ∀ r : Option Nat, (add = false → r.isSome = true) → Q (.there r) s) (hout : k ∉ L.map (·.2) → Q (.free (way t.mask (kd.hash k) K) false) s) :
    ∀ (f c : Nat) (st : Option SetTable.Probe), st.getD (t.probeStart (kd.hash k)) = prb t.mask (kd.hash k) c → c ≤ K → K - c < f → Ahead kd L t k K c →
      wpAny (model P w) A (setSearchFrom a (.ref x) (kd.hash k) add f st) Q E s
  | 0, _, _, _, _, z, _ => absurd z (Nat.not_lt_zero _)
  | f + 1, c, st, hst, hc, hf, ah => by
    obtain ⟨o, got, _, dat⟩ := R.ob
    rw [setSearchFrom_succ]
    apply wpAny_bind
    refine wpAny_setState_of got dat R.fit ?_
    dsimp only
    refine wp_if_neg R.odd ?_
    have look := go_spec t R.tab.ris R.tab.dm (fun i => (es[i]?.map (·.1)).getD 0) (kd.hash k) (10 * SetTable.turns t.mask) (K - c) (prb t.mask (kd.hash k) c) (prb_dm _ _ _) (by have := sk.few; omega)
      (fun q hq => by rw [prb_way]; exact sk.full (c + q) (by omega)) (by rw [prb_way, show c + (K - c) = K by omega]; exact sk.free)
    have hsh : ∀ (i : Nat) (e : Addr × κ), L[i]? = some e → (fun i => (es[i]?.map (·.1)).getD 0) i = kd.hash e.2 := fun i e he => by
      show (es[i]?.map (·.1)).getD 0 = _
      rw [lay_at R.lay he] <;> rfl
    rcases look with ⟨q, i, hq, hi, hh, hno, hpr⟩ | ⟨hno, hpr⟩
    · rw [prb_way] at hi
      have met : t.probe (fun i => (es[i]?.map (·.1)).getD 0) (kd.hash k) (st.getD (t.probeStart (kd.hash k))) = some (.candidate (way t.mask (kd.hash k) (c + q)) i (prb t.mask (kd.hash k) (c + (q + 1)))) := by
        rw [hst, ← prb_way, ← prb_add]
        exact hpr
      rw [met]
      dsimp only
      have hil : i < L.length := by
        rw [← R.size]
        exact (List.getElem?_eq_some_iff.mp hi).1
      obtain ⟨e, he⟩ : ∃ e, L[i]? = some e := ⟨_, List.getElem?_eq_getElem hil⟩
      have hm : e ∈ L := List.mem_of_getElem? he
      have live : t.slot (way t.mask (kd.hash k) (c + q)) = .live i := slot_live R.tab.ris hi
      have go : wpAny (model P w) A (searchRest a (.ref x) (kd.hash k) add f es t (way t.mask (kd.hash k) (c + q)) i (prb t.mask (kd.hash k) (c + (q + 1)))) Q E s := by
        unfold searchRest
        rw [lay_at R.lay he]
        dsimp only
        apply wpAny_bind
        apply wpAny_holding
        apply kd.eqBool hu (M e hm) hx
        apply wpAny_bind
        refine wpAny_setState_of got dat R.fit ?_
        dsimp only
        by_cases hk : e.2 = k
        · have mem : k ∈ L.map (·.2) := List.mem_map.mpr ⟨e, hm, hk⟩
          cases add with
          | true =>
            refine wp_if_pos (by simp [hk]) ?_
            exact wpAny_pure (hin mem _ fun z => nomatch z)
          | false =>
            refine wp_if_neg (by simp) ?_
            rw [sameMem]
            dsimp only
            simp only [if_true, live, lay_at R.lay he]
            refine wpAny_bind (wpAny_isSame_ref_self (wpAny_bind (wpAny_pure ?_)))
            simp only [if_true]
            refine wp_if_pos (by simp [hk]) ?_
            exact wpAny_pure (hin mem _ fun _ => rfl)
        · refine wp_if_neg (by simp [hk]) ?_
          rw [sameMem]
          dsimp only
          simp only [if_true, live, lay_at R.lay he]
          refine wpAny_bind (wpAny_isSame_ref_self (wpAny_bind (wpAny_pure ?_)))
          simp only [if_true]
          refine wp_if_neg (by simp [hk]) ?_
          refine seek cm R M hx hu sk add hin hout f (c + (q + 1)) _ rfl (by omega) (by omega) fun i0 e0 h0 k0 => ?_
          obtain ⟨c', a1, a2, a3⟩ := ah i0 e0 h0 k0
          refine ⟨c', ?_, a2, a3⟩
          rcases Nat.lt_trichotomy c' (c + q) with z | z | z
          · exact absurd ((hsh i0 e0 h0).trans (congrArg kd.hash k0)) (hno (c' - c) i0 (by omega) (by rw [prb_way, show c + (c' - c) = c' by omega]; exact a3))
          · rw [z] at a3
            have y := slot_live R.tab.ris a3
            rw [live] at y
            cases y
            rw [he] at h0
            cases h0
            exact absurd k0 hk
          · omega
      cases hl : t.led with
      | true =>
        refine wp_if_neg (by simp) ?_
        exact go
      | false =>
        refine wp_if_pos (by simp) (wpAny_bind ?_)
        refine unseen cm hx ?_ (fun y hy => ?_)
        · refine wp_if_neg (by decide) ?_
          exact go
        · obtain ⟨u, hu1, rfl⟩ := List.mem_map.mp hy
          have u2 : u ∈ es.toList := by
            have z : u ∈ es ∧ u.1 = kd.hash k := by simpa using hu1
            simpa using z.1
          rw [R.lay] at u2
          obtain ⟨e2, m2, rfl⟩ := List.mem_map.mp u2
          exact ⟨e2.2, e2.1, rfl, M e2 m2⟩
    · have met : t.probe (fun i => (es[i]?.map (·.1)).getD 0) (kd.hash k) (st.getD (t.probeStart (kd.hash k))) = some (.empty (way t.mask (kd.hash k) K) none) := by
        have e2 : way t.mask (kd.hash k) K = (nth t.mask (prb t.mask (kd.hash k) c) (K - c)).j := by rw [prb_way, show c + (K - c) = K by omega]
        rw [hst, e2]
        exact hpr
      rw [met]
      dsimp only
      refine wpAny_pure (hout fun hm => ?_)
      obtain ⟨e0, m0, k0⟩ := List.mem_map.mp hm
      obtain ⟨i0, h0⟩ := List.mem_iff_getElem?.mp m0
      obtain ⟨c', a1, a2, a3⟩ := ah i0 e0 h0 k0
      exact hno (c' - c) i0 (by omega) (by rw [prb_way, show c + (c' - c) = c' by omega]; exact a3) ((hsh i0 e0 h0).trans (congrArg kd.hash k0))
/-- a search from its start -/
theorem seeks (cm : Calm kd) (R : STab kd s.heap a L es ep t) (M : Mem kd s.heap L) {x : Addr} {k : κ} (hx : kd.is s.heap k x) (hu : kd.room A) (add : Bool) {Q : SetFound → Shared → Prop}
    (hin : k ∈ L.map (·.2) → ∀ r : Option Nat, (add = false → r.isSome = true) → Q (.there r) s) (hout : ∀ K, k ∉ L.map (·.2) → Seek kd L t k K → Q (.free (way t.mask (kd.hash k) K) false) s) :
    wpAny (model P w) A (setSearch a (.ref x) (kd.hash k) add) Q E s := by
  have room := R.room
  obtain ⟨K, few, free, full⟩ := R.tab.first (by rw [List.length_map]; omega) (kd.hash k)
  have small : K < 100000 := by
    unfold SetTable.turns at few
    rcases R.tab.mok with e | e | e <;> omega
  refine seek cm R M hx hu ⟨few, free, full⟩ add hin (fun n => hout K n ⟨few, free, full⟩) 100000 0 none rfl (Nat.zero_le _) (by omega) fun i e he hk => ?_
  have hi : (L.map fun e => kd.hash e.2)[i]? = some (kd.hash k) := by rw [List.getElem?_map, he, ← hk] <;> rfl
  have hil : i < t.place.toList.length := by
    rw [R.size]
    exact (List.getElem?_eq_some_iff.mp he).1
  have hj := List.getElem?_eq_getElem hil
  obtain ⟨c, c1, c2⟩ := R.tab.before free hi hj
  exact ⟨c, Nat.zero_le _, c1, by rw [hj, c2]⟩
end
end EL
namespace EL
open PySem PySem.Spec L2
open PyProof.Rows hiding St
section
variable {P : Program} {w : World} {κ : Type} [DecidableEq κ] {kd : HeapKind P w κ} {A : Around} {E : Value → Shared → Prop} {s : Shared}
variable {a : Addr} {L : List (Addr × κ)} {es : Array (Int × Value)} {ep : Nat} {t : SetTable}
theorem seq_same {h h' : Heap} {o : Obj} (got : h.get? a = some o) (dat : o.data = .set es ep t) (but : Heap.SameBut a h h') : ∀ c o' vs n, h.get? c = some o' → o'.data = .seq vs n → h'.get? c = some o' := fun c o' vs n e d =>
  (but.2 c fun z => by
    rw [z, got] at e
    cases e
    rw [dat] at d
    cases d).trans e
/-- the rows in another order -/
theorem lay_order {order : Array Nat} (lay : es.toList = tbl kd L) (pm : order.toList.Perm (List.range L.length)) :
    ∃ L2, (order.filterMap (es[·]?)).toList = tbl kd L2 ∧ L2.Perm L ∧ (L2.map fun e => kd.hash e.2) = order.toList.map fun i => (es.map (·.1)).getD i 0 := by
  have sz := lay_len lay
  refine ⟨order.toList.filterMap fun i => L[i]?, ?_, ?_, ?_⟩
  · have e : ∀ l : List Nat, (∀ i ∈ l, i < L.length) → l.filterMap (fun i => es[i]?) = tbl kd (l.filterMap fun i => L[i]?) := by
      intro l
      induction l with
      | nil => exact fun _ => rfl
      | cons i l ih =>
        intro hl
        have hi := List.getElem?_eq_getElem (hl i List.mem_cons_self)
        rw [List.filterMap_cons_some (lay_at lay hi), List.filterMap_cons_some hi, ih fun j hj => hl j (List.mem_cons_of_mem _ hj)]
        rfl
    simpa using e order.toList fun i hi => List.mem_range.mp (pm.mem_iff.mp hi)
  · have all : ∀ n, n ≤ L.length → (List.range n).filterMap (fun i => L[i]?) = L.take n := by
      intro n
      induction n with
      | zero => exact fun _ => rfl
      | succ n ih =>
        intro hn
        rw [List.range_succ, List.filterMap_append, ih (by omega), List.take_succ, List.getElem?_eq_getElem hn, List.filterMap_cons_some (List.getElem?_eq_getElem hn)]
        rfl
    have q := pm.filterMap fun i => L[i]?
    rwa [all _ (Nat.le_refl _), List.take_length] at q
  · have e : ∀ l : List Nat, (∀ i ∈ l, i < L.length) → ((l.filterMap fun i => L[i]?).map fun e => kd.hash e.2) = l.map fun i => (es.map (·.1)).getD i 0 := by
      intro l
      induction l with
      | nil => exact fun _ => rfl
      | cons i l ih =>
        intro hl
        have hi := List.getElem?_eq_getElem (hl i List.mem_cons_self)
        have ei : (es.map (·.1))[i]? = some (kd.hash (L[i]'(hl i List.mem_cons_self)).2) := by rw [Array.getElem?_map, lay_at lay hi]; rfl
        rw [List.filterMap_cons_some hi, List.map_cons, List.map_cons, ih fun j hj => hl j (List.mem_cons_of_mem _ hj)]
        simp [Array.getD_eq_getD_getElem?, ei]
    exact e _ fun i hi => List.mem_range.mp (pm.mem_iff.mp hi)
/-- the table is laid anew -/
theorem relay {o : Obj} (got : s.heap.get? a = some o) (exs : o.ExactSet) (dat : o.data = .set es ep t) (lay : es.toList = tbl kd L) (tab : TabOk t (L.map fun e => kd.hash e.2)) (fl : es.size ≤ t.mask)
    (nd : (L.map (·.2)).Nodup) (led : w.params.followText "set-order" = true ∨ t.led = true) (few : L.length < 64) {want M : Nat} (hw : SetTable.sizeAbove want - 1 = M) (hM : MaskOk M) (hw2 : SetTable.sizeAbove want ≤ 128) (room : L.length * 5 < M * 3)
    {Q : Unit → Shared → Prop} (fin : ∀ h' L' es' ep' t', Heap.SameBut a s.heap h' → STab kd h' a L' es' ep' t' → L'.Perm L → Q () { s with heap := h' }) : wpAny (model P w) A (setRelay a want) Q E s := by
  have sz := lay_len lay
  have psz := tab.sz
  rw [List.length_map] at psz
  have fit : t.fits es.size = true := by
    unfold SetTable.fits SetTable.fill
    rw [tab.dm, Bool.and_eq_true, beq_iff_eq, decide_eq_true_eq]
    exact ⟨by omega, by show t.place.size + 0 ≤ _; omega⟩
  obtain ⟨t', order, e, hp, T, em, el, epl, ed⟩ := relaid_ok t (hs := es.map (·.1)) (wanted := want) hw hM (by rw [Array.size_map, sz]; omega)
  rw [Array.size_map, sz] at hp
  obtain ⟨L2, r1, r2, r3⟩ := lay_order lay hp
  rw [← r3] at T
  have sz2 : (order.filterMap (es[·]?)).size = es.size := by rw [lay_len r1, r2.length_eq, sz]
  rw [setRelay_eq]
  apply wpAny_bind
  refine wpAny_setState_of got dat fit ?_
  dsimp only
  refine wp_if_neg (by rw [sizeLine_eq]; omega) ?_
  rw [e]
  dsimp only
  apply wpAny_bind
  refine wp_if_neg (by rw [sz2]; simp) ?_
  refine wpAny_pure ?_
  dsimp only
  refine wpAny_storeSet_of got dat ?_ (by rw [sz2, sz, sizeLine_eq]; omega)
  exact fin _ L2 _ (ep + 1) t' (Heap.SameBut.update ..) ⟨⟨_, store_at got dat, ⟨exs.1, exs.2.1, exs.2.2⟩, rfl⟩, r1, T, (r2.map (·.2)).nodup_iff.mpr nd, by rw [el]; exact led, by rw [r2.length_eq, em]; exact room, by rw [r2.length_eq]; exact few⟩ r2
theorem Mem.same (cm : Calm kd) {h h' : Heap} {o : Obj} (M : Mem kd h L) (got : h.get? a = some o) (dat : o.data = .set es ep t) (but : Heap.SameBut a h h') : Mem kd h' L := fun e he => cm.stay (M e he) (seq_same got dat but)
/-- a member is put in -/
theorem put_in (cm : Calm kd) (R : STab kd s.heap a L es ep t) (M : Mem kd s.heap L) {x : Addr} {k : κ} (hx : kd.is s.heap k x) (hu : kd.room A) (few1 : L.length + 1 < 64) {Q : Bool → Shared → Prop}
    (fin : ∀ b h' L' es' ep' t', Heap.SameBut a s.heap h' → STab kd h' a L' es' ep' t' → Mem kd h' L' → (k ∈ L.map (·.2) → L' = L) → (k ∉ L.map (·.2) → L'.Perm ((x, k) :: L)) → Q b { s with heap := h' }) :
    wpAny (model P w) A (setAddHashed a (.ref x) (kd.hash k)) Q E s := by
  obtain ⟨o, got, exs, dat⟩ := R.ob
  have sz := lay_len R.lay
  have room := R.room
  unfold setAddHashed
  apply wpAny_holding
  rw [show (100000 : Nat) = 99999 + 1 from rfl, setAddHashedIn_succ]
  apply wpAny_bind
  refine wpAny_setState_of got dat R.fit ?_
  dsimp only
  refine wp_if_neg (by simp [byScan, Value.scannable]) ?_
  refine wpAny_bind (seeks cm R M hx hu true (fun mem r _ => ?_) fun K mem sk => ?_)
  · dsimp only
    exact wpAny_pure (fin false s.heap L es ep t (Heap.SameBut.refl a s.heap) R M (fun _ => rfl) fun z => absurd mem z)
  · dsimp only
    apply wpAny_bind
    refine wpAny_setState_of got dat R.fit ?_
    dsimp only
    obtain ⟨q1, q2, q3, q4, q5, q6, q7, q8, q9⟩ := R.tab.put sk.free sk.full
    generalize hpt : t.put (way t.mask (kd.hash k) K) = pt at q1 q3 q4 q5 q6 q7 q8 q9 ⊢
    obtain ⟨t1, p⟩ := pt
    dsimp only at q1 q3 q4 q5 q6 q7 q8 q9 ⊢
    subst q1
    have lay1 : (SetTable.insertAt es (SetTable.below t.place (way t.mask (kd.hash k) K)) (kd.hash k, Value.ref x)).toList = tbl kd (L.take (SetTable.below t.place (way t.mask (kd.hash k) K)) ++ (x, k) :: L.drop (SetTable.below t.place (way t.mask (kd.hash k) K))) := by
      rw [SetTable.toList_insertAt, R.lay]
      unfold tbl
      rw [List.map_append, List.map_cons, List.map_take, List.map_drop]
    generalize hpp : SetTable.below t.place (way t.mask (kd.hash k) K) = p at q2 q3 lay1 ⊢
    have pm : (L.take p ++ (x, k) :: L.drop p).Perm ((x, k) :: L) := by
      have z : (L.take p ++ (x, k) :: L.drop p).Perm ((x, k) :: (L.take p ++ L.drop p)) := List.perm_middle
      rwa [List.take_append_drop] at z
    have ehs : (L.take p ++ (x, k) :: L.drop p).map (fun e => kd.hash e.2) = (L.map fun e => kd.hash e.2).take p ++ kd.hash k :: (L.map fun e => kd.hash e.2).drop p := by
      rw [List.map_append, List.map_cons, List.map_take, List.map_drop]
    rw [← ehs] at q3
    have nd1 : ((L.take p ++ (x, k) :: L.drop p).map (·.2)).Nodup := (pm.map (·.2)).nodup_iff.mpr (List.nodup_cons.mpr ⟨mem, R.nd⟩)
    have len1 := pm.length_eq
    have sz1 := lay_len lay1
    rw [len1, List.length_cons] at sz1
    rw [List.length_cons] at len1
    generalize SetTable.insertAt es p (kd.hash k, Value.ref x) = es1 at lay1 sz1 ⊢
    generalize L.take p ++ (x, k) :: L.drop p = L1 at pm len1 q3 nd1 lay1
    -- whether its hash is known by value does not matter
    have tail : ∀ t2 : SetTable, TabOk t2 (L1.map fun e => kd.hash e.2) → t2.mask = t.mask → t2.led = t.led → t2.fill = (L.map fun e => kd.hash e.2).length + 1 →
        wpAny (model P w) A (storeSet a es1 t2 >>= fun _ => if (!false && t2.tooFull) = true then (setRelay a (SetTable.grown (es.size + 1)) >>= fun _ => pure true) else pure true) Q E s := by
      intro t2 T em el ef
      refine wpAny_bind (wpAny_storeSet_of got dat ?_ (by rw [sz1, sizeLine_eq]; omega))
      have but : Heap.SameBut a s.heap (s.heap.update a (Obj.putSet es1 t2)) := Heap.SameBut.update ..
      have got1 := store_at (es' := es1) (t' := t2) got dat
      generalize s.heap.update a (Obj.putSet es1 t2) = h1 at but got1 ⊢
      have M1 : Mem kd h1 L1 := fun e he => by
        rcases List.mem_cons.mp (pm.mem_iff.mp he) with z | z
        · rw [z]
          exact cm.stay hx (seq_same got dat but)
        · exact cm.stay (M e z) (seq_same got dat but)
      have led1 : w.params.followText "set-order" = true ∨ t2.led = true := by rw [el]; exact R.led
      have room1 : t2.tooFull = false → L1.length * 5 < t2.mask * 3 := fun hf => by
        unfold SetTable.tooFull at hf
        rw [decide_eq_false_iff_not, ef, List.length_map] at hf
        rw [len1]
        omega
      have psz : t2.place.size = es1.size := by
        have z := T.sz
        rw [List.length_map, len1] at z
        omega
      cases hf : t2.tooFull with
      | false =>
        refine wp_if_neg (by simp) ?_
        exact wpAny_pure (fin true h1 L1 es1 (ep + 1) t2 but ⟨⟨_, got1, ⟨exs.1, exs.2.1, exs.2.2⟩, rfl⟩, lay1, T, nd1, led1, room1 hf, by omega⟩ M1 (fun z => absurd z mem) fun _ => pm)
      | true =>
        refine wp_if_pos (by simp) (wpAny_bind ?_)
        have full : (L.length + 1) * 5 ≥ t2.mask * 3 := by
          unfold SetTable.tooFull at hf
          rw [decide_eq_true_eq, ef, List.length_map] at hf
          exact hf
        rw [sz]
        have two : (t.mask = 7 ∧ L.length = 4) ∨ (t.mask = 31 ∧ L.length = 18) := by
          rcases R.tab.mok with e | e | e
          · rw [em, e] at full
            rw [e] at room
            exact .inl ⟨e, by omega⟩
          · rw [em, e] at full
            rw [e] at room
            exact .inr ⟨e, by omega⟩
          · rw [em, e] at full
            omega
        have go : ∀ m, SetTable.sizeAbove (SetTable.grown (L.length + 1)) - 1 = m → MaskOk m → SetTable.sizeAbove (SetTable.grown (L.length + 1)) ≤ 128 → (L.length + 1) * 5 < m * 3 →
            wpAny (model P w) A (setRelay a (SetTable.grown (L.length + 1))) (fun _ s' => wpAny (model P w) A (pure true) Q E s') E { s with heap := h1 } := fun m a1 a2 a3 a4 => by
          refine relay (s := { s with heap := h1 }) got1 ⟨exs.1, exs.2.1, exs.2.2⟩ rfl lay1 T (by rw [sz1, em]; rcases two with ⟨e, e2⟩ | ⟨e, e2⟩ <;> omega) nd1 led1 (by omega) a1 a2 a3 (by omega) fun h2 L2 es2 ep2 t2' b2 R2 pm2 => ?_
          refine wpAny_pure (fin true h2 L2 es2 ep2 t2' (but.trans b2) R2 (fun e he => ?_) (fun z => absurd z mem) fun _ => pm2.trans pm)
          exact cm.stay (M1 e (pm2.mem_iff.mp he)) (seq_same got1 rfl b2)
        rcases two with ⟨_, e2⟩ | ⟨_, e2⟩
        · exact go 31 (by rw [e2, size_20]) (.inr (.inl rfl)) (by rw [e2, size_20]; decide) (by omega)
        · exact go 127 (by rw [e2, size_76]) (.inr (.inr rfl)) (by rw [e2, size_76]; decide) (by omega)
    have both : ∀ c : Bool, wpAny (model P w) A (storeSet a es1 (if c = true then t1 else { t1 with plain := false }) >>= fun _ => if (!false && (if c = true then t1 else { t1 with plain := false }).tooFull) = true then (setRelay a (SetTable.grown (es.size + 1)) >>= fun _ => pure true) else pure true) Q E s := by
      intro c
      cases c with
      | true => exact tail t1 q3 q4 q5 q9
      | false => exact tail { t1 with plain := false } ⟨q3.ris, q3.dm, q3.sz, q3.mok, q3.bd, q3.reach⟩ q4 q5 q9
    by_cases hp1 : t1.plain = true
    · rw [if_pos hp1]
      exact wpAny_bind (cm.byv hx fun c => both c)
    · rw [if_neg hp1]
      exact wpAny_bind (wpAny_pure (both true))
/-- a member is asked for -/
theorem find_in (cm : Calm kd) (R : STab kd s.heap a L es ep t) (M : Mem kd s.heap L) {x : Addr} {k : κ} (hx : kd.is s.heap k x) (hu : kd.room A) {Q : Option Nat → Shared → Prop} (fin : ∀ r : Option Nat, r.isSome = decide (k ∈ L.map (·.2)) → Q r s) :
    wpAny (model P w) A (setFind a (.ref x) (kd.hash k)) Q E s := by
  obtain ⟨o, got, exs, dat⟩ := R.ob
  unfold setFind
  rw [show (100000 : Nat) = 99999 + 1 from rfl]
  unfold setFindIn
  apply wpAny_bind
  refine wpAny_setState_of got dat R.fit ?_
  dsimp only
  refine wp_if_neg (by simp [byScan, Value.scannable]) ?_
  refine wpAny_bind (seeks cm R M hx hu false (fun mem r hr => ?_) fun K mem sk => ?_)
  · exact wpAny_pure (fin r (by rw [hr rfl, decide_eq_true mem]))
  · exact wpAny_pure (fin none (by rw [decide_eq_false mem]; rfl))
end
end EL
namespace EL
open PySem PySem.Spec L2
open PyProof.Rows hiding St
/-- one item more goes in -/
def StepJ (P : Program) (w : World) (base : Heap) (S : Addr) (U : Nat) (items : Array Value) (J : Nat → Heap → Prop) : Prop :=
  ∀ (A : Around) (E : Value → Shared → Prop) (Q : Bool → Shared → Prop) (i : Nat) (v : Value) (s : Shared), A.units ≤ U → items[i]? = some v → (∀ b o, base.get? b = some o → s.heap.get? b = some o) → J i s.heap →
    (∀ b h' tk, s.toks ≤ tk → Heap.SameBut S s.heap h' → J (i + 1) h' → Q b { s with heap := h', toks := tk }) → wpAny (model P w) A (setAdd S v) Q E s
/-- it stands while the set stands, and what stood ahead -/
def StayJ (base : Heap) (S : Addr) (J : Nat → Heap → Prop) : Prop := ∀ i h h', (∀ b o, base.get? b = some o → h'.get? b = some o) → (∀ o, h.get? S = some o → h'.get? S = some o) → J i h → J i h'
section
variable {P : Program} {w : World} {A : Around} {R : Result → Shared → Prop} {I : Addr} {fp wr : List Addr} {G : Array GenState → Array GenState → Prop} {n : Nat} {Pv : Nat → Value → Prop} {St : Nat → Shared → Prop}
theorem loopG (W : WalksS P w A.in1 I fp wr G n Pv St) (S : Addr) (out : S ∉ fp) {base : Heap} (hS0 : base.get? S = none) (hw0 : ∀ b ∈ wr, base.get? b = none) {U : Nat} (hU : A.in1.units ≤ U) {items : Array Value} {J : Nat → Heap → Prop}
    (stp : StepJ P w base S U items J) (sta : StayJ base S J) (val : ∀ i v, Pv i v → items[i]? = some v) (hn : n = items.size) :
    ∀ (k i : Nat) (s : Shared), n - i = k → i ≤ n → St i s → (∀ b o, base.get? b = some o → s.heap.get? b = some o) → J i s.heap →
      (∀ s', Moved (S :: wr) G s s' → J n s'.heap → (∀ b o, base.get? b = some o → s'.heap.get? b = some o) → R (.ok (.ret .none)) s') → codeAny (model P w) A (.builtin "set.update.loop" ⟨[.ref S, .ref I], []⟩) R s := by
  have outw : S ∉ wr := fun z => out (W.sub _ z)
  have more : ∀ b ∈ wr, b ∈ S :: wr := fun b z => List.mem_cons_of_mem _ z
  have kp : ∀ {s s' : Shared}, Moved wr G s s' → (∀ b o, base.get? b = some o → s.heap.get? b = some o) → ∀ b o, base.get? b = some o → s'.heap.get? b = some o := fun mv k b o e => mv.heap b o (fun z => by rw [hw0 b z] at e; cases e) (k b o e)
  intro k
  induction k with
  | zero =>
    intro i s hk hi st keep set ret
    have ei : i = n := by omega
    subst ei
    apply codeAny_builtin PyProof.Rows.F.entry_set_update_loop
    rw [Around.under_plainId PyProof.Rows.F.plain_set_update_loop _]
    show wpAny _ A.in1 (pyNext (.ref I) >>= _) _ _ s
    apply wpAny_bind
    refine W.done s _ _ st fun s' mv => ?_
    show wpAny _ A.in1 (PySem.ret Value.none) _ _ s'
    exact wpAny_pure (ret s' (mv.mono more) (sta _ _ _ (kp mv keep) (fun o e => mv.heap S o outw e) set) (kp mv keep))
  | succ k ih =>
    intro i s hk hi st keep set ret
    have lt : i < n := by omega
    apply codeAny_builtin PyProof.Rows.F.entry_set_update_loop
    rw [Around.under_plainId PyProof.Rows.F.plain_set_update_loop _]
    show wpAny _ A.in1 (pyNext (.ref I) >>= _) _ _ s
    apply wpAny_bind
    refine W.item i s _ _ lt st fun v s' pv st' mv => ?_
    have set' := sta i _ _ (kp mv keep) (fun o e => mv.heap S o outw e) set
    show wpAny _ A.in1 (holding [v] (setAdd S v) >>= _) _ _ s'
    apply wpAny_bind
    apply wpAny_holding
    refine stp A.in1 _ _ i v s' hU (val i v pv) (kp mv keep) set' fun b h' tk le but set2 => ?_
    have keep2 : ∀ b o, base.get? b = some o → h'.get? b = some o := fun b o e => (but.2 b fun z => by rw [z, hS0] at e; cases e).trans (kp mv keep b o e)
    refine wpAny_pure ⟨plainId_quiet PyProof.Rows.F.plain_set_update_loop _, ih (i + 1) _ (by omega) lt (W.frame _ s' _ _ st' le fun b hb o e => ?_) keep2 set2 fun s'' mv2 set3 keep3 => ?_⟩
    · rw [but.2 b fun z => out (by rw [← z]; exact hb)]
      exact e
    · refine ret s'' (Moved.trans W.gtrans ((mv.mono more).then_heap le fun b o hb e => ?_) mv2) set3 keep3
      rw [but.2 b fun z => hb (by rw [z]; exact List.mem_cons_self)]
      exact e
end
section
variable {P : Program} {w : World} {A : Around} {E : Value → Shared → Prop} {s : Shared}
abbrev newSetO (w : World) : Obj := { cls := .type "set", dict := none, data := .set #[] 0 (.fresh 0 0 (!w.params.followText "set-order")) }
theorem made_set1 (x : Value) {Q : Value → Shared → Prop} (fin : Q (.ref s.heap.objs.size) { s with heap := s.heap.push (newSetO w) }) : codeAny (model P w) A (.call (.builtin "set.__new__") ⟨[.type "set", x], []⟩) (wants Q E) s := by
  apply codeAny_of_tree
  show wpAny _ A.in1 (checkBuiltinCall "set.__new__" ⟨[.type "set", x], []⟩ >>= fun _ => again (.builtin "set.__new__" ⟨[.type "set", x], []⟩)) _ _ s
  apply wpAny_bind
  apply wpAny_of_eq (F.newCall_set_1 x)
  refine wpAny_pure ⟨plainId_quiet F.plain_set_new _, codeAny_builtin F.entry_set_new ?_⟩
  rw [Around.under_plainId F.plain_set_new _]
  unfold Builtin.«set.__new__» Builtin.Frozenset.newClass
  have z := sub_set_self
  obtain ⟨hp, g, d, tk, os⟩ := s
  dsimp only
  wp_walk
  apply wpAny_askSetting
  apply wpAny_pure
  dsimp only
  simp only [newObj]
  apply wpAny_bind
  apply wpAny_alloc
  apply wpAny_pure
  exact wpAny_pure fin
set_option maxHeartbeats 3000000 in
theorem call_setG {l : Addr} {items : Array Value} {Q : Value → Shared → Prop} (calm : A.handled = none) (isl : s.heap.IsList l items) {J : Nat → Heap → Prop} (stp : StepJ P w s.heap s.heap.objs.size (A.units + 4) items J) (sta : StayJ s.heap s.heap.objs.size J)
    (start : J 0 (s.heap.push (newSetO w)))
    (fin : ∀ (h' : Heap) (tk : Nat), J items.size h' → (∀ b o, s.heap.get? b = some o → h'.get? b = some o) → Q (.ref s.heap.objs.size) { s with heap := h', toks := tk }) : wpAny (model P w) A (call (.type "set") [.ref l]) Q E s := by
  obtain ⟨c, tl, hmro⟩ := F.called_set.mro
  have f1 := F.called_set.made
  have f2 := F.called_set.sub
  have f3 := F.called_set.notType
  have f4 := F.called_set.canCreate
  have f5 := F.typeCall_set_1 (.ref l)
  apply wpAny_call
  apply codeAny_of_tree
  show wpAny _ _ (callAny (.type "set") _) _ _ _
  refine wpAny_pure ⟨Code.quiet_builtin _ (by decide +kernel), codeAny_builtin F.entry_type_call ?_⟩
  rw [Around.under_plain (weight_type_call_type "set" [.ref l] []) rfl]
  repeat (any_goals (first | assumption | wp_step))
  refine codeAny_mono (made_set1 (.ref l) (E := E) (Q := fun obj s₁ => obj = .ref s.heap.objs.size ∧ s₁ = { s with heap := s.heap.push (newSetO w) }) ⟨rfl, rfl⟩) fun r s₁ back => ?_
  cases r with
  | error e => exact back
  | ok fl =>
    cases fl with
    | ret obj =>
      obtain ⟨rfl, rfl⟩ := back
      have gS : (s.heap.push (newSetO w)).get? s.heap.objs.size = some (newSetO w) := Heap.get?_push_size _ rfl
      have tS : Shared.TypeIs { s with heap := s.heap.push (newSetO w) } (.ref s.heap.objs.size) "set" := ⟨_, gS, rfl⟩
      have f6 := F.called_set.init.lookup
      have f7 := F.called_set.init.bind (.ref s.heap.objs.size)
      repeat (any_goals (first | assumption | wp_step))
      refine codeAny_mono (codeAny_call_builtin (R := wants (fun r s₂ => r = .none ∧ ∃ h' tk, s₂ = { s with heap := h', toks := tk } ∧ J items.size h' ∧ (∀ b o, s.heap.get? b = some o → h'.get? b = some o)) E) F.called_set.init.plain F.entry_set_init (check_set_init_1 tS ?_)) fun r₂ s₂ back₂ => ?_
      · obtain ⟨ol, gl, cl, nl, dl⟩ := isl
        obtain ⟨ocls, odict, odata, oslots⟩ := ol
        simp only at cl dl
        subst cl
        subst dl
        have gl1 : (s.heap.push (newSetO w)).get? l = some { cls := .type "list", dict := odict, data := .seq items nl, slots := oslots } := Heap.get?_push_of_some _ gl
        have g1 := F.sub_list_set
        have g2 := F.sub_list_frozenset
        have g3 : (Value.type "list" == Value.type "dict") = false := by decide
        have isl1 : (s.heap.push (newSetO w)).IsList l items := ⟨_, gl1, rfl, nl, rfl⟩
        unfold Builtin.«set.__init__» noKeywords Builtin.Frozenset.updateFrom
        generalize keepIt : pyIter = PI
        wp_walk
        subst keepIt
        refine wpAny_pyIter_list isl1 ?_
        apply wpAny_bind
        apply wpAny_runValue
        have ltl : l < s.heap.objs.size := Heap.lt_size gl
        have calm3 : A.in1.in1.in1.handled = none := by simp [calm]
        have neI : l ≠ (s.heap.push (newSetO w)).objs.size := by
          rw [Heap.size_push]
          exact Nat.ne_of_lt (Nat.lt_succ_of_lt ltl)
        have outS : s.heap.objs.size ∉ [(s.heap.push (newSetO w)).objs.size, l] := by
          rw [Heap.size_push]
          simp only [List.mem_cons, List.mem_singleton, List.not_mem_nil, or_false, not_or]
          exact ⟨Nat.ne_of_lt (Nat.lt_succ_self _), Nat.ne_of_gt ltl⟩
        have none_of : ∀ b, s.heap.objs.size ≤ b → s.heap.get? b = none := fun b hb => by
          cases q : s.heap.get? b with
          | none => rfl
          | some o => exact absurd (Nat.lt_of_lt_of_le (Heap.lt_size q) hb) (Nat.lt_irrefl _)
        refine loopG ((Walks.list calm3 _ l neI items).toS) s.heap.objs.size outS (base := s.heap) (none_of _ (Nat.le_refl _)) (fun b hb => none_of b (by rw [List.mem_singleton.mp hb, Heap.size_push]; exact Nat.le_succ _)) (by simp only [Around.in1_units]; omega) stp sta (fun i v hv => hv) rfl (items.size - 0) 0 _ (by omega) (Nat.zero_le _) ⟨⟨_, Heap.get?_push_size _ rfl, rfl, rfl⟩, (isl1.push _)⟩ (fun b o e => Heap.get?_push_of_some _ (Heap.get?_push_of_some _ e)) ?set0 ?back
        case set0 => exact sta 0 _ _ (fun b o e => Heap.get?_push_of_some _ (Heap.get?_push_of_some _ e)) (fun o e => Heap.get?_push_of_some _ e) start
        case back =>
          intro s' mv set keepb
          obtain ⟨h', g', d', tk', os'⟩ := s'
          have e1 : g' = s.gens := mv.gens
          have e2 : d' = s.drawn := mv.drawn
          have e3 : os' = s.os := mv.os
          subst e1
          subst e2
          subst e3
          show wpAny _ _ _ _ _ _
          apply wpAny_pure
          show wpAny _ _ (PySem.ret Value.none) _ _ _
          refine wpAny_pure ⟨rfl, h', tk', rfl, set, fun b o e => ?_⟩
          have lb : b < s.heap.objs.size := Heap.lt_size e
          refine mv.heap b o ?_ (Heap.get?_push_of_some _ (Heap.get?_push_of_some _ e))
          rw [Heap.size_push]
          simp only [List.mem_cons, List.mem_singleton, List.not_mem_nil, or_false, not_or]
          exact ⟨Nat.ne_of_lt lb, Nat.ne_of_lt (Nat.lt_succ_of_lt lb)⟩
      · cases r₂ with
        | error e => exact back₂
        | ok fl₂ =>
          cases fl₂ with
          | ret r =>
            obtain ⟨rfl, h', tk, rfl, set, keep⟩ := back₂
            repeat (any_goals (first | assumption | wp_step))
            exact fin _ _ set keep
          | _ => exact back₂.elim
    | _ => exact back.elim
end
end EL
namespace EL
open PySem PySem.Spec L2
open PyProof.Rows hiding St
section
variable {P : Program} {w : World} {A : Around} {E : Value → Shared → Prop} {s : Shared}
mutual
theorem nk_cls : ∀ (k : NestedKey) (v : Value) (n : Nat) (s : Shared), NestedIs s.heap k v → k.depth ≤ n → ∀ (A : Around) (E : Value → Shared → Prop) (Q : Bool → Shared → Prop), Q false s → wpAny (model P w) A (ofAClassStatement n v) Q E s
  | .none, _, n, s, x, _ => fun A E Q h => by cases x; cases n <;> exact wpAny_pure h
  | .num i, _, n, s, x, _ => fun A E Q h => by cases x <;> cases n <;> exact wpAny_pure h
  | .text y, _, n, s, x, _ => fun A E Q h => by cases x; cases n <;> exact wpAny_pure h
  | .tup ks, _, n, s, x, hn => fun A E Q h => by
    cases x with
    | @tup b o vs m _ got cls dat all =>
      simp only [NestedKey.depth] at hn
      cases n with
      | zero => omega
      | succ n =>
        unfold ofAClassStatement
        refine wpAny_bind (wpAny_typeOf (T := "tuple") ⟨o, got, cls⟩ ?_)
        dsimp only
        simp only [show (("tuple" : String) == "tuple") = true by decide, if_true, Bool.not_true, Bool.false_eq_true, if_false]
        try refine wpAny_bind (wpAny_pure ?_)
        try simp only [Bool.not_true, Bool.false_eq_true, if_false]
        show wpAny _ _ (seqItems? (.ref b) >>= _) _ _ s
        refine wpAny_bind (wpAny_seqItems got dat ?_)
        dsimp only
        refine wpAny_bind ?_
        show wpAny _ _ (forIn vs _ _) _ _ s
        rw [← Array.forIn_toList]
        have each := nk_clss ks vs.toList n s all (by omega)
        refine wpAny_forIn_list _ (fun rest r s' => (r.1 = none ∧ s' = s) ∧ ∀ v ∈ rest, v ∈ vs.toList) _ (fun v rest r s' q => ?_) (fun r s' q => ?_) _ _ ⟨⟨rfl, rfl⟩, fun v hv => hv⟩
        · obtain ⟨⟨hr, rfl⟩, sub⟩ := q
          refine wpAny_bind (each v (sub v List.mem_cons_self) _ _ _ ?_)
          simp only [Bool.false_eq_true, if_false]
          exact wpAny_pure ⟨⟨rfl, rfl⟩, fun u hu => sub u (List.mem_cons_of_mem _ hu)⟩
        · obtain ⟨⟨hr, rfl⟩, _⟩ := q
          obtain ⟨r1, r2⟩ := r
          cases (show r1 = none from hr)
          exact wpAny_pure h
theorem nk_clss : ∀ (ks : List NestedKey) (vs : List Value) (n : Nat) (s : Shared), NestedAll s.heap ks vs → NestedKey.depthAll ks ≤ n → ∀ v ∈ vs, ∀ (A : Around) (E : Value → Shared → Prop) (Q : Bool → Shared → Prop), Q false s → wpAny (model P w) A (ofAClassStatement n v) Q E s
  | [], _, _, _, x, _, v, hv => by cases x; cases hv
  | k :: ks, _, n, s, x, hn, v, hv => by
    cases x with
    | cons x1 x2 =>
      simp only [NestedKey.depthAll] at hn
      rcases List.mem_cons.mp hv with e | hv
      · rw [e]; exact nk_cls k _ n s x1 (by omega)
      · exact nk_clss ks _ n s x2 (by omega) v hv
end
mutual
theorem nk_byv : ∀ (k : NestedKey) (v : Value) (n : Nat) (s : Shared), NestedIs s.heap k v → ∀ (A : Around) (E : Value → Shared → Prop) (Q : Bool → Shared → Prop), (∀ c, Q c s) → wpAny (model P w) A (hashByValue n v) Q E s
  | .none, _, n, s, x => fun A E Q h => by cases x; cases n <;> exact wpAny_pure (h _)
  | .num i, _, n, s, x => fun A E Q h => by cases x <;> cases n <;> exact wpAny_pure (h _)
  | .text y, _, n, s, x => fun A E Q h => by cases x; cases n <;> exact wpAny_pure (h _)
  | .tup ks, _, n, s, x => fun A E Q h => by
    cases x with
    | @tup b o vs m _ got cls dat all =>
      cases n with
      | zero => exact wpAny_pure (h _)
      | succ n =>
        unfold hashByValue
        refine wpAny_bind (wpAny_specialOf (T := "tuple") ⟨o, got, cls⟩ F.slot_tuple_hash.lookup ?_)
        show wpAny _ _ (seqItems? (.ref b) >>= _) _ _ s
        refine wpAny_bind (wpAny_seqItems got dat ?_)
        refine wpAny_bind ?_
        show wpAny _ _ (forIn vs _ _) _ _ s
        rw [← Array.forIn_toList]
        have each := nk_byvs ks vs.toList n s all
        refine wpAny_forIn_list _ (fun rest r s' => (r.1 = none ∧ s' = s) ∧ ∀ v ∈ rest, v ∈ vs.toList) _ (fun v rest r s' q => ?_) (fun r s' q => ?_) _ _ ⟨⟨rfl, rfl⟩, fun v hv => hv⟩
        · obtain ⟨⟨hr, rfl⟩, sub⟩ := q
          refine wpAny_bind (each v (sub v List.mem_cons_self) _ _ _ fun c => ?_)
          cases c with
          | true =>
            simp only [Bool.not_true, Bool.false_eq_true, if_false]
            exact wpAny_pure ⟨⟨rfl, rfl⟩, fun u hu => sub u (List.mem_cons_of_mem _ hu)⟩
          | false =>
            simp only [Bool.not_false, if_true]
            exact wpAny_pure (wpAny_pure (h _))
        · obtain ⟨⟨hr, rfl⟩, _⟩ := q
          obtain ⟨r1, r2⟩ := r
          cases (show r1 = none from hr)
          exact wpAny_pure (h _)
theorem nk_byvs : ∀ (ks : List NestedKey) (vs : List Value) (n : Nat) (s : Shared), NestedAll s.heap ks vs → ∀ v ∈ vs, ∀ (A : Around) (E : Value → Shared → Prop) (Q : Bool → Shared → Prop), (∀ c, Q c s) → wpAny (model P w) A (hashByValue n v) Q E s
  | [], _, _, _, x, v, hv => by cases x; cases hv
  | k :: ks, _, n, s, x, v, hv => by
    cases x with
    | cons x1 x2 =>
      rcases List.mem_cons.mp hv with e | hv
      · rw [e]; exact nk_byv k _ n s x1
      · exact nk_byvs ks _ n s x2 v hv
end
theorem calmN : Calm (nestedKind P w) where
  cls := fun x h => nk_cls _ _ 8 _ x.1 x.2 _ _ _ h
  byv := fun x h => nk_byv _ _ 8 _ x.1 _ _ _ h
  stay := fun x k => ⟨NestedIs.at k _ _ x.1, x.2⟩
abbrev NK (P : Program) (w : World) := nestedKind P w
theorem add_nk {a x : Addr} {L : List (Addr × NestedKey)} {es : Array (Int × Value)} {ep : Nat} {t : SetTable} {k : NestedKey} (R : STab (NK P w) s.heap a L es ep t) (M : Mem (NK P w) s.heap L) (hx : (NK P w).is s.heap k x) (hu : A.units + 8 < cLine) (few : L.length + 1 < 64) {Q : Bool → Shared → Prop}
    (fin : ∀ b h' L' es' ep' t' tk, s.toks ≤ tk → Heap.SameBut a s.heap h' → STab (NK P w) h' a L' es' ep' t' → Mem (NK P w) h' L' → (k ∈ L.map (·.2) → L' = L) → (k ∉ L.map (·.2) → L'.Perm ((x, k) :: L)) → Q b { s with heap := h', toks := tk }) :
    wpAny (model P w) A (setAdd a (.ref x)) Q E s := by
  unfold setAdd
  apply wpAny_holding
  apply wpAny_bind
  refine pyHash_key k _ A s _ hx.1 (by have := hx.2; omega) ?_
  exact put_in (s := { s with toks := s.toks + k.draws }) calmN R M hx hu few fun b h' L' es' ep' t' but R' M' c1 c2 => fin b h' L' es' ep' t' _ (Nat.le_add_right _ _) but R' M' c1 c2
/-- s.add(x) -/
theorem call_addN {a x : Addr} {L : List (Addr × NestedKey)} {es : Array (Int × Value)} {ep : Nat} {t : SetTable} {k : NestedKey} (R : STab (NK P w) s.heap a L es ep t) (M : Mem (NK P w) s.heap L) (hx : (NK P w).is s.heap k x) (hu : A.units + 16 < cLine) (few : L.length + 1 < 64) {Q : Value → Shared → Prop}
    (fin : ∀ h' L' es' ep' t' tk, s.toks ≤ tk → Heap.SameBut a s.heap h' → STab (NK P w) h' a L' es' ep' t' → Mem (NK P w) h' L' → (k ∈ L.map (·.2) → L' = L) → (k ∉ L.map (·.2) → L'.Perm ((x, k) :: L)) → Q .none { s with heap := h', toks := tk }) :
    wpAny (model P w) A (call (.builtin "set.add") [.ref a, .ref x]) Q E s := by
  obtain ⟨o, got, exs, dat⟩ := R.ob
  refine wpAny_call_entry F.slot_set_add ⟨o, got, exs.1⟩ F.entry_set_add ?_ (F.args_set_add_2 _ _)
  unfold Builtin.«set.add» Builtin.Frozenset.oneOther
  simp only [List.isEmpty_nil, bind_assoc]
  unfold Builtin.Frozenset.addrOf
  refine wpAny_bind (wpAny_pure ?_)
  try dsimp only
  refine wpAny_bind (wpAny_pure ?_)
  try dsimp only
  apply wpAny_bind
  refine add_nk R M hx (by simp only [Around.in1_units]; omega) few fun b h' L' es' ep' t' tk le but R' M' c1 c2 => ?_
  show wpAny _ _ (ret Value.none) _ _ _
  exact wpAny_pure ⟨_, rfl, fin h' L' es' ep' t' tk le but R' M' c1 c2⟩
theorem contN {a x : Addr} {L : List (Addr × NestedKey)} {es : Array (Int × Value)} {ep : Nat} {t : SetTable} {k : NestedKey} (R : STab (NK P w) s.heap a L es ep t) (M : Mem (NK P w) s.heap L) (hx : (NK P w).is s.heap k x) (hu : A.units + 16 < cLine) {Q : Bool → Shared → Prop}
    (fin : Q (decide (k ∈ L.map (·.2))) { s with toks := s.toks + k.draws }) : wpAny (model P w) A (contains (.ref a) (.ref x)) Q E s := by
  obtain ⟨o, got, exs, dat⟩ := R.ob
  have tS : s.TypeIs (.ref a) "set" := ⟨o, got, exs.1⟩
  unfold contains
  try with_reducible refine wpAny_holding ?_
  refine wpAny_bind (wpAny_specialOf tS F.slot_set_contains.lookup ?_)
  show wpAny _ _ (if (some (Value.builtin "set.__contains__") == some Value.none) = true then _ else _) _ E s
  rw [if_neg (by rw [beq_builtin_none]; exact Bool.false_ne_true)]
  refine wpAny_bind (wpAny_callSpecialUnlessNone?_slot (name := Str.ofString "__contains__") tS F.slot_set_contains
    (wpAny_call_entry F.slot_set_contains tS entry_set_contains ?_ (F.args_set_contains_2 _ _)))
  unfold Builtin.«frozenset.__contains__» Builtin.Frozenset.oneOther
  simp only [List.isEmpty_nil, bind_assoc]
  unfold Builtin.Frozenset.addrOf Builtin.Frozenset.withSetAsKey setContains
  refine wpAny_bind (wpAny_pure ?_)
  try dsimp only
  refine wpAny_bind (wpAny_pure ?_)
  try dsimp only
  refine wpAny_bind (wpAny_tryCatch ?_)
  refine wpAny_holding ?_
  apply wpAny_bind
  refine pyHash_key k _ _ s _ hx.1 (by have := hx.2; simp only [Around.in1_units]; omega) ?_
  refine wpAny_bind (find_in (s := { s with toks := s.toks + k.draws }) calmN R M hx (by show _ + 8 < cLine; simp only [Around.in1_units]; omega) fun r hr => ?_)
  refine wpAny_pure ?_
  show wpAny _ _ (ret (Value.bool r.isSome)) _ _ _
  rw [hr]
  exact wpAny_pure ⟨_, rfl, wpAny_truthy_bool fin⟩
end
end EL
namespace EL
open PySem PySem.Spec L2
open PyProof.Rows hiding St
/-- what the set has of the first i -/
structure GotN (ks : List (Addr × NestedKey)) (i : Nat) (L : List (Addr × NestedKey)) : Prop where
  sub : ∀ e ∈ L, e ∈ ks.take i
  all : ∀ e ∈ ks.take i, e.2 ∈ L.map (·.2)
  len : L.length ≤ i
theorem got_zero (ks : List (Addr × NestedKey)) : GotN ks 0 [] := ⟨fun e he => (by cases he), fun e he => (by simp at he), Nat.le_refl _⟩
theorem got_next {ks L L' : List (Addr × NestedKey)} {i : Nat} {x : Addr × NestedKey} (g : GotN ks i L) (h : ks[i]? = some x) (c1 : x.2 ∈ L.map (·.2) → L' = L) (c2 : x.2 ∉ L.map (·.2) → L'.Perm (x :: L)) : GotN ks (i + 1) L' := by
  have tk : ks.take (i + 1) = ks.take i ++ [x] := by rw [List.take_succ, h]; rfl
  by_cases hm : x.2 ∈ L.map (·.2)
  · rw [c1 hm]
    refine ⟨fun e he => by rw [tk]; exact List.mem_append_left _ (g.sub e he), fun e he => ?_, Nat.le_succ_of_le g.len⟩
    rw [tk] at he
    rcases List.mem_append.mp he with z | z
    · exact g.all e z
    · rw [List.mem_singleton.mp z]; exact hm
  · have pm := c2 hm
    refine ⟨fun e he => ?_, fun e he => ?_, by rw [pm.length_eq]; exact Nat.succ_le_succ g.len⟩
    · rw [tk]
      rcases List.mem_cons.mp (pm.mem_iff.mp he) with z | z
      · rw [z]; simp
      · exact List.mem_append_left _ (g.sub e z)
    · rw [(pm.map (·.2)).mem_iff, List.map_cons]
      rw [tk] at he
      rcases List.mem_append.mp he with z | z
      · exact List.mem_cons_of_mem _ (g.all e z)
      · rw [List.mem_singleton.mp z]; exact List.mem_cons_self
section
variable {P : Program} {w : World} {A : Around} {E : Value → Shared → Prop} {s : Shared}
theorem stab_new {h : Heap} {a : Addr} (got : h.get? a = some (newSetO w)) : STab (NK P w) h a [] #[] 0 (.fresh 0 0 (!w.params.followText "set-order")) := by
  refine ⟨⟨_, got, ⟨rfl, rfl, rfl⟩, rfl⟩, rfl, ⟨List.Pairwise.nil, rfl, rfl, .inl rfl, fun x hx => (by cases hx), fun i h j hi => (by simp at hi)⟩, List.nodup_nil, ?_, (by show 0 * 5 < 7 * 3; decide), (by show 0 < 64; decide)⟩
  show _ ∨ (!w.params.followText "set-order") = true
  cases w.params.followText "set-order"
  · exact .inr rfl
  · exact .inl rfl
theorem STab.at {h h' : Heap} {a : Addr} {L : List (Addr × NestedKey)} {es : Array (Int × Value)} {ep : Nat} {t : SetTable} (R : STab (NK P w) h a L es ep t) (k : ∀ o, h.get? a = some o → h'.get? a = some o) : STab (NK P w) h' a L es ep t := by
  obtain ⟨o, got, r⟩ := R.ob
  exact ⟨⟨o, k o got, r⟩, R.lay, R.tab, R.nd, R.led, R.room, R.few⟩
/-- set(xs), a list of tuples -/
theorem call_setN {l : Addr} {items : Array Value} (ks : List (Addr × NestedKey)) {Q : Value → Shared → Prop} (calm : A.handled = none) (isl : s.heap.IsList l items) (hit : items.toList = ks.map fun e => Value.ref e.1) (hk : ∀ e ∈ ks, (NK P w).is s.heap e.2 e.1) (few : ks.length < 64) (hu : A.units + 16 < cLine)
    (fin : ∀ (h' : Heap) (tk : Nat) L es ep t, STab (NK P w) h' s.heap.objs.size L es ep t → GotN ks ks.length L → (∀ b o, s.heap.get? b = some o → h'.get? b = some o) → Q (.ref s.heap.objs.size) { s with heap := h', toks := tk }) :
    wpAny (model P w) A (call (.type "set") [.ref l]) Q E s := by
  have len : items.size = ks.length := by
    have q := congrArg List.length hit
    simpa using q
  refine call_setG (J := fun i h => (∀ b o, s.heap.get? b = some o → h.get? b = some o) ∧ ∃ L es ep t, STab (NK P w) h s.heap.objs.size L es ep t ∧ GotN ks i L) calm isl ?_ ?_ ?_ ?_
  · intro A' E' Q' i v s' hU hv keep ⟨_, L, es, ep, t, R, g⟩ k
    have hv2 : items.toList[i]? = some v := by rw [Array.getElem?_toList]; exact hv
    rw [hit, List.getElem?_map] at hv2
    cases hx : ks[i]? with
    | none => rw [hx] at hv2; cases hv2
    | some x =>
      rw [hx] at hv2
      cases hv2
      have sub : ∀ e ∈ L, e ∈ ks := fun e he => List.mem_of_mem_take (g.sub e he)
      have isk : ∀ e ∈ ks, (NK P w).is s'.heap e.2 e.1 := fun e he => calmN.stay (hk e he) fun c o vs n e1 _ => keep c o e1
      have mx : x ∈ ks := List.mem_of_getElem? hx
      have li : i < ks.length := (List.getElem?_eq_some_iff.mp hx).1
      refine add_nk R (fun e he => isk e (sub e he)) (isk x mx) (by omega) (by have := g.len; omega) fun b h' L' es' ep' t' tk le but R' M' c1 c2 => k b h' tk le but ⟨fun b o e => ?_, L', es', ep', t', R', got_next g hx c1 c2⟩
      refine (but.2 b fun z => ?_).trans (keep b o e)
      rw [z] at e
      exact Nat.lt_irrefl _ (Heap.lt_size e)
  · intro i h h' k1 k2 ⟨_, L, es, ep, t, R, g⟩
    exact ⟨k1, L, es, ep, t, R.at k2, g⟩
  · exact ⟨fun b o e => Heap.get?_push_of_some _ e, [], #[], 0, _, stab_new (Heap.get?_push_size _ rfl), got_zero ks⟩
  · intro h' tk ⟨_, L, es, ep, t, R, g⟩ keep
    rw [len] at g
    exact fin h' tk L es ep t R g keep
end
end EL
namespace EL
open PySem PySem.Spec L2
open PyProof.Rows hiding St
open PySem.W (dataLt alike alikeAll AllAlike Sortable dataLe EachIs keyToks keyToksAll alike_unique toks_eqv lex_pre list_sort_data)
set_option autoImplicit false
section
variable {α : Type} (le : α → α → Bool)
def insU (x : α) : List α → List α
  | [] => [x]
  | y :: r => if le x y = true then x :: y :: r else y :: insU x r
def sortU : List α → List α
  | [] => []
  | x :: r => insU le x (sortU r)
theorem insU_perm (x : α) : ∀ l, (insU le x l).Perm (x :: l)
  | [] => List.Perm.refl _
  | y :: r => by
    unfold insU
    split
    · exact List.Perm.refl _
    · exact ((insU_perm x r).cons y).trans (List.Perm.swap x y r)
theorem sortU_perm : ∀ l, (sortU le l).Perm l
  | [] => List.Perm.refl _
  | x :: r => (insU_perm le x _).trans ((sortU_perm r).cons x)
variable {le}
theorem insU_mem {x y : α} {l : List α} : y ∈ insU le x l ↔ y = x ∨ y ∈ l := by rw [(insU_perm le x l).mem_iff, List.mem_cons]
theorem insU_pw (tr : ∀ a b c, le a b = true → le b c = true → le a c = true) (tot : ∀ a b, (le a b || le b a) = true) (x : α) : ∀ l : List α, l.Pairwise (fun a b => le a b = true) → (insU le x l).Pairwise fun a b => le a b = true
  | [], _ => by simp [insU]
  | y :: r, h => by
    unfold insU
    rw [List.pairwise_cons] at h
    split
    · rename_i q
      exact List.pairwise_cons.mpr ⟨fun z hz => by
        rcases List.mem_cons.mp hz with e | hz
        · rw [e]; exact q
        · exact tr _ _ _ q (h.1 z hz), List.pairwise_cons.mpr h⟩
    · rename_i q
      have q' : le y x = true := by
        have := tot x y
        cases z : le x y
        · rw [z] at this; simpa using this
        · exact absurd z q
      exact List.pairwise_cons.mpr ⟨fun z hz => by
        rcases insU_mem.mp hz with e | hz
        · rw [e]; exact q'
        · exact h.1 z hz, insU_pw tr tot x r h.2⟩
theorem sortU_pw (tr : ∀ a b c, le a b = true → le b c = true → le a c = true) (tot : ∀ a b, (le a b || le b a) = true) : ∀ l : List α, (sortU le l).Pairwise fun a b => le a b = true
  | [] => List.Pairwise.nil
  | x :: r => insU_pw tr tot x _ (sortU_pw tr tot r)
/-- two arrangements in order, where what is not parted is equal -/
theorem sorted_one {R : α → α → Prop} : ∀ {a b : List α}, a.Perm b → a.Pairwise R → b.Pairwise R → (∀ x ∈ a, ∀ y ∈ a, R x y → R y x → x = y) → a = b
  | [], b, p, _, _, _ => by rw [List.nil_perm.mp p]
  | x :: r, [], p, _, _, _ => by have := p.length_eq; simp at this
  | x :: r, y :: t, p, h1, h2, anti => by
    rw [List.pairwise_cons] at h1 h2
    have e : x = y := by
      rcases List.mem_cons.mp (p.mem_iff.mp List.mem_cons_self) with z | z
      · exact z
      · rcases List.mem_cons.mp (p.mem_iff.mpr List.mem_cons_self) with z2 | z2
        · exact z2.symm
        · exact anti x List.mem_cons_self y (List.mem_cons_of_mem _ z2) (h1.1 y z2) (h2.1 x z)
    subst e
    rw [sorted_one (List.perm_cons x |>.mp p) h1.2 h2.2 fun a ha b hb => anti a (List.mem_cons_of_mem _ ha) b (List.mem_cons_of_mem _ hb)]
theorem sortU_eq (tr : ∀ a b c, le a b = true → le b c = true → le a c = true) (tot : ∀ a b, (le a b || le b a) = true) {a b : List α} (p : a.Perm b) (anti : ∀ x ∈ a, ∀ y ∈ a, le x y = true → le y x = true → x = y) (h : a.Pairwise fun x y => le x y = true) : a = sortU le b :=
  sorted_one (p.trans (sortU_perm le b).symm) h (sortU_pw tr tot b) anti
end
def leN (a b : NestedKey) : Bool := !dataLt b.data a.data
def sortN : List NestedKey → List NestedKey := sortU leN
theorem leN_tr (a b c : NestedKey) (h1 : leN a b = true) (h2 : leN b c = true) : leN a c = true := by
  unfold leN dataLt at *
  rw [Bool.not_eq_true'] at *
  cases h3 : PyProof.Rows.lexLt itemOrd (keyToks c.data) (keyToks a.data) with
  | false => rfl
  | true =>
    cases h4 : PyProof.Rows.lexLt itemOrd (keyToks a.data) (keyToks b.data) with
    | true => rw [lex_trans _ _ _ h3 h4] at h2; cases h2
    | false =>
      have e := lex_total _ _ h4 h1
      rw [e, h2] at h3
      cases h3
theorem leN_tot (a b : NestedKey) : (leN a b || leN b a) = true := by
  unfold leN dataLt
  cases h3 : PyProof.Rows.lexLt itemOrd (keyToks b.data) (keyToks a.data) with
  | false => rfl
  | true =>
    cases h4 : PyProof.Rows.lexLt itemOrd (keyToks a.data) (keyToks b.data) with
    | false => rfl
    | true =>
      have z := lex_trans _ _ _ h3 h4
      rw [lex_irrefl] at z
      cases z
theorem beq_dec (x y : Str) : (x == y) = decide (x = y) := by
  by_cases h : x = y
  · subst h; simp
  · rw [decide_eq_false h]; simpa using h
theorem beq_decI (x y : Int) : (x == y) = decide (x = y) := by
  by_cases h : x = y
  · subst h; simp
  · rw [decide_eq_false h]; simpa using h
mutual
theorem data_eqv : ∀ a b : NestedKey, PyData.eqv a.data b.data = NestedKey.beq a b
  | .none, b => by cases b <;> simp [NestedKey.data, PyData.eqv, NestedKey.beq]
  | .num i, b => by cases b <;> simp [NestedKey.data, PyData.eqv, NestedKey.beq, beq_decI]
  | .text x, b => by cases b <;> simp [NestedKey.data, PyData.eqv, NestedKey.beq, beq_dec]
  | .tup xs, b => by
    cases b with
    | tup ys =>
      rw [NestedKey.data, NestedKey.data, NestedKey.beq, PyData.eqv]
      exact datas_eqv xs ys
    | _ => simp [NestedKey.data, PyData.eqv, NestedKey.beq]
theorem datas_eqv : ∀ a b : List NestedKey, PyData.eqvAll (NestedKey.datas a) (NestedKey.datas b) = NestedKey.beqAll a b
  | [], [] => by simp [NestedKey.datas, PyData.eqvAll, NestedKey.beqAll]
  | [], _ :: _ => by simp [NestedKey.datas, PyData.eqvAll, NestedKey.beqAll]
  | _ :: _, [] => by simp [NestedKey.datas, PyData.eqvAll, NestedKey.beqAll]
  | x :: xs, y :: ys => by rw [NestedKey.datas, NestedKey.datas, NestedKey.beqAll, PyData.eqvAll, data_eqv x y, datas_eqv xs ys]
end
theorem leN_anti {a b : NestedKey} (al : alike a.data b.data = true) (h1 : leN a b = true) (h2 : leN b a = true) : a = b := by
  unfold leN dataLt at *
  rw [Bool.not_eq_true'] at *
  have e := lex_total _ _ h2 h1
  cases q : PyData.eqv a.data b.data with
  | true => exact NestedKey.eq_of_beq _ _ ((data_eqv a b).symm.trans q)
  | false =>
    exfalso
    have z := (toks_eqv _ _ al).2 q [.inl 0] [.inl 1]
    rw [e, lex_pre, lex_irrefl] at z
    exact absurd z (by decide +kernel)
/-- all can be compared, and sorting them asks no more -/
def alikeN (ks : List NestedKey) : Bool := ks.all fun a => ks.all fun b => alike a.data b.data
def firmN (ks : List NestedKey) : Bool := ks.all fun k => match k with
  | .tup (_ :: _) => true
  | _ => false
theorem firm_sortable {ks : List NestedKey} (h : firmN ks = true) : Sortable (ks.map NestedKey.data) := .inl fun d hd => by
  obtain ⟨k, hk, rfl⟩ := List.mem_map.mp hd
  have z := List.all_eq_true.mp h k hk
  cases k with
  | tup xs =>
    cases xs with
    | nil => cases z
    | cons x r => exact ⟨x.data, NestedKey.datas r, by rw [NestedKey.data, NestedKey.datas]⟩
  | _ => cases z
theorem alike_at {ks : List NestedKey} (h : alikeN ks = true) {a b : NestedKey} (ha : a ∈ ks) (hb : b ∈ ks) : alike a.data b.data = true := List.all_eq_true.mp (List.all_eq_true.mp h a ha) b hb
theorem leN_eq : dataLe false NestedKey.data = leN := rfl
mutual
theorem nk_lists {h : Heap} : ∀ (k : NestedKey) (v : Value) (as : List Addr), Reads h v k.data as → as = []
  | .none, v, as, r => by rw [NestedKey.data] at r; cases r; rfl
  | .num i, v, as, r => by rw [NestedKey.data] at r; cases r; rfl
  | .text x, v, as, r => by rw [NestedKey.data] at r; cases r; rfl
  | .tup ks, v, as, r => by
    rw [NestedKey.data] at r
    cases r with
    | tuple _ _ _ q => exact nks_lists ks _ _ q
theorem nks_lists {h : Heap} : ∀ (ks : List NestedKey) (vs : List Value) (as : List Addr), ReadsAll h vs (NestedKey.datas ks) as → as = []
  | [], vs, as, r => by rw [NestedKey.datas] at r; cases r; rfl
  | k :: ks, vs, as, r => by
    rw [NestedKey.datas] at r
    cases r with
    | cons q1 q2 => rw [nk_lists k _ _ q1, nks_lists ks _ _ q2]; rfl
end
mutual
theorem nk_depth : ∀ k : NestedKey, k.data.depth ≤ k.depth + 1
  | .none => by simp [NestedKey.data, PyData.depth]
  | .num _ => by simp [NestedKey.data, PyData.depth]
  | .text _ => by simp [NestedKey.data, PyData.depth]
  | .tup ks => by
    rw [NestedKey.data, PyData.depth, NestedKey.depth]
    have := nks_depth ks
    omega
theorem nks_depth : ∀ ks : List NestedKey, PyData.depthAll (NestedKey.datas ks) ≤ NestedKey.depthAll ks + 1
  | [] => by simp [NestedKey.datas, PyData.depthAll]
  | k :: ks => by
    rw [NestedKey.datas, PyData.depthAll, NestedKey.depthAll]
    have := nk_depth k
    have := nks_depth ks
    omega
end
section
variable {P : Program} {w : World} {A : Around} {E : Value → Shared → Prop} {s : Shared}
theorem each_of {α β : Type} {R : α → β → Prop} : ∀ {as : List α}, (∀ a ∈ as, ∃ b, R a b) → ∃ bs, EachIs R as bs
  | [], _ => ⟨[], .nil⟩
  | a :: as, h => by
    obtain ⟨b, hb⟩ := h a List.mem_cons_self
    obtain ⟨bs, hbs⟩ := each_of fun x hx => h x (List.mem_cons_of_mem _ hx)
    exact ⟨b :: bs, .cons hb hbs⟩
theorem each_map2 {α β γ : Type} {R : α → β → Prop} {f : α → γ} {g : β → γ} (h : ∀ a b, R a b → f a = g b) : ∀ {as : List α} {bs : List β}, EachIs R as bs → as.map f = bs.map g
  | _, _, .nil => rfl
  | _, _, .cons r t => by rw [List.map_cons, List.map_cons, h _ _ r, each_map2 h t]
/-- sorted(a set of tuples) -/
theorem sorted_setN {a : Addr} {L : List (Addr × NestedKey)} {es : Array (Int × Value)} {ep : Nat} {t : SetTable} {Q : Value → Shared → Prop} (R : STab (NK P w) s.heap a L es ep t) (calm : A.handled = none) (hu : A.units + 32 < cLine)
    (rd : ∀ e ∈ L, ∃ as, Reads s.heap (.ref e.1) e.2.data as) (dep : ∀ e ∈ L, e.2.depth ≤ 8) (al : alikeN (L.map (·.2)) = true) (fi : firmN (L.map (·.2)) = true)
    (fin : ∀ s' p (out : List Value) (c : Nat), (∀ b o, s.heap.get? b = some o → s'.heap.get? b = some o) → s'.gens = s.gens → s'.os = s.os → s.heap.objs.size ≤ p → s'.heap.get? p = some (seqObj "list" out.toArray c) → EachIs (fun v k => ∃ e ∈ L, v = Value.ref e.1 ∧ k = e.2) out (sortN (L.map (·.2))) → Q (.ref p) s') :
    wpAny (model P w) A (call (.builtin "sorted") [.ref a]) Q E s := by
  obtain ⟨o, got, exs, dat⟩ := R.ob
  have sz := lay_len R.lay
  have few := R.few
  apply Calls.call_function_entry kind_sorted plain_sorted entry_sorted (args_sorted1 _)
  unfold Builtin.«sorted»
  refine wpAny_bind (m := checkCount "sorted" 1 1 _) (wpAny_pure ?_)
  apply wpAny_bind
  refine collect_set (A := A.in1) (by simpa using calm) ⟨o, got, exs.1, dat⟩ R.fit (by unfold scanBound; omega) R.tab.ris R.led fun s1 vs keep big gens os pm => ?_
  have es2 : es.toList.map (·.2) = L.map fun e => Value.ref e.1 := by
    rw [R.lay]
    simp [tbl]
  rw [es2] at pm
  have len : vs.length = L.length := by rw [pm.length_eq, List.length_map]
  -- the values, each with its entry
  obtain ⟨xs, hxs⟩ : ∃ xs : List (Addr × NestedKey), EachIs (fun v e => e ∈ L ∧ v = Value.ref e.1) vs xs := each_of fun v hv => by
    obtain ⟨e, he, rfl⟩ := List.mem_map.mp (pm.mem_iff.mp hv)
    exact ⟨e, he, rfl⟩
  have evs : vs = xs.map fun e => Value.ref e.1 := by
    have q := each_map2 (f := id) (g := fun e : Addr × NestedKey => Value.ref e.1) (fun _ _ h => h.2) hxs
    simpa using q
  have mem : ∀ e ∈ xs, e ∈ L := by
    have key : ∀ {vs : List Value} {xs : List (Addr × NestedKey)}, EachIs (fun v e => e ∈ L ∧ v = Value.ref e.1) vs xs → ∀ e ∈ xs, e ∈ L := by
      intro vs xs q
      induction q with
      | nil => exact fun e he => by cases he
      | cons r t ih =>
        intro e he
        rcases List.mem_cons.mp he with z | z
        · rw [z]; exact r.1
        · exact ih e z
    exact key hxs
  have one : ∀ e ∈ L, ∀ f ∈ L, e.1 = f.1 → e.2 = f.2 := fun e he f hf z => by
    obtain ⟨as, r1⟩ := rd e he
    obtain ⟨bs, r2⟩ := rd f hf
    rw [z] at r1
    have al' := alike_at al (List.mem_map.mpr ⟨e, he, rfl⟩) (List.mem_map.mpr ⟨f, hf, rfl⟩)
    have q := alike_unique _ _ _ _ _ al' r1 r2
    have self : ∀ k : NestedKey, PyData.eqv k.data k.data = true := fun k => by rw [data_eqv]; exact NestedKey.beq_self k
    have y := self e.2
    rw [show PyData.eqv e.2.data e.2.data = PyData.eqv e.2.data f.2.data by rw [← q], data_eqv] at y
    exact NestedKey.eq_of_beq _ _ y
  have ndL : (L.map fun e => Value.ref e.1).Nodup := by
    have q := R.nd
    rw [List.nodup_iff_pairwise_ne, List.pairwise_map] at *
    exact q.imp_of_mem fun {e f} he hf ne z => ne (one e he f hf (by injection z))
  have pmx : xs.Perm L := by
    rw [evs] at pm
    have nx : (xs.map fun e => Value.ref e.1).Nodup := pm.nodup_iff.mpr ndL
    refine (List.perm_ext_iff_of_nodup (List.Pairwise.of_map _ (fun _ _ ne e => ne (by rw [e])) nx) (List.Pairwise.of_map _ (fun _ _ ne e => ne (by rw [e])) ndL)).mpr fun e => ⟨mem e, fun he => ?_⟩
    obtain ⟨f, hf, z⟩ := List.mem_map.mp (pm.mem_iff.mpr (List.mem_map.mpr ⟨e, he, rfl⟩))
    injection z with z
    have y := one f (mem f hf) e he z
    rw [show e = f from Prod.ext z.symm y.symm]
    exact hf
  apply wpAny_bind
  refine wpAny_newList ?_ (by rw [len, sizeLine_eq]; omega)
  have gL : (s1.heap.push (seqObj "list" vs.toArray 0)).get? s1.heap.objs.size = some (seqObj "list" vs.toArray 0) := Heap.get?_push_size _ rfl
  have e1 : EachIs (fun v k => ∃ e ∈ L, v = Value.ref e.1 ∧ k = e.2) vs (xs.map (·.2)) := by
    have key : ∀ {vs : List Value} {xs : List (Addr × NestedKey)}, EachIs (fun v e => e ∈ L ∧ v = Value.ref e.1) vs xs → EachIs (fun v k => ∃ e ∈ L, v = Value.ref e.1 ∧ k = e.2) vs (xs.map (·.2)) := by
      intro vs xs q
      induction q with
      | nil => exact .nil
      | cons r t ih => exact .cons ⟨_, r.1, r.2, rfl⟩ ih
    exact key hxs
  have ks : (xs.map (·.2)).Perm (L.map (·.2)) := pmx.map _
  have al2 : AllAlike ((xs.map (·.2)).map NestedKey.data) := fun d hd d' hd' => by
    obtain ⟨k, hk, rfl⟩ := List.mem_map.mp hd
    obtain ⟨k', hk', rfl⟩ := List.mem_map.mp hd'
    exact alike_at al (ks.mem_iff.mp hk) (ks.mem_iff.mp hk')
  have so2 : Sortable ((xs.map (·.2)).map NestedKey.data) := firm_sortable (List.all_eq_true.mpr fun k hk => List.all_eq_true.mp fi k (ks.mem_iff.mp hk))
  apply wpAny_bind
  apply wpAny_holding
  refine list_sort_data (s := { s1 with heap := s1.heap.push (seqObj "list" vs.toArray 0) }) (vs := vs) gL e1 (e1.mono fun v k h => ?_) al2 so2 (by rw [List.length_map, ← hxs.length, len, sizeLine_eq]; omega) (fun k hk => ?_) fun out lo eo => ?_
  · obtain ⟨e, he, rfl, rfl⟩ := h
    obtain ⟨as, r⟩ := rd e he
    rw [nk_lists _ _ _ r] at r
    exact ⟨[], PyProof.Rows.Reads.keeps (fun b u q => Heap.get?_push_of_some _ (keep b u q)) r, by simp⟩
  · obtain ⟨e, he, rfl⟩ := List.mem_map.mp (ks.mem_iff.mp hk)
    have := nk_depth e.2
    have := dep e he
    simp only [Around.in1_units]
    omega
  · obtain ⟨c, hc⟩ := sortedHeap_at (vs := vs) (out := out.toArray) gL
    have es3 : (xs.map (·.2)).mergeSort (dataLe false NestedKey.data) = sortN (L.map (·.2)) := by
      rw [leN_eq]
      refine sortU_eq leN_tr leN_tot ((List.mergeSort_perm _ _).trans ks) (fun x hx y hy => ?_) (List.pairwise_mergeSort leN_tr leN_tot _)
      have hx := (List.mergeSort_perm _ _).mem_iff.mp hx
      have hy := (List.mergeSort_perm _ _).mem_iff.mp hy
      exact leN_anti (alike_at al (ks.mem_iff.mp hx) (ks.mem_iff.mp hy))
    rw [es3] at eo
    refine wpAny_pure ⟨_, rfl, fin _ s1.heap.objs.size out c (fun b u e => ?_) gens os big hc eo⟩
    have q := keep b u e
    have lt := Heap.lt_size q
    show (sortedHeap (s1.heap.push (seqObj "list" vs.toArray 0)) s1.heap.objs.size vs _).get? b = some u
    rw [sortedHeap_old (Nat.ne_of_lt lt) (by rw [size_push']; exact Nat.lt_succ_of_lt lt)]
    exact Heap.get?_push_of_some _ q
end
/-- a set of tuples, without the tuples themselves -/
def SetNO (P : Program) (w : World) (a : Addr) (L : List (Addr × NestedKey)) : HO := .ext fun h => ∃ es ep t, STab (NK P w) h a L es ep t
theorem setNO_ok {P : Program} {w : World} {H : Hp} {h : Heap} {a : Addr} {L : List (Addr × NestedKey)} {es : Array (Int × Value)} {ep : Nat} {t : SetTable} (R : STab (NK P w) h a L es ep t) : ObjOk P w H h a (SetNO P w a L) := by
  obtain ⟨o, got, _⟩ := R.ob
  exact ⟨⟨es, ep, t, R⟩, ⟨o, got⟩, fun h1 h2 ⟨es, ep, t, R⟩ k => ⟨es, ep, t, R.at k⟩⟩
theorem setNO_get {X : Cx} {pins : List (Addr × Obj)} {σ : L2.St} {H : Hp} {s : Shared} {a : Addr} {L : List (Addr × NestedKey)} (I : Inv X pins σ H s) (ha : H a = some (SetNO X.prog X.w a L)) : ∃ es ep t, STab (NK X.prog X.w) s.heap a L es ep t := (I.hok a _ ha).1
end EL
namespace EL
open PySem PySem.Spec L2
open PyProof.Rows hiding St
inductive W where
  | non | bl (b : Bool) | int (i : Int) | str (x : Str) | ref (i : Nat) | tup (xs : List W) | rol (xs : List W)
inductive O where
  | lst (xs : List W)
  | ins (C : Str) (fs : List (Str × W))
  | dK (kvs : List (Key × W))
  | dF (kvs : List (Key × W))
  | st (ks : List Str)
  | xc (C : Str) (f : Str) (w : W)
  | sT (ks : List NestedKey)
  | dT (kvs : List (List Key × W))
  | dU (kvs : List (List Key × W))
/-- where the classes lie; whose world it is -/
structure Cm where
  f : Str → Addr
  P : Program
  w : World
  T : List (Addr × Str)
instance : CoeFun Cm (fun _ => Str → Addr) := ⟨Cm.f⟩
def inSt (ks : List Str) : Key → Bool := fun k => match k with
  | .inr x => ks.contains x
  | .inl _ => false
abbrev Hw := List O
inductive R (α : Type) where
  | ok (a : α) (h : Hw)
  | ex (c : Str) (v : W) (h : Hw)
  | no
abbrev M (α : Type) := Hw → R α
def bnd {α β : Type} (m : M α) (f : α → M β) : M β := fun h => match m h with
  | .ok a h' => f a h'
  | .ex c v h' => .ex c v h'
  | .no => .no
def rtn {α : Type} (a : α) : M α := fun h => .ok a h
def bad {α : Type} : M α := fun _ => .no
theorem bnd_ok {α β : Type} {m : M α} {f : α → M β} {h h' : Hw} {b : β} (e : bnd m f h = .ok b h') : ∃ a h1, m h = .ok a h1 ∧ f a h1 = .ok b h' := by
  unfold bnd at e
  split at e
  · exact ⟨_, _, by assumption, e⟩
  · cases e
  · cases e
abbrev SW := List (Option W)
abbrev ME := SW → M W
abbrev MT := SW → M Bool
abbrev MA := SW → M (List W)
inductive Fl where
  | nx (s : SW) | rt (w : W) | bk (s : SW) | ct (s : SW)
abbrev MS := SW → M Fl
abbrev MG := W → SW → M SW
mutual
def W.beq : W → W → Bool
  | .non, .non => true
  | .bl a, .bl b => a == b
  | .int a, .int b => a == b
  | .str a, .str b => a == b
  | .ref a, .ref b => a == b
  | .tup a, .tup b => W.beqL a b
  | .rol a, .rol b => W.beqL a b
  | _, _ => false
def W.beqL : List W → List W → Bool
  | [], [] => true
  | x :: xs, y :: ys => W.beq x y && W.beqL xs ys
  | _, _ => false
end
/-- a list that never changes: frozen or written -/
def SqP (K : PySem.W.Frag) (H : Hp) (a : Addr) (xs : List V) : Prop :=
  (∃ o, H a = some (.frz o (.lst xs))) ∨
    ∃ (o : Obj) (its : Array Value) (n : Nat), K.lookup a = some o ∧ o.cls = .type "list" ∧ o.dict = none ∧ o.data = .seq its n ∧ its.size ≤ sizeLine ∧ Vals xs its.toList
theorem SqP.sq {K : PySem.W.Frag} {H : Hp} {a : Addr} {xs : List V} (h : SqP K H a xs) : SqL K H a xs := by
  rcases h with h | h
  · exact .inl (.inr h)
  · exact .inr h
mutual
inductive Rel (K : PySem.W.Frag) (ρ : List Addr) (H : Hp) : W → V → Prop where
  | non : Rel K ρ H .non .non
  | bl (b : Bool) : Rel K ρ H (.bl b) (.bl b)
  | int (i : Int) : Rel K ρ H (.int i) (.int i)
  | str (x : Str) : Rel K ρ H (.str x) (.str x)
  | ref {i : Nat} {a : Addr} (h : ρ[i]? = some a) : Rel K ρ H (.ref i) (.ref a)
  | tup {ws : List W} {vs : List V} {a : Addr} (h : SqT K H a vs) (r : Rels K ρ H ws vs) (n : vs = [] ∨ H a = some (.tup vs) := by first | assumption | exact .inl rfl | exact .inr upd_same | exact .inr (by assumption)) : Rel K ρ H (.tup ws) (.ref a)
  | rol {ws : List W} {vs : List V} {a : Addr} (h : SqP K H a vs) (r : Rels K ρ H ws vs) : Rel K ρ H (.rol ws) (.ref a)
inductive Rels (K : PySem.W.Frag) (ρ : List Addr) (H : Hp) : List W → List V → Prop where
  | nil : Rels K ρ H [] []
  | cons {w : W} {v : V} {ws : List W} {vs : List V} (r : Rel K ρ H w v) (t : Rels K ρ H ws vs) : Rels K ρ H (w :: ws) (v :: vs)
end
structure Le (K : PySem.W.Frag) (ρ : List Addr) (H : Hp) (ρ' : List Addr) (H' : Hp) : Prop where
  pre : ρ <+: ρ'
  sq : ∀ a vs, SqT K H a vs → SqT K H' a vs
  sl : ∀ a vs, SqP K H a vs → SqP K H' a vs
  fz : ∀ a o u, H a = some (.frz o u) → H' a = some (.frz o u)
  xd : ∀ a fs, H a = some (.xd fs) → H' a = some (.xd fs)
  tp : ∀ a vs, H a = some (.tup vs) → H' a = some (.tup vs)
theorem pre_get {ρ ρ' : List Addr} (h : ρ <+: ρ') {i : Nat} {a : Addr} (e : ρ[i]? = some a) : ρ'[i]? = some a := by
  obtain ⟨t, rfl⟩ := h
  obtain ⟨hi, _⟩ := List.getElem?_eq_some_iff.mp e
  rw [List.getElem?_append_left hi]
  exact e
section
variable {K : PySem.W.Frag} {ρ ρ' ρ'' : List Addr} {H H' H'' : Hp}
theorem Le.refl : Le K ρ H ρ H := ⟨List.prefix_refl _, fun _ _ h => h, fun _ _ h => h, fun _ _ _ h => h, fun _ _ h => h, fun _ _ h => h⟩
theorem Le.trans (a : Le K ρ H ρ' H') (b : Le K ρ' H' ρ'' H'') : Le K ρ H ρ'' H'' :=
  ⟨a.pre.trans b.pre, fun x vs h => b.sq x vs (a.sq x vs h), fun x vs h => b.sl x vs (a.sl x vs h), fun x o u h => b.fz x o u (a.fz x o u h), fun x f h => b.xd x f (a.xd x f h), fun x v h => b.tp x v (a.tp x v h)⟩
mutual
theorem Rel.mono (l : Le K ρ H ρ' H') : ∀ {w : W} {v : V}, Rel K ρ H w v → Rel K ρ' H' w v
  | _, _, .non => .non
  | _, _, .bl b => .bl b
  | _, _, .int i => .int i
  | _, _, .str x => .str x
  | _, _, .ref h => .ref (pre_get l.pre h)
  | _, _, .tup h r n => .tup (l.sq _ _ h) (Rels.mono l r) (n.imp_right (l.tp _ _))
  | _, _, .rol h r => .rol (l.sl _ _ h) (Rels.mono l r)
theorem Rels.mono (l : Le K ρ H ρ' H') : ∀ {ws : List W} {vs : List V}, Rels K ρ H ws vs → Rels K ρ' H' ws vs
  | _, _, .nil => .nil
  | _, _, .cons r t => .cons (Rel.mono l r) (Rels.mono l t)
end
theorem Rels.length : ∀ {ws : List W} {vs : List V}, Rels K ρ H ws vs → ws.length = vs.length
  | _, _, .nil => rfl
  | _, _, .cons _ t => by rw [List.length_cons, List.length_cons, Rels.length t]
theorem Rels.get : ∀ {ws : List W} {vs : List V} {i : Nat} {w : W}, Rels K ρ H ws vs → ws[i]? = some w → ∃ v, vs[i]? = some v ∧ Rel K ρ H w v
  | _, _, _, _, .nil, e => by simp at e
  | _, _, 0, _, .cons r _, e => by
    simp only [List.getElem?_cons_zero, Option.some.injEq] at e
    subst e
    exact ⟨_, rfl, r⟩
  | _, _, i + 1, w, .cons _ t, e => by
    obtain ⟨v, h1, h2⟩ := Rels.get (i := i) (w := w) t (by simpa using e)
    exact ⟨v, by simpa using h1, h2⟩
theorem Rels.append : ∀ {ws us : List W} {vs ts : List V}, Rels K ρ H ws vs → Rels K ρ H us ts → Rels K ρ H (ws ++ us) (vs ++ ts)
  | _, _, _, _, .nil, s => s
  | _, _, _, _, .cons r t, s => .cons r (Rels.append t s)
theorem Rels.take (n : Nat) : ∀ {ws : List W} {vs : List V}, Rels K ρ H ws vs → Rels K ρ H (ws.take n) (vs.take n) := by
  intro ws vs r
  induction n generalizing ws vs with
  | zero => exact .nil
  | succ n ih =>
    cases r with
    | nil => exact .nil
    | cons r t => exact .cons r (ih t)
theorem Rels.drop (n : Nat) : ∀ {ws : List W} {vs : List V}, Rels K ρ H ws vs → Rels K ρ H (ws.drop n) (vs.drop n) := by
  intro ws vs r
  induction n generalizing ws vs with
  | zero => exact r
  | succ n ih =>
    cases r with
    | nil => exact .nil
    | cons r t => exact ih t
theorem Rels.set {w : W} {v : V} (q : Rel K ρ H w v) : ∀ {ws : List W} {vs : List V} (i : Nat), Rels K ρ H ws vs → Rels K ρ H (ws.set i w) (vs.set i v)
  | _, _, _, .nil => .nil
  | _, _, 0, .cons _ t => .cons q t
  | _, _, i + 1, .cons r t => .cons r (Rels.set q i t)
theorem Rels.ints : ∀ (ns : List Int), Rels K ρ H (ns.map W.int) (ns.map V.int)
  | [] => .nil
  | n :: r => .cons (.int n) (Rels.ints r)
theorem Rels.of_ints : ∀ {ns : List Int} {vs : List V}, Rels K ρ H (ns.map W.int) vs → vs = ns.map V.int
  | [], _, .nil => rfl
  | n :: r, _, .cons q t => by
    cases q
    rw [Rels.of_ints t]
    rfl
theorem Rels.of_bls : ∀ {ns : List Bool} {vs : List V}, Rels K ρ H (ns.map W.bl) vs → vs = ns.map V.bl
  | [], _, .nil => rfl
  | n :: r, _, .cons q t => by
    cases q
    rw [Rels.of_bls t]
    rfl
end
mutual
/-- the key that a plain value is -/
def nkW : W → Option NestedKey
  | .non => some .none
  | .int i => some (.num i)
  | .str x => some (.text x)
  | .tup ws => (nkWs ws).map .tup
  | _ => none
def nkWs : List W → Option (List NestedKey)
  | [] => some []
  | w :: ws => match nkW w, nkWs ws with
    | some k, some ks => some (k :: ks)
    | _, _ => none
end
def RelO (K : PySem.W.Frag) (cm : Cm) (ρ : List Addr) (H : Hp) (a : Addr) : O → Prop
  | .lst xs => ∃ vs, H a = some (.lst vs) ∧ Rels K ρ H xs vs
  | .ins C fs => ∃ dx fv, H a = some (.ins (cm C) dx fv) ∧ fv.map (·.1) = fs.map (·.1) ∧ Rels K ρ H (fs.map (·.2)) (fv.map (·.2))
  | .dK kvs => ∃ kv, H a = some (.dK kv) ∧ kv.map (·.1) = kvs.map (·.1) ∧ Rels K ρ H (kvs.map (·.2)) (kv.map (·.2))
  | .dF kvs => ∃ o kv, H a = some (.frz o (.dK kv)) ∧ kv.map (·.1) = kvs.map (·.1) ∧ Rels K ρ H (kvs.map (·.2)) (kv.map (·.2))
  | .st ks => ∃ n, n ≤ ks.length ∧ H a = some (SetK cm.P cm.w a (inSt ks) n)
  | .xc C f w => ∃ d v, H a = some (exo a (cm C) (some d)) ∧ H d = some (.xd [(f, v)]) ∧ Rel K ρ H w v
  | .sT ks => ∃ L : List (Addr × NestedKey), H a = some (SetNO cm.P cm.w a L) ∧ (∀ e ∈ L, ∃ w, Rel K ρ H w (.ref e.1) ∧ nkW w = some e.2 ∧ e.2.depth ≤ 8) ∧ (∀ k, k ∈ L.map (·.2) ↔ k ∈ ks) ∧ L.length ≤ ks.length
  | .dT kvs => ∃ kv, H a = some (.dT kv) ∧ kv.map (·.1) = kvs.map (·.1) ∧ Rels K ρ H (kvs.map (·.2)) (kv.map (·.2))
  | .dU kvs => ∃ o kv, H a = some (.frz o (.dT kv)) ∧ kv.map (·.1) = kvs.map (·.1) ∧ Rels K ρ H (kvs.map (·.2)) (kv.map (·.2))
/-- the tables of code objects: each bears its name; nothing of them is a place -/
def TabR (T : List (Addr × Str)) (ρ : List Addr) (H : Hp) : Prop := ∀ p ∈ T, ∃ ps : Array Value, H p.1 = some (.tbl ps) ∧ TriplesOk ps.toList ∧ p.1 ∉ ρ ∧
  ∀ (pos : Pos) (cv : Value), codeAmong pos ps.toList = some cv → ∃ c, cv = .ref c ∧ H c = some (LamX.CodeO c p.2) ∧ c ∉ ρ
theorem TabR.keep {T : List (Addr × Str)} {ρ ρ' : List Addr} {H H' : Hp} (t : TabR T ρ H) (k : ∀ b, b ∉ ρ → H b ≠ none → H' b = H b) (hr : ∀ b ∈ ρ', b ∈ ρ ∨ H b = none) : TabR T ρ' H' := fun p hp => by
  obtain ⟨ps, e1, e2, n, f⟩ := t p hp
  have some_ne : ∀ {b : Addr} {o : HO}, H b = some o → H b ≠ none := fun e z => by rw [e] at z; cases z
  have out : ∀ {b : Addr} {o : HO}, H b = some o → b ∉ ρ → b ∉ ρ' := fun e nb hb => (hr _ hb).elim nb (some_ne e)
  refine ⟨ps, (k _ n (some_ne e1)).trans e1, e2, out e1 n, fun pos cv hc => ?_⟩
  obtain ⟨c, q1, q2, q3⟩ := f pos cv hc
  exact ⟨c, q1, (k _ q3 (some_ne q2)).trans q2, out q2 q3⟩
structure RelH (K : PySem.W.Frag) (cm : Cm) (ρ : List Addr) (h : Hw) (H : Hp) : Prop where
  len : ρ.length = h.length
  nd : ρ.Nodup
  obj : ∀ (i : Nat) (o : O) (a : Addr), h[i]? = some o → ρ[i]? = some a → RelO K cm ρ H a o
  tb : TabR cm.T ρ H
def RelS (K : PySem.W.Frag) (ρ : List Addr) (H : Hp) (sw : SW) (σ : St) : Prop :=
  sw.length = σ.length ∧ ∀ (i : Nat) (w : W), sw[i]? = some (some w) → ∃ v, σ[i]? = some (some v) ∧ Rel K ρ H w v
section
variable {K : PySem.W.Frag} {cm : Cm} {ρ ρ' ρ'' : List Addr} {h h' : Hw} {H H' H'' : Hp} {sw : SW} {σ : St} {a : Addr} {i : Nat}
theorem RelS.mono (l : Le K ρ H ρ' H') (r : RelS K ρ H sw σ) : RelS K ρ' H' sw σ := ⟨r.1, fun i w e =>
  let ⟨v, h1, h2⟩ := r.2 i w e
  ⟨v, h1, h2.mono l⟩⟩
theorem RelS.set {w : W} {v : V} (r : RelS K ρ H sw σ) (q : Rel K ρ H w v) (i : Nat) : RelS K ρ H (sw.set i (some w)) (σ.set i (some v)) := by
  refine ⟨by rw [List.length_set, List.length_set]; exact r.1, fun j w' e => ?_⟩
  by_cases hj : i = j
  · subst hj
    rw [List.getElem?_set] at e
    rw [if_pos rfl] at e
    split at e
    · cases e
      refine ⟨v, ?_, q⟩
      rw [List.getElem?_set, if_pos rfl, if_pos (by rw [← r.1]; assumption)]
    · cases e
  · rw [List.getElem?_set_ne hj] at e
    rw [List.getElem?_set_ne hj]
    exact r.2 j w' e
/-- each place is known to the heap -/
theorem RelO.some {o : O} (r : RelO K cm ρ H a o) : ∃ u, H a = some u := by
  cases o with
  | lst xs => obtain ⟨vs, e, _⟩ := r; exact ⟨_, e⟩
  | ins C fs => obtain ⟨dx, fv, e, _⟩ := r; exact ⟨_, e⟩
  | dK kvs => obtain ⟨kv, e, _⟩ := r; exact ⟨_, e⟩
  | dF kvs => obtain ⟨o, kv, e, _⟩ := r; exact ⟨_, e⟩
  | st ks => obtain ⟨n, _, e⟩ := r; exact ⟨_, e⟩
  | xc C f w => obtain ⟨d, v, e, _⟩ := r; exact ⟨_, e⟩
  | sT ks => obtain ⟨L, e, _⟩ := r; exact ⟨_, e⟩
  | dT kvs => obtain ⟨kv, e, _⟩ := r; exact ⟨_, e⟩
  | dU kvs => obtain ⟨o, kv, e, _⟩ := r; exact ⟨_, e⟩
theorem RelH.at (r : RelH K cm ρ h H) {w : W} (hi : ρ[i]? = some a) : ∃ o, h[i]? = some o ∧ RelO K cm ρ H a o := by
  obtain ⟨hl, _⟩ := List.getElem?_eq_some_iff.mp hi
  have hl' : i < h.length := by rw [← r.len]; exact hl
  exact ⟨h[i], List.getElem?_eq_getElem hl', r.obj i _ a (List.getElem?_eq_getElem hl') hi⟩
theorem RelH.mem (r : RelH K cm ρ h H) (hm : a ∈ ρ) : ∃ u, H a = some u := by
  obtain ⟨i, hl, e⟩ := List.mem_iff_getElem.mp hm
  obtain ⟨o, _, ho⟩ := r.at (w := .non) (List.getElem?_eq_some_iff.mpr ⟨hl, e⟩)
  exact ho.some
/-- a changed object that is neither a tuple nor frozen: what stands fast stands -/
theorem le_mut {o u : HO} (e : H a = some u) (m : Mut (some u)) : Le K ρ H ρ (upd H a o) := by
  have k : ∀ b x, H b = some x → (∀ q, Mut (some q) → x ≠ q) → upd H a o b = some x := fun b x hb hx => by
    rw [upd_ne (fun z => hx u m (Option.some.inj (hb.symm.trans ((congrArg H z).trans e))))]
    exact hb
  refine ⟨List.prefix_refl _, fun b vs q => ?_, fun b vs q => ?_, fun b ob v q => k b _ q fun z mz y => by rw [← y] at mz; exact mz, fun b f q => k b _ q fun z mz y => (by rw [← y] at mz; exact mz), fun b v q => k b _ q fun z mz y => by rw [← y] at mz; exact mz⟩
  · rcases q with (q | ⟨ob, q⟩) | q
    · exact .inl (.inl (k b _ q fun z mz y => by rw [← y] at mz; exact mz))
    · exact .inl (.inr ⟨ob, k b _ q fun z mz y => by rw [← y] at mz; exact mz⟩)
    · exact .inr q
  · rcases q with ⟨ob, q⟩ | q
    · exact .inl ⟨ob, k b _ q fun z mz y => by rw [← y] at mz; exact mz⟩
    · exact .inr q
/-- a new object -/
theorem le_new {o : HO} (hn : H a = none) : Le K ρ H ρ (upd H a o) := by
  have k : ∀ b x, H b = some x → upd H a o b = some x := fun b x hb => by
    rw [upd_ne (ne_of_none hb hn)]
    exact hb
  refine ⟨List.prefix_refl _, fun b vs q => ?_, fun b vs q => ?_, fun b ob v q => k b _ q, fun b f q => k b _ q, fun b v q => k b _ q⟩
  · rcases q with (q | ⟨ob, q⟩) | q
    · exact .inl (.inl (k b _ q))
    · exact .inl (.inr ⟨ob, k b _ q⟩)
    · exact .inr q
  · rcases q with ⟨ob, q⟩ | q
    · exact .inl ⟨ob, k b _ q⟩
    · exact .inr q
theorem le_app (b : Addr) : Le K ρ H (ρ ++ [b]) H := ⟨List.prefix_append _ _, fun _ _ q => q, fun _ _ q => q, fun _ _ _ q => q, fun _ _ q => q, fun _ _ q => q⟩
theorem RelO.mono {o : O} (l : Le K ρ H ρ' H') (e : H' a = H a) (r : RelO K cm ρ H a o) : RelO K cm ρ' H' a o := by
  cases o with
  | lst xs => obtain ⟨vs, e1, q⟩ := r; exact ⟨vs, e.trans e1, q.mono l⟩
  | ins C fs => obtain ⟨dx, fv, e1, e2, q⟩ := r; exact ⟨dx, fv, e.trans e1, e2, q.mono l⟩
  | dK kvs => obtain ⟨kv, e1, e2, q⟩ := r; exact ⟨kv, e.trans e1, e2, q.mono l⟩
  | dF kvs => obtain ⟨o, kv, e1, e2, q⟩ := r; exact ⟨o, kv, e.trans e1, e2, q.mono l⟩
  | st ks => obtain ⟨n, l1, e1⟩ := r; exact ⟨n, l1, e.trans e1⟩
  | xc C f w => obtain ⟨d, v, e1, e2, q⟩ := r; exact ⟨d, v, e.trans e1, l.xd _ _ e2, q.mono l⟩
  | sT ks => obtain ⟨L, e1, e2, e3⟩ := r; exact ⟨L, e.trans e1, fun x hx => let ⟨w, q1, q2⟩ := e2 x hx; ⟨w, q1.mono l, q2⟩, e3⟩
  | dT kvs => obtain ⟨kv, e1, e2, q⟩ := r; exact ⟨kv, e.trans e1, e2, q.mono l⟩
  | dU kvs => obtain ⟨o, kv, e1, e2, q⟩ := r; exact ⟨o, kv, e.trans e1, e2, q.mono l⟩
/-- what is written at a place -/
theorem RelH.set (r : RelH K cm ρ h H) (hi : ρ[i]? = some a) {u u0 : HO} {o : O} (e0 : H a = some u0) (m0 : Mut (some u0)) (n : RelO K cm ρ (upd H a u) a o) : RelH K cm ρ (h.set i o) (upd H a u) := by
  refine ⟨by rw [List.length_set]; exact r.len, r.nd, fun j o1 b hj hb => ?_, r.tb.keep (fun b nb _ => upd_ne fun z => nb (by rw [z]; exact List.mem_of_getElem? hi)) fun b hb => .inl hb⟩
  by_cases hji : i = j
  · subst hji
    rw [hi] at hb
    cases hb
    rw [List.getElem?_set, if_pos rfl] at hj
    split at hj
    · cases hj
      exact n
    · cases hj
  · rw [List.getElem?_set_ne hji] at hj
    have ne : b ≠ a := fun z => by
      subst z
      exact hji (nd_ix r.nd hi hb)
    exact (r.obj j o1 b hj hb).mono (le_mut e0 m0) (upd_ne ne)
/-- a new object that is no place: a tuple -/
theorem RelH.new (r : RelH K cm ρ h H) (hn : H a = none) {u : HO} : RelH K cm ρ h (upd H a u) :=
  ⟨r.len, r.nd, fun j o b hj hb => (r.obj j o b hj hb).mono (le_new hn) (by
    obtain ⟨x, e⟩ := (r.obj j o b hj hb).some
    exact upd_ne (ne_of_none e hn)), r.tb.keep (fun b _ nb => upd_ne fun z => nb (by rw [z]; exact hn)) fun b hb => .inl hb⟩
/-- a new place -/
theorem RelH.push (r : RelH K cm ρ h H) (hn : H a = none) {u : HO} {o : O} (n : RelO K cm (ρ ++ [a]) (upd H a u) a o) : RelH K cm (ρ ++ [a]) (h ++ [o]) (upd H a u) := by
  refine ⟨by rw [List.length_append, List.length_append, r.len]; rfl, ?_, fun j o1 b hj hb => ?_, r.tb.keep (fun b _ nb => upd_ne fun z => nb (by rw [z]; exact hn)) fun b hb => (List.mem_append.mp hb).imp_right fun z => by rw [List.mem_singleton.mp z]; exact hn⟩
  · refine List.nodup_append.mpr ⟨r.nd, by simp, fun x hx y hy z => ?_⟩
    have hy' : y = a := by simpa using hy
    subst hy' z
    obtain ⟨u1, e1⟩ := r.mem hx
    rw [hn] at e1
    cases e1
  · by_cases hl : j < h.length
    · rw [List.getElem?_append_left hl] at hj
      rw [List.getElem?_append_left (by rw [r.len]; exact hl)] at hb
      have q := r.obj j o1 b hj hb
      obtain ⟨x, e⟩ := q.some
      exact q.mono ((le_new (o := u) hn).trans (le_app a)) (upd_ne (ne_of_none e hn))
    · rw [List.getElem?_append_right (by omega)] at hj
      rw [List.getElem?_append_right (by rw [r.len]; omega), r.len] at hb
      have hz : j - h.length = 0 := by
        have := (List.getElem?_eq_some_iff.mp hj).1
        simp at this
        omega
      rw [hz] at hj hb
      cases hj
      cases hb
      exact n
theorem push_at (r : RelH K cm ρ h H) : (ρ ++ [a])[h.length]? = some a := by
  rw [← r.len]
  simp
end
/-- what follows, once the value has come -/
abbrev KE (K : PySem.W.Frag) (cm : Cm) (ρ : List Addr) (H : Hp) (w : W) (h' : Hw) (Q : VK) : Prop :=
  ∀ ρ' H' v, Le K ρ H ρ' H' → RelH K cm ρ' h' H' → Rel K ρ' H' w v → Q v H'
def tE (K : PySem.W.Frag) (cm : Cm) (m : ME) : TE := fun σ H Q => ∃ ρ h sw w h', RelH K cm ρ h H ∧ RelS K ρ H sw σ ∧ m sw h = .ok w h' ∧ KE K cm ρ H w h' Q
def tT (K : PySem.W.Frag) (cm : Cm) (m : MT) : TT := fun σ H Q => ∃ ρ h sw b h', RelH K cm ρ h H ∧ RelS K ρ H sw σ ∧ m sw h = .ok b h' ∧ ∀ ρ' H', Le K ρ H ρ' H' → RelH K cm ρ' h' H' → Q b H'
def tA (K : PySem.W.Frag) (cm : Cm) (m : MA) : TA := fun σ H Q => ∃ ρ h sw ws h', RelH K cm ρ h H ∧ RelS K ρ H sw σ ∧ m sw h = .ok ws h' ∧ ∀ ρ' H' vs, Le K ρ H ρ' H' → RelH K cm ρ' h' H' → Rels K ρ' H' ws vs → Q vs H'
def FlK (K : PySem.W.Frag) (cm : Cm) (ρ : List Addr) (H : Hp) (f : Fl) (h' : Hw) (D : Ends) : Prop :=
  match f with
  | .nx s => ∀ ρ' H' σ', Le K ρ H ρ' H' → RelH K cm ρ' h' H' → RelS K ρ' H' s σ' → D.nx σ' H'
  | .bk s => ∀ ρ' H' σ', Le K ρ H ρ' H' → RelH K cm ρ' h' H' → RelS K ρ' H' s σ' → D.bk σ' H'
  | .ct s => ∀ ρ' H' σ', Le K ρ H ρ' H' → RelH K cm ρ' h' H' → RelS K ρ' H' s σ' → D.ct σ' H'
  | .rt w => KE K cm ρ H w h' D.rt
theorem FlK.le {K : PySem.W.Frag} {cm : Cm} {ρ ρ' : List Addr} {H H' : Hp} {f : Fl} {h' : Hw} {D : Ends} (l : Le K ρ H ρ' H') (q : FlK K cm ρ H f h' D) : FlK K cm ρ' H' f h' D := by
  cases f with
  | nx s => exact fun ρ2 H2 σ2 l2 => q ρ2 H2 σ2 (l.trans l2)
  | bk s => exact fun ρ2 H2 σ2 l2 => q ρ2 H2 σ2 (l.trans l2)
  | ct s => exact fun ρ2 H2 σ2 l2 => q ρ2 H2 σ2 (l.trans l2)
  | rt w => exact fun ρ2 H2 v l2 => q ρ2 H2 v (l.trans l2)
def tS (K : PySem.W.Frag) (cm : Cm) (m : MS) : TS := fun D σ H => ∃ ρ h sw f h', RelH K cm ρ h H ∧ RelS K ρ H sw σ ∧ m sw h = .ok f h' ∧ FlK K cm ρ H f h' D
/-- alike but at some places -/
def But (vs : List Nat) (σ σ' : St) : Prop := σ'.length = σ.length ∧ ∀ j : Nat, j ∉ vs → σ'[j]? = σ[j]?
theorem But.refl {vs : List Nat} {σ : St} : But vs σ σ := ⟨rfl, fun _ _ => rfl⟩
theorem But.trans {vs : List Nat} {σ σ' σ'' : St} (a : But vs σ σ') (b : But vs σ' σ'') : But vs σ σ'' := ⟨b.1.trans a.1, fun j hj => (b.2 j hj).trans (a.2 j hj)⟩
theorem But.set {vs : List Nat} {σ : St} {i : Nat} {x : Option V} (h : i ∈ vs) : But vs σ (σ.set i x) := ⟨List.length_set .., fun j hj => List.getElem?_set_ne (fun (z : i = j) => hj (by rw [← z]; exact h))⟩
def tG (K : PySem.W.Frag) (cm : Cm) (vs : List Nat) (m : MG) : TG := fun v σ H Q => ∃ ρ h sw w s h', RelH K cm ρ h H ∧ RelS K ρ H sw σ ∧ Rel K ρ H w v ∧ m w sw h = .ok s h' ∧ ∀ ρ' H' σ', But vs σ σ' → Le K ρ H ρ' H' → RelH K cm ρ' h' H' → RelS K ρ' H' s σ' → Q σ' H'
abbrev RE (X : Cx) (cm : Cm) (e : Expr) (m : ME) : Prop := PE X e (tE X.K cm m)
abbrev RT (X : Cx) (cm : Cm) (e : Expr) (m : MT) : Prop := PT X e (tT X.K cm m)
abbrev RW (X : Cx) (cm : Cm) (e : Expr) (m : MT) : Prop := PW X e (tT X.K cm m)
abbrev RA (X : Cx) (cm : Cm) (es : List Expr) (m : MA) : Prop := PA X es (tA X.K cm m)
abbrev RS (X : Cx) (cm : Cm) (st : Stmt) (m : MS) : Prop := PS X st (tS X.K cm m)
abbrev RSs (X : Cx) (cm : Cm) (st : List Stmt) (m : MS) : Prop := PSs X st (tS X.K cm m)
abbrev RG (X : Cx) (cm : Cm) (vs : List Nat) (tg : Expr) (m : MG) : Prop := PG X tg (tG X.K cm vs m)
theorem peM {X : Cx} {e : Expr} {t t' : TE} (p : PE X e t) (f : ∀ σ H Q, t' σ H Q → t σ H Q) : PE X e t' := ⟨fun pins s σ H Q I q => p.run pins s σ H Q I (f σ H Q q)⟩
theorem ptM {X : Cx} {e : Expr} {t t' : TT} (p : PT X e t) (f : ∀ σ H Q, t' σ H Q → t σ H Q) : PT X e t' := ⟨fun pins s σ H Q I q => p.run pins s σ H Q I (f σ H Q q)⟩
theorem pwM {X : Cx} {e : Expr} {t t' : TT} (p : PW X e t) (f : ∀ σ H Q, t' σ H Q → t σ H Q) : PW X e t' := ⟨fun wh pins s σ H Q I q => p.run wh pins s σ H Q I (f σ H Q q)⟩
theorem paM {X : Cx} {e : List Expr} {t t' : TA} (p : PA X e t) (f : ∀ σ H Q, t' σ H Q → t σ H Q) : PA X e t' := ⟨fun pos pins s σ H Q I q => p.run pos pins s σ H Q I (f σ H Q q)⟩
theorem psM {X : Cx} {e : Stmt} {t t' : TS} (p : PS X e t) (f : ∀ D σ H, t' D σ H → t D σ H) : PS X e t' := ⟨fun pins s σ H D I q => p.run pins s σ H D I (f D σ H q)⟩
theorem pssM {X : Cx} {e : List Stmt} {t t' : TS} (p : PSs X e t) (f : ∀ D σ H, t' D σ H → t D σ H) : PSs X e t' := ⟨fun pins s σ H D I q => p.run pins s σ H D I (f D σ H q)⟩
theorem pgM {X : Cx} {e : Expr} {t t' : TG} (p : PG X e t) (f : ∀ v σ H Q, t' v σ H Q → t v σ H Q) : PG X e t' := ⟨fun pins s σ H v u Q I r q => p.run pins s σ H v u Q I r (f v σ H Q q)⟩
end EL
namespace EL
open PySem PySem.Spec L2
open PyProof.Rows hiding St
def lim : Nat := 16777216
theorem lim_eq : lim = sizeLine := sizeLine_eq.symm
def mVar (i : Nat) : ME := fun sw h => match sw[i]? with
  | some (some w) => .ok w h
  | _ => .no
def mC (w : W) : ME := fun _ h => .ok w h
def mBin (f : W → W → M W) (a b : ME) : ME := fun sw => bnd (a sw) fun x => bnd (b sw) fun y => f x y
def mUn (f : W → M W) (a : ME) : ME := fun sw => bnd (a sw) f
def aNil : MA := fun _ => rtn []
def aCons (a : ME) (r : MA) : MA := fun sw => bnd (a sw) fun x => bnd (r sw) fun xs => rtn (x :: xs)
def mTup (a : MA) : ME := fun sw => bnd (a sw) fun xs => if xs.length ≤ lim then rtn (.tup xs) else bad
def alloc (o : O) : M W := fun h => .ok (.ref h.length) (h ++ [o])
def mLst (a : MA) : ME := fun sw => bnd (a sw) fun xs => if xs.length ≤ lim then alloc (.lst xs) else bad
def mCall (f : List W → M W) (a : MA) : ME := fun sw => bnd (a sw) f
def tVal (a : ME) : MT := fun sw => bnd (a sw) fun x => match x with
  | .bl b => rtn b
  | _ => bad
def tAnd (a b : MT) : MT := fun sw => bnd (a sw) fun x => if x = true then b sw else rtn false
def tOr (a b : MT) : MT := fun sw => bnd (a sw) fun x => if x = true then rtn true else b sw
def tNot (a : MT) : MT := fun sw => bnd (a sw) fun x => rtn (!x)
def mAnd (a b : ME) : ME := fun sw => bnd (a sw) fun x => match x with
  | .bl true => b sw
  | .bl false => rtn (.bl false)
  | _ => bad
def mOr (a b : ME) : ME := fun sw => bnd (a sw) fun x => match x with
  | .bl true => rtn (.bl true)
  | .bl false => b sw
  | _ => bad
def mNot (a : ME) : ME := fun sw => bnd (a sw) fun x => match x with
  | .bl b => rtn (.bl (!b))
  | _ => bad
def mIf (c : MT) (a b : ME) : ME := fun sw => bnd (c sw) fun x => if x = true then a sw else b sw
def sNil : MS := fun sw => rtn (.nx sw)
def sSeq (a b : MS) : MS := fun sw => bnd (a sw) fun f => match f with
  | .nx s => b s
  | .rt w => rtn (.rt w)
  | .bk s => rtn (.bk s)
  | .ct s => rtn (.ct s)
def sIf (c : MT) (a b : MS) : MS := fun sw => bnd (c sw) fun x => if x = true then a sw else b sw
def sRet (a : ME) : MS := fun sw => bnd (a sw) fun x => rtn (.rt x)
def sExp (a : ME) : MS := fun sw => bnd (a sw) fun _ => rtn (.nx sw)
def sAsg (g : MG) (a : ME) : MS := fun sw => bnd (a sw) fun x => bnd (g x sw) fun s => rtn (.nx s)
def gNm (i : Nat) : MG := fun w sw => rtn (sw.set i (some w))
section
variable {X : Cx} {cm : Cm} {e a b c : Expr} {es rest : List Expr} {ma mb mc : ME} {mta mtb : MT} {pos : Pos}
theorem re_var (i : Nat) {x : Str} {pos : Pos} (hN : X.N[i]? = some x := by rfl) (hv : Vis X.env.scope x := by first | exact Or.inl rfl | exact Or.inr (Or.inl rfl) | exact Or.inr (Or.inr rfl)) (hd : (x == ("__debug__" : Str)) = false := by decide)
    (hcd : (x == ("__classdict__" : Str)) = false := by decide) : RE X cm (.Name x pos) (mVar i) := by
  refine peM (pe_var (i := i) hN hv hd hcd) fun σ H Q q => ?_
  obtain ⟨ρ, h, sw, w, h', rh, rs, e, k⟩ := q
  unfold mVar at e
  split at e
  · cases e
    obtain ⟨v, h1, h2⟩ := rs.2 i _ (by assumption)
    exact ⟨v, h1, k ρ H v .refl rh h2⟩
  · cases e
theorem re_tC {v : V} {w : W} (p : PE X e (tC v)) (r : ∀ ρ H, Rel X.K ρ H w v) : RE X cm e (mC w) := by
  refine peM p fun σ H Q q => ?_
  obtain ⟨ρ, h, sw, w, h', rh, rs, e, k⟩ := q
  cases e
  exact k ρ H v .refl rh (r ρ H)
theorem re_int {i : Int} {j pos} : RE X cm (.Constant (.int i) j pos) (mC (.int i)) := re_tC pe_int fun _ _ => .int i
theorem re_str {i : Str} {j pos} : RE X cm (.Constant (.str i) j pos) (mC (.str i)) := re_tC pe_str fun _ _ => .str i
theorem re_bl {i : Bool} {j pos} : RE X cm (.Constant (.bool i) j pos) (mC (.bl i)) := re_tC pe_bl fun _ _ => .bl i
theorem re_non {j pos} : RE X cm (.Constant .none j pos) (mC .non) := re_tC pe_non fun _ _ => .non
theorem re_gint {x : Str} {i : Int} {t : Tok} {pos : Pos} (hm : X.mg x = some (.int i t)) (hg : Gl X x := by rfl) (hd : (x == ("__debug__" : Str)) = false := by decide) : RE X cm (.Name x pos) (mC (.int i)) := re_tC (pe_glob (v := .int i) hg hm ⟨t, rfl⟩ hd) fun _ _ => .int i
theorem re_gstr {x : Str} {i : Str} {t : Tok} {pos : Pos} (hm : X.mg x = some (.str i t)) (hg : Gl X x := by rfl) (hd : (x == ("__debug__" : Str)) = false := by decide) : RE X cm (.Name x pos) (mC (.str i)) := re_tC (pe_glob (v := .str i) hg hm ⟨t, rfl⟩ hd) fun _ _ => .str i
/-- a two-place operation by values -/
def OpW (K : PySem.W.Frag) (cm : Cm) (r : R2) (f : W → W → M W) : Prop :=
  ∀ ρ h H x y x' y' z h' Q, RelH K cm ρ h H → Rel K ρ H x x' → Rel K ρ H y y' → f x y h = .ok z h' → KE K cm ρ H z h' Q → r x' y' H Q
theorem op_tE {r : R2} {f : W → W → M W} (ow : OpW X.K cm r f) {σ : St} {H : Hp} {Q : VK} (q : tE X.K cm (mBin f ma mb) σ H Q) : tOp r (tE X.K cm ma) (tE X.K cm mb) σ H Q := by
  obtain ⟨ρ, h, sw, w, h', rh, rs, e, k⟩ := q
  obtain ⟨x, h1, e1, e2⟩ := bnd_ok e
  obtain ⟨y, h2, e3, e4⟩ := bnd_ok e2
  refine ⟨ρ, h, sw, x, h1, rh, rs, e1, fun ρ1 H1 x' l1 rh1 rx => ?_⟩
  refine ⟨ρ1, h1, sw, y, h2, rh1, rs.mono l1, e3, fun ρ2 H2 y' l2 rh2 ry => ?_⟩
  exact ow ρ2 h2 H2 x y x' y' w h' Q rh2 (rx.mono l2) ry e4 fun ρ3 H3 v l3 => k ρ3 H3 v (l1.trans (l2.trans l3))
theorem re_op {op : Operator} {r : R2} {f : W → W → M W} (ho : OpR X (binaryOp op) r) (ow : OpW X.K cm r f) (ha : RE X cm a ma) (hb : RE X cm b mb) : RE X cm (.BinOp a op b pos) (mBin f ma mb) :=
  peM (pe_op ho ha hb) fun _ _ _ => op_tE ow
theorem re_cmp {op : CmpOp} {r : R2} {f : W → W → M W} (ho : OpR X (compareOp op) r) (ow : OpW X.K cm r f) (ha : RE X cm a ma) (hb : RE X cm b mb) (hm : behindInMarks op b = false := by first | exact nomark _ | rfl) : RE X cm (.Compare a [op] [b] pos) (mBin f ma mb) :=
  peM (pe_cmpR ho ha hb hm) fun _ _ _ => op_tE ow
theorem test_of {t : TE} {m : ME} {σ : St} {H : Hp} {Q : Bool → Hp → Prop} (f : ∀ Q', tE X.K cm m σ H Q' → t σ H Q') (q : tT X.K cm (tVal m) σ H Q) : tTest t σ H Q := by
  obtain ⟨ρ, h, sw, w, h', rh, rs, e, k⟩ := q
  obtain ⟨x, h1, e1, e2⟩ := bnd_ok e
  refine f _ ⟨ρ, h, sw, x, h1, rh, rs, e1, fun ρ1 H1 x' l1 rh1 rx => ?_⟩
  cases x with
  | bl b =>
    cases rx
    cases e2
    exact ⟨_, rfl, k ρ1 H1 l1 rh1⟩
  | _ => cases e2
theorem rt_cmp {op : CmpOp} {r : R2} {f : W → W → M W} (ho : OpR X (compareOp op) r) (ow : OpW X.K cm r f) (ha : RE X cm a ma) (hb : RE X cm b mb) (hm : behindInMarks op b = false := by first | exact nomark _ | rfl) : RT X cm (.Compare a [op] [b] pos) (tVal (mBin f ma mb)) :=
  ptM (pt_cmpR ho ha hb hm) fun σ H Q q => test_of (fun Q' => op_tE ow) q
/-- a value's truth -/
def tru (x : W) : M Bool := fun h => match x with
  | .non => .ok false h
  | .bl b => .ok b h
  | .int i => .ok (i != 0) h
  | .str y => if y.length ≤ lim then .ok ((y.length : Int) != 0) h else .no
  | .tup xs => .ok (!xs.isEmpty) h
  | .rol xs => .ok (!xs.isEmpty) h
  | .ref i => match h[i]? with
    | some (.lst xs) => .ok (!xs.isEmpty) h
    | some (.dK kvs) => .ok (!kvs.isEmpty) h
    | _ => .no
def tTru (a : ME) : MT := fun sw => bnd (a sw) tru
theorem emp_of {K : PySem.W.Frag} {ρ : List Addr} {H : Hp} {ws : List W} {vs : List V} (r : Rels K ρ H ws vs) : ws.isEmpty = vs.isEmpty := by
  cases r <;> rfl
theorem tru_of {K : PySem.W.Frag} {ρ : List Addr} {h h' : Hw} {H : Hp} {x : W} {v : V} {k : Bool} (rh : RelH K cm ρ h H) (r : Rel K ρ H x v) (e : tru x h = .ok k h') : TruV K v H k ∧ h' = h := by
  cases r with
  | non => cases e; exact ⟨rfl, rfl⟩
  | bl b => cases e; exact ⟨rfl, rfl⟩
  | int i => cases e; exact ⟨rfl, rfl⟩
  | str y =>
    have e' : (if y.length ≤ lim then R.ok ((y.length : Int) != 0) h else R.no) = .ok k h' := e
    split at e'
    · cases e'
      exact ⟨⟨by rw [← lim_eq]; assumption, rfl⟩, rfl⟩
    · cases e'
  | tup hq r => cases e; exact ⟨.inr (.inl ⟨_, hq, by rw [emp_of r]⟩), rfl⟩
  | rol hq r => cases e; exact ⟨.inl ⟨_, hq.sq, by rw [emp_of r]⟩, rfl⟩
  | @ref i a hi =>
    obtain ⟨o, ho, ro⟩ := rh.at (w := .non) hi
    have e' : (match h[i]? with
      | some (.lst xs) => R.ok (!xs.isEmpty) h
      | some (.dK kvs) => R.ok (!kvs.isEmpty) h
      | _ => R.no) = .ok k h' := e
    rw [ho] at e'
    cases o with
    | lst xs =>
      obtain ⟨vs, e1, q⟩ := ro
      cases e'
      exact ⟨.inl ⟨vs, .of e1, by rw [emp_of q]⟩, rfl⟩
    | dK kvs =>
      obtain ⟨kv, e1, e2, q⟩ := ro
      cases e'
      refine ⟨.inr (.inr ⟨kv, e1, ?_⟩), rfl⟩
      cases kvs <;> cases kv <;> first | rfl | cases e2
    | dF kvs => cases e'
    | _ => cases e'
theorem rt_tru (ha : RE X cm a ma) (he : ∀ whole, isTrue a X.env whole = (do let v ← whole; standAt a.pos; holding [v] (truthy v)) := by intro _; rfl) : RT X cm a (tTru ma) := by
  refine ptM (pt_truth ha he) fun σ H Q q => ?_
  obtain ⟨ρ, h, sw, w, h', rh, rs, e, k⟩ := q
  obtain ⟨x, h1, e1, e2⟩ := bnd_ok e
  refine ⟨ρ, h, sw, x, h1, rh, rs, e1, fun ρ1 H1 x' l1 rh1 rx => ?_⟩
  obtain ⟨t, eh⟩ := tru_of rh1 rx e2
  subst eh
  exact ⟨_, t, k ρ1 H1 l1 rh1⟩
theorem rt_and1 (ha : RT X cm a mta) : RW X cm (.BoolOp .And [a] pos) mta := pw_and1 ha
theorem rt_or1 (ha : RT X cm a mta) : RW X cm (.BoolOp .Or [a] pos) mta := pw_or1 ha
theorem rt_and (ha : RT X cm a mta) (hb : RW X cm (.BoolOp .And (b :: rest) pos) mtb) : RW X cm (.BoolOp .And (a :: b :: rest) pos) (tAnd mta mtb) := by
  refine pwM (pw_and ha hb) fun σ H Q q => ?_
  obtain ⟨ρ, h, sw, w, h', rh, rs, e, k⟩ := q
  obtain ⟨x, h1, e1, e2⟩ := bnd_ok e
  refine ⟨ρ, h, sw, x, h1, rh, rs, e1, fun ρ1 H1 l1 rh1 => ?_⟩
  cases x with
  | true => exact iteT ⟨ρ1, h1, sw, w, h', rh1, rs.mono l1, e2, fun ρ2 H2 l2 => k ρ2 H2 (l1.trans l2)⟩
  | false =>
    cases e2
    exact iteF (k ρ1 H1 l1 rh1)
theorem rt_or (ha : RT X cm a mta) (hb : RW X cm (.BoolOp .Or (b :: rest) pos) mtb) : RW X cm (.BoolOp .Or (a :: b :: rest) pos) (tOr mta mtb) := by
  refine pwM (pw_or ha hb) fun σ H Q q => ?_
  obtain ⟨ρ, h, sw, w, h', rh, rs, e, k⟩ := q
  obtain ⟨x, h1, e1, e2⟩ := bnd_ok e
  refine ⟨ρ, h, sw, x, h1, rh, rs, e1, fun ρ1 H1 l1 rh1 => ?_⟩
  cases x with
  | false => exact iteF ⟨ρ1, h1, sw, w, h', rh1, rs.mono l1, e2, fun ρ2 H2 l2 => k ρ2 H2 (l1.trans l2)⟩
  | true =>
    cases e2
    exact iteT (k ρ1 H1 l1 rh1)
theorem rt_not (ha : RT X cm a mta) : RT X cm (.UnaryOp .Not a pos) (tNot mta) := by
  refine ptM (pt_not ha) fun σ H Q q => ?_
  obtain ⟨ρ, h, sw, w, h', rh, rs, e, k⟩ := q
  obtain ⟨x, h1, e1, e2⟩ := bnd_ok e
  cases e2
  exact ⟨ρ, h, sw, x, h', rh, rs, e1, fun ρ1 H1 l1 rh1 => k ρ1 H1 l1 rh1⟩
theorem rw_t (h : RW X cm e mta) : RT X cm e mta := PW.pt h
theorem re_one {op} (h : RE X cm a ma) : RE X cm (.BoolOp op [a] pos) ma := pe_one h
theorem re_and (ha : RE X cm a ma) (hb : RE X cm (.BoolOp .And (b :: rest) pos) mb) : RE X cm (.BoolOp .And (a :: b :: rest) pos) (mAnd ma mb) := by
  refine peM (pe_and ha hb) fun σ H Q q => ?_
  obtain ⟨ρ, h, sw, w, h', rh, rs, e, k⟩ := q
  obtain ⟨x, h1, e1, e2⟩ := bnd_ok e
  refine ⟨ρ, h, sw, x, h1, rh, rs, e1, fun ρ1 H1 x' l1 rh1 rx => ?_⟩
  cases x with
  | bl y =>
    cases rx
    cases y with
    | true => exact ⟨true, rfl, iteT ⟨ρ1, h1, sw, w, h', rh1, rs.mono l1, e2, fun ρ2 H2 v l2 => k ρ2 H2 v (l1.trans l2)⟩⟩
    | false =>
      cases e2
      exact ⟨false, rfl, iteF (k ρ1 H1 _ l1 rh1 (.bl false))⟩
  | _ => cases e2
theorem re_or (ha : RE X cm a ma) (hb : RE X cm (.BoolOp .Or (b :: rest) pos) mb) : RE X cm (.BoolOp .Or (a :: b :: rest) pos) (mOr ma mb) := by
  refine peM (pe_or ha hb) fun σ H Q q => ?_
  obtain ⟨ρ, h, sw, w, h', rh, rs, e, k⟩ := q
  obtain ⟨x, h1, e1, e2⟩ := bnd_ok e
  refine ⟨ρ, h, sw, x, h1, rh, rs, e1, fun ρ1 H1 x' l1 rh1 rx => ?_⟩
  cases x with
  | bl y =>
    cases rx
    cases y with
    | false => exact ⟨false, rfl, iteF ⟨ρ1, h1, sw, w, h', rh1, rs.mono l1, e2, fun ρ2 H2 v l2 => k ρ2 H2 v (l1.trans l2)⟩⟩
    | true =>
      cases e2
      exact ⟨true, rfl, iteT (k ρ1 H1 _ l1 rh1 (.bl true))⟩
  | _ => cases e2
theorem re_not (ha : RE X cm a ma) : RE X cm (.UnaryOp .Not a pos) (mNot ma) := by
  refine peM (pe_not ha) fun σ H Q q => ?_
  obtain ⟨ρ, h, sw, w, h', rh, rs, e, k⟩ := q
  obtain ⟨x, h1, e1, e2⟩ := bnd_ok e
  refine ⟨ρ, h, sw, x, h1, rh, rs, e1, fun ρ1 H1 x' l1 rh1 rx => ?_⟩
  cases x with
  | bl y =>
    cases rx
    cases e2
    exact ⟨y, rfl, k ρ1 H1 _ l1 rh1 (.bl _)⟩
  | _ => cases e2
theorem re_if (hc : RT X cm c mta) (ha : RE X cm a ma) (hb : RE X cm b mb) : RE X cm (.IfExp c a b pos) (mIf mta ma mb) := by
  refine peM (pe_ifExp hc ha hb) fun σ H Q q => ?_
  obtain ⟨ρ, h, sw, w, h', rh, rs, e, k⟩ := q
  obtain ⟨x, h1, e1, e2⟩ := bnd_ok e
  refine ⟨ρ, h, sw, x, h1, rh, rs, e1, fun ρ1 H1 l1 rh1 => ?_⟩
  cases x with
  | true => exact iteT ⟨ρ1, h1, sw, w, h', rh1, rs.mono l1, e2, fun ρ2 H2 v l2 => k ρ2 H2 v (l1.trans l2)⟩
  | false => exact iteF ⟨ρ1, h1, sw, w, h', rh1, rs.mono l1, e2, fun ρ2 H2 v l2 => k ρ2 H2 v (l1.trans l2)⟩
theorem ra_nil : RA X cm [] aNil := by
  refine paM pa_nil fun σ H Q q => ?_
  obtain ⟨ρ, h, sw, w, h', rh, rs, e, k⟩ := q
  cases e
  exact k ρ H [] .refl rh .nil
theorem ra_cons {mr : MA} (ha : RE X cm e ma) (hr : RA X cm es mr) (hs : starEach (e :: es) X.env = (false, eval e X.env) :: starEach es X.env := by rfl) : RA X cm (e :: es) (aCons ma mr) := by
  refine paM (pa_cons ha hr hs) fun σ H Q q => ?_
  obtain ⟨ρ, h, sw, w, h', rh, rs, e, k⟩ := q
  obtain ⟨x, h1, e1, e2⟩ := bnd_ok e
  obtain ⟨y, h2, e3, e4⟩ := bnd_ok e2
  cases e4
  refine ⟨ρ, h, sw, x, h1, rh, rs, e1, fun ρ1 H1 x' l1 rh1 rx => ?_⟩
  refine ⟨ρ1, h1, sw, y, h', rh1, rs.mono l1, e3, fun ρ2 H2 y' l2 rh2 ry => ?_⟩
  exact k ρ2 H2 _ (l1.trans l2) rh2 (.cons (rx.mono l2) ry)
/-- a new tuple -/
theorem new_tup {K : PySem.W.Frag} {ρ : List Addr} {h : Hw} {H : Hp} {ws : List W} {vs : List V} {Q : VK} {p : Addr} (rh : RelH K cm ρ h H) (r : Rels K ρ H ws vs) (hp : H p = none) (k : KE K cm ρ H (.tup ws) h Q) : Q (.ref p) (upd H p (.tup vs)) :=
  k ρ _ _ (le_new hp) (rh.new hp) (.tup (.of upd_same) (r.mono (le_new hp)))
/-- a new list -/
theorem new_lst {K : PySem.W.Frag} {ρ : List Addr} {h : Hw} {H : Hp} {ws : List W} {vs : List V} {Q : VK} {p : Addr} (rh : RelH K cm ρ h H) (r : Rels K ρ H ws vs) (hp : H p = none) (k : KE K cm ρ H (.ref h.length) (h ++ [.lst ws]) Q) : Q (.ref p) (upd H p (.lst vs)) :=
  k (ρ ++ [p]) _ _ ((le_new hp).trans (le_app p)) (rh.push hp ⟨vs, upd_same, r.mono ((le_new hp).trans (le_app p))⟩) (.ref (push_at rh))
theorem re_tup {mr : MA} {x1} (ha : RA X cm es mr) : RE X cm (.Tuple es x1 pos) (mTup mr) := by
  refine peM (pe_tup ha) fun σ H Q q => ?_
  obtain ⟨ρ, h, sw, w, h', rh, rs, e, k⟩ := q
  obtain ⟨x, h1, e1, e2⟩ := bnd_ok e
  refine ⟨ρ, h, sw, x, h1, rh, rs, e1, fun ρ1 H1 x' l1 rh1 rx => ?_⟩
  split at e2
  · cases e2
    exact ⟨by rw [← rx.length, ← lim_eq]; assumption, fun p hp => new_tup rh1 rx hp fun ρ2 H2 v l2 => k ρ2 H2 v (l1.trans l2)⟩
  · cases e2
theorem re_lst {mr : MA} (ha : RA X cm es mr) : RE X cm (.List es pos) (mLst mr) := by
  refine peM (pe_lst ha) fun σ H Q q => ?_
  obtain ⟨ρ, h, sw, w, h', rh, rs, e, k⟩ := q
  obtain ⟨x, h1, e1, e2⟩ := bnd_ok e
  refine ⟨ρ, h, sw, x, h1, rh, rs, e1, fun ρ1 H1 x' l1 rh1 rx => ?_⟩
  split at e2
  · cases e2
    exact ⟨by rw [← rx.length, ← lim_eq]; assumption, fun p hp => new_lst rh1 rx hp fun ρ2 H2 v l2 => k ρ2 H2 v (l1.trans l2)⟩
  · cases e2
end
/-- what a def promises: it does what m does -/
def spM (K : PySem.W.Frag) (cm : Cm) (m : List W → M W) : Sp := fun vs H Q _ => ∃ ρ h ws w h', RelH K cm ρ h H ∧ Rels K ρ H ws vs ∧ m ws h = .ok w h' ∧ KE K cm ρ H w h' Q
section
variable {X : Cx} {cm : Cm} {e a b c : Expr} {es rest : List Expr} {ma mb mc : ME} {mr : MA} {mta mtb : MT} {pos p : Pos} {k : Nat} {f : Addr} {fd : FuncData} {ps : List Str} {x : Str} {m : List W → M W} {n : Nat}
theorem re_call (F : FnOk X.prog X.w X.K X.mg X.base CX0 k f fd ps (spM X.K cm m)) (hr : Room k X.A) (hm : X.mg x = some (.ref f)) (hk : PySem.W.keepIn X.K (.ref f) = true) (hb : Binds X.K fd ps []) (ha : RA X cm (e :: es) mr) (hg : Gl X x := by rfl)
    (hdb : (x == ("__debug__" : Str)) = false := by decide) (he : starEach (e :: es) X.env = (false, eval e X.env) :: starEach es X.env := by rfl) (hpl : (backTo pos (starEach es X.env)).any (·.1) = false := by rfl) : RE X cm (.Call (.Name x p) (e :: es) [] pos) (mCall m mr) := by
  refine peM (pe_call F hr hg hm hk hb .nil pass0 ha hdb he hpl) fun σ H Q q => ?_
  obtain ⟨ρ, h, sw, w, h', rh, rs, e, k⟩ := q
  obtain ⟨ws, h1, e1, e2⟩ := bnd_ok e
  refine ⟨ρ, h, sw, ws, h1, rh, rs, e1, fun ρ1 H1 vs l1 rh1 rx => ?_⟩
  refine ⟨ρ1, h1, ws, w, h', rh1, by rw [List.append_nil]; exact rx, e2, fun ρ2 H2 v l2 => k ρ2 H2 v (l1.trans l2)⟩
/-- a built-in by values -/
def CallW (K : PySem.W.Frag) (cm : Cm) (r : List V → Hp → VK → Prop) (f : List W → M W) : Prop :=
  ∀ ρ h H ws vs z h' Q, RelH K cm ρ h H → Rels K ρ H ws vs → f ws h = .ok z h' → KE K cm ρ H z h' Q → r vs H Q
theorem cb_tE {r : List V → Hp → VK → Prop} {f : List W → M W} (cw : CallW X.K cm r f) {σ : St} {H : Hp} {Q : VK} (q : tE X.K cm (mCall f mr) σ H Q) : tCB r (tA X.K cm mr) σ H Q := by
  obtain ⟨ρ, h, sw, w, h', rh, rs, e, k⟩ := q
  obtain ⟨ws, h1, e1, e2⟩ := bnd_ok e
  refine ⟨ρ, h, sw, ws, h1, rh, rs, e1, fun ρ1 H1 vs l1 rh1 rx => ?_⟩
  exact cw ρ1 h1 H1 ws vs w h' Q rh1 rx e2 fun ρ2 H2 v l2 => k ρ2 H2 v (l1.trans l2)
theorem re_callB {id : String} {r : List V → Hp → VK → Prop} {f : List W → M W} (hc : CallR X (.builtin id) r) (cw : CallW X.K cm r f) (hm : X.mg x = none) (ha : RA X cm (e :: es) mr) (hv : bootBuiltins x = some (.builtin id) := by decide +kernel) (hg : Gl X x := by rfl) (hn : x ≠ "__name__" := by decide) (hdb : (x == ("__debug__" : Str)) = false := by decide)
    (he : starEach (e :: es) X.env = (false, eval e X.env) :: starEach es X.env := by rfl) (hpl : (backTo pos (starEach es X.env)).any (·.1) = false := by rfl) : RE X cm (.Call (.Name x p) (e :: es) [] pos) (mCall f mr) :=
  peM (pe_callB hc hg hm hv ha hn hdb he hpl) fun _ _ _ => cb_tE cw
theorem re_callTy {T : String} {r : List V → Hp → VK → Prop} {f : List W → M W} (hc : CallR X (.type T) r) (cw : CallW X.K cm r f) (hm : X.mg x = none) (ha : RA X cm (e :: es) mr) (hv : bootBuiltins x = some (.type T) := by decide +kernel) (hg : Gl X x := by rfl) (hn : x ≠ "__name__" := by decide) (hdb : (x == ("__debug__" : Str)) = false := by decide)
    (he : starEach (e :: es) X.env = (false, eval e X.env) :: starEach es X.env := by rfl) (hpl : (backTo pos (starEach es X.env)).any (·.1) = false := by rfl) : RE X cm (.Call (.Name x p) (e :: es) [] pos) (mCall f mr) :=
  peM (pe_callTy hc hg hm hv ha hn hdb he hpl) fun _ _ _ => cb_tE cw
end
end EL
namespace EL
open PySem PySem.Spec L2
open PyProof.Rows hiding St
open PySem.Sem (wp)
open PySem.AutoSeq1 (wpAny_loadPart')
theorem el_enumT_new (l : Addr) (items : Array Value) (n : Nat) (dct : Option Addr) (sl : Array (Option Value)) :
    Meets (Builtin.«enumerate.__new__» ⟨[.type "enumerate", .ref l], []⟩) (fun _ R s => s.heap.get? l = some { cls := .type "tuple", dict := dct, data := .seq items n, slots := sl } ∧
      R (.ok (.ret (.ref (s.heap.push { cls := .type "tuple_iterator", data := .fields #[.ref l, .int 0 0] }).objs.size)))
        { s with heap := (s.heap.push { cls := .type "tuple_iterator", data := .fields #[.ref l, .int 0 0] }).push { cls := .type "enumerate", data := .fields #[.none, .bool false, .ref s.heap.objs.size, rawInt 0, .none, .none] } }) :=
  .of_wp fun prog w A R s h => by
    obtain ⟨hp, g, d, tk, os⟩ := s; obtain ⟨hl, h⟩ := h
    have hsub := sub_enumerate
    have hL : Heap.IsTuple (Shared.heap ⟨hp, g, d, tk, os⟩) l items := ⟨_, hl, rfl, n, rfl⟩
    wp_walk using wpAny_loadPart' hl
    refine wpAny_stack_any fun st => wpAny_pure ?_
    split
    · rename_i c _ _ _ _ _
      cases (c == Value.type "enumerate")
      · wp_walk using wpAny_loadPart' hl, wpAny_pyIter_tuple hL
        exact ⟨_, rfl, h⟩
      · wp_walk using wpAny_loadPart' hl, wpAny_pyIter_tuple hL
        exact ⟨_, rfl, h⟩
    · wp_walk using wpAny_loadPart' hl, wpAny_pyIter_tuple hL
      exact ⟨_, rfl, h⟩
section
variable {prog : Program} {w : World} {A : Around} {E : Value → Shared → Prop} {s : Shared}
theorem el_enumT {l : Addr} {items : Array Value} {Q : Value → Shared → Prop} (hL : s.heap.IsTuple l items)
    (h : ∀ h', IsEnum h' (s.heap.objs.size + 1) s.heap.objs.size 0 .none → h'.IsTupleIter s.heap.objs.size l 0 → h'.objs.size = s.heap.objs.size + 2 →
      (∀ b o, s.heap.get? b = some o → h'.get? b = some o) → Q (.ref (s.heap.objs.size + 1)) { s with heap := h' }) :
    wpAny (model prog w) A (call (.type "enumerate") [.ref l]) Q E s := by
  obtain ⟨⟨c, dct, dt, sl⟩, hl, hc, n, hd⟩ := hL
  replace hc : c = .type "tuple" := hc
  replace hd : dt = .seq items n := hd
  subst hc hd
  refine callType_new F.called_enumerate (by decide) (F.typeCall_enumerate_1 _) (F.newCall_enumerate_1 _) (fun obj => F.args_object_init_2 obj _) F.entry_enumerate_new
    (el_enumT_new l items n dct sl) ⟨hl, ?_⟩
  have hz : (s.heap.push { cls := .type "tuple_iterator", data := .fields #[.ref l, .int 0 0] }).objs.size = s.heap.objs.size + 1 := Heap.size_push ..
  show _ ∧ _
  rw [hz]
  have he : IsEnum ((s.heap.push { cls := .type "tuple_iterator", data := .fields #[.ref l, .int 0 0] }).push
      { cls := .type "enumerate", data := .fields #[.none, .bool false, .ref s.heap.objs.size, rawInt 0, .none, .none] }) (s.heap.objs.size + 1) s.heap.objs.size 0 .none := by
    have := Heap.get?_push_size (s.heap.push { cls := .type "tuple_iterator", data := .fields #[.ref l, .int 0 0] })
      (o := { cls := .type "enumerate", data := .fields #[.none, .bool false, .ref s.heap.objs.size, rawInt 0, .none, .none] }) rfl
    rw [hz] at this; exact this
  refine ⟨⟨_, he, rfl⟩, h _ he ⟨_, Heap.get?_push_of_some _ (Heap.get?_push_size _ rfl), rfl, rfl⟩ (by rw [Heap.size_push, hz]) fun b o x => Heap.get?_push_of_some _ (Heap.get?_push_of_some _ x)⟩
end
/-- the tuple at a, each item in a new pair -/
def IteT (K : PySem.W.Frag) (a : Addr) : It :=
  ⟨fun i H => ∃ (xs : List V) (x : V), SqT K H a xs ∧ xs[i]? = some x, fun i H v H' => ∃ T x, v = .ref T ∧ H T = none ∧ H' = upd H T (.tup [.int (i : Nat), x]) ∧ ∀ xs, SqT K H a xs → xs[i]? = some x, fun i H => ∃ xs : List V, SqT K H a xs ∧ xs.length ≤ i⟩
theorem turn_enumT {P : Program} {w : World} {K : PySem.W.Frag} {elts : List Expr} {kk : Nat} {tpos : Pos} (a e it : Addr) (hai : a ≠ it) :
    Turn P w K (.Tuple elts kk tpos) (IteT K a) [e, it] e (fun i h => (∃ old, IsEnum h e it ((i : Nat) : Int) old) ∧ h.IsTupleIter it a i ∧ e ≠ it ∧ e ≠ a) where
  mem := by simp
  obj := fun i h st b hb => by
    obtain ⟨⟨old, he⟩, ⟨o, ho, hc, hd⟩, _⟩ := st
    have e' : b = e ∨ b = it := by simpa using hb
    rcases e' with z | z
    · rw [z]; exact ⟨_, he, fun v q => nomatch q⟩
    · rw [z]; exact ⟨o, ho, fun v q => by rw [hd] at q; cases q⟩
  keep := fun i h h' st k => let ⟨⟨old, he⟩, hi, hne, ha⟩ := st; ⟨⟨old, k e (by simp) _ he⟩, hi.at fun o q => k it (by simp) o q, hne, ha⟩
  item := by
    intro X hP hw hK hc i pins s σ H E I hf st hg
    subst hP hw hK
    obtain ⟨⟨old, he⟩, hit, hne, hea⟩ := st
    obtain ⟨xs, x, hq, hx⟩ := hg
    obtain ⟨its, rv, p, hz⟩ := I.tuple hq
    obtain ⟨u, hu, ru⟩ := rv.get hx
    have hel : e < s.heap.objs.size := Heap.lt_size he
    have hil : it < s.heap.objs.size := by obtain ⟨_, q, _⟩ := hit; exact Heap.lt_size q
    have D := Draws.tuple (prog := X.prog) (w := X.w) (A := X.A.in1) (I.ok.hd hc) it a hai its.toArray
    have hlt : i < its.toArray.size := by
      have := (List.getElem?_eq_some_iff.mp hu).1
      simpa using this
    refine wpAny_pyNext_enum_itemC D he ⟨hit, (show s.heap.IsTuple a its.toArray from p)⟩ hlt hne (by simp [hne, hea]) fun x' h' tk hP ho hst' hT hsz hk => ?_
    have hx' : x' = u := by
      have q : its.toArray[i]? = some u := by simpa using hu
      exact Option.some.inj (hP.symm.trans q)
    subst hx'
    have hit' := hst'.1
    refine ⟨_, rfl, wpAny_letOwnedTupleGo_enum (s := { s with heap := h', toks := tk + 1 }) ho fun h'' he' sb => ?_⟩
    have hT2 : h''.get? s.heap.objs.size = some { cls := .type "tuple", data := .seq #[.int i tk, x'] } := (sb.2 _ (Nat.ne_of_gt hel)).trans hT
    have new : ObjOk X.prog X.w (upd H s.heap.objs.size (.tup [.int (i : Nat), x])) h'' s.heap.objs.size (.tup [.int (i : Nat), x]) :=
      ⟨by show 2 ≤ sizeLine; decide, [.int i tk, x'], .cons ⟨_, rfl⟩ (.cons ru .nil), ⟨_, hT2, rfl, _, rfl⟩⟩
    have I1 : Inv X pins σ (upd H s.heap.objs.size (.tup [.int (i : Nat), x])) { s with heap := h'', toks := tk + 1 } :=
      I.turnedNew (ch := [e, it]) (fun b ob hb q => (sb.2 b (fun z => hb (by simp [z]))).trans (hk b ob (fun z => hb (by simp [z])) (fun z => hb (by simp [z])) q)) hf (Nat.le_refl _) new
    refine ⟨.ref s.heap.objs.size, _, I1, rfl, ⟨_, x, rfl, I.hok.fresh (Nat.le_refl _), rfl, fun ys hy => by rw [I.tuple_inj hy hq]; exact hx⟩, ⟨⟨x', ?_⟩, hit'.at fun o q => (sb.2 it (Ne.symm hne)).trans q, hne, hea⟩, fun b hb => ?_⟩
    · have e1 : ((i + 1 : Nat) : Int) = (i : Int) + 1 := by omega
      rw [e1]; exact he'
    · have hb' : b < s.heap.objs.size := by
        have e' : b = e ∨ b = it := by simpa using hb
        rcases e' with z | z
        · rw [z]; exact hel
        · rw [z]; exact hil
      rw [upd_ne (Nat.ne_of_lt hb')]
      exact (hf b hb).1
  done := by
    intro X hP hw hK hc i pins s σ H E I hf st hg
    subst hP hw hK
    obtain ⟨⟨old, he⟩, hit, hne, hea⟩ := st
    obtain ⟨xs, hq, hx⟩ := hg
    obtain ⟨its, rv, p, hz⟩ := I.tuple hq
    obtain ⟨f0, f1, f2, f3, f4, f5⟩ := hf it (by simp)
    have hl := rv.length
    have hT : s.TypeIs (.ref e) "enumerate" := ⟨_, he, rfl⟩
    unfold pyNext
    refine wpAny_bind (wpAny_attempt (wpAny_callSpecial?_slot (name := Str.ofString "__next__") hT F.slot_enumerate_next
      (wpAny_call_entry F.slot_enumerate_next hT F.entry_enumerate_next ?_ (F.args_enumerate_next_1 _))))
    show wpAny _ _ (field (.ref e) 2 >>= _) _ _ _
    refine wpAny_bind (wpAny_field he rfl (x := .ref it) rfl ?_)
    refine wpAny_bind (wpAny_nextOf_tuple_end (A := X.A.in1) (I.ok.hd hc) hit (show s.heap.IsTuple a its.toArray from p) (by simp; omega) fun h' x he' hx' => ?_)
    obtain ⟨o, ho, hc'⟩ := hx'
    refine wpAny_bind (wpAny_isInstance (T := "StopIteration") (b := true) ⟨o, ho, hc'⟩ isSubtype_stop ?_)
    exact wpAny_pure ⟨rfl, I.turned (t' := s.toks) (fun b o hb q => he' b o hb q) f0 f1 f3 f4 f5⟩
  self := fun A i s Q E st h => let ⟨⟨_, he⟩, _⟩ := st; wpAny_pyIter_enum he h
/-- enumerate(v), v a list or a tuple -/
def iEnum2 (K : PySem.W.Frag) (ta : TA) : TI := fun σ H R => ta σ H fun vs H1 => ∃ a, vs = [.ref a] ∧ ((∃ xs, SqL K H1 a xs ∧ R (Ite K a) H1) ∨ ∃ xs, SqT K H1 a xs ∧ R (IteT K a) H1)
theorem pi_enum2 {X : Cx} {e : Expr} {ta : TA} {p pos tpos : Pos} {elts : List Expr} {kk : Nat} (hg : Gl X "enumerate") (hm : X.mg "enumerate" = none) (ha : PA X [e] ta) (hs : starEach [e] X.env = [(false, eval e X.env)] := by rfl) :
    PI X (.Tuple elts kk tpos) (.Call (.Name "enumerate" p) [e] [] pos) (iEnum2 X.K ta) := by
  refine ⟨fun pins s σ H R I h => ?_⟩
  refine Call_ (ld_blt I hg hm boot_enumerate (PyProof.Rows.callWith_type1 (thn (ha.run pos pins s σ H _ I h) fun us s1 ⟨vs, H1, I1, r1, q1⟩ => ?_) hs rfl))
  obtain ⟨a, ex, q⟩ := q1
  subst ex
  cases r1 with
  | cons r rr =>
    cases rr
    cases r
    have fresh : ∀ (b : Addr), b ∈ [s1.heap.objs.size + 1, s1.heap.objs.size] → FpOk X pins H1 b := fun b hb => by
      have e' : b = s1.heap.objs.size + 1 ∨ b = s1.heap.objs.size := by simpa using hb
      have hle : s1.heap.objs.size ≤ b := by
        rcases e' with z | z
        · rw [z]; exact Nat.le_add_right _ _
        · rw [z]; exact Nat.le_refl _
      exact I1.fpOk hle (I1.hok.fresh hle)
    rcases q with ⟨xs, hq, q⟩ | ⟨xs, hq, q⟩
    · obtain ⟨its, rv, p', hz⟩ := I1.list hq
      refine call_enumerate_list p'.isList fun h' he hit hsz hk => wpAny_pyIter_enum he ?_
      have I2 : Inv X pins σ H1 { s1 with heap := h' } := I1.kept (t' := s1.toks) hk
      exact ⟨s1.heap.objs.size + 1, [s1.heap.objs.size + 1, s1.heap.objs.size], _, _, H1, rfl, I2, turn_enum a (s1.heap.objs.size + 1) s1.heap.objs.size, ⟨⟨.none, he⟩, hit, Nat.succ_ne_self _⟩, fresh, q⟩
    · obtain ⟨its, rv, p', hz⟩ := I1.tuple hq
      have hT : s1.heap.IsTuple a its.toArray := p'
      have hal : a < s1.heap.objs.size := by obtain ⟨_, q, _⟩ := hT; exact Heap.lt_size q
      refine el_enumT hT fun h' he hit hsz hk => wpAny_pyIter_enum he ?_
      have I2 : Inv X pins σ H1 { s1 with heap := h' } := I1.kept (t' := s1.toks) hk
      exact ⟨s1.heap.objs.size + 1, [s1.heap.objs.size + 1, s1.heap.objs.size], _, _, H1, rfl, I2, turn_enumT a (s1.heap.objs.size + 1) s1.heap.objs.size (Nat.ne_of_lt hal), ⟨⟨.none, he⟩, hit, Nat.succ_ne_self _, Nat.ne_of_gt (Nat.lt_succ_of_lt hal)⟩, fresh, q⟩
end EL
namespace EL
open PySem PySem.Spec L2
open PyProof.Rows hiding St
open PySem.Sem (wp)
/-- the text's signs, each in a new pair -/
def IteS (x : Str) : It :=
  ⟨fun i _ => i < x.cps.size, fun i H v H' => ∃ T c, v = .ref T ∧ H T = none ∧ H' = upd H T (.tup [.int (i : Nat), .str ⟨#[c]⟩]) ∧ x.cps[i]? = some c, fun i _ => x.cps.size ≤ i⟩
end EL
set_option maxHeartbeats 4000000
namespace EL
open PySem PySem.Spec L2
open PyProof.Rows hiding St
open PySem.Sem (wp)
/-- the text's signs and the list's items, each two in a new pair -/
def ItzSL (K : PySem.W.Frag) (x : Str) (b : Addr) : It :=
  ⟨fun i H => i < x.cps.size ∧ ∃ (ys : List V) (y : V), SqL K H b ys ∧ ys[i]? = some y,
    fun i H v H' => ∃ T c y, v = .ref T ∧ H T = none ∧ H' = upd H T (.tup [.str ⟨#[c]⟩, y]) ∧ x.cps[i]? = some c ∧ ∀ ys, SqL K H b ys → ys[i]? = some y,
    fun i H => x.cps.size ≤ i ∨ i < x.cps.size ∧ ∃ ys : List V, SqL K H b ys ∧ ys.length ≤ i⟩
end EL
namespace L2
open PySem PySem.Spec PyProof.Rows
/-- the pairs of a locked dict with tuples as keys, each a new tuple -/
def ItiT (d : Addr) (o : Obj) (kvs : List (List Key × V)) : It :=
  ⟨fun i H => H d = some (.frz o (.dT kvs)) ∧ i < kvs.length, fun i H x H' => ∃ T k v q, kvs[i]? = some (k, v) ∧ x = .ref T ∧ H q = some (.tup (k.map kV)) ∧ H T = none ∧ H' = upd H T (.tup [.ref q, v]), fun i H => H d = some (.frz o (.dT kvs)) ∧ kvs.length ≤ i⟩
end L2
namespace EL
open PySem PySem.Spec L2
open PyProof.Rows hiding St
section
variable {X : Cx} {cm : Cm} {e a b c tg : Expr} {st : Stmt} {sts sts' : List Stmt} {ma mb mc : ME} {mr : MA} {mt : MT} {m m1 m2 : MS} {g : MG} {pos : Pos} {vs : List Nat}
theorem rss_nil : RSs X cm [] sNil := by
  refine pssM pss_nil fun D σ H q => ?_
  obtain ⟨ρ, h, sw, f, h', rh, rs, e, k⟩ := q
  cases e
  exact k ρ H σ .refl rh rs
theorem rss_cons (h1 : RS X cm st m1) (h2 : RSs X cm sts m2) : RSs X cm (st :: sts) (sSeq m1 m2) := by
  refine pssM (pss_cons h1 h2) fun D σ H q => ?_
  obtain ⟨ρ, h, sw, f, h', rh, rs, e, k⟩ := q
  obtain ⟨f1, h1, e1, e2⟩ := bnd_ok e
  refine ⟨ρ, h, sw, f1, h1, rh, rs, e1, ?_⟩
  cases f1 with
  | nx s => exact fun ρ1 H1 σ1 l1 rh1 rs1 => ⟨ρ1, h1, s, f, h', rh1, rs1, e2, k.le l1⟩
  | rt w => cases e2; exact k
  | bk s => cases e2; exact k
  | ct s => cases e2; exact k
theorem rss_one (h1 : RS X cm st m1) : RSs X cm [st] m1 := pss_one h1
theorem rs_if (hc : RT X cm c mt) (ha : RSs X cm sts m1) (hb : RSs X cm sts' m2) : RS X cm (.If c sts sts' pos) (sIf mt m1 m2) := by
  refine psM (ps_if hc ha hb) fun D σ H q => ?_
  obtain ⟨ρ, h, sw, f, h', rh, rs, e, k⟩ := q
  obtain ⟨x, h1, e1, e2⟩ := bnd_ok e
  refine ⟨ρ, h, sw, x, h1, rh, rs, e1, fun ρ1 H1 l1 rh1 => ?_⟩
  cases x with
  | true => exact iteT ⟨ρ1, h1, sw, f, h', rh1, rs.mono l1, e2, k.le l1⟩
  | false => exact iteF ⟨ρ1, h1, sw, f, h', rh1, rs.mono l1, e2, k.le l1⟩
theorem rs_ret (ha : RE X cm e ma) : RS X cm (.Return (some e) pos) (sRet ma) := by
  refine psM (ps_ret ha) fun D σ H q => ?_
  obtain ⟨ρ, h, sw, f, h', rh, rs, e, k⟩ := q
  obtain ⟨x, h1, e1, e2⟩ := bnd_ok e
  cases e2
  exact ⟨ρ, h, sw, x, h', rh, rs, e1, k⟩
theorem rs_expr (ha : RE X cm e ma) (hs : swapsWith e none pos.line X.env = pure false := by rfl) : RS X cm (.Expr e pos) (sExp ma) := by
  refine psM (ps_expr ha hs) fun D σ H q => ?_
  obtain ⟨ρ, h, sw, f, h', rh, rs, e, k⟩ := q
  obtain ⟨x, h1, e1, e2⟩ := bnd_ok e
  cases e2
  exact ⟨ρ, h, sw, x, h', rh, rs, e1, fun ρ1 H1 v l1 rh1 _ => k ρ1 H1 σ l1 rh1 (rs.mono l1)⟩
/-- what is never reached -/
theorem rs_bad : RS X cm st (fun _ => bad) := by
  refine psM ps_never fun D σ H q => ?_
  obtain ⟨ρ, h, sw, f, h', rh, rs, e, k⟩ := q
  cases e
theorem rg_name (i : Nat) {x : Str} (hN : X.N.Nodup) (hv : i ∈ vs := by decide) (hi : X.N[i]? = some x := by rfl) (hx : Loc X.env.scope x := by first | exact Or.inl rfl | exact Or.inr rfl) (hf : X.fn x = true ∨ X.env.scope.names.lookup x = some .local := by first | exact .inl rfl | exact .inr rfl | assumption) : RG X cm vs (.Name x pos) (gNm i) := by
  refine pgM (pg_name (i := i) hN hi hx hf) fun v σ H Q q => ?_
  obtain ⟨ρ, h, sw, w, s, h', rh, rs, rw', e, k⟩ := q
  cases e
  exact k ρ H _ (.set hv) .refl rh (rs.set rw' i)
/-- targets one after another -/
def gsNil : List W → SW → M SW := fun ws sw => if ws.isEmpty then rtn sw else bad
def gsCons (g : MG) (r : List W → SW → M SW) : List W → SW → M SW := fun ws sw => match ws with
  | w :: ws => bnd (g w sw) fun s => r ws s
  | [] => bad
def tGs (K : PySem.W.Frag) (cm : Cm) (ps : List Nat) (m : List W → SW → M SW) : TGs := fun vs σ H Q => ∃ ρ h sw ws s h', RelH K cm ρ h H ∧ RelS K ρ H sw σ ∧ Rels K ρ H ws vs ∧ m ws sw h = .ok s h' ∧ ∀ ρ' H' σ', But ps σ σ' → Le K ρ H ρ' H' → RelH K cm ρ' h' H' → RelS K ρ' H' s σ' → Q σ' H'
abbrev RGs (X : Cx) (cm : Cm) (vs : List Nat) (tg : List Expr) (m : List W → SW → M SW) : Prop := PGs X tg (tGs X.K cm vs m)
theorem rgs_nil : RGs X cm vs [] gsNil := ⟨fun pins s σ H xs us Q I r q => by
  refine pgs_nil.run pins s σ H xs us Q I r ?_
  obtain ⟨ρ, h, sw, ws, s, h', rh, rs, rw', e, k⟩ := q
  cases rw' with
  | nil =>
    cases e
    exact ⟨rfl, k ρ H σ .refl .refl rh rs⟩
  | cons _ _ => cases e⟩
theorem rgs_cons {es : List Expr} {g : MG} {r : List W → SW → M SW} (h1 : RG X cm vs e g) (h2 : RGs X cm vs es r) (hs : (assignEach (e :: es) X.env).map (·.2) = assign e X.env :: (assignEach es X.env).map (·.2) := by rfl) : RGs X cm vs (e :: es) (gsCons g r) := ⟨fun pins s σ H xs us Q I r q => by
  refine (pgs_cons h1 h2 hs).run pins s σ H xs us Q I r ?_
  obtain ⟨ρ, h, sw, ws, s, h', rh, rs, rw', e, k⟩ := q
  cases rw' with
  | nil => cases e
  | cons q1 q2 =>
    obtain ⟨s1, h1, e1, e2⟩ := bnd_ok e
    refine ⟨_, _, rfl, ρ, h, sw, _, s1, h1, rh, rs, q1, e1, fun ρ1 H1 σ1 b1 l1 rh1 rs1 => ?_⟩
    exact ⟨ρ1, h1, s1, _, s, h', rh1, rs1, q2.mono l1, e2, fun ρ2 H2 σ2 b2 l2 => k ρ2 H2 σ2 (b1.trans b2) (l1.trans l2)⟩⟩
def gTu (n : Nat) (r : List W → SW → M SW) : MG := fun w sw => match w with
  | .tup ws => if ws.length = n then r ws sw else bad
  | _ => bad
theorem rg_tup {es : List Expr} {r : List W → SW → M SW} {k0 : Nat} {n : Nat} (hc : X.calm = true) (h : RGs X cm vs es r) (hn : (assignEach es X.env).length = n := by rfl) (hst : (assignEach es X.env).findIdx? (·.1) = none := by rfl) : RG X cm vs (.Tuple es k0 pos) (gTu n r) := by
  refine pgM (pg_tup hc h hn hst) fun v σ H Q q => ?_
  obtain ⟨ρ, h, sw, w, s, h', rh, rs, rw', e, k⟩ := q
  cases rw' with
  | tup hq r =>
    have e' : (if _ then _ else bad) h = R.ok s h' := e
    split at e'
    · rename_i hl
      exact ⟨_, _, rfl, hq, by rw [← r.length]; exact hl, ρ, h, sw, _, s, h', rh, rs, r, e', k⟩
    · cases e'
  | _ => cases e
theorem rs_asg (he : RE X cm e ma) (hg : RG X cm vs tg g) (hs : swapsWithSole [tg] e pos.line X.env = pure false := by rfl) (hw : swappedStores [tg] e X.env = pure none := by rfl)
    (h1 : (assignEach [tg] X.env).map (·.2) = [assign tg X.env] := by rfl) : RS X cm (.Assign [tg] e pos) (sAsg g ma) := by
  refine psM (ps_asg he hg hs hw h1) fun D σ H q => ?_
  obtain ⟨ρ, h, sw, f, h', rh, rs, e, k⟩ := q
  obtain ⟨x, h1, e1, e2⟩ := bnd_ok e
  obtain ⟨s, h2, e3, e4⟩ := bnd_ok e2
  cases e4
  refine ⟨ρ, h, sw, x, h1, rh, rs, e1, fun ρ1 H1 v l1 rh1 rv => ?_⟩
  exact ⟨ρ1, h1, sw, x, s, h', rh1, rs.mono l1, rv, e3, fun ρ2 H2 σ2 _ l2 => k ρ2 H2 σ2 (l1.trans l2)⟩
/-- o[i] = e, o[i] of a list -/
def wSet (o i v : W) : M Unit := fun h => match o, i with
  | .ref p, .int k => match h[p]? with
    | some (.lst xs) => match ixN xs.length k with
      | some j => .ok () (h.set p (.lst (xs.set j v)))
      | none => .no
    | _ => .no
  | _, _ => .no
def gSubL (mo mi : ME) : MG := fun w sw => bnd (mo sw) fun o => bnd (mi sw) fun i => bnd (wSet o i w) fun _ => rtn sw
theorem rg_sub {o i : Expr} {mo mi : ME} (ho : RE X cm o mo) (hi : RE X cm i mi)
    (ha : ∀ v, assign (.Subscript o i pos) X.env v = (do
      let ov ← holding [v] (eval o X.env)
      let iv ← holding [v, ov] (eval i X.env)
      standAt pos
      holding [v, ov, iv] (setItem ov iv v)
      release [v, ov, iv] []) := by intro _; rfl) : RG X cm vs (.Subscript o i pos) (gSubL mo mi) := by
  refine pgM (pg_sub ho hi set_list ha) fun v σ H Q q => ?_
  obtain ⟨ρ, h, sw, w, s, h', rh, rs, rw', e, k⟩ := q
  obtain ⟨x, h1, e1, e2⟩ := bnd_ok e
  obtain ⟨y, h2, e3, e4⟩ := bnd_ok e2
  obtain ⟨u, h3, e5, e6⟩ := bnd_ok e4
  cases e6
  refine ⟨ρ, h, sw, x, h1, rh, rs, e1, fun ρ1 H1 x' l1 rh1 rx => ?_⟩
  refine ⟨ρ1, h1, sw, y, h2, rh1, rs.mono l1, e3, fun ρ2 H2 y' l2 rh2 ry => ?_⟩
  cases rx with
  | @ref p a hp =>
    cases ry with
    | int j =>
      have e5' : (match h2[p]? with
        | some (.lst xs) => (match ixN xs.length j with
          | some j => R.ok () (h2.set p (.lst (xs.set j w)))
          | none => R.no)
        | _ => R.no) = .ok u h' := e5
      obtain ⟨o, ho, ro⟩ := rh2.at (w := .non) (pre_get l2.pre hp)
      rw [ho] at e5'
      cases o with
      | lst xs =>
        obtain ⟨ys, ea, rxs⟩ := ro
        simp only at e5'
        split at e5'
        · rename_i jj hj
          cases e5'
          have lu : Le X.K ρ2 H2 ρ2 (upd H2 a (.lst (ys.set jj v))) := le_mut ea trivial
          refine ⟨a, ys, j, jj, rfl, rfl, ea, by rw [← rxs.length]; exact hj, ?_⟩
          refine k ρ2 _ σ .refl (l1.trans (l2.trans lu)) (rh2.set (pre_get l2.pre hp) ea trivial ⟨_, upd_same, ?_⟩) (rs.mono (l1.trans (l2.trans lu)))
          exact (rxs.set (rw'.mono (l1.trans l2)) jj).mono lu
        · cases e5'
      | _ => cases e5'
    | _ => cases e5
  | _ => cases ry <;> cases e5
end
/-- what is walked: the items, and what must stand still meanwhile -/
inductive Src where
  | lst (p : Nat) | tup (xs : List W) | rol (xs : List W) | rng (lo : Int) (n : Nat) | str (x : Str) | dit (p : Nat) | dky (p : Nat) | dvl (p : Nat) | enu (p : Nat) | enr (xs : List W) | enuT (xs : List W) | enuS (x : Str) | zSL (x : Str) (p : Nat) | zTT (xs ys : List W) | ditT (p : Nat) | zLL (p q : Nat)
def kW : Key → W
  | .inl i => .int i
  | .inr x => .str x
/-- the item at a turn; none: the end -/
def Src.item (s : Src) (i : Nat) (h : Hw) : Option (Option W) := match s with
  | .lst p => match h[p]? with
    | some (.lst xs) => some xs[i]?
    | _ => none
  | .tup xs => some xs[i]?
  | .rol xs => some xs[i]?
  | .rng lo n => some (if i < n then some (.int (lo + i)) else none)
  | .str x => some (x.cps[i]?.map fun c => .str ⟨#[c]⟩)
  | .dit p => match h[p]? with
    | some (.dF kvs) => some (kvs[i]?.map fun kv => .tup [kW kv.1, kv.2])
    | _ => none
  | .dky p => match h[p]? with
    | some (.dF kvs) => some (kvs[i]?.map fun kv => kW kv.1)
    | _ => none
  | .dvl p => match h[p]? with
    | some (.dF kvs) => some (kvs[i]?.map fun kv => kv.2)
    | _ => none
  | .enu p => match h[p]? with
    | some (.lst xs) => some (xs[i]?.map fun x => .tup [.int i, x])
    | _ => none
  | .enr xs => some (xs[i]?.map fun x => .tup [.int i, x])
  | .enuT xs => some (xs[i]?.map fun x => .tup [.int i, x])
  | .enuS x => some (x.cps[i]?.map fun c => .tup [.int i, .str ⟨#[c]⟩])
  | .zSL x p => match h[p]? with
    | some (.lst ys) => some (match x.cps[i]?, ys[i]? with
      | some c, some y => some (.tup [.str ⟨#[c]⟩, y])
      | _, _ => none)
    | _ => none
  | .zTT xs ys => some (match xs[i]?, ys[i]? with
    | some x, some y => some (.tup [x, y])
    | _, _ => none)
  | .ditT p => match h[p]? with
    | some (.dU kvs) => some (kvs[i]?.map fun kv => .tup [.tup (kv.1.map kW), kv.2])
    | _ => none
  | .zLL p q => match h[p]?, h[q]? with
    | some (.lst xs), some (.lst ys) => some (match xs[i]?, ys[i]? with
      | some x, some y => some (.tup [x, y])
      | _, _ => none)
    | _, _ => none
def sFor (src : Src) (g : MG) (b : MS) : Nat → Nat → MS
  | _, 0 => fun _ => bad
  | i, n + 1 => fun sw h => match src.item i h with
    | none => .no
    | some none => .ok (.nx sw) h
    | some (some x) => bnd (g x sw) (fun s => bnd (b s) fun f => match f with
      | .nx s => sFor src g b (i + 1) n s
      | .ct s => sFor src g b (i + 1) n s
      | .bk s => rtn (.nx s)
      | .rt w => rtn (.rt w)) h
/-- how a source lies: its iterator -/
def SrcR (K : PySem.W.Frag) (ρ : List Addr) (H : Hp) (src : Src) (J : It) : Prop := match src with
  | .lst p => ∃ a, ρ[p]? = some a ∧ J = Itl K a
  | .tup xs => ∃ a vs, SqT K H a vs ∧ Rels K ρ H xs vs ∧ J = Itt K a
  | .rol xs => ∃ a vs, SqP K H a vs ∧ Rels K ρ H xs vs ∧ J = Itl K a
  | .rng lo n => J = Itr lo n
  | .str x => J = Its x
  | .dit p => ∃ a o kv, ρ[p]? = some a ∧ H a = some (.frz o (.dK kv)) ∧ J = Iti a o kv
  | .dky p => ∃ a o kv, ρ[p]? = some a ∧ H a = some (.frz o (.dK kv)) ∧ J = Itk a o kv
  | .dvl p => ∃ a o kv, ρ[p]? = some a ∧ H a = some (.frz o (.dK kv)) ∧ J = Itd a o kv
  | .enu p => ∃ a, ρ[p]? = some a ∧ J = Ite K a
  | .enr xs => ∃ a vs, SqP K H a vs ∧ Rels K ρ H xs vs ∧ J = Ite K a
  | .enuT xs => ∃ a vs, SqT K H a vs ∧ Rels K ρ H xs vs ∧ J = IteT K a
  | .enuS x => J = IteS x
  | .zSL x p => ∃ a, ρ[p]? = some a ∧ J = ItzSL K x a
  | .zTT xs ys => ∃ a vs b us, SqT K H a vs ∧ Rels K ρ H xs vs ∧ SqT K H b us ∧ Rels K ρ H ys us ∧ J = RZ.ItzT K a b
  | .ditT p => ∃ a o kv, ρ[p]? = some a ∧ H a = some (.frz o (.dT kv)) ∧ J = ItiT a o kv
  | .zLL p q => ∃ a b, ρ[p]? = some a ∧ ρ[q]? = some b ∧ J = Itz K a b
theorem SrcR.mono {K : PySem.W.Frag} {ρ ρ' : List Addr} {H H' : Hp} {src : Src} {J : It} (l : Le K ρ H ρ' H') (r : SrcR K ρ H src J) : SrcR K ρ' H' src J := by
  cases src with
  | lst p => obtain ⟨a, h1, h2⟩ := r; exact ⟨a, pre_get l.pre h1, h2⟩
  | tup xs => obtain ⟨a, vs, h1, h2, h3⟩ := r; exact ⟨a, vs, l.sq _ _ h1, h2.mono l, h3⟩
  | rol xs => obtain ⟨a, vs, h1, h2, h3⟩ := r; exact ⟨a, vs, l.sl _ _ h1, h2.mono l, h3⟩
  | rng lo n => exact r
  | str x => exact r
  | dit p => obtain ⟨a, o, kv, h1, h2, h3⟩ := r; exact ⟨a, o, kv, pre_get l.pre h1, l.fz _ _ _ h2, h3⟩
  | dky p => obtain ⟨a, o, kv, h1, h2, h3⟩ := r; exact ⟨a, o, kv, pre_get l.pre h1, l.fz _ _ _ h2, h3⟩
  | dvl p => obtain ⟨a, o, kv, h1, h2, h3⟩ := r; exact ⟨a, o, kv, pre_get l.pre h1, l.fz _ _ _ h2, h3⟩
  | enu p => obtain ⟨a, h1, h2⟩ := r; exact ⟨a, pre_get l.pre h1, h2⟩
  | enr xs => obtain ⟨a, vs, h1, h2, h3⟩ := r; exact ⟨a, vs, l.sl _ _ h1, h2.mono l, h3⟩
  | enuT xs => obtain ⟨a, vs, h1, h2, h3⟩ := r; exact ⟨a, vs, l.sq _ _ h1, h2.mono l, h3⟩
  | enuS x => exact r
  | zSL x p => obtain ⟨a, h1, h2⟩ := r; exact ⟨a, pre_get l.pre h1, h2⟩
  | zTT xs ys => obtain ⟨a, vs, b, us, h1, h2, h3, h4, h5⟩ := r; exact ⟨a, vs, b, us, l.sq _ _ h1, h2.mono l, l.sq _ _ h3, h4.mono l, h5⟩
  | ditT p => obtain ⟨a, o, kv, h1, h2, h3⟩ := r; exact ⟨a, o, kv, pre_get l.pre h1, l.fz _ _ _ h2, h3⟩
  | zLL p q => obtain ⟨a, b, h1, h2, h3⟩ := r; exact ⟨a, b, pre_get l.pre h1, pre_get l.pre h2, h3⟩
theorem get_none {K : PySem.W.Frag} {ρ : List Addr} {H : Hp} {ws : List W} {vs : List V} {i : Nat} (r : Rels K ρ H ws vs) (e : ws[i]? = none) : vs.length ≤ i := by
  rw [← r.length]
  exact List.getElem?_eq_none_iff.mp e
theorem SqT.one {K : PySem.W.Frag} {H : Hp} {a : Addr} {xs ys : List V} (h : SqT K H a xs) (h' : SqT K H a ys) : True := trivial
theorem rel_kW {K : PySem.W.Frag} {ρ : List Addr} {H : Hp} (k : Key) : Rel K ρ H (kW k) (kV k) := by
  cases k
  · exact .int _
  · exact .str _
theorem kv_get {κ : Type} {K : PySem.W.Frag} {ρ : List Addr} {H : Hp} {kvs : List (κ × W)} {kv : List (κ × V)} {i : Nat} {p : κ × W} (ek : kv.map (·.1) = kvs.map (·.1)) (rl : Rels K ρ H (kvs.map (·.2)) (kv.map (·.2))) (e : kvs[i]? = some p) : ∃ v, kv[i]? = some (p.1, v) ∧ Rel K ρ H p.2 v := by
  obtain ⟨v, hv, rv⟩ := rl.get (i := i) (w := p.2) (by rw [List.getElem?_map, e]; rfl)
  rw [List.getElem?_map] at hv
  have ek' : (kv.map (·.1))[i]? = some p.1 := by rw [ek, List.getElem?_map, e]; rfl
  rw [List.getElem?_map] at ek'
  cases q : kv[i]? with
  | none => rw [q] at hv; cases hv
  | some q2 =>
    rw [q] at hv ek'
    cases q2
    cases hv
    cases ek'
    exact ⟨_, rfl, rv⟩
theorem dict_src {K : PySem.W.Frag} {cm : Cm} {ρ : List Addr} {h : Hw} {H : Hp} {J : It} {p : Nat} {F : List (Key × W) → Option (Option W)} {r : Option W} {it : Addr → Obj → List (Key × V) → It} (rh : RelH K cm ρ h H) (hr : ∃ a o kv, ρ[p]? = some a ∧ H a = some (.frz o (.dK kv)) ∧ J = it a o kv)
    (e : (match h[p]? with
      | some (.dF kvs) => F kvs
      | _ => none) = some r) : ∃ kvs kv a o, H a = some (.frz o (.dK kv)) ∧ J = it a o kv ∧ kv.map (·.1) = kvs.map (·.1) ∧ Rels K ρ H (kvs.map (·.2)) (kv.map (·.2)) ∧ F kvs = some r ∧ True := by
  obtain ⟨a, o, kv, hp, ea, ej⟩ := hr
  obtain ⟨ob, ho, ro⟩ := rh.at (w := .non) hp
  rw [ho] at e
  cases ob with
  | dF kvs =>
    obtain ⟨o', kv', ea', ek, rl⟩ := ro
    rw [ea] at ea'
    cases ea'
    exact ⟨kvs, kv, a, o, ea, ej, ek, rl, e, trivial⟩
  | _ => cases e
theorem dict_srcT {K : PySem.W.Frag} {cm : Cm} {ρ : List Addr} {h : Hw} {H : Hp} {J : It} {p : Nat} {F : List (List Key × W) → Option (Option W)} {r : Option W} {it : Addr → Obj → List (List Key × V) → It} (rh : RelH K cm ρ h H) (hr : ∃ a o kv, ρ[p]? = some a ∧ H a = some (.frz o (.dT kv)) ∧ J = it a o kv)
    (e : (match h[p]? with
      | some (.dU kvs) => F kvs
      | _ => none) = some r) : ∃ kvs kv a o, H a = some (.frz o (.dT kv)) ∧ J = it a o kv ∧ kv.map (·.1) = kvs.map (·.1) ∧ Rels K ρ H (kvs.map (·.2)) (kv.map (·.2)) ∧ F kvs = some r := by
  obtain ⟨a, o, kv, hp, ea, ej⟩ := hr
  obtain ⟨ob, ho, ro⟩ := rh.at (w := .non) hp
  rw [ho] at e
  cases ob with
  | dU kvs =>
    obtain ⟨o', kv', ea', ek, rl⟩ := ro
    rw [ea] at ea'
    cases ea'
    exact ⟨kvs, kv, a, o, ea, ej, ek, rl, e⟩
  | _ => cases e
theorem rels_kW {K : PySem.W.Frag} {ρ : List Addr} {H : Hp} : ∀ (ks : List Key), Rels K ρ H (ks.map kW) (ks.map kV)
  | [] => .nil
  | k :: r => .cons (rel_kW k) (rels_kW r)
theorem enu_go {K : PySem.W.Frag} {cm : Cm} {ρ : List Addr} {h : Hw} {H : Hp} {a : Addr} {xs : List W} {vs : List V} {i : Nat} {x : W} (rh : RelH K cm ρ h H) (hq : SqL K H a vs) (rx : Rels K ρ H xs vs) (e : (xs[i]?.map fun x => W.tup [.int i, x]) = some x) :
    (Ite K a).go i H ∧ ∀ v H', (Ite K a).yld i H v H' → Le K ρ H ρ H' ∧ RelH K cm ρ h H' ∧ Rel K ρ H' x v := by
  cases q1 : xs[i]? with
  | none => rw [q1] at e; cases e
  | some y =>
    rw [q1] at e
    cases e
    obtain ⟨v, hv, rv⟩ := rx.get q1
    refine ⟨⟨vs, v, hq, hv⟩, fun u H' z => ?_⟩
    obtain ⟨T, x', rfl, hT, rfl, hx⟩ := z
    have := hx vs hq
    rw [hv] at this
    cases this
    exact ⟨le_new hT, rh.new hT, .tup (.of upd_same) (.cons (.int _) (.cons (rv.mono (le_new hT)) .nil))⟩
/-- a turn of the iterator -/
theorem enuT_go {K : PySem.W.Frag} {cm : Cm} {ρ : List Addr} {h : Hw} {H : Hp} {a : Addr} {xs : List W} {vs : List V} {i : Nat} {x : W} (rh : RelH K cm ρ h H) (hq : SqT K H a vs) (rx : Rels K ρ H xs vs) (e : (xs[i]?.map fun x => W.tup [.int i, x]) = some x) :
    (IteT K a).go i H ∧ ∀ v H', (IteT K a).yld i H v H' → Le K ρ H ρ H' ∧ RelH K cm ρ h H' ∧ Rel K ρ H' x v := by
  cases q1 : xs[i]? with
  | none => rw [q1] at e; cases e
  | some y =>
    rw [q1] at e
    cases e
    obtain ⟨v, hv, rv⟩ := rx.get q1
    refine ⟨⟨vs, v, hq, hv⟩, fun u H' z => ?_⟩
    obtain ⟨T, x', rfl, hT, rfl, hx⟩ := z
    have := hx vs hq
    rw [hv] at this
    cases this
    exact ⟨le_new hT, rh.new hT, .tup (.of upd_same) (.cons (.int _) (.cons (rv.mono (le_new hT)) .nil))⟩
/-- a turn of the iterator -/
theorem src_go {K : PySem.W.Frag} {cm : Cm} {ρ : List Addr} {h : Hw} {H : Hp} {src : Src} {J : It} {i : Nat} {x : W} (rh : RelH K cm ρ h H) (r : SrcR K ρ H src J) (e : src.item i h = some (some x)) :
    J.go i H ∧ ∀ v H', J.yld i H v H' → Le K ρ H ρ H' ∧ RelH K cm ρ h H' ∧ Rel K ρ H' x v := by
  cases src with
  | lst p =>
    obtain ⟨a, hp, rfl⟩ := r
    obtain ⟨o, ho, ro⟩ := rh.at (w := .non) hp
    have e' : (match h[p]? with
      | some (.lst xs) => some xs[i]?
      | _ => none) = some (some x) := e
    rw [ho] at e'
    cases o with
    | lst xs =>
      obtain ⟨vs, ea, rx⟩ := ro
      have e2 : xs[i]? = some x := Option.some.inj e'
      obtain ⟨v, hv, rv⟩ := rx.get e2
      refine ⟨⟨vs, v, .of ea, hv⟩, fun v' H' y => ?_⟩
      obtain ⟨y1, y2⟩ := y
      subst y1
      refine ⟨.refl, rh, ?_⟩
      have := y2 vs (.of ea)
      rw [hv] at this
      cases this
      exact rv
    | _ => cases e'
  | tup xs =>
    obtain ⟨a, vs, hq, rx, rfl⟩ := r
    have e2 : xs[i]? = some x := Option.some.inj e
    obtain ⟨v, hv, rv⟩ := rx.get e2
    refine ⟨⟨vs, v, hq, hv⟩, fun v' H' y => ?_⟩
    obtain ⟨y1, y2⟩ := y
    subst y1
    refine ⟨.refl, rh, ?_⟩
    have := y2 vs hq
    rw [hv] at this
    cases this
    exact rv
  | rol xs =>
    obtain ⟨a, vs, hq, rx, rfl⟩ := r
    have e2 : xs[i]? = some x := Option.some.inj e
    obtain ⟨v, hv, rv⟩ := rx.get e2
    refine ⟨⟨vs, v, hq.sq, hv⟩, fun v' H' y => ?_⟩
    obtain ⟨y1, y2⟩ := y
    subst y1
    refine ⟨.refl, rh, ?_⟩
    have := y2 vs hq.sq
    rw [hv] at this
    cases this
    exact rv
  | rng lo n =>
    have r' : J = Itr lo n := r
    subst r'
    have e2 : (if i < n then some (W.int (lo + i)) else none) = some x := Option.some.inj e
    split at e2
    · cases e2
      refine ⟨by assumption, fun v H' y => ?_⟩
      obtain ⟨y1, y2⟩ := y
      subst y1
      refine ⟨.refl, rh, ?_⟩
      rw [y2]
      exact .int _
    · cases e2
  | str z =>
    have r' : J = Its z := r
    subst r'
    have e2 : (z.cps[i]?.map fun c => W.str ⟨#[c]⟩) = some x := Option.some.inj e
    cases q : z.cps[i]? with
    | none => rw [q] at e2; cases e2
    | some c =>
      rw [q] at e2
      cases e2
      refine ⟨(Array.getElem?_eq_some_iff.mp q).1, fun v H' y => ?_⟩
      obtain ⟨y1, c', h1, h2⟩ := y
      subst y1
      refine ⟨.refl, rh, ?_⟩
      rw [q] at h1
      cases h1
      rw [h2]
      exact .str _
  | dit p =>
    obtain ⟨kvs, kv, a, o, ea, rfl, ek, rl, e2, q⟩ := dict_src rh r e
    have e3 : ((kvs[i]?).map fun kv => W.tup [kW kv.1, kv.2]) = some x := Option.some.inj e2
    cases q1 : kvs[i]? with
    | none => rw [q1] at e3; cases e3
    | some p1 =>
      rw [q1] at e3
      cases e3
      obtain ⟨v, hv, rv⟩ := kv_get ek rl q1
      refine ⟨⟨ea, (List.getElem?_eq_some_iff.mp hv).1⟩, fun u H' y => ?_⟩
      obtain ⟨T, k, v', h1, rfl, hT, rfl⟩ := y
      rw [hv] at h1
      cases h1
      exact ⟨le_new hT, rh.new hT, .tup (.of upd_same) (.cons (rel_kW _) (.cons (rv.mono (le_new hT)) .nil))⟩
  | dky p =>
    obtain ⟨kvs, kv, a, o, ea, rfl, ek, rl, e2, q⟩ := dict_src rh r e
    have e3 : ((kvs[i]?).map fun kv => kW kv.1) = some x := Option.some.inj e2
    cases q1 : kvs[i]? with
    | none => rw [q1] at e3; cases e3
    | some p1 =>
      rw [q1] at e3
      cases e3
      obtain ⟨v, hv, rv⟩ := kv_get ek rl q1
      refine ⟨⟨ea, (List.getElem?_eq_some_iff.mp hv).1⟩, fun u H' y => ?_⟩
      obtain ⟨y1, k, v', h1, rfl⟩ := y
      subst y1
      rw [hv] at h1
      cases h1
      exact ⟨.refl, rh, rel_kW _⟩
  | dvl p =>
    obtain ⟨kvs, kv, a, o, ea, rfl, ek, rl, e2, q⟩ := dict_src rh r e
    have e3 : ((kvs[i]?).map fun kv => kv.2) = some x := Option.some.inj e2
    cases q1 : kvs[i]? with
    | none => rw [q1] at e3; cases e3
    | some p1 =>
      rw [q1] at e3
      cases e3
      obtain ⟨v, hv, rv⟩ := kv_get ek rl q1
      refine ⟨⟨ea, (List.getElem?_eq_some_iff.mp hv).1⟩, fun u H' y => ?_⟩
      obtain ⟨y1, k, h1⟩ := y
      subst y1
      rw [hv] at h1
      cases h1
      exact ⟨.refl, rh, rv⟩
  | enu p =>
    obtain ⟨a, hp, rfl⟩ := r
    obtain ⟨o, ho, ro⟩ := rh.at (w := .non) hp
    have e' : (match h[p]? with
      | some (.lst xs) => some (xs[i]?.map fun x => W.tup [.int i, x])
      | _ => none) = some (some x) := e
    rw [ho] at e'
    cases o with
    | lst xs =>
      obtain ⟨vs, ea, rx⟩ := ro
      exact enu_go rh (.of ea) rx (Option.some.inj e')
    | _ => cases e'
  | enr xs =>
    obtain ⟨a, vs, hq, rx, rfl⟩ := r
    exact enu_go rh hq.sq rx (Option.some.inj e)
  | enuT xs =>
    obtain ⟨a, vs, hq, rx, rfl⟩ := r
    exact enuT_go rh hq rx (Option.some.inj e)
  | enuS y =>
    have r' : J = IteS y := r
    subst r'
    have e' : (y.cps[i]?.map fun c => W.tup [.int i, .str ⟨#[c]⟩]) = some x := Option.some.inj e
    cases q1 : y.cps[i]? with
    | none => rw [q1] at e'; cases e'
    | some c =>
      rw [q1] at e'
      cases e'
      refine ⟨(Array.getElem?_eq_some_iff.mp q1).1, fun v H' z => ?_⟩
      obtain ⟨T, c', rfl, hT, rfl, hc⟩ := z
      rw [q1] at hc
      cases hc
      exact ⟨le_new hT, rh.new hT, .tup (.of upd_same) (.cons (.int _) (.cons (.str _) .nil))⟩
  | zSL y p =>
    obtain ⟨a, hp, rfl⟩ := r
    obtain ⟨o, ho, ro⟩ := rh.at (w := .non) hp
    have e' : (match h[p]? with
      | some (.lst ys) => some (match y.cps[i]?, ys[i]? with
        | some c, some z => some (W.tup [.str ⟨#[c]⟩, z])
        | _, _ => none)
      | _ => none) = some (some x) := e
    rw [ho] at e'
    cases o with
    | lst ys =>
      obtain ⟨vs, ea, rx⟩ := ro
      have e2 : (match y.cps[i]?, ys[i]? with
        | some c, some z => some (W.tup [.str ⟨#[c]⟩, z])
        | _, _ => none) = some x := Option.some.inj e'
      split at e2
      · rename_i c z q1 q2
        cases e2
        obtain ⟨v, hv, rv⟩ := rx.get q2
        refine ⟨⟨(Array.getElem?_eq_some_iff.mp q1).1, vs, v, .of ea, hv⟩, fun u H' zz => ?_⟩
        obtain ⟨T, c', y', rfl, hT, rfl, hc, hy⟩ := zz
        rw [q1] at hc
        cases hc
        have := hy vs (.of ea)
        rw [hv] at this
        cases this
        exact ⟨le_new hT, rh.new hT, .tup (.of upd_same) (.cons (.str _) (.cons (rv.mono (le_new hT)) .nil))⟩
      · cases e2
    | _ => cases e'
  | zTT xs ys =>
    obtain ⟨a, vs, b, us, hqx, rx, hqy, ry, rfl⟩ := r
    have e2 : (match xs[i]?, ys[i]? with
      | some x, some y => some (W.tup [x, y])
      | _, _ => none) = some x := Option.some.inj e
    split at e2
    · rename_i x1 y1 q1 q2
      cases e2
      obtain ⟨v, hv, rv⟩ := rx.get q1
      obtain ⟨v2, hv2, rv2⟩ := ry.get q2
      refine ⟨⟨vs, us, v, v2, hqx, hqy, hv, hv2⟩, fun u H' zz => ?_⟩
      obtain ⟨T, x', y', rfl, hT, rfl, hx, hy⟩ := zz
      have t1 := hx vs hqx
      have t2 := hy us hqy
      rw [hv] at t1
      rw [hv2] at t2
      cases t1
      cases t2
      exact ⟨le_new hT, rh.new hT, .tup (.of upd_same) (.cons (rv.mono (le_new hT)) (.cons (rv2.mono (le_new hT)) .nil))⟩
    · cases e2
  | ditT p =>
    obtain ⟨kvs, kv, a, o, ea, rfl, ek, rl, e2⟩ := dict_srcT rh r e
    have e3 : ((kvs[i]?).map fun kv => W.tup [W.tup (kv.1.map kW), kv.2]) = some x := Option.some.inj e2
    cases q1 : kvs[i]? with
    | none => rw [q1] at e3; cases e3
    | some p1 =>
      rw [q1] at e3
      cases e3
      obtain ⟨v, hv, rv⟩ := kv_get ek rl q1
      refine ⟨⟨ea, (List.getElem?_eq_some_iff.mp hv).1⟩, fun u H' y => ?_⟩
      obtain ⟨T, k, v', q, h1, rfl, hq, hT, rfl⟩ := y
      rw [hv] at h1
      cases h1
      have hq' : (upd H T (.tup [.ref q, v])) q = some (.tup (p1.1.map kV)) := (le_new (K := K) (ρ := ρ) hT).tp _ _ hq
      exact ⟨le_new hT, rh.new hT, .tup (.of upd_same) (.cons (.tup (.of hq') (rels_kW _) (.inr hq')) (.cons (rv.mono (le_new hT)) .nil))⟩
  | zLL p q =>
    obtain ⟨a, b, hp, hq, rfl⟩ := r
    obtain ⟨o, ho, ro⟩ := rh.at (w := .non) hp
    obtain ⟨o2, ho2, ro2⟩ := rh.at (w := .non) hq
    have e' : (match h[p]?, h[q]? with
      | some (.lst xs), some (.lst ys) => some (match xs[i]?, ys[i]? with
        | some x, some y => some (W.tup [x, y])
        | _, _ => none)
      | _, _ => none) = some (some x) := e
    rw [ho, ho2] at e'
    cases o with
    | lst xs =>
      cases o2 with
      | lst ys =>
        obtain ⟨vs, ea, rx⟩ := ro
        obtain ⟨us, eb, ry⟩ := ro2
        have e2 : (match xs[i]?, ys[i]? with
          | some x, some y => some (W.tup [x, y])
          | _, _ => none) = some x := Option.some.inj e'
        split at e2
        · rename_i x1 y1 q1 q2
          cases e2
          obtain ⟨v, hv, rv⟩ := rx.get q1
          obtain ⟨v2, hv2, rv2⟩ := ry.get q2
          refine ⟨⟨vs, us, v, v2, .of ea, .of eb, hv, hv2⟩, fun u H' zz => ?_⟩
          obtain ⟨T, x', y', rfl, hT, rfl, hx, hy⟩ := zz
          have t1 := hx vs (.of ea)
          have t2 := hy us (.of eb)
          rw [hv] at t1
          rw [hv2] at t2
          cases t1
          cases t2
          exact ⟨le_new hT, rh.new hT, .tup (.of upd_same) (.cons (rv.mono (le_new hT)) (.cons (rv2.mono (le_new hT)) .nil))⟩
        · cases e2
      | _ => cases e'
    | _ => cases e'
theorem kv_end {κ : Type} {kvs : List (κ × W)} {kv : List (κ × V)} {i : Nat} (ek : kv.map (·.1) = kvs.map (·.1)) (e : kvs.length ≤ i) : kv.length ≤ i := by
  have := congrArg List.length ek
  simp at this
  omega
theorem src_stop {K : PySem.W.Frag} {cm : Cm} {ρ : List Addr} {h : Hw} {H : Hp} {src : Src} {J : It} {i : Nat} (rh : RelH K cm ρ h H) (r : SrcR K ρ H src J) (e : src.item i h = some none) : J.stop i H := by
  cases src with
  | lst p =>
    obtain ⟨a, hp, rfl⟩ := r
    obtain ⟨o, ho, ro⟩ := rh.at (w := .non) hp
    have e' : (match h[p]? with
      | some (.lst xs) => some xs[i]?
      | _ => none) = some none := e
    rw [ho] at e'
    cases o with
    | lst xs =>
      obtain ⟨vs, ea, rx⟩ := ro
      exact ⟨vs, .of ea, get_none rx (Option.some.inj e')⟩
    | _ => cases e'
  | tup xs =>
    obtain ⟨a, vs, hq, rx, rfl⟩ := r
    exact ⟨vs, hq, get_none rx (Option.some.inj e)⟩
  | rol xs =>
    obtain ⟨a, vs, hq, rx, rfl⟩ := r
    exact ⟨vs, hq.sq, get_none rx (Option.some.inj e)⟩
  | rng lo n =>
    have r' : J = Itr lo n := r
    subst r'
    have e2 : (if i < n then some (W.int (lo + i)) else none) = none := Option.some.inj e
    split at e2
    · cases e2
    · exact Nat.le_of_not_lt (by assumption)
  | str z =>
    have r' : J = Its z := r
    subst r'
    have e2 : (z.cps[i]?.map fun c => W.str ⟨#[c]⟩) = none := Option.some.inj e
    cases q : z.cps[i]? with
    | none => exact Array.getElem?_eq_none_iff.mp q
    | some c => rw [q] at e2; cases e2
  | dit p =>
    obtain ⟨kvs, kv, a, o, ea, rfl, ek, rl, e2, q⟩ := dict_src rh r e
    exact ⟨ea, kv_end ek (by simpa using (Option.some.inj e2))⟩
  | dky p =>
    obtain ⟨kvs, kv, a, o, ea, rfl, ek, rl, e2, q⟩ := dict_src rh r e
    exact ⟨ea, kv_end ek (by simpa using (Option.some.inj e2))⟩
  | dvl p =>
    obtain ⟨kvs, kv, a, o, ea, rfl, ek, rl, e2, q⟩ := dict_src rh r e
    exact ⟨ea, kv_end ek (by simpa using (Option.some.inj e2))⟩
  | enu p =>
    obtain ⟨a, hp, rfl⟩ := r
    obtain ⟨o, ho, ro⟩ := rh.at (w := .non) hp
    have e' : (match h[p]? with
      | some (.lst xs) => some (xs[i]?.map fun x => W.tup [.int i, x])
      | _ => none) = some none := e
    rw [ho] at e'
    cases o with
    | lst xs =>
      obtain ⟨vs, ea, rx⟩ := ro
      exact ⟨vs, .of ea, get_none rx (List.getElem?_eq_none_iff.mpr (by simpa using (Option.some.inj e')))⟩
    | _ => cases e'
  | enr xs =>
    obtain ⟨a, vs, hq, rx, rfl⟩ := r
    exact ⟨vs, hq.sq, get_none rx (List.getElem?_eq_none_iff.mpr (by simpa using (Option.some.inj e)))⟩
  | enuT xs =>
    obtain ⟨a, vs, hq, rx, rfl⟩ := r
    exact ⟨vs, hq, get_none rx (List.getElem?_eq_none_iff.mpr (by simpa using (Option.some.inj e)))⟩
  | enuS y =>
    have r' : J = IteS y := r
    subst r'
    have e' : (y.cps[i]?.map fun c => W.tup [.int i, .str ⟨#[c]⟩]) = none := Option.some.inj e
    cases q1 : y.cps[i]? with
    | none => exact Array.getElem?_eq_none_iff.mp q1
    | some c => rw [q1] at e'; cases e'
  | zSL y p =>
    obtain ⟨a, hp, rfl⟩ := r
    obtain ⟨o, ho, ro⟩ := rh.at (w := .non) hp
    have e' : (match h[p]? with
      | some (.lst ys) => some (match y.cps[i]?, ys[i]? with
        | some c, some z => some (W.tup [.str ⟨#[c]⟩, z])
        | _, _ => none)
      | _ => none) = some none := e
    rw [ho] at e'
    cases o with
    | lst ys =>
      obtain ⟨vs, ea, rx⟩ := ro
      have e2 : (match y.cps[i]?, ys[i]? with
        | some c, some z => some (W.tup [.str ⟨#[c]⟩, z])
        | _, _ => none) = none := Option.some.inj e'
      cases q1 : y.cps[i]? with
      | none => exact .inl (Array.getElem?_eq_none_iff.mp q1)
      | some c =>
        cases q2 : ys[i]? with
        | none => exact .inr ⟨(Array.getElem?_eq_some_iff.mp q1).1, vs, .of ea, get_none rx q2⟩
        | some z => rw [q1, q2] at e2; cases e2
    | _ => cases e'
  | zTT xs ys =>
    obtain ⟨a, vs, b, us, hqx, rx, hqy, ry, rfl⟩ := r
    have e2 : (match xs[i]?, ys[i]? with
      | some x, some y => some (W.tup [x, y])
      | _, _ => none) = none := Option.some.inj e
    cases q1 : xs[i]? with
    | none => exact ⟨vs, us, hqx, hqy, .inl (get_none rx q1)⟩
    | some x =>
      cases q2 : ys[i]? with
      | none => exact ⟨vs, us, hqx, hqy, .inr (get_none ry q2)⟩
      | some y => rw [q1, q2] at e2; cases e2
  | ditT p =>
    obtain ⟨kvs, kv, a, o, ea, rfl, ek, rl, e2⟩ := dict_srcT rh r e
    exact ⟨ea, kv_end ek (by simpa using (Option.some.inj e2))⟩
  | zLL p q =>
    obtain ⟨a, b, hp, hq, rfl⟩ := r
    obtain ⟨o, ho, ro⟩ := rh.at (w := .non) hp
    obtain ⟨o2, ho2, ro2⟩ := rh.at (w := .non) hq
    have e' : (match h[p]?, h[q]? with
      | some (.lst xs), some (.lst ys) => some (match xs[i]?, ys[i]? with
        | some x, some y => some (W.tup [x, y])
        | _, _ => none)
      | _, _ => none) = some none := e
    rw [ho, ho2] at e'
    cases o with
    | lst xs =>
      cases o2 with
      | lst ys =>
        obtain ⟨vs, ea, rx⟩ := ro
        obtain ⟨us, eb, ry⟩ := ro2
        have e2 : (match xs[i]?, ys[i]? with
          | some x, some y => some (W.tup [x, y])
          | _, _ => none) = none := Option.some.inj e'
        cases q1 : xs[i]? with
        | none => exact ⟨vs, us, .of ea, .of eb, .inl (get_none rx q1)⟩
        | some x =>
          cases q2 : ys[i]? with
          | none => exact ⟨vs, us, .of ea, .of eb, .inr (get_none ry q2)⟩
          | some y => rw [q1, q2] at e2; cases e2
      | _ => cases e'
    | _ => cases e'
/-- a walk's start: the source, and how many turns it has at most -/
abbrev MI := SW → M (Src × Nat)
def tI (K : PySem.W.Frag) (cm : Cm) (m : MI) : TI := fun σ H R => ∃ ρ h sw src h', RelH K cm ρ h H ∧ RelS K ρ H sw σ ∧ m sw h = .ok src h' ∧ ∀ ρ' H' J, Le K ρ H ρ' H' → RelH K cm ρ' h' H' → SrcR K ρ' H' src.1 J → R J H'
abbrev RI (X : Cx) (cm : Cm) (tg it : Expr) (m : MI) : Prop := PI X tg it (tI X.K cm m)
theorem piM {X : Cx} {tg it : Expr} {t t' : TI} (p : PI X tg it t) (f : ∀ σ H R, t' σ H R → t σ H R) : PI X tg it t' := ⟨fun pins s σ H R I q => p.run pins s σ H R I (f σ H R q)⟩
def sForI (mi : MI) (g : MG) (b : MS) : MS := fun sw => bnd (mi sw) fun src => sFor src.1 g b 0 (src.2 + 1) sw
section
variable {X : Cx} {cm : Cm} {tg it : Expr} {body : List Stmt} {mi : MI} {g : MG} {m : MS} {pos : Pos} {vs : List Nat}
theorem rs_for (hp : PassesOwn (model X.prog X.w) X.A X.env X.xe) (hc : X.calm = true) (hi : RI X cm tg it mi) (hg : RG X cm vs tg g) (hb : RSs X cm body m) (hs : ∀ x, foldedSetIterable it X.env x = pure x := by intro _; rfl) : RS X cm (.For tg it body [] pos) (sForI mi g m) := by
  refine psM (ps_for hp hc hi hg hb hs) fun D σ H q => ?_
  obtain ⟨ρ, h, sw, f, h', rh, rs, e, k⟩ := q
  obtain ⟨src, h0, e0, e⟩ := bnd_ok e
  refine ⟨ρ, h, sw, src, h0, rh, rs, e0, fun ρ0 H0 J l0 rh0 rj => ?_⟩
  refine ⟨fun i n σ1 H1 => ∃ ρ1 h1 sw1, Le X.K ρ H ρ1 H1 ∧ RelH X.K cm ρ1 h1 H1 ∧ RelS X.K ρ1 H1 sw1 σ1 ∧ SrcR X.K ρ1 H1 src.1 J ∧ sFor src.1 g m i n sw1 h1 = .ok f h', ⟨_, ρ0, h0, sw, l0, rh0, rs.mono l0, rj, e⟩, fun i n σ1 H1 w => ?_⟩
  obtain ⟨ρ1, h1, sw1, l1, rh1, rs1, rj1, e1⟩ := w
  cases n with
  | zero => cases e1
  | succ n =>
    have e1' : (match src.1.item i h1 with
      | none => (EL.R.no : EL.R Fl)
      | some none => .ok (Fl.nx sw1) h1
      | some (some x) => bnd (g x sw1) (fun s => bnd (m s) fun f => match f with
        | .nx s => sFor src.1 g m (i + 1) n s
        | .ct s => sFor src.1 g m (i + 1) n s
        | .bk s => rtn (.nx s)
        | .rt w => rtn (.rt w)) h1) = .ok f h' := e1
    split at e1'
    · cases e1'
    · rename_i he
      cases e1'
      exact .inl ⟨src_stop rh1 rj1 he, k ρ1 H1 σ1 l1 rh1 rs1⟩
    · rename_i x he
      obtain ⟨s2, h2, e2, e3⟩ := bnd_ok e1'
      obtain ⟨f1, h3, e4, e5⟩ := bnd_ok e3
      obtain ⟨go, yl⟩ := src_go rh1 rj1 he
      refine .inr ⟨go, fun σ3 H3 => ∃ ρ3 h3 sw3, Le X.K ρ H ρ3 H3 ∧ RelH X.K cm ρ3 h3 H3 ∧ RelS X.K ρ3 H3 sw3 σ3 ∧ SrcR X.K ρ3 H3 src.1 J ∧ sFor src.1 g m (i + 1) n sw3 h3 = .ok f h', fun σ3 H3 z => ⟨n, Nat.lt_succ_self n, z⟩, fun v H' y => ?_⟩
      obtain ⟨ly, rhy, rv⟩ := yl v H' y
      have l1 := l1.trans ly
      have rj1 := rj1.mono ly
      refine ⟨ρ1, h1, sw1, x, s2, h2, rhy, rs1.mono ly, rv, e2, fun ρ2 H2 σ2 _ l2 rh2 rs2 => ?_⟩
      refine ⟨ρ2, h2, s2, f1, h3, rh2, rs2, e4, ?_⟩
      cases f1 with
      | nx s => exact fun ρ3 H3 σ3 l3 rh3 rs3 => ⟨ρ3, h3, s, l1.trans (l2.trans l3), rh3, rs3, (rj1.mono l2).mono l3, e5⟩
      | ct s => exact fun ρ3 H3 σ3 l3 rh3 rs3 => ⟨ρ3, h3, s, l1.trans (l2.trans l3), rh3, rs3, (rj1.mono l2).mono l3, e5⟩
      | bk s =>
        cases e5
        exact fun ρ3 H3 σ3 l3 rh3 rs3 => k ρ3 H3 σ3 (l1.trans (l2.trans l3)) rh3 rs3
      | rt w =>
        cases e5
        exact fun ρ3 H3 v l3 rh3 rv => k ρ3 H3 v (l1.trans (l2.trans l3)) rh3 rv
/-- over whatever it is: a list, a tuple, a text -/
def itAny (K : PySem.W.Frag) (tl : TE) : TI := fun σ H R => tl σ H fun x H1 =>
  (∃ a, x = .ref a ∧ (∃ xs, SqL K H1 a xs) ∧ R (Itl K a) H1) ∨ (∃ a, x = .ref a ∧ (∃ xs, SqT K H1 a xs) ∧ R (Itt K a) H1) ∨ ∃ z, x = .str z ∧ R (Its z) H1
theorem pi_any {l : Expr} {tl : TE} (hl : PE X l tl) : PI X tg l (itAny X.K tl) := by
  refine ⟨fun pins s σ H R I q => thn (hl.run pins s σ H _ I q) fun v s1 z => ?_⟩
  obtain ⟨x, H1, I1, r1, z⟩ := z
  rcases z with ⟨a, rfl, ⟨xs, hx⟩, z⟩ | ⟨a, rfl, ⟨xs, hx⟩, z⟩ | ⟨y, rfl, z⟩
  · cases r1
    obtain ⟨its, _, pl, _⟩ := I1.list hx
    exact wpAny_pyIter_list pl.isList (pi_one (tk := s1.toks) I1 _ (turn_list a _) ⟨_, Heap.get?_push_size _ rfl, rfl, rfl⟩ z)
  · cases r1
    obtain ⟨its, _, pl, _⟩ := I1.tuple hx
    exact wpAny_pyIter_tuple pl (pi_one (tk := s1.toks) I1 _ (turn_tuple a _) ⟨_, Heap.get?_push_size _ rfl, rfl, rfl⟩ z)
  · obtain ⟨t, rfl⟩ := r1
    cases hw : y.cps.all (· < 128) with
    | true => exact wpAny_pyIter_ascii hw (pi_one (tk := s1.toks) I1 _ (turn_str _ y t _ (.inl rfl)) ⟨_, Heap.get?_push_size _ rfl, rfl, rfl⟩ z)
    | false => exact wpAny_pyIter_wide hw (pi_one (tk := s1.toks) I1 _ (turn_str _ y t _ (.inr rfl)) ⟨_, Heap.get?_push_size _ rfl, rfl, rfl⟩ z)
def iAny (a : ME) : MI := fun sw => bnd (a sw) fun x h => match x with
  | .ref p => match h[p]? with
    | some (.lst xs) => .ok (.lst p, xs.length) h
    | _ => .no
  | .rol xs => .ok (.rol xs, xs.length) h
  | .tup xs => .ok (.tup xs, xs.length) h
  | .str x => .ok (.str x, x.cps.size) h
  | _ => .no
theorem ri_any {ma : ME} (ha : RE X cm it ma) : RI X cm tg it (iAny ma) := by
  refine piM (pi_any ha) fun σ H R q => ?_
  obtain ⟨ρ, h, sw, src, h', rh, rs, e, k⟩ := q
  obtain ⟨x, h1, e1, e2⟩ := bnd_ok e
  refine ⟨ρ, h, sw, x, h1, rh, rs, e1, fun ρ1 H1 v l1 rh1 rx => ?_⟩
  cases rx with
  | @ref p a hp =>
    obtain ⟨o, ho, ro⟩ := rh1.at (w := .non) hp
    simp only at e2
    rw [ho] at e2
    cases o with
    | lst xs =>
      obtain ⟨vs, ea, rx⟩ := ro
      cases e2
      exact .inl ⟨a, rfl, ⟨vs, .of ea⟩, k ρ1 H1 _ l1 rh1 ⟨a, hp, rfl⟩⟩
    | _ => cases e2
  | rol hq r =>
    cases e2
    exact .inl ⟨_, rfl, ⟨_, hq.sq⟩, k ρ1 H1 _ l1 rh1 ⟨_, _, hq, r, rfl⟩⟩
  | tup hq r =>
    cases e2
    exact .inr (.inl ⟨_, rfl, ⟨_, hq⟩, k ρ1 H1 _ l1 rh1 ⟨_, _, hq, r, rfl⟩⟩)
  | str z =>
    cases e2
    exact .inr (.inr ⟨z, rfl, k ρ1 H1 _ l1 rh1 rfl⟩)
  | _ => cases e2
def big : Int := 4611686018427387904
def iRg1 (a : ME) : MI := fun sw => bnd (a sw) fun x h => match x with
  | .int j => if -big ≤ j ∧ j < big then .ok (.rng 0 j.toNat, j.toNat) h else .no
  | _ => .no
theorem ri_rng1 {a : Expr} {ma : ME} {p : Pos} (hm : X.mg "range" = none) (ha : RE X cm a ma) (hg : Gl X "range" := by rfl) (hs : starEach [a] X.env = [(false, eval a X.env)] := by rfl) (hs' : starEach (a :: []) X.env = (false, eval a X.env) :: starEach [] X.env := by rfl) : RI X cm tg (.Call (.Name "range" p) [a] [] pos) (iRg1 ma) := by
  refine piM (pi_range1 hg hm (ra_cons ha ra_nil hs') hs) fun σ H R q => ?_
  obtain ⟨ρ, h, sw, src, h', rh, rs, e, k⟩ := q
  obtain ⟨x, h1, e1, e2⟩ := bnd_ok e
  refine ⟨ρ, h, sw, [x], h1, rh, rs, ?_, fun ρ1 H1 vs l1 rh1 rx => ?_⟩
  · show bnd (ma sw) _ h = _
    unfold bnd
    rw [e1]
    rfl
  · cases x with
    | int j =>
      cases rx with
      | cons r t =>
        cases r
        cases t
        have e2' : (if -big ≤ j ∧ j < big then EL.R.ok (Src.rng 0 j.toNat, j.toNat) h1 else EL.R.no) = EL.R.ok src h' := e2
        split at e2'
        · rename_i hj
          cases e2'
          exact ⟨j, rfl, hj.1, hj.2, k ρ1 H1 _ l1 rh1 rfl⟩
        · cases e2'
    | _ => cases e2
end
end EL
namespace EL
open PySem PySem.Spec L2
open PyProof.Rows hiding St
def finF (f : Fl) : M W := match f with
  | .rt w => rtn w
  | .nx _ => rtn .non
  | _ => bad
def mFn (n N : Nat) (m : MS) : List W → M W := fun ws => if ws.length = n then bnd (m (ws.map some ++ List.replicate (N - n) none)) finF else bad
theorem relS_start {K : PySem.W.Frag} {ρ : List Addr} {H : Hp} {ws : List W} {vs : List V} {N : List Str} (r : Rels K ρ H ws vs) : RelS K ρ H (ws.map some ++ List.replicate (N.length - ws.length) none) (L2.start N vs) := by
  unfold L2.start
  rw [← r.length]
  refine ⟨by simp [r.length], fun i w e => ?_⟩
  by_cases hi : i < ws.length
  · rw [List.getElem?_append_left (by simpa using hi), List.getElem?_map] at e
    cases hw : ws[i]? with
    | none => rw [hw] at e; cases e
    | some w' =>
      rw [hw] at e
      cases e
      obtain ⟨v, hv, rv⟩ := r.get hw
      refine ⟨v, ?_, rv⟩
      rw [List.getElem?_append_left (by rw [List.length_map, ← r.length]; exact hi), List.getElem?_map, hv]
      rfl
  · rw [List.getElem?_append_right (by simpa using hi)] at e
    rw [List.getElem?_replicate] at e
    split at e <;> cases e
section
variable {P : Program} {w : World} {K : PySem.W.Frag} {mg : Str → Option Value} {base : Heap}
theorem efn {x qual : Str} {st : Stmt} {f : Addr} {fd : FuncData} {N ps : List Str} {k : Nat} {cm : Cm} {m : MS} (F : Fun K x qual st f fd) (S : FnScope N ps (defScope st))
    (hb : ∀ (cdv : Value) (A : Around) (outer : List Env) (s : Shared) (H : Hp) (E : XK), Room k (A.deeper (envOfC qual (defScope st) s.heap.objs.size f cdv)) → RSs (cxOf CX0 P w K mg base N qual (defScope st) f cdv A outer s H E).nox cm (defBody st) m) :
    FnOk P w K mg base CX0 (k + 1) f fd ps (spM K cm (mFn ps.length N.length m)) := by
  refine F.ok S (fun vs H Q E h => ?_) (fun cdv A outer s H vs Q E hr h => ?_)
  · obtain ⟨ρ, h, ws, w, h', rh, rs, e, k⟩ := h
    unfold mFn at e
    split at e
    · rw [← rs.length]
      assumption
    · cases e
  · refine ⟨_, hb cdv A outer s H E hr, ?_⟩
    obtain ⟨ρ, h, ws, w, h', rh, rs, e, k⟩ := h
    unfold mFn at e
    split at e
    · rename_i hl
      obtain ⟨fl, h1, e1, e2⟩ := bnd_ok e
      refine ⟨ρ, h, _, fl, h1, rh, ?_, e1, ?_⟩
      · have q := relS_start (N := N) rs
        rw [hl] at q
        exact q
      · cases fl with
        | rt w =>
          cases e2
          exact k
        | nx s =>
          cases e2
          exact fun ρ' H' σ' l rh' _ => k ρ' H' .non l rh' .non
        | bk s => cases e2
        | ct s => cases e2
    · cases e
end
def wipeW (σ : SW) : List Nat → SW
  | [] => σ
  | v :: vs => (wipeW σ vs).set v none
theorem wipeW_get {sw : SW} {i : Nat} {w : W} : ∀ {vs : List Nat}, (wipeW sw vs)[i]? = some (some w) → sw[i]? = some (some w) ∧ i ∉ vs
  | [], h => ⟨h, by simp⟩
  | v :: vs, h => by
    unfold wipeW at h
    by_cases e : v = i
    · subst e
      rw [List.getElem?_set] at h
      rw [if_pos rfl] at h
      split at h <;> cases h
    · rw [List.getElem?_set_ne e] at h
      obtain ⟨h1, h2⟩ := wipeW_get h
      refine ⟨h1, fun z => ?_⟩
      rcases List.mem_cons.mp z with z | z
      · exact e z.symm
      · exact h2 z
theorem wipeW_len (sw : SW) : ∀ vs : List Nat, (wipeW sw vs).length = sw.length
  | [] => rfl
  | v :: vs => by
    unfold wipeW
    rw [List.length_set]
    exact wipeW_len sw vs
theorem relS_wipe {K : PySem.W.Frag} {ρ : List Addr} {H : Hp} {sw : SW} {σ : St} (r : RelS K ρ H sw σ) (vs : List Nat) : RelS K ρ H (wipeW sw vs) (wipe σ vs) := by
  refine ⟨by rw [wipeW_len, wipe_length]; exact r.1, fun i w e => ?_⟩
  obtain ⟨h1, h2⟩ := wipeW_get e
  obtain ⟨v, hv, rv⟩ := r.2 i w h1
  exact ⟨v, by rw [wipe_out h2]; exact hv, rv⟩
theorem wipe_in {σ : St} {i : Nat} (hi : i < σ.length) : ∀ {vs : List Nat}, i ∈ vs → (wipe σ vs)[i]? = some none
  | [], h => by cases h
  | v :: vs, h => by
    unfold wipe
    by_cases e : v = i
    · subst e
      rw [List.getElem?_set, if_pos rfl, if_pos (by rw [wipe_length]; exact hi)]
    · rw [List.getElem?_set_ne e]
      refine wipe_in hi ?_
      rcases List.mem_cons.mp h with z | z
      · exact absurd z.symm e
      · exact z
theorem wipe_ext {σ σ' : St} {vs : List Nat} (b : But vs (wipe σ vs) σ') : wipe σ' vs = wipe σ vs := by
  have hl : σ'.length = σ.length := b.1.trans (wipe_length σ vs)
  refine List.ext_getElem? fun i => ?_
  by_cases hi : i ∈ vs
  · by_cases hlt : i < σ.length
    · rw [wipe_in (by rw [hl]; exact hlt) hi, wipe_in hlt hi]
    · rw [List.getElem?_eq_none (by rw [wipe_length, hl]; omega), List.getElem?_eq_none (by rw [wipe_length]; omega)]
  · rw [wipe_out hi, b.2 i hi]
def app (d y : W) : M Unit := fun h => match d with
  | .ref p => match h[p]? with
    | some (.lst acc) => if acc.length < lim then .ok () (h.set p (.lst (acc ++ [y]))) else .no
    | _ => .no
  | _ => .no
def lcGo (src : Src) (g : MG) (t : MT) (e : ME) (vs : List Nat) (d : W) (sw : SW) : Nat → Nat → M Unit
  | _, 0 => bad
  | i, n + 1 => fun h => match src.item i h with
    | none => .no
    | some none => .ok () h
    | some (some x) => bnd (g x (wipeW sw vs)) (fun s => bnd (t s) fun b => if b = true then bnd (e s) (fun y => bnd (app d y) fun _ => lcGo src g t e vs d sw (i + 1) n) else lcGo src g t e vs d sw (i + 1) n) h
def mLc (mi : MI) (g : MG) (t : MT) (e : ME) (vs : List Nat) : ME := fun sw => bnd (mi sw) fun src => bnd (alloc (.lst [])) fun d => bnd (lcGo src.1 g t e vs d sw 0 (src.2 + 1)) fun _ => rtn d
def tYs : MT := fun _ => rtn true
theorem app_ok {K : PySem.W.Frag} {cm : Cm} {ρ : List Addr} {h h' : Hw} {H : Hp} {p : Nat} {D : Addr} {y : W} {v : V} (rh : RelH K cm ρ h H) (hp : ρ[p]? = some D) (rv : Rel K ρ H y v) (e : app (.ref p) y h = .ok () h') :
    ∃ acc, H D = some (.lst acc) ∧ acc.length < sizeLine ∧ RelH K cm ρ h' (upd H D (.lst (acc ++ [v]))) ∧ Le K ρ H ρ (upd H D (.lst (acc ++ [v]))) := by
  have e' : (match h[p]? with
    | some (.lst acc) => if acc.length < lim then EL.R.ok () (h.set p (.lst (acc ++ [y]))) else EL.R.no
    | _ => .no) = .ok () h' := e
  obtain ⟨o, ho, ro⟩ := rh.at (w := .non) hp
  rw [ho] at e'
  cases o with
  | lst xs =>
    obtain ⟨vs, ea, rx⟩ := ro
    simp only at e'
    split at e'
    · rename_i hl
      cases e'
      have lu : Le K ρ H ρ (upd H D (.lst (vs ++ [v]))) := le_mut ea trivial
      refine ⟨vs, ea, by rw [← rx.length, ← lim_eq]; exact hl, rh.set hp ea trivial ⟨_, upd_same, ?_⟩, lu⟩
      exact (rx.append (.cons rv .nil)).mono lu
    · cases e'
  | _ => cases e'
section
variable {X : Cx} {cm : Cm} {elt tg it : Expr} {ifs : List Expr} {scope : Scope} {own : List (Str × Nat)} {pos spos : Pos} {mi : MI} {g : MG} {t : MT} {me : ME}
theorem lc_tE {σ : St} {H : Hp} {Q : VK} {vs : List Nat} {G : TG} {T : TT} {E : TE} (q : tE X.K cm (mLc mi g t me vs) σ H Q)
    (hG : ∀ v σ H Q, tG X.K cm vs g v σ H Q → G v σ H Q) (hT : ∀ σ H Q, tT X.K cm t σ H Q → T σ H Q) (hE : ∀ σ H Q, tE X.K cm me σ H Q → E σ H Q) : tLc (tI X.K cm mi) G T E vs σ H Q := by
  obtain ⟨ρ, h, sw, w, h', rh, rs, e, k⟩ := q
  obtain ⟨src, h1, e1, e2⟩ := bnd_ok e
  obtain ⟨d, h2, e3, e4⟩ := bnd_ok e2
  obtain ⟨u, h3, e5, e6⟩ := bnd_ok e4
  cases e6
  cases e3
  refine ⟨ρ, h, sw, src, h1, rh, rs, e1, fun ρ1 H1 J l1 rh1 rj => ?_⟩
  intro D hD
  have l2 : Le X.K ρ1 H1 (ρ1 ++ [D]) (upd H1 D (.lst [])) := (le_new hD).trans (le_app D)
  have rh2 : RelH X.K cm (ρ1 ++ [D]) (h1 ++ [.lst []]) (upd H1 D (.lst [])) := rh1.push hD ⟨[], upd_same, .nil⟩
  refine ⟨fun i n H3 => ∃ ρ3 h3, Le X.K ρ H ρ3 H3 ∧ Le X.K (ρ1 ++ [D]) (upd H1 D (.lst [])) ρ3 H3 ∧ RelH X.K cm ρ3 h3 H3 ∧ SrcR X.K ρ3 H3 src.1 J ∧ lcGo src.1 g t me vs (.ref h1.length) sw i n h3 = .ok u h', ⟨_, ρ1 ++ [D], _, l1.trans l2, .refl, rh2, rj.mono l2, e5⟩, fun i n H3 w => ?_⟩
  obtain ⟨ρ3, h3, l3, m3, rh3, rj3, e7⟩ := w
  have hp : ρ3[h1.length]? = some D := pre_get m3.pre (push_at rh1)
  cases n with
  | zero => cases e7
  | succ n =>
    have e7' : (match src.1.item i h3 with
      | none => (EL.R.no : EL.R Unit)
      | some none => .ok () h3
      | some (some x) => bnd (g x (wipeW sw vs)) (fun s => bnd (t s) fun b => if b = true then bnd (me s) (fun y => bnd (app (.ref h1.length) y) fun _ => lcGo src.1 g t me vs (.ref h1.length) sw (i + 1) n) else lcGo src.1 g t me vs (.ref h1.length) sw (i + 1) n) h3) = .ok u h' := e7
    split at e7'
    · cases e7'
    · rename_i he
      cases e7'
      exact .inl ⟨src_stop rh3 rj3 he, k ρ3 H3 _ l3 rh3 (.ref hp)⟩
    · rename_i x he
      obtain ⟨s2, h4, e8, e9⟩ := bnd_ok e7'
      obtain ⟨b, h5, e10, e11⟩ := bnd_ok e9
      obtain ⟨go, yl⟩ := src_go rh3 rj3 he
      refine .inr ⟨go, fun H6 => ∃ ρ6 h6, Le X.K ρ H ρ6 H6 ∧ Le X.K (ρ1 ++ [D]) (upd H1 D (.lst [])) ρ6 H6 ∧ RelH X.K cm ρ6 h6 H6 ∧ SrcR X.K ρ6 H6 src.1 J ∧ lcGo src.1 g t me vs (.ref h1.length) sw (i + 1) n h6 = .ok u h', fun H6 z => ⟨n, Nat.lt_succ_self n, z⟩, fun v H6 y => ?_⟩
      obtain ⟨ly, rhy, rv⟩ := yl v H6 y
      have l3 := l3.trans ly
      have m3 := m3.trans ly
      have rj3 := rj3.mono ly
      refine hG _ _ _ _ ⟨ρ3, h3, _, x, s2, h4, rhy, relS_wipe (rs.mono l3) vs, rv, e8, fun ρ4 H4 σ4 b4 l4 rh4 rs4 => ⟨wipe_ext b4, ?_⟩⟩
      refine hT _ _ _ ⟨ρ4, h4, s2, b, h5, rh4, rs4, e10, fun ρ5 H5 l5 rh5 => ?_⟩
      have l45 := l4.trans l5
      cases b with
      | false => exact iteF ⟨ρ5, h5, l3.trans l45, m3.trans l45, rh5, rj3.mono l45, e11⟩
      | true =>
        obtain ⟨yw, h6, e12, e13⟩ := bnd_ok e11
        obtain ⟨u2, h7, e14, e15⟩ := bnd_ok e13
        refine iteT (hE _ _ _ ⟨ρ5, h5, s2, yw, h6, rh5, rs4.mono l5, e12, fun ρ6 H6 v6 l6 rh6 rv6 => ?_⟩)
        have l46 := l45.trans l6
        obtain ⟨acc, ea, hl, rh7, l7⟩ := app_ok rh6 (pre_get l46.pre hp) rv6 e14
        have l47 := l46.trans l7
        exact ⟨acc, ea, hl, ρ6, h7, l3.trans l47, m3.trans l47, rh7, rj3.mono l47, e15⟩
theorem re_lc (own : List (Str × Nat)) (hc : X.calm = true) (hN : X.N.Nodup) (hi : RI X cm tg it mi) {N0 : List Str} {sc0 : Scope} (ok : blkC N0 sc0 scope own = true)
    (hg : ∀ (s : Shared) (H : Hp) (C : Addr) (cl : List (Str × Addr)) (fp : List Addr), RG (X.blk s H scope (compEnvC scope cl C X.env) fp) cm (own.map (·.2)) tg g)
    (he : ∀ (s : Shared) (H : Hp) (C : Addr) (cl : List (Str × Addr)) (fp : List Addr), RE (X.blk s H scope (compEnvC scope cl C X.env) fp) cm elt me) (hs : ∀ x, foldedSetIterable it X.env x = pure x := by intro _; rfl) (eN : N0 = X.N := by rfl) (eS : sc0 = X.env.scope := by rfl) :
    RE X cm (.ListComp elt [⟨tg, it, [], 0⟩] scope pos) (mLc mi g tYs me (own.map (·.2))) :=
  peM (pe_lc (own := own) hc hN hi (by rw [← eN, ← eS]; exact blkOk_by ok) hg (fun _ _ _ _ _ => pts_nil) he hs) fun σ H Q q => lc_tE q (fun _ _ _ _ z => z) (fun _ _ _ z => by
    obtain ⟨ρ, h, sw, b, h', rh, rs, e, k⟩ := z
    cases e
    exact k ρ _ .refl rh) (fun _ _ _ z => z)
/-- name = [..] -/
theorem rs_setLc {i : Nat} {y : Str} {py : Pos} (own : List (Str × Nat)) (hc : X.calm = true) (hN : X.N.Nodup) (hi : RI X cm tg it mi) {N0 : List Str} {sc0 : Scope} (ok : blkC N0 sc0 scope own = true)
    (hg : ∀ (s : Shared) (H : Hp) (C : Addr) (cl : List (Str × Addr)) (fp : List Addr), RG (X.blk s H scope (compEnvC scope cl C X.env) fp) cm (own.map (·.2)) tg g)
    (he : ∀ (s : Shared) (H : Hp) (C : Addr) (cl : List (Str × Addr)) (fp : List Addr), RE (X.blk s H scope (compEnvC scope cl C X.env) fp) cm elt me)
    (hy : X.N[i]? = some y := by rfl) (hyl : X.env.scope.names.lookup y = some .local := by rfl) (hsw : swapsWith (.ListComp elt [⟨tg, it, [], 0⟩] scope pos) (some (.Name y py)) spos.line X.env = pure true := by exact sw_true rfl rfl rfl (by decide +kernel)) (hs : ∀ x, foldedSetIterable it X.env x = pure x := by intro _; rfl) (eN : N0 = X.N := by rfl) (eS : sc0 = X.env.scope := by rfl) :
    RS X cm (.Assign [.Name y py] (.ListComp elt [⟨tg, it, [], 0⟩] scope pos) spos) (sAsg (gNm i) (mLc mi g tYs me (own.map (·.2)))) := by
  refine psM (ps_setLc (own := own) (te := tE X.K cm me) (g := tG X.K cm (own.map (·.2)) g) hc hN hy hyl hsw hi (by rw [← eN, ← eS]; exact blkOk_by ok) hg (fun _ _ _ _ _ => pts_nil) he hs) fun D σ H q => ?_
  obtain ⟨ρ, h, sw, f, h', rh, rs, e, k⟩ := q
  obtain ⟨x, h1, e1, e2⟩ := bnd_ok e
  obtain ⟨s, h2, e3, e4⟩ := bnd_ok e2
  cases e4
  cases e3
  refine lc_tE (g := g) (t := tYs) (me := me) ⟨ρ, h, sw, x, h', rh, rs, e1, fun ρ1 H1 v l1 rh1 rv => ?_⟩ (fun _ _ _ _ z => z) (fun _ _ _ z => by
    obtain ⟨ρ, h, sw, b, h', rh, rs, e, k⟩ := z
    cases e
    exact k ρ _ .refl rh) (fun _ _ _ z => z)
  exact k ρ1 H1 _ l1 rh1 ((rs.mono l1).set rv i)
theorem rs_setLc1 {c : Expr} {i : Nat} {y : Str} {py : Pos} (own : List (Str × Nat)) (hc : X.calm = true) (hN : X.N.Nodup) (hi : RI X cm tg it mi) {N0 : List Str} {sc0 : Scope} (ok : blkC N0 sc0 scope own = true)
    (hg : ∀ (s : Shared) (H : Hp) (C : Addr) (cl : List (Str × Addr)) (fp : List Addr), RG (X.blk s H scope (compEnvC scope cl C X.env) fp) cm (own.map (·.2)) tg g)
    (ht : ∀ (s : Shared) (H : Hp) (C : Addr) (cl : List (Str × Addr)) (fp : List Addr), RT (X.blk s H scope (compEnvC scope cl C X.env) fp) cm c t)
    (he : ∀ (s : Shared) (H : Hp) (C : Addr) (cl : List (Str × Addr)) (fp : List Addr), RE (X.blk s H scope (compEnvC scope cl C X.env) fp) cm elt me)
    (hy : X.N[i]? = some y := by rfl) (hyl : X.env.scope.names.lookup y = some .local := by rfl) (hsw : swapsWith (.ListComp elt [⟨tg, it, [c], 0⟩] scope pos) (some (.Name y py)) spos.line X.env = pure true := by exact sw_true rfl rfl rfl (by decide +kernel)) (hs : ∀ x, foldedSetIterable it X.env x = pure x := by intro _; rfl) (eN : N0 = X.N := by rfl) (eS : sc0 = X.env.scope := by rfl) :
    RS X cm (.Assign [.Name y py] (.ListComp elt [⟨tg, it, [c], 0⟩] scope pos) spos) (sAsg (gNm i) (mLc mi g t me (own.map (·.2)))) := by
  refine psM (ps_setLc (own := own) (te := tE X.K cm me) (g := tG X.K cm (own.map (·.2)) g) (tt := tT X.K cm t) hc hN hy hyl hsw hi (by rw [← eN, ← eS]; exact blkOk_by ok) hg (fun _ _ _ _ _ => pts_one (ht _ _ _ _ _)) he hs) fun D σ H q => ?_
  obtain ⟨ρ, h, sw, f, h', rh, rs, e, k⟩ := q
  obtain ⟨x, h1, e1, e2⟩ := bnd_ok e
  obtain ⟨s, h2, e3, e4⟩ := bnd_ok e2
  cases e4
  cases e3
  refine lc_tE (g := g) (t := t) (me := me) ⟨ρ, h, sw, x, h', rh, rs, e1, fun ρ1 H1 v l1 rh1 rv => ?_⟩ (fun _ _ _ _ z => z) (fun _ _ _ z => z) (fun _ _ _ z => z)
  exact k ρ1 H1 _ l1 rh1 ((rs.mono l1).set rv i)
end
end EL
namespace EL
open PySem PySem.Spec L2
open PyProof.Rows hiding St
section
variable {K : PySem.W.Frag} {cm : Cm} {ρ : List Addr} {h h' : Hw} {H : Hp}
/-- a value that leaves the heap as it is -/
theorem KE.at {w : W} {v : V} {Q : VK} (k : KE K cm ρ H w h Q) (rh : RelH K cm ρ h H) (r : Rel K ρ H w v) : Q v H := k ρ H v .refl rh r
/-- a list's items by its place -/
theorem RelH.lst {p : Nat} {a : Addr} {xs : List W} (rh : RelH K cm ρ h H) (hp : ρ[p]? = some a) (e : h[p]? = some (.lst xs)) : ∃ vs, H a = some (.lst vs) ∧ Rels K ρ H xs vs := rh.obj p _ a e hp
end
/-- the items of a list, at a place or standing fast -/
def items (h : Hw) (x : W) : Option (List W) := match x with
  | .ref p => match h[p]? with
    | some (.lst xs) => some xs
    | _ => none
  | .rol xs => some xs
  | _ => none
theorem items_of {K : PySem.W.Frag} {cm : Cm} {ρ : List Addr} {h : Hw} {H : Hp} {x : W} {v : V} {xs : List W} (rh : RelH K cm ρ h H) (r : Rel K ρ H x v) (e : items h x = some xs) :
    ∃ a vs, v = .ref a ∧ SqL K H a vs ∧ Rels K ρ H xs vs := by
  cases r with
  | @ref p a hp =>
    have e' : (match h[p]? with
      | some (.lst xs) => some xs
      | _ => none) = some xs := e
    split at e'
    · rename_i ys hy
      cases e'
      obtain ⟨vs, ea, rx⟩ := rh.lst hp hy
      exact ⟨a, vs, rfl, .of ea, rx⟩
    · cases e'
  | rol hq r =>
    cases e
    exact ⟨_, _, rfl, hq.sq, r⟩
  | _ => cases e
def mulOk (i j : Int) : Bool := decide (i.natAbs.log2 + j.natAbs.log2 < 1000000) || (decide (-18446744073709551616 < i) && decide (i < 18446744073709551616)) || (decide (-18446744073709551616 < j) && decide (j < 18446744073709551616))
def fAdd : W → W → M W
  | .int i, .int j => rtn (.int (i + j))
  | .str x, .str y => if x.length + y.length ≤ lim then rtn (.str (x ++ y)) else bad
  | .ref p, .ref q => fun h => match h[p]?, h[q]? with
    | some (.lst xs), some (.lst ys) => if xs.length + ys.length ≤ lim then alloc (.lst (xs ++ ys)) h else .no
    | _, _ => .no
  | .tup xs, .tup ys => if xs.isEmpty = false ∧ xs.length + ys.length ≤ lim then rtn (.tup (xs ++ ys)) else bad
  | _, _ => bad
def fSub : W → W → M W
  | .int i, .int j => rtn (.int (i - j))
  | _, _ => bad
def fMul : W → W → M W
  | .int i, .int j => if mulOk i j = true then rtn (.int (i * j)) else bad
  | _, _ => bad
def fDiv : W → W → M W
  | .int i, .int j => if 0 < j ∧ j.natAbs.log2 < 9000 then rtn (.int (i / j)) else bad
  | _, _ => bad
def fMod : W → W → M W
  | .int i, .int j => if 0 < j then rtn (.int (i % j)) else bad
  | _, _ => bad
def fPow : W → W → M W
  | .int i, .int j => if (0 ≤ j ∧ j ≤ 1000000) ∧ i.natAbs < 18446744073709551616 then rtn (.int (i ^ j.toNat)) else bad
  | _, _ => bad
section
variable {X : Cx} {cm : Cm}
theorem oAdd : OpR X (binaryOp .Add) (fun x y H Q => rI0 (fun i j => .int (i + j)) x y H Q ∨ (∃ i j, x = .str i ∧ y = .str j ∧ i.length + j.length ≤ sizeLine ∧ Q (.str (i ++ j)) H) ∨ rCat x y H Q ∨ rCatT X.K x y H Q) := op_add.or (op_add_str.or (op_cat.or op_catT))
theorem wAdd : OpW X.K cm (fun x y H Q => rI0 (fun i j => .int (i + j)) x y H Q ∨ (∃ i j, x = .str i ∧ y = .str j ∧ i.length + j.length ≤ sizeLine ∧ Q (.str (i ++ j)) H) ∨ rCat x y H Q ∨ rCatT X.K x y H Q) fAdd := by
  intro ρ h H x y x' y' z h' Q rh rx ry e k
  cases rx with
  | int i =>
    cases ry with
    | int j => cases e; exact .inl ⟨i, j, rfl, rfl, k.at rh (.int _)⟩
    | _ => cases e
  | str i =>
    cases ry with
    | str j =>
      have e' : (if i.length + j.length ≤ lim then rtn (W.str (i ++ j)) else bad) h = .ok z h' := e
      split at e'
      · rename_i hl
        cases e'
        exact .inr (.inl ⟨i, j, rfl, rfl, by rw [← lim_eq]; exact hl, k.at rh (.str _)⟩)
      · cases e'
    | _ => cases e
  | @ref p a hp =>
    cases ry with
    | @ref q b hq =>
      have e' : (match h[p]?, h[q]? with
        | some (.lst xs), some (.lst ys) => if xs.length + ys.length ≤ lim then alloc (.lst (xs ++ ys)) h else EL.R.no
        | _, _ => EL.R.no) = .ok z h' := e
      split at e'
      · rename_i xs ys h1 h2
        obtain ⟨vs, ea, r1⟩ := rh.lst hp h1
        obtain ⟨us, eb, r2⟩ := rh.lst hq h2
        split at e'
        · rename_i hl
          cases e'
          exact .inr (.inr (.inl ⟨a, b, vs, us, rfl, rfl, ea, eb, by rw [← r1.length, ← r2.length, ← lim_eq]; exact hl, fun p' hp' => new_lst rh (r1.append r2) hp' k⟩))
        · cases e'
      · cases e'
    | _ => cases e
  | @tup ws vs a hq r1 n1 =>
    cases ry with
    | @tup us ts b hq2 r2 n2 =>
      have e' : (if ws.isEmpty = false ∧ ws.length + us.length ≤ lim then rtn (W.tup (ws ++ us)) else bad) h = .ok z h' := e
      split at e'
      · rename_i hl
        cases e'
        refine .inr (.inr (.inr ⟨a, b, vs, ts, rfl, rfl, hq, hq2, fun z => ?_, by rw [← r1.length, ← r2.length, ← lim_eq]; exact hl.2, fun z => ?_, fun _ p hp => ?_⟩))
        · subst z
          cases r1
          simp at hl
        · subst z
          cases r2
          refine k.at rh (.tup hq ?_ n1)
          rw [List.append_nil]
          exact r1
        · exact new_tup rh (r1.append r2) hp k
      · cases e'
    | _ => cases e
  | _ => cases e
theorem wIntC {C : Int → Int → Prop} {g : Int → Int → W} {gv : Int → Int → V} {f : W → W → M W} (hg : ∀ ρ H i j, Rel X.K ρ H (g i j) (gv i j)) (hf : ∀ x y h z h', f x y h = .ok z h' → ∃ i j, x = .int i ∧ y = .int j ∧ C i j ∧ z = g i j ∧ h' = h) : OpW X.K cm (rI C gv) f := by
  intro ρ h H x y x' y' z h' Q rh rx ry e k
  obtain ⟨i, j, rfl, rfl, c, rfl, rfl⟩ := hf _ _ _ _ _ e
  cases rx
  cases ry
  exact ⟨i, j, rfl, rfl, c, k.at rh (hg ρ H i j)⟩
theorem oMul : OpR X (binaryOp .Mult) (fun x y H Q => rI CMulW (fun i j => .int (i * j)) x y H Q ∨ rI CMul (fun i j => .int (i * j)) x y H Q) := op_mulW.or op_mul
theorem wMul : OpW X.K cm (fun x y H Q => rI CMulW (fun i j => .int (i * j)) x y H Q ∨ rI CMul (fun i j => .int (i * j)) x y H Q) fMul := by
  intro ρ h H x y x' y' z h' Q rh rx ry e k
  cases rx with
  | int i =>
    cases ry with
    | int j =>
      have e' : (if mulOk i j = true then rtn (W.int (i * j)) else bad) h = .ok z h' := e
      split at e'
      · rename_i hl
        cases e'
        have q := k.at rh (.int (i * j))
        unfold mulOk at hl
        simp only [Bool.or_eq_true, Bool.and_eq_true, decide_eq_true_eq] at hl
        rcases hl with (hl | hl) | hl
        · exact .inl ⟨i, j, rfl, rfl, hl, q⟩
        · exact .inr ⟨i, j, rfl, rfl, .inl ⟨by omega, by omega⟩, q⟩
        · exact .inr ⟨i, j, rfl, rfl, .inr ⟨by omega, by omega⟩, q⟩
      · cases e'
    | _ => cases e
  | _ => cases ry <;> cases e
theorem wDiv : OpW X.K cm (rI CDivW fun i j => .int (i / j)) fDiv := wIntC (g := fun i j => .int (i / j)) (fun _ _ _ _ => .int _) fun x y h z h' e => by
  cases x <;> cases y <;> first | cases e | skip
  rename_i i j
  have e' : (if 0 < j ∧ j.natAbs.log2 < 9000 then rtn (W.int (i / j)) else bad) h = .ok z h' := e
  split at e'
  · rename_i hl
    cases e'
    exact ⟨_, _, rfl, rfl, hl, rfl, rfl⟩
  · cases e'
theorem wMod : OpW X.K cm (rI (fun _ j => 0 < j) fun i j => .int (i % j)) fMod := wIntC (g := fun i j => .int (i % j)) (fun _ _ _ _ => .int _) fun x y h z h' e => by
  cases x <;> cases y <;> first | cases e | skip
  rename_i i j
  have e' : (if 0 < j then rtn (W.int (i % j)) else bad) h = .ok z h' := e
  split at e'
  · rename_i hl
    cases e'
    exact ⟨_, _, rfl, rfl, hl, rfl, rfl⟩
  · cases e'
theorem wPow : OpW X.K cm (rI CPow fun i j => .int (i ^ j.toNat)) fPow := wIntC (g := fun i j => .int (i ^ j.toNat)) (fun _ _ _ _ => .int _) fun x y h z h' e => by
  cases x <;> cases y <;> first | cases e | skip
  rename_i i j
  have e' : (if (0 ≤ j ∧ j ≤ 1000000) ∧ i.natAbs < 18446744073709551616 then rtn (W.int (i ^ j.toNat)) else bad) h = .ok z h' := e
  split at e'
  · rename_i hl
    cases e'
    exact ⟨_, _, rfl, rfl, ⟨hl.1.1, hl.1.2, by omega⟩, rfl, rfl⟩
  · cases e'
end
def fNeg : W → M W
  | .int i => rtn (.int (-i))
  | _ => bad
section
variable {X : Cx} {cm : Cm}
theorem re_neg {a : Expr} {ma : ME} {pos : Pos} (ha : RE X cm a ma) : RE X cm (.UnaryOp .USub a pos) (mUn fNeg ma) := by
  refine peM (pe_un un_neg ha) fun σ H Q q => ?_
  obtain ⟨ρ, h, sw, w, h', rh, rs, e, k⟩ := q
  obtain ⟨x, h1, e1, e2⟩ := bnd_ok e
  refine ⟨ρ, h, sw, x, h1, rh, rs, e1, fun ρ1 H1 v l1 rh1 rx => ?_⟩
  cases rx with
  | int i =>
    cases e2
    exact ⟨i, rfl, k ρ1 H1 _ l1 rh1 (.int _)⟩
  | _ => cases e2
theorem hu65 {k : Nat} {A : Around} (r : Room k A) : A.units + 65 < cLine := by
  have := r.un
  omega
end
def fCmp (pi : Int → Int → Bool) (ps : List Nat → List Nat → Bool) : W → W → M W
  | .int i, .int j => rtn (.bl (pi i j))
  | .str x, .str y => rtn (.bl (ps x.cps.toList y.cps.toList))
  | _, _ => bad
def fLt := fCmp (fun i j => decide (i < j)) (fun x y => decide (x < y))
def fLe := fCmp (fun i j => decide (i ≤ j)) (fun x y => !decide (y < x))
def fGt := fCmp (fun i j => decide (j < i)) (fun x y => decide (y < x))
def fGe := fCmp (fun i j => decide (j ≤ i)) (fun x y => !decide (x < y))
def rCmp (pi : Int → Int → Bool) (ps : List Nat → List Nat → Bool) : R2 := fun x y H Q => rI0 (fun i j => .bl (pi i j)) x y H Q ∨ ∃ i j : Str, x = .str i ∧ y = .str j ∧ Q (.bl (ps i.cps.toList j.cps.toList)) H
section
variable {X : Cx} {cm : Cm}
theorem wCmp {pi : Int → Int → Bool} {ps : List Nat → List Nat → Bool} : OpW X.K cm (rCmp pi ps) (fCmp pi ps) := by
  intro ρ h H x y x' y' z h' Q rh rx ry e k
  cases rx with
  | int i =>
    cases ry with
    | int j => cases e; exact .inl ⟨i, j, rfl, rfl, k.at rh (.bl _)⟩
    | _ => cases e
  | str i =>
    cases ry with
    | str j => cases e; exact .inr ⟨i, j, rfl, rfl, k.at rh (.bl _)⟩
    | _ => cases e
  | _ => cases ry <;> cases e
theorem oLt : OpR X (compareOp .Lt) (rCmp (fun i j => decide (i < j)) (fun x y => decide (x < y))) := op_lt.or op_lt_str
theorem oLe : OpR X (compareOp .LtE) (rCmp (fun i j => decide (i ≤ j)) (fun x y => !decide (y < x))) := op_le.or op_le_str
theorem oGt : OpR X (compareOp .Gt) (rCmp (fun i j => decide (j < i)) (fun x y => decide (y < x))) := op_gt.or op_gt_str
theorem oGe : OpR X (compareOp .GtE) (rCmp (fun i j => decide (j ≤ i)) (fun x y => !decide (x < y))) := op_ge.or op_ge_str
end
/-- is, is not: None and truths -/
def fIs (neg : Bool) : W → W → M W
  | .bl a, .bl b => rtn (.bl (neg != decide (a = b)))
  | x, .non => match x with
    | .non => rtn (.bl (!neg))
    | _ => rtn (.bl neg)
  | _, _ => bad
section
variable {X : Cx} {cm : Cm}
theorem oIs : OpR X (compareOp .Is) (fun x y H Q => rIsB x y H Q ∨ (y = .non ∧ Q (.bl (decide (x = .non))) H)) := op_isBl.or op_isN
theorem wIs : OpW X.K cm (fun x y H Q => rIsB x y H Q ∨ (y = .non ∧ Q (.bl (decide (x = .non))) H)) (fIs false) := by
  intro ρ h H x y x' y' z h' Q rh rx ry e k
  cases ry with
  | bl b =>
    cases rx with
    | bl a =>
      cases e
      refine .inl ⟨a, b, rfl, rfl, ?_⟩
      have q := k.at rh (.bl _)
      simpa using q
    | _ => cases e
  | non =>
    refine .inr ⟨rfl, ?_⟩
    cases rx <;> (cases e; exact k.at rh (.bl _))
  | _ => cases rx <;> cases e
end
def mapO {α β : Type} (f : α → Option β) : List α → Option (List β)
  | [] => some []
  | x :: xs => match f x, mapO f xs with
    | some y, some ys => some (y :: ys)
    | _, _ => none
def toD (h : Hw) : Nat → W → Option PyData
  | _, .non => some .none
  | _, .bl b => some (.bool b)
  | _, .int i => some (.int i)
  | _, .str x => some (.str x)
  | n + 1, .tup ws => (mapO (toD h n) ws).map .tuple
  | n + 1, .rol ws => (mapO (toD h n) ws).map .list
  | n + 1, .ref p => match h[p]? with
    | some (.lst xs) => (mapO (toD h n) xs).map .list
    | _ => none
  | 0, _ => none
theorem map_dp {K : PySem.W.Frag} {ρ : List Addr} {H : Hp} {f : W → Option PyData} (hf : ∀ w v d, Rel K ρ H w v → f w = some d → Dp K H v d) : ∀ {ws : List W} {vs : List V} {ds : List PyData}, Rels K ρ H ws vs → mapO f ws = some ds → DpAll K H vs ds
  | _, _, _, .nil, e => by cases e; exact .nil
  | _, _, ds, .cons r t, e => by
    unfold mapO at e
    split at e
    · rename_i y ys e1 e2
      cases e
      exact .cons (hf _ _ _ r e1) (map_dp hf t e2)
    · cases e
theorem toD_dp {K : PySem.W.Frag} {cm : Cm} {ρ : List Addr} {h : Hw} {H : Hp} (rh : RelH K cm ρ h H) : ∀ (n : Nat) (w : W) (v : V) (d : PyData), Rel K ρ H w v → toD h n w = some d → Dp K H v d := by
  intro n
  induction n with
  | zero =>
    intro w v d r e
    cases r with
    | non => cases e; exact .non
    | bl b => cases e; exact .bl b
    | int i => cases e; exact .int i
    | str x => cases e; exact .str x
    | _ => cases e
  | succ n ih =>
    intro w v d r e
    cases r with
    | non => cases e; exact .non
    | bl b => cases e; exact .bl b
    | int i => cases e; exact .int i
    | str x => cases e; exact .str x
    | tup hq r =>
      unfold toD at e
      cases q : mapO (toD h n) _ with
      | none => rw [q] at e; cases e
      | some ds =>
        rw [q] at e
        cases e
        exact .tup hq (map_dp ih r q)
    | rol hq r =>
      unfold toD at e
      cases q : mapO (toD h n) _ with
      | none => rw [q] at e; cases e
      | some ds =>
        rw [q] at e
        cases e
        exact .lst hq.sq (map_dp ih r q)
    | @ref p a hp =>
      unfold toD at e
      split at e
      · rename_i xs hx
        obtain ⟨vs, ea, rx⟩ := rh.lst hp hx
        cases q : mapO (toD h n) xs with
        | none => rw [q] at e; cases e
        | some ds =>
          rw [q] at e
          cases e
          exact .lst (.of ea) (map_dp ih rx q)
      · cases e
def fIn (neg : Bool) : W → W → M W
  | .str x, .str y => rtn (.bl (neg != !(Builtin.Str.occurrences y x 0 y.length 1).isEmpty))
  | x, y => fun h => match toD h 8 x, toD h 8 y with
    | some d, some (.list ds) => if (SeqAt.shaped d && SeqAt.shaped (.list ds)) = true then .ok (.bl (neg != ds.any fun z => PyData.eqv z d)) h else .no
    | _, _ => .no
section
variable {X : Cx} {cm : Cm}
theorem fIn_data {neg : Bool} {x y : W} {h h' : Hw} {z : W} (e : fIn neg x y h = .ok z h') : (∃ a b, x = .str a ∧ y = .str b ∧ z = .bl (neg != !(Builtin.Str.occurrences b a 0 b.length 1).isEmpty) ∧ h' = h) ∨
    ∃ d ds, toD h 8 x = some d ∧ toD h 8 y = some (.list ds) ∧ SeqAt.shaped d = true ∧ SeqAt.shaped (.list ds) = true ∧ z = .bl (neg != ds.any fun z => PyData.eqv z d) ∧ h' = h := by
  unfold fIn at e
  split at e
  · cases e
    exact .inl ⟨_, _, rfl, rfl, rfl, rfl⟩
  · dsimp only at e
    split at e
    · split at e
      · rename_i hs
        cases e
        rw [Bool.and_eq_true] at hs
        exact .inr ⟨_, _, by assumption, by assumption, hs.1, hs.2, rfl, rfl⟩
      · cases e
    · cases e
theorem oIn (hu : X.A.units + 65 < cLine) : OpR X (compareOp .In) (fun x y H Q => (∃ i j, x = .str i ∧ y = .str j ∧ Q (.bl (!(Builtin.Str.occurrences j i 0 j.length 1).isEmpty)) H) ∨ rInD X.K x y H Q) := op_in_str.or (op_inD hu)
theorem wIn : OpW X.K cm (fun x y H Q => (∃ i j, x = .str i ∧ y = .str j ∧ Q (.bl (!(Builtin.Str.occurrences j i 0 j.length 1).isEmpty)) H) ∨ rInD X.K x y H Q) (fIn false) := by
  intro ρ h H x y x' y' z h' Q rh rx ry e k
  rcases fIn_data e with ⟨a, b, rfl, rfl, rfl, rfl⟩ | ⟨d, ds, e1, e2, s1, s2, rfl, rfl⟩
  · cases rx
    cases ry
    have q := k.at rh (.bl _)
    exact .inl ⟨_, _, rfl, rfl, by simpa using q⟩
  · have q := k.at rh (.bl _)
    exact .inr ⟨d, ds, toD_dp rh _ _ _ _ rx e1, toD_dp rh _ _ _ _ ry e2, s1, s2, by simpa using q⟩
end
def fIx (x y : W) : M W := fun h => match y with
  | .int i => match x with
    | .tup xs => match atI xs i with
      | some w => .ok w h
      | none => .no
    | .str z => if z.length ≤ lim then match atI z.cps.toList i with
      | some c => .ok (.str ⟨#[c]⟩) h
      | none => .no
      else .no
    | x => match items h x with
      | some xs => match atI xs i with
        | some w => .ok w h
        | none => .no
      | none => .no
  | _ => .no
theorem atI_rel {K : PySem.W.Frag} {ρ : List Addr} {H : Hp} {ws : List W} {vs : List V} {i : Int} {w : W} (r : Rels K ρ H ws vs) (e : atI ws i = some w) : ∃ v, atI vs i = some v ∧ Rel K ρ H w v := by
  unfold atI at e ⊢
  rw [r.length] at e
  cases q : ixN vs.length i with
  | none => rw [q] at e; cases e
  | some j =>
    rw [q] at e
    exact r.get e
section
variable {X : Cx} {cm : Cm}
theorem wIx : OpW X.K cm (rIx X.K) fIx := by
  intro ρ h H x y x' y' z h' Q rh rx ry e k
  cases ry with
  | int i =>
    have lst : ∀ {xs : List W}, items h x = some xs → (match atI xs i with
        | some w => EL.R.ok w h
        | none => EL.R.no) = .ok z h' → rIx X.K x' (.int i) H Q := fun {xs} hi e => by
      obtain ⟨a, vs, rfl, hq, rl⟩ := items_of rh rx hi
      split at e
      · rename_i w hw
        cases e
        obtain ⟨v, hv, rv⟩ := atI_rel rl hw
        exact .inl ⟨a, vs, i, v, rfl, rfl, hq, hv, k.at rh rv⟩
      · cases e
    cases rx with
    | @tup us vs a hq r =>
      have e' : (match atI us i with
        | some w => EL.R.ok w h
        | none => EL.R.no) = .ok z h' := e
      split at e'
      · rename_i w hw
        cases e'
        obtain ⟨v, hv, rv⟩ := atI_rel r hw
        exact .inr (.inl ⟨_, _, i, v, rfl, rfl, hq, hv, k.at rh rv⟩)
      · cases e'
    | str s =>
      have e' : (if s.length ≤ lim then (match atI s.cps.toList i with
        | some c => EL.R.ok (W.str ⟨#[c]⟩) h
        | none => EL.R.no) else EL.R.no) = .ok z h' := e
      split at e'
      · rename_i hl
        split at e'
        · rename_i c hc
          cases e'
          exact .inr (.inr ⟨s, i, c, rfl, rfl, by rw [← lim_eq]; exact hl, hc, k.at rh (.str _)⟩)
        · cases e'
      · cases e'
    | @ref p a hp =>
      have e' : (match items h (.ref p) with
        | some xs => (match atI xs i with
          | some w => EL.R.ok w h
          | none => EL.R.no)
        | none => EL.R.no) = .ok z h' := e
      split at e'
      · exact lst (by assumption) e'
      · cases e'
    | @rol ws vs a hq r =>
      have e' : (match items h (.rol ws) with
        | some xs => (match atI xs i with
          | some w => EL.R.ok w h
          | none => EL.R.no)
        | none => EL.R.no) = .ok z h' := e
      split at e'
      · exact lst (by assumption) e'
      · cases e'
    | _ => cases e
  | _ => cases e
theorem re_ix {a b : Expr} {ma mb : ME} {pos : Pos} (ha : RE X cm a ma) (hb : RE X cm b mb) (hs : PlainIx b := by exact fun _ _ => rfl) : RE X cm (.Subscript a b pos) (mBin fIx ma mb) :=
  peM (pe_ix ix_seq ha hb hs) fun _ _ _ => op_tE wIx
/-- an optional part -/
abbrev MO := SW → M (Option Int)
def oNo : MO := fun _ => rtn none
def oSo (a : ME) : MO := fun sw => bnd (a sw) fun x => match x with
  | .int i => rtn (some i)
  | _ => bad
def tOo (K : PySem.W.Frag) (cm : Cm) (m : MO) : TO := fun σ H Q => ∃ ρ h sw o h', RelH K cm ρ h H ∧ RelS K ρ H sw σ ∧ m sw h = .ok o h' ∧ ∀ ρ' H', Le K ρ H ρ' H' → RelH K cm ρ' h' H' → Q o H'
abbrev RO (X : Cx) (cm : Cm) (e : Option Expr) (m : MO) : Prop := PO X e (tOo X.K cm m)
theorem poM {X : Cx} {e : Option Expr} {t t' : TO} (p : PO X e t) (f : ∀ σ H Q, t' σ H Q → t σ H Q) : PO X e t' := ⟨fun pins s σ H Q I q => p.run pins s σ H Q I (f σ H Q q)⟩
theorem ro_no : RO X cm none oNo := by
  refine poM po_none fun σ H Q q => ?_
  obtain ⟨ρ, h, sw, o, h', rh, rs, e, k⟩ := q
  cases e
  exact k ρ H .refl rh
theorem ro_so {a : Expr} {ma : ME} (ha : RE X cm a ma) : RO X cm (some a) (oSo ma) := by
  refine poM (po_some ha) fun σ H Q q => ?_
  obtain ⟨ρ, h, sw, o, h', rh, rs, e, k⟩ := q
  obtain ⟨x, h1, e1, e2⟩ := bnd_ok e
  refine ⟨ρ, h, sw, x, h1, rh, rs, e1, fun ρ1 H1 x' l1 rh1 rx => ?_⟩
  cases x with
  | int i =>
    cases rx
    cases e2
    exact ⟨i, rfl, k ρ1 H1 l1 rh1⟩
  | _ => cases e2
def cutW (xs : List W) (lo hi : Option Int) : List W := (xs.drop (HT.sIx xs.length 0 lo)).take (HT.sIx xs.length xs.length hi - HT.sIx xs.length 0 lo)
theorem cut_rel {K : PySem.W.Frag} {ρ : List Addr} {H : Hp} {ws : List W} {vs : List V} (r : Rels K ρ H ws vs) (lo hi : Option Int) : Rels K ρ H (cutW ws lo hi) (cutV vs lo hi) := by
  unfold cutW cutV
  rw [r.length]
  exact (r.drop _).take _
def fSl (x : W) (lo hi : Option Int) : M W := fun h => match x with
  | .str z => if z.length ≤ lim then .ok (.str (cutS z lo hi)) h else .no
  | .tup xs => if HT.sIx xs.length 0 lo = 0 ∧ HT.sIx xs.length xs.length hi = xs.length then .no else .ok (.tup (cutW xs lo hi)) h
  | x => match items h x with
    | some xs => alloc (.lst (cutW xs lo hi)) h
    | none => .no
def mSl (a : ME) (l u : MO) : ME := fun sw => bnd (a sw) fun x => bnd (l sw) fun lo => bnd (u sw) fun hi => fSl x lo hi
theorem re_sl {a : Expr} {ma : ME} {lo hi : Option Expr} {ml mh : MO} {pos p2 : Pos} (ha : RE X cm a ma) (hl : RO X cm lo ml) (hu : RO X cm hi mh) : RE X cm (.Subscript a (.Slice lo hi none p2) pos) (mSl ma ml mh) := by
  refine peM (pe_slice (sl_list.or (sl_tup.or sl_str)) ha hl hu) fun σ H Q q => ?_
  obtain ⟨ρ, h, sw, w, h', rh, rs, e, k⟩ := q
  obtain ⟨x, h1, e1, e2⟩ := bnd_ok e
  obtain ⟨l, h2, e3, e4⟩ := bnd_ok e2
  obtain ⟨u, h3, e5, e6⟩ := bnd_ok e4
  refine ⟨ρ, h, sw, x, h1, rh, rs, e1, fun ρ1 H1 x' l1 rh1 rx => ?_⟩
  refine ⟨ρ1, h1, sw, l, h2, rh1, rs.mono l1, e3, fun ρ2 H2 l2 rh2 => ?_⟩
  refine ⟨ρ2, h2, sw, u, h3, rh2, rs.mono (l1.trans l2), e5, fun ρ3 H3 l3 rh3 => ?_⟩
  have rx3 := rx.mono (l2.trans l3)
  have k3 : KE X.K cm ρ3 H3 w h' Q := fun ρ4 H4 v l4 => k ρ4 H4 v ((l1.trans l2).trans (l3.trans l4))
  have lst : (match items h3 x with
    | some xs => alloc (.lst (cutW xs l u)) h3
    | none => EL.R.no) = .ok w h' → rSlL X.K x' l u H3 Q := fun e => by
    split at e
    · rename_i xs hi
      cases e
      obtain ⟨a, vs, rfl, hq, rl⟩ := items_of rh3 rx3 hi
      exact ⟨a, vs, rfl, hq, fun p hp => new_lst rh3 (cut_rel rl l u) hp k3⟩
    · cases e
  cases rx3 with
  | str z =>
    have e' : (if z.length ≤ lim then EL.R.ok (W.str (cutS z l u)) h3 else EL.R.no) = .ok w h' := e6
    split at e'
    · rename_i hl
      cases e'
      exact .inr (.inr ⟨z, rfl, by rw [← lim_eq]; exact hl, k3.at rh3 (.str _)⟩)
    · cases e'
  | @tup ws vs a hq r =>
    have e' : (if HT.sIx ws.length 0 l = 0 ∧ HT.sIx ws.length ws.length u = ws.length then EL.R.no else EL.R.ok (W.tup (cutW ws l u)) h3) = .ok w h' := e6
    split at e'
    · cases e'
    · rename_i hl
      cases e'
      rw [r.length] at hl
      exact .inr (.inl ⟨a, vs, rfl, hq, hl, fun p hp => new_tup rh3 (cut_rel r l u) hp k3⟩)
  | ref hp => exact .inl (lst e6)
  | rol hq r => exact .inl (lst e6)
  | _ => cases e6
end
section
variable {X : Cx} {cm : Cm}
theorem one_of {K : PySem.W.Frag} {ρ : List Addr} {H : Hp} {w : W} {vs : List V} (r : Rels K ρ H [w] vs) : ∃ v, vs = [v] ∧ Rel K ρ H w v := by
  cases r with
  | cons r t =>
    cases t
    exact ⟨_, rfl, r⟩
theorem two_of {K : PySem.W.Frag} {ρ : List Addr} {H : Hp} {w u : W} {vs : List V} (r : Rels K ρ H [w, u] vs) : ∃ v x, vs = [v, x] ∧ Rel K ρ H w v ∧ Rel K ρ H u x := by
  cases r with
  | cons r t =>
    cases t with
    | cons r2 t =>
      cases t
      exact ⟨_, _, rfl, r, r2⟩
def bLen : List W → M W
  | [x] => fun h => match x with
    | .str z => if z.length ≤ lim then .ok (.int z.length) h else .no
    | .tup xs => .ok (.int xs.length) h
    | x => match items h x with
      | some xs => .ok (.int xs.length) h
      | none => .no
  | _ => bad
theorem oLen : CallR X (.builtin "len") (fun xs H Q => (∃ p ys, xs = [.ref p] ∧ (SqL X.K H p ys ∨ SqT X.K H p ys) ∧ Q (.int ys.length) H) ∨ ∃ z, xs = [.str z] ∧ z.length ≤ sizeLine ∧ Q (.int z.length) H) := call_len_seq.or call_len_str
theorem wLen : CallW X.K cm (fun xs H Q => (∃ p ys, xs = [.ref p] ∧ (SqL X.K H p ys ∨ SqT X.K H p ys) ∧ Q (.int ys.length) H) ∨ ∃ z, xs = [.str z] ∧ z.length ≤ sizeLine ∧ Q (.int z.length) H) bLen := by
  intro ρ h H ws vs z h' Q rh r e k
  cases ws with
  | nil => cases e
  | cons x t =>
    cases t with
    | cons _ _ => cases e
    | nil =>
      obtain ⟨v, rfl, rx⟩ := one_of r
      have lst : (match items h x with
        | some xs => EL.R.ok (W.int xs.length) h
        | none => EL.R.no) = .ok z h' → (∃ p ys, [v] = [.ref p] ∧ (SqL X.K H p ys ∨ SqT X.K H p ys) ∧ Q (.int ys.length) H) := fun e => by
        split at e
        · rename_i xs hi
          cases e
          obtain ⟨a, vs, rfl, hq, rl⟩ := items_of rh rx hi
          refine ⟨a, vs, rfl, .inl hq, ?_⟩
          rw [← rl.length]
          exact k.at rh (.int _)
        · cases e
      cases rx with
      | str s =>
        have e' : (if s.length ≤ lim then EL.R.ok (W.int s.length) h else EL.R.no) = .ok z h' := e
        split at e'
        · rename_i hl
          cases e'
          exact .inr ⟨s, rfl, by rw [← lim_eq]; exact hl, k.at rh (.int _)⟩
        · cases e'
      | @tup us ts a hq r2 =>
        cases e
        refine .inl ⟨_, _, rfl, .inr hq, ?_⟩
        rw [← Rels.length r2]
        exact k.at rh (.int _)
      | ref hp => exact .inl (lst e)
      | rol hq r => exact .inl (lst e)
      | _ => cases e
def bAbs : List W → M W
  | [.int i] => rtn (.int (if i < 0 then -i else i))
  | _ => bad
theorem wAbs : CallW X.K cm (fun xs H Q => ∃ i, xs = [.int i] ∧ Q (.int (if i < 0 then -i else i)) H) bAbs := by
  intro ρ h H ws vs z h' Q rh r e k
  unfold bAbs at e
  split at e
  · cases e
    obtain ⟨v, rfl, rx⟩ := one_of r
    cases rx
    exact ⟨_, rfl, k.at rh (.int _)⟩
  · cases e
def bInt : List W → M W
  | [.int i] => rtn (.int i)
  | [.bl b] => rtn (.int (if b then 1 else 0))
  | _ => bad
theorem wInt1 : CallW X.K cm (fun xs H Q => (∃ i, xs = [.int i] ∧ Q (.int i) H) ∨ ∃ k, xs = [.bl k] ∧ Q (.int (if k then 1 else 0)) H) bInt := by
  intro ρ h H ws vs z h' Q rh r e k
  unfold bInt at e
  split at e
  · cases e
    obtain ⟨v, rfl, rx⟩ := one_of r
    cases rx
    exact .inl ⟨_, rfl, k.at rh (.int _)⟩
  · cases e
    obtain ⟨v, rfl, rx⟩ := one_of r
    cases rx
    exact .inr ⟨_, rfl, k.at rh (.int _)⟩
  · cases e
def wInts : List W → Option (List Int) := mapO fun w => match w with
  | .int i => some i
  | _ => none
theorem wInts_of : ∀ {ws : List W} {ns : List Int}, wInts ws = some ns → ws = ns.map W.int
  | [], ns, e => by
    cases e
    rfl
  | w :: ws, ns, e => by
    unfold wInts mapO at e
    split at e
    · rename_i y ys e1 e2
      cases e
      have q : ws = ys.map W.int := wInts_of (ws := ws) e2
      cases w <;> cases e1
      rw [List.map_cons, ← q]
    · cases e
def bSum : List W → M W
  | [x] => fun h => match items h x with
    | some xs => match wInts xs with
      | some ns => .ok (.int ns.sum) h
      | none => .no
    | none => .no
  | _ => bad
theorem wSum : CallW X.K cm (rSum X.K) bSum := by
  intro ρ h H ws vs z h' Q rh r e k
  cases ws with
  | nil => cases e
  | cons x t =>
    cases t with
    | cons _ _ => cases e
    | nil =>
      obtain ⟨v, rfl, rx⟩ := one_of r
      have e' : (match items h x with
        | some xs => (match wInts xs with
          | some ns => EL.R.ok (W.int ns.sum) h
          | none => EL.R.no)
        | none => EL.R.no) = .ok z h' := e
      split at e'
      · rename_i xs hi
        split at e'
        · rename_i ns hn
          cases e'
          obtain ⟨a, us, rfl, hq, rl⟩ := items_of rh rx hi
          have q := wInts_of hn
          subst q
          rw [Rels.of_ints rl] at hq
          exact ⟨a, ns, rfl, hq, k.at rh (.int _)⟩
        · cases e'
      · cases e'
def bMax : List W → M W
  | [.int i, .int j] => rtn (.int (if j > i then j else i))
  | _ => bad
theorem wMax : CallW X.K cm (fun xs H Q => ∃ i j, xs = [.int i, .int j] ∧ Q (.int (if j > i then j else i)) H) bMax := by
  intro ρ h H ws vs z h' Q rh r e k
  unfold bMax at e
  split at e
  · cases e
    obtain ⟨v, u, rfl, rx, ry⟩ := two_of r
    cases rx
    cases ry
    exact ⟨_, _, rfl, k.at rh (.int _)⟩
  · cases e
def bMin : List W → M W
  | [.int i, .int j] => rtn (.int (if j < i then j else i))
  | _ => bad
theorem wMin : CallW X.K cm (fun xs H Q => ∃ i j, xs = [.int i, .int j] ∧ Q (.int (if j < i then j else i)) H) bMin := by
  intro ρ h H ws vs z h' Q rh r e k
  unfold bMin at e
  split at e
  · cases e
    obtain ⟨v, u, rfl, rx, ry⟩ := two_of r
    cases rx
    cases ry
    exact ⟨_, _, rfl, k.at rh (.int _)⟩
  · cases e
def wBls : List W → Option (List Bool) := mapO fun w => match w with
  | .bl i => some i
  | _ => none
theorem wBls_of : ∀ {ws : List W} {ns : List Bool}, wBls ws = some ns → ws = ns.map W.bl
  | [], ns, e => by
    cases e
    rfl
  | w :: ws, ns, e => by
    unfold wBls mapO at e
    split at e
    · rename_i y ys e1 e2
      cases e
      have q : ws = ys.map W.bl := wBls_of (ws := ws) e2
      cases w <;> cases e1
      rw [List.map_cons, ← q]
    · cases e
def bAll : List W → M W
  | [x] => fun h => match items h x with
    | some xs => match wBls xs with
      | some ns => .ok (.bl (ns.all id)) h
      | none => .no
    | none => .no
  | _ => bad
theorem wAll : CallW X.K cm (rAll X.K) bAll := by
  intro ρ h H ws vs z h' Q rh r e k
  cases ws with
  | nil => cases e
  | cons x t =>
    cases t with
    | cons _ _ => cases e
    | nil =>
      obtain ⟨v, rfl, rx⟩ := one_of r
      have e' : (match items h x with
        | some xs => (match wBls xs with
          | some ns => EL.R.ok (W.bl (ns.all id)) h
          | none => EL.R.no)
        | none => EL.R.no) = .ok z h' := e
      split at e'
      · rename_i xs hi
        split at e'
        · rename_i ns hn
          cases e'
          obtain ⟨a, us, rfl, hq, rl⟩ := items_of rh rx hi
          have q := wBls_of hn
          subst q
          rw [Rels.of_bls rl] at hq
          exact ⟨a, ns, rfl, hq, k.at rh (.bl _)⟩
        · cases e'
      · cases e'
/-- repr of a truth -/
def bRepr : List W → M W
  | [.bl b] => rtn (.str (if b then Str.ofString "True" else Str.ofString "False"))
  | [.non] => rtn (.str (Str.ofString "None"))
  | [.int i] => if i.natAbs.log2 < 1920 then rtn (.str (toString i)) else bad
  | [.str x] => if (reprText x).length ≤ lim then rtn (.str (reprText x)) else bad
  | _ => bad
end
def tyName (h : Hw) (x : W) : Option String := match x with
  | .non => some "NoneType"
  | .bl _ => some "bool"
  | .int _ => some "int"
  | .str _ => some "str"
  | .tup _ => some "tuple"
  | .rol _ => some "list"
  | .ref p => match h[p]? with
    | some (.lst _) => some "list"
    | some (.dK _) => some "dict"
    | some (.dF _) => some "dict"
    | _ => none
theorem tyX_of {K : PySem.W.Frag} {cm : Cm} {ρ : List Addr} {h : Hw} {H : Hp} {x : W} {v : V} {n : String} (rh : RelH K cm ρ h H) (r : Rel K ρ H x v) (e : tyName h x = some n) : TyX K H v (.type n) := by
  cases r with
  | non => cases e; exact .base .non
  | bl b => cases e; exact .base (.bl b)
  | int i => cases e; exact .base (.int i)
  | str s => cases e; exact .base (.str s)
  | tup hq r =>
    cases e
    rcases hq with (hq | ⟨o, hq⟩) | ⟨o, its, n, hk, hc, _⟩
    · exact .base (.tup hq)
    · exact .fTuple hq
    · exact .kTuple hk hc
  | rol hq r =>
    cases e
    rcases hq with ⟨o, hq⟩ | ⟨o, its, n, hk, hc, _⟩
    · exact .base (.frz hq)
    · exact .kList hk hc
  | @ref p a hp =>
    have e' : (match h[p]? with
      | some (.lst _) => some "list"
      | some (.dK _) => some "dict"
      | some (.dF _) => some "dict"
      | _ => none) = some n := e
    obtain ⟨o, ho, ro⟩ := rh.at (w := .non) hp
    rw [ho] at e'
    cases o with
    | lst xs =>
      cases e'
      obtain ⟨vs, ea, _⟩ := ro
      exact .base (.lst ea)
    | dK kvs =>
      cases e'
      obtain ⟨kv, ea, _⟩ := ro
      exact .base (.dK ea)
    | dF kvs =>
      cases e'
      obtain ⟨o, kv, ea, _⟩ := ro
      exact .fDict ea
    | _ => cases e'
/-- isinstance(x, T), T a built-in type -/
def mIsi (T : String) (a : ME) : ME := fun sw => bnd (a sw) fun x h => match tyName h x with
  | some n => match kitB n T with
    | some b => .ok (.bl b) h
    | none => .no
  | none => .no
section
variable {X : Cx} {cm : Cm} {a b : Expr} {ma : ME} {pos p : Pos}
theorem re_isi {T : String} {x : Str} {p2 : Pos} (hm : X.mg "isinstance" = none) (hT : X.mg x = none) (ha : RE X cm a ma) (hv : bootBuiltins x = some (.type T) := by decide +kernel) (hg : Gl X "isinstance" := by rfl) (hg2 : Gl X x := by rfl) (hn : x ≠ "__name__" := by decide) (hd : (x == ("__debug__" : Str)) = false := by decide)
    (hs1 : starEach (a :: [.Name x p2]) X.env = (false, eval a X.env) :: starEach [.Name x p2] X.env := by rfl) (hs2 : starEach (.Name x p2 :: []) X.env = (false, eval (.Name x p2) X.env) :: starEach [] X.env := by rfl) (hpl : (backTo pos (starEach [.Name x p2] X.env)).any (·.1) = false := by rfl) :
    RE X cm (.Call (.Name "isinstance" p) [a, .Name x p2] [] pos) (mIsi T ma) := by
  refine peM (pe_callB call_isi hg hm (by decide +kernel) (pa_cons ha (pa_cons (pe_bltn (v := .ty T) hg2 hT hv rfl hn hd) pa_nil hs2) hs1) (by decide) (by decide) hs1 hpl) fun σ H Q q => ?_
  obtain ⟨ρ, h, sw, w, h', rh, rs, e, k⟩ := q
  obtain ⟨y, h1, e1, e2⟩ := bnd_ok e
  refine ⟨ρ, h, sw, y, h1, rh, rs, e1, fun ρ1 H1 v l1 rh1 rx => ?_⟩
  split at e2
  · rename_i n hn'
    split at e2
    · rename_i bb hb
      cases e2
      exact ⟨v, .ty T, .type n, .type T, bb, rfl, .ty T, tyX_of rh1 rx hn', kit_ty hb, k ρ1 H1 _ l1 rh1 (.bl bb)⟩
    · cases e2
  · cases e2
/-- a < b < c -/
def mCh (f g : W → W → M W) (a b c : ME) : ME := fun sw => bnd (a sw) fun x => bnd (b sw) fun y => bnd (f x y) fun z => match z with
  | .bl true => bnd (c sw) fun u => g y u
  | .bl false => rtn (.bl false)
  | _ => bad
theorem ch_tE {c : Expr} {mb mc : ME} {r r' : R2} {f g : W → W → M W} (ow : OpW X.K cm r f) (ow' : OpW X.K cm r' g) {σ : St} {H : Hp} {Q : VK} (q : tE X.K cm (mCh f g ma mb mc) σ H Q) : tChain r r' (tE X.K cm ma) (tE X.K cm mb) (tE X.K cm mc) σ H Q := by
  obtain ⟨ρ, h, sw, w, h', rh, rs, e, k⟩ := q
  obtain ⟨x, h1, e1, e2⟩ := bnd_ok e
  obtain ⟨y, h2, e3, e4⟩ := bnd_ok e2
  obtain ⟨z, h3, e5, e6⟩ := bnd_ok e4
  refine ⟨ρ, h, sw, x, h1, rh, rs, e1, fun ρ1 H1 x' l1 rh1 rx => ?_⟩
  refine ⟨ρ1, h1, sw, y, h2, rh1, rs.mono l1, e3, fun ρ2 H2 y' l2 rh2 ry => ?_⟩
  refine ow ρ2 h2 H2 x y x' y' z h3 _ rh2 (rx.mono l2) ry e5 fun ρ3 H3 z' l3 rh3 rz => ?_
  have l13 := l1.trans (l2.trans l3)
  cases z with
  | bl b =>
    cases rz
    cases b with
    | false =>
      cases e6
      exact ⟨false, rfl, iteF (k ρ3 H3 _ l13 rh3 (.bl false))⟩
    | true =>
      obtain ⟨u, h4, e7, e8⟩ := bnd_ok e6
      refine ⟨true, rfl, iteT ⟨ρ3, h3, sw, u, h4, rh3, rs.mono l13, e7, fun ρ4 H4 u' l4 rh4 ru => ?_⟩⟩
      exact ow' ρ4 h4 H4 y u y' u' w h' Q rh4 (ry.mono (l3.trans l4)) ru e8 fun ρ5 H5 v l5 => k ρ5 H5 v (l13.trans (l4.trans l5))
  | _ => cases e6
theorem re_ch {c : Expr} {mb mc : ME} {op op' : CmpOp} {r r' : R2} {f g : W → W → M W} (ho : OpR X (compareOp op) r) (ow : OpW X.K cm r f) (ho' : OpR X (compareOp op') r') (ow' : OpW X.K cm r' g) (ha : RE X cm a ma) (hb : RE X cm b mb) (hc : RE X cm c mc)
    (hm : lastMarks [op, op'] [b, c] = false := by with_unfolding_all rfl) : RE X cm (.Compare a [op, op'] [b, c] pos) (mCh f g ma mb mc) :=
  peM (pe_chain ho ho' ha hb hc hm) fun _ _ _ => ch_tE (c := c) ow ow'
theorem rt_ch {c : Expr} {mb mc : ME} {op op' : CmpOp} {r r' : R2} {f g : W → W → M W} (ho : OpR X (compareOp op) r) (ow : OpW X.K cm r f) (ho' : OpR X (compareOp op') r') (ow' : OpW X.K cm r' g) (ha : RE X cm a ma) (hb : RE X cm b mb) (hc : RE X cm c mc)
    (hm : lastMarks [op, op'] [b, c] = false := by with_unfolding_all rfl) : RT X cm (.Compare a [op, op'] [b, c] pos) (tVal (mCh f g ma mb mc)) :=
  ptM (pt_chain ho ho' ha hb hc hm) fun σ H Q q => test_of (fun Q' => ch_tE (c := c) ow ow') q
end
end EL
namespace EL
open PySem PySem.Spec L2
open PyProof.Rows hiding St
section
variable {X : Cx} {cm : Cm} {e a b c o : Expr} {es : List Expr} {ma mb mo : ME} {mr : MA} {pos apos : Pos}
def mDnew : ME := fun _ => alloc (.dK [])
/-- xs.append(y) -/
def fApp (x y : W) : M W := fun h => match x with
  | .ref p => match h[p]? with
    | some (.lst acc) => if acc.length < lim then .ok .non (h.set p (.lst (acc ++ [y]))) else .no
    | _ => .no
  | _ => .no
def chkL (x : W) : M Unit := fun h => match x with
  | .ref p => match h[p]? with
    | some (.lst _) => .ok () h
    | _ => .no
  | _ => .no
def mApp (a b : ME) : ME := fun sw => bnd (a sw) fun x => bnd (chkL x) fun _ => bnd (b sw) fun y => fApp x y
theorem chkL_of {p : Nat} {h h' : Hw} {u : Unit} (e : chkL (.ref p) h = .ok u h') : h' = h ∧ ∃ xs, h[p]? = some (.lst xs) := by
  have e' : (match h[p]? with
    | some (.lst _) => EL.R.ok () h
    | _ => EL.R.no) = .ok u h' := e
  split at e'
  · rename_i xs hx
    cases e'
    exact ⟨rfl, xs, hx⟩
  · cases e'
theorem re_append (ha : RE X cm a ma) (hb : RE X cm b mb) (hbase : attributeBase a "append" X.env (eval a X.env) = eval a X.env := by rfl)
    (hfew : ((backTo pos (starEach [b] X.env)).all (fun x => !x.1) && (backToKw pos (keywordEach [] X.env)).all (fun x => x.1.isSome) && decide ([b].length + ([] : List Keyword).length + (if ([] : List Keyword).isEmpty then 0 else 1) < 30)) = true := by rfl)
    (hline : (apos.endLine == pos.line) = true := by rfl) (hs : starEach (b :: []) X.env = (false, eval b X.env) :: starEach [] X.env := by rfl) (hpl : (backTo pos (starEach [] X.env)).any (·.1) = false := by rfl) :
    RE X cm (.Call (.Attribute a "append" apos) [b] [] pos) (mApp ma mb) := by
  refine peM (pe_bm PySem.F.plainAttrs_list PySem.F.slot_list_append PySem.F.type_list_append mt_append ha (pa_cons hb pa_nil hs) hbase hfew hline hs hpl) fun σ H Q q => ?_
  obtain ⟨ρ, h, sw, w, h', rh, rs, e, k⟩ := q
  obtain ⟨x, h1, e1, e2⟩ := bnd_ok e
  obtain ⟨u0, h0, e0, e2⟩ := bnd_ok e2
  obtain ⟨y, h2, e3, e4⟩ := bnd_ok e2
  have key : ∀ {p : Nat}, x = .ref p → ∃ acc, h2[p]? = some (.lst acc) ∧ acc.length < lim ∧ w = .non ∧ h' = h2.set p (.lst (acc ++ [y])) := fun {p} ex => by
    subst ex
    have e4' : (match h2[p]? with
      | some (.lst acc) => if acc.length < lim then EL.R.ok W.non (h2.set p (.lst (acc ++ [y]))) else EL.R.no
      | _ => .no) = .ok w h' := e4
    split at e4'
    · rename_i acc ha
      split at e4'
      · cases e4'
        exact ⟨acc, ha, by assumption, rfl, rfl⟩
      · cases e4'
    · cases e4'
  refine ⟨ρ, h, sw, x, h1, rh, rs, e1, fun ρ1 H1 x' l1 rh1 rx => ?_⟩
  cases rx with
  | @ref p A hp =>
    obtain ⟨eh, xs, hx⟩ := chkL_of e0
    subst eh
    obtain ⟨vs0, ea0, _⟩ := rh1.lst hp hx
    refine ⟨.inl ⟨rfl, vs0, .of ea0⟩, ρ1, _, sw, y, h2, rh1, rs.mono l1, e3, fun ρ2 H2 y' l2 rh2 ry => ?_⟩
    obtain ⟨acc, ha, hl, rfl, rfl⟩ := key rfl
    obtain ⟨vs, ea, rv⟩ := rh2.lst (pre_get l2.pre hp) ha
    have lu : Le X.K ρ2 H2 ρ2 (upd H2 A (.lst (vs ++ [y']))) := le_mut ea trivial
    refine ⟨A, vs, y', rfl, rfl, ea, by rw [← rv.length, ← lim_eq]; exact hl, k ρ2 _ .non (l1.trans (l2.trans lu)) (rh2.set (pre_get l2.pre hp) ea trivial ⟨_, upd_same, ?_⟩) .non⟩
    exact (rv.append (.cons ry .nil)).mono lu
  | _ => cases e4
/-- a, b = x, y -/
def sPar2 (i j : Nat) (a : MA) : MS := fun sw => bnd (a sw) fun ws => match ws with
  | [x, y] => rtn (.nx ((sw.set i (some x)).set j (some y)))
  | _ => bad
theorem rs_par2 (i j : Nat) {x y : Str} {px py pt : Pos} {kt k2 pt2} (hN : X.N.Nodup) (ha : RA X cm [a, b] mr) (hc : X.calm = true := by rfl) (hi : X.N[i]? = some x := by rfl) (hj : X.N[j]? = some y := by rfl) (hij : i ≠ j := by decide) (hx : X.env.scope.names.lookup x = some .local := by rfl) (hy : X.env.scope.names.lookup y = some .local := by rfl)
    (hw : swappedStores [.Tuple [.Name x px, .Name y py] kt pt] (.Tuple [a, b] k2 pt2) X.env = pure (some [x, y]) := by rfl) (hs : swapsWithSole [.Tuple [.Name x px, .Name y py] kt pt] (.Tuple [a, b] k2 pt2) pos.line X.env = pure false := by rfl) :
    RS X cm (.Assign [.Tuple [.Name x px, .Name y py] kt pt] (.Tuple [a, b] k2 pt2) pos) (sPar2 i j mr) := by
  refine psM (ps_par hc hN hi hj hij hx hy ha hw hs) fun D σ H q => ?_
  obtain ⟨ρ, h, sw, f, h', rh, rs, e, k⟩ := q
  obtain ⟨ws, h1, e1, e2⟩ := bnd_ok e
  refine ⟨ρ, h, sw, ws, h1, rh, rs, e1, fun ρ1 H1 vs l1 rh1 rx => ?_⟩
  split at e2
  · cases e2
    obtain ⟨v, u, rfl, r1, r2⟩ := two_of rx
    exact ⟨v, u, rfl, k ρ1 H1 _ l1 rh1 (((rs.mono l1).set r1 i).set r2 j)⟩
  · cases e2
/-- a, b, c = x, y, z -/
def sPar3 (i j l : Nat) (a : MA) : MS := fun sw => bnd (a sw) fun ws => match ws with
  | [x, y, z] => rtn (.nx (((sw.set i (some x)).set j (some y)).set l (some z)))
  | _ => bad
theorem rs_par3 (i j l : Nat) {x y z : Str} {px py pz pt : Pos} {kt k2 pt2} (hN : X.N.Nodup) (ha : RA X cm [a, b, c] mr) (hc : X.calm = true := by rfl) (hi : X.N[i]? = some x := by rfl) (hj : X.N[j]? = some y := by rfl) (hl : X.N[l]? = some z := by rfl) (hij : i ≠ j := by decide) (hil : i ≠ l := by decide) (hjl : j ≠ l := by decide)
    (hx : X.env.scope.names.lookup x = some .local := by rfl) (hy : X.env.scope.names.lookup y = some .local := by rfl) (hz : X.env.scope.names.lookup z = some .local := by rfl)
    (hw : swappedStores [.Tuple [.Name x px, .Name y py, .Name z pz] kt pt] (.Tuple [a, b, c] k2 pt2) X.env = pure (some [x, y, z]) := by rfl) (hs : swapsWithSole [.Tuple [.Name x px, .Name y py, .Name z pz] kt pt] (.Tuple [a, b, c] k2 pt2) pos.line X.env = pure false := by rfl) :
    RS X cm (.Assign [.Tuple [.Name x px, .Name y py, .Name z pz] kt pt] (.Tuple [a, b, c] k2 pt2) pos) (sPar3 i j l mr) := by
  refine psM (ps_par3 hc hN hi hj hl hij hil hjl hx hy hz ha hw hs) fun D σ H q => ?_
  obtain ⟨ρ, h, sw, f, h', rh, rs, e, k⟩ := q
  obtain ⟨ws, h1, e1, e2⟩ := bnd_ok e
  refine ⟨ρ, h, sw, ws, h1, rh, rs, e1, fun ρ1 H1 vs l1 rh1 rx => ?_⟩
  split at e2
  · cases e2
    cases rx with
    | cons r1 t =>
      obtain ⟨v, u, rfl, r2, r3⟩ := two_of t
      exact ⟨_, v, u, rfl, k ρ1 H1 _ l1 rh1 ((((rs.mono l1).set r1 i).set r2 j).set r3 l)⟩
  · cases e2
end
end EL
namespace EL
open PySem PySem.Spec L2
open PyProof.Rows hiding St
theorem okT {A B : Prop} (p : A) : (true = true → A) ∧ (true = false → B) := ⟨fun _ => p, fun z => nomatch z⟩
theorem okF {A B : Prop} (p : B) : (false = true → A) ∧ (false = false → B) := ⟨fun z => (nomatch z), fun _ => p⟩
theorem okNT {A B : Prop} (p : B) : ((!true) = true → A) ∧ ((!true) = false → B) := ⟨fun z => (nomatch z), fun _ => p⟩
theorem okNF {A B : Prop} (p : A) : ((!false) = true → A) ∧ ((!false) = false → B) := ⟨fun _ => p, fun z => nomatch z⟩
theorem okLim {xs : List W} {A : Prop} (e : Nat.ble xs.length lim = true) (p : A) : xs.length ≤ lim ∧ A := ⟨Nat.le_of_ble_eq_true e, p⟩
theorem okE {b : Bool} {A : Bool → Prop} (p : A b) : ∃ k, W.bl b = W.bl k ∧ A k := ⟨b, rfl, p⟩
theorem okEI {b : Int} {A : Int → Prop} (p : A b) : ∃ k, W.int b = W.int k ∧ A k := ⟨b, rfl, p⟩
def Ok {α : Type} (m : M α) (h : Hw) (P : α → Hw → Prop) : Prop := ∃ a h', m h = .ok a h' ∧ P a h'
theorem Ok.imp {α : Type} {m : M α} {h : Hw} {P P' : α → Hw → Prop} (o : Ok m h P) (f : ∀ a h', P a h' → P' a h') : Ok m h P' :=
  let ⟨a, h', e, p⟩ := o
  ⟨a, h', e, f a h' p⟩
theorem ok_rtn {α : Type} {a : α} {h : Hw} {P : α → Hw → Prop} (p : P a h) : Ok (rtn a) h P := ⟨a, h, rfl, p⟩
theorem ok_bnd {α β : Type} {m : M α} {f : α → M β} {h : Hw} {P : β → Hw → Prop} (o : Ok m h fun a h1 => Ok (f a) h1 P) : Ok (bnd m f) h P := by
  obtain ⟨a, h1, e, b, h2, e2, p⟩ := o
  exact ⟨b, h2, by unfold bnd; rw [e]; exact e2, p⟩
section
variable {sw : SW} {h : Hw} {P : W → Hw → Prop} {PB : Bool → Hw → Prop} {PF : Fl → Hw → Prop} {PL : List W → Hw → Prop} {a b c : ME} {t u : MT} {ma mr : MA} {f g : W → W → M W} {s s' : MS}
theorem ok_var {i : Nat} {w : W} (e : sw[i]? = some (some w)) (p : P w h) : Ok (mVar i sw) h P := ⟨w, h, by unfold mVar; rw [e], p⟩
theorem ok_c {w : W} (p : P w h) : Ok (mC w sw) h P := ⟨w, h, rfl, p⟩
theorem ok_bin (o : Ok (a sw) h fun x h1 => Ok (b sw) h1 fun y h2 => Ok (f x y) h2 P) : Ok (mBin f a b sw) h P :=
  ok_bnd (o.imp fun _ _ o => ok_bnd o)
theorem ok_un {f : W → M W} (o : Ok (a sw) h fun x h1 => Ok (f x) h1 P) : Ok (mUn f a sw) h P := ok_bnd o
theorem ok_ch (o : Ok (a sw) h fun x h1 => Ok (b sw) h1 fun y h2 => Ok (f x y) h2 fun z h3 => ∃ k, z = .bl k ∧ (k = true → Ok (c sw) h3 fun v h4 => Ok (g y v) h4 P) ∧ (k = false → P (.bl false) h3)) : Ok (mCh f g a b c sw) h P :=
  ok_bnd (o.imp fun _ _ o => ok_bnd (o.imp fun _ _ o => ok_bnd (o.imp fun z h3 o => by
    obtain ⟨k, rfl, o1, o2⟩ := o
    cases k with
    | true => exact ok_bnd (o1 rfl)
    | false => exact ok_rtn (o2 rfl))))
theorem ok_aNil (p : PL [] h) : Ok (aNil sw) h PL := ok_rtn p
theorem ok_aCons (o : Ok (a sw) h fun x h1 => Ok (mr sw) h1 fun xs h2 => PL (x :: xs) h2) : Ok (aCons a mr sw) h PL := ok_bnd (o.imp fun _ _ o => ok_bnd (o.imp fun _ _ p => ok_rtn p))
theorem ok_call {f : List W → M W} (o : Ok (mr sw) h fun ws h1 => Ok (f ws) h1 P) : Ok (mCall f mr sw) h P := ok_bnd o
theorem ok_tup (o : Ok (mr sw) h fun ws h1 => ws.length ≤ lim ∧ P (.tup ws) h1) : Ok (mTup mr sw) h P := ok_bnd (o.imp fun _ _ o => by
  rw [if_pos o.1]
  exact ok_rtn o.2)
theorem ok_lst (o : Ok (mr sw) h fun ws h1 => ws.length ≤ lim ∧ P (.ref h1.length) (h1 ++ [.lst ws])) : Ok (mLst mr sw) h P := ok_bnd (o.imp fun _ _ o => by
  rw [if_pos o.1]
  exact ⟨_, _, rfl, o.2⟩)
theorem ok_dnew (p : P (.ref h.length) (h ++ [.dK []])) : Ok (mDnew sw) h P := ⟨_, _, rfl, p⟩
theorem ok_tVal (o : Ok (a sw) h fun x h1 => ∃ k, x = .bl k ∧ PB k h1) : Ok (tVal a sw) h PB := ok_bnd (o.imp fun x _ o => by
  obtain ⟨k, rfl, p⟩ := o
  exact ok_rtn p)
theorem ok_tTru (o : Ok (a sw) h fun x h1 => Ok (tru x) h1 PB) : Ok (tTru a sw) h PB := ok_bnd o
theorem ok_tru_bl {k : Bool} (p : PB k h) : Ok (tru (.bl k)) h PB := ⟨k, h, rfl, p⟩
theorem ok_tNot (o : Ok (t sw) h fun x h1 => PB (!x) h1) : Ok (tNot t sw) h PB := ok_bnd (o.imp fun _ _ p => ok_rtn p)
theorem ok_tAnd (o : Ok (t sw) h fun x h1 => (x = true → Ok (u sw) h1 PB) ∧ (x = false → PB false h1)) : Ok (tAnd t u sw) h PB := ok_bnd (o.imp fun x _ o => by
  cases x with
  | true => rw [if_pos rfl]; exact o.1 rfl
  | false => rw [if_neg Bool.false_ne_true]; exact ok_rtn (o.2 rfl))
theorem ok_tOr (o : Ok (t sw) h fun x h1 => (x = true → PB true h1) ∧ (x = false → Ok (u sw) h1 PB)) : Ok (tOr t u sw) h PB := ok_bnd (o.imp fun x _ o => by
  cases x with
  | true => rw [if_pos rfl]; exact ok_rtn (o.1 rfl)
  | false => rw [if_neg Bool.false_ne_true]; exact o.2 rfl)
theorem ok_mAnd (o : Ok (a sw) h fun x h1 => ∃ k, x = .bl k ∧ (k = true → Ok (b sw) h1 P) ∧ (k = false → P (.bl false) h1)) : Ok (mAnd a b sw) h P := ok_bnd (o.imp fun x _ o => by
  obtain ⟨k, rfl, o⟩ := o
  cases k with
  | true => exact o.1 rfl
  | false => exact ok_rtn (o.2 rfl))
theorem ok_mOr (o : Ok (a sw) h fun x h1 => ∃ k, x = .bl k ∧ (k = true → P (.bl true) h1) ∧ (k = false → Ok (b sw) h1 P)) : Ok (mOr a b sw) h P := ok_bnd (o.imp fun x _ o => by
  obtain ⟨k, rfl, o⟩ := o
  cases k with
  | true => exact ok_rtn (o.1 rfl)
  | false => exact o.2 rfl)
theorem ok_mNot (o : Ok (a sw) h fun x h1 => ∃ k, x = .bl k ∧ P (.bl (!k)) h1) : Ok (mNot a sw) h P := ok_bnd (o.imp fun x _ o => by
  obtain ⟨k, rfl, p⟩ := o
  exact ok_rtn p)
theorem ok_mIf (o : Ok (t sw) h fun x h1 => (x = true → Ok (a sw) h1 P) ∧ (x = false → Ok (b sw) h1 P)) : Ok (mIf t a b sw) h P := ok_bnd (o.imp fun x _ o => by
  cases x with
  | true => rw [if_pos rfl]; exact o.1 rfl
  | false => rw [if_neg Bool.false_ne_true]; exact o.2 rfl)
theorem ok_sSeq (o : Ok (s sw) h fun f h1 => match f with
    | .nx s1 => Ok (s' s1) h1 PF
    | f => PF f h1) : Ok (sSeq s s' sw) h PF := ok_bnd (o.imp fun f _ o => by
  cases f with
  | nx s1 => exact o
  | rt w => exact ok_rtn o
  | bk s1 => exact ok_rtn o
  | ct s1 => exact ok_rtn o)
theorem ok_sNil (p : PF (.nx sw) h) : Ok (sNil sw) h PF := ok_rtn p
theorem ok_sIf (o : Ok (t sw) h fun x h1 => (x = true → Ok (s sw) h1 PF) ∧ (x = false → Ok (s' sw) h1 PF)) : Ok (sIf t s s' sw) h PF := ok_bnd (o.imp fun x _ o => by
  cases x with
  | true => rw [if_pos rfl]; exact o.1 rfl
  | false => rw [if_neg Bool.false_ne_true]; exact o.2 rfl)
theorem ok_sRet (o : Ok (a sw) h fun x h1 => PF (.rt x) h1) : Ok (sRet a sw) h PF := ok_bnd (o.imp fun _ _ p => ok_rtn p)
theorem ok_sExp (o : Ok (a sw) h fun x h1 => PF (.nx sw) h1) : Ok (sExp a sw) h PF := ok_bnd (o.imp fun _ _ p => ok_rtn p)
theorem ok_sAsg {g : MG} (o : Ok (a sw) h fun x h1 => Ok (g x sw) h1 fun s h2 => PF (.nx s) h2) : Ok (sAsg g a sw) h PF := ok_bnd (o.imp fun _ _ o => ok_bnd (o.imp fun _ _ p => ok_rtn p))
theorem ok_gNm' {i : Nat} {w : W} {s0 : SW} {PS : SW → Hw → Prop} (e : sw.set i (some w) = s0) (p : PS s0 h) : Ok (gNm i w sw) h PS := by
  subst e
  exact ok_rtn p
theorem ok_gsCons {g : MG} {r : List W → SW → M SW} {w : W} {ws : List W} {PS : SW → Hw → Prop} (o : Ok (g w sw) h fun s h1 => Ok (r ws s) h1 PS) : Ok (gsCons g r (w :: ws) sw) h PS := ok_bnd o
theorem ok_gsNil {PS : SW → Hw → Prop} (p : PS sw h) : Ok (gsNil [] sw) h PS := ok_rtn p
theorem ok_gSubL {w : W} {PS : SW → Hw → Prop} (o : Ok (a sw) h fun x h1 => Ok (b sw) h1 fun y h2 => Ok (wSet x y w) h2 fun _ h3 => PS sw h3) : Ok (gSubL a b w sw) h PS :=
  ok_bnd (o.imp fun _ _ o => ok_bnd (o.imp fun _ _ o => ok_bnd (o.imp fun _ _ p => ok_rtn p)))
theorem ok_mFn {n N : Nat} {m : MS} {ws : List W} (e : ws.length = n) (o : Ok (m (ws.map some ++ List.replicate (N - n) none)) h fun f h1 => match f with
    | .rt w => P w h1
    | .nx _ => P .non h1
    | _ => False) : Ok (mFn n N m ws) h P := by
  unfold mFn
  rw [if_pos e]
  exact ok_bnd (o.imp fun f h1 o => by
    cases f with
    | rt w => exact ok_rtn o
    | nx s => exact ok_rtn o
    | bk s => exact o.elim
    | ct s => exact o.elim)
theorem ok_mFn' {n N : Nat} {m : MS} {ws : List W} {s0 : SW} (e : ws.length = n) (e2 : ws.map some ++ List.replicate (N - n) none = s0) (o : Ok (m s0) h fun f h1 => match f with
    | .rt w => P w h1
    | .nx _ => P .non h1
    | _ => False) : Ok (mFn n N m ws) h P := by
  subst e2
  exact ok_mFn e o
theorem ok_addI {i j : Int} (p : P (.int (i + j)) h) : Ok (fAdd (.int i) (.int j)) h P := ok_rtn p
theorem ok_subI {i j : Int} (p : P (.int (i - j)) h) : Ok (fSub (.int i) (.int j)) h P := ok_rtn p
theorem ok_negI {i : Int} (p : P (.int (-i)) h) : Ok (fNeg (.int i)) h P := ok_rtn p
theorem mulOk_l {i j : Int} (h1 : -18446744073709551616 < i) (h2 : i < 18446744073709551616) : mulOk i j = true := by
  unfold mulOk
  simp [h1, h2]
theorem mulOk_r {i j : Int} (h1 : -18446744073709551616 < j) (h2 : j < 18446744073709551616) : mulOk i j = true := by
  unfold mulOk
  simp [h1, h2]
theorem ok_cmpI {pi : Int → Int → Bool} {ps : List Nat → List Nat → Bool} {i j : Int} (p : P (.bl (pi i j)) h) : Ok (fCmp pi ps (.int i) (.int j)) h P := ok_rtn p
theorem ok_cmpS {pi : Int → Int → Bool} {ps : List Nat → List Nat → Bool} {i j : Str} (p : P (.bl (ps i.cps.toList j.cps.toList)) h) : Ok (fCmp pi ps (.str i) (.str j)) h P := ok_rtn p
theorem ok_isB {neg : Bool} {i j : Bool} (p : P (.bl (neg != decide (i = j))) h) : Ok (fIs neg (.bl i) (.bl j)) h P := ok_rtn p
theorem ok_int1 {i : Int} (p : P (.int i) h) : Ok (bInt [.int i]) h P := ok_rtn p
theorem ok_int2 {k : Bool} (p : P (.int (if k then 1 else 0)) h) : Ok (bInt [.bl k]) h P := ok_rtn p
theorem ok_abs {i : Int} (p : P (.int (if i < 0 then -i else i)) h) : Ok (bAbs [.int i]) h P := ok_rtn p
theorem ok_max {i j : Int} (p : P (.int (if j > i then j else i)) h) : Ok (bMax [.int i, .int j]) h P := ok_rtn p
theorem ok_min {i j : Int} (p : P (.int (if j < i then j else i)) h) : Ok (bMin [.int i, .int j]) h P := ok_rtn p
theorem ok_lenT {xs : List W} (p : P (.int xs.length) h) : Ok (bLen [.tup xs]) h P := ⟨_, h, rfl, p⟩
theorem ok_lenR {xs : List W} (p : P (.int xs.length) h) : Ok (bLen [.rol xs]) h P := ⟨_, h, rfl, p⟩
theorem ok_sl {l u : MO} (o : Ok (a sw) h fun x h1 => Ok (l sw) h1 fun lo h2 => Ok (u sw) h2 fun hi h3 => Ok (fSl x lo hi) h3 P) : Ok (mSl a l u sw) h P := ok_bnd (o.imp fun _ _ o => ok_bnd (o.imp fun _ _ o => ok_bnd o))
theorem ok_oNo {PO : Option Int → Hw → Prop} (p : PO none h) : Ok (oNo sw) h PO := ok_rtn p
theorem ok_oSo {PO : Option Int → Hw → Prop} (o : Ok (a sw) h fun x h1 => ∃ i, x = .int i ∧ PO (some i) h1) : Ok (oSo a sw) h PO := ok_bnd (o.imp fun x _ o => by
  obtain ⟨i, rfl, p⟩ := o
  exact ok_rtn p)
theorem ok_isi {T : String} (o : Ok (a sw) h fun x h1 => ∃ n k, tyName h1 x = some n ∧ kitB n T = some k ∧ P (.bl k) h1) : Ok (mIsi T a sw) h P := ok_bnd (o.imp fun x h1 o => by
  obtain ⟨n, k, e1, e2, p⟩ := o
  exact ⟨_, h1, by simp only [e1, e2], p⟩)
theorem ok_reprB {k : Bool} (p : P (.str (if k then Str.ofString "True" else Str.ofString "False")) h) : Ok (bRepr [.bl k]) h P := ok_rtn p
end
theorem ok_sForI {mi : MI} {g : MG} {b : MS} {sw : SW} {h : Hw} {PF : Fl → Hw → Prop} (o : Ok (mi sw) h fun src h1 => Ok (sFor src.1 g b 0 (src.2 + 1) sw) h1 PF) : Ok (sForI mi g b sw) h PF := ok_bnd o
end EL
open EL
local macro_rules | `(tactic| walk_at "ok1") => `(tactic| first
  | with_reducible refine ok_sSeq ?_
  | with_reducible refine ok_bin ?_
  | ((with_reducible refine' ok_var ?e ?_); (case e => exact rfl))
  | with_reducible refine ok_c ?_
  | with_reducible refine ok_aCons ?_
  | with_reducible refine ok_aNil ?_
  | with_reducible refine ok_call ?_
  | with_reducible refine ok_sIf ?_
  | with_reducible refine ok_sAsg ?_
  | ((with_reducible refine' ok_gNm' ?e ?_); (case e => (simp only [List.set_cons_zero, List.set_cons_succ]; exact rfl)))
  | with_reducible refine ok_sRet ?_
  | with_reducible refine ok_sExp ?_
  | with_reducible refine ok_sNil ?_
  | with_reducible refine ok_tVal ?_
  | with_reducible refine ok_tTru ?_
  | with_reducible refine ok_tru_bl ?_
  | with_reducible refine ok_tNot ?_
  | with_reducible refine ok_tAnd ?_
  | with_reducible refine ok_tOr ?_
  | with_reducible refine ok_mAnd ?_
  | with_reducible refine ok_mOr ?_
  | with_reducible refine ok_mNot ?_
  | with_reducible refine ok_mIf ?_
  | with_reducible refine ok_un ?_
  | with_reducible refine ok_ch ?_
  | with_reducible refine ok_tup ?_
  | with_reducible refine ok_lst ?_
  | with_reducible refine ok_dnew ?_
  | with_reducible refine ok_sl ?_
  | with_reducible refine ok_oNo ?_
  | with_reducible refine ok_oSo ?_
  | with_reducible refine ok_gSubL ?_
  | with_reducible refine ok_gsNil ?_
  | with_reducible refine ok_gsCons ?_
  | with_reducible refine ok_sForI ?_
  | with_reducible refine ok_isi ?_
  | with_reducible refine ok_addI ?_
  | with_reducible refine ok_subI ?_
  | with_reducible refine ok_negI ?_
  | refine ok_cmpI ?_
  | refine ok_cmpS ?_
  | with_reducible refine ok_isB ?_
  | with_reducible refine ok_int1 ?_
  | with_reducible refine ok_int2 ?_
  | with_reducible refine ok_abs ?_
  | with_reducible refine ok_max ?_
  | with_reducible refine ok_min ?_
  | with_reducible refine ok_reprB ?_
  | with_reducible refine ok_lenR ?_
  | with_reducible refine ok_lenT ?_
  | ((with_reducible refine' okLim ?e ?_); (case e => exact rfl))
  | with_reducible refine okE ?_
  | with_reducible refine okEI ?_
  | with_reducible refine okT ?_
  | with_reducible refine okF ?_
  | with_reducible refine okNT ?_
  | with_reducible refine okNF ?_
  | dsimp only)
local macro_rules | `(tactic| walk_at "ok") => `(tactic| repeat' walk_at "ok1")
local macro_rules | `(tactic| walk_at "okF") => `(tactic| ((with_reducible refine' ok_mFn' ?e1 ?e2 ?_); (case e1 => exact rfl); (case e2 => (simp only [List.map_cons, List.map_nil, List.replicate_succ, List.replicate_zero, List.cons_append, List.nil_append, Nat.reduceSub]; exact rfl)); walk_at "ok"))
namespace EL
open PySem PySem.Spec L2
open PyProof.Rows hiding St
/-- the pool's two numbers -/
def pl (a b : Int) : O := .lst [.int a, .int b]
theorem atI_0 {α : Type} {x : α} {xs : List α} : atI (x :: xs) (0 : Int) = some x := atI_nat (j := 0) rfl
theorem atI_1 {α : Type} {x y : α} {xs : List α} : atI (x :: y :: xs) (1 : Int) = some y := atI_nat (j := 1) rfl
end EL
namespace EL
open PySem PySem.Spec L2
open PyProof.Rows hiding St
open TL (tl len_tl ext_tl tl_append tl_mk join_eq tl_join joinL)
theorem get_app {h g : Hw} {n : Nat} {o : O} (e : h[n]? = some o) : (h ++ g)[n]? = some o := by
  rw [List.getElem?_append_left (List.getElem?_eq_some_iff.mp e).1]
  exact e
end EL
namespace EL
open PySem PySem.Spec L2
open PyProof.Rows hiding St
def putW (f : Str) (v : W) : List (Str × W) → List (Str × W)
  | [] => [(f, v)]
  | (g, x) :: r => if g = f then (g, v) :: r else (g, x) :: putW f v r
section
variable {K : PySem.W.Frag} {cm : Cm} {ρ : List Addr} {h h' : Hw} {H : Hp}
theorem lk_of {f : Str} {w : W} : ∀ {fs : List (Str × W)} {fv : List (Str × V)}, fv.map (·.1) = fs.map (·.1) → Rels K ρ H (fs.map (·.2)) (fv.map (·.2)) → fs.lookup f = some w → ∃ v, fv.lookup f = some v ∧ Rel K ρ H w v
  | [], _, _, _, e => by cases e
  | (g, x) :: fs, [], e, _, _ => by cases e
  | (g, x) :: fs, (g', y) :: fv, e, r, l => by
    have e1 : g' = g := (List.cons.inj e).1
    subst e1
    cases r with
    | cons r t =>
      by_cases q : (f == g') = true
      · rw [List.lookup, q] at l ⊢
        cases l
        exact ⟨y, rfl, r⟩
      · rw [Bool.not_eq_true] at q
        rw [List.lookup, q] at l ⊢
        exact lk_of (List.cons.inj e).2 t l
theorem lk_none {f : Str} : ∀ {fs : List (Str × W)} {fv : List (Str × V)}, fv.map (·.1) = fs.map (·.1) → fs.lookup f = none → fv.lookup f = none
  | [], [], _, _ => rfl
  | [], _ :: _, e, _ => by cases e
  | _ :: _, [], e, _ => by cases e
  | (g, x) :: fs, (g', y) :: fv, e, l => by
    have e1 : g' = g := (List.cons.inj e).1
    subst e1
    by_cases q : (f == g') = true
    · rw [List.lookup, q] at l
      cases l
    · rw [Bool.not_eq_true] at q
      rw [List.lookup, q] at l ⊢
      exact lk_none (List.cons.inj e).2 l
theorem put_keys {f : Str} {w : W} {v : V} : ∀ {fs : List (Str × W)} {fv : List (Str × V)}, fv.map (·.1) = fs.map (·.1) → (putF f v fv).map (·.1) = (putW f w fs).map (·.1)
  | [], [], _ => rfl
  | [], _ :: _, e => by cases e
  | _ :: _, [], e => by cases e
  | (g, x) :: fs, (g', y) :: fv, e => by
    have e1 : g' = g := (List.cons.inj e).1
    subst e1
    unfold putF putW
    split
    · exact e
    · rw [List.map_cons, List.map_cons, put_keys (List.cons.inj e).2]
theorem put_rels {f : Str} {w : W} {v : V} (q : Rel K ρ H w v) : ∀ {fs : List (Str × W)} {fv : List (Str × V)}, fv.map (·.1) = fs.map (·.1) → Rels K ρ H (fs.map (·.2)) (fv.map (·.2)) → Rels K ρ H ((putW f w fs).map (·.2)) ((putF f v fv).map (·.2))
  | [], [], _, _ => .cons q .nil
  | [], _ :: _, e, _ => by cases e
  | _ :: _, [], e, _ => by cases e
  | (g, x) :: fs, (g', y) :: fv, e, r => by
    have e1 : g' = g := (List.cons.inj e).1
    subst e1
    cases r with
    | cons r t =>
      unfold putF putW
      split
      · exact .cons q t
      · exact .cons r (put_rels q (List.cons.inj e).2 t)
end
def fldOf (h : Hw) (x : W) (C f : Str) : Option W := match x with
  | .ref p => match h[p]? with
    | some (.ins D fs) => if D = C then fs.lookup f else none
    | _ => none
  | _ => none
def mFld (C f : Str) (a : ME) : ME := fun sw => bnd (a sw) fun x h => match fldOf h x C f with
  | some w => .ok w h
  | none => .no
def setFld (C f : Str) (y x : W) : M Unit := fun h => match x with
  | .ref p => match h[p]? with
    | some (.ins D fs) => if D = C ∧ fs.length < 1000 then .ok () (h.set p (.ins D (putW f y fs))) else .no
    | _ => .no
  | _ => .no
def sFldS (C f : Str) (a v : ME) : MS := fun sw => bnd (v sw) fun y => bnd (a sw) fun x => bnd (setFld C f y x) fun _ => rtn (.nx sw)
def mMake (C : Str) (f : List W → M W) (dws : List W) (a : MA) : ME := fun sw => bnd (a sw) fun xs => bnd (alloc (.ins C [])) fun r => bnd (f (r :: (xs ++ dws))) fun u => match u with
  | .non => rtn r
  | _ => bad
def isIns (C m : Str) (x : W) : M Unit := fun h => match x with
  | .ref p => match h[p]? with
    | some (.ins D fs) => if D = C ∧ (fs.lookup m).isNone = true then .ok () h else .no
    | _ => .no
  | _ => .no
def mMeth (C m : Str) (f : List W → M W) (dws : List W) (o : ME) (a : MA) : ME := fun sw => bnd (o sw) fun x => bnd (isIns C m x) fun _ => bnd (a sw) fun xs => f (x :: (xs ++ dws))
section
variable {K : PySem.W.Frag} {cm : Cm} {ρ : List Addr} {h h' : Hw} {H : Hp}
theorem ins_of {C : Str} {x : W} {v : V} {P : List (Str × W) → Prop} (rh : RelH K cm ρ h H) (r : Rel K ρ H x v) (e : ∃ p D fs, x = .ref p ∧ h[p]? = some (.ins D fs) ∧ D = C ∧ P fs) : ∃ p a dx fs fv, x = .ref p ∧ v = .ref a ∧ ρ[p]? = some a ∧ h[p]? = some (.ins C fs) ∧ H a = some (.ins (cm C) dx fv) ∧ fv.map (·.1) = fs.map (·.1) ∧ Rels K ρ H (fs.map (·.2)) (fv.map (·.2)) ∧ P fs := by
  obtain ⟨p, D, fs, rfl, e1, rfl, hP⟩ := e
  cases r with
  | @ref p a hp =>
    obtain ⟨dx, fv, e2, e3, e4⟩ := rh.obj p _ a e1 hp
    exact ⟨p, a, dx, fs, fv, rfl, rfl, hp, e1, e2, e3, e4, hP⟩
theorem fldOf_inv {x w : W} {C f : Str} (e : fldOf h x C f = some w) : ∃ p D fs, x = .ref p ∧ h[p]? = some (.ins D fs) ∧ D = C ∧ fs.lookup f = some w := by
  unfold fldOf at e
  split at e
  · split at e
    · split at e
      · exact ⟨_, _, _, rfl, by assumption, by assumption, e⟩
      · cases e
    · cases e
  · cases e
theorem setFld_inv {x y : W} {C f : Str} {u : Unit} (e : setFld C f y x h = .ok u h') : ∃ p fs, x = .ref p ∧ h[p]? = some (.ins C fs) ∧ fs.length < 1000 ∧ h' = h.set p (.ins C (putW f y fs)) := by
  unfold setFld at e
  split at e
  · split at e
    · split at e
      · rename_i hq
        cases e
        obtain ⟨rfl, hl⟩ := hq
        exact ⟨_, _, rfl, by assumption, hl, rfl⟩
      · cases e
    · cases e
  · cases e
theorem isIns_inv {x : W} {C m : Str} {u : Unit} (e : isIns C m x h = .ok u h') : h' = h ∧ ∃ p D fs, x = .ref p ∧ h[p]? = some (.ins D fs) ∧ D = C ∧ fs.lookup m = none := by
  unfold isIns at e
  split at e
  · split at e
    · split at e
      · rename_i hq
        cases e
        exact ⟨rfl, _, _, _, rfl, by assumption, hq.1, Option.isNone_iff_eq_none.mp hq.2⟩
      · cases e
    · cases e
  · cases e
theorem len_keys {fs : List (Str × W)} {fv : List (Str × V)} (e : fv.map (·.1) = fs.map (·.1)) : fv.length = fs.length := by
  have := congrArg List.length e
  simpa using this
end
section
variable {X : Cx} {cm : Cm} {a o e v : Expr} {es : List Expr} {ma mo mv : ME} {mr : MA} {pos apos pos' : Pos} {C f m : Str}
theorem re_fld (ck : Cls X.K (cm C)) (na : NoAttr X.K (cm C) f) (ha : RE X cm a ma) (hb : attributeBase a f X.env (eval a X.env) = eval a X.env := by rfl) : RE X cm (.Attribute a f pos) (mFld C f ma) := by
  refine peM (pe_fld ha hb) fun σ H Q q => ?_
  obtain ⟨ρ, h, sw, w, h', rh, rs, e, k⟩ := q
  obtain ⟨x, h1, e1, e2⟩ := bnd_ok e
  refine ⟨ρ, h, sw, x, h1, rh, rs, e1, fun ρ1 H1 x' l1 rh1 rx => ?_⟩
  split at e2
  · rename_i w' ew
    cases e2
    obtain ⟨p, ad, dx, fs, fv, rfl, rfl, hp, eo, eH, ek, rl, hl⟩ := ins_of rh1 rx (fldOf_inv ew)
    obtain ⟨v, lv, rv⟩ := lk_of ek rl hl
    exact ⟨ad, _, dx, fv, v, rfl, eH, ck, na, lv, k ρ1 H1 v l1 rh1 rv⟩
  · cases e2
theorem rs_fld (ck : Cls X.K (cm C)) (na : NoAttr X.K (cm C) f) (ha : RE X cm o mo) (hv : RE X cm v mv) (hs : swapsWith v (some (.Attribute o f pos')) pos.line X.env = pure false := by rfl) : RS X cm (.Assign [.Attribute o f pos'] v pos) (sFldS C f mo mv) := by
  refine psM (ps_fld ha hv hs) fun D σ H q => ?_
  obtain ⟨ρ, h, sw, fl, h', rh, rs, e, k⟩ := q
  obtain ⟨y, h1, e1, e2⟩ := bnd_ok e
  obtain ⟨x, h2, e3, e4⟩ := bnd_ok e2
  obtain ⟨u, h3, e5, e6⟩ := bnd_ok e4
  cases e6
  refine ⟨ρ, h, sw, y, h1, rh, rs, e1, fun ρ1 H1 y' l1 rh1 ry => ?_⟩
  refine ⟨ρ1, h1, sw, x, h2, rh1, rs.mono l1, e3, fun ρ2 H2 x' l2 rh2 rx => ?_⟩
  obtain ⟨p, fs, rfl, eo, hlen, rfl⟩ := setFld_inv e5
  obtain ⟨p', ad, dx, fs', fv, ep, rfl, hp, eo', eH, ek, rl, _⟩ := ins_of (C := C) (P := fun _ => True) rh2 rx ⟨p, _, fs, rfl, eo, rfl, trivial⟩
  cases ep
  rw [eo] at eo'
  cases eo'
  have lu : Le X.K ρ2 H2 ρ2 (upd H2 ad (.ins (cm C) dx (putF f y' fv))) := le_mut eH trivial
  refine ⟨ad, _, dx, fv, rfl, eH, ck, na, by rw [len_keys ek]; exact hlen, ?_⟩
  refine k ρ2 _ σ (l1.trans (l2.trans lu)) (rh2.set hp eH trivial ⟨dx, _, upd_same, put_keys ek, ?_⟩) ((rs.mono l1).mono l2 |>.mono lu)
  exact put_rels ((ry.mono l2).mono lu) ek (rl.mono lu)
theorem make_of {σ : St} {H : Hp} {Q : VK} {E : XK} {fn : List W → M W} {dws : List W} {dvs : List V} (hd : ∀ ρ H, Rels X.K ρ H dws dvs) (q : tE X.K cm (mMake C fn dws mr) σ H Q) : tMake (cm C) (spM X.K cm fn) dvs E (tA X.K cm mr) σ H Q := by
  obtain ⟨ρ, h, sw, w, h', rh, rs, e, k⟩ := q
  obtain ⟨xs, h1, e1, e2⟩ := bnd_ok e
  obtain ⟨r, h2, e3, e4⟩ := bnd_ok e2
  obtain ⟨u, h3, e5, e6⟩ := bnd_ok e4
  cases e3
  refine ⟨ρ, h, sw, xs, h1, rh, rs, e1, fun ρ1 H1 vs l1 rh1 rx => ?_⟩
  intro x dx hx hdx hne
  have la : Le X.K ρ1 H1 ρ1 (upd H1 dx (.own x)) := le_new hdx
  have rh2 : RelH X.K cm ρ1 h1 (upd H1 dx (.own x)) := rh1.new hdx
  have hx2 : upd H1 dx (.own x) x = none := by rw [upd_ne (Ne.symm hne)]; exact hx
  have lb : Le X.K ρ1 (upd H1 dx (.own x)) (ρ1 ++ [x]) (upd (upd H1 dx (.own x)) x (.ins (cm C) dx [])) := (le_new hx2).trans (le_app x)
  have rh3 := rh2.push hx2 (u := .ins (cm C) dx []) (o := .ins C []) ⟨dx, [], upd_same, rfl, .nil⟩
  refine ⟨ρ1 ++ [x], _, _, u, h3, rh3, .cons (.ref (push_at rh1)) (((rx.mono la).mono lb).append (hd _ _)), e5, fun ρ4 H4 v l4 rh4 rv => ?_⟩
  cases u with
  | non =>
    cases rv
    cases e6
    exact ⟨rfl, k ρ4 H4 _ (l1.trans (la.trans (lb.trans l4))) rh4 (.ref (pre_get l4.pre (push_at rh1)))⟩
  | _ => cases e6
theorem re_make {k : Nat} {g : Addr} {fd : FuncData} {ps : List Str} {x : Str} {p : Pos} {fn : List W → M W} {dws : List W} {dvs : List V} {ds : List Value} (Mk : L2.Mk X.K (cm C) g) (F : FnOk X.prog X.w X.K X.mg X.base CX0 k g fd ps (spM X.K cm fn)) (hr : Room (k + 1) X.A) (hm : X.mg x = some (.ref (cm C)))
    (hb : Binds X.K fd ps ds) (hd : Vals dvs ds) (hdw : ∀ ρ H, Rels X.K ρ H dws dvs) (ha : RA X cm (e :: es) mr) (hg : Gl X x := by rfl) (hdb : (x == ("__debug__" : Str)) = false := by decide) (he : starEach (e :: es) X.env = (false, eval e X.env) :: starEach es X.env := by rfl)
    (hpl : (backTo pos (starEach es X.env)).any (·.1) = false := by rfl) : RE X cm (.Call (.Name x p) (e :: es) [] pos) (mMake C fn dws mr) :=
  peM (pe_make Mk F hr hg hm hb hd pass0 ha hdb he hpl) fun σ H Q q => make_of hdw q
theorem re_make0 {k : Nat} {g : Addr} {fd : FuncData} {ps : List Str} {x : Str} {p : Pos} {fn : List W → M W} {dws : List W} {dvs : List V} {ds : List Value} (Mk : L2.Mk X.K (cm C) g) (F : FnOk X.prog X.w X.K X.mg X.base CX0 k g fd ps (spM X.K cm fn)) (hr : Room (k + 1) X.A) (hm : X.mg x = some (.ref (cm C)))
    (hb : Binds X.K fd ps ds) (hd : Vals dvs ds) (hdw : ∀ ρ H, Rels X.K ρ H dws dvs) (hg : Gl X x := by rfl) (hdb : (x == ("__debug__" : Str)) = false := by decide) : RE X cm (.Call (.Name x p) [] [] pos) (mMake C fn dws aNil) := by
  refine peM (pe_make0 (E := fun _ _ _ => False) Mk F hr hg hm hb hd pass0 hdb) fun σ H Q q => ?_
  have q2 := make_of (E := fun _ _ _ => False) (mr := aNil) hdw q
  obtain ⟨ρ, h, sw, ws, h1, rh, rs, e, k⟩ := q2
  cases e
  exact k ρ H [] .refl rh .nil
theorem meth_of {σ : St} {H : Hp} {Q : VK} {E : XK} {fn : List W → M W} {dws : List W} {dvs : List V} (hd : ∀ ρ H, Rels X.K ρ H dws dvs) (q : tE X.K cm (mMeth C m fn dws mo mr) σ H Q) : tMeth (cm C) m (spM X.K cm fn) dvs E (tE X.K cm mo) (tA X.K cm mr) σ H Q := by
  obtain ⟨ρ, h, sw, w, h', rh, rs, e, k⟩ := q
  obtain ⟨x, h1, e1, e2⟩ := bnd_ok e
  obtain ⟨u, h2, e3, e4⟩ := bnd_ok e2
  obtain ⟨xs, h3, e5, e6⟩ := bnd_ok e4
  obtain ⟨rfl, hi⟩ := isIns_inv e3
  refine ⟨ρ, h, sw, x, h2, rh, rs, e1, fun ρ1 H1 x' l1 rh1 rx => ?_⟩
  obtain ⟨p, ad, dx, fs, fv, rfl, rfl, hp, eo, eH, ek, rl, hl⟩ := ins_of rh1 rx hi
  refine ⟨ad, dx, fv, rfl, eH, lk_none ek hl, ?_⟩
  refine ⟨ρ1, h2, sw, xs, h3, rh1, rs.mono l1, e5, fun ρ2 H2 vs l2 rh2 rxs => ?_⟩
  exact ⟨ρ2, h3, _, w, h', rh2, .cons (.ref (pre_get l2.pre hp)) (rxs.append (hd _ _)), e6, fun ρ3 H3 v l3 => k ρ3 H3 v (l1.trans (l2.trans l3))⟩
theorem re_meth0 {k : Nat} {g : Addr} {fd : FuncData} {ps : List Str} {fn : List W → M W} {dws : List W} {dvs : List V} {ds : List Value} {pl : Sem Bool} (ck : Cls X.K (cm C)) (me : Meth X.K (cm C) m g) (F : FnOk X.prog X.w X.K X.mg X.base CX0 k g fd ps (spM X.K cm fn)) (hr : Room k X.A)
    (hb : Binds X.K fd ps ds) (hd : Vals dvs ds) (hdw : ∀ ρ H, Rels X.K ρ H dws dvs) (ho : RE X cm o mo)
    (ht : eval (.Call (.Attribute o m apos) [] [] pos) X.env = (do
      let ov ← eval o X.env
      standAt apos.atName
      let (f, first) ← holding [ov] (getMethod ov m pl)
      callWith pos f first (backTo pos (starEach [] X.env)) (backToKw pos (keywordEach [] X.env))) := by rfl) : RE X cm (.Call (.Attribute o m apos) [] [] pos) (mMeth C m fn dws mo aNil) := by
  refine peM (pe_meth0 (E := fun _ _ _ => False) ho ck me F hr hb hd pass0 ht) fun σ H Q q => ?_
  have q2 := meth_of (E := fun _ _ _ => False) (mr := aNil) hdw q
  obtain ⟨ρ, h, sw, w, h', rh, rs, e, k⟩ := q2
  refine ⟨ρ, h, sw, w, h', rh, rs, e, fun ρ1 H1 x l1 rh1 rx => ?_⟩
  obtain ⟨ad, dx, fs, ex, eH, l, q3⟩ := k ρ1 H1 x l1 rh1 rx
  refine ⟨ad, dx, fs, ex, eH, l, ?_⟩
  obtain ⟨ρ2, h2, sw2, ws, h3, rh2, rs2, e2, k2⟩ := q3
  cases e2
  exact k2 ρ2 H1 [] .refl rh2 .nil
end
/-- what is known of an instance in the running heap -/
theorem inst_of {X : Cx} {pins : List (Addr × Obj)} {s : Shared} {σ : St} {H : Hp} {a C dx : Addr} {fs : List (Str × V)} (I : Inv X pins σ H s) (e : H a = some (.ins C dx fs)) : ∃ od, PySem.W.InstAt s.heap a (PySem.W.instObj C dx) C (some od) := by
  obtain ⟨mA, J, _⟩ := ins_get I.hok e
  obtain ⟨od, J, _⟩ := J.look
  exact ⟨od, J⟩
/-- an own function runs, in a place that stands in the same frames -/
theorem run_own {X : Cx} {k : Nat} {f : Addr} {fd : FuncData} {ps : List Str} {sp : Sp} {A : Around} {pins : List (Addr × Obj)} {σ : St} {H : Hp} {s : Shared} {Q : VK} {us : List Value} {vs : List V} {E : XK} (F : FnOk X.prog X.w X.K X.mg X.base CX0 k f fd ps sp) (sb : Sub X k A) (hb : Binds X.K fd ps [])
    (I : Inv X pins σ H s) (r : Vals vs us) (h : sp vs H Q E) : wpAny (model X.prog X.w) A (call (.ref f) us) (EP X pins σ Q) X.xe s := by
  have hl := F.len _ _ _ _ h
  have e0 : Env0 X.prog X.w X.K X.mg X.base A X.stack s H := by
    have e := I.env0
    exact ⟨by rw [sb.fr]; exact e.frames, e.mod, e.bs, e.bsz, e.funs, e.frf, e.hok, e.bare⟩
  have hl2 : (us ++ []).length = ps.length := by rw [List.append_nil, ← r.length]; exact hl
  refine wpAny_call (codeAny_mono (F.run A X.stack s H ⟨us, []⟩ us vs Q E sb.room e0 (by
    have := hb s us I.kIn hl2
    simpa using this) r h) fun r s' hq => ?_)
  cases r with
  | error e => exact (pass0 (X := X)) pins σ H s e s' I hq
  | ok fl =>
    cases fl with
    | ret u => exact I.after hq
    | next => exact False.elim hq
    | brk => exact False.elim hq
    | cont => exact False.elim hq
theorem rel_ni {v : V} {u : Value} (r : RelV v u) : u ≠ .notImplemented := by
  intro z
  subst z
  cases v with
  | int i => obtain ⟨t, q⟩ := (show ∃ t, Value.notImplemented = Value.int i t from r); cases q
  | str i => obtain ⟨t, q⟩ := (show ∃ t, Value.notImplemented = Value.str i t from r); cases q
  | byt i => obtain ⟨t, q⟩ := (show ∃ t, Value.notImplemented = Value.bytes i t from r); cases q
  | flt i => obtain ⟨t, q⟩ := (show ∃ t, Value.notImplemented = Value.float i t from r); cases q
  | non => exact Value.noConfusion r
  | bl b => exact Value.noConfusion r
  | ref b => exact Value.noConfusion r
  | ty b => exact Value.noConfusion r
theorem back_of {v : Value} {s : Shared} {Q : Value → Shared → Prop} (n : v ≠ .notImplemented) (q : Q v s) : PySem.W.CmpBack Q v s := by
  cases v <;> first | exact q | exact absurd rfl n
/-- a value's class, as operators ask for it -/
inductive TyN (K : PySem.W.Frag) (C : Addr) (H : Hp) : V → Value → Prop where
  | base {x : V} {n : String} (h : TyX K H x (.type n)) : TyN K C H x (.type n)
  | ins {a : Addr} {dx : Addr} {fs : List (Str × V)} (e : H a = some (.ins C dx fs)) : TyN K C H (.ref a) (.ref C)
theorem TyN.looks {X : Cx} {pins : List (Addr × Obj)} {s : Shared} {σ : St} {H : Hp} {C : Addr} {x : V} {u t : Value} (I : Inv X pins σ H s) (rx : RelV x u) (ty : TyN X.K C H x t) : PySem.W.Looks (model X.prog X.w) s.heap (typeOf u) t := by
  cases ty with
  | base b =>
    obtain ⟨P, k, hp, _⟩ := kit_of I rx b
    exact k.ty _ _ I.kIn hp
  | ins e =>
    cases (show u = Value.ref _ from rx)
    obtain ⟨od, J⟩ := inst_of I e
    exact J.type
/-- x op y by the own function of x's class: the reading -/
def rOwn (K : PySem.W.Frag) (C : Addr) (tys : List String) (sp : Sp) : R2 := fun x y H Q => ∃ a dx fs t, x = .ref a ∧ H a = some (.ins C dx fs) ∧ TyN K C H y t ∧ (t = .ref C ∨ ∃ n ∈ tys, t = .type n) ∧ sp [x, y] H Q fun _ _ _ => False
theorem op_ownCmp {X : Cx} {op : CmpOp} {k : Nat} {f C : Addr} {fd : FuncData} {ps : List Str} {sp : Sp} {tys : List String} (ho : compareOp op = richCompare op) (F : FnOk X.prog X.w X.K X.mg X.base CX0 k f fd ps sp) (hr : Room k X.A) (hb : Binds X.K fd ps [])
    (hs : PySem.W.findIn X.K (.ref C) (cmpInfo op).2.1 = some (some (.ref f))) (hf : PySem.W.isFn X.K (.ref f) = true) (hn : ∀ n ∈ tys, PySem.W.notFirst X.K C (.type n) = true) : OpR X (compareOp op) (rOwn X.K C tys sp) := by
  intro pins s σ H x y v u Q I rx ry hq
  obtain ⟨a, dx, fs, t, rfl, ea, ty, ht, h⟩ := hq
  cases (show v = Value.ref a from rx)
  obtain ⟨od, J⟩ := inst_of I ea
  obtain ⟨m, hF⟩ := I.fr
  rw [ho]
  refine PySem.W.cmp_K (op := op) (tb := t) hr.units0 hF I.ok.mod.kin J (ty.looks I ry) ?_ hs hf ?_
  · rcases ht with rfl | ⟨n, hm, rfl⟩
    · simp [PySem.W.notFirst]
    · exact hn n hm
  · refine wpAny_mono (run_own F ⟨hr, rfl⟩ hb I (.cons rx (.cons ry .nil)) h) (fun r s' q => ?_) fun _ _ e => e
    obtain ⟨z, H', I', rz, q⟩ := q
    exact back_of (rel_ni rz) ⟨z, H', I', rz, q⟩
/-- x op y, both of one class -/
def rOwn2 (C : Addr) (sp : Sp) : R2 := fun x y H Q => ∃ a dx fs b dy gs, x = .ref a ∧ H a = some (.ins C dx fs) ∧ y = .ref b ∧ H b = some (.ins C dy gs) ∧ sp [x, y] H Q fun _ _ _ => False
theorem op_ownBin {X : Cx} {op : Operator} {k : Nat} {f C : Addr} {fd : FuncData} {ps : List Str} {sp : Sp} (F : FnOk X.prog X.w X.K X.mg X.base CX0 k f fd ps sp) (hr : Room k X.A) (hb : Binds X.K fd ps [])
    (hc : PySem.W.selfFirst X.K C = true) (hs : PySem.W.findIn X.K (.ref C) (PySem.dunder op.info.2) = some (some (.ref f))) (hf : PySem.W.isFn X.K (.ref f) = true) : OpR X (binaryOp op) (rOwn2 C sp) := by
  intro pins s σ H x y v u Q I rx ry hq
  obtain ⟨a, dx, fs, b, dy, gs, rfl, ea, rfl, eb, h⟩ := hq
  cases (show v = Value.ref a from rx)
  cases (show u = Value.ref b from ry)
  obtain ⟨od, J⟩ := inst_of I ea
  obtain ⟨od', J'⟩ := inst_of I eb
  obtain ⟨m, hF⟩ := I.fr
  refine PySem.W.binop_K (op := op) hF I.ok.mod.kin J J'.type hc hs hf ?_
  refine wpAny_mono (run_own F ⟨hr, rfl⟩ hb I (.cons rx (.cons ry .nil)) h) (fun r s' q => ?_) fun _ _ e => e
  obtain ⟨z, H', I', rz, q⟩ := q
  exact back_of (rel_ni rz) ⟨z, H', I', rz, q⟩
end EL
namespace EL
open PySem PySem.Spec L2
open PyProof.Rows hiding St
section
variable {prog : Program} {w : World} {A : Around} {E : Value → Shared → Prop} {s : Shared} {K : PySem.W.Frag} {x C f : Addr} {ox : Obj} {od : Option Obj} {tb b : Value}
/-- a comparison whose first attempt gives the answer -/
theorem cmp_by {op : CmpOp} {Q : Value → Shared → Prop} (hu : A.units < cLine) (X : K.In s.heap) (I : PySem.W.InstAt s.heap x ox C od) (tyb : PySem.W.Looks (model prog w) s.heap (typeOf b) tb) (hn : PySem.W.notFirst K C tb = true)
    (one : wpAny (model prog w) A (tryCompare (.ref x) (cmpInfo op).2.1 b) (fun r s' => ∃ v, r = some v ∧ Q v s') E s) : wpAny (model prog w) A (richCompare op (.ref x) b) Q E s := by
  have fin : ∀ (r : Option Value) (s' : Shared), (∃ v, r = some v ∧ Q v s') → ∃ v, r = some v ∧ Q v s' := fun _ _ z => z
  simp only [richCompare, oneThing_ref]
  apply wpAny_holding
  apply wpAny_bind
  apply wpAny_cRoomFor hu
  apply wpAny_bind
  apply I.type.here
  apply wpAny_bind
  apply tyb.here
  split
  · rename_i q
    have e : PySem.W.subIn K tb (.ref C) = some false := by
      unfold PySem.W.notFirst at hn
      cases z : (tb == Value.ref C) with
      | true => rw [beq_iff_eq.mp z] at q; simp at q
      | false => rw [z, Bool.false_or] at hn; exact beq_iff_eq.mp hn
    apply wpAny_bind
    apply (PySem.W.looks_subIn X e).here
    simp only [Bool.false_eq_true, if_false]
    apply wpAny_bind
    refine wpAny_mono one ?_ fun _ _ e => e
    rintro r s' ⟨v, rfl, hq⟩
    exact wpAny_pure hq
  · apply wpAny_bind
    apply wpAny_pure
    simp only [Bool.false_eq_true, if_false]
    apply wpAny_bind
    refine wpAny_mono one ?_ fun _ _ e => e
    rintro r s' ⟨v, rfl, hq⟩
    exact wpAny_pure hq
/-- x != b, where only == is the class's own -/
theorem ne_by {Q : Value → Shared → Prop} (hu : A.units + 1 < cLine) (X : K.In s.heap) (I : PySem.W.InstAt s.heap x ox C od) (tyb : PySem.W.Looks (model prog w) s.heap (typeOf b) tb) (hn : PySem.W.notFirst K C tb = true)
    (hs : PySem.W.findIn K (.ref C) "__eq__" = some (some (.ref f))) (hf : PySem.W.isFn K (.ref f) = true) (hne : PySem.W.findIn K (.ref C) "__ne__" = some (some (.builtin "object.__ne__"))) (hm : PySem.W.mroIn K C (.type "object") = some true)
    (h : wpAny (model prog w) A.in1 (call (.ref f) [.ref x, b]) (fun r s' => ∃ k, r = .bool k ∧ Q (.bool (!k)) s') E s) : wpAny (model prog w) A (richCompare .NotEq (.ref x) b) Q E s := by
  refine cmp_by (by omega) X I tyb hn ?_
  show wpAny _ _ (tryCompare (.ref x) "__ne__" b) _ _ _
  simp only [tryCompare]
  refine wpAny_bind (NtL.csib (id := "object.__ne__") (I.type.andThen (PySem.W.looks_findIn X hne)) (PySem.F.cmp_object.ne.bind _) ?_)
  refine wpAny_call (codeAny_call_builtin PySem.F.cmp_object.ne.plain PySem.F.cmpEntry_ne (PySem.W.check_slot (i := "object.__ne__") (owner := "object") (n := "__ne__") PySem.F.cmpKind_ne PySem.F.cmpSplit_ne (I.type.andThen (PySem.W.looks_mroIn X hm)) (PySem.F.cmpArgs_ne _ _) ?_))
  unfold Builtin.«object.__ne__»
  refine wpAny_bind (m := slotArgs "__ne__" 1 _) (wpAny_pure ?_)
  refine wpAny_bind (m := cRoomFor _ _) (wpAny_cRoomFor hu ?_)
  refine wpAny_bind (m := callSpecialIfBound? (.ref x) (Str.ofString "__eq__") _) (PySem.W.ifBound_K X I hs hf (wpAny_mono h (fun r s' hq => ?_) fun _ _ y => y))
  obtain ⟨k, rfl, hq⟩ := hq
  refine wpAny_bind (wpAny_truthy_bool ?_)
  exact wpAny_pure (wpAny_pure ⟨_, rfl, hq⟩)
end
/-- x != y: the reading -/
def rOwnNe (K : PySem.W.Frag) (C : Addr) (tys : List String) (sp : Sp) : R2 := fun x y H Q => ∃ a dx fs t, x = .ref a ∧ H a = some (.ins C dx fs) ∧ TyN K C H y t ∧ (t = .ref C ∨ ∃ n ∈ tys, t = .type n) ∧ sp [x, y] H (fun z H' => ∃ k, z = .bl k ∧ Q (.bl (!k)) H') fun _ _ _ => False
theorem op_ownNe {X : Cx} {k : Nat} {f C : Addr} {fd : FuncData} {ps : List Str} {sp : Sp} {tys : List String} (F : FnOk X.prog X.w X.K X.mg X.base CX0 k f fd ps sp) (hr : Room (k + 1) X.A) (hb : Binds X.K fd ps [])
    (hs : PySem.W.findIn X.K (.ref C) "__eq__" = some (some (.ref f))) (hf : PySem.W.isFn X.K (.ref f) = true) (hne : PySem.W.findIn X.K (.ref C) "__ne__" = some (some (.builtin "object.__ne__"))) (hm : PySem.W.mroIn X.K C (.type "object") = some true)
    (hn : ∀ n ∈ tys, PySem.W.notFirst X.K C (.type n) = true) : OpR X (compareOp .NotEq) (rOwnNe X.K C tys sp) := by
  intro pins s σ H x y v u Q I rx ry hq
  obtain ⟨a, dx, fs, t, rfl, ea, ty, ht, h⟩ := hq
  cases (show v = Value.ref a from rx)
  obtain ⟨od, J⟩ := inst_of I ea
  show wpAny (model X.prog X.w) X.A (richCompare .NotEq (.ref a) u) (EP X pins σ Q) X.xe s
  refine ne_by (by have := hr.un; omega) I.kIn J (ty.looks I ry) ?_ hs hf hne hm ?_
  · rcases ht with rfl | ⟨n, hm, rfl⟩
    · simp [PySem.W.notFirst]
    · exact hn n hm
  · refine wpAny_mono (run_own F (Sub.in1 ⟨hr, rfl⟩) hb I (.cons rx (.cons ry .nil)) h) (fun r s' q => ?_) fun _ _ e => e
    obtain ⟨z, H', I', rz, kk, rfl, q⟩ := q
    cases (show r = Value.bool kk from rz)
    exact ⟨kk, rfl, .bl (!kk), H', I', rfl, q⟩
/-- y in x by the own function -/
def rOwnIn (neg : Bool) (C : Addr) (sp : Sp) : R2 := fun y x H Q => ∃ a dx fs, x = .ref a ∧ H a = some (.ins C dx fs) ∧ sp [x, y] H (fun z H' => ∃ k, z = .bl k ∧ Q (.bl (neg != k)) H') fun _ _ _ => False
theorem op_ownIn {X : Cx} {k : Nat} {f C : Addr} {fd : FuncData} {ps : List Str} {sp : Sp} (F : FnOk X.prog X.w X.K X.mg X.base CX0 k f fd ps sp) (hr : Room k X.A) (hb : Binds X.K fd ps [])
    (hs : PySem.W.findIn X.K (.ref C) "__contains__" = some (some (.ref f))) (hf : PySem.W.isFn X.K (.ref f) = true) : OpR X (compareOp .In) (rOwnIn false C sp) := by
  intro pins s σ H y x u v Q I ry rx hq
  obtain ⟨a, dx, fs, rfl, ea, h⟩ := hq
  cases (show v = Value.ref a from rx)
  obtain ⟨od, J⟩ := inst_of I ea
  obtain ⟨m, hF⟩ := I.fr
  refine PySem.W.in_K hF I.ok.mod.kin J hs hf (wpAny_mono (run_own F ⟨hr, rfl⟩ hb I (.cons rx (.cons ry .nil)) h) (fun r s' q => ?_) fun _ _ e => e)
  obtain ⟨z, H', I', rz, kk, rfl, q⟩ := q
  cases (show r = Value.bool kk from rz)
  exact wpAny_truthy_bool ⟨.bl kk, H', I', rfl, by simpa using q⟩
/-- len(x) by the own function -/
def rOwnLen (C : Addr) (sp : Sp) : List V → Hp → VK → Prop := fun xs H Q => ∃ a dx fs, xs = [.ref a] ∧ H a = some (.ins C dx fs) ∧ sp [.ref a] H (fun z H' => ∃ n : Nat, z = .int n ∧ n < 2 ^ 62 ∧ Q (.int n) H') fun _ _ _ => False
end EL
namespace EL
open PySem PySem.Spec L2
open PyProof.Rows hiding St
def insB (h : Hw) (x : W) (C : Str) : Bool := match x with
  | .ref p => match h[p]? with
    | some (.ins D _) => decide (D = C)
    | _ => false
  | _ => false
def tyIn (h : Hw) (y : W) (tys : List String) : Bool := match tyName h y with
  | some n => tys.contains n
  | none => false
def fOwn (C : Str) (tys : List String) (f : List W → M W) : W → W → M W := fun x y h => if (insB h x C && (insB h y C || tyIn h y tys)) = true then f [x, y] h else .no
def fOwnNe (C : Str) (tys : List String) (f : List W → M W) : W → W → M W := fun x y => bnd (fOwn C tys f x y) fun z => match z with
  | .bl b => rtn (.bl (!b))
  | _ => bad
def fOwnIn (neg : Bool) (C : Str) (f : List W → M W) : W → W → M W := fun y x h => if insB h x C = true then bnd (f [x, y]) (fun z => match z with
  | .bl b => rtn (.bl (neg != b))
  | _ => bad) h else .no
def bLenO (C : Str) (f : List W → M W) : List W → M W
  | [x] => fun h => if insB h x C = true then bnd (f [x]) (fun z => match z with
    | .int n => if 0 ≤ n ∧ n < 4611686018427387904 then rtn (.int n) else bad
    | _ => bad) h else .no
  | _ => bad
section
variable {K : PySem.W.Frag} {cm : Cm} {ρ : List Addr} {h h' : Hw} {H : Hp}
theorem insB_of {x : W} {v : V} {C : Str} (rh : RelH K cm ρ h H) (r : Rel K ρ H x v) (e : insB h x C = true) : ∃ p a dx fv, x = .ref p ∧ v = .ref a ∧ ρ[p]? = some a ∧ H a = some (.ins (cm C) dx fv) := by
  unfold insB at e
  split at e
  · rename_i p
    split at e
    · rename_i D fs hp
      obtain ⟨p', a, dx, fs', fv, e1, e2, e3, e4, e5, _⟩ := ins_of (C := C) (P := fun _ => True) rh r ⟨p, D, fs, rfl, hp, of_decide_eq_true e, trivial⟩
      exact ⟨p', a, dx, fv, e1, e2, e3, e5⟩
    · cases e
  · cases e
theorem tyIn_of {y : W} {v : V} {C : Str} {tys : List String} (rh : RelH K cm ρ h H) (r : Rel K ρ H y v) (e : (insB h y C || tyIn h y tys) = true) : ∃ t, TyN K (cm C) H v t ∧ (t = .ref (cm C) ∨ ∃ n ∈ tys, t = .type n) := by
  rcases Bool.or_eq_true_iff.mp e with e | e
  · obtain ⟨p, a, dx, fv, rfl, rfl, _, ea⟩ := insB_of rh r e
    exact ⟨_, .ins ea, .inl rfl⟩
  · unfold tyIn at e
    split at e
    · rename_i n hn
      exact ⟨_, .base (tyX_of rh r hn), .inr ⟨n, by simpa using e, rfl⟩⟩
    · cases e
end
section
variable {X : Cx} {cm : Cm} {C : Str} {f : List W → M W} {tys : List String}
theorem own2 {ρ : List Addr} {h h' : Hw} {H : Hp} {ws : List W} {vs : List V} {z : W} {Q : VK} {E : XK} (rh : RelH X.K cm ρ h H) (r : Rels X.K ρ H ws vs) (e : f ws h = .ok z h') (k : KE X.K cm ρ H z h' Q) : spM X.K cm f vs H Q E :=
  ⟨ρ, h, ws, z, h', rh, r, e, k⟩
theorem wOwn : OpW X.K cm (rOwn X.K (cm C) tys (spM X.K cm f)) (fOwn C tys f) := by
  intro ρ h H x y x' y' z h' Q rh rx ry e k
  unfold fOwn at e
  split at e
  · rename_i q
    obtain ⟨q1, q2⟩ := Bool.and_eq_true_iff.mp q
    obtain ⟨p, a, dx, fv, rfl, rfl, hp, ea⟩ := insB_of rh rx q1
    obtain ⟨t, ty, ht⟩ := tyIn_of rh ry q2
    exact ⟨a, dx, fv, t, rfl, ea, ty, ht, own2 rh (.cons rx (.cons ry .nil)) e k⟩
  · cases e
theorem wOwn2 : OpW X.K cm (rOwn2 (cm C) (spM X.K cm f)) (fOwn C [] f) := by
  intro ρ h H x y x' y' z h' Q rh rx ry e k
  unfold fOwn at e
  split at e
  · rename_i q
    obtain ⟨q1, q2⟩ := Bool.and_eq_true_iff.mp q
    obtain ⟨p, a, dx, fv, rfl, rfl, hp, ea⟩ := insB_of rh rx q1
    have q3 : insB h y C = true := by
      unfold tyIn at q2
      cases q4 : insB h y C with
      | true => rfl
      | false =>
        rw [q4, Bool.false_or] at q2
        split at q2 <;> simp at q2
    obtain ⟨p2, b, dy, gv, rfl, rfl, hp2, eb⟩ := insB_of rh ry q3
    exact ⟨a, dx, fv, b, dy, gv, rfl, ea, rfl, eb, own2 rh (.cons rx (.cons ry .nil)) e k⟩
  · cases e
theorem wOwnNe : OpW X.K cm (rOwnNe X.K (cm C) tys (spM X.K cm f)) (fOwnNe C tys f) := by
  intro ρ h H x y x' y' z h' Q rh rx ry e k
  obtain ⟨b, h1, e1, e2⟩ := bnd_ok e
  unfold fOwn at e1
  split at e1
  · rename_i q
    obtain ⟨q1, q2⟩ := Bool.and_eq_true_iff.mp q
    obtain ⟨p, a, dx, fv, rfl, rfl, hp, ea⟩ := insB_of rh rx q1
    obtain ⟨t, ty, ht⟩ := tyIn_of rh ry q2
    refine ⟨a, dx, fv, t, rfl, ea, ty, ht, own2 rh (.cons rx (.cons ry .nil)) e1 fun ρ1 H1 v l1 rh1 rv => ?_⟩
    cases b with
    | bl b =>
      cases rv
      cases e2
      exact ⟨b, rfl, k ρ1 H1 _ l1 rh1 (.bl _)⟩
    | _ => cases e2
  · cases e1
theorem wOwnIn {neg : Bool} : OpW X.K cm (rOwnIn neg (cm C) (spM X.K cm f)) (fOwnIn neg C f) := by
  intro ρ h H y x y' x' z h' Q rh ry rx e k
  unfold fOwnIn at e
  split at e
  · rename_i q
    obtain ⟨p, a, dx, fv, rfl, rfl, hp, ea⟩ := insB_of rh rx q
    obtain ⟨b, h1, e1, e2⟩ := bnd_ok e
    refine ⟨a, dx, fv, rfl, ea, own2 rh (.cons rx (.cons ry .nil)) e1 fun ρ1 H1 v l1 rh1 rv => ?_⟩
    cases b with
    | bl b =>
      cases rv
      cases e2
      exact ⟨b, rfl, k ρ1 H1 _ l1 rh1 (.bl _)⟩
    | _ => cases e2
  · cases e
theorem wLenO : CallW X.K cm (rOwnLen (cm C) (spM X.K cm f)) (bLenO C f) := by
  intro ρ h H ws vs z h' Q rh rw e k
  cases rw with
  | nil => cases e
  | cons r t =>
    cases t with
    | cons _ _ => cases e
    | nil =>
      have e' : (if insB h _ C = true then bnd (f [_]) (fun z => match z with
        | .int n => if 0 ≤ n ∧ n < 4611686018427387904 then rtn (.int n) else bad
        | _ => bad) h else EL.R.no) = .ok z h' := e
      split at e'
      · rename_i q
        obtain ⟨p, a, dx, fv, rfl, rfl, hp, ea⟩ := insB_of rh r q
        obtain ⟨b, h1, e1, e2⟩ := bnd_ok e'
        refine ⟨a, dx, fv, rfl, ea, own2 rh (.cons r .nil) e1 fun ρ1 H1 v l1 rh1 rv => ?_⟩
        cases b with
        | int n =>
          cases rv
          have e2' : (if 0 ≤ n ∧ n < 4611686018427387904 then rtn (W.int n) else bad) h1 = .ok z h' := e2
          split at e2'
          · rename_i hn
            cases e2'
            exact ⟨n.toNat, by rw [Int.toNat_of_nonneg hn.1], by omega, by rw [Int.toNat_of_nonneg hn.1]; exact k ρ1 H1 _ l1 rh1 (.int n)⟩
          · cases e2'
        | _ => cases e2
      · cases e'
theorem cr_lenO {k : Nat} {g : Addr} {fd : FuncData} {ps : List Str} {D : Addr} {sp : Sp} (F : FnOk X.prog X.w X.K X.mg X.base CX0 k g fd ps sp) (hr : Room (k + 1) X.A) (hb : Binds X.K fd ps [])
    (hs : PySem.W.findIn X.K (.ref D) "__len__" = some (some (.ref g))) (hf : PySem.W.isFn X.K (.ref g) = true) : CallR X (.builtin "len") (rOwnLen D sp) := by
  intro pins s σ H xs us Q I r h
  obtain ⟨a, dx, fs, rfl, ea, h⟩ := h
  obtain ⟨u, rfl, rx⟩ := vals1 r
  cases (show u = Value.ref a from rx)
  obtain ⟨od, J⟩ := inst_of I ea
  obtain ⟨m, hF⟩ := I.fr
  refine PySem.W.len_K hF I.ok.mod.kin J hs hf (wpAny_mono (run_own F (Sub.in1 ⟨hr, rfl⟩) hb I (.cons rx .nil) h) (fun r s' q => ?_) fun _ _ e => e)
  obtain ⟨z, H', I', rz, n, rfl, hn, q⟩ := q
  obtain ⟨t, rfl⟩ := (show ∃ t, r = Value.int n t from rz)
  exact ⟨⟨by omega, by omega⟩, .int n, H', I'.tok _, ⟨_, rfl⟩, q⟩
end
end EL
namespace EL
open PySem PySem.Spec L2
open PyProof.Rows hiding St
def valW {κ : Type} [DecidableEq κ] (kvs : List (κ × W)) (k : κ) : Option W := (kvs.find? fun kv => decide (kv.1 = k)).map (·.2)
def putKW {κ : Type} [DecidableEq κ] (kvs : List (κ × W)) (k : κ) (w : W) : List (κ × W) := if (kvs.any fun kv => decide (kv.1 = k)) = true then kvs.map (fun kv => if kv.1 = k then (kv.1, w) else kv) else kvs ++ [(k, w)]
def dropKW {κ : Type} [DecidableEq κ] (kvs : List (κ × W)) (k : κ) : List (κ × W) := kvs.filter fun kv => decide (kv.1 ≠ k)
/-- two lists of pairs, key by key -/
inductive KVs {κ : Type} (K : PySem.W.Frag) (ρ : List Addr) (H : Hp) : List (κ × W) → List (κ × V) → Prop where
  | nil : KVs K ρ H [] []
  | cons {k : κ} {w : W} {v : V} {ws : List (κ × W)} {vs : List (κ × V)} (r : Rel K ρ H w v) (t : KVs K ρ H ws vs) : KVs K ρ H ((k, w) :: ws) ((k, v) :: vs)
section
variable {κ : Type} {K : PySem.W.Frag} {ρ ρ' : List Addr} {H H' : Hp} {kvs : List (κ × W)} {kv : List (κ × V)}
theorem KVs.of : ∀ {kvs : List (κ × W)} {kv : List (κ × V)}, kv.map (·.1) = kvs.map (·.1) → Rels K ρ H (kvs.map (·.2)) (kv.map (·.2)) → KVs K ρ H kvs kv
  | [], [], _, _ => .nil
  | [], _ :: _, e, _ => by cases e
  | _ :: _, [], e, _ => by cases e
  | (k, w) :: ws, (k', v) :: vs, e, r => by
    have e1 : k' = k := (List.cons.inj e).1
    subst e1
    cases r with
    | cons r t => exact .cons r (KVs.of (List.cons.inj e).2 t)
theorem KVs.mono (l : Le K ρ H ρ' H') : ∀ {kvs : List (κ × W)} {kv : List (κ × V)}, KVs K ρ H kvs kv → KVs K ρ' H' kvs kv
  | _, _, .nil => .nil
  | _, _, .cons r t => .cons (r.mono l) (KVs.mono l t)
theorem KVs.length : ∀ {kvs : List (κ × W)} {kv : List (κ × V)}, KVs K ρ H kvs kv → kvs.length = kv.length
  | _, _, .nil => rfl
  | _, _, .cons _ t => by rw [List.length_cons, List.length_cons, KVs.length t]
variable [DecidableEq κ]
theorem KVs.val (k : κ) : ∀ {kvs : List (κ × W)} {kv : List (κ × V)}, KVs K ρ H kvs kv → (valW kvs k = none ∧ valV kv k = none) ∨ ∃ w v, valW kvs k = some w ∧ valV kv k = some v ∧ Rel K ρ H w v
  | _, _, .nil => .inl ⟨rfl, rfl⟩
  | _, _, .cons (k := k') (w := w) (v := v) r t => by
    by_cases e : k' = k
    · refine .inr ⟨w, v, ?_, ?_, r⟩
      · simp [valW, List.find?_cons, e]
      · exact valV_pos e
    · have e1 : ∀ ws : List (κ × W), valW ((k', w) :: ws) k = valW ws k := fun ws => by simp [valW, List.find?_cons, e]
      rw [e1, valV_neg e]
      exact KVs.val k t
theorem KVs.any (k : κ) : ∀ {kvs : List (κ × W)} {kv : List (κ × V)}, KVs K ρ H kvs kv → (kv.any fun p => decide (p.1 = k)) = (kvs.any fun p => decide (p.1 = k))
  | _, _, .nil => rfl
  | _, _, .cons _ t => by rw [List.any_cons, List.any_cons, KVs.any k t]
theorem KVs.repl (k : κ) {w : W} {v : V} (q : Rel K ρ H w v) : ∀ {kvs : List (κ × W)} {kv : List (κ × V)}, KVs K ρ H kvs kv → KVs K ρ H (kvs.map fun p => if p.1 = k then (p.1, w) else p) (kv.map fun p => if p.1 = k then (p.1, v) else p)
  | _, _, .nil => .nil
  | _, _, .cons (k := k') r t => by
    rw [List.map_cons, List.map_cons]
    by_cases e : k' = k
    · rw [if_pos e, if_pos e]
      exact .cons q (KVs.repl k q t)
    · rw [if_neg e, if_neg e]
      exact .cons r (KVs.repl k q t)
theorem KVs.append {ws2 : List (κ × W)} {vs2 : List (κ × V)} (b : KVs K ρ H ws2 vs2) : ∀ {kvs : List (κ × W)} {kv : List (κ × V)}, KVs K ρ H kvs kv → KVs K ρ H (kvs ++ ws2) (kv ++ vs2)
  | _, _, .nil => b
  | _, _, .cons r t => .cons r (KVs.append b t)
theorem KVs.put (k : κ) {w : W} {v : V} (q : Rel K ρ H w v) (r : KVs K ρ H kvs kv) : KVs K ρ H (putKW kvs k w) (putK kv k v) := by
  unfold putKW putK
  rw [r.any k]
  split
  · exact r.repl k q
  · exact KVs.append (.cons q .nil) r
theorem KVs.drop (k : κ) : ∀ {kvs : List (κ × W)} {kv : List (κ × V)}, KVs K ρ H kvs kv → KVs K ρ H (dropKW kvs k) (dropK kv k)
  | _, _, .nil => .nil
  | _, _, .cons (k := k') (w := w) (v := v) (ws := ws) (vs := vs) r t => by
    have ih := KVs.drop k t
    unfold dropKW dropK at ih ⊢
    by_cases e : k' = k
    · rw [List.filter_cons_of_neg (by simp [e]), List.filter_cons_of_neg (by simp [e])]
      exact ih
    · rw [List.filter_cons_of_pos (by simp [e]), List.filter_cons_of_pos (by simp [e])]
      exact .cons r ih
end
end EL
namespace EL
open PySem PySem.Spec L2
open PyProof.Rows hiding St
def iEnu (a : ME) : MI := fun sw => bnd (a sw) fun x h => match x with
  | .ref p => match h[p]? with
    | some (.lst xs) => .ok (.enu p, xs.length) h
    | _ => .no
  | .rol xs => .ok (.enr xs, xs.length) h
  | .tup xs => .ok (.enuT xs, xs.length) h
  | _ => .no
section
variable {X : Cx} {cm : Cm} {a : Expr} {ma : ME} {pos apos cpos tpos : Pos} {elts : List Expr} {kk : Nat}
theorem ri_enum {p : Pos} (hm : X.mg "enumerate" = none) (ha : RE X cm a ma) (hg : Gl X "enumerate" := by rfl) (hs : starEach [a] X.env = [(false, eval a X.env)] := by rfl) : RI X cm (.Tuple elts kk tpos) (.Call (.Name "enumerate" p) [a] [] pos) (iEnu ma) := by
  refine piM (pi_enum2 hg hm (pa_cons ha pa_nil hs) hs) fun σ H R q => ?_
  obtain ⟨ρ, h, sw, src, h', rh, rs, e, k⟩ := q
  obtain ⟨x, h1, e1, e2⟩ := bnd_ok e
  refine ⟨ρ, h, sw, x, h1, rh, rs, e1, fun ρ1 H1 x' l1 rh1 rx => ?_⟩
  cases rx with
  | @ref p ad hp =>
    have e2' : (match h1[p]? with
      | some (.lst xs) => EL.R.ok (Src.enu p, xs.length) h1
      | _ => EL.R.no) = .ok src h' := e2
    split at e2'
    · rename_i xs eo
      cases e2'
      obtain ⟨vs, ea, rl⟩ := rh1.obj p _ _ eo hp
      exact ⟨_, rfl, .inl ⟨vs, .of ea, k ρ1 H1 _ l1 rh1 ⟨_, hp, rfl⟩⟩⟩
    · cases e2'
  | rol hq rl =>
    cases e2
    exact ⟨_, rfl, .inl ⟨_, hq.sq, k ρ1 H1 _ l1 rh1 ⟨_, _, hq, rl, rfl⟩⟩⟩
  | tup hq rl =>
    cases e2
    exact ⟨_, rfl, .inr ⟨_, hq, k ρ1 H1 _ l1 rh1 ⟨_, _, hq, rl, rfl⟩⟩⟩
  | _ => cases e2
end
end EL
namespace EL
open PySem PySem.Spec L2
open PyProof.Rows hiding St
def leS (a b : Str) : Bool := !ltCps b.cps.toList a.cps.toList
theorem leS_iff {a b : Str} : leS a b = true ↔ a.cps.toList ≤ b.cps.toList := by
  unfold leS
  rw [ltCps_eq]
  simp [List.not_lt]
theorem leS_anti {a b : Str} (h : leS a b = true) (h' : leS b a = true) : a = b := by
  have e := List.le_antisymm (leS_iff.mp h) (leS_iff.mp h')
  cases a with
  | mk x => cases b with
    | mk y =>
      have e' : x = y := Array.toList_inj.mp e
      rw [e']
def tupOf : W → Option (List W)
  | .tup xs => some xs
  | _ => none
def bList1 : List W → M W
  | [x] => fun h => match items h x with
    | some xs => alloc (.lst xs) h
    | none => (match tupOf x with
      | some xs => alloc (.lst xs) h
      | none => .no)
  | _ => bad
def bTup1 : List W → M W
  | [x] => fun h => match items h x with
    | some xs => .ok (.tup xs) h
    | none => (match tupOf x with
      | some xs => .ok (.tup xs) h
      | none => .no)
  | _ => bad
section
variable {K : PySem.W.Frag} {cm : Cm} {ρ : List Addr} {h h' : Hw} {H : Hp}
theorem tupOf_of {x : W} {v : V} {xs : List W} (r : Rel K ρ H x v) (e : tupOf x = some xs) : ∃ a vs, v = .ref a ∧ SqT K H a vs ∧ Rels K ρ H xs vs ∧ (vs = [] ∨ H a = some (.tup vs)) := by
  cases r with
  | tup hq rl n => cases e; exact ⟨_, _, rfl, hq, rl, n⟩
  | _ => cases e
theorem one' {ws : List W} {vs : List V} {f : W → M W} {g : List W → M W} {z : W} (r : Rels K ρ H ws vs) (hg : ∀ x, g [x] = f x) (hb : ∀ ws, (∀ x, ws ≠ [x]) → g ws = bad) (e : g ws h = .ok z h') : ∃ x v, ws = [x] ∧ vs = [v] ∧ Rel K ρ H x v ∧ f x h = .ok z h' := by
  cases r with
  | nil => rw [hb [] (fun x q => by cases q)] at e; cases e
  | cons r t =>
    cases t with
    | cons _ _ => rw [hb _ (fun x q => by cases q)] at e; cases e
    | nil =>
      rw [hg] at e
      exact ⟨_, _, rfl, rfl, r, e⟩
end
section
variable {X : Cx} {cm : Cm}
theorem wList1 : CallW X.K cm (fun xs H Q => ∃ p ys, xs = [.ref p] ∧ (SqL X.K H p ys ∨ SqT X.K H p ys) ∧ ∀ l, H l = none → Q (.ref l) (upd H l (.lst ys))) bList1 := by
  intro ρ h H ws vs z h' Q rh r e k
  obtain ⟨x, v, rfl, rfl, rx, e'⟩ := one' r (f := fun x => bList1 [x]) (fun _ => rfl) (fun ws hw => by cases ws with
    | nil => rfl
    | cons a t => cases t with
      | nil => exact absurd rfl (hw a)
      | cons _ _ => rfl) e
  have e2 : (match items h x with
    | some xs => alloc (.lst xs) h
    | none => (match tupOf x with
      | some xs => alloc (.lst xs) h
      | none => EL.R.no)) = .ok z h' := e'
  split at e2
  · rename_i xs hi
    cases e2
    obtain ⟨a, us, rfl, hq, rl⟩ := items_of rh rx hi
    exact ⟨a, us, rfl, .inl hq, fun l hl => new_lst rh rl hl k⟩
  · split at e2
    · rename_i xs ht
      cases e2
      obtain ⟨a, us, rfl, hq, rl, nn⟩ := tupOf_of rx ht
      exact ⟨a, us, rfl, .inr hq, fun l hl => new_lst rh rl hl k⟩
    · cases e2
theorem wTup1 : CallW X.K cm (fun xs H Q => ∃ p ys, xs = [.ref p] ∧ ((SqL X.K H p ys ∧ ∀ l, H l = none → Q (.ref l) (upd H l (.tup ys))) ∨ (SqT X.K H p ys ∧ Q (.ref p) H))) bTup1 := by
  intro ρ h H ws vs z h' Q rh r e k
  obtain ⟨x, v, rfl, rfl, rx, e'⟩ := one' r (f := fun x => bTup1 [x]) (fun _ => rfl) (fun ws hw => by cases ws with
    | nil => rfl
    | cons a t => cases t with
      | nil => exact absurd rfl (hw a)
      | cons _ _ => rfl) e
  have e2 : (match items h x with
    | some xs => EL.R.ok (W.tup xs) h
    | none => (match tupOf x with
      | some xs => EL.R.ok (W.tup xs) h
      | none => EL.R.no)) = .ok z h' := e'
  split at e2
  · rename_i xs hi
    cases e2
    obtain ⟨a, us, rfl, hq, rl⟩ := items_of rh rx hi
    exact ⟨a, us, rfl, .inl ⟨hq, fun l hl => new_tup rh rl hl k⟩⟩
  · split at e2
    · rename_i xs ht
      cases e2
      obtain ⟨a, us, rfl, hq, rl, nn⟩ := tupOf_of rx ht
      exact ⟨a, us, rfl, .inr ⟨hq, k.at rh (.tup hq rl)⟩⟩
    · cases e2
end
structure InsK (K : PySem.W.Frag) (C : Addr) : Prop where
  cl : Cls K C
  ha : PySem.W.findIn K (.ref C) "__class__" = some (some (.builtin "object.__class__"))
  hn : PySem.W.specialIn K (.builtin "object.__class__") "__get__" = some (some (.builtin "getset_descriptor.__get__"))
  htk : PySem.W.takesIn K (.builtin "object.__class__") = some true
  hm : PySem.W.mroIn K C (.type "object") = some true
/-- which class it is asked for; what each class and each built-in type answers -/
def mIsiC (tab : List (Str × Bool)) (tys : List String) (a : ME) : ME := fun sw => bnd (a sw) fun x h => match tab.find? fun q => insB h x q.1 with
  | some q => .ok (.bl q.2) h
  | none => if tyIn h x tys = true then .ok (.bl false) h else .no
theorem re_isiC {X : Cx} {cm : Cm} {C x : Str} {a : Expr} {ma : ME} {tab : List (Str × Bool)} {tys : List String} {p p2 pos : Pos} (hm : X.mg "isinstance" = none) (hC : X.mg x = some (.ref (cm C))) (ht : ∀ q ∈ tab, InsK X.K (cm q.1) ∧ PySem.W.kitOne X.K (.ref (cm q.1)) (.ref (cm C)) = some q.2)
    (hy : ∀ n ∈ tys, PySem.W.kitOne X.K (.type n) (.ref (cm C)) = some false) (ha : RE X cm a ma) (hg : Gl X "isinstance" := by rfl) (hg2 : Gl X x := by rfl) (hd : (x == ("__debug__" : Str)) = false := by decide)
    (hs1 : starEach (a :: [.Name x p2]) X.env = (false, eval a X.env) :: starEach [.Name x p2] X.env := by rfl) (hs2 : starEach (.Name x p2 :: []) X.env = (false, eval (.Name x p2) X.env) :: starEach [] X.env := by rfl) (hpl : (backTo pos (starEach [.Name x p2] X.env)).any (·.1) = false := by rfl) :
    RE X cm (.Call (.Name "isinstance" p) [a, .Name x p2] [] pos) (mIsiC tab tys ma) := by
  refine peM (pe_callB call_isi hg hm (by decide +kernel) (pa_cons ha (pa_cons (pe_glob (v := .ref (cm C)) hg2 hC rfl hd) pa_nil hs2) hs1) (by decide) (by decide) hs1 hpl) fun σ H Q q => ?_
  obtain ⟨ρ, h, sw, w, h', rh, rs, e, k⟩ := q
  obtain ⟨y, h1, e1, e2⟩ := bnd_ok e
  refine ⟨ρ, h, sw, y, h1, rh, rs, e1, fun ρ1 H1 v l1 rh1 rx => ?_⟩
  split at e2
  · rename_i q hq
    cases e2
    obtain ⟨hI, hk⟩ := ht q (List.mem_of_find?_eq_some hq)
    have hb : insB h' y q.1 = true := by simpa using List.find?_some hq
    obtain ⟨p', ad, dx, fv, rfl, rfl, _, ea⟩ := insB_of rh1 rx hb
    exact ⟨_, .ref (cm C), .ref (cm q.1), .ref (cm C), q.2, rfl, .own _, .base (.ins ea hI.cl hI.ha hI.hn hI.htk hI.hm), hk, k ρ1 H1 _ l1 rh1 (.bl _)⟩
  · split at e2
    · rename_i ht'
      cases e2
      unfold tyIn at ht'
      split at ht'
      · rename_i n hn
        exact ⟨v, .ref (cm C), .type n, .ref (cm C), false, rfl, .own _, tyX_of rh1 rx hn, hy n (by simpa using ht'), k ρ1 H1 _ l1 rh1 (.bl _)⟩
      · cases ht'
    · cases e2
end EL
namespace EL
open PySem PySem.Spec L2
open PyProof.Rows hiding St
def keyT (e : Int × Value) : Str := match e.2 with
  | .str x _ => x
  | _ => Str.empty
def GoodT (P : Program) (w : World) (e : Int × Value) : Prop := ∃ x tk, e.2 = Value.str x tk ∧ e.1 = (strKind P w).hash x
structure TabT (P : Program) (w : World) (ob : Obj) (es : Array (Int × Value)) (ep : Nat) (tb : SetTable) (ks : List Str) : Prop where
  exs : ob.ExactSet
  dat : ob.data = .set es ep tb
  good : ∀ e ∈ es.toList, GoodT P w e
  perm : (es.toList.map keyT).Perm ks
  nd : ks.Nodup
  few : es.size < scanBound
  fit : tb.fits es.size = true
  ris : Ris tb.place.toList
  led : w.params.followText "set-order" = true ∨ tb.led = true
def SetS (P : Program) (w : World) (h : Heap) (a : Addr) (ks : List Str) : Prop := ∃ ob es ep tb, h.get? a = some ob ∧ TabT P w ob es ep tb ks
section
variable {P : Program} {w : World} {A : Around} {E : Value → Shared → Prop} {s : Shared} {a : Addr} {ks : List Str}
theorem TabT.len {ob : Obj} {es : Array (Int × Value)} {ep : Nat} {tb : SetTable} (T : TabT P w ob es ep tb ks) : es.size = ks.length := by
  have q := T.perm.length_eq
  simpa using q
end
end EL
namespace EL
open PySem PySem.Spec L2
open PyProof.Rows hiding St
theorem SetS.at {P : Program} {w : World} {h h' : Heap} {a : Addr} {ks : List Str} (R : SetS P w h a ks) (k : ∀ o, h.get? a = some o → h'.get? a = some o) : SetS P w h' a ks := by
  obtain ⟨ob, es, ep, tb, got, T⟩ := R
  exact ⟨ob, es, ep, tb, k _ got, T⟩
end EL
namespace EL
open PySem PySem.Spec L2
open PyProof.Rows hiding St
end EL
namespace EL
open PySem PySem.Spec L2
open PyProof.Rows hiding St
end EL
namespace EL
open PySem PySem.Spec L2
open PyProof.Rows hiding St
/-- the j-th statement in a class's body -/
def inCls (st : Stmt) (j : Nat) : Stmt := match st with
  | .ClassDef _ _ _ b _ _ _ _ _ _ _ => b.getD j (.Pass ⟨0, 0, 0, 0⟩)
  | _ => .Pass ⟨0, 0, 0, 0⟩
section
variable {P : Program} {w : World} {K : PySem.W.Frag} {mg : Str → Option Value} {base : Heap}
theorem efnD {x qual : Str} {st : Stmt} {f : Addr} {fd : FuncData} {N ps : List Str} {k : Nat} {cm : Cm} {m : MS} {dvs : List V} {kws : List (Str × V)} (F : FunD K x qual (defArgs st) (defBody st) (defScope st) dvs kws f fd) (S : FnScope N ps (defScope st))
    (hb : ∀ (cdv : Value) (A : Around) (outer : List Env) (s : Shared) (H : Hp) (E : XK), Room k (A.deeper (envOfC qual (defScope st) s.heap.objs.size f cdv)) → RSs (cxOf CX0 P w K mg base N qual (defScope st) f cdv A outer s H E).nox cm (defBody st) m) :
    FnOk P w K mg base CX0 (k + 1) f fd ps (spM K cm (mFn ps.length N.length m)) := by
  refine F.ok S (fun vs H Q E h => ?_) (fun cdv A outer s H vs Q E hr h => ?_)
  · obtain ⟨ρ, h, ws, w, h', rh, rs, e, k⟩ := h
    unfold mFn at e
    split at e
    · rw [← rs.length]
      assumption
    · cases e
  · refine ⟨_, (hb cdv A outer s H E hr).nox, ?_⟩
    obtain ⟨ρ, h, ws, w, h', rh, rs, e, k⟩ := h
    unfold mFn at e
    split at e
    · rename_i hl
      obtain ⟨fl, h1, e1, e2⟩ := bnd_ok e
      refine ⟨ρ, h, _, fl, h1, rh, ?_, e1, ?_⟩
      · have q := relS_start (N := N) rs
        rw [hl] at q
        exact q
      · cases fl with
        | rt w =>
          cases e2
          exact k
        | nx s =>
          cases e2
          exact fun ρ' H' σ' l rh' _ => k ρ' H' .non l rh' .non
        | bk s => cases e2
        | ct s => cases e2
    · cases e
end
/-- what is known of a class whose instances are made here -/
structure ClsK (K : PySem.W.Frag) (mg : Str → Option Value) (x : Str) (C : Addr) : Prop where
  cl : Cls K C
  is : InsK K C
  gl : mg x = some (.ref C)
  slf : PySem.W.kitOne K (.ref C) (.ref C) = some true
  first : PySem.W.selfFirst K C = true
  noseq : PySem.W.noSeq K C = true
  ne : PySem.W.findIn K (.ref C) "__ne__" = some (some (.builtin "object.__ne__"))
  ob : PySem.W.mroIn K C (.type "object") = some true
  tys : ∀ n ∈ ["dict", "list", "tuple", "int", "str", "bool", "NoneType"], PySem.W.kitOne K (.type n) (.ref C) = some false
  nf : ∀ n ∈ ["dict", "list", "tuple", "int", "str", "bool", "NoneType"], PySem.W.notFirst K C (.type n) = true
/-- a function of a class -/
structure Own (K : PySem.W.Frag) (C : Addr) (m : Str) (f : Addr) : Prop where
  at_ : PySem.W.findIn K (.ref C) m = some (some (.ref f))
  fn : PySem.W.isFn K (.ref f) = true
  fi : PySem.W.fnIn K f = true
  kp : PySem.W.keepIn K (.ref f) = true
theorem Own.meth {K : PySem.W.Frag} {C : Addr} {m : Str} {f : Addr} (o : Own K C m f) : Meth K C m f := ⟨o.at_, o.fn, o.kp⟩
abbrev allTys : List String := ["dict", "list", "tuple", "int", "str", "bool", "NoneType"]
theorem rels_nil {K : PySem.W.Frag} (ρ : List Addr) (H : Hp) : Rels K ρ H [] [] := .nil
theorem isi_tab {K : PySem.W.Frag} {mg : Str → Option Value} {x C : Str} {cm : Cm} (k : ClsK K mg x (cm C)) : ∀ q ∈ [(C, true)], InsK K (cm q.1) ∧ PySem.W.kitOne K (.ref (cm q.1)) (.ref (cm C)) = some q.2 := fun q hq => by
  rw [List.mem_singleton.mp hq]
  exact ⟨k.is, k.slf⟩
end EL
namespace EL
open PySem PySem.Spec L2
open PyProof.Rows hiding St
end EL
namespace EL
open PySem PySem.Spec L2
open PyProof.Rows hiding St
end EL
namespace EL
open PySem PySem.Spec L2
open PyProof.Rows hiding St
def errTab : List (Str × Str) := [("BadAllowance", "index"), ("BadPlace", "index"), ("BadCount", "part"), ("BadDate", "date"), ("BadMany", "many"), ("BadList", "value"), ("BadStock", "value"), ("BadAllowances", "value"), ("RingOfLists", "word"), ("BadRule", "what"), ("BadEvent", "event"), ("BadEvents", "index"), ("BadShare", "word"), ("BadWait", "wait"), ("BadEither", "index"), ("BadChoice", "choice"), ("BadNumber", "number"), ("BadMenu", "index"), ("BadText", "index"), ("BadPart", "part"), ("BadLine", "line"), ("Lacking", "few"), ("UnknownPlace", "word"), ("UnknownList", "word"), ("TooMany", "limit"), ("NothingToUndo", "index")]
def fieldOf (c : Str) : Str := (errTab.lookup c).getD "index"
/-- what is wished of an exception -/
def XOut (K : PySem.W.Frag) (cm : Cm) (ρ : List Addr) (H : Hp) (E : XK) (c : Str) (v : W) (h' : Hw) : Prop :=
  ∀ ρ' H' d v', Le K ρ H ρ' H' → RelH K cm ρ' h' H' → H' d = some (.xd [(fieldOf c, v')]) → Rel K ρ' H' v v' → E (.ref (cm c)) (some d) H'
theorem XOut.le {K : PySem.W.Frag} {cm : Cm} {ρ ρ' : List Addr} {H H' : Hp} {E : XK} {c : Str} {v : W} {h' : Hw} (l : Le K ρ H ρ' H') (q : XOut K cm ρ H E c v h') : XOut K cm ρ' H' E c v h' :=
  fun ρ2 H2 d v' l2 => q ρ2 H2 d v' (l.trans l2)
def OutE (K : PySem.W.Frag) (cm : Cm) (E : XK) (ρ : List Addr) (H : Hp) (r : R W) (Q : VK) : Prop := match r with
  | .ok w h' => KE K cm ρ H w h' Q
  | .ex c v h' => XOut K cm ρ H E c v h'
  | .no => False
def OutS (K : PySem.W.Frag) (cm : Cm) (E : XK) (ρ : List Addr) (H : Hp) (r : R Fl) (D : Ends) : Prop := match r with
  | .ok f h' => FlK K cm ρ H f h' D
  | .ex c v h' => XOut K cm ρ H E c v h'
  | .no => False
section
variable {K : PySem.W.Frag} {cm : Cm} {E : XK} {ρ ρ' : List Addr} {H H' : Hp}
theorem OutS.le {r : R Fl} {D : Ends} (l : Le K ρ H ρ' H') (q : OutS K cm E ρ H r D) : OutS K cm E ρ' H' r D := by
  cases r with
  | ok f h' => exact FlK.le l q
  | ex c v h' => exact XOut.le l q
  | no => exact q
theorem OutE.le {r : R W} {Q : VK} (l : Le K ρ H ρ' H') (q : OutE K cm E ρ H r Q) : OutE K cm E ρ' H' r Q := by
  cases r with
  | ok w h' => exact fun ρ2 H2 v l2 => q ρ2 H2 v (l.trans l2)
  | ex c v h' => exact XOut.le l q
  | no => exact q
end
end EL
namespace EL
open PySem PySem.Spec L2
open PyProof.Rows hiding St
/-- a def promises: it does what m does, or raises as m does -/
def spY (K : PySem.W.Frag) (cm : Cm) (m : List W → M W) : Sp := fun vs H Q E => ∃ ρ h ws, RelH K cm ρ h H ∧ Rels K ρ H ws vs ∧ OutE K cm E ρ H (m ws h) Q
abbrev FnY (P : Program) (w : World) (K : PySem.W.Frag) (mg : Str → Option Value) (base : Heap) (cm : Cm) (k : Nat) (f : Addr) (fd : FuncData) (ps : List Str) (m : List W → M W) : Prop := FnOk P w K mg base (L2.CX P w) k f fd ps (spY K cm m)
/-- where it raises nothing, it is a def as the others -/
theorem FnOk.calm {P : Program} {w : World} {K : PySem.W.Frag} {mg : Str → Option Value} {base : Heap} {cm : Cm} {k : Nat} {f : Addr} {fd : FuncData} {ps : List Str} {m : List W → M W} (F : FnY P w K mg base cm k f fd ps m) : FnOk P w K mg base CX0 k f fd ps (spM K cm m) := by
  have up : ∀ {vs H Q} {E : XK}, spM K cm m vs H Q E → spY K cm m vs H Q fun _ _ _ => False := fun {vs H Q E} q => by
    obtain ⟨ρ, h, ws, w, h', rh, rs, e, k⟩ := q
    refine ⟨ρ, h, ws, rh, rs, ?_⟩
    rw [e]
    exact k
  refine ⟨fun vs H Q E q => F.len vs H Q _ (up q), fun A outer s H args us vs Q E hr he hb hv q => ?_⟩
  refine codeAny_mono (F.run A outer s H args us vs Q _ hr he hb hv (up q)) fun r s' z => ?_
  cases r with
  | ok fl => cases fl <;> exact z
  | error u =>
    obtain ⟨_, _, _, _, _, _, _, _, _, _, _, _, no⟩ := (show L2.CX P w outer H s (fun _ _ _ => False) u s' from z)
    exact no.elim
end EL
namespace EL
open PySem PySem.Spec L2
open PyProof.Rows hiding St
section
variable {X : Cx} {cm : Cm} {E : XK} {tg it : Expr} {st : Stmt} {body : List Stmt} {mi : MI} {g : MG} {m : MS} {pos : Pos} {vs : List Nat}
def free (a : Addr) (od : Obj) (u : HO) (E : XK) : XK := fun cls d H => H a = some (.frz od u) ∧ E cls d (upd H a u)
end
end EL
namespace EL
open PySem PySem.Spec L2
open PyProof.Rows hiding St
/-- what a class must say of an operator beside another kind of value -/
structure BinF (K : PySem.W.Frag) (C : Addr) (op : Operator) (n : String) : Prop where
  back : ∃ rc, PySem.W.findIn K (.ref C) (dunderR op.info.2) = some rc ∧ (rc = none ∨ ∃ g : Addr, rc = some (.ref g))
  here : ∃ fo, PySem.W.findIn K (.type n) (PySem.dunder op.info.2) = some fo
  over : ∃ ro, PySem.W.findIn K (.type n) (dunderR op.info.2) = some ro
  sub : PySem.W.subIn K (.type n) (.ref C) = some false
end EL
namespace PySem.W
open PySem PySem.Calls PyProof.Rows
/-- an own operator beside an object of a built-in kind -/
theorem own_bin {prog : Program} {w : World} {A : Around} {E : Value → Shared → Prop} {s : Shared} {K : Frag} {x C L f : Addr} {h₀ : Heap} {m : Str → Option Value} {ox : Obj} {od : Option Obj} {T : String} {op : Operator} {b : Value} {fo ro rc : Option Value} {Q : Value → Shared → Prop}
    (F : Fr h₀ L s.heap m) (X₀ : K.In h₀) (I : InstAt s.heap x ox C od) (kind : Looks (model prog w) s.heap (typeOf b) (.type T)) (first : selfFirst K C = true) (mine : findIn K (.ref C) (PySem.dunder op.info.2) = some (some (.ref f))) (fn : isFn K (.ref f) = true)
    (back : findIn K (.ref C) (dunderR op.info.2) = some rc) (plain : rc = none ∨ ∃ g : Addr, rc = some (.ref g)) (its : findIn K (.type T) (PySem.dunder op.info.2) = some fo) (over : findIn K (.type T) (dunderR op.info.2) = some ro) (no : subIn K (.type T) (.ref C) = some false)
    (h : wpAny (model prog w) A (call (.ref f) [.ref x, b]) (CmpBack Q) E s) : wpAny (model prog w) A (binaryOp op (.ref x) b) Q E s := by
  have X := X₀.keeps F.keep
  obtain ⟨cd, rest, hcd, hm⟩ := ksp_first first
  obtain ⟨sym, nm, info⟩ : ∃ sym nm, op.info = (sym, nm) := ⟨_, _, rfl⟩
  rw [info] at mine back its over
  have made := ksp_try X I mine fn h
  obtain ⟨hh, gs, dr, tk, os⟩ := s
  have K1 : Looks (model prog w) hh (typeOf (.ref x)) (.ref C) := I.type
  have K2 := fills_K (M := model prog w) X hcd hm mine
  have K3 := ksp_fillsT (M := model prog w) X its over
  have K4 : Looks (model prog w) hh (isSubtype (.type T) (.ref C)) false := looks_subIn X no
  have K5 := ksp_inPy (M := model prog w) X mine back plain
  have K6 : Looks (model prog w) hh (numberSlotInPython (.type T) nm) false := .of_pure rfl
  have K7 : Looks (model prog w) hh (typeLookup (.type T) (dunderR nm)) ro := looks_findIn X over
  generalize ((fo.isSome && !isSeqSlot fo) || (ro.isSome && !isSeqSlot ro)) = there at K3
  have apart : (Value.ref C == Value.type T) = false := Bool.eq_false_iff.mpr fun z => nomatch beq_iff_eq.mp z
  simp only [binaryOp, info]
  refine wpAny_holding (wpAny_bind ?_)
  unfold binaryOp1
  refine wpAny_bind (K1.at (wpAny_bind (kind.at (wpAny_bind (K2.at ?_)))))
  simp only [apart, if_false, Bool.false_eq_true]
  cases there <;>
    (ksp_lk
     refine wpAny_mono made (fun r s' z => ?_) fun _ _ e => e
     obtain ⟨v, rfl, q⟩ := z
     ksp_lk
     exact q)
end PySem.W
namespace EL
open PySem PySem.Spec L2
open PyProof.Rows hiding St
end EL
set_option maxHeartbeats 4000000
namespace EL
open PySem PySem.Spec L2
open PyProof.Rows hiding St
end EL
namespace EL
open PySem PySem.Spec L2
open PyProof.Rows hiding St
end EL
set_option maxHeartbeats 2000000
namespace EL
open PySem PySem.Spec L2
open PyProof.Rows hiding St
abbrev HT := Addr → Value → Option Addr → TS
/-- the clause's name is gone behind it -/
def clr (i : Nat) (D : Ends) : Ends := ⟨fun σ H => D.nx (σ.set i none) H, D.rt, fun σ H => D.bk (σ.set i none) H, fun σ H => D.ct (σ.set i none) H⟩
def wN (K : PySem.W.Frag) (W : WX) (D : Ends) : List (Value × Nat × HT) → WX
  | [] => W
  | (c, i, t) :: r => fun cls d σ H => ∃ b, PySem.W.exmOne K cls c = some b ∧ (b = true → ∀ a, H a = none → t a cls d (clr i D) (σ.set i (some (.ref a))) H) ∧ (b = false → wN K W D r cls d σ H)
end EL
set_option maxHeartbeats 2000000
namespace EL
open PySem PySem.Spec L2
open PyProof.Rows hiding St
abbrev HM := W → M W
def tH (K : PySem.W.Frag) (cm : Cm) (L i : Nat) (a : Addr) (c : Str) (dd : Addr) (m : HM) : TE := fun σ H Q => ∃ ρ h v v' w h', RelH K cm ρ h H ∧ H dd = some (.xd [(fieldOf c, v')]) ∧ Rel K ρ H v v' ∧ (σ.length = L → σ[i]? = some (some (.ref a))) ∧ m v h = .ok w h' ∧ KE K cm ρ H w h' Q
/-- the exception that the suite holds: of the class c, its dict at dd -/
def HExp (X : Cx) (cm : Cm) (c : Str) (P : Cx → Addr → Obj → Addr → Prop) : Prop := ∀ (a : Addr) (oe : Obj) (dd : Addr) (pn : List (Addr × Obj)), Zc (.ref (cm c)) (some dd) oe → (∃ vs, oe.data = .fields vs) → P (X.suite a ((a, oe) :: pn)) a oe dd
abbrev HE (X : Cx) (cm : Cm) (i : Nat) (c : Str) (e : Expr) (m : HM) : Prop := HExp X cm c fun X' a _ dd => PE X' e (tH X'.K cm X'.N.length i a c dd m)
abbrev HL := List (Str × List Str × HM)
def goH : HL → Str → W → M Fl
  | [], c, v => fun h => .ex c v h
  | (c0, no, m) :: r, c, v => fun h => if (c == c0) = true then (match m v h with
    | .ok w h' => .ok (.rt w) h'
    | _ => .no) else if no.contains c = true then goH r c v h else .no
def tHS (K : PySem.W.Frag) (cm : Cm) (L i : Nat) (c : Str) (m : HM) : HT := fun a cls d D σ H => ∃ dd, cls = .ref (cm c) ∧ d = some dd ∧ tH K cm L i a c dd m σ H D.rt
inductive HdY (X : Cx) (cm : Cm) : List ExceptHandler → HL → List (Value × Nat × HT) → Prop
  | nil : HdY X cm [] [] []
  | cons {x n c : Str} {no : List Str} {m : HM} {cv : Value} {i : Nat} {e : Expr} {p1 p2 p3 : Pos} {hs : List ExceptHandler} {l : HL} {lw : List (Value × Nat × HT)} (nm : Names X x cv) (yes : PySem.W.exmOne X.K (.ref (cm c)) cv = some true) (nos : ∀ q ∈ no, PySem.W.exmOne X.K (.ref (cm q)) cv = some false)
      (nd : X.N.Nodup) (at_ : X.N[i]? = some n) (lc : X.env.kindOf n = some .local) (he : HE X cm i c e m) (rest : HdY X cm hs l lw) :
      HdY X cm (.ExceptHandler (some (.Name x p1)) (some n) [.Return (some e) p3] p2 :: hs) ((c, no, m) :: l) ((cv, i, tHS X.K cm X.N.length i c m) :: lw)
section
variable {X : Cx} {cm : Cm} {E : XK} {hs : List ExceptHandler} {l : HL} {lw : List (Value × Nat × HT)}
theorem HdY.go (k : HdY X cm hs l lw) {D : Ends} {ρ : List Addr} {h : Hw} {H : Hp} {c : Str} {v : W} {v' : V} {dd : Addr} {σ : St} (rh : RelH X.K cm ρ h H) (ex : H dd = some (.xd [(fieldOf c, v')])) (rv : Rel X.K ρ H v v') :
    OutS X.K cm E ρ H (goH l c v h) D → wN X.K (fun cls d _ H => E cls d H) D lw (.ref (cm c)) (some dd) σ H := by
  induction k with
  | nil => exact fun o => o ρ H dd v' .refl rh ex rv
  | @cons x n c0 no m cv i e p1 p2 p3 hs l lw nm yes nos nd at_ lc he rest ih =>
    intro o
    unfold goH at o
    by_cases h1 : (c == c0) = true
    · rw [if_pos h1] at o
      have e1 : c = c0 := by simpa using h1
      subst e1
      refine ⟨true, yes, fun _ a na => ?_, (fun z => by cases z)⟩
      refine ⟨dd, rfl, rfl, ρ, h, v, v', ?_⟩
      cases em : m v h with
      | no => rw [em] at o; exact o.elim
      | ex c v h' => rw [em] at o; exact o.elim
      | ok w h' =>
        rw [em] at o
        refine ⟨w, h', rh, ex, rv, fun hl => ?_, rfl, o⟩
        rw [List.getElem?_set, if_pos rfl, if_pos]
        have := (List.getElem?_eq_some_iff.mp at_).1
        rw [List.length_set] at hl
        omega
    · rw [if_neg h1] at o
      split at o
      · rename_i h2
        exact ⟨false, nos c (by simpa using h2), (fun z => by cases z), fun _ => ih o⟩
      · exact o.elim
end
end EL
set_option maxHeartbeats 2000000
namespace EL
open PySem PySem.Spec L2
open PyProof.Rows hiding St
section
variable {X : Cx} {cm : Cm} {a b e : Expr} {ma mb me : ME} {pos apos cpos p : Pos} {x : Str}
def mIsi2 (S T : String) (a : ME) : ME := fun sw => bnd (a sw) fun x h => match tyName h x with
  | some n => match kitB n S, kitB n T with
    | some b, some c => .ok (.bl (b || c)) h
    | _, _ => .no
  | none => .no
theorem re_isi2 {S T : String} {y : Str} {p2 p3 tp : Pos} {x1} (hm : X.mg "isinstance" = none) (hS : X.mg x = none) (hT : X.mg y = none) (ha : RE X cm a ma) (hv : bootBuiltins x = some (.type S) := by decide +kernel) (hv2 : bootBuiltins y = some (.type T) := by decide +kernel) (hg : Gl X "isinstance" := by rfl) (hg2 : Gl X x := by rfl) (hg3 : Gl X y := by rfl)
    (hn : x ≠ "__name__" := by decide) (hd : (x == ("__debug__" : Str)) = false := by decide) (hn2 : y ≠ "__name__" := by decide) (hd2 : (y == ("__debug__" : Str)) = false := by decide)
    (hs1 : starEach (a :: [.Tuple [.Name x p2, .Name y p3] x1 tp]) X.env = (false, eval a X.env) :: starEach [.Tuple [.Name x p2, .Name y p3] x1 tp] X.env := by rfl)
    (hs2 : starEach (.Tuple [.Name x p2, .Name y p3] x1 tp :: []) X.env = (false, eval (.Tuple [.Name x p2, .Name y p3] x1 tp) X.env) :: starEach [] X.env := by rfl)
    (hs3 : starEach (.Name x p2 :: [.Name y p3]) X.env = (false, eval (.Name x p2) X.env) :: starEach [.Name y p3] X.env := by rfl) (hs4 : starEach (.Name y p3 :: []) X.env = (false, eval (.Name y p3) X.env) :: starEach [] X.env := by rfl)
    (hpl : (backTo pos (starEach [.Tuple [.Name x p2, .Name y p3] x1 tp] X.env)).any (·.1) = false := by rfl) :
    RE X cm (.Call (.Name "isinstance" p) [a, .Tuple [.Name x p2, .Name y p3] x1 tp] [] pos) (mIsi2 S T ma) := by
  refine peM (pe_callB call_isiT hg hm (by decide +kernel) (pa_cons ha (pa_cons (pe_tup (pa_cons (pe_bltn (v := .ty S) hg2 hS hv rfl hn hd) (pa_cons (pe_bltn (v := .ty T) hg3 hT hv2 rfl hn2 hd2) pa_nil hs4) hs3)) pa_nil hs2) hs1) (by decide) (by decide) hs1 hpl) fun σ H Q q => ?_
  obtain ⟨ρ, h, sw, w, h', rh, rs, e, k⟩ := q
  obtain ⟨y', h1, e1, e2⟩ := bnd_ok e
  refine ⟨ρ, h, sw, y', h1, rh, rs, e1, fun ρ1 H1 v l1 rh1 rx => ?_⟩
  refine ⟨by show 2 ≤ sizeLine; rw [sizeLine_eq]; omega, fun tq hq => ?_⟩
  have l2 : Le X.K ρ1 H1 ρ1 (upd H1 tq (.tup [.ty S, .ty T])) := le_new hq
  split at e2
  · rename_i n hn'
    split at e2
    · rename_i bb cc hb hc
      cases e2
      refine ⟨v, tq, [.ty S, .ty T], .type n, [.type S, .type T], bb || cc, rfl, upd_same, .cons (.ty S) (.cons (.ty T) .nil), tyX_of (rh1.new hq) (rx.mono l2) hn', ?_, k ρ1 _ _ (l1.trans l2) (rh1.new hq) (.bl _)⟩
      refine kitAny_cons (kit_ty hb) (fun hz => ?_) (fun hz => by rw [hz, Bool.true_or])
      rw [hz, Bool.false_or]
      exact kitAny_cons (kit_ty hc) (fun h2 => by rw [h2]; rfl) (fun h2 => h2)
    · cases e2
  · cases e2
def itemsT (h : Hw) (x : W) : Option (List W) := match items h x with
  | some xs => some xs
  | none => tupOf x
theorem itemsT_of {K : PySem.W.Frag} {cm : Cm} {ρ : List Addr} {h : Hw} {H : Hp} {x : W} {v : V} {xs : List W} (rh : RelH K cm ρ h H) (r : Rel K ρ H x v) (e : itemsT h x = some xs) :
    ∃ a vs, v = .ref a ∧ (SqT K H a vs ∨ SqL K H a vs) ∧ Rels K ρ H xs vs := by
  unfold itemsT at e
  split at e
  · rename_i ys hi
    cases e
    obtain ⟨a, us, rfl, hq, rl⟩ := items_of rh r hi
    exact ⟨a, us, rfl, .inr hq, rl⟩
  · obtain ⟨a, us, rfl, hq, rl, nn⟩ := tupOf_of r e
    exact ⟨a, us, rfl, .inl hq, rl⟩
def aStar (a : ME) (r : MA) : MA := fun sw => bnd (a sw) fun x h => match itemsT h x with
  | some xs => bnd (r sw) (fun ys => rtn (xs ++ ys)) h
  | none => .no
theorem ra_star {es : List Expr} {mr : MA} {sp : Pos} (ha : RE X cm a ma) (hr : RA X cm es mr) (hs : starEach (.Starred a sp :: es) X.env = (true, eval a X.env) :: starEach es X.env := by rfl) : RA X cm (.Starred a sp :: es) (aStar ma mr) := by
  refine paM (StX.pa_star ha hr hs) fun σ H Q q => ?_
  obtain ⟨ρ, h, sw, w, h', rh, rs, e, k⟩ := q
  obtain ⟨x, h1, e1, e2⟩ := bnd_ok e
  refine ⟨ρ, h, sw, x, h1, rh, rs, e1, fun ρ1 H1 x' l1 rh1 rx => ?_⟩
  split at e2
  · rename_i xs hi
    obtain ⟨a0, us, rfl, hq, rl⟩ := itemsT_of rh1 rx hi
    obtain ⟨ys, h2, e3, e4⟩ := bnd_ok e2
    cases e4
    exact ⟨a0, us, rfl, hq, ρ1, h1, sw, ys, h', rh1, rs.mono l1, e3, fun ρ2 H2 y' l2 rh2 ry => k ρ2 H2 _ (l1.trans l2) rh2 ((rl.mono l2).append ry)⟩
  · cases e2
end
end EL
set_option maxHeartbeats 2000000
namespace EL
open PySem PySem.Spec L2
open PyProof.Rows hiding St
end EL
namespace EL
open PySem PySem.Spec L2
open PyProof.Rows hiding St
/-- it ends so, or raises so -/
def Out {α : Type} (m : M α) (h : Hw) (P : α → Hw → Prop) (PX : Str → W → Hw → Prop) : Prop := (∃ a h', m h = .ok a h' ∧ P a h') ∨ ∃ c v h', m h = .ex c v h' ∧ PX c v h'
section
variable {α β : Type} {m : M α} {f : α → M β} {h : Hw} {P P' : α → Hw → Prop} {PX : Str → W → Hw → Prop}
theorem Out.imp (o : Out m h P PX) (k : ∀ a h', P a h' → P' a h') : Out m h P' PX := by
  rcases o with ⟨a, h', e, p⟩ | q
  · exact .inl ⟨a, h', e, k a h' p⟩
  · exact .inr q
theorem Out.ok (o : Out m h P fun _ _ _ => False) : Ok m h P := by
  rcases o with q | ⟨_, _, _, _, q⟩
  · exact q
  · exact q.elim
end
abbrev Pre (h h' : Hw) : Prop := h <+: h'
theorem Pre.get {h h' : Hw} (p : h <+: h') {i : Nat} {o : O} (e : h[i]? = some o) : h'[i]? = some o := by
  obtain ⟨g, rfl⟩ := p
  exact get_app e
theorem Pre.set {h h' : Hw} (p : h <+: h') {i : Nat} (hi : h.length ≤ i) (o : O) : h <+: h'.set i o := by
  obtain ⟨g, rfl⟩ := p
  rw [List.set_append_right _ _ hi]
  exact List.prefix_append _ _
theorem Pre.len {h h' : Hw} (p : h <+: h') : h.length ≤ h'.length := p.length_le
end EL
namespace EL
open PySem PySem.Spec L2
open PyProof.Rows hiding St
end EL
set_option maxHeartbeats 2000000
namespace EL
open PySem PySem.Spec L2
open PyProof.Rows hiding St
theorem range_rev (n : Nat) : ((List.range n).map fun k : Nat => (((n : Int) - 1) + -1 * (k : Int)).toNat) = (List.range n).reverse := by
  refine List.ext_getElem (by simp) fun i h1 h2 => ?_
  simp at h1
  rw [List.getElem_map, List.getElem_range, List.getElem_reverse, List.getElem_range]
  simp
  omega
theorem slicePick_rev (its : List Value) : slicePick its.toArray none none (some (-1)) = its.reverse.toArray := by
  have hb : sliceBounds none none (some (-1)) its.toArray.size = ((its.toArray.size : Int) - 1, -1, -1) := by
    simp [sliceBounds]
  unfold slicePick
  rw [hb]
  simp only
  congr 1
  have hn : its.toArray.size = its.length := List.size_toArray ..
  rw [hn]
  have hr : sliceRange ((its.length : Int) - 1) (-1) (-1) = (List.range its.length).reverse := by
    rw [← range_rev]
    unfold sliceRange
    have : (if (-1 : Int) > 0 then (if ((its.length : Int) - 1) < -1 then (-1 - ((its.length : Int) - 1) + -1 - 1) / -1 else 0) else (if ((its.length : Int) - 1) > -1 then (((its.length : Int) - 1) - -1 - -1 - 1) / (- -1) else 0)) = (its.length : Int) := by
      rw [if_neg (by decide)]
      split
      · rw [show (- -1 : Int) = 1 by decide, Int.ediv_one]
        omega
      · omega
    simp only [this]
    rfl
  rw [hr, List.filterMap_reverse]
  congr 1
  have := pick_run its.toArray 0 its.length
  simpa using this
def tRev (K : PySem.W.Frag) (te ts : TE) : TE := fun σ H Q => te σ H fun x H1 => ts σ H1 fun y H2 => y = .int (-1) ∧ ∃ a xs, x = .ref a ∧ SqL K H2 a xs ∧ ∀ p, H2 p = none → Q (.ref p) (upd H2 p (.lst xs.reverse))
theorem Vals.rev : ∀ {xs : List V} {us : List Value}, Vals xs us → Vals xs.reverse us.reverse
  | _, _, .nil => .nil
  | _, _, .cons r t => by
    rw [List.reverse_cons, List.reverse_cons]
    exact (Vals.rev t).append (.cons r .nil)
theorem pe_rev {X : Cx} {e st : Expr} {te ts : TE} {p2 pos : Pos} (he : PE X e te) (hs : PE X st ts) : PE X (.Subscript e (.Slice none none (some st) p2) pos) (tRev X.K te ts) := by
  refine ⟨fun pins s σ H Q I h => ?_⟩
  refine Subscript_ (thn (he.run pins s σ H _ I h) fun v s1 ⟨x, H1, I1, r1, q1⟩ => ?_)
  refine wpAny_Slice ?_
  rw [evalPart_none]
  refine wpAny_pure ?_
  refine wpAny_pure ?_
  rw [evalPart_some]
  refine thn (hs.run pins s1 σ H1 _ I1 q1) fun vs s3 ⟨y, H2, I2, r2, q2⟩ => ?_
  obtain ⟨rfl, a, xs, rfl, hx, q3⟩ := q2
  obtain ⟨tk, rfl⟩ := r2
  cases r1
  have I4 : Inv X pins σ H2 { s3 with heap := s3.heap.push { cls := .type "slice", data := .fields #[.none, .none, .int (-1) tk] } } := I2.kept (t' := s3.toks) fun b ob q => Heap.get?_push_of_some _ q
  obtain ⟨its, r, ht, hz⟩ := I4.list hx
  have hlen := r.length
  refine tail_any (ops := [.ref a, .ref s3.heap.objs.size]) ht.isList.typeIs PySem.F.slot_list_getitem.lookup ?_ (by with_unfolding_all rfl)
  refine wpAny_getItem_list_slice ht.isList (Heap.IsSliceOf.new ..) .none .none (.int (-1) tk) (by decide) ?_ (by rw [List.size_toArray]; omega)
  rw [slicePick_rev]
  refine ⟨.ref _, _, I4.laid (t' := s3.toks) (o := .lst xs.reverse) (fun b ob q => Heap.get?_push_of_some _ q) (Nat.le_refl _) ?_, rfl, q3 _ (I4.hok.fresh (Nat.le_refl _))⟩
  exact ⟨by rw [List.length_reverse]; exact hz, _, 0, Vals.rev r, Heap.get?_push_size _ rfl⟩
theorem Rels.rev {K : PySem.W.Frag} {ρ : List Addr} {H : Hp} : ∀ {ws : List W} {vs : List V}, Rels K ρ H ws vs → Rels K ρ H ws.reverse vs.reverse
  | _, _, .nil => .nil
  | _, _, .cons r t => by
    rw [List.reverse_cons, List.reverse_cons]
    exact (Rels.rev t).append (.cons r .nil)
def mRev (a s : ME) : ME := fun sw => bnd (a sw) fun x => bnd (s sw) fun y h => match y, items h x with
  | .int i, some xs => if i = -1 then alloc (.lst xs.reverse) h else .no
  | _, _ => .no
theorem re_rev {X : Cx} {cm : Cm} {e st : Expr} {ma ms : ME} {p2 pos : Pos} (ha : RE X cm e ma) (hs : RE X cm st ms) : RE X cm (.Subscript e (.Slice none none (some st) p2) pos) (mRev ma ms) := by
  refine peM (pe_rev ha hs) fun σ H Q q => ?_
  obtain ⟨ρ, h, sw, w, h', rh, rs, e, k⟩ := q
  obtain ⟨x, h1, e1, e2⟩ := bnd_ok e
  obtain ⟨y, h2, e3, e4⟩ := bnd_ok e2
  refine ⟨ρ, h, sw, x, h1, rh, rs, e1, fun ρ1 H1 x' l1 rh1 rx => ?_⟩
  refine ⟨ρ1, h1, sw, y, h2, rh1, rs.mono l1, e3, fun ρ2 H2 y' l2 rh2 ry => ?_⟩
  split at e4
  · rename_i i xs hi
    split at e4
    · rename_i hi1
      cases e4
      subst hi1
      cases ry
      obtain ⟨a, us, rfl, hq, rl⟩ := items_of rh2 (rx.mono l2) hi
      exact ⟨rfl, a, us, rfl, hq, fun p hp => new_lst rh2 (Rels.rev rl) hp fun ρ3 H3 v l3 => k ρ3 H3 v (l1.trans (l2.trans l3))⟩
    · cases e4
  · cases e4
end EL
set_option maxHeartbeats 2000000
namespace EL
open PySem PySem.Spec L2
open PyProof.Rows hiding St
end EL
set_option maxHeartbeats 2000000
namespace EL
open PySem PySem.Spec L2
open PyProof.Rows hiding St
end EL
set_option maxHeartbeats 2000000
namespace EL
open PySem PySem.Spec L2
open PyProof.Rows hiding St
def rReprD (K : PySem.W.Frag) : List V → Hp → VK → Prop := fun xs H Q => ∃ (a : Addr) (d : PyData), xs = [.ref a] ∧ Dp K H (.ref a) d ∧ d.showable = true ∧ d.depth ≤ 20 ∧ d.hasDict = false ∧ d.shown.length ≤ sizeLine ∧ Q (.str d.shown) H
def bReprD : List W → M W
  | [.ref p] => fun h => match toD h 8 (.ref p) with
    | some d => if d.showable = true ∧ d.depth ≤ 20 ∧ d.hasDict = false ∧ d.shown.length ≤ lim then .ok (.str d.shown) h else .no
    | none => .no
  | [.tup xs] => fun h => match toD h 8 (.tup xs) with
    | some d => if d.showable = true ∧ d.depth ≤ 20 ∧ d.hasDict = false ∧ d.shown.length ≤ lim then .ok (.str d.shown) h else .no
    | none => .no
  | ws => bRepr ws
end EL
set_option maxHeartbeats 2000000
namespace EL
open PySem PySem.Spec L2
open PyProof.Rows hiding St
structure FnG (P : Program) (w : World) (K : PySem.W.Frag) (mg : Str → Option Value) (base : Heap) (CX : CXT) (k : Nat) (f : Addr) (fd : FuncData) (ps : List Str) (sp : Sp) : Prop where
  len : ∀ vs H Q E, sp vs H Q E → vs.length = ps.length
  run : ∀ (A : Around) (outer : List Env) (s : Shared) (H : Hp) (args : Args) (us : List Value) (vs : List V) (Q : VK) (E : XK), Room k A → A.guards = some [] → Env0 P w K mg base A outer s H → BindsTo s fd args (ps.zip us) → Vals vs us → sp vs H Q E →
    codeAny (model P w) A (.call (.ref f) args) (CR CX outer P w H s Q E) s
theorem FnG.of {P : Program} {w : World} {K : PySem.W.Frag} {mg : Str → Option Value} {base : Heap} {CX : CXT} {k : Nat} {f : Addr} {fd : FuncData} {ps : List Str} {sp : Sp} (F : FnOk P w K mg base CX k f fd ps sp) : FnG P w K mg base CX k f fd ps sp :=
  ⟨F.len, fun A outer s H args us vs Q E hr _ he hb hv q => F.run A outer s H args us vs Q E hr he hb hv q⟩
end EL
set_option maxHeartbeats 2000000
namespace EL
open PySem PySem.Spec L2
open PyProof.Rows hiding St
end EL
set_option maxHeartbeats 2000000
namespace EL
open PySem PySem.Spec L2
open PyProof.Rows hiding St
section
variable {P : Program} {w : World} {K : PySem.W.Frag} {mg mb : Str → Option Value} {CX : CXT} {k : Nat} {fa a : Addr} {fd : FuncData} {x : Str} {sp : Sp} {t : Shared} {vs : List Value} {ns : List Int}
/-- what the law's call must come to -/
def Comes (t : Shared) : Result → Shared → Prop := fun r s' => r = .ok (.ret (.bool true)) ∧ OldK t.heap s'.heap ∧ s'.os = t.os ∧ AllBare s'.gens
end
end EL
set_option maxHeartbeats 2000000
namespace EL
open PySem PySem.Spec L2
open PyProof.Rows hiding St
end EL
namespace EL
open PySem PySem.Spec L2
open PyProof.Rows hiding St
end EL
set_option maxHeartbeats 2000000
namespace EL
open PySem PySem.Spec L2
open PyProof.Rows hiding St
abbrev FnYG (P : Program) (w : World) (K : PySem.W.Frag) (mg : Str → Option Value) (base : Heap) (cm : Cm) (k : Nat) (f : Addr) (fd : FuncData) (ps : List Str) (m : List W → M W) : Prop := FnG P w K mg base (L2.CX P w) k f fd ps (spY K cm m)
theorem FnG.calm {P : Program} {w : World} {K : PySem.W.Frag} {mg : Str → Option Value} {base : Heap} {cm : Cm} {k : Nat} {f : Addr} {fd : FuncData} {ps : List Str} {m : List W → M W} (F : FnYG P w K mg base cm k f fd ps m) : FnG P w K mg base CX0 k f fd ps (spM K cm m) := by
  have up : ∀ {vs H Q} {E : XK}, spM K cm m vs H Q E → spY K cm m vs H Q fun _ _ _ => False := fun {vs H Q E} q => by
    obtain ⟨ρ, h, ws, w, h', rh, rs, e, k⟩ := q
    refine ⟨ρ, h, ws, rh, rs, ?_⟩
    rw [e]
    exact k
  refine ⟨fun vs H Q E q => F.len vs H Q _ (up q), fun A outer s H args us vs Q E hr gd he hb hv q => ?_⟩
  refine codeAny_mono (F.run A outer s H args us vs Q _ hr gd he hb hv (up q)) fun r s' z => ?_
  cases r with
  | ok fl => cases fl <;> exact z
  | error u =>
    obtain ⟨_, _, _, _, _, _, _, _, _, _, _, _, no⟩ := (show L2.CX P w outer H s (fun _ _ _ => False) u s' from z)
    exact no.elim
end EL
set_option maxHeartbeats 2000000
namespace EL
open PySem PySem.Spec L2
open PyProof.Rows hiding St
end EL
namespace PySem.W
open PySem PySem.Calls PyProof.Rows
end PySem.W
namespace EL
open PySem PySem.Spec L2
open PyProof.Rows hiding St
theorem FnG.imp {P : Program} {w : World} {K : PySem.W.Frag} {mg : Str → Option Value} {base : Heap} {CX : CXT} {k : Nat} {f : Addr} {fd : FuncData} {ps : List Str} {sp sp' : Sp} (F : FnG P w K mg base CX k f fd ps sp) (i : ∀ vs H Q E, sp' vs H Q E → sp vs H Q E) : FnG P w K mg base CX k f fd ps sp' :=
  ⟨fun vs H Q E h => F.len vs H Q E (i _ _ _ _ h), fun A outer s H args us vs Q E hr gd he hb hv h => F.run A outer s H args us vs Q E hr gd he hb hv (i _ _ _ _ h)⟩
end EL
set_option maxHeartbeats 2000000
namespace EL
open PySem PySem.Spec L2
open PyProof.Rows hiding St
theorem op_binC {X : Cx} {op : Operator} {k : Nat} {f C : Addr} {fd : FuncData} {ps : List Str} {sp : Sp} {tys : List String} (G0 : FnOk X.prog X.w X.K X.mg X.base CX0 k f fd ps sp) (hr : Room k X.A) (hb : Binds X.K fd ps [])
    (hc : PySem.W.selfFirst X.K C = true) (hs : PySem.W.findIn X.K (.ref C) (PySem.dunder op.info.2) = some (some (.ref f))) (hf : PySem.W.isFn X.K (.ref f) = true) (hn : ∀ n ∈ tys, BinF X.K C op n) : OpR X (binaryOp op) (rOwn X.K C tys sp) := by
  intro pins s σ H x y v u Q I rx ry hq
  obtain ⟨a, dx, fs, t, rfl, ea, ty, ht, h⟩ := hq
  cases (show v = Value.ref a from rx)
  obtain ⟨od, J⟩ := inst_of I ea
  obtain ⟨m, hF⟩ := I.fr
  have run : wpAny (model X.prog X.w) X.A (call (.ref f) [.ref a, u]) (PySem.W.CmpBack (EP X pins σ Q)) X.xe s := wpAny_mono (run_own G0 ⟨hr, rfl⟩ hb I (.cons rx (.cons ry .nil)) h) (fun r s' q => by
    obtain ⟨z, H', I', rz, q⟩ := q
    exact back_of (rel_ni rz) ⟨z, H', I', rz, q⟩) fun _ _ e => e
  have LT := ty.looks I ry
  rcases ht with rfl | ⟨n, hm, rfl⟩
  · exact PySem.W.binop_K (op := op) hF I.ok.mod.kin J LT hc hs hf run
  · obtain ⟨⟨rc, b1, b2⟩, ⟨fo, b3⟩, ⟨ro, b4⟩, b5⟩ := hn n hm
    exact PySem.W.own_bin hF I.ok.mod.kin J LT hc hs hf b1 b2 b3 b4 b5 run
end EL
set_option maxHeartbeats 4000000
namespace EL
open PySem PySem.Spec L2
open PyProof.Rows hiding St
end EL
set_option maxHeartbeats 4000000
namespace EL
open PySem PySem.Spec L2
open PyProof.Rows hiding St
end EL
set_option maxHeartbeats 4000000
namespace EL
open PySem PySem.Spec L2
open PyProof.Rows hiding St
end EL
namespace EL
open PySem PySem.Spec L2
open PyProof.Rows hiding St
open PySem.W (dataLt alike AllAlike Sortable dataLe EachIs keyToks sorted_data)
mutual
def wKey : NestedKey → W
  | .none => .non
  | .num i => .int i
  | .text x => .str x
  | .tup ks => .tup (wKeys ks)
def wKeys : List NestedKey → List W
  | [] => []
  | k :: ks => wKey k :: wKeys ks
end
mutual
theorem wKey_nk : ∀ (w : W) (k : NestedKey), nkW w = some k → wKey k = w
  | .non, k, e => by cases e; rfl
  | .int i, k, e => by cases e; rfl
  | .str x, k, e => by cases e; rfl
  | .tup ws, k, e => by
    unfold nkW at e
    cases q : nkWs ws with
    | none => rw [q] at e; cases e
    | some ks =>
      rw [q] at e
      cases e
      show W.tup (wKeys ks) = _
      rw [wKeys_nk ws ks q]
  | .bl b, k, e => by cases e
  | .ref i, k, e => by cases e
  | .rol ws, k, e => by cases e
theorem wKeys_nk : ∀ (ws : List W) (ks : List NestedKey), nkWs ws = some ks → wKeys ks = ws
  | [], ks, e => by cases e; rfl
  | w :: ws, ks, e => by
    unfold nkWs at e
    split at e
    · rename_i k ks' e1 e2
      cases e
      show wKey k :: wKeys ks' = _
      rw [wKey_nk w k e1, wKeys_nk ws ks' e2]
    · cases e
end
section
variable {X : Cx} {cm : Cm} {pins : List (Addr × Obj)} {σ : L2.St} {H : Hp} {s : Shared} {ρ : List Addr}
mutual
theorem nk_is (I : Inv X pins σ H s) : ∀ (w : W) (k : NestedKey) (v : V) (u : Value), nkW w = some k → Rel X.K ρ H w v → RelV v u → NestedIs s.heap k u
  | .non, k, v, u, e, r, rv => by cases e; cases r; cases (show u = Value.none from rv); exact .none
  | .int i, k, v, u, e, r, rv => by cases e; cases r; obtain ⟨t, rfl⟩ := (show ∃ t, u = Value.int i t from rv); exact .int i t
  | .str x, k, v, u, e, r, rv => by cases e; cases r; obtain ⟨t, rfl⟩ := (show ∃ t, u = Value.str x t from rv); exact .text x t
  | .tup ws, k, v, u, e, r, rv => by
    unfold nkW at e
    cases q : nkWs ws with
    | none => rw [q] at e; cases e
    | some ks =>
      rw [q] at e
      cases e
      cases r with
      | tup hq rs =>
        obtain rfl : u = Value.ref _ := rv
        obtain ⟨its, rr, ⟨o, ho, hc, n, hd⟩, _⟩ := I.tuple hq
        exact .tup ho hc hd (by simpa using nks_is I ws ks _ _ q rs rr)
  | .bl b, k, v, u, e, _, _ => by cases e
  | .ref i, k, v, u, e, _, _ => by cases e
  | .rol ws, k, v, u, e, _, _ => by cases e
theorem nks_is (I : Inv X pins σ H s) : ∀ (ws : List W) (ks : List NestedKey) (vs : List V) (us : List Value), nkWs ws = some ks → Rels X.K ρ H ws vs → Vals vs us → NestedAll s.heap ks us
  | [], ks, vs, us, e, r, rv => by cases e; cases r; cases rv; exact .nil
  | w :: ws, ks, vs, us, e, r, rv => by
    unfold nkWs at e
    split at e
    · rename_i k ks' e1 e2
      cases e
      cases r with
      | cons r1 r2 =>
        cases rv with
        | cons v1 v2 => exact .cons (nk_is I w k _ _ e1 r1 v1) (nks_is I ws ks' _ _ e2 r2 v2)
    · cases e
end
mutual
theorem nk_dp {K : PySem.W.Frag} : ∀ (w : W) (k : NestedKey) (v : V), nkW w = some k → Rel K ρ H w v → Dp K H v k.data
  | .non, k, v, e, r => by cases e; cases r; rw [NestedKey.data]; exact .non
  | .int i, k, v, e, r => by cases e; cases r; rw [NestedKey.data]; exact .int i
  | .str x, k, v, e, r => by cases e; cases r; rw [NestedKey.data]; exact .str x
  | .tup ws, k, v, e, r => by
    unfold nkW at e
    cases q : nkWs ws with
    | none => rw [q] at e; cases e
    | some ks =>
      rw [q] at e
      cases e
      rw [NestedKey.data]
      cases r with
      | tup hq rs => exact .tup hq (nks_dp ws ks _ q rs)
  | .bl b, k, v, e, _ => by cases e
  | .ref i, k, v, e, _ => by cases e
  | .rol ws, k, v, e, _ => by cases e
theorem nks_dp {K : PySem.W.Frag} : ∀ (ws : List W) (ks : List NestedKey) (vs : List V), nkWs ws = some ks → Rels K ρ H ws vs → DpAll K H vs (NestedKey.datas ks)
  | [], ks, vs, e, r => by cases e; cases r; rw [NestedKey.datas]; exact .nil
  | w :: ws, ks, vs, e, r => by
    unfold nkWs at e
    split at e
    · rename_i k ks' e1 e2
      cases e
      rw [NestedKey.datas]
      cases r with
      | cons r1 r2 => exact .cons (nk_dp w k _ e1 r1) (nks_dp ws ks' _ e2 r2)
    · cases e
end
end
def bSetN0 : ME := fun _ => alloc (.sT [])
def snOf (h : Hw) (x : W) : Option (Nat × List NestedKey) := match x with
  | .ref p => match h[p]? with
    | some (.sT ks) => some (p, ks)
    | _ => none
  | _ => none
/-- a tuple that may be a member -/
def nkT (x : W) : Option NestedKey := match x with
  | .tup ws => match nkW (.tup ws) with
    | some k => if k.depth ≤ 8 then some k else none
    | none => none
  | _ => none
def fInSN (neg : Bool) (x y : W) : M W := fun h => match nkT x, snOf h y with
  | some k, some (_, ks) => .ok (.bl (neg != ks.contains k)) h
  | _, _ => .no
def mSAddN (mo me : ME) : ME := fun sw => bnd (mo sw) fun x h0 => match snOf h0 x with
  | some _ => bnd (me sw) (fun y h => match nkT y, snOf h x with
    | some k, some (p, ks) => if ks.length + 1 < 64 then .ok .non (h.set p (.sT (k :: ks))) else .no
    | _, _ => .no) h0
  | none => .no
theorem nkT_of {x : W} {k : NestedKey} (e : nkT x = some k) : nkW x = some k ∧ k.depth ≤ 8 ∧ ∃ ws, x = .tup ws := by
  unfold nkT at e
  split at e
  · split at e
    · rename_i q
      split at e
      · cases e
        exact ⟨q, by assumption, _, rfl⟩
      · cases e
    · cases e
  · cases e
theorem snOf_of {K : PySem.W.Frag} {cm : Cm} {ρ : List Addr} {h : Hw} {H : Hp} {x : W} {v : V} {p : Nat} {ks : List NestedKey} (rh : RelH K cm ρ h H) (r : Rel K ρ H x v) (e : snOf h x = some (p, ks)) :
    x = .ref p ∧ h[p]? = some (.sT ks) ∧ ∃ a L, v = .ref a ∧ ρ[p]? = some a ∧ H a = some (SetNO cm.P cm.w a L) ∧ (∀ e ∈ L, ∃ w, Rel K ρ H w (.ref e.1) ∧ nkW w = some e.2 ∧ e.2.depth ≤ 8) ∧ (∀ k, k ∈ L.map (·.2) ↔ k ∈ ks) ∧ L.length ≤ ks.length := by
  unfold snOf at e
  split at e
  · rename_i q
    split at e
    · rename_i ks' hk
      cases e
      cases r with
      | ref hp =>
        obtain ⟨L, ea, q⟩ := rh.obj _ _ _ hk hp
        exact ⟨rfl, hk, _, L, rfl, hp, ea, q⟩
    · cases e
  · cases e
/-- set() -/
def rSet0N (P : Program) (w : World) : List V → Hp → VK → Prop := fun xs H Q => xs = [] ∧ ∀ p, H p = none → Q (.ref p) (upd H p (SetNO P w p []))
/-- the set's members are there -/
def MemV (K : PySem.W.Frag) (ρ : List Addr) (H : Hp) (L : List (Addr × NestedKey)) : Prop := ∀ e ∈ L, ∃ w, Rel K ρ H w (.ref e.1) ∧ nkW w = some e.2 ∧ e.2.depth ≤ 8
section
variable {X : Cx} {pins : List (Addr × Obj)} {σ : L2.St} {H : Hp} {s : Shared} {ρ : List Addr} {L : List (Addr × NestedKey)}
theorem memV_at (I : Inv X pins σ H s) (M : MemV X.K ρ H L) : Mem (NK X.prog X.w) s.heap L := fun e he => by
  obtain ⟨w, r, q, d⟩ := M e he
  exact ⟨nk_is I w e.2 _ _ q r rfl, d⟩
theorem cr_set0N : CallR X (.type "set") (rSet0N X.prog X.w) := by
  intro pins s σ H xs us Q I r h
  obtain ⟨rfl, q⟩ := h
  cases r
  refine setR_new fun _ => ?_
  exact ⟨.ref _, upd H s.heap.objs.size (SetNO X.prog X.w s.heap.objs.size []), I.laid (t' := s.toks) (fun b u e => Heap.get?_push_of_some _ e) (Nat.le_refl _) (setNO_ok (stab_new (Heap.get?_push_size _ rfl))), rfl, q _ (I.hok.fresh (Nat.le_refl _))⟩
end
/-- s.add(t) -/
def rSAddN (K : PySem.W.Frag) (P : Program) (w : World) : V → List V → Hp → VK → Prop := fun x xs H Q => ∃ (a : Addr) (ρ : List Addr) (L : List (Addr × NestedKey)) (y : W) (b : Addr) (k : NestedKey), x = V.ref a ∧ xs = [.ref b] ∧ H a = some (SetNO P w a L) ∧ MemV K ρ H L ∧ Rel K ρ H y (.ref b) ∧ nkW y = some k ∧ k.depth ≤ 8 ∧ L.length + 1 < 64 ∧
  ∀ L', (k ∈ L.map (·.2) → L' = L) → (k ∉ L.map (·.2) → L'.Perm ((b, k) :: L)) → Q .non (upd H a (SetNO P w a L'))
def rSInN (K : PySem.W.Frag) (P : Program) (w : World) (neg : Bool) : V → V → Hp → VK → Prop := fun x y H Q => ∃ (k : NestedKey) (b a : Addr) (ρ : List Addr) (L : List (Addr × NestedKey)) (z : W), x = .ref b ∧ y = V.ref a ∧ H a = some (SetNO P w a L) ∧ MemV K ρ H L ∧ Rel K ρ H z (.ref b) ∧ nkW z = some k ∧ k.depth ≤ 8 ∧ Q (.bl (neg != decide (k ∈ L.map (·.2)))) H
section
variable {X : Cx}
theorem mt_saddN (hu : X.A.units + 16 < cLine) : MtR X "set.add" (rSAddN X.K X.prog X.w) := by
  intro pins s σ H x xs v us Q I rx rxs h
  obtain ⟨a, ρ, L, y, b, k, rfl, rfl, ha, M, ry, ek, dk, few, q⟩ := h
  cases rx
  rw [Vals.ref1 rxs]
  obtain ⟨es, ep, t, R⟩ := setNO_get I ha
  refine call_addN R (memV_at I M) ⟨nk_is I y k _ _ ek ry rfl, dk⟩ hu few fun h' L' es' ep' t' tk le but R' M' c1 c2 => ?_
  obtain ⟨o, got, _⟩ := R'.ob
  exact ⟨.non, upd H a (SetNO X.prog X.w a L'), I.write (e := a) (t' := tk) (by rw [ha]; trivial) (.inl rfl) (fun b u hb hu => (but.2 b hb).trans hu) ⟨o, got⟩ (setNO_ok R'), rfl, q L' c1 c2⟩
theorem or_sinN (hu : X.A.units + 16 < cLine) : OpR X (compareOp .In) (rSInN X.K X.prog X.w false) := by
  intro pins s σ H x y v u Q I rx ry h
  obtain ⟨k, b, a, ρ, L, z, rfl, rfl, ha, M, rz, ek, dk, q⟩ := h
  cases rx
  cases ry
  obtain ⟨es, ep, t, R⟩ := setNO_get I ha
  show wpAny _ _ (do return Value.bool (← contains (.ref a) (.ref b))) _ _ s
  refine wpAny_bind (contN R (memV_at I M) ⟨nk_is I z k _ _ ek rz rfl, dk⟩ hu ?_)
  refine wpAny_pure ⟨_, H, I.tok _, ?_, q⟩
  show _ = Value.bool _
  simp
end
end EL
namespace EL
open PySem PySem.Spec L2
open PyProof.Rows hiding St
open PySem.W (dataLt alike alikeAll AllAlike Sortable dataLe EachIs keyToks sorted_data)
section
variable {α : Type} {le : α → α → Bool}
theorem insU_cls (tr : ∀ a b c, le a b = true → le b c = true → le a c = true) (tot : ∀ a b, (le a b || le b a) = true) (z x : α) : ∀ l : List α, (insU le x l).filter (PySem.W.Srt.alike le z) = (x :: l).filter (PySem.W.Srt.alike le z)
  | [] => rfl
  | y :: r => by
    unfold insU
    split
    · rfl
    · rename_i q
      rw [List.filter_cons, insU_cls tr tot z x r]
      cases hx : PySem.W.Srt.alike le z x with
      | false => rw [List.filter_cons, List.filter_cons, List.filter_cons, hx]; rfl
      | true =>
        have hy : PySem.W.Srt.alike le z y = false := by
          cases w : PySem.W.Srt.alike le z y with
          | false => rfl
          | true =>
            unfold PySem.W.Srt.alike at hx w
            rw [Bool.and_eq_true] at hx w
            exact absurd (tr _ _ _ hx.2 w.1) q
        rw [List.filter_cons, List.filter_cons, List.filter_cons, hx, hy]
        rfl
theorem sortU_cls (tr : ∀ a b c, le a b = true → le b c = true → le a c = true) (tot : ∀ a b, (le a b || le b a) = true) (z : α) : ∀ l : List α, (sortU le l).filter (PySem.W.Srt.alike le z) = l.filter (PySem.W.Srt.alike le z)
  | [] => rfl
  | x :: r => by
    show (insU le x (sortU le r)).filter _ = _
    rw [insU_cls tr tot, List.filter_cons, List.filter_cons, sortU_cls tr tot z r]
theorem merge_sortU (tr : ∀ a b c, le a b = true → le b c = true → le a c = true) (tot : ∀ a b, (le a b || le b a) = true) (l : List α) : l.mergeSort le = sortU le l :=
  (PySem.W.Srt.the le tr tot (sortU_pw tr tot l) fun z => sortU_cls tr tot z l).symm
theorem insU_map {β : Type} {f : α → β} {le' : β → β → Bool} (h : ∀ a b, le' (f a) (f b) = le a b) (x : α) : ∀ l : List α, insU le' (f x) (l.map f) = (insU le x l).map f
  | [] => rfl
  | y :: r => by
    rw [List.map_cons]
    unfold insU
    rw [h, insU_map h x r]
    split <;> rfl
theorem sortU_map {β : Type} {f : α → β} {le' : β → β → Bool} (h : ∀ a b, le' (f a) (f b) = le a b) : ∀ l : List α, sortU le' (l.map f) = (sortU le l).map f
  | [] => rfl
  | x :: r => by
    rw [List.map_cons]
    show insU le' (f x) (sortU le' (r.map f)) = _
    rw [sortU_map h r, insU_map h]
    rfl
end
def leP {α : Type} (p q : α × PyData) : Bool := !dataLt q.2 p.2
theorem leD_tr (a b c : PyData) (h1 : (!dataLt b a) = true) (h2 : (!dataLt c b) = true) : (!dataLt c a) = true := by
  unfold dataLt at *
  rw [Bool.not_eq_true'] at *
  cases h3 : PyProof.Rows.lexLt PyProof.Rows.itemOrd (keyToks c) (keyToks a) with
  | false => rfl
  | true =>
    cases h4 : PyProof.Rows.lexLt PyProof.Rows.itemOrd (keyToks a) (keyToks b) with
    | true => rw [lex_trans _ _ _ h3 h4] at h2; cases h2
    | false =>
      have e := lex_total _ _ h4 h1
      rw [e, h2] at h3
      cases h3
theorem leD_tot (a b : PyData) : ((!dataLt b a) || (!dataLt a b)) = true := by
  unfold dataLt
  cases h3 : PyProof.Rows.lexLt PyProof.Rows.itemOrd (keyToks b) (keyToks a) with
  | false => rfl
  | true =>
    cases h4 : PyProof.Rows.lexLt PyProof.Rows.itemOrd (keyToks a) (keyToks b) with
    | false => rfl
    | true =>
      have z := lex_trans _ _ _ h3 h4
      rw [lex_irrefl] at z
      cases z
def sortWD (ws : List W) (ds : List PyData) : List W := (sortU leP (ws.zip ds)).map (·.1)
theorem zip_snd {α β : Type} : ∀ (xs : List α) (ys : List β), xs.length = ys.length → (xs.zip ys).map (·.2) = ys
  | [], [], _ => rfl
  | x :: xs, y :: ys, h => by rw [List.zip_cons_cons, List.map_cons, zip_snd xs ys (by simpa using h)]
section
variable {X : Cx}
theorem vals_each : ∀ {us : List Value} {bs : List (V × PyData)}, EachIs (fun (v : Value) (b : V × PyData) => RelV b.1 v) us bs → Vals (bs.map (·.1)) us
  | _, _, .nil => .nil
  | _, _, .cons r t => .cons r (vals_each t)
end
theorem rels_pick {K : PySem.W.Frag} {ρ : List Addr} {H : Hp} : ∀ {ps : List (W × V)}, (∀ p ∈ ps, Rel K ρ H p.1 p.2) → Rels K ρ H (ps.map (·.1)) (ps.map (·.2))
  | [], _ => .nil
  | p :: ps, h => .cons (h p List.mem_cons_self) (rels_pick fun q hq => h q (List.mem_cons_of_mem _ hq))
theorem rels_zip {K : PySem.W.Frag} {ρ : List Addr} {H : Hp} : ∀ {ws : List W} {vs : List V}, Rels K ρ H ws vs → ∀ p ∈ ws.zip vs, Rel K ρ H p.1 p.2
  | _, _, .nil, p, h => by simp at h
  | _, _, .cons r t, p, h => by
    rw [List.zip_cons_cons] at h
    rcases List.mem_cons.mp h with e | h
    · rw [e]; exact r
    · exact rels_zip t p h
/-- two lists arranged by the same data lie side by side -/
theorem sort_rels {K : PySem.W.Frag} {ρ : List Addr} {H : Hp} {ws : List W} {vs : List V} {ds : List PyData} (r : Rels K ρ H ws vs) (l : ws.length = ds.length) : Rels K ρ H (sortWD ws ds) ((sortU leP (vs.zip ds)).map (·.1)) := by
  have lv := r.length
  have e1 : ws.zip ds = ((ws.zip vs).zip ds).map fun p => (p.1.1, p.2) := by
    have key : ∀ (a : List W) (b : List V) (c : List PyData), a.length = b.length → a.length = c.length → a.zip c = ((a.zip b).zip c).map fun p => (p.1.1, p.2) := by
      intro a
      induction a with
      | nil => intro b c _ _; simp
      | cons x a ih =>
        intro b c h1 h2
        cases b with
        | nil => simp at h1
        | cons y b =>
          cases c with
          | nil => simp at h2
          | cons z c =>
            rw [List.zip_cons_cons, List.zip_cons_cons, List.zip_cons_cons, List.map_cons, ih b c (by simpa using h1) (by simpa using h2)]
    exact key ws vs ds lv l
  have e2 : vs.zip ds = ((ws.zip vs).zip ds).map fun p => (p.1.2, p.2) := by
    have key : ∀ (a : List W) (b : List V) (c : List PyData), a.length = b.length → a.length = c.length → b.zip c = ((a.zip b).zip c).map fun p => (p.1.2, p.2) := by
      intro a
      induction a with
      | nil =>
        intro b c h1 _
        cases b with
        | nil => simp
        | cons _ _ => simp at h1
      | cons x a ih =>
        intro b c h1 h2
        cases b with
        | nil => simp at h1
        | cons y b =>
          cases c with
          | nil => simp at h2
          | cons z c =>
            rw [List.zip_cons_cons, List.zip_cons_cons, List.zip_cons_cons, List.map_cons, ih b c (by simpa using h1) (by simpa using h2)]
    exact key ws vs ds lv l
  unfold sortWD
  rw [e1, e2, sortU_map (le := leP) (le' := leP) (f := fun p : (W × V) × PyData => (p.1.1, p.2)) (fun _ _ => rfl), sortU_map (le := leP) (le' := leP) (f := fun p : (W × V) × PyData => (p.1.2, p.2)) (fun _ _ => rfl), List.map_map, List.map_map]
  have q := rels_pick (K := K) (ρ := ρ) (H := H) (ps := (sortU leP ((ws.zip vs).zip ds)).map (·.1)) fun p hp => by
    obtain ⟨t, ht, rfl⟩ := List.mem_map.mp hp
    exact rels_zip r _ (List.of_mem_zip ((sortU_perm leP _).mem_iff.mp ht)).1
  rw [List.map_map, List.map_map] at q
  exact q
section
variable {X : Cx} {cm : Cm} {a b e : Expr} {ma mb me : ME} {pos apos cpos p p2 pos2 : Pos}
theorem re_setN0 (eP : cm.P = X.prog) (eW : cm.w = X.w) (hm : X.mg "set" = none) (hg : Gl X "set" := by rfl) : RE X cm (.Call (.Name "set" p) [] [] pos) bSetN0 := by
  obtain ⟨cf, cP, cw⟩ := cm
  dsimp only at eP eW
  subst eP eW
  refine peM (pe_callTy0 cr_set0N hg hm (by decide +kernel) (by decide) (by decide)) fun σ H Q q => ?_
  obtain ⟨ρ, h, sw, w, h', rh, rs, e, k⟩ := q
  cases e
  refine ⟨rfl, fun p hp => ?_⟩
  have l := (le_new (K := X.K) (ρ := ρ) (o := SetNO X.prog X.w p []) hp).trans (le_app p)
  exact k (ρ ++ [p]) _ _ l (rh.push hp ⟨[], upd_same, (fun e he => nomatch he), (fun k => by simp), Nat.le_refl _⟩) (.ref (push_at rh))
theorem wInSN (eP : cm.P = X.prog) (eW : cm.w = X.w) (neg : Bool) : OpW X.K cm (rSInN X.K X.prog X.w neg) (fInSN neg) := by
  intro ρ h H x y x' y' z h' Q rh rx ry e k
  obtain ⟨cf, cP, cw⟩ := cm
  dsimp only at eP eW
  subst eP eW
  unfold fInSN at e
  split at e
  · rename_i kk p ks hk hs
    cases e
    obtain ⟨_, _, a, L, rfl, _, ea, M, mem, _⟩ := snOf_of rh ry hs
    obtain ⟨ek, dk, ws, rfl⟩ := nkT_of hk
    cases rx with
    | tup hq rr =>
      refine ⟨kk, _, a, ρ, L, _, rfl, rfl, ea, M, .tup hq rr, ek, dk, ?_⟩
      have : decide (kk ∈ L.map (·.2)) = ks.contains kk := by
        rw [List.contains_eq_mem]
        exact decide_eq_decide.mpr (mem kk)
      rw [this]
      exact k.at rh (.bl _)
  · cases e
def tSAddN (K : PySem.W.Frag) (P : Program) (w : World) (to : TE) (t : TA) : TE := fun σ H Q => to σ H fun x H1 => (∃ a L, x = V.ref a ∧ H1 a = some (SetNO P w a L)) ∧ t σ H1 fun xs H2 => rSAddN K P w x xs H2 Q
theorem pe_saddN {to : TE} {t : TA} (hu : X.A.units + 16 < cLine) (ho : PE X a to) (ha : PA X [e] t)
    (hbase : attributeBase a "add" X.env (eval a X.env) = eval a X.env := by rfl)
    (hfew : ((backTo cpos (starEach [e] X.env)).all (fun x => !x.1) && (backToKw cpos (keywordEach [] X.env)).all (fun x => x.1.isSome)
      && decide (([e] : List Expr).length + ([] : List Keyword).length + (if ([] : List Keyword).isEmpty then 0 else 1) < 30)) = true := by rfl)
    (hline : (apos.endLine == cpos.line) = true := by rfl) (hs : starEach [e] X.env = (false, eval e X.env) :: starEach [] X.env := by rfl) (hplain : (backTo cpos (starEach [] X.env)).any (·.1) = false := by rfl) :
    PE X (.Call (.Attribute a "add" apos) [e] [] cpos) (tSAddN X.K X.prog X.w to t) := by
  refine ⟨fun pins s σ H Q I h => ?_⟩
  refine wpAny_Call_method_late hbase hfew hline rfl (thn (ho.run pins s σ H _ I h) fun v s1 ⟨x, H1, I1, r1, ty, q1⟩ => ?_)
  obtain ⟨a, L, rfl, hka⟩ := ty
  obtain ⟨es, ep, tb, R⟩ := setNO_get I1 hka
  obtain ⟨o, got, exs, dat⟩ := R.ob
  cases r1
  refine ⟨"set", "set.add", F.plainAttrs_set, F.slot_set_add, F.type_set_add, ⟨o, got, exs.1⟩, (fun b z => by injection z with z; subst z; exact ⟨o, got, exs.2.1⟩), ?_⟩
  have hA := ha.run cpos pins s1 σ H1 _ I1 q1
  rw [hs] at hA ⊢
  refine Calls.callWith_builtin (by show (false || (backTo cpos (starEach [] X.env)).any (·.1)) = false; rw [hplain] <;> rfl) (Calls.evalArgs_plain ?_)
  exact thn hA fun us s2 ⟨vs, H2, I2, r2, q2⟩ => mt_saddN hu pins s2 σ H2 (.ref a) vs (.ref a) us Q I2 rfl r2 q2
theorem re_saddN (eP : cm.P = X.prog) (eW : cm.w = X.w) (hu : X.A.units + 16 < cLine) (ho : RE X cm a ma) (he : RE X cm e me)
    (hbase : attributeBase a "add" X.env (eval a X.env) = eval a X.env := by rfl)
    (hfew : ((backTo cpos (starEach [e] X.env)).all (fun x => !x.1) && (backToKw cpos (keywordEach [] X.env)).all (fun x => x.1.isSome)
      && decide (([e] : List Expr).length + ([] : List Keyword).length + (if ([] : List Keyword).isEmpty then 0 else 1) < 30)) = true := by rfl)
    (hline : (apos.endLine == cpos.line) = true := by rfl) (hs : starEach [e] X.env = (false, eval e X.env) :: starEach [] X.env := by rfl) (hplain : (backTo cpos (starEach [] X.env)).any (·.1) = false := by rfl) :
    RE X cm (.Call (.Attribute a "add" apos) [e] [] cpos) (mSAddN ma me) := by
  obtain ⟨cf, cP, cw⟩ := cm
  dsimp only at eP eW
  subst eP eW
  refine peM (pe_saddN hu ho (pa_cons he pa_nil hs) hbase hfew hline hs hplain) fun σ H Q q => ?_
  obtain ⟨ρ, h, sw, w, h', rh, rs, e, k⟩ := q
  obtain ⟨x, h1, e1, e2⟩ := bnd_ok e
  refine ⟨ρ, h, sw, x, h1, rh, rs, e1, fun ρ1 H1 x' l1 rh1 rx => ?_⟩
  split at e2
  · rename_i q hq
    obtain ⟨q1, q2⟩ := q
    obtain ⟨ex, _, a0, L, rfl, hp0, ea, _⟩ := snOf_of rh1 rx hq
    obtain ⟨y, h2, e3, e4⟩ := bnd_ok e2
    refine ⟨⟨a0, L, rfl, ea⟩, ρ1, h1, sw, y, h2, rh1, rs.mono l1, e3, fun ρ2 H2 y' l2 rh2 ry => ?_⟩
    split at e4
    · rename_i kk p2 ks hk hs2
      split at e4
      · rename_i hlt
        cases e4
        obtain ⟨ex2, hk2, a2, L2, ev2, hp2, ea2, M2, mem2, ln2⟩ := snOf_of rh2 (rx.mono l2) hs2
        cases ev2
        obtain ⟨ek, dk, ws, rfl⟩ := nkT_of hk
        cases ry with
        | @tup _ vs b hq rr =>
          refine ⟨a0, ρ2, L2, _, b, kk, rfl, rfl, ea2, M2, .tup hq rr, ek, dk, by omega, fun L' c1 c2 => ?_⟩
          have lu : Le X.K ρ2 H2 ρ2 (upd H2 a0 (SetNO X.prog X.w a0 L')) := le_mut ea2 trivial
          refine k ρ2 _ .non (l1.trans (l2.trans lu)) (rh2.set hp2 ea2 trivial ⟨L', upd_same, fun e he => ?_, fun k' => ?_, ?_⟩) .non
          · have hm : e ∈ L2 ∨ e = (b, kk) := by
              by_cases hin : kk ∈ L2.map (·.2)
              · rw [c1 hin] at he; exact .inl he
              · rcases List.mem_cons.mp ((c2 hin).mem_iff.mp he) with z | z
                · exact .inr z
                · exact .inl z
            rcases hm with hm | rfl
            · obtain ⟨w, q1, q2⟩ := M2 e hm
              exact ⟨w, q1.mono lu, q2⟩
            · exact ⟨_, (Rel.tup hq rr).mono lu, ek, dk⟩
          · by_cases hin : kk ∈ L2.map (·.2)
            · rw [c1 hin, mem2, List.mem_cons]
              exact ⟨.inr, fun z => z.elim (fun z => by rw [z]; exact (mem2 kk).mp hin) id⟩
            · rw [((c2 hin).map (·.2)).mem_iff, List.map_cons, List.mem_cons, List.mem_cons, mem2]
          · by_cases hin : kk ∈ L2.map (·.2)
            · rw [c1 hin, List.length_cons]; omega
            · rw [(c2 hin).length_eq, List.length_cons, List.length_cons]; omega
      · cases e4
    · cases e4
  · cases e2
end
end EL
namespace EL
open PySem PySem.Spec L2
open PyProof.Rows hiding St
open PySem.W (EachIs)
section
variable {α : Type} [DecidableEq α]
def addU (ks : List α) (x : α) : List α := if x ∈ ks then ks else ks ++ [x]
def dedU (xs : List α) : List α := xs.foldl addU []
theorem addU_mem {ks : List α} {x y : α} : y ∈ addU ks x ↔ y ∈ ks ∨ y = x := by
  unfold addU
  split
  · rename_i h
    exact ⟨.inl, fun z => z.elim id fun e => e ▸ h⟩
  · rw [List.mem_append, List.mem_singleton]
theorem addU_nd {ks : List α} {x : α} (h : ks.Nodup) : (addU ks x).Nodup := by
  unfold addU
  split
  · exact h
  · rename_i hn
    exact List.nodup_append.mpr ⟨h, by simp, fun y hy z hz e => hn (by rw [List.mem_singleton.mp hz] at e; exact e ▸ hy)⟩
theorem dedU_go (xs : List α) : ∀ (ks : List α), ks.Nodup → (xs.foldl addU ks).Nodup ∧ (∀ y, y ∈ xs.foldl addU ks ↔ y ∈ ks ∨ y ∈ xs) ∧ (xs.foldl addU ks).length ≤ ks.length + xs.length := by
  induction xs with
  | nil => exact fun ks h => ⟨h, fun y => by simp, by simp⟩
  | cons x r ih =>
    intro ks h
    obtain ⟨h1, h2, h3⟩ := ih (addU ks x) (addU_nd h)
    refine ⟨h1, fun y => ?_, ?_⟩
    · rw [List.foldl_cons, h2, addU_mem, List.mem_cons]
      constructor
      · rintro ((q | q) | q)
        · exact .inl q
        · exact .inr (.inl q)
        · exact .inr (.inr q)
      · rintro (q | q | q)
        · exact .inl (.inl q)
        · exact .inl (.inr q)
        · exact .inr q
    · have hl : (addU ks x).length ≤ ks.length + 1 := by
        unfold addU
        split <;> simp
      rw [List.foldl_cons, List.length_cons]
      omega
theorem dedU_nd (xs : List α) : (dedU xs).Nodup := (dedU_go xs [] List.nodup_nil).1
theorem dedU_mem {xs : List α} {y : α} : y ∈ dedU xs ↔ y ∈ xs := by
  have q := (dedU_go xs [] List.nodup_nil).2.1 y
  unfold dedU
  simpa using q
end
def rSetN (K : PySem.W.Frag) (P : Program) (w : World) : List V → Hp → VK → Prop := fun vs H Q => ∃ (l : Addr) (ρ : List Addr) (ks : List (Addr × NestedKey)), vs = [.ref l] ∧ SqL K H l (ks.map fun e => V.ref e.1) ∧ MemV K ρ H ks ∧ ks.length < 64 ∧
  ∀ a L, H a = none → (∀ e ∈ L, e ∈ ks) → (∀ e ∈ ks, e.2 ∈ L.map (·.2)) → (L.map (·.2)).Nodup → Q (.ref a) (upd H a (SetNO P w a L))
def rSortSetN (K : PySem.W.Frag) (P : Program) (w : World) : List V → Hp → VK → Prop := fun vs H Q => ∃ (a : Addr) (ρ : List Addr) (L : List (Addr × NestedKey)), vs = [.ref a] ∧ H a = some (SetNO P w a L) ∧ MemV K ρ H L ∧ alikeN (L.map (·.2)) = true ∧ firmN (L.map (·.2)) = true ∧
  ∀ p (ys : List Addr), H p = none → EachIs (fun y k => (y, k) ∈ L) ys (sortN (L.map (·.2))) → Q (.ref p) (upd H p (.lst (ys.map V.ref)))
theorem refs_val : ∀ {ks : List (Addr × NestedKey)} {us : List Value}, Vals (ks.map fun e => V.ref e.1) us → us = ks.map fun e => Value.ref e.1
  | [], _, .nil => rfl
  | e :: ks, _, .cons r t => by
    cases r
    rw [refs_val t]
    rfl
section
variable {X : Cx}
theorem cr_setN (hc : X.calm = true) (hu : X.A.units + 32 < cLine) : CallR X (.type "set") (rSetN X.K X.prog X.w) := by
  intro pins s σ H xs us Q I r h
  obtain ⟨l, ρ, ks, rfl, hl, M, few, q⟩ := h
  rw [Vals.ref1 r]
  obtain ⟨its, rv, pl, hz⟩ := I.list hl
  have hn : H s.heap.objs.size = none := I.hok.fresh (Nat.le_refl _)
  refine call_setN (P := X.prog) (w := X.w) ks (I.ok.hd hc) pl.isList (by simpa using refs_val rv) (fun e he => memV_at I M e he) few (by omega) fun h' tk L es ep t R g k => ?_
  refine ⟨.ref s.heap.objs.size, upd H s.heap.objs.size (SetNO X.prog X.w s.heap.objs.size L), I.laid (t' := tk) k (Nat.le_refl _) (setNO_ok R), rfl, q _ L hn (fun e he => List.mem_of_mem_take (g.sub e he)) (fun e he => g.all e (by rw [List.take_length]; exact he)) R.nd⟩
theorem cr_sortSetN (hc : X.calm = true) (hu : X.A.units + 48 < cLine) : CallR X (.builtin "sorted") (rSortSetN X.K X.prog X.w) := by
  intro pins s σ H vs us Q I r h
  obtain ⟨a, ρ, L, rfl, ha, M, al, fi, q⟩ := h
  obtain ⟨es, ep, t, R⟩ := setNO_get I ha
  rw [Vals.ref1 r]
  refine sorted_setN R (I.ok.hd hc) (by omega) (fun e he => ?_) (fun e he => (M e he).choose_spec.2.2) al fi fun s' p out c keep gens os big hp eo => ?_
  · obtain ⟨w, rw1, ek, _⟩ := M e he
    exact Dp.reads I _ _ _ (nk_dp w e.2 _ ek rw1) rfl
  · have hn : H p = none := I.hok.fresh big
    obtain ⟨ys, eys, eout⟩ : ∃ ys : List Addr, EachIs (fun y k => (y, k) ∈ L) ys (sortN (L.map (·.2))) ∧ out = ys.map Value.ref := by
      have key : ∀ {out : List Value} {ks : List NestedKey}, EachIs (fun v k => ∃ e ∈ L, v = Value.ref e.1 ∧ k = e.2) out ks → ∃ ys : List Addr, EachIs (fun y k => (y, k) ∈ L) ys ks ∧ out = ys.map Value.ref := by
        intro out ks q
        induction q with
        | nil => exact ⟨[], .nil, rfl⟩
        | cons r t ih =>
          obtain ⟨ys, h1, h2⟩ := ih
          obtain ⟨e, he, rfl, rfl⟩ := r
          exact ⟨e.1 :: ys, .cons he h1, by rw [List.map_cons, h2]⟩
      exact key eo
    have len : (ys.map V.ref).length ≤ sizeLine := by
      rw [List.length_map, eys.length, show (sortN (L.map (·.2))).length = (L.map (·.2)).length from (sortU_perm _ _).length_eq, List.length_map, sizeLine_eq]
      have := R.few
      omega
    have vv : Vals (ys.map V.ref) out := by
      rw [eout]
      have key : ∀ ys : List Addr, Vals (ys.map V.ref) (ys.map Value.ref) := fun ys => by
        induction ys with
        | nil => exact .nil
        | cons y r ih => exact .cons rfl ih
      exact key ys
    have J : Inv X pins σ (upd H p (.lst (ys.map V.ref))) { s with heap := s'.heap, gens := s'.gens, drawn := s'.drawn, toks := s'.toks } :=
      I.call (ch := []) (Un.laid keep big hn) (I.hok.laid keep big ⟨len, out, c, vv, hp⟩) (by rw [gens]; exact I.bare) (fun _ z => nomatch z)
    have e : s' = { s with heap := s'.heap, gens := s'.gens, drawn := s'.drawn, toks := s'.toks } := by
      cases s'
      cases s
      cases os
      rfl
    rw [e]
    exact ⟨.ref p, _, J, rfl, q p ys hn eys⟩
end
def bSortSetN : List W → M W
  | [x] => fun h => match items h x with
    | some ws => (match mapO nkT ws with
      | some ks => if (decide (ks.length < 64) && alikeN ks && firmN ks) = true then alloc (.lst ((sortN (dedU ks)).map wKey)) h else .no
      | none => .no)
    | none => .no
  | _ => bad
theorem rels_nkT {K : PySem.W.Frag} {ρ : List Addr} {H : Hp} : ∀ {ws : List W} {vs : List V} {ks : List NestedKey}, Rels K ρ H ws vs → mapO nkT ws = some ks → ∃ es : List (Addr × NestedKey), vs = es.map (fun e => V.ref e.1) ∧ es.map (·.2) = ks ∧ MemV K ρ H es
  | _, _, ks, .nil, e => by cases e; exact ⟨[], rfl, rfl, fun e he => nomatch he⟩
  | _, _, ks, .cons r t, e => by
    unfold mapO at e
    split at e
    · rename_i k ks' e1 e2
      cases e
      obtain ⟨es, h1, h2, h3⟩ := rels_nkT t e2
      obtain ⟨ek, dk, ws, rfl⟩ := nkT_of e1
      cases r with
      | @tup _ vs b hq rr =>
        refine ⟨(b, k) :: es, by rw [List.map_cons, h1], by rw [List.map_cons, h2], fun e he => ?_⟩
        rcases List.mem_cons.mp he with z | z
        · rw [z]; exact ⟨_, .tup hq rr, ek, dk⟩
        · exact h3 e z
    · cases e
theorem alikeN_sub {ks js : List NestedKey} (h : alikeN ks = true) (s : ∀ k ∈ js, k ∈ ks) : alikeN js = true := List.all_eq_true.mpr fun a ha => List.all_eq_true.mpr fun b hb => alike_at h (s a ha) (s b hb)
theorem firmN_sub {ks js : List NestedKey} (h : firmN ks = true) (s : ∀ k ∈ js, k ∈ ks) : firmN js = true := List.all_eq_true.mpr fun a ha => List.all_eq_true.mp h a (s a ha)
section
variable {X : Cx} {cm : Cm} {a : Expr} {ma : ME} {p p2 pos pos2 : Pos}
theorem re_sortSetN (hc : X.calm = true) (eP : cm.P = X.prog) (eW : cm.w = X.w) (hu : X.A.units + 64 < cLine) (hm : X.mg "sorted" = none) (hm2 : X.mg "set" = none) (ha : RE X cm a ma) (hg : Gl X "sorted" := by rfl) (hg2 : Gl X "set" := by rfl)
    (h1 : starEach [a] X.env = [(false, eval a X.env)] := by rfl) (h2 : (backTo pos2 (starEach ([] : List Expr) X.env)).any (·.1) = false := by rfl)
    (h3 : starEach [.Call (.Name "set" p2) [a] [] pos2] X.env = [(false, eval (.Call (.Name "set" p2) [a] [] pos2) X.env)] := by rfl) (h4 : (backTo pos (starEach ([] : List Expr) X.env)).any (·.1) = false := by rfl) :
    RE X cm (.Call (.Name "sorted" p) [.Call (.Name "set" p2) [a] [] pos2] [] pos) (mCall bSortSetN (aCons ma aNil)) := by
  refine peM (pe_callB (cr_sortSetN hc (by omega)) hg hm (by decide +kernel) (pa_cons (pe_callTy (cr_setN hc (by omega)) hg2 hm2 (by decide +kernel) (pa_cons ha pa_nil h1) (by decide) (by decide) h1 h2) pa_nil h3) (by decide) (by decide) h3 h4) fun σ H Q q => ?_
  obtain ⟨ρ, h, sw, w, h', rh, rs, e, k⟩ := q
  obtain ⟨ws, h1, e1, e2⟩ := bnd_ok e
  obtain ⟨x, h3, e3, e4⟩ := bnd_ok e1
  obtain ⟨us, h4, e5, e6⟩ := bnd_ok e4
  cases e5
  cases e6
  refine ⟨ρ, h, sw, x, h1, rh, rs, e3, fun ρ1 H1 v l1 rh1 rx => ?_⟩
  have e2' : (match items h1 x with
    | some ws => (match mapO nkT ws with
      | some ks => if (decide (ks.length < 64) && alikeN ks && firmN ks) = true then alloc (.lst ((sortN (dedU ks)).map wKey)) h1 else EL.R.no
      | none => EL.R.no)
    | none => EL.R.no) = .ok w h' := e2
  split at e2'
  · rename_i xs hi
    split at e2'
    · rename_i ks hk
      split at e2'
      · rename_i hl
        cases e2'
        rw [Bool.and_eq_true, Bool.and_eq_true] at hl
        obtain ⟨⟨few, al⟩, fi⟩ := hl
        obtain ⟨ad, vs, rfl, hq, rl⟩ := items_of rh1 rx hi
        obtain ⟨es, rfl, rfl, M⟩ := rels_nkT rl hk
        refine ⟨ad, ρ1, es, rfl, hq, M, by simpa using few, fun D L hD sub all nd => ?_⟩
        have l2 : Le X.K ρ1 H1 ρ1 (upd H1 D (SetNO X.prog X.w D L)) := le_new hD
        have subk : ∀ k ∈ L.map (·.2), k ∈ es.map (·.2) := fun k hk => by
          obtain ⟨e, he, rfl⟩ := List.mem_map.mp hk
          exact List.mem_map.mpr ⟨e, sub e he, rfl⟩
        refine ⟨D, ρ1, L, rfl, upd_same, fun e he => ?_, alikeN_sub al subk, firmN_sub fi subk, fun D2 ys hD2 eys => ?_⟩
        · obtain ⟨w, q1, q2⟩ := M e (sub e he)
          exact ⟨w, q1.mono l2, q2⟩
        · have pm : (L.map (·.2)).Perm (dedU (es.map (·.2))) := (List.perm_ext_iff_of_nodup nd (dedU_nd _)).mpr fun k => ⟨fun hk => dedU_mem.mpr (subk k hk), fun hk => by
            obtain ⟨e, he, rfl⟩ := List.mem_map.mp (dedU_mem.mp hk)
            exact all e he⟩
          have es2 : sortN (L.map (·.2)) = sortN (dedU (es.map (·.2))) := sortU_eq leN_tr leN_tot ((sortU_perm _ _).trans pm) (fun x hx y hy => leN_anti (alike_at (alikeN_sub al subk) ((sortU_perm _ _).mem_iff.mp hx) ((sortU_perm _ _).mem_iff.mp hy))) (sortU_pw leN_tr leN_tot _)
          rw [es2] at eys
          have rl2 : Rels X.K ρ1 (upd H1 D (SetNO X.prog X.w D L)) ((sortN (dedU (es.map (·.2)))).map wKey) (ys.map V.ref) := by
            have key : ∀ {ys : List Addr} {ks : List NestedKey}, EachIs (fun y k => (y, k) ∈ L) ys ks → Rels X.K ρ1 (upd H1 D (SetNO X.prog X.w D L)) (ks.map wKey) (ys.map V.ref) := by
              intro ys ks q
              induction q with
              | nil => exact .nil
              | cons r t ih =>
                obtain ⟨w, q1, q2, _⟩ := M _ (sub _ r)
                refine .cons ?_ ih
                rw [wKey_nk w _ q2]
                exact q1.mono l2
            exact key eys
          exact new_lst (rh1.new hD) rl2 hD2 fun ρ3 H3 v3 l3 => k ρ3 H3 v3 (l1.trans (l2.trans l3))
      · cases e2'
    · cases e2'
  · cases e2'
end
end EL
namespace EL
open PySem PySem.Spec L2
open PyProof.Rows hiding St
abbrev RK (X : Cx) (cm : Cm) (kws : List Keyword) (m : MA) : Prop := PK X kws (tA X.K cm m)
section
variable {X : Cx} {cm : Cm} {e : Expr} {kws : List Keyword} {ma : ME} {mr : MA}
theorem rk_nil : RK X cm [] aNil := by
  refine ⟨fun pos pins s σ H Q I q => ?_⟩
  obtain ⟨ρ, h, sw, ws, h', rh, rs, e, k⟩ := q
  cases e
  exact pk_nil.run pos pins s σ H Q I (k ρ H [] .refl rh .nil)
theorem rk_cons {nm : Option Str} {kpos : Pos} (ha : RE X cm e ma) (hr : RK X cm kws mr) : RK X cm (⟨nm, e, kpos⟩ :: kws) (aCons ma mr) := by
  refine ⟨fun pos pins s σ H Q I q => (pk_cons ha hr).run pos pins s σ H Q I ?_⟩
  obtain ⟨ρ, h, sw, w, h', rh, rs, e, k⟩ := q
  obtain ⟨x, h1, e1, e2⟩ := bnd_ok e
  obtain ⟨xs, h2, e3, e4⟩ := bnd_ok e2
  cases e4
  exact ⟨ρ, h, sw, x, h1, rh, rs, e1, fun ρ1 H1 v l1 rh1 rv => ⟨ρ1, h1, sw, xs, _, rh1, rs.mono l1, e3, fun ρ2 H2 vs l2 rh2 rvs => k ρ2 H2 _ (l1.trans l2) rh2 (.cons (rv.mono l2) rvs)⟩⟩
end
/-- how the values of a call with keywords lie in the parameters -/
def GRel (K : PySem.W.Frag) (n m : Nat) (gW : List W → List W → List W) (gV : List V → List V → List V) : Prop :=
  ∀ ρ H (x : V) (ws us : List W) (vs zs : List V), Rels K ρ H ws vs → Rels K ρ H us zs → ws.length = n → us.length = m → ∃ rest, gV (x :: vs) zs = x :: rest ∧ Rels K ρ H (gW ws us) rest
def mMakeK (C : Str) (f : List W → M W) (n m : Nat) (g : List W → List W → List W) (a k : MA) : ME := fun sw => bnd (a sw) fun xs => bnd (k sw) fun zs => if xs.length = n ∧ zs.length = m then bnd (alloc (.ins C [])) fun r => bnd (f (r :: g xs zs)) fun u => match u with
  | .non => rtn r
  | _ => bad
  else bad
section
variable {X : Cx} {cm : Cm} {C : Str} {e : Expr} {es : List Expr} {kws : List Keyword} {mr mk : MA} {fn : List W → M W} {n : Nat} {ks : List Str} {gW : List W → List W → List W} {gV : List V → List V → List V} {pos p : Pos} {x : Str}
theorem makek_of {m : Nat} {σ : L2.St} {H : Hp} {Q : VK} {E : XK} (gr : GRel X.K n m gW gV) (q : tE X.K cm (mMakeK C fn n m gW mr mk) σ H Q) : tMakeN (cm C) n m (spM X.K cm fn) gV E (tA X.K cm mr) (tA X.K cm mk) σ H Q := by
  obtain ⟨ρ, h, sw, w, h', rh, rs, e, k⟩ := q
  obtain ⟨xs, h1, e1, e2⟩ := bnd_ok e
  obtain ⟨zs, h2, e3, e4⟩ := bnd_ok e2
  split at e4
  · rename_i hl
    obtain ⟨r, h3, e5, e6⟩ := bnd_ok e4
    obtain ⟨u, h4, e7, e8⟩ := bnd_ok e6
    cases e5
    refine ⟨ρ, h, sw, xs, h1, rh, rs, e1, fun ρ1 H1 vs l1 rh1 rx => ?_⟩
    refine ⟨ρ1, h1, sw, zs, h2, rh1, rs.mono l1, e3, fun ρ2 H2 us l2 rh2 rz => ?_⟩
    refine ⟨rx.length.symm.trans hl.1, rz.length.symm.trans hl.2, fun x dx hx hdx hne => ?_⟩
    have la : Le X.K ρ2 H2 ρ2 (upd H2 dx (.own x)) := le_new hdx
    have hx2 : upd H2 dx (.own x) x = none := by rw [upd_ne (Ne.symm hne)]; exact hx
    have lb : Le X.K ρ2 (upd H2 dx (.own x)) (ρ2 ++ [x]) (upd (upd H2 dx (.own x)) x (.ins (cm C) dx [])) := (le_new hx2).trans (le_app x)
    have rh3 := (rh2.new hdx).push hx2 (u := .ins (cm C) dx []) (o := .ins C []) ⟨dx, [], upd_same, rfl, .nil⟩
    obtain ⟨rest, eg, rr⟩ := gr _ _ (.ref x) xs zs vs us (((rx.mono l2).mono la).mono lb) ((rz.mono la).mono lb) hl.1 hl.2
    rw [eg]
    refine ⟨ρ2 ++ [x], _, _, u, h4, rh3, .cons (.ref (push_at rh2)) rr, e7, fun ρ4 H4 v l4 rh4 rv => ?_⟩
    cases u with
    | non =>
      cases rv
      cases e8
      exact ⟨rfl, k ρ4 H4 _ (l1.trans (l2.trans (la.trans (lb.trans l4)))) rh4 (.ref (pre_get l4.pre (push_at rh2)))⟩
    | _ => cases e8
  · cases e4
theorem re_makeK {k : Nat} {g : Addr} {fd : FuncData} {ps : List Str} {gg : List Value → List Value → List Value} (Mk : L2.Mk X.K (cm C) g) (F : FnOk X.prog X.w X.K X.mg X.base CX0 k g fd ps (spM X.K cm fn)) (hr : Room (k + 1) X.A) (hm : X.mg x = some (.ref (cm C))) (hb : KBn X.K fd ps (n + 1) ks gg gV) (gr : GRel X.K n ks.length gW gV)
    (ha : RA X cm (e :: es) mr) (hkw : RK X cm kws mk) (hg : Gl X x := by rfl) (hall : (backToKw pos (keywordEach kws X.env)).all (·.1.isSome) = true := by rfl) (hks : (backToKw pos (keywordEach kws X.env)).filterMap (·.1) = ks := by rfl)
    (hdb : (x == ("__debug__" : Str)) = false := by decide) (he : starEach (e :: es) X.env = (false, eval e X.env) :: starEach es X.env := by rfl)
    (hpl : ((backTo pos (starEach (e :: es) X.env)).any (·.1) || (backToKw pos (keywordEach kws X.env)).any (·.1.isNone)) = false := by rfl) : RE X cm (.Call (.Name x p) (e :: es) kws pos) (mMakeK C fn n ks.length gW mr mk) :=
  peM (pe_makeN Mk F hr hg hm hb pass0 ha hkw hall hks hdb he hpl) fun σ H Q q => makek_of gr q
/-- e.f, a property: the getter is called -/
def mProp (C : Str) (f : List W → M W) (a : ME) : ME := fun sw => bnd (a sw) fun x h => if insB h x C = true then f [x] h else .no
theorem re_prop {f : Str} {pa g : Addr} {k : Nat} {fd : FuncData} {ps : List Str} {a : Expr} {ma : ME} (ck : Cls X.K (cm C)) (hp : PropOf X.K (cm C) f pa g) (F : FnOk X.prog X.w X.K X.mg X.base CX0 k g fd ps (spM X.K cm fn)) (hr : Room (k + 1) X.A) (hb : Binds X.K fd ps []) (ha : RE X cm a ma)
    (hab : attributeBase a f X.env (eval a X.env) = eval a X.env := by rfl) : RE X cm (.Attribute a f pos) (mProp C fn ma) := by
  refine peM (pe_prop (E := fun _ _ _ => False) ha ck hp F hr hb .nil pass0 hab) fun σ H Q q => ?_
  obtain ⟨ρ, h, sw, w, h', rh, rs, e, k⟩ := q
  obtain ⟨x, h1, e1, e2⟩ := bnd_ok e
  refine ⟨ρ, h, sw, x, h1, rh, rs, e1, fun ρ1 H1 x' l1 rh1 rx => ?_⟩
  split at e2
  · rename_i hi
    obtain ⟨pp, ad, dx, fs, rfl, rfl, hpp, eH⟩ := insB_of rh1 rx hi
    exact ⟨ad, dx, fs, rfl, eH, ρ1, h1, [.ref pp], w, h', rh1, .cons rx .nil, e2, fun ρ2 H2 v l2 => k ρ2 H2 v (l1.trans l2)⟩
  · cases e2
end
end EL
namespace EL
open PySem PySem.Spec L2
open PyProof.Rows hiding St
mutual
def flatD : PyData → Bool
  | .dict _ => false
  | .list xs => flatDs xs
  | .tuple xs => flatDs xs
  | _ => true
def flatDs : List PyData → Bool
  | [] => true
  | x :: xs => flatD x && flatDs xs
end
mutual
theorem flatD_plain : ∀ d : PyData, d.plain = flatD d
  | .none => by simp [PyData.plain, flatD]
  | .bool _ => by simp [PyData.plain, flatD]
  | .int _ => by simp [PyData.plain, flatD]
  | .str _ => by simp [PyData.plain, flatD]
  | .list xs => by rw [PyData.plain, flatD, flatDs_plain xs]
  | .tuple xs => by rw [PyData.plain, flatD, flatDs_plain xs]
  | .dict _ => by simp [PyData.plain, flatD]
theorem flatDs_plain : ∀ ds : List PyData, PyData.plainAll ds = flatDs ds
  | [] => by simp [PyData.plainAll, flatDs]
  | x :: xs => by rw [PyData.plainAll, flatDs, flatD_plain x, flatDs_plain xs]
end
theorem mapO_mem {α β : Type} {f : α → Option β} : ∀ {xs : List α} {ys : List β}, mapO f xs = some ys → ∀ y ∈ ys, ∃ x ∈ xs, f x = some y
  | [], ys, e, y, hy => by cases e; cases hy
  | x :: xs, ys, e, y, hy => by
    unfold mapO at e
    split at e
    · rename_i z zs e1 e2
      cases e
      rcases List.mem_cons.mp hy with q | q
      · rw [q]; exact ⟨x, List.mem_cons_self, e1⟩
      · obtain ⟨u, hu, eu⟩ := mapO_mem e2 y q
        exact ⟨u, List.mem_cons_of_mem _ hu, eu⟩
    · cases e
theorem flatDs_all : ∀ {ds : List PyData}, (∀ d ∈ ds, flatD d = true) → flatDs ds = true
  | [], _ => rfl
  | d :: ds, h => by rw [flatDs, h d List.mem_cons_self, flatDs_all fun x hx => h x (List.mem_cons_of_mem _ hx)]; rfl
theorem depth_all {n : Nat} : ∀ {ds : List PyData}, (∀ d ∈ ds, d.depth ≤ n) → PyData.depthAll ds ≤ n
  | [], _ => by simp [PyData.depthAll]
  | d :: ds, h => by
    rw [PyData.depthAll]
    have := h d List.mem_cons_self
    have := depth_all fun x hx => h x (List.mem_cons_of_mem _ hx)
    omega
/-- what toD gives is plain, and no deeper than its fuel -/
theorem toD_flat {h : Hw} : ∀ (n : Nat) (w : W) (d : PyData), toD h n w = some d → flatD d = true ∧ d.depth ≤ n := by
  have sub : ∀ (n : Nat) (ws : List W) (ds : List PyData), (∀ (w : W) (d : PyData), toD h n w = some d → flatD d = true ∧ d.depth ≤ n) → mapO (toD h n) ws = some ds → flatDs ds = true ∧ PyData.depthAll ds ≤ n := fun n ws ds ih e =>
    ⟨flatDs_all fun d hd => let ⟨w, _, q⟩ := mapO_mem e d hd; (ih w d q).1, depth_all fun d hd => let ⟨w, _, q⟩ := mapO_mem e d hd; (ih w d q).2⟩
  intro n
  induction n with
  | zero =>
    intro w d e
    cases w <;> first | (cases e; simp [flatD, PyData.depth]) | cases e
  | succ n ih =>
    intro w d e
    cases w with
    | non => cases e; simp [flatD, PyData.depth]
    | bl b => cases e; simp [flatD, PyData.depth]
    | int i => cases e; simp [flatD, PyData.depth]
    | str x => cases e; simp [flatD, PyData.depth]
    | tup ws =>
      unfold toD at e
      cases q : mapO (toD h n) ws with
      | none => rw [q] at e; cases e
      | some ds =>
        rw [q] at e
        cases e
        obtain ⟨a, b⟩ := sub n ws ds ih q
        simp only [flatD, PyData.depth]
        exact ⟨a, by omega⟩
    | rol ws =>
      unfold toD at e
      cases q : mapO (toD h n) ws with
      | none => rw [q] at e; cases e
      | some ds =>
        rw [q] at e
        cases e
        obtain ⟨a, b⟩ := sub n ws ds ih q
        simp only [flatD, PyData.depth]
        exact ⟨a, by omega⟩
    | ref p =>
      unfold toD at e
      split at e
      · rename_i xs hx
        cases q : mapO (toD h n) xs with
        | none => rw [q] at e; cases e
        | some ds =>
          rw [q] at e
          cases e
          obtain ⟨a, b⟩ := sub n xs ds ih q
          simp only [flatD, PyData.depth]
          exact ⟨a, by omega⟩
      · cases e
def rEqP (K : PySem.W.Frag) (neg : Bool) : R2 := fun x y H Q => ∃ d e, Dp K H x d ∧ Dp K H y e ∧ flatD d = true ∧ flatD e = true ∧ d.depth ≤ 8 ∧ Q (.bl (neg != PyData.eqv d e)) H
def rInP (K : PySem.W.Frag) (neg : Bool) : R2 := fun x y H Q => ∃ d ds, Dp K H x d ∧ (Dp K H y (.list ds) ∨ Dp K H y (.tuple ds)) ∧ flatD d = true ∧ flatDs ds = true ∧ d.depth ≤ 8 ∧ Q (.bl (neg != ds.any fun z => PyData.eqv z d)) H
section
variable {X : Cx}
theorem op_eqP (hu : X.A.units + 16 < cLine) : OpR X (compareOp .Eq) (rEqP X.K false) := by
  intro pins s σ H x y v u Q I rx ry h
  obtain ⟨d, e, dx, dy, f1, f2, dep, q⟩ := h
  obtain ⟨as, r1⟩ := Dp.reads I _ _ _ dx rx
  obtain ⟨bs, r2⟩ := Dp.reads I _ _ _ dy ry
  exact PySem.SeqAt.eq_plain r1 r2 (by rw [flatD_plain]; exact f1) (by rw [flatD_plain]; exact f2) (by omega) ⟨_, H, I, by simp; rfl, q⟩
theorem op_neP (hu : X.A.units + 16 < cLine) : OpR X (compareOp .NotEq) (rEqP X.K true) := by
  intro pins s σ H x y v u Q I rx ry h
  obtain ⟨d, e, dx, dy, f1, f2, dep, q⟩ := h
  obtain ⟨as, r1⟩ := Dp.reads I _ _ _ dx rx
  obtain ⟨bs, r2⟩ := Dp.reads I _ _ _ dy ry
  exact PySem.SeqAt.ne_plain r1 r2 (by rw [flatD_plain]; exact f1) (by rw [flatD_plain]; exact f2) (by omega) ⟨_, H, I, by simp; rfl, q⟩
theorem op_inP (hu : X.A.units + 16 < cLine) : OpR X (compareOp .In) (rInP X.K false) := by
  intro pins s σ H x y v u Q I rx ry h
  obtain ⟨d, ds, dx, dy, f1, f2, dep, q⟩ := h
  obtain ⟨as, r1⟩ := Dp.reads I _ _ _ dx rx
  rcases dy with dy | dy
  · obtain ⟨bs, r2⟩ := Dp.reads I _ _ _ dy ry
    exact PySem.SeqAt.in_list_data r2 r1 (by rw [flatDs_plain]; exact f2) (by rw [flatD_plain]; exact f1) (by omega) ⟨_, H, I, by simp; rfl, q⟩
  · obtain ⟨bs, r2⟩ := Dp.reads I _ _ _ dy ry
    exact PySem.SeqAt.in_tuple_data r2 r1 (by rw [flatDs_plain]; exact f2) (by rw [flatD_plain]; exact f1) (by omega) ⟨_, H, I, by simp; rfl, q⟩
theorem op_notInP (hu : X.A.units + 16 < cLine) : OpR X (compareOp .NotIn) (rInP X.K true) := by
  intro pins s σ H x y v u Q I rx ry h
  obtain ⟨d, ds, dx, dy, f1, f2, dep, q⟩ := h
  obtain ⟨as, r1⟩ := Dp.reads I _ _ _ dx rx
  rcases dy with dy | dy
  · obtain ⟨bs, r2⟩ := Dp.reads I _ _ _ dy ry
    exact PySem.SeqAt.notIn_list_data r2 r1 (by rw [flatDs_plain]; exact f2) (by rw [flatD_plain]; exact f1) (by omega) ⟨_, H, I, by simp; rfl, q⟩
  · obtain ⟨bs, r2⟩ := Dp.reads I _ _ _ dy ry
    exact PySem.SeqAt.notIn_tuple_data r2 r1 (by rw [flatDs_plain]; exact f2) (by rw [flatD_plain]; exact f1) (by omega) ⟨_, H, I, by simp; rfl, q⟩
end
def fEqP (neg : Bool) (x y : W) : M W := fun h => match toD h 8 x, toD h 8 y with
  | some d, some e => .ok (.bl (neg != PyData.eqv d e)) h
  | _, _ => .no
def fInP (neg : Bool) (x y : W) : M W := fun h => match toD h 8 x, toD h 8 y with
  | some d, some (.list ds) => .ok (.bl (neg != ds.any fun z => PyData.eqv z d)) h
  | some d, some (.tuple ds) => .ok (.bl (neg != ds.any fun z => PyData.eqv z d)) h
  | _, _ => .no
section
variable {X : Cx} {cm : Cm}
theorem wEqP {neg : Bool} : OpW X.K cm (rEqP X.K neg) (fEqP neg) := by
  intro ρ h H x y x' y' z h' Q rh rx ry e k
  unfold fEqP at e
  split at e
  · rename_i d1 d2 e1 e2
    cases e
    exact ⟨d1, d2, toD_dp rh _ _ _ _ rx e1, toD_dp rh _ _ _ _ ry e2, (toD_flat _ _ _ e1).1, (toD_flat _ _ _ e2).1, (toD_flat _ _ _ e1).2, k.at rh (.bl _)⟩
  · cases e
theorem wInP {neg : Bool} : OpW X.K cm (rInP X.K neg) (fInP neg) := by
  intro ρ h H x y x' y' z h' Q rh rx ry e k
  unfold fInP at e
  split at e
  · rename_i d1 ds e1 e2
    cases e
    exact ⟨d1, ds, toD_dp rh _ _ _ _ rx e1, .inl (toD_dp rh _ _ _ _ ry e2), (toD_flat _ _ _ e1).1, (toD_flat _ _ _ e2).1, (toD_flat _ _ _ e1).2, k.at rh (.bl _)⟩
  · rename_i d1 ds e1 e2
    cases e
    exact ⟨d1, ds, toD_dp rh _ _ _ _ rx e1, .inr (toD_dp rh _ _ _ _ ry e2), (toD_flat _ _ _ e1).1, (toD_flat _ _ _ e2).1, (toD_flat _ _ _ e1).2, k.at rh (.bl _)⟩
  · cases e
end
end EL
namespace EL
open PySem PySem.Spec L2
open PyProof.Rows hiding St
theorem hu_of16 {k : Nat} {A : Around} (r : Room k A) : A.units + 16 < cLine := by
  have := hu65 r
  omega
theorem hu_of64 {k : Nat} {A : Around} (r : Room k A) : A.units + 64 < cLine := by
  have := hu65 r
  omega
section
variable {X : Cx} {cm : Cm} {C : Str} {e : Expr} {es : List Expr} {kws : List Keyword} {mr mk : MA} {fn : List W → M W} {n m : Nat} {ks : List Str} {gW : List W → List W → List W} {gV : List V → List V → List V} {pos p : Pos} {x : Str}
theorem re_mkK {k : Nat} {g : Addr} {fd : FuncData} {ps : List Str} {gg : List Value → List Value → List Value} (Mk : L2.Mk X.K (cm C) g) (F : FnOk X.prog X.w X.K X.mg X.base CX0 k g fd ps (spM X.K cm fn)) (hr : Room (k + 1) X.A) (hm : X.mg x = some (.ref (cm C))) (hb : KBn X.K fd ps (n + 1) ks gg gV) (gr : GRel X.K n m gW gV)
    (ha : RA X cm (e :: es) mr) (hkw : RK X cm kws mk) (hl : ks.length = m := by rfl) (hg : Gl X x := by rfl) (hall : (backToKw pos (keywordEach kws X.env)).all (·.1.isSome) = true := by rfl) (hks : (backToKw pos (keywordEach kws X.env)).filterMap (·.1) = ks := by rfl)
    (hdb : (x == ("__debug__" : Str)) = false := by decide) (he : starEach (e :: es) X.env = (false, eval e X.env) :: starEach es X.env := by rfl)
    (hpl : ((backTo pos (starEach (e :: es) X.env)).any (·.1) || (backToKw pos (keywordEach kws X.env)).any (·.1.isNone)) = false := by rfl) : RE X cm (.Call (.Name x p) (e :: es) kws pos) (mMakeK C fn n m gW mr mk) := by
  subst hl
  exact re_makeK Mk F hr hm hb gr ha hkw hg hall hks hdb he hpl
end
end EL
set_option maxHeartbeats 2000000
namespace EL
open PySem PySem.Spec L2
open PyProof.Rows hiding St
end EL
namespace EL
open PySem PySem.Spec L2
open PyProof.Rows hiding St
end EL
namespace EL
open PySem PySem.Spec L2
open PyProof.Rows hiding St
end EL
namespace EL
open PySem PySem.Spec L2
open PyProof.Rows hiding St
end EL
namespace EL
open PySem PySem.Spec L2
open PyProof.Rows hiding St
end EL
namespace EL
open PySem PySem.Spec L2
open PyProof.Rows hiding St
theorem Vals.get? : ∀ {xs : List V} {us : List Value} (r : Vals xs us) (i : Nat), (xs[i]? = none ∧ us[i]? = none) ∨ ∃ x u, xs[i]? = some x ∧ us[i]? = some u ∧ RelV x u
  | _, _, .nil, i => .inl ⟨by simp, by simp⟩
  | _, _, .cons r t, 0 => .inr ⟨_, _, rfl, rfl, r⟩
  | _, _, .cons r t, i + 1 => by
    rw [List.getElem?_cons_succ, List.getElem?_cons_succ]
    exact Vals.get? t i
end EL
namespace EL
open PySem PySem.Spec L2
open PyProof.Rows hiding St
end EL
namespace EL
open PySem PySem.Spec L2
open PyProof.Rows hiding St
end EL
namespace L2
open PySem PySem.Spec PySem.W PyProof.Rows
end L2
namespace EL
open PySem PySem.Spec L2
open PyProof.Rows hiding St
theorem KT.val {H : Hp} {kvs : List (List Key × V)} {xs : List (List Key × Addr × Value)} (r : KT H kvs xs) (k : List Key) : match valV kvs k with
    | some y => ∃ u, valueAt (pairsH xs) k = some u ∧ RelV y u
    | none => valueAt (pairsH xs) k = none := by
  induction r with
  | nil => rfl
  | @cons p q ps qs hq t ih =>
    obtain ⟨e1, _, e3⟩ := hq
    unfold valV valueAt pairsH at *
    rw [List.find?_cons, List.map_cons, List.find?_cons]
    dsimp only
    rw [← e1]
    by_cases h : p.1 = k
    · rw [decide_eq_true h]
      exact ⟨_, rfl, e3⟩
    · rw [decide_eq_false h]
      exact ih
theorem KT.len {H : Hp} {kvs : List (List Key × V)} {xs : List (List Key × Addr × Value)} (r : KT H kvs xs) : kvs.length = xs.length := Paired.length r
end EL
namespace EL
open PySem PySem.Spec L2
open PyProof.Rows hiding St
end EL
set_option maxHeartbeats 2000000
namespace EL
open PySem PySem.Spec L2
open PyProof.Rows hiding St
end EL
set_option maxHeartbeats 2000000
namespace EL
open PySem PySem.Spec L2
open PyProof.Rows hiding St
end EL
set_option maxHeartbeats 2000000
namespace EL
open PySem PySem.Spec L2
open PyProof.Rows hiding St
end EL
namespace EL
open PySem PySem.Spec L2
open PyProof.Rows hiding St
end EL
namespace EL
open PySem PySem.Spec L2
open PyProof.Rows hiding St
end EL
namespace EL
open PySem PySem.Spec L2
open PyProof.Rows hiding St
end EL
namespace EL
open PySem PySem.Spec L2
open PyProof.Rows hiding St
open PySem.W (dataLt alike alikeAll AllAlike Sortable dataLe EachIs keyToks)
section
variable {K : PySem.W.Frag} {cm : Cm} {ρ ρ' : List Addr} {h : Hw} {H H1 : Hp} {hp : Heap} {P : Program} {w : World}
theorem code_no {c : Addr} {q : Str} {o : O} (ok : HOk P w H hp) (e : H c = some (LamX.CodeO c q)) (r : RelO K cm ρ H c o) : False := by
  obtain ⟨⟨oc, vs, t, h1, h2, h3⟩, _, _⟩ := ok c _ e
  unfold LamX.CodeO at e
  cases o with
  | lst xs => obtain ⟨_, z, _⟩ := r; rw [z] at e; cases e
  | ins C fs => obtain ⟨_, _, z, _⟩ := r; rw [z] at e; cases e
  | dK kvs => obtain ⟨_, z, _⟩ := r; rw [z] at e; cases e
  | dF kvs => obtain ⟨_, _, z, _⟩ := r; rw [z] at e; cases e
  | dT kvs => obtain ⟨_, z, _⟩ := r; rw [z] at e; cases e
  | dU kvs => obtain ⟨_, _, z, _⟩ := r; rw [z] at e; cases e
  | st ks =>
    obtain ⟨n, _, z⟩ := r
    obtain ⟨⟨o, es, ep, t', g1, _, g2, _⟩, _, _⟩ := ok c _ z
    rw [h1] at g1
    cases g1
    rw [h2] at g2
    cases g2
  | xc C f w =>
    obtain ⟨d, v, z, _⟩ := r
    obtain ⟨⟨t1, g1⟩, _, _⟩ := ok c _ z
    rw [h1] at g1
    cases g1
    cases h2
    cases h3
  | sT ks =>
    obtain ⟨L, z, _⟩ := r
    obtain ⟨⟨es, ep, t', R⟩, _, _⟩ := ok c _ z
    obtain ⟨o, g1, _, g2⟩ := R.ob
    rw [h1] at g1
    cases g1
    rw [h2] at g2
    cases g2
theorem relO_ntbl {a : Addr} {o : O} (r : RelO K cm ρ H a o) : ∃ u, H a = some u ∧ ∀ ps, u ≠ .tbl ps := by
  cases o with
  | lst xs => obtain ⟨_, z, _⟩ := r; exact ⟨_, z, (fun _ z => nomatch z)⟩
  | ins C fs => obtain ⟨_, _, z, _⟩ := r; exact ⟨_, z, (fun _ z => nomatch z)⟩
  | dK kvs => obtain ⟨_, z, _⟩ := r; exact ⟨_, z, (fun _ z => nomatch z)⟩
  | dF kvs => obtain ⟨_, _, z, _⟩ := r; exact ⟨_, z, (fun _ z => nomatch z)⟩
  | dT kvs => obtain ⟨_, z, _⟩ := r; exact ⟨_, z, (fun _ z => nomatch z)⟩
  | dU kvs => obtain ⟨_, _, z, _⟩ := r; exact ⟨_, z, (fun _ z => nomatch z)⟩
  | st ks => obtain ⟨n, _, z⟩ := r; exact ⟨_, z, fun _ z => by unfold SetK at z; cases z⟩
  | xc C f w => obtain ⟨d, v, z, _⟩ := r; exact ⟨_, z, fun _ z => by unfold exo at z; cases z⟩
  | sT ks => obtain ⟨L, z, _⟩ := r; exact ⟨_, z, fun _ z => by unfold SetNO at z; cases z⟩
theorem le_extN (e : LamX.ExtN H H1) : Le K ρ H ρ H1 := by
  refine ⟨List.prefix_refl _, fun a vs q => ?_, fun a vs q => ?_, fun a o u q => e a _ q (fun _ z => nomatch z), fun a fs q => e a _ q (fun _ z => nomatch z), fun a vs q => e a _ q (fun _ z => nomatch z)⟩
  · rcases q with (q | ⟨ob, q⟩) | q
    · exact .inl (.inl (e a _ q (fun _ z => nomatch z)))
    · exact .inl (.inr ⟨ob, e a _ q (fun _ z => nomatch z)⟩)
    · exact .inr q
  · rcases q with ⟨ob, q⟩ | q
    · exact .inl ⟨ob, e a _ q (fun _ z => nomatch z)⟩
    · exact .inr q
theorem TabR.tabs {T : List (Addr × Str)} (t : TabR T ρ H) : LamX.Tabs T H := fun p hp => by
  obtain ⟨ps, e1, e2, _, f⟩ := t p hp
  exact ⟨ps, e1, e2, fun pos cv hc => let ⟨c, q1, q2, _⟩ := f pos cv hc; ⟨c, q1, q2⟩⟩
theorem RelH.lam (r : RelH K cm ρ h H) (e : LamX.ExtN H H1) (t : LamX.Tabs cm.T H1) (ok : HOk P w H1 hp) : RelH K cm ρ h H1 := by
  have obj : ∀ (i : Nat) (o : O) (a : Addr), h[i]? = some o → ρ[i]? = some a → RelO K cm ρ H1 a o := fun j o a hj ha => by
    have q := r.obj j o a hj ha
    obtain ⟨u, e1, e2⟩ := (relO_ntbl q)
    exact q.mono (le_extN e) ((e a u e1 e2).trans e1.symm)
  have plc : ∀ a ∈ ρ, ∃ o, RelO K cm ρ H1 a o := fun a ha => by
    obtain ⟨i, hl, e0⟩ := List.mem_iff_getElem.mp ha
    have hl' : i < h.length := by rw [← r.len]; exact hl
    exact ⟨h[i], obj i _ a (List.getElem?_eq_getElem hl') (List.getElem?_eq_some_iff.mpr ⟨hl, e0⟩)⟩
  refine ⟨r.len, r.nd, obj, fun p hp => ?_⟩
  obtain ⟨ps, e1, e2, f⟩ := t p hp
  refine ⟨ps, e1, e2, fun z => ?_, fun pos cv hc => ?_⟩
  · obtain ⟨o, q⟩ := plc _ z
    obtain ⟨u, q1, q2⟩ := (relO_ntbl q)
    rw [e1] at q1
    exact q2 ps (Option.some.inj q1).symm
  · obtain ⟨c, q1, q2⟩ := f pos cv hc
    exact ⟨c, q1, q2, fun z => let ⟨o, q⟩ := plc _ z; code_no ok q2 q⟩
end
theorem run_lam {CX : CXT} {P : Program} {w : World} {K : PySem.W.Frag} {mg : Str → Option Value} {base : Heap} {k : Nat} {f c' : Addr} {qual : Str} {params : Arguments} {body : Expr} {scope : Scope} {pm ctv : Value} {N ps : List Str} (S : FnScope N ps scope)
    {A : Around} {outer : List Env} {s : Shared} {H : Hp} {args : Args} {us : List Value} {vs : List V} {Q : VK} {E : XK} (hr : Room (k + 1) A) (e0 : Env0 P w K mg base A outer s H)
    (hf : s.heap.get? f = some (PySem.W.kla_obj "<lambda>" qual params body scope [] pm c' ctv)) (hc : s.heap.CodeRec (.ref c') qual) (hb : BindsTo s (PySem.W.kla_fn "<lambda>" qual params body scope [] pm (.ref c') ctv) args (ps.zip us)) (r : Vals vs us) (hl : vs.length = ps.length)
    (hbody : Room k (A.deeper (envOfC qual scope s.heap.objs.size f (.ref c'))) → ∃ t, PE (cxOf CX P w K mg base N qual scope f (.ref c') A outer s H E) body t ∧ t (L2.start N vs) H Q) :
    codeAny (model P w) A (.call (.ref f) args) (CR CX outer P w H s Q E) s := by
  have lim : s.heap.NoLimit := e0.mod.nolimit.keeps fun b o e => (e0.bs b o e).1
  have hkind : ∀ y ∈ ps.zip us, scope.names.lookup y.1 = some .local ∨ (scope.names.lookup y.1 = some .cell ∧ ((cellsFrom (s.heap.objs.size + 1) scope.names []).lookup y.1).isSome = true) := fun ⟨n, v⟩ hy => by
    rcases S.par n (List.of_mem_zip hy).1 with q | q
    · exact .inl q
    · exact .inr ⟨q, PySem.W.cellsFrom_some _ _ _ (.inl q)⟩
  refine PySem.W.kla_callFunE hr.depth hf rfl S.co S.gen rfl hc (hb _ _ _ _ ?_)
  refine wpAny_newFunctionEnv_cells S.kind hkind fun env he s1 x => ?_
  subst he
  refine ⟨lim.keeps x.toInCall.keep, PySem.W.kla_codeExpr ?_⟩
  obtain ⟨t, ht, hq⟩ := hbody (hr.deeper _)
  have I : Inv (cxOf CX P w K mg base N qual scope f (.ref c') A outer s H E) [] (L2.start N vs) H s1 := inv_start S hr.hd e0 hl r x
  refine wpAny_mono (ht.run [] s1 (L2.start N vs) H _ I hq) (fun u s' hs => ?_) fun e s' hs => hs
  obtain ⟨v, H', J, rv, q⟩ := hs
  exact ⟨v, H', J.os, J.bare, J.base, J.hok, rv, q⟩
/-- a body's heads of keys: each item's key, a text -/
def keysK (mb : ME) (n : Nat) : List W → M (List Str)
  | [] => rtn []
  | x :: r => bnd (mb (some x :: List.replicate n none)) fun k => match k with
    | .str y => bnd (keysK mb n r) fun ys => rtn (y :: ys)
    | _ => bad
def mSortK (mx mb : ME) (n : Nat) : ME := fun sw => bnd (mx sw) fun x h => match items h x with
  | some xs => bnd (keysK mb n xs) (fun ks => alloc (.lst (sortWD xs (ks.map PyData.str)))) h
  | none => .no
/-- what lies behind all that the body knew at its start -/
structure FreshA (X : Cx) (pins : List (Addr × Obj)) (a : Addr) : Prop where
  ge : X.s_0.heap.objs.size ≤ a
  loc : a ≠ X.env.locals
  cell : ∀ x c, X.env.cells.lookup x = some c → c ≠ a
  pin : ∀ p ∈ X.pn ++ pins, p.1 ≠ a
  fs : a ∉ X.fs
section
variable {X : Cx} {pins : List (Addr × Obj)} {σ : L2.St} {H H' : Hp} {s : Shared} {h' : Heap} {a kS : Addr}
theorem fresh_of (I : Inv X pins σ H s) (h : s.heap.objs.size ≤ a) : FreshA X pins a where
  ge := Nat.le_trans I.sz h
  loc := fun z => absurd (Nat.lt_of_lt_of_le I.lt h) (by rw [z]; exact Nat.lt_irrefl _)
  cell := fun x c e z => by
    obtain ⟨v, o, ho, _⟩ := I.cell x c e
    exact absurd (Nat.lt_of_lt_of_le (Heap.lt_size ho) h) (by rw [z]; exact Nat.lt_irrefl _)
  pin := fun p hp z => absurd (Nat.lt_of_lt_of_le (Heap.lt_size (I.pin p hp).1) h) (by rw [z]; exact Nat.lt_irrefl _)
  fs := I.nofs h
theorem FreshA.stk (I : Inv X pins σ H s) (f : FreshA X pins a) : a ∉ frs X.stack := fun z => (List.mem_cons.mp (I.stkSub a z)).elim f.loc f.fs
theorem inv_turn {t' : Nat} (I : Inv X pins σ H s) (f : FreshA X pins a) (hn : H a = none) (k : ∀ b o, b ≠ a → s.heap.get? b = some o → h'.get? b = some o) : Inv X pins σ H { s with heap := h', toks := t' } :=
  I.turned k hn f.loc (.inr f.ge) f.cell f.pin
/-- two objects of ours, untracked, are changed; the one is a list from now on -/
theorem inv_two {t' : Nat} {xs : List V} {its : List Value} {n : Nat} (I : Inv X pins σ H s) (fa : FreshA X pins a) (fk : FreshA X pins kS) (na : H a = none) (nk : H kS = none) (k : ∀ b o, b ≠ a → b ≠ kS → s.heap.get? b = some o → h'.get? b = some o)
    (hz : xs.length ≤ sizeLine) (rv : Vals xs its) (ha : h'.get? a = some { cls := .type "list", data := .seq its.toArray n }) : Inv X pins σ (upd H a (.lst xs)) { s with heap := h', toks := t' } := by
  have ne : ∀ b u, H b = some u → b ≠ a ∧ b ≠ kS := fun b u e => ⟨ne_of_none e na, ne_of_none e nk⟩
  have kH : HOk X.prog X.w H h' := fun b u e => by
    refine (I.hok b u e).stay (fun c v hc q => ?_) (fun _ q => q) fun _ _ q => q
    have z : c ≠ a ∧ c ≠ kS := by
      rcases hc with z | z
      · rw [z]
        exact ne b u e
      · exact ne c _ z
    exact k c v z.1 z.2 q
  have hok : HOk X.prog X.w (upd H a (.lst xs)) h' := fun b u e => by
    by_cases hb : b = a
    · subst hb
      rw [upd_same] at e
      cases e
      exact ⟨hz, its, n, rv, ha⟩
    · rw [upd_ne hb] at e
      exact (kH b u e).stay (fun c v _ q => q) (fun d q => by rw [upd_ne (ne d _ q).1]; exact q) fun d ys q => by rw [upd_ne (ne d _ q).1]; exact q
  refine I.step (g' := s.gens) (d' := s.drawn) (ch := [a, kS]) (fun b hb => ?_) (fun b o _ _ hc e _ => k b o (fun z => hc (by simp [z])) (fun z => hc (by simp [z])) e) (fun b o _ _ hc e _ => ⟨o.slots, k b o (fun z => hc (by simp [z])) (fun z => hc (by simp [z])) e⟩)
    (fun b o hc e n => by rw [upd_ne (fun z => hc (by simp [z]))]; exact n) (fun b o hc e => ⟨o, k b o (fun z => hc (by simp [z])) (fun z => hc (by simp [z])) e⟩) (fun b ys e => by rw [upd_ne (ne b _ e).1]; exact e) (fun b o u e => by rw [upd_ne (ne b _ e).1]; exact e)
    (fun b ps e => ⟨#[], by rw [upd_ne (ne b _ e).1, e]; simp⟩) (fun m hm => ?_) hok I.bare
  · have hb' : b = a ∨ b = kS := by simpa using hb
    rcases hb' with rfl | rfl
    · exact ⟨.inr fa.ge, fa.loc, fa.cell, fa.pin⟩
    · exact ⟨.inr fk.ge, fk.loc, fk.cell, fk.pin⟩
  · obtain ⟨o, es, ep, ho, r⟩ := hm
    exact ⟨o, es, ep, k _ o (Ne.symm fa.loc) (Ne.symm fk.loc) ho, r⟩
end
theorem among_pre {p : Pos} {cv : Value} {m : List Value} : ∀ {l : List Value}, TriplesOk l → codeAmong p l = some cv → codeAmong p (l ++ m) = some cv := by
  intro l
  fun_induction TriplesOk l with
  | case1 => intro _ h; simp [codeAmong] at h
  | case2 a t b u x rest ih =>
    intro ok h
    simp only [List.cons_append, codeAmong] at h ⊢
    split at h
    · rename_i q
      rw [if_pos q]
      exact h
    · rename_i q
      rw [if_neg q]
      exact ih ok h
  | case3 l h1 h2 => intro ok; exact ok.elim
theorem among_snoc {pos : Pos} {c : Value} : ∀ {l : List Value}, TriplesOk l → codeAmong pos l = none → codeAmong pos (l ++ [rawInt pos.line, rawInt pos.col, c]) = some c := by
  intro l
  fun_induction TriplesOk l with
  | case1 => intro _ _; simp [codeAmong, rawInt]
  | case2 a t b u x rest ih =>
    intro ok h
    simp only [List.cons_append, codeAmong] at h ⊢
    split at h
    · cases h
    · rename_i q
      rw [if_neg q]
      exact ih ok h
  | case3 l h1 h2 => intro ok; exact ok.elim
/-- the object f is this lambda, its code object c' stands in the table P -/
structure LamAt (H : Hp) (P c' : Addr) (pos : Pos) : Prop where
  ex : ∃ ps : Array Value, H P = some (.tbl ps) ∧ TriplesOk ps.toList ∧ codeAmong pos ps.toList = some (.ref c')
theorem lam_make3 {X : Cx} {pins : List (Addr × Obj)} {σ : L2.St} {H : Hp} {s : Shared} {T : List (Addr × Str)} {c P : Addr} {params : Arguments} {body : Expr} {scope : Scope} {pos : Pos} {E : Value → Shared → Prop} {Q : Value → Shared → Prop} (I : Inv X pins σ H s) (TB : LamX.TabB X.base X.mg c P) (hcode : X.env.code = .ref c)
    (hm : (P, X.env.qual ++ "<lambda>") ∈ T) (hu : ∀ p ∈ T, p.1 = P → p.2 = X.env.qual ++ "<lambda>") (hT : LamX.Tabs T H) (hdef : defaultsOf params X.env = ([], [])) (hcl : closureFor scope X.env = pure [])
    (h : ∀ (f c' : Addr) (pm ctv : Value) (H1 : Hp) (s' : Shared), Inv X pins σ H1 s' → LamX.ExtN H H1 → LamX.Tabs T H1 → s'.heap.get? f = some (PySem.W.kla_obj "<lambda>" (X.env.qual ++ "<lambda>") params body scope [] pm c' ctv) → H1 f = none → f ∉ frs X.stack → LamAt H1 P c' pos → Q (.ref f) s') :
    wpAny (model X.prog X.w) X.A (eval (.Lambda params body scope pos) X.env) Q E s := by
  refine PySem.W.kla_eval hdef ?_
  have bP : s.heap.BuiltinsAt X.mg P := TB.bm.keeps I.bk
  obtain ⟨ps, hP, ht, ha⟩ := hT _ hm
  have hP' : s.heap.get? P = some { cls := .none, data := .fields ps } := I.hok P _ hP
  have out : ∀ f, s.heap.objs.size ≤ f → f ∉ frs X.stack := fun f hf => (fresh_of (a := f) I hf).stk I
  cases hc : codeAmong pos ps.toList with
  | some cv =>
    obtain ⟨c', rfl, hco⟩ := ha pos cv hc
    refine PySem.W.kla_makeFunctionHit (mg := X.mg) (c := c) (P := P) (ps := ps) hcl I.ok.glob (I.mod.glob.keeps I.bk) hcode (TB.code.keeps I.bk) hP' ht hc bP fun ctv h' tk hx hsz => ?_
    have I1 : Inv X pins σ H { s with heap := h'.push (PySem.W.kla_obj "<lambda>" (X.env.qual ++ "<lambda>") params body scope [] ((X.mg "__name__").getD .none) c' ctv), toks := tk } := I.kept fun b o e => Heap.get?_push_of_some _ (hx b o e)
    exact h h'.objs.size c' _ ctv H _ I1 (LamX.ExtN.refl H) hT (Heap.get?_push_size _ rfl) (I.hok.fresh hsz) (out _ hsz) ⟨ps, hP, ht, hc⟩
  | none =>
    refine PySem.W.kla_makeFunction (mg := X.mg) (c := c) (P := P) (ps := ps) hcl I.ok.glob (I.mod.glob.keeps I.bk) hcode (TB.code.keeps I.bk) hP' ht hc TB.gP bP fun c' ctv h' tk hx hge hlt hrec htb => ?_
    obtain ⟨c2, oc, vs, t, e2, hoc, hd, hv⟩ := hrec
    cases e2
    have hsz : s.heap.objs.size ≤ h'.objs.size := Nat.le_trans hge (Nat.le_of_lt hlt)
    have nC : H c' = none := I.hok.fresh hge
    have I1 := LamX.inv_table (t' := tk) (more := #[rawInt pos.line, rawInt pos.col, .ref c']) (h' := h'.push (PySem.W.kla_obj "<lambda>" (X.env.qual ++ "<lambda>") params body scope [] ((X.mg "__name__").getD .none) c' ctv)) I hP
      (fun b o hb e => Heap.get?_push_of_some _ (hx b o hb e)) (Heap.get?_push_of_some _ htb) hge ⟨oc, vs, t, Heap.get?_push_of_some _ hoc, hd, hv⟩
    have hE : LamX.ExtN H (upd (upd H P (.tbl (ps ++ #[rawInt pos.line, rawInt pos.col, .ref c']))) c' (LamX.CodeO c' (X.env.qual ++ "<lambda>"))) := fun b o e n => by
      have n1 : b ≠ c' := ne_of_none e nC
      have n2 : b ≠ P := fun z => by
        rw [z, hP] at e
        exact n ps (Option.some.inj e).symm
      rw [upd_ne n1, upd_ne n2]
      exact e
    have eL : (ps ++ #[rawInt pos.line, rawInt pos.col, .ref c']).toList = ps.toList ++ [rawInt pos.line, rawInt pos.col, .ref c'] := by simp
    have nPc : P ≠ c' := ne_of_none hP nC
    have atP : upd (upd H P (.tbl (ps ++ #[rawInt pos.line, rawInt pos.col, .ref c']))) c' (LamX.CodeO c' (X.env.qual ++ "<lambda>")) P = some (.tbl (ps ++ #[rawInt pos.line, rawInt pos.col, .ref c'])) := by rw [upd_ne nPc, upd_same]
    have ok1 : TriplesOk (ps ++ #[rawInt pos.line, rawInt pos.col, .ref c']).toList := by rw [eL]; exact PySem.TriplesOk_snoc _ _ _ _ ht
    refine h h'.objs.size c' _ ctv _ _ I1 hE (fun p hp => ?_) (Heap.get?_push_size _ rfl) ?_ (out _ hsz) ⟨_, atP, ok1, by rw [eL]; exact among_snoc ht hc⟩
    · by_cases hb : p.1 = P
      · rw [hu p hp hb, hb]
        refine ⟨_, atP, ok1, fun p' cv hcv => ?_⟩
        rw [eL] at hcv
        rcases LamX.among_app _ ht hcv with z | z
        · obtain ⟨c0, q1, q2⟩ := ha p' cv z
          exact ⟨c0, q1, hE _ _ q2 LamX.codeO_ne⟩
        · exact ⟨c', z, upd_same⟩
      · obtain ⟨ps', a1, a2, a3⟩ := hT p hp
        refine ⟨ps', by rw [upd_ne (ne_of_none a1 nC), upd_ne hb]; exact a1, a2, fun p' cv hcv => ?_⟩
        obtain ⟨c0, q1, q2⟩ := a3 p' cv hcv
        exact ⟨c0, q1, hE _ _ q2 LamX.codeO_ne⟩
    · have n1 : h'.objs.size ≠ c' := Nat.ne_of_gt hlt
      have n2 : h'.objs.size ≠ P := Nat.ne_of_gt (Nat.lt_of_lt_of_le (Heap.lt_size hP') hsz)
      rw [upd_ne n1, upd_ne n2]
      exact I.hok.fresh hsz
section
variable {X : Cx} {cm : Cm} {pins : List (Addr × Obj)} {σ : L2.St} {H : Hp} {s : Shared} {k n : Nat} {f P c' : Addr} {pos : Pos} {params : Arguments} {body : Expr} {scope : Scope} {pm ctv u : Value} {v : Str} {N : List Str} {mb : ME} {ρ : List Addr} {h h2 : Hw} {x : W} {y : V} {key : Str}
/-- what is known of the lambda's text -/
structure LamT (X : Cx) (cm : Cm) (k n : Nat) (params : Arguments) (body : Expr) (scope : Scope) (v : Str) (N : List Str) (mb : ME) : Prop where
  S : FnScope N [v] scope
  len : N.length = n + 1
  bind : ∀ (pm cv ctv u : Value), bindArgs (PySem.W.kla_fn "<lambda>" (X.env.qual ++ "<lambda>") params body scope [] pm cv ctv) ⟨[u], []⟩ = pure [(v, u)]
  body : ∀ (A : Around) (outer : List Env) (s : Shared) (H : Hp) (f c' : Addr), Room k (A.deeper (envOfC (X.env.qual ++ "<lambda>") scope s.heap.objs.size f (.ref c'))) → (A.deeper (envOfC (X.env.qual ++ "<lambda>") scope s.heap.objs.size f (.ref c'))).guards = some [] → RE (cxOf CX0 X.prog X.w X.K X.mg X.base N (X.env.qual ++ "<lambda>") scope f (.ref c') A outer s H E0) cm body mb
theorem lam_call (I : Inv X pins σ H s) (hr : Room (k + 3) X.A) (gd : X.A.guards = some []) (L : LamT X cm k n params body scope v N mb) (hm : (P, X.env.qual ++ "<lambda>") ∈ cm.T) (hf : s.heap.get? f = some (PySem.W.kla_obj "<lambda>" (X.env.qual ++ "<lambda>") params body scope [] pm c' ctv))
    (T : LamAt H P c' pos) (rh : RelH X.K cm ρ h H) (rx : Rel X.K ρ H x y) (ru : RelV y u) (e : mb (some x :: List.replicate n none) h = .ok (.str key) h2) :
    wpAny (model X.prog X.w) X.A.in1.in1 (call (.ref f) [u]) (fun r s2 => ∃ t H2 ρ2, r = Value.str key t ∧ Inv X pins σ H2 s2 ∧ Un (frs X.stack) [] H H2 s.heap s2.heap ∧ Le X.K ρ H ρ2 H2 ∧ RelH X.K cm ρ2 h2 H2 ∧ LamAt H2 P c' pos) (fun _ _ => False) s := by
  obtain ⟨ps, hP, hok, hc⟩ := T.ex
  have hrec : s.heap.CodeRec (.ref c') (X.env.qual ++ "<lambda>") := by
    obtain ⟨ps2, e1, _, _, g⟩ := rh.tb _ hm
    have e1' : H P = some (.tbl ps2) := e1
    rw [hP] at e1'
    cases e1'
    obtain ⟨c, q1, q2, _⟩ := g pos _ hc
    cases q1
    exact NdefX.codeO_at I.hok q2
  have rs : RelS X.K ρ H (some x :: List.replicate n none) (L2.start N [y]) := by
    have q := relS_start (N := N) (Rels.cons rx Rels.nil)
    rw [L.len] at q
    exact q
  have rc := run_lam (N := N) (ps := [v]) (us := [u]) (vs := [y]) (args := ⟨[u], []⟩) (Q := fun z H2 => ∃ ρ2, z = V.str key ∧ Le X.K ρ H ρ2 H2 ∧ RelH X.K cm ρ2 h2 H2) (E := E0) (CX := CX0) L.S hr.in1.in1 I.env0.in1.in1 hf hrec (.of_eq (L.bind _ _ _ _)) (.cons ru .nil) rfl
    fun hr' => ⟨_, L.body _ _ _ _ _ _ hr' gd, ρ, h, _, _, h2, rh, rs, e, fun ρ2 H2 z l rh2 rz => by
      cases rz
      exact ⟨ρ2, rfl, l, rh2⟩⟩
  refine wpAny_call (codeAny_mono rc fun r s2 hq => ?_)
  cases r with
  | error e => exact False.elim hq
  | ok fl =>
    cases fl with
    | ret u2 =>
      obtain ⟨z, H2, os, bare, un, hok2, rz, ρ2, rfl, l, rh2⟩ := hq
      obtain ⟨t, rfl⟩ := rz
      refine ⟨t, H2, ρ2, rfl, I.call' (ch := []) os un hok2 bare (fun b z => absurd z (by simp)), un, l, rh2, ?_⟩
      obtain ⟨more, hm2⟩ := un.tbls P ps hP
      obtain ⟨ps2, e1, e2, _, g⟩ := rh2.tb _ hm
      have e1' : H2 P = some (.tbl ps2) := e1
      rw [hm2] at e1'
      cases e1'
      exact ⟨_, hm2, e2, by rw [Array.toList_append]; exact among_pre hok hc⟩
    | next => exact False.elim hq
    | brk => exact False.elim hq
    | cont => exact False.elim hq
end
theorem keysK_cons {mb : ME} {n : Nat} {x : W} {r : List W} {ks : List Str} {h hE : Hw} (e : keysK mb n (x :: r) h = .ok ks hE) : ∃ y ys h2, ks = y :: ys ∧ mb (some x :: List.replicate n none) h = .ok (.str y) h2 ∧ keysK mb n r h2 = .ok ys hE := by
  obtain ⟨k, h2, e1, e2⟩ := bnd_ok e
  cases k with
  | str y =>
    obtain ⟨ys, h3, e3, e4⟩ := bnd_ok e2
    cases e4
    exact ⟨y, ys, h2, rfl, e1, e3⟩
  | _ => cases e2
theorem keysK_len {mb : ME} {n : Nat} : ∀ {ws : List W} {ks : List Str} {h hE : Hw}, keysK mb n ws h = .ok ks hE → ks.length = ws.length
  | [], ks, h, hE, e => by cases e; rfl
  | x :: r, ks, h, hE, e => by
    obtain ⟨y, ys, h2, rfl, _, e2⟩ := keysK_cons e
    rw [List.length_cons, List.length_cons, keysK_len e2]
section
variable {X : Cx} {cm : Cm} {pins : List (Addr × Obj)} {σ : L2.St} {H : Hp} {s : Shared} {k n : Nat} {f P c' : Addr} {pos : Pos} {params : Arguments} {body : Expr} {scope : Scope} {pm ctv : Value} {v : Str} {N : List Str} {mb : ME} {ρ : List Addr} {h hE : Hw} {l : Addr} {ws : List W} {xs : List V} {ks : List Str}
theorem sort_lam (I : Inv X pins σ H s) (hr : Room (k + 3) X.A) (gd : X.A.guards = some []) (L : LamT X cm k n params body scope v N mb) (hm : (P, X.env.qual ++ "<lambda>") ∈ cm.T) (hf : s.heap.get? f = some (PySem.W.kla_obj "<lambda>" (X.env.qual ++ "<lambda>") params body scope [] pm c' ctv))
    (nf : H f = none) (ff : f ∉ frs X.stack) (T : LamAt H P c' pos) (rh : RelH X.K cm ρ h H) (hs : SqL X.K H l xs) (rw' : Rels X.K ρ H ws xs) (e : keysK mb n ws h = .ok ks hE) {Q : VK} (kq : KE X.K cm ρ H (.ref hE.length) (hE ++ [.lst (sortWD ws (ks.map PyData.str))]) Q) :
    wpAny (model X.prog X.w) X.A (call (.builtin "sorted") [.ref l] [(Str.ofString "key", .ref f)]) (EP X pins σ Q) X.xe s := by
  obtain ⟨its, rv, hl, hz⟩ := I.list hs
  have lz : its.length ≤ sizeLine := by rw [← rv.length]; exact hz
  have lw : ws.length = its.length := by rw [rw'.length, rv.length]
  refine PySem.W.sorted_of_sort (vs := its) hl.isList lz (PyProof.Rows.ksk_s1 _ _) (fun _ => PyProof.Rows.ksk_l1 _ _) fun E' => ?_
  rw [PyProof.Rows.ksk_t1 f _]
  have ho := PySem.W.copyHeap_at s.heap its
  generalize ea : s.heap.objs.size + 1 = a at ho ⊢
  obtain ⟨e1, ho1⟩ : ∃ e1, ((PySem.W.copyHeap s.heap its).update a (Obj.mapSeq fun _ => (#[] : Array Value))).get? a = some (seqObj "list" #[] e1) := ⟨_, get?_update_seq ho fun _ => #[]⟩
  unfold ksk_tree
  refine wpAny_bind (listItems_at ho rfl ?_)
  refine wpAny_bind (listUpdate_at ho rfl ?_ (by rw [List.size_toArray]; exact lz) (Nat.zero_le _))
  refine wpAny_bind (seqEpoch_at ho1 rfl ?_)
  refine wpAny_bind (wpAny_newTuple ?_ (by show its.length ≤ _; exact lz))
  refine wpAny_bind (wpAny_newList ?_ (Nat.zero_le _))
  refine wpAny_holding ?_
  have oT := Heap.get?_push_of_some (seqObj "tuple" its.toArray 0) ho1
  have oA := Heap.get?_push_of_some (seqObj "list" #[] 0) oT
  have oK : (((((PySem.W.copyHeap s.heap its).update a (Obj.mapSeq fun _ => (#[] : Array Value))).push (seqObj "tuple" its.toArray 0)).push (seqObj "list" #[] 0))).get? (((PySem.W.copyHeap s.heap its).update a (Obj.mapSeq fun _ => (#[] : Array Value))).push (seqObj "tuple" its.toArray 0)).objs.size = some (seqObj "list" #[] 0) := Heap.get?_push_size _ rfl
  have ltK := Heap.lt_size oT
  have keep : ∀ b o, s.heap.get? b = some o → (PySem.W.sortingHeap (PySem.W.copyHeap s.heap its) a its).get? b = some o := fun b o q =>
    PySem.W.sortingHeap_old (by rw [← ea]; exact Nat.ne_of_lt (Nat.lt_succ_of_lt (Heap.lt_size q))) (PySem.W.copyHeap_old q)
  unfold PySem.W.sortingHeap at keep
  generalize eg : (((PySem.W.copyHeap s.heap its).update a (Obj.mapSeq fun _ => (#[] : Array Value))).push (seqObj "tuple" its.toArray 0)).push (seqObj "list" #[] 0) = g at oA oK keep ⊢
  generalize ekS : (((PySem.W.copyHeap s.heap its).update a (Obj.mapSeq fun _ => (#[] : Array Value))).push (seqObj "tuple" its.toArray 0)).objs.size = kS at oK ltK ⊢
  have geA : s.heap.objs.size ≤ a := by rw [← ea]; exact Nat.le_succ _
  have geK : s.heap.objs.size ≤ kS := Nat.le_trans geA (Nat.le_of_lt ltK)
  have neK : kS ≠ a := Nat.ne_of_gt ltK
  have fA := fresh_of (a := a) I geA
  have fK := fresh_of (a := kS) I geK
  have I0 : Inv X pins σ H { s with heap := g } := I.kept (t' := s.toks) keep
  unfold ksk_rest
  refine wpAny_bind (wpAny_rule ?_)
  first
    | rw [List.forIn_toArray]
    | (rw [← Array.forIn_toList]; simp only [List.toList_toArray])
    | rw [← Array.forIn_toList]
  refine wpAny_bind (ksk_fold (fun i s' => ∃ (ρ1 : List Addr) (h1 : Hw) (H1 : Hp) (kA : Array Value) (e2 : Nat), Inv X pins σ H1 s' ∧ Le X.K ρ H ρ1 H1 ∧ RelH X.K cm ρ1 h1 H1 ∧ H1 a = none ∧ H1 kS = none ∧ H1 f = none ∧ LamAt H1 P c' pos ∧
      s'.heap.get? f = some (PySem.W.kla_obj "<lambda>" (X.env.qual ++ "<lambda>") params body scope [] pm c' ctv) ∧ s'.heap.get? kS = some (seqObj "list" kA e2) ∧ s'.heap.get? a = some (seqObj "list" #[] e1) ∧
      EachIs (fun v k => ∃ t, v = Value.str k t) kA.toList (ks.take i) ∧ keysK mb n (ws.drop i) h1 = .ok (ks.drop i) hE) its 0 { s with heap := g }
    ⟨ρ, h, H, #[], 0, I0, .refl, rh, I.hok.fresh geA, I.hok.fresh geK, nf, T, keep _ _ hf, oK, oA, by rw [List.take_zero]; exact EachIs.nil, by simpa using e⟩ ?step ?done)
  case step =>
    rintro j x s' hx ⟨ρ1, h1, H1, kA, e2, I1, l1, rh1, na, nk, nf1, T1, of, ok, oa, ek, ke⟩
    simp only [Nat.zero_add] at ek ke ⊢
    have hj : j < its.length := (List.getElem?_eq_some_iff.mp hx).1
    have hjw : j < ws.length := by rw [lw]; exact hj
    obtain ⟨y, hy, rx⟩ := (rw'.mono l1).get (List.getElem?_eq_getElem hjw)
    obtain ⟨u, hu, ru⟩ := rv.get hy
    rw [hx] at hu
    cases hu
    rw [List.drop_eq_getElem_cons hjw] at ke
    obtain ⟨key, ys, h2, eks, em, ke2⟩ := keysK_cons ke
    have ekj : ks.take (j + 1) = ks.take j ++ [key] := by
      have z : ks[j]? = some key := by
        have := congrArg (fun l => l[0]?) eks
        simpa using this
      rw [List.take_add_one, z]
      rfl
    have eys : ys = ks.drop (j + 1) := by
      have := congrArg (fun l => l.drop 1) eks
      simpa [List.drop_drop, Nat.add_comm] using this.symm
    refine wpAny_bind (wpAny_attempt (wpAny_mono (lam_call I1 hr gd L hm of T1 rh1 rx ru em) (fun r s2 hr2 => ?_) fun _ _ hF => hF.elim))
    obtain ⟨t, H2, ρ2, rfl, I2, un, l2, rh2, T2⟩ := hr2
    try dsimp only
    have ok2 := un.keep _ _ ok nk (fK.stk I1) (by simp)
    have oa2 := un.keep _ _ oa na (fA.stk I1) (by simp)
    have of2 := un.keep _ _ of nf1 ff (by simp)
    have nk2 := un.free _ _ ok nk (by simp)
    have na2 := un.free _ _ oa na (by simp)
    have nf2 := un.free _ _ of nf1 (by simp)
    have s1 := Heap.SameBut.update s2.heap kS (Obj.mapSeq (·.push (Value.str key t)))
    obtain ⟨c2, hc2⟩ : ∃ c2, (s2.heap.update kS (Obj.mapSeq (·.push (Value.str key t)))).get? kS = some (seqObj "list" (kA.push (Value.str key t)) c2) := ⟨_, get?_update_seq ok2 (·.push (Value.str key t))⟩
    have hz1 : kA.size ≤ its.length := by
      have := ek.length
      rw [Array.length_toList, List.length_take] at this
      omega
    have nfk : f ≠ kS := Nat.ne_of_lt (Nat.lt_of_lt_of_le (Heap.lt_size hf) geK)
    refine wpAny_bind (listUpdate_at ok2 rfl ?_ (Nat.le_trans hz1 lz) (by rw [Array.size_push]; exact Nat.succ_le_succ (Nat.le_trans hz1 lz)))
    refine wpAny_pure ⟨rfl, ρ2, h2, H2, kA.push (Value.str key t), c2, inv_turn (t' := s2.toks) I2 fK nk2 (fun b o hb q => (s1.2 b hb).trans q), l1.trans l2, rh2, na2, nk2, nf2, T2, (s1.2 f nfk).trans of2, hc2, (s1.2 a neK.symm).trans oa2, ?_, ?_⟩
    · rw [ekj, Array.toList_push]
      exact PySem.W.each_snoc ⟨t, rfl⟩ ek
    · rw [← eys]
      exact ke2
  case done =>
    rintro s' ⟨ρ1, h1, H1, kA, e2, I1, l1, rh1, na, nk, nf1, T1, of, ok, oa, ek, ke⟩
    have lk := keysK_len e
    rw [Nat.zero_add, ← lw] at ek ke
    rw [List.take_of_length_le (Nat.le_of_eq lk)] at ek
    rw [List.drop_of_length_le (Nat.le_refl _), List.drop_of_length_le (Nat.le_of_eq lk)] at ke
    have eh : h1 = hE := by cases ke; rfl
    subst eh
    have lkx : xs.length = (ks.map PyData.str).length := by rw [List.length_map, lk, lw, rv.length]
    have mem : ∀ d ∈ ks.map PyData.str, ∃ x, d = .str x := fun d hd => by
      obtain ⟨x, _, rfl⟩ := List.mem_map.mp hd
      exact ⟨x, rfl⟩
    have al : AllAlike (ks.map PyData.str) := fun d hd d' hd' => by
      obtain ⟨x, rfl⟩ := mem d hd
      obtain ⟨x', rfl⟩ := mem d' hd'
      rfl
    have so : Sortable (ks.map PyData.str) := .inr fun d hd => by
      obtain ⟨x, rfl⟩ := mem d hd
      exact ⟨(fun z => nomatch z), fun _ z => nomatch z⟩
    have rd : EachIs (fun v k => ∃ as, Reads s'.heap v k as) kA.toList (ks.map PyData.str) := by
      have key : ∀ {as : List Value} {bs : List Str}, EachIs (fun v k => ∃ t, v = Value.str k t) as bs → EachIs (fun v k => ∃ as, Reads s'.heap v k as) as (bs.map PyData.str) := by
        intro as bs h
        induction h with
        | nil => exact .nil
        | cons r _ ih =>
          obtain ⟨t, rfl⟩ := r
          exact .cons ⟨[], .str _ _⟩ ih
      exact key ek
    have each : EachIs (fun (v : Value) (b : V × PyData) => RelV b.1 v) its (xs.zip (ks.map PyData.str)) := by
      have key : ∀ {ys : List V} {us : List Value} {ds : List PyData}, Vals ys us → ys.length = ds.length → EachIs (fun (v : Value) (b : V × PyData) => RelV b.1 v) us (ys.zip ds) := by
        intro ys us ds r
        induction r generalizing ds with
        | nil => intro _; exact .nil
        | cons q _ ih =>
          intro hl
          cases ds with
          | nil => cases hl
          | cons d ds => exact .cons q (ih (by simpa using hl))
      exact key rv lkx
    have hsz : kA.size = its.length := by
      have := ek.length
      rw [Array.length_toList] at this
      rw [this, lk, lw]
    refine wpAny_bind (listItems_at ok rfl ?_)
    refine PySem.W.keyH_end (κ := PySem.W.dataKind s'.heap (ks.map PyData.str)) (h₁ := hidT s'.heap (fun b => if b = kS then some (HO.own 0) else none)) (fun b o _ q => (of_hidT q).1) ?_ ok oa neK (PySem.W.SortsAt.data rd al so fun d hd => ?_) hsz lz fun h3 tk3 c3 k3 n3 => ⟨rfl, ?_⟩
    · cases q : (hidT s'.heap (fun b => if b = kS then some (HO.own 0) else none)).get? kS with
      | none => rfl
      | some o =>
        have z := (of_hidT q).2
        rw [if_pos rfl] at z
        cases z
    · obtain ⟨x, rfl⟩ := mem d hd
      exact hr.in1.in1.units0
    · have e2 : ((xs.zip (ks.map PyData.str)).map Prod.snd) = ks.map PyData.str := zip_snd xs _ lkx
      have eo : EachIs (fun (v : Value) (b : V × PyData) => RelV b.1 v) (PySem.W.sortVals (PySem.W.dataKind s'.heap (ks.map PyData.str)) false kA.toList its) ((xs.zip (ks.map PyData.str)).mergeSort (dataLe false Prod.snd)) :=
        PySem.W.keyedOut_each Prod.snd (by rw [e2]; exact ⟨s'.heap, kA.toList, al, rfl, rd⟩) each
      have es : (xs.zip (ks.map PyData.str)).mergeSort (dataLe false Prod.snd) = sortU leP (xs.zip (ks.map PyData.str)) := merge_sortU (le := leP) (fun a b c => leD_tr a.2 b.2 c.2) (fun a b => leD_tot a.2 b.2) _
      rw [es] at eo
      have vv := vals_each eo
      have len3 : ((sortU leP (xs.zip (ks.map PyData.str))).map (·.1)).length ≤ sizeLine := by
        rw [List.length_map, (sortU_perm leP _).length_eq, List.length_zip]
        omega
      refine ⟨.ref a, _, inv_two (t' := tk3) I1 fA fK na nk (fun b o hb hk q => k3 b o hb (hidT_get q (if_neg hk))) len3 vv n3, rfl, ?_⟩
      exact new_lst rh1 (sort_rels (rw'.mono l1) (by rw [List.length_map, lk])) na fun ρ' H' v l => kq ρ' H' v (l1.trans l)
end
theorem clo_nil {cells : List (Str × Addr)} {sc : Scope} (h : ∀ y ∈ sc.names, y.2 ≠ .free) : cloFrom cells sc.names [] = [] := by
  cases q : cloFrom cells sc.names [] with
  | nil => rfl
  | cons p r =>
    have hm : (p.1, p.2) ∈ cloFrom cells sc.names [] := by rw [q]; exact List.mem_cons_self
    rcases cloFrom_mem hm with hm | ⟨h1, _⟩
    · cases hm
    · exact absurd rfl (h _ h1)
/-- where the lambda's table stands -/
structure LamP (X : Cx) (cm : Cm) (c P : Addr) : Prop where
  tb : LamX.TabB X.base X.mg c P
  code : X.env.code = .ref c
  mem : (P, X.env.qual ++ "<lambda>") ∈ cm.T
  one : ∀ p ∈ cm.T, p.1 = P → p.2 = X.env.qual ++ "<lambda>"
theorem re_sortK {X : Cx} {cm : Cm} {xs : Expr} {params : Arguments} {body : Expr} {scope : Scope} {p lpos kpos pos : Pos} {c P : Addr} {k n : Nat} {v : Str} {N : List Str} {mx mb : ME} (hr : Room (k + 3) X.A) (gd : X.A.guards = some []) (hm : X.mg "sorted" = none) (ha : RE X cm xs mx) (LP : LamP X cm c P) (L : LamT X cm k n params body scope v N mb)
    (hg : Gl X "sorted" := by rfl) (hdef : defaultsOf params X.env = ([], []) := by rfl)
    (he : backTo pos (starEach [xs] X.env) = (false, eval xs X.env) :: backTo pos (starEach [] X.env) := by rfl) (hpl : (backTo pos (starEach [xs] X.env)).any (·.1) = false := by rfl) (hs' : starEach (xs :: []) X.env = (false, eval xs X.env) :: starEach [] X.env := by rfl) :
    RE X cm (.Call (.Name "sorted" p) [xs] [⟨some "key", .Lambda params body scope lpos, kpos⟩] pos) (mSortK mx mb n) := by
  refine ⟨fun pins s σ H Q I q => ?_⟩
  obtain ⟨ρ, h, sw, w, h', rh, rs, e, kq⟩ := q
  obtain ⟨x, h1, e1, e2⟩ := bnd_ok e
  split at e2
  rotate_left
  · cases e2
  rename_i ws hi
  obtain ⟨ks, hE, ek, e3⟩ := bnd_ok e2
  cases e3
  have hN : LamT X cm k n params body scope v N mb := L
  refine wpAny_Call_Name_kw (ld_blt I hg hm rfl ?_ (by decide) (by decide))
  refine PyProof.Rows.callWith_kw (thn ((ra_cons ha ra_nil hs').run pos pins s σ H (fun vs H1 => ∃ ρ1 y, Le X.K ρ H ρ1 H1 ∧ RelH X.K cm ρ1 h1 H1 ∧ vs = [y] ∧ Rel X.K ρ1 H1 x y) I ⟨ρ, h, sw, [x], h1, rh, rs, ?_, fun ρ1 H1 vs l rh1 rx => ?_⟩) fun us s1 ⟨vs, H1, I1, r1, ρ1, y, l1, rh1, ev, rx⟩ => ?_) he hpl rfl rfl
  · show bnd (mx sw) _ h = _
    unfold bnd
    rw [e1]
    rfl
  · cases rx with
    | cons r t =>
      cases t
      exact ⟨ρ1, _, l, rh1, rfl, r⟩
  · subst ev
    show wpAny _ _ (evalAll [(do let v ← eval (.Lambda params body scope lpos) X.env; standAt pos; pure v)]) _ _ s1
    refine wpAny_evalAll_cons (wpAny_bind (lam_make3 I1 LP.tb LP.code LP.mem LP.one rh1.tb.tabs hdef ?_ fun f c' pm ctv H2 s2 I2 eN T2 hf nf ff L2 => wpAny_bind (wpAny_standAt (wpAny_pure (wpAny_evalAll_nil ?_)))))
    · have nc : closureFor scope X.env = pure (cloFrom X.env.cells scope.names []) := closure_ok fun y hy hf => absurd hf (L.S.nofree y hy)
      rw [nc, clo_nil L.S.nofree]
    · have rh2 := rh1.lam eN T2 I2.hok
      obtain ⟨l, vs, rfl, hs, rxs⟩ := items_of rh2 (rx.mono (le_extN eN)) hi
      obtain rfl := Vals.ref1 r1
      exact sort_lam I2 hr gd hN LP.mem hf nf ff L2 rh2 hs rxs ek fun ρ' H' v l => kq ρ' H' v ((l1.trans (le_extN eN)).trans l)
end EL
namespace EL
open PySem PySem.Spec L2
open PyProof.Rows hiding St
section
variable {P : Program} {w : World} {K : PySem.W.Frag} {mg : Str → Option Value} {base : Heap}
theorem fnG_at {CX : CXT} {k : Nat} {f : Addr} {x qual : Str} {st : Stmt} {oc : Value} {od an : Option Addr} {osl : Array (Option Value)} {kV doc pm cdv ct : Value} {N ps : List Str} {sp : Sp} (lk : K.lookup f = some ⟨oc, od, .func (PySem.W.fnOf x qual (defArgs st) (defBody st) (defScope st) .none kV doc pm an cdv ct), osl⟩) (hcd : PySem.W.codeIn K cdv qual = true)
    (S : FnScope N ps (defScope st)) (len : ∀ vs H Q E, sp vs H Q E → vs.length = ps.length)
    (body : ∀ (A : Around) (outer : List Env) (s : Shared) (H : Hp) (vs : List V) (Q : VK) (E : XK), Room k (A.deeper (envOfC qual (defScope st) s.heap.objs.size f cdv)) → (A.deeper (envOfC qual (defScope st) s.heap.objs.size f cdv)).guards = some [] → sp vs H Q E →
      ∃ t, PSs (cxOf CX P w K mg base N qual (defScope st) f cdv A outer s H E) (defBody st) t ∧ t { nx := fun _ H' => Q .non H', rt := Q } (start N vs) H) : FnG P w K mg base CX (k + 1) f (PySem.W.fnOf x qual (defArgs st) (defBody st) (defScope st) .none kV doc pm an cdv ct) ps sp := by
  refine ⟨len, fun A outer s H args us vs Q E hr gd e0 hb r wish => ?_⟩
  have few := len vs H Q E wish
  have KX : K.In s.heap := e0.mod.kin.keeps fun b o e => (e0.bs b o e).1
  have room : s.heap.NoLimit := e0.mod.nolimit.keeps fun b o e => (e0.bs b o e).1
  have kinds : ∀ y ∈ ps.zip us, (defScope st).names.lookup y.1 = some .local ∨ ((defScope st).names.lookup y.1 = some .cell ∧ ((cellsFrom (s.heap.objs.size + 1) (defScope st).names []).lookup y.1).isSome = true) := fun ⟨n, v⟩ hy =>
    (S.par n (List.of_mem_zip hy).1).elim .inl fun q => .inr ⟨q, PySem.W.cellsFrom_some _ _ _ (.inl q)⟩
  refine codeAny_call_function hr.depth (KX _ _ lk) rfl S.co S.gen rfl (PySem.W.codeRec_of KX hcd) (hb _ _ _ _ ?_)
  refine wpAny_newFunctionEnv_cells S.kind kinds fun env he s1 z => ?_
  subst he
  refine ⟨room.keeps z.toInCall.keep, codeAny_func ?_⟩
  obtain ⟨t, ht, hq⟩ := body A outer s H vs Q E (hr.deeper _) gd wish
  have I : Inv (cxOf CX P w K mg base N qual (defScope st) f cdv A outer s H E) [] (start N vs) H s1 := inv_start S hr.hd e0 few r z
  refine wpAny_mono (ht.run [] s1 (start N vs) H _ I hq) (fun fl s' back => ?_) fun e s' back => back
  rcases fl with _ | _ | _ | u
  · obtain ⟨σ', H', J, q⟩ := back
    exact ⟨V.non, H', J.os, J.bare, J.base, J.hok, rfl, q⟩
  · obtain ⟨_, _, _, q⟩ := back
    exact q.elim
  · obtain ⟨_, _, _, q⟩ := back
    exact q.elim
  · obtain ⟨v, σ', H', J, rv, q⟩ := back
    exact ⟨v, H', J.os, J.bare, J.base, J.hok, rv, q⟩
theorem efnGT {x qual : Str} {st : Stmt} {f c : Addr} {fd : FuncData} {N ps : List Str} {k : Nat} {cm : Cm} {m : MS} (F : Fun K x qual st f fd) (hcd : fd.code = .ref c) (S : FnScope N ps (defScope st))
    (hb : ∀ (A : Around) (outer : List Env) (s : Shared) (H : Hp) (E : XK), Room k (A.deeper (envOfC qual (defScope st) s.heap.objs.size f (.ref c))) → (A.deeper (envOfC qual (defScope st) s.heap.objs.size f (.ref c))).guards = some [] → RSs (cxOf CX0 P w K mg base N qual (defScope st) f (.ref c) A outer s H E).nox cm (defBody st) m) :
    FnG P w K mg base CX0 (k + 1) f fd ps (spM K cm (mFn ps.length N.length m)) := by
  obtain ⟨oc, od, kV, doc, pm, an, cdv, ct, osl, rfl, lk, hcode⟩ := F.ex
  obtain rfl : cdv = .ref c := hcd
  refine fnG_at lk hcode S (fun vs H Q E h => ?_) fun A outer s H vs Q E hr gd h => ?_
  · obtain ⟨ρ, h, ws, w, h', rh, rs, e, k⟩ := h
    unfold mFn at e
    split at e
    · rw [← rs.length]
      assumption
    · cases e
  · refine ⟨_, PSs.nox (hb A outer s H E hr gd), ?_⟩
    obtain ⟨ρ, h, ws, w, h', rh, rs, e, k⟩ := h
    unfold mFn at e
    split at e
    · rename_i hl
      obtain ⟨fl, h1, e1, e2⟩ := bnd_ok e
      refine ⟨ρ, h, _, fl, h1, rh, ?_, e1, ?_⟩
      · have q := relS_start (N := N) rs
        rw [hl] at q
        exact q
      · cases fl with
        | rt w =>
          cases e2
          exact k
        | nx s =>
          cases e2
          exact fun ρ' H' σ' l rh' _ => k ρ' H' .non l rh' .non
        | bk s => cases e2
        | ct s => cases e2
    · cases e
end
def spLawT (K : PySem.W.Frag) (cs : List (Addr × Addr)) : Sp := fun vs H Q _ => ∃ (a : Addr) (ns : List Int), vs = [.ref a] ∧ (∀ p ∈ cs, H p.2 = some (.tbl #[])) ∧ SqP K H a (ns.map V.int) ∧ ns.length ≤ 63 ∧ ∀ H', Q (.bl true) H'
theorem law_impGT {P : Program} {w : World} {K : PySem.W.Frag} {mg : Str → Option Value} {base : Heap} {cm : Cm} {k : Nat} {f : Addr} {fd : FuncData} {ps : List Str} {m : List W → M W} {cs : List (Addr × Addr)} (F : FnG P w K mg base CX0 k f fd ps (spM K cm m))
    (T : ∀ ns : List Int, ns.length ≤ 63 → ∃ h', m [.rol (ns.map W.int)] [] = .ok (.bl true) h') (hT : ∀ p ∈ cm.T, ∃ c ∈ cs, c.2 = p.1) : FnG P w K mg base CX0 k f fd ps (spLawT K cs) := F.imp fun vs H Q E h => by
  obtain ⟨a, ns, rfl, hC, hp, hl, q⟩ := h
  obtain ⟨h', e⟩ := T ns hl
  refine ⟨[], [], [.rol (ns.map W.int)], .bl true, h', ⟨rfl, .nil, fun i o a e => by simp at e, fun p hp => ?_⟩, .cons (.rol hp (.ints ns)) .nil, e, fun ρ' H' v l rh r => ?_⟩
  · obtain ⟨c, hc, e⟩ := hT p hp
    refine ⟨#[], by rw [← e]; exact hC c hc, True.intro, by simp, fun pos cv hcv => ?_⟩
    have z : codeAmong pos [] = some cv := hcv
    simp [codeAmong] at z
  · cases r
    exact q H'
/-- what is known of the law's def at the head's heap -/
def LawTab (l : PySem.W.OpenLaw) (w : World) (K : PySem.W.Frag) (CX : CXT) (k : Nat) (x : Str) (mg : Str → Option Value) (fa : Addr) (h : Heap) : Prop :=
  ∃ (fd : FuncData) (cs : List (Addr × Addr)), (∀ p ∈ cs, h.get? p.2 = some { cls := .none, data := .fields #[] }) ∧ (∀ p ∈ cs, K.lookup p.2 = none) ∧ (∀ p ∈ cs, PySem.W.CodeHd h p.1 p.2) ∧ (∀ (s : Shared) (u : Value), BindsTo s fd ⟨[u], []⟩ [(x, u)]) ∧
    ∀ base : Heap, K.In base → base.Ns mainGlobals mg → (∀ p ∈ cs, LamX.TabB base mg p.1 p.2) → FnG l.prog w K mg base CX k fa fd [x] (spLawT K cs)
section
variable {P : Program} {w : World} {K : PySem.W.Frag} {mg mb : Str → Option Value} {CX : CXT} {k : Nat} {fa a : Addr} {fd : FuncData} {x : Str} {t : Shared} {vs : List Value} {ns : List Int} {cs : List (Addr × Addr)}
theorem core_GT (KX : K.In t.heap) (hns : t.heap.Ns mainGlobals mg) (hb : t.heap.Ns builtinsNs mb) (hbb : ∀ x : Str, x ≠ "__name__" → mb x = bootBuiltins x) (hlim : t.heap.NoLimit) (hg : t.gens = #[]) (ha : t.heap.get? a = some { cls := .type "list", data := .seq vs.toArray }) (hr : Room k callerA)
    (hT : ∀ p ∈ cs, t.heap.get? p.2 = some { cls := .none, data := .fields #[] }) (C : ∀ p ∈ cs, PySem.W.CodeHd t.heap p.1 p.2) (hbm : ∃ (bm : Addr) (ob : Obj), mg "__builtins__" = some (.ref bm) ∧ bm ≠ builtinsNs ∧ t.heap.get? bm = some ob ∧ ob.cls = .type "module" ∧ ob.dict = some builtinsNs ∧ ob.data = .plain)
    (F : ∀ base : Heap, K.In base → base.Ns mainGlobals mg → (∀ p ∈ cs, LamX.TabB base mg p.1 p.2) → FnG P w K mg base CX k fa fd [x] (spLawT K cs)) (hbind : ∀ (s : Shared) (u : Value), BindsTo s fd ⟨[u], []⟩ [(x, u)]) (hCX : ∀ H e s', CX [] H t (fun _ _ _ => False) e s' → False)
    (H : Hp) (hO : ∀ b, H b = none ∨ (∃ o xs, H b = some (.frz o (.lst xs)) ∧ b = a) ∨ (H b = some (.tbl #[]) ∧ ∃ p ∈ cs, p.2 = b)) (hok : HOk P w H t.heap) (hK : ∀ b, H b ≠ none → K.lookup b = none) (hC : ∀ p ∈ cs, H p.2 = some (.tbl #[])) (hp : SqP K H a (ns.map V.int)) (hl : ns.length ≤ 63) :
    codeAny (model P w) callerA (.call (.ref fa) ⟨[.ref a], []⟩) (Comes t) t := by
  have low : ∀ {b : Addr} {o : Obj}, t.heap.get? b = some o → H b = none → (hidT t.heap H).get? b = some o := fun e n => hidT_get e n
  have free : ∀ {b : Addr} {o : Obj}, t.heap.get? b = some o → (∀ xs n, o.data ≠ .seq xs n) → (o.data ≠ .fields #[]) → H b = none := fun {b o} e d1 d2 => by
    rcases hO b with z | ⟨ob, xs, _, rfl⟩ | ⟨_, p, hm, rfl⟩
    · exact z
    · rw [ha] at e
      cases e
      exact absurd rfl (d1 _ _)
    · rw [hT p hm] at e
      cases e
      exact absurd rfl d2
  have nsp : ∀ {b : Addr} {m : Str → Option Value}, t.heap.Ns b m → (hidT t.heap H).Ns b m := fun {b m} z => by
    obtain ⟨o, es, ep, e, d, r⟩ := z
    exact ⟨o, es, ep, low e (free e (fun xs n z => by rw [d] at z; cases z) (fun z => by rw [d] at z; cases z)), d, r⟩
  have kin : K.In (hidT t.heap H) := fun b o e => by
    refine low (KX b o e) ?_
    by_cases q : H b = none
    · exact q
    · rw [hK b q] at e
      cases e
  have lim : (hidT t.heap H).NoLimit := by
    obtain ⟨mc, h1, h2⟩ := hlim
    exact ⟨mc, nsp h1, h2⟩
  have tb : ∀ p ∈ cs, LamX.TabB (hidT t.heap H) mg p.1 p.2 := fun p hm => by
    refine ⟨?_, ?_, fun z => ?_⟩
    · obtain ⟨o, us, f1, f2, f3, f4, f5, f6, f7, e1, r1, r2, r3, r⟩ := C p hm
      exact ⟨o, us, f1, f2, f3, f4, f5, f6, f7, low e1 (free e1 (fun xs n z => by rw [r2] at z; cases z) (fun z => by rw [r2] at z; cases z; simp at r3)), r1, r2, r3, r⟩
    · obtain ⟨bm, ob, b1, b2, b3, b4, b5, b6⟩ := hbm
      refine ⟨bm, ob, b1, b2, fun q => ?_, fun q => ?_, low b3 (free b3 (fun xs n z => by rw [b6] at z; cases z) (fun z => by rw [b6] at z; cases z)), b4, b5, b6⟩
      · obtain ⟨o, es, ep, e, hd, _⟩ := hns
        rw [q, e] at b3
        cases b3
        rw [hd] at b6
        cases b6
      · rw [q, hT p hm] at b3
        cases b3
        cases b6
    · obtain ⟨o, es, ep, e, hd, _⟩ := hns
      rw [z, hT p hm] at e
      cases e
      cases hd
  have e0 : Env0 P w K mg (hidT t.heap H) callerA [] t H :=
    ⟨rfl, ⟨kin, nsp hns, ⟨mb, nsp hb, hbb⟩, lim⟩, fun b o e => of_hidT e, Nat.le_of_eq (hidT_size _ _), trivial, (fun b z => by cases (show b ∈ ([] : List Addr) from z)), hok, .of_eq hg⟩
  have go := (F _ kin (nsp hns) tb).run callerA [] t H ⟨[.ref a], []⟩ [.ref a] [.ref a] (fun v _ => v = .bl true) (fun _ _ _ => False) hr rfl e0 (hbind t (.ref a)) (.cons rfl .nil) ⟨a, ns, rfl, hC, hp, hl, fun _ => rfl⟩
  refine codeAny_mono go fun r s' back => ?_
  rcases r with e | fl
  · exact (hCX H e s' back).elim
  rcases fl with _ | _ | _ | u
  · exact back.elim
  · exact back.elim
  · exact back.elim
  obtain ⟨v, H', os, bare, un, hok', rv, ev⟩ := back
  have ev' : v = .bl true := ev
  subst ev'
  obtain rfl : u = Value.bool true := rv
  have was : ∀ b o, t.heap.get? b = some o → s'.heap.get? b = some o ∨ (H b = some (.tbl #[]) ∧ ∃ p ∈ cs, p.2 = b) := fun b o e => by
    rcases hO b with z | ⟨ob, xs, z, _⟩ | z
    · exact .inl (un.keep b o e z (fun m => by cases (show b ∈ ([] : List Addr) from m)) (fun m => by cases m))
    · obtain ⟨e1, _⟩ := hok b _ z
      obtain ⟨e2, _⟩ := hok' b _ (un.frzs b ob _ z)
      rw [e] at e1
      cases e1
      exact .inl e2
    · exact .inr z
  have grew : ∀ b, H b = some (.tbl #[]) → ∃ more : Array Value, s'.heap.get? b = some { cls := .none, data := .fields more } := fun b z => by
    obtain ⟨more, q⟩ := un.tbls b #[] z
    exact ⟨_, hok' b _ q⟩
  refine ⟨rfl, ⟨fun b o e => ?_, fun b o e => ?_⟩, os, bare⟩
  · rcases was b o e with z | ⟨z, p, hm, rfl⟩
    · exact .inl z
    · obtain ⟨more, q⟩ := grew _ z
      have e1 := hT p hm
      rw [e] at e1
      cases e1
      exact .inr (.inl ⟨((C p hm).tab (hT p hm)).isCodeTable, rfl, #[], more, rfl, by rw [Array.empty_append]; exact q⟩)
  · rcases was b o e with z | ⟨z, _⟩
    · exact ⟨o, z⟩
    · obtain ⟨more, q⟩ := grew b z
      exact ⟨_, q⟩
theorem call_GT (KX : K.In t.heap) (hns : t.heap.Ns mainGlobals mg) (hb : t.heap.Ns builtinsNs mb) (hbb : ∀ x : Str, x ≠ "__name__" → mb x = bootBuiltins x) (hlim : t.heap.NoLimit) (hg : t.gens = #[]) (ha : t.heap.get? a = some { cls := .type "list", data := .seq vs.toArray }) (hi : IntsAre vs ns) (hl : ns.length ≤ 63) (hr : Room k callerA)
    (hT : ∀ p ∈ cs, t.heap.get? p.2 = some { cls := .none, data := .fields #[] }) (nT : ∀ p ∈ cs, K.lookup p.2 = none) (C : ∀ p ∈ cs, PySem.W.CodeHd t.heap p.1 p.2) (hbm : ∃ (bm : Addr) (ob : Obj), mg "__builtins__" = some (.ref bm) ∧ bm ≠ builtinsNs ∧ t.heap.get? bm = some ob ∧ ob.cls = .type "module" ∧ ob.dict = some builtinsNs ∧ ob.data = .plain)
    (F : ∀ base : Heap, K.In base → base.Ns mainGlobals mg → (∀ p ∈ cs, LamX.TabB base mg p.1 p.2) → FnG P w K mg base CX k fa fd [x] (spLawT K cs)) (hbind : ∀ (s : Shared) (u : Value), BindsTo s fd ⟨[u], []⟩ [(x, u)]) (hCX : ∀ H e s', CX [] H t (fun _ _ _ => False) e s' → False) :
    codeAny (model P w) callerA (.call (.ref fa) ⟨[.ref a], []⟩) (Comes t) t := by
  have rv := vals_ints hi
  have lv := hi.length
  have hz : ns.length ≤ sizeLine := Nat.le_trans hl (by decide)
  have aT : ∀ p ∈ cs, p.2 ≠ a := fun p hm z => by
    have q := hT p hm
    rw [z, ha] at q
    have d2 : Data.seq vs.toArray _ = Data.fields #[] := congrArg Obj.data (Option.some.inj q)
    cases d2
  by_cases hk : K.lookup a = none
  · let H : Hp := fun b => if b = a then some (.frz { cls := .type "list", data := .seq vs.toArray } (.lst (ns.map V.int))) else if b ∈ cs.map (·.2) then some (.tbl #[]) else none
    have atA : H a = some (.frz { cls := .type "list", data := .seq vs.toArray } (.lst (ns.map V.int))) := if_pos rfl
    have atT : ∀ p ∈ cs, H p.2 = some (.tbl #[]) := fun p hm => (if_neg (aT p hm)).trans (if_pos (List.mem_map.mpr ⟨p, hm, rfl⟩))
    have cas : ∀ b, H b = none ∨ b = a ∨ ∃ p ∈ cs, p.2 = b := fun b => by
      by_cases z : b = a
      · exact .inr (.inl z)
      · by_cases y : b ∈ cs.map (·.2)
        · obtain ⟨p, hm, e⟩ := List.mem_map.mp y
          exact .inr (.inr ⟨p, hm, e⟩)
        · exact .inl ((if_neg z).trans (if_neg y))
    refine core_GT KX hns hb hbb hlim hg ha hr hT C hbm F hbind hCX H (fun b => ?_) (fun b u z => ?_) (fun b z => ?_) atT (.inl ⟨_, atA⟩) hl
    · rcases cas b with z | rfl | ⟨p, hm, rfl⟩
      · exact .inl z
      · exact .inr (.inl ⟨_, _, atA, rfl⟩)
      · exact .inr (.inr ⟨atT p hm, p, hm, rfl⟩)
    · rcases cas b with y | rfl | ⟨p, hm, rfl⟩
      · rw [y] at z
        cases z
      · rw [atA] at z
        cases z
        exact ⟨ha, by rw [List.length_map]; exact hz, vs, _, rv, ha⟩
      · rw [atT p hm] at z
        cases z
        exact hT p hm
    · rcases cas b with y | rfl | ⟨p, hm, rfl⟩
      · exact absurd y z
      · exact hk
      · exact nT p hm
  · obtain ⟨o, ho⟩ := Option.ne_none_iff_exists'.mp hk
    have e := KX a o ho
    rw [ha] at e
    cases e
    let H : Hp := fun b => if b ∈ cs.map (·.2) then some (.tbl #[]) else none
    have atT : ∀ p ∈ cs, H p.2 = some (.tbl #[]) := fun p hm => if_pos (List.mem_map.mpr ⟨p, hm, rfl⟩)
    have cas : ∀ b, H b = none ∨ ∃ p ∈ cs, p.2 = b := fun b => by
      by_cases y : b ∈ cs.map (·.2)
      · obtain ⟨p, hm, e⟩ := List.mem_map.mp y
        exact .inr ⟨p, hm, e⟩
      · exact .inl (if_neg y)
    refine core_GT KX hns hb hbb hlim hg ha hr hT C hbm F hbind hCX H (fun b => ?_) (fun b u z => ?_) (fun b z => ?_) atT (.inr ⟨_, vs.toArray, _, ho, rfl, rfl, rfl, by rw [List.size_toArray, lv]; exact hz, by simpa using rv⟩) hl
    · rcases cas b with z | ⟨p, hm, rfl⟩
      · exact .inl z
      · exact .inr (.inr ⟨atT p hm, p, hm, rfl⟩)
    · rcases cas b with y | ⟨p, hm, rfl⟩
      · rw [y] at z
        cases z
      · rw [atT p hm] at z
        cases z
        exact hT p hm
    · rcases cas b with y | ⟨p, hm, rfl⟩
      · exact absurd y z
      · exact nT p hm
end
/-- the end of a law whose defs make lambdas: the tables that the head leaves are empty -/
theorem walk_tabs {l : PySem.W.OpenLaw} {k : Nat} {q : Program} {loose : List Str} {XP : (Str → Option Value) → Heap → Prop} {YP : World → Heap → Prop} {d : DefRec} {K : Params → PySem.W.Frag} {CX : World → CXT} {x : Str}
    (most : l.most = some 63) (plain : d.params.defaults = []) (room : Room k callerA) (written : ∀ (w : World) (h : Heap), YP w h → (K w.params).In h)
    (F : ∀ (w : World) (mg : Str → Option Value) (fa : Addr) (h : Heap), (K w.params).In h → h.Ns mainGlobals mg → mg d.name = some (.ref fa) →
      (∀ (y : Str) (c P : Addr), ((recsOf q).find? fun e => e.name == y).isSome = true → PySem.W.tabIn (K w.params) y = some (c, P) → PySem.W.CodeHd h c P ∧ h.get? P = some { cls := .none, data := .fields #[] }) → LawTab l w (K w.params) (CX w) k x mg fa h)
    (calm : ∀ (w : World) (H : Hp) (s : Shared) (e : Value) (s' : Shared), CX w [] H s (fun _ _ _ => False) e s' → False) : PySem.W.WalkO q loose XP YP l.row.toRowW d [] (fun f vs => PySem.call f vs) := by
  refine Att.attach_call most plain fun w s0 s1 mg mb fa o pm cd doc a vs ns G Y ho hd hcd hmg hobj hints hlen hg => ?_
  have KX := written w _ Y
  obtain ⟨fd, cs, hT, nT, C, hb, hF⟩ := F w mg fa _ KX G.T.g hmg fun y c P h1 h2 => by
    obtain ⟨d', hd'⟩ := Option.isSome_iff_exists.mp h1
    exact PySem.W.tab_of G.T KX hd' h2
  exact call_GT KX G.T.g G.T.b G.T.builtins G.T.nolimit hg hobj hints hlen room hT nT C G.T.bmain hF hb fun H e s' => calm w H s1 e s'
/-- one table, by what is written of it -/
theorem tab_by {K : PySem.W.Frag} {x : Str} {f c P : Addr} {oc e : Value} {od dd : Option Addr} {fd : FuncData} {osl sl : Array (Option Value)} {vs : Array Value} (h1 : PySem.W.nsIn K mainGlobals x = some (some (.ref f))) (h2 : K.lookup f = some ⟨oc, od, .func fd, osl⟩) (h3 : fd.code = .ref c) (h4 : K.lookup c = some ⟨e, dd, .fields vs, sl⟩)
    (h5 : (vs[11]? : Option Value) = some (.ref P)) : PySem.W.tabIn K x = some (c, P) := by
  unfold PySem.W.tabIn
  simp only [h1, h2, h3, h4, h5]
end EL
namespace EL
open PySem PySem.Spec L2
open PyProof.Rows hiding St
theorem cr_strD {X : Cx} (gd : X.A.guards = some []) (hu : X.A.units + 65 < cLine) : CallR X (.type "str") (rReprD X.K) := by
  intro pins s σ H xs us Q I r h
  obtain ⟨a, d, rfl, dp, hs, dl, nd, sz, q⟩ := h
  obtain ⟨u, rfl, ru⟩ := Vals.one r
  obtain rfl : u = Value.ref a := ru
  obtain ⟨as, rd⟩ := Dp.reads I d (.ref a) (.ref a) dp rfl
  exact PySem.str_of_reads rd hs (fun z => by rw [nd] at z; cases z) gd (by omega) (fun _ _ e => e) (fun h' t tk hk => ⟨.str d.shown, H, I.kept (t' := tk) hk, ⟨_, rfl⟩, q⟩) sz
def bStrD : List W → M W
  | [.ref p] => bReprD [.ref p]
  | _ => bad
theorem wStrD {X : Cx} {cm : Cm} : CallW X.K cm (rReprD X.K) bStrD := by
  intro ρ h H ws vs z h' Q rh r e k
  unfold bStrD at e
  split at e
  · rename_i p
    unfold bReprD at e
    dsimp only at e
    split at e
    · rename_i d hd
      split at e
      · rename_i hc
        cases e
        obtain ⟨v, rfl, rv⟩ := one_of r
        cases rv with
        | @ref p a hp => exact ⟨a, d, rfl, toD_dp rh 8 _ _ d (.ref hp) hd, hc.1, hc.2.1, hc.2.2.1, by rw [← lim_eq]; exact hc.2.2.2, k.at rh (.str _)⟩
      · cases e
    · cases e
  · cases e
end EL
namespace EL.Pu
open PySem PySem.Spec L2 EL
open PyProof.Rows hiding St
inductive T where
  | non | bl (b : Bool) | int (i : Int) | str (x : Str)
  | tup (xs : List T) | lst (xs : List T) | rol (xs : List T)
  | dic (kvs : List (Key × T)) | dct (kvs : List (List Key × T))
  | st (ks : List Str) | sT (ks : List NestedKey)
  | ins (C : Str) (fs : List (Str × T))
  | err (C f : Str) (t : T)
instance : Inhabited T := ⟨.non⟩
mutual
/-- the tree t lies at w, by places outside X -/
inductive Rep (h : Hw) (X : Nat → Prop) : T → W → Prop where
  | non : Rep h X .non .non
  | bl (b : Bool) : Rep h X (.bl b) (.bl b)
  | int (i : Int) : Rep h X (.int i) (.int i)
  | str (x : Str) : Rep h X (.str x) (.str x)
  | tup {ts : List T} {ws : List W} (r : Reps h X ts ws) : Rep h X (.tup ts) (.tup ws)
  | rol {ts : List T} {ws : List W} (r : Reps h X ts ws) : Rep h X (.rol ts) (.rol ws)
  | ref {t : T} {i : Nat} {o : O} (n : ¬ X i) (e : h[i]? = some o) (r : Orp h X t o) : Rep h X t (.ref i)
inductive Reps (h : Hw) (X : Nat → Prop) : List T → List W → Prop where
  | nil : Reps h X [] []
  | cons {t : T} {w : W} {ts : List T} {ws : List W} (r : Rep h X t w) (rs : Reps h X ts ws) : Reps h X (t :: ts) (w :: ws)
/-- the tree t is the object o -/
inductive Orp (h : Hw) (X : Nat → Prop) : T → O → Prop where
  | lst {ts : List T} {ws : List W} (r : Reps h X ts ws) : Orp h X (.lst ts) (.lst ws)
  | dK {kvs : List (Key × T)} {kws : List (Key × W)} (k : kvs.map (·.1) = kws.map (·.1)) (r : Reps h X (kvs.map (·.2)) (kws.map (·.2))) : Orp h X (.dic kvs) (.dK kws)
  | dF {kvs : List (Key × T)} {kws : List (Key × W)} (k : kvs.map (·.1) = kws.map (·.1)) (r : Reps h X (kvs.map (·.2)) (kws.map (·.2))) : Orp h X (.dic kvs) (.dF kws)
  | dT {kvs : List (List Key × T)} {kws : List (List Key × W)} (k : kvs.map (·.1) = kws.map (·.1)) (r : Reps h X (kvs.map (·.2)) (kws.map (·.2))) : Orp h X (.dct kvs) (.dT kws)
  | dU {kvs : List (List Key × T)} {kws : List (List Key × W)} (k : kvs.map (·.1) = kws.map (·.1)) (r : Reps h X (kvs.map (·.2)) (kws.map (·.2))) : Orp h X (.dct kvs) (.dU kws)
  | st (ks : List Str) : Orp h X (.st ks) (.st ks)
  | sT (ks : List NestedKey) : Orp h X (.sT ks) (.sT ks)
  | ins {C : Str} {fs : List (Str × T)} {fw : List (Str × W)} (k : fs.map (·.1) = fw.map (·.1)) (r : Reps h X (fs.map (·.2)) (fw.map (·.2))) : Orp h X (.ins C fs) (.ins C fw)
  | err {C f : Str} {t : T} {w : W} (r : Rep h X t w) : Orp h X (.err C f t) (.xc C f w)
end
def unl : O → Bool
  | .dF _ => false
  | .dU _ => false
  | _ => true
/-- alike, but for a lock -/
inductive Sim : O → O → Prop where
  | refl (o : O) : Sim o o
  | kf (kws : List (Key × W)) : Sim (.dK kws) (.dF kws)
  | fk (kws : List (Key × W)) : Sim (.dF kws) (.dK kws)
  | tu (kws : List (List Key × W)) : Sim (.dT kws) (.dU kws)
  | ut (kws : List (List Key × W)) : Sim (.dU kws) (.dT kws)
mutual
theorem Rep.up {h h' : Hw} {X Y : Nat → Prop} (hY : ∀ j, Y j → ¬ X j → h[j]? = none) (hh : ∀ (j : Nat) (o : O), ¬ X j → h[j]? = some o → ∃ o', h'[j]? = some o' ∧ Sim o o') : ∀ {t : T} {w : W}, Rep h X t w → Rep h' Y t w
  | _, _, .non => .non
  | _, _, .bl b => .bl b
  | _, _, .int i => .int i
  | _, _, .str x => .str x
  | _, _, .tup r => .tup (Reps.up hY hh r)
  | _, _, .rol r => .rol (Reps.up hY hh r)
  | _, _, .ref n e r => by
    obtain ⟨o', e', s⟩ := hh _ _ n e
    have q := Orp.up hY hh r
    refine .ref (fun z => ?_) e' ?_
    · rw [hY _ z n] at e
      cases e
    · cases s with
      | refl => exact q
      | kf kws => cases q with | dK k r => exact .dF k r
      | fk kws => cases q with | dF k r => exact .dK k r
      | tu kws => cases q with | dT k r => exact .dU k r
      | ut kws => cases q with | dU k r => exact .dT k r
theorem Reps.up {h h' : Hw} {X Y : Nat → Prop} (hY : ∀ j, Y j → ¬ X j → h[j]? = none) (hh : ∀ (j : Nat) (o : O), ¬ X j → h[j]? = some o → ∃ o', h'[j]? = some o' ∧ Sim o o') : ∀ {t : List T} {w : List W}, Reps h X t w → Reps h' Y t w
  | _, _, .nil => .nil
  | _, _, .cons r rs => .cons (Rep.up hY hh r) (Reps.up hY hh rs)
theorem Orp.up {h h' : Hw} {X Y : Nat → Prop} (hY : ∀ j, Y j → ¬ X j → h[j]? = none) (hh : ∀ (j : Nat) (o : O), ¬ X j → h[j]? = some o → ∃ o', h'[j]? = some o' ∧ Sim o o') : ∀ {t : T} {o : O}, Orp h X t o → Orp h' Y t o
  | _, _, .lst r => .lst (Reps.up hY hh r)
  | _, _, .dK k r => .dK k (Reps.up hY hh r)
  | _, _, .dF k r => .dF k (Reps.up hY hh r)
  | _, _, .dT k r => .dT k (Reps.up hY hh r)
  | _, _, .dU k r => .dU k (Reps.up hY hh r)
  | _, _, .st ks => .st ks
  | _, _, .sT ks => .sT ks
  | _, _, .ins k r => .ins k (Reps.up hY hh r)
  | _, _, .err r => .err (Rep.up hY hh r)
end
section
variable {h h' : Hw} {X Y : Nat → Prop} {t : T} {ts : List T} {w : W} {ws : List W} {o : O}
theorem pre_get {h h' : Hw} (p : h <+: h') {j : Nat} {o : O} (e : h[j]? = some o) : h'[j]? = some o := by
  obtain ⟨z, rfl⟩ := p
  obtain ⟨hi, _⟩ := List.getElem?_eq_some_iff.mp e
  rw [List.getElem?_append_left hi]
  exact e
theorem pre_up (p : h <+: h') : ∀ (j : Nat) (o : O), ¬ X j → h[j]? = some o → ∃ o', h'[j]? = some o' ∧ Sim o o' := fun _ _ _ e => ⟨_, pre_get p e, .refl _⟩
theorem Rep.pre (p : h <+: h') (r : Rep h X t w) : Rep h' X t w := r.up (fun _ a b => absurd a b) (pre_up p)
theorem Reps.pre (p : h <+: h') (r : Reps h X ts ws) : Reps h' X ts ws := r.up (fun _ a b => absurd a b) (pre_up p)
theorem Orp.pre (p : h <+: h') (r : Orp h X t o) : Orp h' X t o := r.up (fun _ a b => absurd a b) (pre_up p)
theorem get_none {j : Nat} (l : h.length ≤ j) : h[j]? = none := List.getElem?_eq_none l
/-- places behind the heap may be forbidden, too -/
theorem Rep.wide (y : ∀ j, Y j → X j ∨ h.length ≤ j) (r : Rep h X t w) : Rep h Y t w := r.up (fun j a b => (y j a).elim (fun z => absurd z b) get_none) fun _ _ _ e => ⟨_, e, .refl _⟩
theorem Reps.wide (y : ∀ j, Y j → X j ∨ h.length ≤ j) (r : Reps h X ts ws) : Reps h Y ts ws := r.up (fun j a b => (y j a).elim (fun z => absurd z b) get_none) fun _ _ _ e => ⟨_, e, .refl _⟩
theorem Orp.wide (y : ∀ j, Y j → X j ∨ h.length ≤ j) (r : Orp h X t o) : Orp h Y t o := r.up (fun j a b => (y j a).elim (fun z => absurd z b) get_none) fun _ _ _ e => ⟨_, e, .refl _⟩
theorem Reps.length : ∀ {ts : List T} {ws : List W}, Reps h X ts ws → ts.length = ws.length
  | _, _, .nil => rfl
  | _, _, .cons _ r => congrArg Nat.succ (Reps.length r)
theorem Reps.append : ∀ {ts us : List T} {ws vs : List W}, Reps h X ts ws → Reps h X us vs → Reps h X (ts ++ us) (ws ++ vs)
  | _, _, _, _, .nil, s => s
  | _, _, _, _, .cons r rs, s => .cons r (Reps.append rs s)
theorem Reps.get : ∀ {ts : List T} {ws : List W} {i : Nat} {t : T}, Reps h X ts ws → ts[i]? = some t → ∃ w, ws[i]? = some w ∧ Rep h X t w
  | _, _, 0, _, .cons r _, e => by
    cases e
    exact ⟨_, rfl, r⟩
  | _, _, i + 1, _, .cons _ rs, e => by
    obtain ⟨w, e, r⟩ := Reps.get (i := i) rs (by simpa using e)
    exact ⟨w, by simpa using e, r⟩
theorem Reps.take (n : Nat) : ∀ {ts : List T} {ws : List W}, Reps h X ts ws → Reps h X (ts.take n) (ws.take n) := by
  induction n with
  | zero => intro _ _ _; exact .nil
  | succ n ih =>
    intro _ _ r
    cases r with
    | nil => exact .nil
    | cons r rs => exact .cons r (ih rs)
theorem Reps.drop (n : Nat) : ∀ {ts : List T} {ws : List W}, Reps h X ts ws → Reps h X (ts.drop n) (ws.drop n) := by
  induction n with
  | zero => intro _ _ r; exact r
  | succ n ih =>
    intro _ _ r
    cases r with
    | nil => exact .nil
    | cons r rs => exact ih rs
theorem Reps.reverse : ∀ {ts : List T} {ws : List W}, Reps h X ts ws → Reps h X ts.reverse ws.reverse
  | _, _, .nil => .nil
  | _, _, .cons r rs => by
    rw [List.reverse_cons, List.reverse_cons]
    exact (Reps.reverse rs).append (.cons r .nil)
theorem Reps.set (r : Rep h X t w) (i : Nat) : ∀ {ts : List T} {ws : List W}, Reps h X ts ws → Reps h X (ts.set i t) (ws.set i w) := by
  induction i with
  | zero =>
    intro _ _ s
    cases s with
    | nil => exact .nil
    | cons _ rs => exact .cons r rs
  | succ i ih =>
    intro _ _ s
    cases s with
    | nil => exact .nil
    | cons r1 rs => exact .cons r1 (ih rs)
theorem Reps.replicate (n : Nat) (r : Rep h X t w) : Reps h X (List.replicate n t) (List.replicate n w) := by
  induction n with
  | zero => exact .nil
  | succ n ih => exact .cons r ih
theorem Reps.map {α : Type} {f : α → T} {g : α → W} (e : ∀ a, Rep h X (f a) (g a)) : ∀ l : List α, Reps h X (l.map f) (l.map g)
  | [] => .nil
  | a :: l => .cons (e a) (Reps.map e l)
end
/-- a value that is read: its root may be one of the places that are still changed -/
inductive Val (h : Hw) (X : Nat → Prop) : T → W → Prop where
  | non : Val h X .non .non
  | bl (b : Bool) : Val h X (.bl b) (.bl b)
  | int (i : Int) : Val h X (.int i) (.int i)
  | str (x : Str) : Val h X (.str x) (.str x)
  | tup {ts : List T} {ws : List W} (r : Reps h X ts ws) : Val h X (.tup ts) (.tup ws)
  | rol {ts : List T} {ws : List W} (r : Reps h X ts ws) : Val h X (.rol ts) (.rol ws)
  | ref {t : T} {i : Nat} {o : O} (e : h[i]? = some o) (r : Orp h X t o) : Val h X t (.ref i)
theorem Rep.val {h : Hw} {X : Nat → Prop} {t : T} {w : W} (r : Rep h X t w) : Val h X t w := by
  cases r with
  | non => exact .non
  | bl b => exact .bl b
  | int i => exact .int i
  | str x => exact .str x
  | tup r => exact .tup r
  | rol r => exact .rol r
  | ref n e r => exact .ref e r
theorem Val.pre {h h' : Hw} {X : Nat → Prop} {t : T} {w : W} (p : h <+: h') (r : Val h X t w) : Val h' X t w := by
  cases r with
  | non => exact .non
  | bl b => exact .bl b
  | int i => exact .int i
  | str x => exact .str x
  | tup r => exact .tup (r.pre p)
  | rol r => exact .rol (r.pre p)
  | ref e r => exact .ref (pre_get p e) (r.pre p)
end EL.Pu
namespace EL.Pu
open PySem PySem.Spec L2 EL
open PyProof.Rows hiding St
inductive Q (α : Type) where
  | ok (a : α) | ex (C : Str) (t : T) | no
def Q.bind {α β : Type} (q : Q α) (k : α → Q β) : Q β := match q with
  | .ok a => k a
  | .ex C t => .ex C t
  | .no => .no
@[simp] theorem Q.bind_ok {α β : Type} (a : α) (k : α → Q β) : (Q.ok a).bind k = k a := rfl
@[simp] theorem Q.bind_ex {α β : Type} (C : Str) (t : T) (k : α → Q β) : (Q.ex C t : Q α).bind k = .ex C t := rfl
@[simp] theorem Q.bind_no {α β : Type} (k : α → Q β) : (Q.no : Q α).bind k = .no := rfl
abbrev PS := List (Option T)
abbrev PE := PS → Q T
abbrev PT := PS → Q Bool
abbrev PA := PS → Q (List T)
/-- q is what r does, behind h -/
def QR {α β : Type} (X : Nat → Prop) (h : Hw) (rel : α → β → Hw → Prop) (q : Q α) (r : R β) : Prop := match q with
  | .ok a => ∃ b h', r = .ok b h' ∧ h <+: h' ∧ rel a b h'
  | .ex C t => ∃ w h', r = .ex C w h' ∧ h <+: h' ∧ Rep h' X t w
  | .no => True
abbrev rT (X : Nat → Prop) (t : T) (w : W) (h : Hw) : Prop := Rep h X t w
abbrev rV (X : Nat → Prop) (t : T) (w : W) (h : Hw) : Prop := Val h X t w
abbrev rA (X : Nat → Prop) (t : List T) (w : List W) (h : Hw) : Prop := Reps h X t w
abbrev rQ {α : Type} (a b : α) (_ : Hw) : Prop := a = b
/-- a new object, known by its place alone -/
abbrev rF (X : Nat → Prop) (n : Nat) (t : T) (w : W) (h : Hw) : Prop := ∃ (j : Nat) (o : O), w = .ref j ∧ n ≤ j ∧ h[j]? = some o ∧ unl o = true ∧ Orp h (fun i => X i ∨ i = j) t o
section
variable {α β γ δ : Type} {X : Nat → Prop} {h : Hw}
theorem qr_ok {rel : α → β → Hw → Prop} {a : α} {b : β} (r : rel a b h) : QR X h rel (.ok a) (.ok b h) := ⟨b, h, rfl, List.prefix_refl _, r⟩
theorem qr_bind {rel : α → β → Hw → Prop} {rel' : γ → δ → Hw → Prop} {q : Q α} {k : α → Q γ} {m : M β} {f : β → M δ} (H : QR X h rel q (m h)) (K : ∀ a b h', h <+: h' → rel a b h' → QR X h' rel' (k a) (f b h')) : QR X h rel' (q.bind k) (bnd m f h) := by
  cases q with
  | no => exact trivial
  | ex C t =>
    obtain ⟨w, h', e, p, r⟩ := H
    exact ⟨w, h', by unfold bnd; rw [e], p, r⟩
  | ok a =>
    obtain ⟨b, h', e, p, r⟩ := H
    have z := K a b h' p r
    have eb : bnd m f h = f b h' := by unfold bnd; rw [e]
    rw [eb, Q.bind_ok]
    cases q2 : k a with
    | no => exact trivial
    | ex C t =>
      rw [q2] at z
      obtain ⟨w, h2, e2, p2, r2⟩ := z
      exact ⟨w, h2, e2, p.trans p2, r2⟩
    | ok c =>
      rw [q2] at z
      obtain ⟨w, h2, e2, p2, r2⟩ := z
      exact ⟨w, h2, e2, p.trans p2, r2⟩
theorem qr_mono {rel rel' : α → β → Hw → Prop} {q : Q α} {r : R β} (H : QR X h rel q r) (K : ∀ a b h', h <+: h' → rel a b h' → rel' a b h') : QR X h rel' q r := by
  cases q with
  | no => exact trivial
  | ex C t => exact H
  | ok a =>
    obtain ⟨b, h', e, p, r⟩ := H
    exact ⟨b, h', e, p, K _ _ _ p r⟩
end
theorem nd_l {α β : Type} : ∀ {l : List (α × β)}, (l.map (·.1)).Nodup → ∀ {x : α} {y z : β}, (x, y) ∈ l → (x, z) ∈ l → y = z
  | [], _, _, _, _, h, _ => nomatch h
  | e :: l, nd, x, y, z, h1, h2 => by
    rw [List.map_cons, List.nodup_cons] at nd
    rcases List.mem_cons.mp h1 with h1 | h1
    · rcases List.mem_cons.mp h2 with h2 | h2
      · cases h1.trans h2.symm
        rfl
      · exact absurd (List.mem_map.mpr ⟨_, h2, by rw [← h1]⟩) nd.1
    · rcases List.mem_cons.mp h2 with h2 | h2
      · exact absurd (List.mem_map.mpr ⟨_, h1, by rw [← h2]⟩) nd.1
      · exact nd_l nd.2 h1 h2
theorem nd_r {α β : Type} : ∀ {l : List (α × β)}, (l.map (·.2)).Nodup → ∀ {x y : α} {z : β}, (x, z) ∈ l → (y, z) ∈ l → x = y
  | [], _, _, _, _, h, _ => nomatch h
  | e :: l, nd, x, y, z, h1, h2 => by
    rw [List.map_cons, List.nodup_cons] at nd
    rcases List.mem_cons.mp h1 with h1 | h1
    · rcases List.mem_cons.mp h2 with h2 | h2
      · cases h1.trans h2.symm
        rfl
      · exact absurd (List.mem_map.mpr ⟨_, h2, by rw [← h1]⟩) nd.1
    · rcases List.mem_cons.mp h2 with h2 | h2
      · exact absurd (List.mem_map.mpr ⟨_, h1, by rw [← h2]⟩) nd.1
      · exact nd_r nd.2 h1 h2
/-- the places that a tree must not touch -/
abbrev av (X : Nat → Prop) (A : List (Nat × Nat)) : Nat → Prop := fun j => X j ∨ j ∈ A.map (·.2)
/-- the values of a def: A: which of its names hold what it still changes, and where -/
structure Sto (X : Nat → Prop) (A : List (Nat × Nat)) (ps : PS) (sw : SW) (h : Hw) : Prop where
  len : ps.length = sw.length
  fr : ∀ (i : Nat) (t : T), ps[i]? = some (some t) → i ∉ A.map (·.1) → ∃ w, sw[i]? = some (some w) ∧ Rep h (av X A) t w
  ow : ∀ (i j : Nat) (t : T), (i, j) ∈ A → ps[i]? = some (some t) → sw[i]? = some (some (.ref j)) ∧ ∃ o, h[j]? = some o ∧ unl o = true ∧ Orp h (av X A) t o
  lt : ∀ (i j : Nat), (i, j) ∈ A → j < h.length ∧ ¬ X j
  nd : (A.map (·.2)).Nodup
  nd1 : (A.map (·.1)).Nodup
  xl : ∀ j, X j → j < h.length
section
variable {X : Nat → Prop} {A : List (Nat × Nat)} {ps : PS} {sw : SW} {h h' : Hw}
theorem Sto.avl (s : Sto X A ps sw h) : ∀ j, av X A j → j < h.length := fun j hj => by
  rcases hj with hj | hj
  · exact s.xl j hj
  · obtain ⟨e, he, rfl⟩ := List.mem_map.mp hj
    exact (s.lt e.1 e.2 he).1
theorem Sto.fresh (s : Sto X A ps sw h) {j : Nat} (hj : h.length ≤ j) : ¬ av X A j := fun z => Nat.lt_irrefl _ (Nat.lt_of_lt_of_le (s.avl j z) hj)
/-- what is frozen may grow or be locked; what is owned stays -/
theorem Sto.up {Y : Nat → Prop} (s : Sto X A ps sw h) (hl : h.length ≤ h'.length) (hY : ∀ j, X j → Y j) (hY2 : ∀ j, Y j → X j ∨ h.length ≤ j) (hlt : ∀ j, Y j → j < h'.length)
    (hh : ∀ (j : Nat) (o : O), ¬ av X A j → h[j]? = some o → ∃ o', h'[j]? = some o' ∧ Sim o o') (ho : ∀ (j : Nat) (o : O), j ∈ A.map (·.2) → h[j]? = some o → h'[j]? = some o) : Sto Y A ps sw h' := by
  have up : ∀ j, av Y A j → ¬ av X A j → h[j]? = none := fun j a b => by
    rcases a with a | a
    · rcases hY2 j a with z | z
      · exact absurd (.inl z) b
      · exact get_none z
    · exact absurd (.inr a) b
  refine ⟨s.len, fun i t e n => ?_, fun i j t m e => ?_, fun i j m => ⟨Nat.lt_of_lt_of_le (s.lt i j m).1 hl, fun z => ?_⟩, s.nd, s.nd1, hlt⟩
  · obtain ⟨w, e1, r⟩ := s.fr i t e n
    exact ⟨w, e1, r.up up hh⟩
  · obtain ⟨e1, o, e2, u, r⟩ := s.ow i j t m e
    exact ⟨e1, o, ho j o (List.mem_map.mpr ⟨_, m, rfl⟩) e2, u, r.up up hh⟩
  · rcases hY2 j z with z | z
    · exact (s.lt i j m).2 z
    · exact Nat.lt_irrefl _ (Nat.lt_of_lt_of_le (s.lt i j m).1 z)
theorem Sto.pre (s : Sto X A ps sw h) (p : h <+: h') : Sto X A ps sw h' := s.up p.length_le (fun _ z => z) (fun _ z => .inl z) (fun j z => Nat.lt_of_lt_of_le (s.xl j z) p.length_le) (pre_up p) fun j o _ e => pre_get p e
/-- a value put down -/
theorem Sto.set (s : Sto X A ps sw h) {t : T} {w : W} (r : Rep h (av X A) t w) {i : Nat} (ni : i ∉ A.map (·.1)) : Sto X A (ps.set i (some t)) (sw.set i (some w)) h := by
  refine ⟨by rw [List.length_set, List.length_set]; exact s.len, fun k u e n => ?_, fun k j u m e => ?_, s.lt, s.nd, s.nd1, s.xl⟩
  · rw [List.getElem?_set] at e ⊢
    by_cases hk : i = k
    · rw [if_pos hk] at e ⊢
      rw [← s.len]
      split at e
      · rename_i hlt
        rw [if_pos hlt]
        cases e
        exact ⟨w, rfl, r⟩
      · cases e
    · rw [if_neg hk] at e ⊢
      exact s.fr k u e n
  · have hk : i ≠ k := fun z => ni (z ▸ List.mem_map.mpr ⟨_, m, rfl⟩)
    rw [List.getElem?_set_ne hk] at e ⊢
    exact s.ow k j u m e
/-- what is forgotten -/
theorem Sto.drop (s : Sto X A ps sw h) (i : Nat) : Sto X A (ps.set i none) sw h := by
  refine ⟨by rw [List.length_set]; exact s.len, fun k u e n => ?_, fun k j u m e => ?_, s.lt, s.nd, s.nd1, s.xl⟩
  · rw [List.getElem?_set] at e
    by_cases hk : i = k
    · rw [if_pos hk] at e
      split at e <;> cases e
    · rw [if_neg hk] at e
      exact s.fr k u e n
  · rw [List.getElem?_set] at e
    by_cases hk : i = k
    · rw [if_pos hk] at e
      split at e <;> cases e
    · rw [if_neg hk] at e
      exact s.ow k j u m e
end
def clr : List Nat → PS → PS
  | [], s => s
  | i :: D, s => (clr D s).set i none
theorem Sto.clr {X : Nat → Prop} {A : List (Nat × Nat)} {sw : SW} {h : Hw} {ps : PS} (s : Sto X A ps sw h) : ∀ D : List Nat, Sto X A (clr D ps) sw h
  | [] => s
  | i :: D => (Sto.clr s D).drop i
/-- what is forgotten on both sides -/
theorem Sto.wipe1 {X : Nat → Prop} {A : List (Nat × Nat)} {sw : SW} {h : Hw} {ps : PS} (s : Sto X A ps sw h) {i : Nat} (ni : i ∉ A.map (·.1)) : Sto X A (ps.set i none) (sw.set i none) h := by
  refine ⟨by rw [List.length_set, List.length_set]; exact s.len, fun k u e n => ?_, fun k j u m e => ?_, s.lt, s.nd, s.nd1, s.xl⟩
  · rw [List.getElem?_set] at e ⊢
    by_cases hk : i = k
    · rw [if_pos hk] at e
      split at e <;> cases e
    · rw [if_neg hk] at e ⊢
      exact s.fr k u e n
  · have hk : i ≠ k := fun z => ni (z ▸ List.mem_map.mpr ⟨_, m, rfl⟩)
    rw [List.getElem?_set_ne hk] at e ⊢
    exact s.ow k j u m e
theorem Sto.wipe {X : Nat → Prop} {A : List (Nat × Nat)} {sw : SW} {h : Hw} {ps : PS} (s : Sto X A ps sw h) : ∀ D : List Nat, (∀ i ∈ D, i ∉ A.map (·.1)) → Sto X A (EL.Pu.clr D ps) (wipeW sw D) h
  | [], _ => s
  | i :: D, hd => (Sto.wipe s D fun k hk => hd k (List.mem_cons_of_mem _ hk)).wipe1 (hd i List.mem_cons_self)
def XG {α β : Type} (N : List Nat) (rel : (Nat → Prop) → Hw → α → β → Hw → Prop) (m : SW → M β) (p : PS → Q α) : Prop :=
  ∀ X A ps sw h, A.map (·.1) = N → Sto X A ps sw h → QR (av X A) h (rel (av X A) h) (p ps) (m sw h)
abbrev XE (N : List Nat) (m : ME) (p : PE) : Prop := XG N (fun X _ => rT X) m p
abbrev XV (N : List Nat) (m : ME) (p : PE) : Prop := XG N (fun X _ => rV X) m p
abbrev XF (N : List Nat) (m : ME) (p : PE) : Prop := XG N (fun X h => rF X h.length) m p
abbrev XT (N : List Nat) (m : MT) (p : PT) : Prop := XG N (fun _ _ => rQ) m p
abbrev XA (N : List Nat) (m : MA) (p : PA) : Prop := XG N (fun X _ => rA X) m p
abbrev XOI (N : List Nat) (m : MO) (p : PS → Q (Option Int)) : Prop := XG N (fun _ _ => rQ) m p
theorem xv_of {N : List Nat} {m : ME} {p : PE} (H : XE N m p) : XV N m p := fun X A ps sw h a s => qr_mono (H X A ps sw h a s) fun _ _ _ _ r => r.val
theorem xe_new {N : List Nat} {m : ME} {p : PE} (H : XF N m p) : XE N m p := fun X A ps sw h a s => qr_mono (H X A ps sw h a s) fun t w h' _ r => by
  obtain ⟨j, o, rfl, hj, e, _, r⟩ := r
  exact .ref (s.fresh hj) e (r.wide fun i z => .inl (.inl z))
section
variable {N : List Nat} {ma mb mc : ME} {pa pb pc : PE} {mt mu : MT} {pt pu : PT} {mr : MA} {pr : PA}
def pVar (i : Nat) : PE := fun s => match s[i]? with
  | some (some t) => .ok t
  | _ => .no
theorem xe_var (i : Nat) (hi : i ∉ N := by decide) : XE N (mVar i) (pVar i) := fun X A ps sw h a s => by
  unfold pVar mVar
  cases e : ps[i]? with
  | none => exact trivial
  | some o =>
    cases o with
    | none => exact trivial
    | some t =>
      obtain ⟨w, e1, r⟩ := s.fr i t e (by rw [a]; exact hi)
      rw [e1]
      exact qr_ok r
/-- a name that holds what is still changed, read -/
theorem xv_own (i : Nat) (hi : i ∈ N := by decide) : XV N (mVar i) (pVar i) := fun X A ps sw h a s => by
  unfold pVar mVar
  cases e : ps[i]? with
  | none => exact trivial
  | some o =>
    cases o with
    | none => exact trivial
    | some t =>
      rw [← a] at hi
      obtain ⟨⟨i', j⟩, m, rfl⟩ := List.mem_map.mp hi
      obtain ⟨e1, ob, e2, _, r⟩ := s.ow i' j t m e
      rw [e1]
      exact qr_ok (.ref e2 r)
def pC (t : T) : PE := fun _ => .ok t
theorem xe_non : XE N (mC .non) (pC .non) := fun _ _ _ _ _ _ _ => qr_ok .non
theorem xe_bl (b : Bool) : XE N (mC (.bl b)) (pC (.bl b)) := fun _ _ _ _ _ _ _ => qr_ok (.bl b)
theorem xe_int (i : Int) : XE N (mC (.int i)) (pC (.int i)) := fun _ _ _ _ _ _ _ => qr_ok (.int i)
theorem xe_str (x : Str) : XE N (mC (.str x)) (pC (.str x)) := fun _ _ _ _ _ _ _ => qr_ok (.str x)
/-- an operator of two values -/
def Op2 (f : W → W → M W) (g : T → T → Q T) : Prop := ∀ (h : Hw) (X : Nat → Prop) (x y : T) (wx wy : W), (∀ j, X j → j < h.length) → Val h X x wx → Val h X y wy → QR X h (rT X) (g x y) (f wx wy h)
def pBin (g : T → T → Q T) (a b : PE) : PE := fun s => (a s).bind fun x => (b s).bind fun y => g x y
theorem avl_pre {X : Nat → Prop} {h h' : Hw} (p : h <+: h') (l : ∀ j, X j → j < h.length) : ∀ j, X j → j < h'.length := fun j z => Nat.lt_of_lt_of_le (l j z) p.length_le
theorem xe_bin {f : W → W → M W} {g : T → T → Q T} (op : Op2 f g) (ha : XV N ma pa) (hb : XV N mb pb) : XE N (mBin f ma mb) (pBin g pa pb) := fun X A ps sw h a s =>
  qr_bind (ha X A ps sw h a s) fun x wx h1 p1 r1 => qr_bind (hb X A ps sw h1 a (s.pre p1)) fun y wy h2 p2 r2 => op h2 _ x y wx wy (avl_pre p2 (avl_pre p1 s.avl)) (r1.pre p2) r2
def Op1 (f : W → M W) (g : T → Q T) : Prop := ∀ (h : Hw) (X : Nat → Prop) (x : T) (wx : W), (∀ j, X j → j < h.length) → Val h X x wx → QR X h (rT X) (g x) (f wx h)
def pUn (g : T → Q T) (a : PE) : PE := fun s => (a s).bind g
theorem xe_un {f : W → M W} {g : T → Q T} (op : Op1 f g) (ha : XV N ma pa) : XE N (mUn f ma) (pUn g pa) := fun X A ps sw h a s =>
  qr_bind (ha X A ps sw h a s) fun x wx h1 p1 r1 => op h1 _ x wx (avl_pre p1 s.avl) r1
def paNil : PA := fun _ => .ok []
def paCons (a : PE) (r : PA) : PA := fun s => (a s).bind fun x => (r s).bind fun xs => .ok (x :: xs)
theorem xa_nil : XA N aNil paNil := fun _ _ _ _ _ _ _ => qr_ok .nil
theorem xa_cons (ha : XE N ma pa) (hr : XA N mr pr) : XA N (aCons ma mr) (paCons pa pr) := fun X A ps sw h a s =>
  qr_bind (ha X A ps sw h a s) fun x wx h1 p1 r1 => qr_bind (hr X A ps sw h1 a (s.pre p1)) fun y wy h2 p2 r2 => qr_ok (.cons (r1.pre p2) r2)
/-- values that are only read -/
inductive Vals' (h : Hw) (X : Nat → Prop) : List T → List W → Prop where
  | nil : Vals' h X [] []
  | cons {t : T} {w : W} {ts : List T} {ws : List W} (r : Val h X t w) (rs : Vals' h X ts ws) : Vals' h X (t :: ts) (w :: ws)
abbrev XVA (N : List Nat) (m : MA) (p : PA) : Prop := XG N (fun X _ t w h => Vals' h X t w) m p
theorem Vals'.pre {h h' : Hw} {X : Nat → Prop} (p : h <+: h') : ∀ {ts : List T} {ws : List W}, Vals' h X ts ws → Vals' h' X ts ws
  | _, _, .nil => .nil
  | _, _, .cons r rs => .cons (r.pre p) (Vals'.pre p rs)
theorem xva_nil : XVA N aNil paNil := fun _ _ _ _ _ _ _ => qr_ok .nil
theorem xva_cons (ha : XV N ma pa) (hr : XVA N mr pr) : XVA N (aCons ma mr) (paCons pa pr) := fun X A ps sw h a s =>
  qr_bind (ha X A ps sw h a s) fun x wx h1 p1 r1 => qr_bind (hr X A ps sw h1 a (s.pre p1)) fun y wy h2 p2 r2 => qr_ok (.cons (r1.pre p2) r2)
def pTup (r : PA) : PE := fun s => (r s).bind fun xs => if xs.length ≤ lim then .ok (.tup xs) else .no
theorem xe_tup (hr : XA N mr pr) : XE N (mTup mr) (pTup pr) := fun X A ps sw h a s => by
  refine qr_bind (hr X A ps sw h a s) fun ts ws h1 p1 r1 => ?_
  rw [← r1.length]
  split
  · exact qr_ok (.tup r1)
  · exact trivial
def pLst (r : PA) : PE := fun s => (r s).bind fun xs => if xs.length ≤ lim then .ok (.lst xs) else .no
theorem qr_new {h : Hw} {X : Nat → Prop} {n : Nat} {t : T} {o : O} (hn : n ≤ h.length) (r : Orp h X t o) (u : unl o = true := by rfl) : QR X h (rF X n) (.ok t) (alloc o h) :=
  ⟨_, _, rfl, List.prefix_append _ _, h.length, o, rfl, hn, by simp, u, (r.wide (Y := fun i => X i ∨ i = h.length) fun j z => z.imp_right fun e => Nat.le_of_eq e.symm).pre (List.prefix_append _ _)⟩
theorem xf_lst (hr : XA N mr pr) : XF N (mLst mr) (pLst pr) := fun X A ps sw h a s => by
  refine qr_bind (hr X A ps sw h a s) fun ts ws h1 p1 r1 => ?_
  rw [← r1.length]
  split
  · exact qr_new p1.length_le (.lst r1)
  · exact trivial
def pVal (a : PE) : PT := fun s => (a s).bind fun x => match x with
  | .bl b => .ok b
  | _ => .no
theorem xt_val (ha : XV N ma pa) : XT N (tVal ma) (pVal pa) := fun X A ps sw h a s => qr_bind (ha X A ps sw h a s) fun x wx h1 p1 r1 => by
  cases r1 with
  | bl b => exact qr_ok rfl
  | ref e r => cases r <;> exact trivial
  | _ => exact trivial
def uTru (x : T) : Q Bool := match x with
  | .non => .ok false
  | .bl b => .ok b
  | .int i => .ok (i != 0)
  | .str y => if y.length ≤ lim then .ok ((y.length : Int) != 0) else .no
  | .tup xs => .ok (!xs.isEmpty)
  | .lst xs => .ok (!xs.isEmpty)
  | .rol xs => .ok (!xs.isEmpty)
  | _ => .no
theorem reps_emp {h : Hw} {X : Nat → Prop} {ts : List T} {ws : List W} (r : Reps h X ts ws) : ws.isEmpty = ts.isEmpty := by cases r <;> rfl
theorem op_tru {h : Hw} {X : Nat → Prop} {x : T} {wx : W} (r : Val h X x wx) : QR X h rQ (uTru x) (tru wx h) := by
  cases r with
  | ref e r =>
    unfold tru
    simp only [e]
    cases r with
    | lst r =>
      show QR X h rQ (.ok _) (.ok _ h)
      rw [reps_emp r]
      exact qr_ok rfl
    | _ => exact trivial
  | non => exact qr_ok rfl
  | bl b => exact qr_ok rfl
  | int i => exact qr_ok rfl
  | str y =>
    unfold uTru tru
    dsimp only
    split
    · exact qr_ok rfl
    · exact trivial
  | tup r =>
    show QR X h rQ (.ok _) (.ok _ h)
    rw [reps_emp r]
    exact qr_ok rfl
  | rol r =>
    show QR X h rQ (.ok _) (.ok _ h)
    rw [reps_emp r]
    exact qr_ok rfl
def pTru (a : PE) : PT := fun s => (a s).bind uTru
theorem xt_tru (ha : XV N ma pa) : XT N (tTru ma) (pTru pa) := fun X A ps sw h a s => qr_bind (ha X A ps sw h a s) fun x wx h1 p1 r1 => op_tru r1
def pAnd (a b : PT) : PT := fun s => (a s).bind fun x => if x = true then b s else .ok false
def pOr (a b : PT) : PT := fun s => (a s).bind fun x => if x = true then .ok true else b s
def pNot (a : PT) : PT := fun s => (a s).bind fun x => .ok (!x)
theorem xt_and (ha : XT N mt pt) (hb : XT N mu pu) : XT N (tAnd mt mu) (pAnd pt pu) := fun X A ps sw h a s => qr_bind (ha X A ps sw h a s) fun x wx h1 p1 r1 => by
  cases r1
  split
  · exact hb X A ps sw h1 a (s.pre p1)
  · exact qr_ok rfl
theorem xt_or (ha : XT N mt pt) (hb : XT N mu pu) : XT N (tOr mt mu) (pOr pt pu) := fun X A ps sw h a s => qr_bind (ha X A ps sw h a s) fun x wx h1 p1 r1 => by
  cases r1
  split
  · exact qr_ok rfl
  · exact hb X A ps sw h1 a (s.pre p1)
theorem xt_not (ha : XT N mt pt) : XT N (tNot mt) (pNot pt) := fun X A ps sw h a s => qr_bind (ha X A ps sw h a s) fun x wx h1 p1 r1 => by
  cases r1
  exact qr_ok rfl
def pYs : PT := fun _ => .ok true
theorem xt_ys : XT N tYs pYs := fun _ _ _ _ _ _ _ => qr_ok rfl
def pIf (c : PT) (a b : PE) : PE := fun s => (c s).bind fun x => if x = true then a s else b s
theorem xe_if (hc : XT N mt pt) (ha : XE N ma pa) (hb : XE N mb pb) : XE N (mIf mt ma mb) (pIf pt pa pb) := fun X A ps sw h a s => qr_bind (hc X A ps sw h a s) fun x wx h1 p1 r1 => by
  cases r1
  split
  · exact ha X A ps sw h1 a (s.pre p1)
  · exact hb X A ps sw h1 a (s.pre p1)
def peAnd (a b : PE) : PE := fun s => (a s).bind fun x => match x with
  | .bl true => b s
  | .bl false => .ok (.bl false)
  | _ => .no
def peOr (a b : PE) : PE := fun s => (a s).bind fun x => match x with
  | .bl false => b s
  | .bl true => .ok (.bl true)
  | _ => .no
def peNot (a : PE) : PE := fun s => (a s).bind fun x => match x with
  | .bl b => .ok (.bl !b)
  | _ => .no
theorem xe_and (ha : XE N ma pa) (hb : XE N mb pb) : XE N (mAnd ma mb) (peAnd pa pb) := fun X A ps sw h a s => qr_bind (ha X A ps sw h a s) fun x wx h1 p1 r1 => by
  cases r1 with
  | bl b =>
    cases b
    · exact qr_ok (.bl false)
    · exact hb X A ps sw h1 a (s.pre p1)
  | ref n e r => cases r <;> exact trivial
  | _ => exact trivial
theorem xe_or (ha : XE N ma pa) (hb : XE N mb pb) : XE N (mOr ma mb) (peOr pa pb) := fun X A ps sw h a s => qr_bind (ha X A ps sw h a s) fun x wx h1 p1 r1 => by
  cases r1 with
  | bl b =>
    cases b
    · exact hb X A ps sw h1 a (s.pre p1)
    · exact qr_ok (.bl true)
  | ref n e r => cases r <;> exact trivial
  | _ => exact trivial
theorem xe_not (ha : XE N ma pa) : XE N (mNot ma) (peNot pa) := fun X A ps sw h a s => qr_bind (ha X A ps sw h a s) fun x wx h1 p1 r1 => by
  cases r1 with
  | bl b => exact qr_ok (.bl !b)
  | ref n e r => cases r <;> exact trivial
  | _ => exact trivial
def pCh (f g : T → T → Q T) (a b c : PE) : PE := fun s => (a s).bind fun x => (b s).bind fun y => (f x y).bind fun z => match z with
  | .bl true => (c s).bind fun u => g y u
  | .bl false => .ok (.bl false)
  | _ => .no
theorem xe_ch {f f' : W → W → M W} {g g' : T → T → Q T} (op : Op2 f g) (op' : Op2 f' g') (ha : XV N ma pa) (hb : XV N mb pb) (hc : XV N mc pc) : XE N (mCh f f' ma mb mc) (pCh g g' pa pb pc) := fun X A ps sw h a s =>
  qr_bind (ha X A ps sw h a s) fun x wx h1 p1 r1 => qr_bind (hb X A ps sw h1 a (s.pre p1)) fun y wy h2 p2 r2 => qr_bind (op h2 _ x y wx wy (avl_pre p2 (avl_pre p1 s.avl)) (r1.pre p2) r2) fun z wz h3 p3 r3 => by
    cases r3 with
    | bl b =>
      cases b
      · exact qr_ok (.bl false)
      · exact qr_bind (hc X A ps sw h3 a (((s.pre p1).pre p2).pre p3)) fun u wu h4 p4 r4 => op' h4 _ y u wy wu (avl_pre p4 (avl_pre p3 (avl_pre p2 (avl_pre p1 s.avl)))) ((r2.pre p3).pre p4) r4
    | ref n e r => cases r <;> exact trivial
    | _ => exact trivial
end
end EL.Pu
namespace EL.Pu
open PySem PySem.Spec L2 EL
open PyProof.Rows hiding St
def tItems : T → Option (List T)
  | .lst ts => some ts
  | .rol ts => some ts
  | _ => none
def tItemsT : T → Option (List T)
  | .lst ts => some ts
  | .rol ts => some ts
  | .tup ts => some ts
  | _ => none
section
variable {h : Hw} {X : Nat → Prop} {t : T} {w : W} {ts : List T} {ws : List W}
theorem val_items (r : Val h X t w) (e : tItems t = some ts) : ∃ ws, items h w = some ws ∧ Reps h X ts ws := by
  cases r with
  | rol r => cases e; exact ⟨_, rfl, r⟩
  | ref e' r =>
    cases r with
    | lst r => cases e; exact ⟨_, by unfold items; simp only [e'], r⟩
    | _ => cases e
  | _ => cases e
theorem val_itemsT (r : Val h X t w) (e : tItemsT t = some ts) : ∃ ws, itemsT h w = some ws ∧ Reps h X ts ws := by
  cases r with
  | tup r => cases e; exact ⟨_, rfl, r⟩
  | rol r => cases e; exact ⟨_, rfl, r⟩
  | ref e' r =>
    cases r with
    | lst r => cases e; exact ⟨_, by unfold itemsT items; simp only [e'], r⟩
    | _ => cases e
  | _ => cases e
theorem reps_mapO {α : Type} {f : T → Option α} {g : W → Option α} (H : ∀ t w a, Rep h X t w → f t = some a → g w = some a) : ∀ {ts : List T} {ws : List W} {as : List α}, Reps h X ts ws → mapO f ts = some as → mapO g ws = some as
  | _, _, as, .nil, e => by cases e; rfl
  | _, _, as, .cons r rs, e => by
    unfold mapO at e
    split at e
    · rename_i y ys e1 e2
      cases e
      unfold mapO
      rw [H _ _ _ r e1, reps_mapO H rs e2]
    · cases e
end
mutual
/-- the data that a tree is -/
def tD : Nat → T → Option PyData
  | _, .non => some .none
  | _, .bl b => some (.bool b)
  | _, .int i => some (.int i)
  | _, .str x => some (.str x)
  | n + 1, .tup ts => (tDs n ts).map .tuple
  | n + 1, .lst ts => (tDs n ts).map .list
  | n + 1, .rol ts => (tDs n ts).map .list
  | _, _ => none
def tDs : Nat → List T → Option (List PyData)
  | _, [] => some []
  | n, t :: ts => match tD n t, tDs n ts with
    | some d, some ds => some (d :: ds)
    | _, _ => none
end
mutual
theorem rep_D {h : Hw} {X : Nat → Prop} : ∀ {n : Nat} {t : T} {w : W} {d : PyData}, Rep h X t w → tD n t = some d → toD h n w = some d
  | n, _, _, d, .non, e => by cases n <;> (cases e; rfl)
  | n, _, _, d, .bl b, e => by cases n <;> (cases e; rfl)
  | n, _, _, d, .int i, e => by cases n <;> (cases e; rfl)
  | n, _, _, d, .str x, e => by cases n <;> (cases e; rfl)
  | 0, _, _, d, .tup r, e => by cases e
  | n + 1, _, _, d, .tup r, e => by
    unfold tD at e
    unfold toD
    obtain ⟨ds, e1, rfl⟩ := Option.map_eq_some_iff.mp e
    rw [reps_D r e1]
    rfl
  | 0, _, _, d, .rol r, e => by cases e
  | n + 1, _, _, d, .rol r, e => by
    unfold tD at e
    unfold toD
    obtain ⟨ds, e1, rfl⟩ := Option.map_eq_some_iff.mp e
    rw [reps_D r e1]
    rfl
  | n, _, _, d, .ref _ e' r, e => orp_D e' r e
theorem orp_D {h : Hw} {X : Nat → Prop} : ∀ {n : Nat} {t : T} {j : Nat} {o : EL.O} {d : PyData}, h[j]? = some o → Orp h X t o → tD n t = some d → toD h n (.ref j) = some d
  | 0, _, _, _, d, e', .lst r, e => by cases e
  | n + 1, _, _, _, d, e', .lst r, e => by
    unfold tD at e
    unfold toD
    rw [e']
    obtain ⟨ds, e1, rfl⟩ := Option.map_eq_some_iff.mp e
    show (mapO (toD h n) _).map _ = _
    rw [reps_D r e1]
    rfl
  | n, _, _, _, d, e', .dK _ _, e => by cases n <;> cases e
  | n, _, _, _, d, e', .dF _ _, e => by cases n <;> cases e
  | n, _, _, _, d, e', .dT _ _, e => by cases n <;> cases e
  | n, _, _, _, d, e', .dU _ _, e => by cases n <;> cases e
  | n, _, _, _, d, e', .st _, e => by cases n <;> cases e
  | n, _, _, _, d, e', .sT _, e => by cases n <;> cases e
  | n, _, _, _, d, e', .ins _ _, e => by cases n <;> cases e
  | n, _, _, _, d, e', .err _, e => by cases n <;> cases e
theorem reps_D {h : Hw} {X : Nat → Prop} : ∀ {n : Nat} {ts : List T} {ws : List W} {ds : List PyData}, Reps h X ts ws → tDs n ts = some ds → mapO (toD h n) ws = some ds
  | n, _, _, ds, .nil, e => by cases n <;> (cases e; rfl)
  | n, _, _, ds, .cons r rs, e => by
    unfold tDs at e
    split at e
    · rename_i y ys e1 e2
      cases e
      unfold mapO
      rw [rep_D r e1, reps_D rs e2]
    · cases e
end
theorem val_D {h : Hw} {X : Nat → Prop} {n : Nat} {t : T} {w : W} {d : PyData} (r : Val h X t w) (e : tD n t = some d) : toD h n w = some d := by
  cases r with
  | non => exact rep_D (X := X) .non e
  | bl b => exact rep_D (X := X) (.bl b) e
  | int i => exact rep_D (X := X) (.int i) e
  | str x => exact rep_D (X := X) (.str x) e
  | tup r => exact rep_D (.tup r) e
  | rol r => exact rep_D (.rol r) e
  | ref e' r => exact orp_D e' r e
def uAdd : T → T → Q T
  | .int i, .int j => .ok (.int (i + j))
  | .str x, .str y => if x.length + y.length ≤ lim then .ok (.str (x ++ y)) else .no
  | .lst xs, .lst ys => if xs.length + ys.length ≤ lim then .ok (.lst (xs ++ ys)) else .no
  | .tup xs, .tup ys => if xs.isEmpty = false ∧ xs.length + ys.length ≤ lim then .ok (.tup (xs ++ ys)) else .no
  | _, _ => .no
theorem qr_obj {h : Hw} {X : Nat → Prop} {t : T} {o : EL.O} (l : ∀ j, X j → j < h.length) (r : Orp h X t o) : QR X h (rT X) (.ok t) (alloc o h) :=
  ⟨_, _, rfl, List.prefix_append _ _, .ref (fun z => Nat.lt_irrefl _ (l _ z)) (by simp) (r.pre (List.prefix_append _ _))⟩
theorem op_add : Op2 fAdd uAdd := fun h X x y wx wy l r1 r2 => by
  cases r1 with
  | int i =>
    cases r2 with
    | int j => exact qr_ok (.int _)
    | ref e r => cases r <;> exact trivial
    | _ => exact trivial
  | str a =>
    cases r2 with
    | str b =>
      show QR X h (rT X) (if a.length + b.length ≤ lim then _ else _) ((if a.length + b.length ≤ lim then _ else _ : M W) h)
      split
      · exact qr_ok (.str _)
      · exact trivial
    | ref e r => cases r <;> exact trivial
    | _ => exact trivial
  | tup a =>
    cases r2 with
    | tup b =>
      rename_i ts ws ts' ws'
      show QR X h (rT X) (if ts.isEmpty = false ∧ ts.length + ts'.length ≤ lim then _ else _) ((if ws.isEmpty = false ∧ ws.length + ws'.length ≤ lim then _ else _ : M W) h)
      rw [← a.length, ← b.length, reps_emp a]
      split
      · exact qr_ok (.tup (a.append b))
      · exact trivial
    | ref e r => cases r <;> exact trivial
    | _ => exact trivial
  | ref e r =>
    cases r with
    | lst a =>
      rename_i ts ws
      cases r2 with
      | ref e' r =>
        cases r with
        | lst b =>
          rename_i ts' ws'
          unfold fAdd
          simp only [e, e']
          show QR X h (rT X) (if ts.length + ts'.length ≤ lim then _ else _) _
          rw [← a.length, ← b.length]
          split
          · exact qr_obj l (.lst (a.append b))
          · exact trivial
        | _ => exact trivial
      | _ => exact trivial
    | _ => exact trivial
  | _ => exact trivial
/-- operators of whole numbers alone -/
def uInt2 (c : Int → Int → Bool) (f : Int → Int → Int) : T → T → Q T
  | .int i, .int j => if c i j = true then .ok (.int (f i j)) else .no
  | _, _ => .no
theorem op_int2 {g : W → W → M W} {c : Int → Int → Bool} {f : Int → Int → Int} (H : ∀ i j h, c i j = true → g (.int i) (.int j) h = .ok (.int (f i j)) h) : Op2 g (uInt2 c f) := fun h X x y wx wy l r1 r2 => by
  cases r1 with
  | int i =>
    cases r2 with
    | int j =>
      unfold uInt2
      dsimp only
      split
      · rename_i e
        rw [H i j h e]
        exact qr_ok (.int _)
      · exact trivial
    | ref e r => cases r <;> exact trivial
    | _ => exact trivial
  | ref e r => cases r <;> exact trivial
  | _ => exact trivial
def uSub := uInt2 (fun _ _ => true) fun i j => i - j
def uMul := uInt2 mulOk fun i j => i * j
def uDiv := uInt2 (fun _ j => decide (0 < j ∧ j.natAbs.log2 < 9000)) fun i j => i / j
def uMod := uInt2 (fun _ j => decide (0 < j)) fun i j => i % j
def uPow := uInt2 (fun i j => decide ((0 ≤ j ∧ j ≤ 1000000) ∧ i.natAbs < 18446744073709551616)) fun i j => i ^ j.toNat
theorem op_mul : Op2 fMul uMul := op_int2 fun i j h e => by unfold fMul; dsimp only; rw [if_pos e]; rfl
theorem op_div : Op2 fDiv uDiv := op_int2 fun i j h e => by unfold fDiv; dsimp only; rw [if_pos (of_decide_eq_true e)]; rfl
theorem op_mod : Op2 fMod uMod := op_int2 fun i j h e => by unfold fMod; dsimp only; rw [if_pos (of_decide_eq_true e)]; rfl
theorem op_pow : Op2 fPow uPow := op_int2 fun i j h e => by unfold fPow; dsimp only; rw [if_pos (of_decide_eq_true e)]; rfl
def uNeg : T → Q T
  | .int i => .ok (.int (-i))
  | _ => .no
theorem op_neg : Op1 fNeg uNeg := fun h X x wx l r1 => by
  cases r1 with
  | int i => exact qr_ok (.int _)
  | ref e r => cases r <;> exact trivial
  | _ => exact trivial
def uCmp (pi : Int → Int → Bool) (ps : List Nat → List Nat → Bool) : T → T → Q T
  | .int i, .int j => .ok (.bl (pi i j))
  | .str x, .str y => .ok (.bl (ps x.cps.toList y.cps.toList))
  | _, _ => .no
theorem op_cmp {pi : Int → Int → Bool} {ps : List Nat → List Nat → Bool} : Op2 (fCmp pi ps) (uCmp pi ps) := fun h X x y wx wy l r1 r2 => by
  cases r1 with
  | int i =>
    cases r2 with
    | int j => exact qr_ok (.bl _)
    | ref e r => cases r <;> exact trivial
    | _ => exact trivial
  | str i =>
    cases r2 with
    | str j => exact qr_ok (.bl _)
    | ref e r => cases r <;> exact trivial
    | _ => exact trivial
  | ref e r => cases r <;> exact trivial
  | _ => exact trivial
def uLt := uCmp (fun i j => decide (i < j)) (fun x y => decide (x < y))
def uLe := uCmp (fun i j => decide (i ≤ j)) (fun x y => !decide (y < x))
def uGt := uCmp (fun i j => decide (j < i)) (fun x y => decide (y < x))
def uGe := uCmp (fun i j => decide (j ≤ i)) (fun x y => !decide (x < y))
theorem op_lt : Op2 fLt uLt := op_cmp
theorem op_le : Op2 fLe uLe := op_cmp
theorem op_gt : Op2 fGt uGt := op_cmp
theorem op_ge : Op2 fGe uGe := op_cmp
/-- is, is not: None, or truth values -/
def uIs (neg : Bool) (x y : T) : Q T := match y with
  | .bl b => match x with
    | .bl a => .ok (.bl (neg != decide (a = b)))
    | _ => .no
  | .non => match x with
    | .non => .ok (.bl (!neg))
    | _ => .ok (.bl neg)
  | _ => .no
theorem op_is {neg : Bool} : Op2 (fIs neg) (uIs neg) := fun h X x y wx wy l r1 r2 => by
  cases r2 with
  | bl b =>
    cases r1 with
    | bl a => exact qr_ok (.bl _)
    | ref e r => cases r <;> exact trivial
    | _ => exact trivial
  | non =>
    cases r1 with
    | ref e r => cases r <;> exact qr_ok (.bl _)
    | _ => exact qr_ok (.bl _)
  | ref e r => cases r <;> exact trivial
  | _ => exact trivial
def uEqP (neg : Bool) (x y : T) : Q T := match tD 8 x, tD 8 y with
  | some d, some e => .ok (.bl (neg != PyData.eqv d e))
  | _, _ => .no
theorem op_eqP {neg : Bool} : Op2 (fEqP neg) (uEqP neg) := fun h X x y wx wy l r1 r2 => by
  unfold uEqP
  split
  · rename_i d e e1 e2
    unfold fEqP
    rw [val_D r1 e1, val_D r2 e2]
    exact qr_ok (.bl _)
  · exact trivial
def uInP (neg : Bool) (x y : T) : Q T := match tD 8 x, tD 8 y with
  | some d, some (.list ds) => .ok (.bl (neg != ds.any fun z => PyData.eqv z d))
  | some d, some (.tuple ds) => .ok (.bl (neg != ds.any fun z => PyData.eqv z d))
  | _, _ => .no
theorem op_inP {neg : Bool} : Op2 (fInP neg) (uInP neg) := fun h X x y wx wy l r1 r2 => by
  unfold uInP
  split
  · rename_i d e e1 e2
    unfold fInP
    rw [val_D r1 e1, val_D r2 e2]
    exact qr_ok (.bl _)
  · rename_i d e e1 e2
    unfold fInP
    rw [val_D r1 e1, val_D r2 e2]
    exact qr_ok (.bl _)
  · exact trivial
/-- in, of texts -/
def uIn (neg : Bool) : T → T → Q T
  | .str x, .str y => .ok (.bl (neg != !(Builtin.Str.occurrences y x 0 y.length 1).isEmpty))
  | _, _ => .no
theorem op_in {neg : Bool} : Op2 (fIn neg) (uIn neg) := fun h X x y wx wy l r1 r2 => by
  cases r1 with
  | str i =>
    cases r2 with
    | str j => exact qr_ok (.bl _)
    | ref e r => cases r <;> exact trivial
    | _ => exact trivial
  | ref e r => cases r <;> exact trivial
  | _ => exact trivial
def uIx (x y : T) : Q T := match y with
  | .int i => match x with
    | .tup ts => match atI ts i with
      | some t => .ok t
      | none => .no
    | .str z => if z.length ≤ lim then match atI z.cps.toList i with
      | some c => .ok (.str ⟨#[c]⟩)
      | none => .no
      else .no
    | .lst ts => match atI ts i with
      | some t => .ok t
      | none => .no
    | .rol ts => match atI ts i with
      | some t => .ok t
      | none => .no
    | _ => .no
  | _ => .no
theorem reps_at {h : Hw} {X : Nat → Prop} {ts : List T} {ws : List W} {i : Int} {t : T} (r : Reps h X ts ws) (e : atI ts i = some t) : ∃ w, atI ws i = some w ∧ Rep h X t w := by
  unfold atI at e ⊢
  rw [← r.length]
  obtain ⟨j, e1, e2⟩ := Option.bind_eq_some_iff.mp e
  rw [e1]
  obtain ⟨w, e3, r⟩ := r.get e2
  exact ⟨w, e3, r⟩
theorem op_ix : Op2 fIx uIx := fun h X x y wx wy l r1 r2 => by
  have it : ∀ {ts : List T} {ws : List W} (i : Int), Reps h X ts ws → items h wx = some ws → QR X h (rT X) (match atI ts i with | some t => .ok t | none => .no) (match items h wx with
        | some xs => (match atI xs i with
          | some w => .ok w h
          | none => .no)
        | none => (R.no : R W)) := fun i r e => by
    rw [e]
    dsimp only
    split
    · rename_i t et
      obtain ⟨w, ew, rw'⟩ := reps_at r et
      rw [ew]
      exact qr_ok rw'
    · exact trivial
  cases r2 with
  | int i =>
    cases r1 with
    | tup r =>
      rename_i ts ws
      show QR X h (rT X) (match atI ts i with | some t => .ok t | none => .no) (match atI ws i with | some w => .ok w h | none => .no)
      split
      · rename_i t et
        obtain ⟨w, ew, rw'⟩ := reps_at r et
        rw [ew]
        exact qr_ok rw'
      · exact trivial
    | str z =>
      unfold uIx fIx
      dsimp only
      split
      · split
        · rename_i c ec
          try rw [ec]
          exact qr_ok (Rep.str _)
        · exact trivial
      · exact trivial
    | rol r => exact it i r rfl
    | ref e r =>
      cases r with
      | lst r => exact it i r (by unfold items; simp only [e])
      | _ => exact trivial
    | _ => exact trivial
  | ref e r => cases r <;> exact trivial
  | _ => exact trivial
section
variable {N : List Nat} {ma mb : ME} {pa pb : PE} {ml mu : MO} {pl pu : PS → Q (Option Int)}
def poNo : PS → Q (Option Int) := fun _ => .ok none
def poSo (a : PE) : PS → Q (Option Int) := fun s => (a s).bind fun x => match x with
  | .int i => .ok (some i)
  | _ => .no
theorem xo_no : XOI N oNo poNo := fun _ _ _ _ _ _ _ => qr_ok rfl
theorem xo_so (ha : XE N ma pa) : XOI N (oSo ma) (poSo pa) := fun X A ps sw h a s => qr_bind (ha X A ps sw h a s) fun x wx h1 p1 r1 => by
  cases r1 with
  | int i => exact qr_ok rfl
  | ref n e r => cases r <;> exact trivial
  | _ => exact trivial
def cutT (xs : List T) (lo hi : Option Int) : List T := (xs.drop (HT.sIx xs.length 0 lo)).take (HT.sIx xs.length xs.length hi - HT.sIx xs.length 0 lo)
theorem Reps.cut {h : Hw} {X : Nat → Prop} {ts : List T} {ws : List W} (r : Reps h X ts ws) (lo hi : Option Int) : Reps h X (cutT ts lo hi) (cutW ws lo hi) := by
  unfold cutT cutW
  rw [r.length]
  exact (r.drop _).take _
def uSl (x : T) (lo hi : Option Int) : Q T := match x with
  | .str z => if z.length ≤ lim then .ok (.str (cutS z lo hi)) else .no
  | .tup xs => if HT.sIx xs.length 0 lo = 0 ∧ HT.sIx xs.length xs.length hi = xs.length then .no else .ok (.tup (cutT xs lo hi))
  | .lst xs => .ok (.lst (cutT xs lo hi))
  | .rol xs => .ok (.lst (cutT xs lo hi))
  | _ => .no
def pSl (a : PE) (l u : PS → Q (Option Int)) : PE := fun s => (a s).bind fun x => (l s).bind fun lo => (u s).bind fun hi => uSl x lo hi
theorem xe_sl (ha : XV N ma pa) (hl : XOI N ml pl) (hu : XOI N mu pu) : XE N (mSl ma ml mu) (pSl pa pl pu) := fun X A ps sw h a s => by
  refine qr_bind (ha X A ps sw h a s) fun x wx h1 p1 r1 => qr_bind (hl X A ps sw h1 a (s.pre p1)) fun lo lo' h2 p2 e1 => qr_bind (hu X A ps sw h2 a ((s.pre p1).pre p2)) fun hi hi' h3 p3 e2 => ?_
  cases e1
  cases e2
  have r := (r1.pre p2).pre p3
  have l := avl_pre p3 (avl_pre p2 (avl_pre p1 s.avl))
  cases r with
  | str z =>
    unfold uSl fSl
    dsimp only
    split
    · exact qr_ok (Rep.str _)
    · exact trivial
  | tup r =>
    rename_i ts ws
    show QR _ h3 _ (if HT.sIx ts.length 0 lo = 0 ∧ HT.sIx ts.length ts.length hi = ts.length then _ else _) (if HT.sIx ws.length 0 lo = 0 ∧ HT.sIx ws.length ws.length hi = ws.length then _ else _)
    rw [← r.length]
    split
    · exact trivial
    · exact qr_ok (Rep.tup (r.cut lo hi))
  | rol r => exact qr_obj l (.lst (r.cut lo hi))
  | ref e r =>
    cases r with
    | lst r =>
      unfold fSl items
      simp only [e]
      exact qr_obj l (.lst (r.cut lo hi))
    | _ => exact trivial
  | _ => exact trivial
end
end EL.Pu
namespace EL.Pu
open PySem PySem.Spec L2 EL
open PyProof.Rows hiding St
/-- operators that need frozen values -/
def Op2R (f : W → W → M W) (g : T → T → Q T) : Prop := ∀ (h : Hw) (X : Nat → Prop) (x y : T) (wx wy : W), (∀ j, X j → j < h.length) → Rep h X x wx → Rep h X y wy → QR X h (rT X) (g x y) (f wx wy h)
theorem Op2.R {f : W → W → M W} {g : T → T → Q T} (a : Op2 f g) : Op2R f g := fun h X x y wx wy l r1 r2 => a h X x y wx wy l r1.val r2.val
section
variable {N : List Nat} {ma mb mo : ME} {pa pb po : PE} {mr : MA} {pr : PA}
theorem xe_binR {f : W → W → M W} {g : T → T → Q T} (op : Op2R f g) (ha : XE N ma pa) (hb : XE N mb pb) : XE N (mBin f ma mb) (pBin g pa pb) := fun X A ps sw h a s =>
  qr_bind (ha X A ps sw h a s) fun x wx h1 p1 r1 => qr_bind (hb X A ps sw h1 a (s.pre p1)) fun y wy h2 p2 r2 => op h2 _ x y wx wy (avl_pre p2 (avl_pre p1 s.avl)) (r1.pre p2) r2
def OpB (b : List W → M W) (v : List T → Q T) : Prop := ∀ (h : Hw) (X : Nat → Prop) (ts : List T) (ws : List W), (∀ j, X j → j < h.length) → Vals' h X ts ws → QR X h (rT X) (v ts) (b ws h)
/-- .. that make a new object -/
def OpN (b : List W → M W) (v : List T → Q T) : Prop := ∀ (h : Hw) (X : Nat → Prop) (ts : List T) (ws : List W), (∀ j, X j → j < h.length) → Vals' h X ts ws → QR X h (rF X h.length) (v ts) (b ws h)
def pCall (f : List T → Q T) (a : PA) : PE := fun s => (a s).bind f
theorem xe_callB {b : List W → M W} {v : List T → Q T} (op : OpB b v) (hr : XVA N mr pr) : XE N (mCall b mr) (pCall v pr) := fun X A ps sw h a s =>
  qr_bind (hr X A ps sw h a s) fun ts ws h1 p1 r1 => op h1 _ ts ws (avl_pre p1 s.avl) r1
theorem xf_callB {b : List W → M W} {v : List T → Q T} (op : OpN b v) (hr : XVA N mr pr) : XF N (mCall b mr) (pCall v pr) := fun X A ps sw h a s =>
  qr_bind (hr X A ps sw h a s) fun ts ws h1 p1 r1 => qr_mono (op h1 _ ts ws (avl_pre p1 s.avl) r1) fun t w h' p r => by
    obtain ⟨j, o, rfl, hj, e, u, r⟩ := r
    exact ⟨j, o, rfl, Nat.le_trans p1.length_le hj, e, u, r⟩
def insT (x : T) (C : Str) : Bool := match x with
  | .ins D _ => decide (D = C)
  | _ => false
theorem val_ins {h : Hw} {X : Nat → Prop} {t : T} {w : W} {C : Str} (r : Val h X t w) : insB h w C = insT t C := by
  cases r with
  | ref e r =>
    unfold insB
    simp only [e]
    cases r <;> rfl
  | _ => rfl
def tyT : T → Option String
  | .non => some "NoneType"
  | .bl _ => some "bool"
  | .int _ => some "int"
  | .str _ => some "str"
  | .tup _ => some "tuple"
  | .rol _ => some "list"
  | .lst _ => some "list"
  | .dic _ => some "dict"
  | _ => none
theorem val_ty {h : Hw} {X : Nat → Prop} {t : T} {w : W} (r : Val h X t w) : tyName h w = tyT t := by
  cases r with
  | ref e r =>
    unfold tyName
    simp only [e]
    cases r <;> rfl
  | _ => rfl
theorem lookup_rep {h : Hw} {X : Nat → Prop} {f : Str} : ∀ {fs : List (Str × T)} {fw : List (Str × W)}, fs.map (·.1) = fw.map (·.1) → Reps h X (fs.map (·.2)) (fw.map (·.2)) → match fs.lookup f with
    | some t => ∃ w, fw.lookup f = some w ∧ Rep h X t w
    | none => fw.lookup f = none
  | [], [], _, _ => rfl
  | (g, t) :: fs, (g', w) :: fw, e, r => by
    have e1 : g = g' := (List.cons.inj e).1
    subst e1
    cases r with
    | cons r rs =>
      rw [List.lookup, List.lookup]
      cases q : f == g with
      | true => exact ⟨w, rfl, r⟩
      | false => exact lookup_rep (List.cons.inj e).2 rs
  | [], _ :: _, e, _ => by cases e
  | _ :: _, [], e, _ => by cases e
def uFld (C f : Str) (x : T) : Q T := match x with
  | .ins D fs => if D = C then (match fs.lookup f with
    | some t => .ok t
    | none => .no) else .no
  | _ => .no
def pFld (C f : Str) (a : PE) : PE := fun s => (a s).bind (uFld C f)
theorem xe_fld {C f : Str} (ha : XV N ma pa) : XE N (mFld C f ma) (pFld C f pa) := fun X A ps sw h a s => by
  refine qr_bind (ha X A ps sw h a s) fun x wx h1 p1 r1 => ?_
  cases r1 with
  | ref e r =>
    cases r with
    | ins k r =>
      rename_i D fs fw
      unfold uFld
      dsimp only
      unfold fldOf
      simp only [e]
      by_cases hD : D = C
      · rw [if_pos hD, if_pos hD]
        have z := lookup_rep (f := f) k r
        cases q : fs.lookup f with
        | none => exact trivial
        | some t =>
          rw [q] at z
          obtain ⟨w, ew, rw'⟩ := z
          rw [ew]
          exact qr_ok rw'
      · rw [if_neg hD]
        exact trivial
    | _ => exact trivial
  | _ => exact trivial
def uIsi (ty : String) (x : T) : Q T := match tyT x with
  | some n => match kitB n ty with
    | some b => .ok (.bl b)
    | none => .no
  | none => .no
def pIsi (ty : String) (a : PE) : PE := fun s => (a s).bind (uIsi ty)
theorem xe_isi {ty : String} (ha : XV N ma pa) : XE N (mIsi ty ma) (pIsi ty pa) := fun X A ps sw h a s => by
  refine qr_bind (ha X A ps sw h a s) fun x wx h1 p1 r1 => ?_
  unfold uIsi
  rw [val_ty r1]
  cases tyT x with
  | none => exact trivial
  | some n =>
    dsimp only
    cases kitB n ty with
    | none => exact trivial
    | some b => exact qr_ok (.bl b)
def uIsi2 (S ty : String) (x : T) : Q T := match tyT x with
  | some n => match kitB n S, kitB n ty with
    | some b, some c => .ok (.bl (b || c))
    | _, _ => .no
  | none => .no
def pIsi2 (S ty : String) (a : PE) : PE := fun s => (a s).bind (uIsi2 S ty)
theorem xe_isi2 {S ty : String} (ha : XV N ma pa) : XE N (mIsi2 S ty ma) (pIsi2 S ty pa) := fun X A ps sw h a s => by
  refine qr_bind (ha X A ps sw h a s) fun x wx h1 p1 r1 => ?_
  unfold uIsi2
  rw [val_ty r1]
  cases tyT x with
  | none => exact trivial
  | some n =>
    dsimp only
    cases kitB n S with
    | none => exact trivial
    | some b =>
      cases kitB n ty with
      | none => exact trivial
      | some c => exact qr_ok (.bl (b || c))
def tyInT (x : T) (tys : List String) : Bool := match tyT x with
  | some n => tys.contains n
  | none => false
theorem val_tyIn {h : Hw} {X : Nat → Prop} {t : T} {w : W} {tys : List String} (r : Val h X t w) : tyIn h w tys = tyInT t tys := by
  unfold tyIn tyInT
  rw [val_ty r]
  all_goals (cases tyT t <;> rfl)
def uIsiC (tab : List (Str × Bool)) (tys : List String) (x : T) : Q T := match tab.find? fun q => insT x q.1 with
  | some q => .ok (.bl q.2)
  | none => if tyInT x tys = true then .ok (.bl false) else .no
def pIsiC (tab : List (Str × Bool)) (tys : List String) (a : PE) : PE := fun s => (a s).bind (uIsiC tab tys)
theorem xe_isiC {tab : List (Str × Bool)} {tys : List String} (ha : XV N ma pa) : XE N (mIsiC tab tys ma) (pIsiC tab tys pa) := fun X A ps sw h a s => by
  refine qr_bind (ha X A ps sw h a s) fun x wx h1 p1 r1 => ?_
  unfold uIsiC
  have e : (fun q : Str × Bool => insB h1 wx q.1) = fun q => insT x q.1 := funext fun q => val_ins r1
  rw [e, val_tyIn r1]
  cases tab.find? fun q => insT x q.1 with
  | some q => exact qr_ok (.bl q.2)
  | none =>
    dsimp only
    split
    · exact qr_ok (.bl false)
    · exact trivial
end
def tInts : List T → Option (List Int) := mapO fun t => match t with
  | .int i => some i
  | _ => none
def tBls : List T → Option (List Bool) := mapO fun t => match t with
  | .bl i => some i
  | _ => none
section
variable {h : Hw} {X : Nat → Prop} {ts : List T} {ws : List W}
theorem reps_ints {ns : List Int} (r : Reps h X ts ws) (e : tInts ts = some ns) : wInts ws = some ns := reps_mapO (fun t w a r e => by
  cases r with
  | int i => exact e
  | ref n e' r => cases r <;> cases e
  | _ => cases e) r e
theorem reps_bls {ns : List Bool} (r : Reps h X ts ws) (e : tBls ts = some ns) : wBls ws = some ns := reps_mapO (fun t w a r e => by
  cases r with
  | bl i => exact e
  | ref n e' r => cases r <;> cases e
  | _ => cases e) r e
end
/-- one argument -/
def v1 (g : T → Q T) : List T → Q T
  | [x] => g x
  | _ => .no
theorem opB_1 {b : List W → M W} {g : T → Q T} (H : ∀ (h : Hw) (X : Nat → Prop) (x : T) (w : W), (∀ j, X j → j < h.length) → Val h X x w → QR X h (rT X) (g x) (b [w] h)) : OpB b (v1 g) := fun h X ts ws l r => by
  cases r with
  | nil => exact trivial
  | cons r rs =>
    cases rs with
    | nil => exact H h X _ _ l r
    | cons _ _ => exact trivial
theorem opN_1 {b : List W → M W} {g : T → Q T} (H : ∀ (h : Hw) (X : Nat → Prop) (x : T) (w : W), (∀ j, X j → j < h.length) → Val h X x w → QR X h (rF X h.length) (g x) (b [w] h)) : OpN b (v1 g) := fun h X ts ws l r => by
  cases r with
  | nil => exact trivial
  | cons r rs =>
    cases rs with
    | nil => exact H h X _ _ l r
    | cons _ _ => exact trivial
def uLen (x : T) : Q T := match x with
  | .str z => if z.length ≤ lim then .ok (.int z.length) else .no
  | .tup xs => .ok (.int xs.length)
  | .lst xs => .ok (.int xs.length)
  | .rol xs => .ok (.int xs.length)
  | _ => .no
def vLen := v1 uLen
theorem op_len : OpB bLen vLen := opB_1 fun h X x w l r => by
  cases r with
  | str z =>
    unfold uLen bLen
    dsimp only
    split
    · exact qr_ok (Rep.int _)
    · exact trivial
  | tup r =>
    show QR X h (rT X) (.ok (.int _)) (.ok (.int _) h)
    rw [r.length]
    exact qr_ok (.int _)
  | rol r =>
    show QR X h (rT X) (.ok (.int _)) (.ok (.int _) h)
    rw [r.length]
    exact qr_ok (.int _)
  | ref e r =>
    cases r with
    | lst r =>
      unfold bLen items
      simp only [e]
      show QR X h (rT X) (.ok (.int _)) (.ok (.int _) h)
      rw [r.length]
      exact qr_ok (.int _)
    | _ => exact trivial
  | _ => exact trivial
def uAbs : T → Q T
  | .int i => .ok (.int (if i < 0 then -i else i))
  | _ => .no
def vAbs := v1 uAbs
theorem op_abs : OpB bAbs vAbs := opB_1 fun h X x w l r => by
  cases r with
  | int i => exact qr_ok (.int _)
  | ref e r => cases r <;> exact trivial
  | _ => exact trivial
def uInt : T → Q T
  | .int i => .ok (.int i)
  | .bl b => .ok (.int (if b then 1 else 0))
  | _ => .no
def vInt := v1 uInt
theorem op_int : OpB bInt vInt := opB_1 fun h X x w l r => by
  cases r with
  | int i => exact qr_ok (.int _)
  | bl b => exact qr_ok (.int _)
  | ref e r => cases r <;> exact trivial
  | _ => exact trivial
def uRepr : T → Q T
  | .bl b => .ok (.str (if b then Str.ofString "True" else Str.ofString "False"))
  | .non => .ok (.str (Str.ofString "None"))
  | .int i => if i.natAbs.log2 < 1920 then .ok (.str (toString i)) else .no
  | .str x => if (reprText x).length ≤ lim then .ok (.str (reprText x)) else .no
  | _ => .no
def vRepr := v1 uRepr
theorem op_repr : OpB bRepr vRepr := opB_1 fun h X x w l r => by
  cases r with
  | bl b => exact qr_ok (.str _)
  | non => exact qr_ok (.str _)
  | int i =>
    unfold uRepr bRepr
    dsimp only
    split
    · exact qr_ok (Rep.str _)
    · exact trivial
  | str i =>
    unfold uRepr bRepr
    dsimp only
    split
    · exact qr_ok (Rep.str _)
    · exact trivial
  | ref e r => cases r <;> exact trivial
  | _ => exact trivial
def uSum (x : T) : Q T := match tItems x with
  | some xs => match tInts xs with
    | some ns => .ok (.int ns.sum)
    | none => .no
  | none => .no
def vSum := v1 uSum
theorem op_sum : OpB bSum vSum := opB_1 fun h X x w l r => by
  unfold uSum
  split
  · rename_i xs e
    obtain ⟨ws, e1, r1⟩ := val_items r e
    split
    · rename_i ns en
      unfold bSum
      dsimp only
      rw [e1]
      dsimp only
      rw [reps_ints r1 en]
      exact qr_ok (.int _)
    · exact trivial
  · exact trivial
def uAll (x : T) : Q T := match tItems x with
  | some xs => match tBls xs with
    | some ns => .ok (.bl (ns.all id))
    | none => .no
  | none => .no
def vAll := v1 uAll
theorem op_all : OpB bAll vAll := opB_1 fun h X x w l r => by
  unfold uAll
  split
  · rename_i xs e
    obtain ⟨ws, e1, r1⟩ := val_items r e
    split
    · rename_i ns en
      unfold bAll
      dsimp only
      rw [e1]
      dsimp only
      rw [reps_bls r1 en]
      exact qr_ok (.bl _)
    · exact trivial
  · exact trivial
def vMax : List T → Q T
  | [.int i, .int j] => .ok (.int (if j > i then j else i))
  | _ => .no
def vMin : List T → Q T
  | [.int i, .int j] => .ok (.int (if j < i then j else i))
  | _ => .no
theorem vals2 {h : Hw} {X : Nat → Prop} {ts : List T} {ws : List W} (r : Vals' h X ts ws) {i j : Int} (e : ts = [.int i, .int j]) : ws = [.int i, .int j] := by
  subst e
  cases r with
  | cons r rs =>
    cases rs with
    | cons r2 rs =>
      cases rs
      cases r with
      | int i =>
        cases r2 with
        | int j => rfl
        | ref e r => cases r
      | ref e r => cases r
theorem op_max : OpB bMax vMax := fun h X ts ws l r => by
  unfold vMax
  split
  · rw [vals2 r rfl]
    exact qr_ok (.int _)
  · exact trivial
theorem op_min : OpB bMin vMin := fun h X ts ws l r => by
  unfold vMin
  split
  · rw [vals2 r rfl]
    exact qr_ok (.int _)
  · exact trivial
def uList1 (x : T) : Q T := match tItemsT x with
  | some xs => .ok (.lst xs)
  | none => .no
def vList1 := v1 uList1
theorem op_list1 : OpN bList1 vList1 := opN_1 fun h X x w l r => by
  cases r with
  | tup r => exact qr_new (Nat.le_refl _) (.lst r)
  | rol r => exact qr_new (Nat.le_refl _) (.lst r)
  | ref e r =>
    cases r with
    | lst r =>
      unfold bList1 items
      simp only [e]
      exact qr_new (Nat.le_refl _) (.lst r)
    | _ => exact trivial
  | _ => exact trivial
def uTup1 (x : T) : Q T := match tItemsT x with
  | some xs => .ok (.tup xs)
  | none => .no
def vTup1 := v1 uTup1
theorem op_tup1 : OpB bTup1 vTup1 := opB_1 fun h X x w l r => by
  cases r with
  | tup r => exact qr_ok (.tup r)
  | rol r => exact qr_ok (.tup r)
  | ref e r =>
    cases r with
    | lst r =>
      unfold bTup1 items
      simp only [e]
      exact qr_ok (Rep.tup r)
    | _ => exact trivial
  | _ => exact trivial
end EL.Pu
namespace EL.Pu
open PySem PySem.Spec L2 EL
open PyProof.Rows hiding St
mutual
def tNk : T → Option NestedKey
  | .non => some .none
  | .int i => some (.num i)
  | .str x => some (.text x)
  | .tup ts => (tNks ts).map .tup
  | _ => none
def tNks : List T → Option (List NestedKey)
  | [] => some []
  | t :: ts => match tNk t, tNks ts with
    | some k, some ks => some (k :: ks)
    | _, _ => none
end
mutual
theorem rep_nk {h : Hw} {X : Nat → Prop} : ∀ {t : T} {w : W} {k : NestedKey}, Rep h X t w → tNk t = some k → nkW w = some k
  | _, _, k, .non, e => by cases e; rfl
  | _, _, k, .bl b, e => by cases e
  | _, _, k, .int i, e => by cases e; rfl
  | _, _, k, .str x, e => by cases e; rfl
  | _, _, k, .tup r, e => by
    unfold tNk at e
    obtain ⟨ks, e1, rfl⟩ := Option.map_eq_some_iff.mp e
    unfold nkW
    rw [reps_nk r e1]
    rfl
  | _, _, k, .rol r, e => by cases e
  | _, _, k, .ref n e' r, e => by cases r <;> cases e
theorem reps_nk {h : Hw} {X : Nat → Prop} : ∀ {ts : List T} {ws : List W} {ks : List NestedKey}, Reps h X ts ws → tNks ts = some ks → nkWs ws = some ks
  | _, _, ks, .nil, e => by cases e; rfl
  | _, _, ks, .cons r rs, e => by
    unfold tNks at e
    split at e
    · rename_i k ks' e1 e2
      cases e
      unfold nkWs
      rw [rep_nk r e1, reps_nk rs e2]
    · cases e
end
def tupNk (x : T) : Option NestedKey := match x with
  | .tup ts => match tNk (.tup ts) with
    | some k => if k.depth ≤ 8 then some k else none
    | none => none
  | _ => none
theorem rep_tupNk {h : Hw} {X : Nat → Prop} {t : T} {w : W} {k : NestedKey} (r : Rep h X t w) (e : tupNk t = some k) : nkT w = some k := by
  cases r with
  | tup r =>
    unfold tupNk at e
    dsimp only at e
    split at e
    · rename_i k' e1
      have z := rep_nk (X := X) (.tup r) e1
      unfold nkT
      dsimp only
      rw [z]
      exact e
    · cases e
  | ref n e' r => cases r <;> cases e
  | _ => cases e
theorem val_tupNk {h : Hw} {X : Nat → Prop} {t : T} {w : W} {k : NestedKey} (r : Val h X t w) (e : tupNk t = some k) : nkT w = some k := by
  cases r with
  | tup r => exact rep_tupNk (X := X) (.tup r) e
  | ref e' r => cases r <;> cases e
  | _ => cases e
mutual
def kT : NestedKey → T
  | .none => .non
  | .num i => .int i
  | .text x => .str x
  | .tup ks => .tup (kTs ks)
def kTs : List NestedKey → List T
  | [] => []
  | k :: ks => kT k :: kTs ks
end
mutual
theorem rep_kT {h : Hw} {X : Nat → Prop} : ∀ k : NestedKey, Rep h X (kT k) (wKey k)
  | .none => .non
  | .num i => .int i
  | .text x => .str x
  | .tup ks => .tup (reps_kT ks)
theorem reps_kT {h : Hw} {X : Nat → Prop} : ∀ ks : List NestedKey, Reps h X (kTs ks) (wKeys ks)
  | [] => .nil
  | k :: ks => .cons (rep_kT k) (reps_kT ks)
end
def uSortSetN (x : T) : Q T := match tItems x with
  | some xs => (match mapO tupNk xs with
    | some ks => if (decide (ks.length < 64) && alikeN ks && firmN ks) = true then .ok (.lst ((sortN (dedU ks)).map kT)) else .no
    | none => .no)
  | none => .no
def vSortSetN := v1 uSortSetN
theorem op_sortSetN : OpN bSortSetN vSortSetN := opN_1 fun h X x w l r => by
  unfold uSortSetN
  split
  · rename_i xs e
    obtain ⟨ws, e1, r1⟩ := val_items r e
    split
    · rename_i ks en
      unfold bSortSetN
      dsimp only
      rw [e1]
      dsimp only
      rw [reps_mapO (fun t w a r e => rep_tupNk r e) r1 en]
      dsimp only
      split
      · exact qr_new (Nat.le_refl _) (.lst (Reps.map rep_kT _))
      · exact trivial
    · exact trivial
  · exact trivial
def sortTD (ts : List T) (ds : List PyData) : List T := (sortU leP (ts.zip ds)).map (·.1)
theorem reps_sort {h : Hw} {X : Nat → Prop} {ts : List T} {ws : List W} (r : Reps h X ts ws) (ds : List PyData) : Reps h X (sortTD ts ds) (sortWD ws ds) := by
  have key : ∀ (l : List ((T × W) × PyData)), (∀ e ∈ l, Rep h X e.1.1 e.1.2) → Reps h X ((sortU leP (l.map fun e => (e.1.1, e.2))).map (·.1)) ((sortU leP (l.map fun e => (e.1.2, e.2))).map (·.1)) := by
    intro l hl
    rw [sortU_map (le := leP) (le' := leP) (f := fun e : (T × W) × PyData => (e.1.1, e.2)) (fun _ _ => rfl) l, sortU_map (le := leP) (le' := leP) (f := fun e : (T × W) × PyData => (e.1.2, e.2)) (fun _ _ => rfl) l]
    rw [List.map_map, List.map_map]
    have hs : ∀ e ∈ sortU leP l, Rep h X e.1.1 e.1.2 := fun e he => hl e ((sortU_perm leP l).mem_iff.mp he)
    revert hs
    generalize sortU leP l = s
    intro hs
    induction s with
    | nil => exact .nil
    | cons a s ih => exact .cons (hs a List.mem_cons_self) (ih fun e he => hs e (List.mem_cons_of_mem _ he))
  have zip : ∀ (ts : List T) (ws : List W) (ds : List PyData), Reps h X ts ws → ∃ l : List ((T × W) × PyData), (∀ e ∈ l, Rep h X e.1.1 e.1.2) ∧ l.map (fun e => (e.1.1, e.2)) = ts.zip ds ∧ l.map (fun e => (e.1.2, e.2)) = ws.zip ds := by
    intro ts
    induction ts with
    | nil =>
      intro ws ds r
      cases r
      exact ⟨[], fun e he => (nomatch he), rfl, rfl⟩
    | cons t ts ih =>
      intro ws ds r
      cases r with
      | cons r rs =>
        rename_i w ws
        cases ds with
        | nil => exact ⟨[], fun e he => (nomatch he), rfl, rfl⟩
        | cons d ds =>
          obtain ⟨l, h1, h2, h3⟩ := ih ws ds rs
          refine ⟨((t, w), d) :: l, fun e he => ?_, ?_, ?_⟩
          · rcases List.mem_cons.mp he with rfl | he
            · exact r
            · exact h1 e he
          · rw [List.map_cons, h2]; rfl
          · rw [List.map_cons, h3]; rfl
  obtain ⟨l, h1, h2, h3⟩ := zip ts ws ds r
  have z := key l h1
  rw [h2, h3] at z
  exact z
def keyT : T → Option Key
  | .int i => some (.inl i)
  | .str x => some (.inr x)
  | _ => none
section
variable {κ : Type} [DecidableEq κ]
def putT (kvs : List (κ × T)) (k : κ) (t : T) : List (κ × T) := if (kvs.any fun kv => decide (kv.1 = k)) = true then kvs.map (fun kv => if kv.1 = k then (kv.1, t) else kv) else kvs ++ [(k, t)]
variable {h : Hw} {X : Nat → Prop}
theorem rep_len {kvs : List (κ × T)} {kws : List (κ × W)} (e : kvs.map (·.1) = kws.map (·.1)) : kvs.length = kws.length := by
  have := congrArg List.length e
  rw [List.length_map, List.length_map] at this
  exact this
end
section
variable {N : List Nat} {ma mb mk mv : ME} {pa pb pk pv : PE}
def pSetN0 : PE := fun _ => .ok (.sT [])
theorem xf_setN0 : XF N bSetN0 pSetN0 := fun X A ps sw h a s => qr_new (Nat.le_refl _) (.sT [])
def pRev (a b : PE) : PE := fun s => (a s).bind fun x => (b s).bind fun y => match y, tItems x with
  | .int i, some xs => if i = -1 then .ok (.lst xs.reverse) else .no
  | _, _ => .no
theorem xe_rev (ha : XV N ma pa) (hb : XV N mb pb) : XE N (mRev ma mb) (pRev pa pb) := fun X A ps sw h a s => by
  refine qr_bind (ha X A ps sw h a s) fun x wx h1 p1 r1 => qr_bind (hb X A ps sw h1 a (s.pre p1)) fun y wy h2 p2 r2 => ?_
  split
  · rename_i i xs e
    cases r2 with
    | int i =>
      obtain ⟨ws, e1, r⟩ := val_items (r1.pre p2) e
      rw [e1]
      dsimp only
      split
      · exact qr_obj (avl_pre p2 (avl_pre p1 s.avl)) (.lst r.reverse)
      · exact trivial
    | ref e r => cases r
  · exact trivial
end
def uInSN (neg : Bool) (x y : T) : Q T := match tupNk x, y with
  | some k, .sT ks => .ok (.bl (neg != ks.contains k))
  | _, _ => .no
theorem op_inSN {neg : Bool} : Op2 (fInSN neg) (uInSN neg) := fun h X x y wx wy l r1 r2 => by
  unfold uInSN
  split
  · rename_i k ks e
    cases r2 with
    | ref e' r =>
      cases r with
      | sT ks =>
        unfold fInSN snOf
        rw [val_tupNk r1 e]
        simp only [e']
        exact qr_ok (.bl _)
  · exact trivial
end EL.Pu
namespace EL.Pu
open PySem PySem.Spec L2 EL
open PyProof.Rows hiding St
def Ext (Y : Nat → Prop) (h h' : Hw) : Prop := h.length ≤ h'.length ∧ ∀ (j : Nat) (o : EL.O), ¬ Y j → h[j]? = some o → h'[j]? = some o
theorem Ext.refl {Y : Nat → Prop} {h : Hw} : Ext Y h h := ⟨Nat.le_refl _, fun _ _ _ e => e⟩
theorem Ext.trans {Y : Nat → Prop} {h h1 h2 : Hw} (a : Ext Y h h1) (b : Ext Y h1 h2) : Ext Y h h2 := ⟨Nat.le_trans a.1 b.1, fun j o n e => b.2 j o n (a.2 j o n e)⟩
theorem Ext.of_pre {Y : Nat → Prop} {h h' : Hw} (p : h <+: h') : Ext Y h h' := ⟨p.length_le, fun _ _ _ e => pre_get p e⟩
theorem Ext.mono {Y Z : Nat → Prop} {h h' : Hw} (a : Ext Y h h') (m : ∀ j, Y j → Z j) : Ext Z h h' := ⟨a.1, fun j o n e => a.2 j o (fun z => n (m j z)) e⟩
theorem pre_of {h h' : Hw} (e : ∀ (j : Nat) (o : EL.O), h[j]? = some o → h'[j]? = some o) : h <+: h' := by
  rw [List.prefix_iff_eq_take]
  refine List.ext_getElem? fun j => ?_
  by_cases hj : j < h.length
  · rw [List.getElem?_take_of_lt hj, e j h[j] (List.getElem?_eq_getElem hj), List.getElem?_eq_getElem hj]
  · rw [List.getElem?_eq_none (by omega), List.getElem?_eq_none]
    rw [List.length_take]
    omega
theorem Rep.ext {h h' : Hw} {X : Nat → Prop} {t : T} {w : W} (p : Ext X h h') (r : Rep h X t w) : Rep h' X t w := r.up (fun _ a b => absurd a b) fun j o n e => ⟨o, p.2 j o n e, .refl _⟩
theorem Reps.ext {h h' : Hw} {X : Nat → Prop} {t : List T} {w : List W} (p : Ext X h h') (r : Reps h X t w) : Reps h' X t w := r.up (fun _ a b => absurd a b) fun j o n e => ⟨o, p.2 j o n e, .refl _⟩
theorem Orp.ext {h h' : Hw} {X : Nat → Prop} {t : T} {w : EL.O} (p : Ext X h h') (r : Orp h X t w) : Orp h' X t w := r.up (fun _ a b => absurd a b) fun j o n e => ⟨o, p.2 j o n e, .refl _⟩
/-- a source gives these items, whatever is changed within X -/
def SrcOk (X : Nat → Prop) (h : Hw) (xs : List T) (s : Src × Nat) : Prop := xs.length ≤ s.2 ∧
  (∀ (i : Nat) (t : T), xs[i]? = some t → ∃ w, Rep h X t w ∧ ∀ h', Ext X h h' → s.1.item i h' = some (some w)) ∧ ∀ i : Nat, xs[i]? = none → ∀ h', Ext X h h' → s.1.item i h' = some none
theorem SrcOk.wide {X Y : Nat → Prop} {h : Hw} {xs : List T} {s : Src × Nat} (H : SrcOk X h xs s) (y : ∀ j, Y j → X j ∨ h.length ≤ j) : SrcOk Y h xs s := by
  have up : ∀ h', Ext Y h h' → Ext X h h' := fun h' e => ⟨e.1, fun j o n q => e.2 j o (fun z => (y j z).elim n fun l => by rw [get_none l] at q; cases q) q⟩
  refine ⟨H.1, fun i t q => ?_, fun i q h' e => H.2.2 i q h' (up h' e)⟩
  obtain ⟨w, r, k⟩ := H.2.1 i t q
  exact ⟨w, r.wide y, fun h' e => k h' (up h' e)⟩
theorem SrcOk.ext {X : Nat → Prop} {h h1 : Hw} {xs : List T} {s : Src × Nat} (H : SrcOk X h xs s) (e : Ext X h h1) : SrcOk X h1 xs s := by
  refine ⟨H.1, fun i t q => ?_, fun i q h' e' => H.2.2 i q h' (e.trans e')⟩
  obtain ⟨w, r, k⟩ := H.2.1 i t q
  exact ⟨w, r.ext e, fun h' e' => k h' (e.trans e')⟩
abbrev XI (N : List Nat) (m : MI) (p : PS → Q (List T)) : Prop := XG N (fun X _ xs s h => SrcOk X h xs s) m p
section
variable {N : List Nat} {ma mb : ME} {pa pb : PE}
theorem src_reps {X : Nat → Prop} {h : Hw} {ts : List T} {ws : List W} (r : Reps h X ts ws) {s : Src} (e : ∀ h', Ext X h h' → ∀ i, s.item i h' = some ws[i]?) : SrcOk X h ts (s, ws.length) := by
  refine ⟨Nat.le_of_eq r.length, fun i t q => ?_, fun i q h' x => ?_⟩
  · obtain ⟨w, ew, rw'⟩ := r.get q
    exact ⟨w, rw', fun h' x => by rw [e h' x i, ew]⟩
  · rw [e h' x i, List.getElem?_eq_none]
    rw [← r.length]
    exact List.getElem?_eq_none_iff.mp q
def strItems (x : Str) : List T := x.cps.toList.map fun c => T.str ⟨#[c]⟩
def uAnyI (x : T) : Q (List T) := match x with
  | .lst ts => .ok ts
  | .rol ts => .ok ts
  | .tup ts => .ok ts
  | .str x => .ok (strItems x)
  | _ => .no
def piAny (a : PE) : PS → Q (List T) := fun s => (a s).bind uAnyI
theorem arr_get {x : Str} {i : Nat} : x.cps[i]? = x.cps.toList[i]? := by simp
theorem src_str {X : Nat → Prop} {h : Hw} (x : Str) : SrcOk X h (strItems x) (.str x, x.cps.size) := by
  refine ⟨by unfold strItems; simp, fun i t q => ?_, fun i q h' _ => ?_⟩
  · unfold strItems at q
    rw [List.getElem?_map] at q
    obtain ⟨c, e1, rfl⟩ := Option.map_eq_some_iff.mp q
    refine ⟨.str ⟨#[c]⟩, .str _, fun h' _ => ?_⟩
    show some (x.cps[i]?.map fun c => W.str ⟨#[c]⟩) = _
    rw [arr_get, e1]
    rfl
  · unfold strItems at q
    rw [List.getElem?_map] at q
    show some (x.cps[i]?.map fun c => W.str ⟨#[c]⟩) = _
    rw [arr_get, Option.map_eq_none_iff.mp q]
    rfl
theorem xi_any (ha : XE N ma pa) : XI N (iAny ma) (piAny pa) := fun X A ps sw h a s => qr_bind (ha X A ps sw h a s) fun x wx h1 p1 r1 => by
  cases r1 with
  | str x => exact ⟨_, _, rfl, List.prefix_refl _, src_str x⟩
  | tup r => exact ⟨_, _, rfl, List.prefix_refl _, src_reps r fun _ _ _ => rfl⟩
  | rol r => exact ⟨_, _, rfl, List.prefix_refl _, src_reps r fun _ _ _ => rfl⟩
  | ref n e r =>
    cases r with
    | lst r =>
      rename_i p ts ws
      have ew : (match h1[p]? with
        | some (.lst xs) => R.ok (Src.lst p, xs.length) h1
        | _ => R.no) = R.ok (Src.lst p, ws.length) h1 := by rw [e]
      show QR _ h1 _ (.ok ts) (match h1[p]? with
        | some (.lst xs) => R.ok (Src.lst p, xs.length) h1
        | _ => R.no)
      rw [ew]
      exact ⟨_, _, rfl, List.prefix_refl _, src_reps r fun h' x i => by
        unfold Src.item
        simp only [x.2 _ _ n e]⟩
    | _ => exact trivial
  | _ => exact trivial
def uRg (lo : Int) (n : Nat) : List T := (List.range n).map fun i => T.int (lo + (i : Nat))
theorem src_rng {X : Nat → Prop} {h : Hw} (lo : Int) (n : Nat) : SrcOk X h (uRg lo n) (.rng lo n, n) := by
  refine ⟨by unfold uRg; simp, fun i t q => ?_, fun i q h' _ => ?_⟩
  · unfold uRg at q
    rw [List.getElem?_map] at q
    obtain ⟨c, e1, rfl⟩ := Option.map_eq_some_iff.mp q
    obtain ⟨hi, e2⟩ := List.getElem?_eq_some_iff.mp e1
    rw [List.getElem_range] at e2
    subst e2
    rw [List.length_range] at hi
    refine ⟨.int (lo + (i : Nat)), .int _, fun h' _ => ?_⟩
    show some (if i < n then some (W.int (lo + i)) else none) = _
    rw [if_pos hi]
  · unfold uRg at q
    rw [List.getElem?_map] at q
    have hi := List.getElem?_eq_none_iff.mp (Option.map_eq_none_iff.mp q)
    rw [List.length_range] at hi
    show some (if i < n then some (W.int (lo + i)) else none) = _
    rw [if_neg (by omega)]
def piRg1 (a : PE) : PS → Q (List T) := fun s => (a s).bind fun x => match x with
  | .int j => if -big ≤ j ∧ j < big then .ok (uRg 0 j.toNat) else .no
  | _ => .no
theorem xi_rg1 (ha : XE N ma pa) : XI N (iRg1 ma) (piRg1 pa) := fun X A ps sw h a s => qr_bind (ha X A ps sw h a s) fun x wx h1 p1 r1 => by
  cases r1 with
  | int j =>
    dsimp only
    split
    · exact ⟨_, _, rfl, List.prefix_refl _, src_rng 0 j.toNat⟩
    · exact trivial
  | ref n e r => cases r <;> exact trivial
  | _ => exact trivial
def enuT (ts : List T) : List T := ts.zipIdx.map fun e => .tup [.int (e.2 : Nat), e.1]
theorem enuT_get (ts : List T) (i : Nat) : (enuT ts)[i]? = ts[i]?.map fun t => .tup [.int (i : Nat), t] := by
  unfold enuT
  rw [List.getElem?_map, List.getElem?_zipIdx]
  cases ts[i]? <;> simp
theorem src_enu {X : Nat → Prop} {h : Hw} {ts : List T} {ws : List W} (r : Reps h X ts ws) {s : Src} (e : ∀ h', Ext X h h' → ∀ i, s.item i h' = some (ws[i]?.map fun x => .tup [.int i, x])) : SrcOk X h (enuT ts) (s, ws.length) := by
  refine ⟨by unfold enuT; simp [r.length], fun i t q => ?_, fun i q h' x => ?_⟩
  · rw [enuT_get] at q
    obtain ⟨u, e1, rfl⟩ := Option.map_eq_some_iff.mp q
    obtain ⟨w, ew, rw'⟩ := r.get e1
    exact ⟨_, .tup (.cons (.int _) (.cons rw' .nil)), fun h' x => by rw [e h' x i, ew]; rfl⟩
  · rw [enuT_get] at q
    have hi := List.getElem?_eq_none_iff.mp (Option.map_eq_none_iff.mp q)
    rw [e h' x i, List.getElem?_eq_none (by rw [← r.length]; exact hi)]
    rfl
def piEnu (a : PE) : PS → Q (List T) := fun s => (a s).bind fun x => match tItemsT x with
  | some ts => .ok (enuT ts)
  | none => .no
theorem xi_enu (ha : XE N ma pa) : XI N (iEnu ma) (piEnu pa) := fun X A ps sw h a s => qr_bind (ha X A ps sw h a s) fun x wx h1 p1 r1 => by
  cases r1 with
  | tup r => exact ⟨_, _, rfl, List.prefix_refl _, src_enu r fun _ _ _ => rfl⟩
  | rol r => exact ⟨_, _, rfl, List.prefix_refl _, src_enu r fun _ _ _ => rfl⟩
  | ref n e r =>
    cases r with
    | lst r =>
      rename_i p ts ws
      have ew : (match h1[p]? with
        | some (.lst xs) => R.ok (Src.enu p, xs.length) h1
        | _ => R.no) = R.ok (Src.enu p, ws.length) h1 := by rw [e]
      show QR _ h1 _ (.ok _) (match h1[p]? with
        | some (.lst xs) => R.ok (Src.enu p, xs.length) h1
        | _ => R.no)
      rw [ew]
      exact ⟨_, _, rfl, List.prefix_refl _, src_enu r fun h' x i => by
        unfold Src.item
        simp only [x.2 _ _ n e]⟩
    | _ => exact trivial
  | _ => exact trivial
end
/-- a value is put down in names that hold nothing that is changed -/
def XGt (N : List Nat) (g : MG) (p : T → PS → Option PS) : Prop := ∀ X A ps sw h t w ps', A.map (·.1) = N → Sto X A ps sw h → Rep h (av X A) t w → p t ps = some ps' → ∃ sw', g w sw h = .ok sw' h ∧ Sto X A ps' sw' h
def XGts (N : List Nat) (g : List W → SW → M SW) (p : List T → PS → Option PS) : Prop := ∀ X A ps sw h t w ps', A.map (·.1) = N → Sto X A ps sw h → Reps h (av X A) t w → p t ps = some ps' → ∃ sw', g w sw h = .ok sw' h ∧ Sto X A ps' sw' h
def pgNm (i : Nat) : T → PS → Option PS := fun t s => some (s.set i (some t))
theorem xg_nm {N : List Nat} (i : Nat) (hi : i ∉ N := by decide) : XGt N (gNm i) (pgNm i) := fun X A ps sw h t w ps' a s r e => by
  cases e
  exact ⟨_, rfl, s.set r (by rw [a]; exact hi)⟩
def pgsNil : List T → PS → Option PS := fun ts s => match ts with
  | [] => some s
  | _ => none
def pgsCons (g : T → PS → Option PS) (r : List T → PS → Option PS) : List T → PS → Option PS := fun ts s => match ts with
  | t :: ts => (g t s).bind (r ts)
  | [] => none
def pgTu (n : Nat) (r : List T → PS → Option PS) : T → PS → Option PS := fun t s => match t with
  | .tup ts => if ts.length = n then r ts s else none
  | _ => none
theorem xgs_nil {N : List Nat} : XGts N gsNil pgsNil := fun X A ps sw h t w ps' a s r e => by
  cases r with
  | nil => cases e; exact ⟨sw, rfl, s⟩
  | cons _ _ => cases e
theorem xgs_cons {N : List Nat} {g : MG} {pg : T → PS → Option PS} {r : List W → SW → M SW} {pr : List T → PS → Option PS} (hg : XGt N g pg) (hr : XGts N r pr) : XGts N (gsCons g r) (pgsCons pg pr) := fun X A ps sw h t w ps' a s rr e => by
  cases rr with
  | nil => cases e
  | cons q rs =>
    obtain ⟨s1, e1, e2⟩ := Option.bind_eq_some_iff.mp e
    obtain ⟨sw1, m1, z1⟩ := hg X A ps sw h _ _ s1 a s q e1
    obtain ⟨sw2, m2, z2⟩ := hr X A s1 sw1 h _ _ ps' a z1 rs e2
    refine ⟨sw2, ?_, z2⟩
    show bnd (g _ sw) _ h = _
    unfold bnd
    rw [m1]
    exact m2
theorem xg_tu {N : List Nat} {n : Nat} {r : List W → SW → M SW} {pr : List T → PS → Option PS} (hr : XGts N r pr) : XGt N (gTu n r) (pgTu n pr) := fun X A ps sw h t w ps' a s q e => by
  cases q with
  | tup rs =>
    unfold pgTu at e
    dsimp only at e
    split at e
    · rename_i hl
      obtain ⟨sw', m, z⟩ := hr X A ps sw h _ _ ps' a s rs e
      refine ⟨sw', ?_, z⟩
      unfold gTu
      dsimp only
      rw [if_pos (rs.length.symm.trans hl)]
      exact m
    · cases e
  | ref n e' r => cases r <;> cases e
  | _ => cases e
end EL.Pu
namespace EL.Pu
open PySem PySem.Spec L2 EL
open PyProof.Rows hiding St
def lcT (g : T → PS → Option PS) (t : PT) (e : PE) (s0 : PS) : List T → Q (List T)
  | [] => .ok []
  | x :: r => match g x s0 with
    | none => .no
    | some s => (t s).bind fun b => if b = true then (e s).bind fun y => (lcT g t e s0 r).bind fun ys => .ok (y :: ys) else lcT g t e s0 r
def finL (q : Q (List T)) : Q T := match q with
  | .ok ys => if ys.length ≤ lim then .ok (.lst ys) else .no
  | _ => .no
def pLc (it : PS → Q (List T)) (g : T → PS → Option PS) (t : PT) (e : PE) (vs : List Nat) : PE := fun s => (it s).bind fun xs => finL (lcT g t e (clr vs s) xs)
abbrev wid (X : Nat → Prop) (d : Nat) : Nat → Prop := fun i => X i ∨ i = d
section
variable {N : List Nat} {mi : MI} {pi : PS → Q (List T)} {g : MG} {pg : T → PS → Option PS} {mt : MT} {pt : PT} {me mk mv : ME} {pe pk pv : PE} {vs : List Nat}
/-- the state, where d is no place of it -/
theorem Sto.more {X : Nat → Prop} {A : List (Nat × Nat)} {ps : PS} {sw : SW} {h h' : Hw} {d : Nat} (s : Sto X A ps sw h) (hd : h.length ≤ d) (hd' : d < h'.length) (p : h <+: h') : Sto (wid X d) A ps sw h' := by
  refine s.up p.length_le (fun j z => .inl z) (fun j z => ?_) (fun j z => ?_) (pre_up p) fun j o _ e => pre_get p e
  · rcases z with z | z
    · exact .inl z
    · exact .inr (by rw [z]; exact hd)
  · rcases z with z | z
    · exact Nat.lt_of_lt_of_le (s.xl j z) p.length_le
    · rw [z]; exact hd'
theorem avw {X : Nat → Prop} {A : List (Nat × Nat)} {d j : Nat} : av (wid X d) A j ↔ wid (av X A) d j := by
  constructor
  · rintro ((z | z) | z)
    · exact .inl (.inl z)
    · exact .inr z
    · exact .inl (.inr z)
  · rintro ((z | z) | z)
    · exact .inl (.inl z)
    · exact .inr z
    · exact .inl (.inr z)
theorem Sto.ext {X : Nat → Prop} {A : List (Nat × Nat)} {ps : PS} {sw : SW} {h h' : Hw} {d : Nat} (s : Sto (Pu.wid X d) A ps sw h) (e : Ext (fun j => j = d) h h') : Sto (Pu.wid X d) A ps sw h' := by
  refine s.up e.1 (fun _ z => z) (fun _ z => .inl z) (fun j z => Nat.lt_of_lt_of_le (s.xl j z) e.1) (fun j o n q => ⟨o, e.2 j o (fun z => n (.inl (.inr z))) q, .refl _⟩) fun j o m q => e.2 j o (fun z => ?_) q
  obtain ⟨e0, he, e1⟩ := List.mem_map.mp m
  exact (s.lt e0.1 e0.2 he).2 (.inr (e1.trans z))
theorem app_run {d : Nat} {h : Hw} {y : W} {acc : List W} (e : h[d]? = some (.lst acc)) (hl : acc.length < lim) : app (.ref d) y h = .ok () (h.set d (.lst (acc ++ [y]))) := by
  unfold app
  simp only [e]
  rw [if_pos hl]
theorem lc_go (hg : XGt N g pg) (ht : XT N mt pt) (he : XE N me pe) {X : Nat → Prop} {A : List (Nat × Nat)} {ps : PS} {sw : SW} {d : Nat} {all : List T} {src : Src} {cnt : Nat} (ha : A.map (·.1) = N) (hv : ∀ i ∈ vs, i ∉ A.map (·.1)) :
    ∀ (xs : List T) (i n : Nat) (h : Hw) (acc : List W) (accT : List T), all.drop i = xs → xs.length < n → SrcOk (av (wid X d) A) h all (src, cnt) → Sto (wid X d) A ps sw h → h[d]? = some (.lst acc) → Reps h (av (wid X d) A) accT acc →
      match lcT pg pt pe (clr vs ps) xs with
      | .ok ys => accT.length + ys.length ≤ lim → ∃ h' accW, lcGo src g mt me vs (.ref d) sw i n h = .ok () h' ∧ Ext (fun j => j = d) h h' ∧ h'[d]? = some (.lst accW) ∧ Reps h' (av (wid X d) A) (accT ++ ys) accW
      | _ => True
  | [], i, 0, _, _, _, _, hn, _, _, _, _ => by cases hn
  | [], i, n + 1, h, acc, accT, hx, hn, hs, st, hd, hr => by
    intro hl
    have hi : all[i]? = none := by
      rw [List.getElem?_eq_none]
      have := congrArg List.length hx
      rw [List.length_drop, List.length_nil] at this
      omega
    refine ⟨h, acc, ?_, .refl, hd, by rw [List.append_nil]; exact hr⟩
    unfold lcGo
    rw [hs.2.2 i hi h .refl]
  | x :: xs, i, 0, _, _, _, _, hn, _, _, _, _ => by cases hn
  | x :: xs, i, n + 1, h, acc, accT, hx, hn, hs, st, hd, hr => by
    have hi : all[i]? = some x := by
      have : (all.drop i)[0]? = some x := by rw [hx]; rfl
      rw [List.getElem?_drop] at this
      simpa using this
    have hx' : all.drop (i + 1) = xs := by
      rw [← List.drop_drop, hx]
      rfl
    obtain ⟨w, rw0, hw⟩ := hs.2.1 i x hi
    have e0 : ∀ k, lcGo src g mt me vs (.ref d) sw i (n + 1) h = k ↔ bnd (g w (wipeW sw vs)) (fun s => bnd (mt s) fun b => if b = true then bnd (me s) (fun y => bnd (app (.ref d) y) fun _ => lcGo src g mt me vs (.ref d) sw (i + 1) n) else lcGo src g mt me vs (.ref d) sw (i + 1) n) h = k := fun k => by
      conv => lhs; unfold lcGo
      rw [hw h .refl]
    simp only [e0]
    unfold lcT
    cases eg : pg x (clr vs ps) with
    | none => exact trivial
    | some s1 =>
      obtain ⟨sw1, eg1, st1⟩ := hg _ A _ _ h x w s1 ha (st.wipe vs hv) rw0 eg
      dsimp only
      have b1 : ∀ {β : Type} (k : SW → M β), bnd (g w (wipeW sw vs)) k h = k sw1 h := fun k => by unfold bnd; rw [eg1]
      simp only [b1]
      have zt := ht _ A s1 sw1 h ha st1
      cases et : pt s1 with
      | no => exact trivial
      | ex C t => exact trivial
      | ok b =>
        rw [et] at zt
        obtain ⟨b', h1, e1, p1, r1⟩ := zt
        cases r1
        have b2 : ∀ {β : Type} (k : Bool → M β), bnd (mt sw1) k h = k b h1 := fun k => by unfold bnd; rw [e1]
        simp only [b2, Q.bind_ok]
        have st' := st.pre p1
        have hs' := hs.ext (.of_pre p1)
        have hd' := pre_get p1 hd
        have hr' := hr.pre p1
        cases b with
        | false =>
          simp only [Bool.false_eq_true, if_false]
          have ih := lc_go hg ht he ha hv xs (i + 1) n h1 acc accT hx' (by simpa using hn) hs' st' hd' hr'
          cases eq : lcT pg pt pe (clr vs ps) xs with
          | no => exact trivial
          | ex C t => exact trivial
          | ok ys =>
            rw [eq] at ih
            intro hl
            obtain ⟨h2, accW, e2, x2, d2, r2⟩ := ih hl
            exact ⟨h2, accW, e2, (Ext.of_pre p1).trans x2, d2, r2⟩
        | true =>
          simp only [if_true]
          have ze := he _ A s1 sw1 h1 ha (st1.pre p1)
          cases ee : pe s1 with
          | no => exact trivial
          | ex C t => exact trivial
          | ok y =>
            rw [ee] at ze
            obtain ⟨yw, h2, e2, p2, r2⟩ := ze
            have b3 : ∀ {β : Type} (k : W → M β), bnd (me sw1) k h1 = k yw h2 := fun k => by unfold bnd; rw [e2]
            simp only [b3, Q.bind_ok]
            have hd2 := pre_get p2 hd'
            have hr2 := hr'.pre p2
            have hla : acc.length = accT.length := hr.length.symm
            by_cases hlim : accT.length < lim
            · have ea := app_run (y := yw) hd2 (by rw [hla]; exact hlim)
              have b4 : ∀ {β : Type} (k : Unit → M β), bnd (app (.ref d) yw) k h2 = k () (h2.set d (.lst (acc ++ [yw]))) := fun k => by unfold bnd; rw [ea]
              simp only [b4]
              have x3 : Ext (fun j => j = d) h2 (h2.set d (.lst (acc ++ [yw]))) := ⟨by rw [List.length_set]; exact Nat.le_refl _, fun j o nj q => by rw [List.getElem?_set_ne (Ne.symm nj)]; exact q⟩
              have x3' : Ext (av (wid X d) A) h2 (h2.set d (.lst (acc ++ [yw]))) := x3.mono fun j z => .inl (.inr z)
              have hd3 : (h2.set d (.lst (acc ++ [yw])))[d]? = some (.lst (acc ++ [yw])) := by
                rw [List.getElem?_set, if_pos rfl, if_pos (List.getElem?_eq_some_iff.mp hd2).1]
              have ih := lc_go hg ht he ha hv xs (i + 1) n _ (acc ++ [yw]) (accT ++ [y]) hx' (by simpa using hn) ((hs'.ext (.of_pre p2)).ext x3') ((st'.pre p2).ext x3) hd3 ((hr2.append (.cons r2 .nil)).ext x3')
              cases eq : lcT pg pt pe (clr vs ps) xs with
              | no => exact trivial
              | ex C t => exact trivial
              | ok ys =>
                rw [eq] at ih
                intro hl
                obtain ⟨h4, accW, e4, x4, d4, r4⟩ := ih (by simp only [List.length_append, List.length_cons, List.length_nil] at hl ⊢; omega)
                refine ⟨h4, accW, e4, (Ext.of_pre (p1.trans p2)).trans (x3.trans x4), d4, ?_⟩
                rw [List.append_assoc] at r4
                exact r4
            · cases eq : lcT pg pt pe (clr vs ps) xs with
              | no => exact trivial
              | ex C t => exact trivial
              | ok ys =>
                intro hl
                simp only [List.length_cons] at hl
                omega
/-- a comprehension, its source known -/
theorem lc_run (hg : XGt N g pg) (ht : XT N mt pt) (he : XE N me pe) {X : Nat → Prop} {A : List (Nat × Nat)} {ps : PS} {sw : SW} {h : Hw} {all : List T} {src : Src × Nat} (ha : A.map (·.1) = N) (hv : ∀ i ∈ vs, i ∉ N) (hs : SrcOk (av X A) h all src) (st : Sto X A ps sw h) {ys : List T} (e : lcT pg pt pe (clr vs ps) all = .ok ys) (hl : ys.length ≤ lim) :
    ∃ h' accW, bnd (alloc (.lst [])) (fun d => bnd (lcGo src.1 g mt me vs d sw 0 (src.2 + 1)) fun _ => rtn d) h = .ok (.ref h.length) h' ∧ h <+: h' ∧ h'[h.length]? = some (.lst accW) ∧ Reps h' (wid (av X A) h.length) ys accW := by
  have p0 : h <+: h ++ [O.lst []] := List.prefix_append _ _
  have hd : (h ++ [O.lst []])[h.length]? = some (.lst []) := by simp
  have st1 := st.more (d := h.length) (h' := h ++ [O.lst []]) (Nat.le_refl _) (by simp) p0
  have hs1 : SrcOk (av (wid X h.length) A) (h ++ [O.lst []]) all (src.1, src.2) := (hs.wide fun j z => (avw.mp z).imp_right fun e => Nat.le_of_eq e.symm).ext (.of_pre p0)
  have z := lc_go hg ht he ha (by rw [ha]; exact hv) all 0 (src.2 + 1) (h ++ [O.lst []]) [] [] rfl (Nat.lt_succ_of_le hs.1) hs1 st1 hd .nil
  rw [e] at z
  obtain ⟨h', accW, e1, x1, d1, r1⟩ := z (by simpa using hl)
  refine ⟨h', accW, ?_, pre_of fun j o q => x1.2 j o (fun zz => ?_) (pre_get p0 q), d1, ?_⟩
  · show bnd (lcGo src.1 g mt me vs (.ref h.length) sw 0 (src.2 + 1)) _ (h ++ [O.lst []]) = _
    unfold bnd
    rw [e1]
    rfl
  · have zz : j = h.length := zz
    rw [zz, get_none (Nat.le_refl _)] at q
    cases q
  · exact r1.up (fun j a b => absurd (avw.mpr a) b) fun j o n q => ⟨o, q, .refl _⟩
theorem xf_lc (hi : XI N mi pi) (hg : XGt N g pg) (ht : XT N mt pt) (he : XE N me pe) (hv : ∀ i ∈ vs, i ∉ N := by decide) : XF N (mLc mi g mt me vs) (pLc pi pg pt pe vs) := fun X A ps sw h a s => by
  refine qr_bind (hi X A ps sw h a s) fun xs src h1 p1 r1 => ?_
  cases e : lcT pg pt pe (clr vs ps) xs with
  | no => exact trivial
  | ex C t => exact trivial
  | ok ys =>
    unfold finL
    dsimp only
    split
    · rename_i hl
      obtain ⟨h', accW, e1, p, d1, r⟩ := lc_run hg ht he a hv r1 (s.pre p1) e hl
      exact ⟨_, _, e1, p, h1.length, _, rfl, p1.length_le, d1, rfl, .lst r⟩
    · exact trivial
end
end EL.Pu
namespace EL.Pu
open PySem PySem.Spec L2 EL
open PyProof.Rows hiding St
section
variable {N : List Nat} {mi : MI} {pi : PS → Q (List T)} {g : MG} {pg : T → PS → Option PS} {mt : MT} {pt : PT} {me mk mv mo : ME} {pe pk pv po : PE} {vs : List Nat}
def kTT : Key → T
  | .inl i => .int i
  | .inr x => .str x
def ditT (kvs : List (Key × T)) : List T := kvs.map fun kv => .tup [kTT kv.1, kv.2]
/-- a walk over a locked dict -/
def LkIt (ik : ME → MI) (f : List (Key × T) → List T) : Prop := ∀ (m : ME) (sw : SW) (h : Hw) (p : Nat) (kws : List (Key × W)) (kvs : List (Key × T)) (X : Nat → Prop), m sw h = .ok (.ref p) h → h[p]? = some (.dF kws) → ¬ X p → kvs.map (·.1) = kws.map (·.1) → Reps h X (kvs.map (·.2)) (kws.map (·.2)) → ∃ src, ik m sw h = .ok src h ∧ SrcOk X h (f kvs) src
theorem kv_get {h : Hw} {X : Nat → Prop} : ∀ {kvs : List (Key × T)} {kws : List (Key × W)}, kvs.map (·.1) = kws.map (·.1) → Reps h X (kvs.map (·.2)) (kws.map (·.2)) → ∀ i : Nat, match kvs[i]? with
    | some kv => ∃ w, kws[i]? = some (kv.1, w) ∧ Rep h X kv.2 w
    | none => kws[i]? = none
  | [], [], _, _, i => rfl
  | (g, t) :: fs, (g', w) :: fw, e, r, i => by
    have e1 : g = g' := (List.cons.inj e).1
    subst e1
    cases r with
    | cons r rs =>
      cases i with
      | zero => exact ⟨w, rfl, r⟩
      | succ i =>
        have z := kv_get (List.cons.inj e).2 rs i
        simpa using z
  | [], _ :: _, e, _, _ => by cases e
  | _ :: _, [], e, _, _ => by cases e
theorem lk_of {ik : ME → MI} {f : Key × T → T} {fw : Key × W → W} {sr : Nat → Src} (hik : ∀ (m : ME) (sw : SW) (h : Hw) (p : Nat) (kws : List (Key × W)), m sw h = .ok (.ref p) h → h[p]? = some (.dF kws) → ik m sw h = .ok (sr p, kws.length) h)
    (hsr : ∀ (p i : Nat) (h : Hw) (kws : List (Key × W)), h[p]? = some (.dF kws) → (sr p).item i h = some (kws[i]?.map fw)) (hf : ∀ (h : Hw) (X : Nat → Prop) (k : Key) (t : T) (w : W), Rep h X t w → Rep h X (f (k, t)) (fw (k, w))) : LkIt ik fun kvs => kvs.map f := fun m sw h p kws kvs X em ep np ek r => by
  refine ⟨_, hik m sw h p kws em ep, by rw [List.length_map, rep_len ek]; exact Nat.le_refl _, fun i t q => ?_, fun i q h' x => ?_⟩
  · rw [List.getElem?_map] at q
    obtain ⟨⟨k, u⟩, e1, rfl⟩ := Option.map_eq_some_iff.mp q
    have z := kv_get ek r i
    rw [e1] at z
    obtain ⟨w, ew, rw'⟩ := z
    exact ⟨_, hf h X k u w rw', fun h' x => by rw [hsr p i h' kws (x.2 _ _ np ep), ew]; rfl⟩
  · rw [List.getElem?_map] at q
    have z := kv_get ek r i
    rw [Option.map_eq_none_iff.mp q] at z
    rw [hsr p i h' kws (x.2 _ _ np ep), z]
    rfl
end
end EL.Pu
namespace EL.Pu
open PySem PySem.Spec L2 EL
open PyProof.Rows hiding St
theorem bnd_run {α β : Type} {m : M α} {f : α → M β} {h h1 : Hw} {a : α} (e : m h = .ok a h1) : bnd m f h = f a h1 := by
  unfold bnd
  rw [e]
inductive PFl where
  | nx | rt (t : T) | bk | ct
inductive PR (α : Type) where
  | ok (a : α) (s : PS) | ex (C : Str) (t : T) | no
abbrev PSt := PS → PR PFl
abbrev ix (A : List (Nat × Nat)) : Nat → Prop := fun j => j ∈ A.map (·.2)
/-- what the names io alone still change -/
abbrev avI (io : List Nat) (X : Nat → Prop) (A : List (Nat × Nat)) : Nat → Prop := fun j => X j ∨ ∃ i, i ∈ io ∧ (i, j) ∈ A
structure Go (io : List Nat) (A A' : List (Nat × Nat)) (h h' : Hw) : Prop where
  ext : Ext (ix A) h h'
  keep : ∀ e ∈ A, e.1 ∈ io → e ∈ A'
  new : ∀ e ∈ A', e ∈ A ∨ h.length ≤ e.2
def rRt (F : Bool) (X : Nat → Prop) (n0 : Nat) (t : T) (w : W) (h : Hw) : Prop := match F with
  | true => rF X n0 t w h
  | false => Rep h X t w
/-- what has come of the names io -/
def Outs (F : Bool) (w : W) (io : List Nat) (X : Nat → Prop) (A : List (Nat × Nat)) (s : PS) (h : Hw) : Prop := ∀ i j u, i ∈ io → (i, j) ∈ A → s[i]? = some (some u) → ∃ o, h[j]? = some o ∧ unl o = true ∧ Orp h (fun k => avI io X A k ∨ (F = true ∧ w = .ref k)) u o
def SR (F : Bool) (io : List Nat) (n0 : Nat) (N' L : List Nat) (X : Nat → Prop) (A : List (Nat × Nat)) (h : Hw) (q : PR PFl) (r : R Fl) : Prop := match q with
  | .ok .nx s' => ∃ sw' h' A', r = .ok (.nx sw') h' ∧ Go io A A' h h' ∧ A'.map (·.1) = N' ∧ Sto X A' s' sw' h'
  | .ok .bk s' => ∃ sw' h' A', r = .ok (.bk sw') h' ∧ Go io A A' h h' ∧ A'.map (·.1) = L ∧ Sto X A' s' sw' h'
  | .ok .ct s' => ∃ sw' h' A', r = .ok (.ct sw') h' ∧ Go io A A' h h' ∧ A'.map (·.1) = L ∧ Sto X A' s' sw' h'
  | .ok (.rt t) s' => ∃ w h', r = .ok (.rt w) h' ∧ Ext (ix A) h h' ∧ rRt F (avI io X A) n0 t w h' ∧ Outs F w io X A s' h'
  | .ex C t => ∃ w h', r = .ex C w h' ∧ Ext (ix A) h h' ∧ Rep h' X t w
  | .no => True
/-- F: the value returned is new; io: names of what the caller still changes; N, N': names that hold what is changed, before and behind; L: where a loop goes on -/
def SS (F : Bool) (io N N' L : List Nat) (m : MS) (p : PSt) : Prop := ∀ X A ps sw h n0, A.map (·.1) = N → Sto X A ps sw h → (∀ i ∈ io, i ∈ N) → (∀ e ∈ A, e.1 ∉ io → n0 ≤ e.2) → n0 ≤ h.length → SR F io n0 N' L X A h (p ps) (m sw h)
theorem av_of_avI {io : List Nat} {X : Nat → Prop} {A : List (Nat × Nat)} {j : Nat} (h : avI io X A j) : av X A j := by
  rcases h with h | ⟨i, _, h⟩
  · exact .inl h
  · exact .inr (List.mem_map.mpr ⟨_, h, rfl⟩)
theorem Go.refl {io : List Nat} {A : List (Nat × Nat)} {h : Hw} : Go io A A h h := ⟨.refl, fun _ h _ => h, fun _ h => .inl h⟩
theorem Go.of_pre {io : List Nat} {A : List (Nat × Nat)} {h h' : Hw} (p : h <+: h') : Go io A A h h' := ⟨.of_pre p, fun _ h _ => h, fun _ h => .inl h⟩
theorem ext_go {io : List Nat} {A A' : List (Nat × Nat)} {h h1 h2 : Hw} (a : Go io A A' h h1) (b : Ext (ix A') h1 h2) : Ext (ix A) h h2 := by
  refine ⟨Nat.le_trans a.ext.1 b.1, fun j o n e => b.2 j o (fun z => ?_) (a.ext.2 j o n e)⟩
  obtain ⟨e0, he, rfl⟩ := List.mem_map.mp z
  rcases a.new e0 he with q | q
  · exact n (List.mem_map.mpr ⟨e0, q, rfl⟩)
  · have := (List.getElem?_eq_some_iff.mp e).1
    omega
theorem Go.trans {io : List Nat} {A A' A2 : List (Nat × Nat)} {h h1 h2 : Hw} (a : Go io A A' h h1) (b : Go io A' A2 h1 h2) : Go io A A2 h h2 := by
  refine ⟨ext_go a b.ext, fun e he hi => b.keep e (a.keep e he hi) hi, fun e he => ?_⟩
  rcases b.new e he with q | q
  · exact a.new e q
  · exact .inr (Nat.le_trans a.ext.1 q)
/-- a name of io is the same behind -/
theorem Go.same {io : List Nat} {A A' : List (Nat × Nat)} {h h' : Hw} (a : Go io A A' h h') (hio : ∀ i ∈ io, i ∈ A.map (·.1)) (nd : (A'.map (·.1)).Nodup) {i j : Nat} (hi : i ∈ io) : (i, j) ∈ A' ↔ (i, j) ∈ A := by
  constructor
  · intro m
    obtain ⟨⟨i', j'⟩, m', rfl⟩ := List.mem_map.mp (hio i hi)
    have m2 := a.keep _ m' hi
    have : j = j' := nd_l nd m m2
    rw [this]
    exact m'
  · intro m
    exact a.keep _ m hi
theorem avI_same {io : List Nat} {X : Nat → Prop} {A A' : List (Nat × Nat)} {h h' : Hw} (a : Go io A A' h h') (hio : ∀ i ∈ io, i ∈ A.map (·.1)) (nd : (A'.map (·.1)).Nodup) {j : Nat} : avI io X A' j ↔ avI io X A j := by
  constructor
  · rintro (z | ⟨i, hi, m⟩)
    · exact .inl z
    · exact .inr ⟨i, hi, (a.same hio nd hi).mp m⟩
  · rintro (z | ⟨i, hi, m⟩)
    · exact .inl z
    · exact .inr ⟨i, hi, (a.same hio nd hi).mpr m⟩
theorem Rep.iff {h : Hw} {X Y : Nat → Prop} {t : T} {w : W} (e : ∀ j, Y j → X j) (r : Rep h X t w) : Rep h Y t w := r.up (fun j a b => absurd (e j a) b) fun _ o _ q => ⟨o, q, .refl _⟩
theorem Orp.iff {h : Hw} {X Y : Nat → Prop} {t : T} {w : EL.O} (e : ∀ j, Y j → X j) (r : Orp h X t w) : Orp h Y t w := r.up (fun j a b => absurd (e j a) b) fun _ o _ q => ⟨o, q, .refl _⟩
theorem rRt.iff {F : Bool} {h : Hw} {X Y : Nat → Prop} {n0 : Nat} {t : T} {w : W} (e : ∀ j, Y j → X j) (r : rRt F X n0 t w h) : rRt F Y n0 t w h := by
  cases F with
  | false => exact Rep.iff e r
  | true =>
    obtain ⟨j, o, e1, e2, e3, u, r⟩ := r
    exact ⟨j, o, e1, e2, e3, u, r.iff fun i z => z.imp_left (e i)⟩
theorem sr_then {F : Bool} {io : List Nat} {n0 : Nat} {N' L : List Nat} {X : Nat → Prop} {A A' : List (Nat × Nat)} {h h1 : Hw} {q : PR PFl} {r : R Fl} (a : Go io A A' h h1) (hio : ∀ i ∈ io, i ∈ A.map (·.1)) (nd : (A'.map (·.1)).Nodup) (H : SR F io n0 N' L X A' h1 q r) : SR F io n0 N' L X A h q r := by
  cases q with
  | no => exact trivial
  | ex C t =>
    obtain ⟨w, h2, e, x, r⟩ := H
    exact ⟨w, h2, e, ext_go a x, r⟩
  | ok f s =>
    cases f with
    | nx => obtain ⟨sw', h2, A2, e, g, n, s⟩ := H; exact ⟨sw', h2, A2, e, a.trans g, n, s⟩
    | bk => obtain ⟨sw', h2, A2, e, g, n, s⟩ := H; exact ⟨sw', h2, A2, e, a.trans g, n, s⟩
    | ct => obtain ⟨sw', h2, A2, e, g, n, s⟩ := H; exact ⟨sw', h2, A2, e, a.trans g, n, s⟩
    | rt t =>
      obtain ⟨w, h2, e, x, r, o⟩ := H
      refine ⟨w, h2, e, ext_go a x, r.iff fun j z => (avI_same a hio nd).mpr z, fun i j u hi m es => ?_⟩
      obtain ⟨o1, eo, uo, ro⟩ := o i j u hi ((a.same hio nd hi).mpr m) es
      exact ⟨o1, eo, uo, ro.iff fun j z => z.imp_left fun z => (avI_same a hio nd).mpr z⟩
theorem n0_go {io : List Nat} {A A' : List (Nat × Nat)} {h h' : Hw} {n0 : Nat} (a : Go io A A' h h') (n : ∀ e ∈ A, e.1 ∉ io → n0 ≤ e.2) (l : n0 ≤ h.length) : ∀ e ∈ A', e.1 ∉ io → n0 ≤ e.2 := fun e he hi => by
  rcases a.new e he with q | q
  · exact n e q hi
  · exact Nat.le_trans l q
theorem io_go {io : List Nat} {A A' : List (Nat × Nat)} {h h' : Hw} (a : Go io A A' h h') (hio : ∀ i ∈ io, i ∈ A.map (·.1)) : ∀ i ∈ io, i ∈ A'.map (·.1) := fun i hi => by
  obtain ⟨e, he, rfl⟩ := List.mem_map.mp (hio i hi)
  exact List.mem_map.mpr ⟨e, a.keep e he hi, rfl⟩
section
variable {F : Bool} {io N N1 N' L : List Nat} {ma mb mk mv : ME} {pa pb pk pv : PE} {m1 m2 : MS} {p1 p2 : PSt} {mt : MT} {pt : PT} {g : MG} {pg : T → PS → Option PS}
def pNil : PSt := fun s => .ok .nx s
theorem ss_nil : SS F io N N L sNil pNil := fun X A ps sw h n0 a s _ _ _ => ⟨sw, h, A, rfl, .refl, a, s⟩
def pSeq (a b : PSt) : PSt := fun s => match a s with
  | .ok .nx s' => b s'
  | r => r
theorem ss_seq (ha : SS F io N N1 L m1 p1) (hb : SS F io N1 N' L m2 p2) : SS F io N N' L (sSeq m1 m2) (pSeq p1 p2) := fun X A ps sw h n0 a s hio hn hl => by
  have z := ha X A ps sw h n0 a s hio hn hl
  unfold pSeq sSeq bnd
  cases e : p1 ps with
  | no => exact trivial
  | ex C t =>
    rw [e] at z
    obtain ⟨w, h1, e1, x, r⟩ := z
    exact ⟨w, h1, by rw [e1], x, r⟩
  | ok f s1 =>
    rw [e] at z
    cases f with
    | nx =>
      obtain ⟨sw', h1, A', e1, go, n1, st⟩ := z
      dsimp only
      rw [e1]
      subst a
      exact sr_then go hio st.nd1 (hb X A' s1 sw' h1 n0 n1 st (by rw [← n1]; exact io_go go hio) (n0_go go hn hl) (Nat.le_trans hl go.ext.1))
    | bk =>
      obtain ⟨sw', h1, A', e1, go, n1, st⟩ := z
      exact ⟨sw', h1, A', by rw [e1]; rfl, go, n1, st⟩
    | ct =>
      obtain ⟨sw', h1, A', e1, go, n1, st⟩ := z
      exact ⟨sw', h1, A', by rw [e1]; rfl, go, n1, st⟩
    | rt t =>
      obtain ⟨w, h1, e1, x, r, o⟩ := z
      exact ⟨w, h1, by rw [e1]; rfl, x, r, o⟩
/-- the value of a first piece -/
def PR.of {α β : Type} (q : Q α) (k : α → PR β) : PR β := match q with
  | .ok a => k a
  | .ex C t => .ex C t
  | .no => .no
theorem sr_of {α β : Type} {X : Nat → Prop} {A : List (Nat × Nat)} {n0 : Nat} {h : Hw} {rel : α → β → Hw → Prop} {q : Q α} {k : α → PR PFl} {m : M β} {f : β → M Fl} (H : QR (av X A) h rel q (m h)) (hio : ∀ i ∈ io, i ∈ A.map (·.1)) (nd : (A.map (·.1)).Nodup) (K : ∀ a b h', h <+: h' → rel a b h' → SR F io n0 N' L X A h' (k a) (f b h')) : SR F io n0 N' L X A h (PR.of q k) (bnd m f h) := by
  unfold PR.of bnd
  cases q with
  | no => exact trivial
  | ex C t =>
    obtain ⟨w, h', e, p, r⟩ := H
    exact ⟨w, h', by rw [e], .of_pre p, r.iff fun j z => .inl z⟩
  | ok a =>
    obtain ⟨b, h', e, p, r⟩ := H
    rw [e]
    exact sr_then (.of_pre p) hio nd (K a b h' p r)
def pIfS (c : PT) (a b : PSt) : PSt := fun s => PR.of (c s) fun x => if x = true then a s else b s
theorem ss_if (hc : XT N mt pt) (ha : SS F io N N' L m1 p1) (hb : SS F io N N' L m2 p2) : SS F io N N' L (sIf mt m1 m2) (pIfS pt p1 p2) := fun X A ps sw h n0 a s hio hn hl =>
  sr_of (hc X A ps sw h a s) (by rw [a]; exact hio) s.nd1 fun x b h' p e => by
    cases e
    split
    · exact ha X A ps sw h' n0 a (s.pre p) hio hn (Nat.le_trans hl p.length_le)
    · exact hb X A ps sw h' n0 a (s.pre p) hio hn (Nat.le_trans hl p.length_le)
def pRet (a : PE) : PSt := fun s => PR.of (a s) fun x => .ok (.rt x) s
theorem outs_of {X : Nat → Prop} {A : List (Nat × Nat)} {ps : PS} {sw : SW} {h : Hw} {w : W} (s : Sto X A ps sw h) (hw : ∀ k, F = true → w = .ref k → av X A k) : Outs F w io X A ps h := fun i j u hi m e => by
  obtain ⟨_, o, eo, uo, r⟩ := s.ow i j u m e
  exact ⟨o, eo, uo, r.iff fun j z => z.elim av_of_avI fun z => hw j z.1 z.2⟩
theorem ss_ret (ha : XE N ma pa) : SS false io N N' L (sRet ma) (pRet pa) := fun X A ps sw h n0 a s hio hn hl =>
  sr_of (ha X A ps sw h a s) (by rw [a]; exact hio) s.nd1 fun x b h' p r => ⟨b, h', rfl, .refl, Rep.iff (fun j z => av_of_avI z) r, outs_of (s.pre p) fun _ z => by cases z⟩
theorem ss_retF (ha : XF N ma pa) : SS true io N N' L (sRet ma) (pRet pa) := fun X A ps sw h n0 a s hio hn hl =>
  sr_of (ha X A ps sw h a s) (by rw [a]; exact hio) s.nd1 fun x b h' p r => by
    obtain ⟨j, o, e1, e2, e3, u, r⟩ := r
    refine ⟨b, h', rfl, .refl, ⟨j, o, e1, Nat.le_trans hl e2, e3, u, r.iff fun i z => z.imp_left av_of_avI⟩, fun i k v hi m es => ?_⟩
    obtain ⟨_, o2, eo, uo, r2⟩ := s.ow i k v m es
    refine ⟨o2, pre_get p eo, uo, (r2.wide fun l z => ?_).pre p⟩
    rcases z with z | ⟨_, z⟩
    · exact .inl (av_of_avI z)
    · rw [e1] at z
      cases z
      exact .inr e2
/-- what is changed is returned -/
theorem ss_retO (i : Nat) (hi : i ∈ N := by decide) (hn' : i ∉ io := by decide) : SS F io N N' L (sRet (mVar i)) (pRet (pVar i)) := fun X A ps sw h n0 a s hio hn hl => by
  unfold pRet pVar
  cases e : ps[i]? with
  | none => exact trivial
  | some o =>
    cases o with
    | none => exact trivial
    | some t =>
      rw [← a] at hi
      obtain ⟨⟨i', j⟩, m, rfl⟩ := List.mem_map.mp hi
      obtain ⟨e1, ob, e2, ub, r⟩ := s.ow i' j t m e
      have em : sRet (mVar i') sw h = .ok (.rt (.ref j)) h := by
        unfold sRet mVar bnd
        rw [e1]
        rfl
      have nj : ¬ avI io X A j := fun z => by
        rcases z with z | ⟨k, hk, mk⟩
        · exact (s.lt i' j m).2 z
        · have : k = i' := nd_r s.nd mk m
          subst this
          exact hn' hk
      have r' : Orp h (wid (avI io X A) j) t ob := r.iff fun k z => by
        rcases z with z | z
        · exact av_of_avI z
        · subst z
          exact .inr (List.mem_map.mpr ⟨_, m, rfl⟩)
      rw [em]
      refine ⟨.ref j, h, rfl, .refl, ?_, outs_of s fun k _ z => by cases z; exact .inr (List.mem_map.mpr ⟨_, m, rfl⟩)⟩
      cases F with
      | true => exact ⟨j, ob, rfl, hn _ m hn', e2, ub, r'⟩
      | false => exact .ref nj e2 (r'.iff fun k z => .inl z)
def pExp (a : PE) : PSt := fun s => PR.of (a s) fun _ => .ok .nx s
theorem ss_exp (ha : XE N ma pa) : SS F io N N L (sExp ma) (pExp pa) := fun X A ps sw h n0 a s hio hn hl =>
  sr_of (ha X A ps sw h a s) (by rw [a]; exact hio) s.nd1 fun x b h' p r => ⟨sw, h', A, rfl, .refl, a, s.pre p⟩
def pAsg (g : T → PS → Option PS) (a : PE) : PSt := fun s => PR.of (a s) fun x => match g x s with
  | some s' => .ok .nx s'
  | none => .no
theorem ss_asg (ha : XE N ma pa) (hg : XGt N g pg) : SS F io N N L (sAsg g ma) (pAsg pg pa) := fun X A ps sw h n0 a s hio hn hl =>
  sr_of (ha X A ps sw h a s) (by rw [a]; exact hio) s.nd1 fun x b h' p r => by
    cases e : pg x ps with
    | none => exact trivial
    | some s' =>
      obtain ⟨sw', e1, st⟩ := hg X A ps sw h' x b s' a (s.pre p) r e
      exact ⟨sw', h', A, by unfold bnd; rw [e1]; rfl, .refl, a, st⟩
/-- fewer names are owned: what was changed is frozen -/
theorem Sto.frz {X : Nat → Prop} {A : List (Nat × Nat)} {ps : PS} {sw : SW} {h : Hw} (s : Sto X A ps sw h) (c : Nat → Bool) : Sto X (A.filter fun e => c e.1) ps sw h := by
  have sub : ∀ j, av X (A.filter fun e => c e.1) j → av X A j := fun j z => z.imp_right fun m => by
    obtain ⟨e, he, rfl⟩ := List.mem_map.mp m
    exact List.mem_map.mpr ⟨e, (List.mem_filter.mp he).1, rfl⟩
  have fsub : ∀ {β : Type} (f : Nat × Nat → β), ((A.filter fun e => c e.1).map f).Sublist (A.map f) := fun f => List.filter_sublist.map f
  refine ⟨s.len, fun i t e n => ?_, fun i j t m e => ?_, fun i j m => s.lt i j (List.mem_filter.mp m).1, (fsub (·.2)).nodup s.nd, (fsub (·.1)).nodup s.nd1, s.xl⟩
  · by_cases hi : i ∈ A.map (·.1)
    · obtain ⟨⟨i', j⟩, m, rfl⟩ := List.mem_map.mp hi
      obtain ⟨e1, o, e2, _, r⟩ := s.ow i' j t m e
      refine ⟨_, e1, .ref (fun z => ?_) e2 (r.iff sub)⟩
      rcases z with z | z
      · exact (s.lt i' j m).2 z
      · obtain ⟨⟨k, j'⟩, he, rfl⟩ := List.mem_map.mp z
        have hf := List.mem_filter.mp he
        have hk : k = i' := nd_r s.nd hf.1 m
        subst hk
        exact n (List.mem_map.mpr ⟨_, he, rfl⟩)
    · obtain ⟨w, e1, r⟩ := s.fr i t e hi
      exact ⟨w, e1, r.iff sub⟩
  · obtain ⟨e1, o, e2, u, r⟩ := s.ow i j t (List.mem_filter.mp m).1 e
    exact ⟨e1, o, e2, u, r.iff sub⟩
theorem map_filter1 (A : List (Nat × Nat)) (c : Nat → Bool) : (A.filter fun e => c e.1).map (·.1) = (A.map (·.1)).filter c := by
  rw [List.filter_map]
  rfl
/-- frozen behind -/
theorem ss_end (c : Nat → Bool) (H : SS F io N N1 L m1 p1) (hc : ∀ i ∈ io, c i = true := by decide) : SS F io N (N1.filter c) L m1 p1 := fun X A ps sw h n0 a s hio hn hl => by
  have z := H X A ps sw h n0 a s hio hn hl
  cases e : p1 ps with
  | no => exact trivial
  | ex C t => rw [e] at z; exact z
  | ok f s1 =>
    rw [e] at z
    cases f with
    | nx =>
      obtain ⟨sw', h1, A', e1, go, n1, st⟩ := z
      have go2 : Go io A' (A'.filter fun e => c e.1) h1 h1 := ⟨.refl, fun e he hi => List.mem_filter.mpr ⟨he, hc _ hi⟩, fun e he => .inl (List.mem_filter.mp he).1⟩
      exact ⟨sw', h1, _, e1, go.trans go2, by rw [map_filter1, n1], st.frz c⟩
    | bk => exact z
    | ct => exact z
    | rt t => exact z
end
end EL.Pu
namespace EL.Pu
open PySem PySem.Spec L2 EL
open PyProof.Rows hiding St
section
variable {X : Nat → Prop} {A : List (Nat × Nat)} {ps : PS} {sw : SW} {h h' : Hw}
/-- a new object, owned by a name -/
theorem Sto.own (s : Sto X A ps sw h) (p : h <+: h') {i j : Nat} {t : T} {o : EL.O} (ni : i ∉ A.map (·.1)) (hj : h.length ≤ j) (eo : h'[j]? = some o) (uo : unl o = true) (r : Orp h' (wid (av X A) j) t o) : Sto X (A ++ [(i, j)]) (ps.set i (some t)) (sw.set i (some (.ref j))) h' := by
  have wd : ∀ k, av X (A ++ [(i, j)]) k → wid (av X A) j k := fun k z => by
    rcases z with z | z
    · exact .inl (.inl z)
    · rw [List.map_append] at z
      rcases List.mem_append.mp z with z | z
      · exact .inl (.inr z)
      · exact .inr (by simpa using z)
  have wl : ∀ k, av X (A ++ [(i, j)]) k → av X A k ∨ h.length ≤ k := fun k z => (wd k z).imp_right fun e => by rw [e]; exact hj
  have jl : j < h'.length := (List.getElem?_eq_some_iff.mp eo).1
  refine ⟨by rw [List.length_set, List.length_set]; exact s.len, fun k u e n => ?_, fun k l u m e => ?_, fun k l m => ?_, ?_, ?_, fun k z => Nat.lt_of_lt_of_le (s.xl k z) p.length_le⟩
  · rw [List.map_append] at n
    have n1 : k ∉ A.map (·.1) := fun z => n (List.mem_append.mpr (.inl z))
    have n2 : i ≠ k := fun z => n (List.mem_append.mpr (.inr (by simp [z])))
    rw [List.getElem?_set_ne n2] at e ⊢
    obtain ⟨w, e1, r1⟩ := s.fr k u e n1
    exact ⟨w, e1, (r1.wide wl).pre p⟩
  · rcases List.mem_append.mp m with m | m
    · have n2 : i ≠ k := fun z => ni (z ▸ List.mem_map.mpr ⟨_, m, rfl⟩)
      rw [List.getElem?_set_ne n2] at e ⊢
      obtain ⟨e1, o1, e2, u1, r1⟩ := s.ow k l u m e
      exact ⟨e1, o1, pre_get p e2, u1, (r1.wide wl).pre p⟩
    · have m' := List.mem_singleton.mp m
      cases m'
      rw [List.getElem?_set, if_pos rfl] at e ⊢
      rw [← s.len]
      split at e
      · rename_i hlt
        cases e
        rw [if_pos hlt]
        exact ⟨rfl, o, eo, uo, r.iff wd⟩
      · cases e
  · rcases List.mem_append.mp m with m | m
    · exact ⟨Nat.lt_of_lt_of_le (s.lt k l m).1 p.length_le, (s.lt k l m).2⟩
    · have m' := List.mem_singleton.mp m
      cases m'
      exact ⟨jl, fun z => s.fresh hj (.inl z)⟩
  · rw [List.map_append, List.nodup_append]
    refine ⟨s.nd, by simp, fun a ha b hb z => ?_⟩
    have : b = j := by simpa using hb
    subst this z
    exact s.fresh hj (.inr ha)
  · rw [List.map_append, List.nodup_append]
    refine ⟨s.nd1, by simp, fun a ha b hb z => ?_⟩
    have : b = i := by simpa using hb
    subst this z
    exact ni ha
/-- an owned object is changed -/
theorem Sto.mut (s : Sto X A ps sw h) {i j : Nat} {t t0 : T} {o : EL.O} (m : (i, j) ∈ A) (e0 : ps[i]? = some (some t0)) (r : Orp h (av X A) t o) (uo : unl o = true := by rfl) : Sto X A (ps.set i (some t)) sw (h.set j o) := by
  have hlt := (s.lt i j m).1
  have up : ∀ (k : Nat) (u : EL.O), ¬ av X A k → h[k]? = some u → ∃ u', (h.set j o)[k]? = some u' ∧ Sim u u' := fun k u n e => by
    have hk : j ≠ k := fun z => n (.inr (by rw [← z]; exact List.mem_map.mpr ⟨_, m, rfl⟩))
    exact ⟨u, by rw [List.getElem?_set_ne hk]; exact e, .refl _⟩
  refine ⟨by rw [List.length_set]; exact s.len, fun k u e n => ?_, fun k l u m' e => ?_, fun k l m' => ⟨by rw [List.length_set]; exact (s.lt k l m').1, (s.lt k l m').2⟩, s.nd, s.nd1, fun k z => by rw [List.length_set]; exact s.xl k z⟩
  · have hk : i ≠ k := fun z => n (by rw [← z]; exact List.mem_map.mpr ⟨_, m, rfl⟩)
    rw [List.getElem?_set_ne hk] at e
    obtain ⟨w, e1, r1⟩ := s.fr k u e n
    exact ⟨w, e1, r1.up (fun _ a b => absurd a b) up⟩
  · by_cases hk : i = k
    · subst hk
      have hl := nd_l s.nd1 m' m
      subst hl
      rw [List.getElem?_set, if_pos rfl] at e
      split at e
      · cases e
        obtain ⟨ew, _⟩ := s.ow i l t0 m e0
        exact ⟨ew, o, by rw [List.getElem?_set, if_pos rfl, if_pos hlt], uo, r.up (fun _ a b => absurd a b) up⟩
      · cases e
    · rw [List.getElem?_set_ne hk] at e
      obtain ⟨e1, o1, e2, u1, r1⟩ := s.ow k l u m' e
      have hl : j ≠ l := fun z => hk (nd_r s.nd m (by rw [z]; exact m'))
      exact ⟨e1, o1, by rw [List.getElem?_set_ne hl]; exact e2, u1, r1.up (fun _ a b => absurd a b) up⟩
end
section
variable {F : Bool} {io N N1 N' L : List Nat} {ma mb mk mv me mo : ME} {pa pb pk pv pe po : PE} {m1 m2 : MS} {p1 p2 : PSt} {mt : MT} {pt : PT} {g : MG} {pg : T → PS → Option PS}
theorem sr_at {α β : Type} {X : Nat → Prop} {A : List (Nat × Nat)} {n0 : Nat} {h : Hw} {rel : α → β → Hw → Prop} {q : Q α} {k : α → PR PFl} {m : M β} {f : β → M Fl} (H : QR (av X A) h rel q (m h)) (K : ∀ a b h', h <+: h' → rel a b h' → SR F io n0 N' L X A h (k a) (f b h')) : SR F io n0 N' L X A h (PR.of q k) (bnd m f h) := by
  unfold PR.of bnd
  cases q with
  | no => exact trivial
  | ex C t =>
    obtain ⟨w, h', e, p, r⟩ := H
    exact ⟨w, h', by rw [e], .of_pre p, r.iff fun j z => .inl z⟩
  | ok a =>
    obtain ⟨b, h', e, p, r⟩ := H
    rw [e]
    exact K a b h' p r
/-- the state with a new object -/
theorem own_at {X : Nat → Prop} {A : List (Nat × Nat)} {ps : PS} {sw : SW} {h h' : Hw} {x : T} {b : W} (i : Nat) (hi : i ∉ io) (a : A.map (·.1) = N) (s : Sto X A ps sw h) (p : h <+: h') (r : rF (av X A) h.length x b h') : ∃ A', Go io A A' h h' ∧ A'.map (·.1) = N.filter (· != i) ++ [i] ∧ Sto X A' (ps.set i (some x)) (sw.set i (some b)) h' := by
  obtain ⟨j, o, rfl, hj, eo, uo, r⟩ := r
  have sf := s.frz (· != i)
  have ni : i ∉ (A.filter fun e => e.1 != i).map (·.1) := fun z => by
    obtain ⟨e, he, e1⟩ := List.mem_map.mp z
    have := (List.mem_filter.mp he).2
    simp [e1] at this
  have sub : ∀ k, av X (A.filter fun e => e.1 != i) k → av X A k := fun k z => z.imp_right fun m => by
    obtain ⟨e, he, e1⟩ := List.mem_map.mp m
    exact List.mem_map.mpr ⟨e, (List.mem_filter.mp he).1, e1⟩
  have st := sf.own p ni hj eo uo (r.iff fun k z => z.imp_left (sub k))
  refine ⟨_, ⟨.of_pre p, fun e he hi' => List.mem_append.mpr (.inl (List.mem_filter.mpr ⟨he, ?_⟩)), fun e he => ?_⟩, ?_, st⟩
  · simp only [bne_iff_ne, ne_eq]
    intro z
    exact hi (z ▸ hi')
  · rcases List.mem_append.mp he with he | he
    · exact .inl (List.mem_filter.mp he).1
    · have := List.mem_singleton.mp he
      subst this
      exact .inr hj
  · rw [List.map_append, map_filter1 A (· != i), a]
    rfl
/-- a new object is put down -/
def pOwn (i : Nat) (a : PE) : PSt := fun s => PR.of (a s) fun x => .ok .nx (s.set i (some x))
theorem ss_own (i : Nat) (ha : XF N ma pa) (hi : i ∉ io := by decide) : SS F io N (N.filter (· != i) ++ [i]) L (sAsg (gNm i) ma) (pOwn i pa) := fun X A ps sw h n0 a s hio hn hl =>
  sr_at (ha X A ps sw h a s) fun x b h' p r => by
    obtain ⟨A', go, n', st⟩ := own_at i hi a s p r
    exact ⟨_, h', A', rfl, go, n', st⟩
/-- a name that held what was changed is put down anew -/
def pReb (i : Nat) (a : PE) : PSt := pOwn i a
/-- where an owned name lies -/
theorem own_get {X : Nat → Prop} {A : List (Nat × Nat)} {ps : PS} {sw : SW} {h : Hw} {i : Nat} {t : T} (a : A.map (·.1) = N) (hi : i ∈ N) (s : Sto X A ps sw h) (e : ps[i]? = some (some t)) : ∃ j o, (i, j) ∈ A ∧ mVar i sw h = .ok (.ref j) h ∧ h[j]? = some o ∧ unl o = true ∧ Orp h (av X A) t o := by
  rw [← a] at hi
  obtain ⟨⟨i', j⟩, m, rfl⟩ := List.mem_map.mp hi
  obtain ⟨e1, ob, e2, ub, r⟩ := s.ow i' j t m e
  exact ⟨j, ob, m, by unfold mVar; rw [e1], e2, ub, r⟩
theorem mut_go {A : List (Nat × Nat)} {h : Hw} {i j : Nat} {o : EL.O} (m : (i, j) ∈ A) : Go io A A h (h.set j o) :=
  ⟨⟨by rw [List.length_set]; exact Nat.le_refl _, fun k u n e => by
    have hk : j ≠ k := fun z => n (by rw [← z]; exact List.mem_map.mpr ⟨_, m, rfl⟩)
    rw [List.getElem?_set_ne hk]
    exact e⟩, fun _ h _ => h, fun _ h => .inl h⟩
def own (i : Nat) (s : PS) : Option T := match s[i]? with
  | some (some t) => some t
  | _ => none
theorem own_some {i : Nat} {s : PS} {t : T} (e : Pu.own i s = some t) : s[i]? = some (some t) := by
  unfold Pu.own at e
  split at e
  · cases e; assumption
  · cases e
def pApp (i : Nat) (a : PE) : PSt := fun s => match Pu.own i s with
  | some (.lst xs) => PR.of (a s) fun y => if xs.length < lim then .ok .nx (s.set i (some (.lst (xs ++ [y])))) else .no
  | _ => .no
theorem ss_app (i : Nat) (ha : XE N ma pa) (hi : i ∈ N := by decide) : SS F io N N L (sExp (mApp (mVar i) ma)) (pApp i pa) := fun X A ps sw h n0 a s hio hn hl => by
  unfold pApp
  split
  · rename_i xs eo
    have e0 := own_some eo
    obtain ⟨j, o, m, ev, ej, uo, ro⟩ := own_get a hi s e0
    cases ro with
    | lst rr =>
      rename_i ws
      have em : sExp (mApp (mVar i) ma) sw h = bnd (ma sw) (fun y => bnd (fApp (.ref j) y) fun _ => rtn (Fl.nx sw)) h := by
        unfold sExp mApp bnd
        rw [ev]
        dsimp only
        unfold chkL
        simp only [ej]
        cases ma sw h <;> rfl
      rw [em]
      refine sr_at (ha X A ps sw h a s) fun y b h' p r => ?_
      have s' := s.pre p
      have ej' := pre_get p ej
      split
      · rename_i hlt
        have em : bnd (fApp (.ref j) b) (fun _ => rtn (Fl.nx sw)) h' = .ok (.nx sw) (h'.set j (.lst (ws ++ [b]))) := by
          unfold bnd fApp
          simp only [ej']
          rw [if_pos (by rw [← rr.length]; exact hlt)]
          rfl
        exact ⟨sw, _, A, em, (Go.of_pre p).trans (mut_go m), a, s'.mut m e0 (.lst ((rr.pre p).append (.cons r .nil)))⟩
      · exact trivial
  · exact trivial
def pSAddN (i : Nat) (a : PE) : PSt := fun s => match Pu.own i s with
  | some (.sT ks) => PR.of (a s) fun y => match tupNk y with
    | some k => if ks.length + 1 < 64 then .ok .nx (s.set i (some (.sT (k :: ks)))) else .no
    | _ => .no
  | _ => .no
theorem ss_saddN (i : Nat) (ha : XE N ma pa) (hi : i ∈ N := by decide) : SS F io N N L (sExp (mSAddN (mVar i) ma)) (pSAddN i pa) := fun X A ps sw h n0 a s hio hn hl => by
  unfold pSAddN
  split
  · rename_i xs eo
    have e0 := own_some eo
    obtain ⟨j, o, m, ev, ej, uo, ro⟩ := own_get a hi s e0
    cases ro with
    | sT =>
      have em : sExp (mSAddN (mVar i) ma) sw h = bnd (ma sw) (fun y => bnd (fun h => match nkT y, snOf h (.ref j) with
        | some k, some (p, ks) => if ks.length + 1 < 64 then .ok .non (h.set p (.sT (k :: ks))) else .no
        | _, _ => .no : M W) fun _ => rtn (Fl.nx sw)) h := by
        unfold sExp mSAddN
        unfold bnd
        rw [ev]
        dsimp only
        unfold snOf
        simp only [ej]
        cases ma sw h <;> rfl
      rw [em]
      refine sr_at (ha X A ps sw h a s) fun y b h' p r => ?_
      have s' := s.pre p
      have ej' := pre_get p ej
      split
      · rename_i k ek
        split
        · rename_i hlt
          have em : bnd (fun h => match nkT b, snOf h (.ref j) with
            | some k, some (p, ks) => if ks.length + 1 < 64 then .ok .non (h.set p (.sT (k :: ks))) else .no
            | _, _ => .no : M W) (fun _ => rtn (Fl.nx sw)) h' = .ok (.nx sw) (h'.set j (.sT (k :: xs))) := by
            unfold bnd snOf
            rw [rep_tupNk r ek]
            simp only [ej']
            rw [if_pos hlt]
            rfl
          exact ⟨sw, _, A, em, (Go.of_pre p).trans (mut_go m), a, s'.mut m e0 (.sT _)⟩
        · exact trivial
      · exact trivial
  · exact trivial
def pDput (i : Nat) (k v : PE) : PSt := fun s => match Pu.own i s with
  | some (.dic kvs) => PR.of (v s) fun z => PR.of (k s) fun y => match keyT y with
    | some k => if kvs.length < lim then .ok .nx (s.set i (some (.dic (putT kvs k z)))) else .no
    | none => .no
  | _ => .no
end
end EL.Pu
namespace EL.Pu
open PySem PySem.Spec L2 EL
open PyProof.Rows hiding St
def putFT (f : Str) (v : T) : List (Str × T) → List (Str × T)
  | [] => [(f, v)]
  | (g, x) :: r => if g = f then (g, v) :: r else (g, x) :: putFT f v r
theorem rep_putF {h : Hw} {X : Nat → Prop} {f : Str} {t : T} {w : W} (q : Rep h X t w) : ∀ {fs : List (Str × T)} {fw : List (Str × W)}, fs.map (·.1) = fw.map (·.1) → Reps h X (fs.map (·.2)) (fw.map (·.2)) →
    (putFT f t fs).map (·.1) = (putW f w fw).map (·.1) ∧ Reps h X ((putFT f t fs).map (·.2)) ((putW f w fw).map (·.2))
  | [], [], _, _ => ⟨rfl, .cons q .nil⟩
  | (g, t') :: fs, (g', w') :: fw, e, r => by
    have e1 : g = g' := (List.cons.inj e).1
    subst e1
    cases r with
    | cons r rs =>
      obtain ⟨a, b⟩ := rep_putF q (List.cons.inj e).2 rs
      unfold putFT putW
      by_cases hk : g = f
      · rw [if_pos hk, if_pos hk]
        exact ⟨congrArg (g :: ·) (List.cons.inj e).2, .cons q rs⟩
      · rw [if_neg hk, if_neg hk]
        exact ⟨congrArg (g :: ·) a, .cons r b⟩
  | [], _ :: _, e, _ => by cases e
  | _ :: _, [], e, _ => by cases e
section
variable {F : Bool} {io N N1 N' L : List Nat} {ma mb mk mv me mo : ME} {pa pb pk pv pe po : PE} {m1 m2 : MS} {p1 p2 : PSt} {mt : MT} {pt : PT} {g : MG} {pg : T → PS → Option PS} {mi : MI} {pi : PS → Q (List T)} {mr : MA} {pr : PA}
/-- a field of what is being made -/
def pFldS (C f : Str) (i : Nat) (v : PE) : PSt := fun s => match Pu.own i s with
  | some (.ins D fs) => PR.of (v s) fun y => if D = C ∧ fs.length < 1000 then .ok .nx (s.set i (some (.ins D (putFT f y fs)))) else .no
  | _ => .no
theorem ss_fld {C f : Str} (i : Nat) (hv : XE N mv pv) (hi : i ∈ N := by decide) : SS F io N N L (sFldS C f (mVar i) mv) (pFldS C f i pv) := fun X A ps sw h n0 a s hio hn hl => by
  unfold pFldS
  split
  · rename_i D fs eo
    have e0 := own_some eo
    refine sr_at (hv X A ps sw h a s) fun y b h' p r => ?_
    have s' := s.pre p
    obtain ⟨j, o, m, ev, ej, uo, ro⟩ := own_get a hi s' e0
    split
    · rename_i hc
      cases ro with
      | ins k rr =>
        rename_i fw
        obtain ⟨q1, q2⟩ := rep_putF (f := f) r k rr
        have hlen : fs.length = fw.length := by
          have := congrArg List.length k
          simpa using this
        have em : bnd (setFld C f b (.ref j)) (fun _ => rtn (Fl.nx sw)) h' = .ok (.nx sw) (h'.set j (.ins D (putW f b fw))) := by
          unfold bnd setFld
          simp only [ej]
          rw [if_pos ⟨hc.1, by rw [← hlen]; exact hc.2⟩]
          rfl
        rw [bnd_run ev, em]
        exact ⟨sw, _, A, rfl, (Go.of_pre p).trans (mut_go m), a, s'.mut m e0 (.ins q1 q2)⟩
    · exact trivial
  · exact trivial
/-- an item of a list is written -/
def pSubL (i : Nat) (x v : PE) : PSt := fun s => match Pu.own i s with
  | some (.lst xs) => PR.of (v s) fun y => PR.of (x s) fun k => match k with
    | .int k => (match ixN xs.length k with
      | some j => .ok .nx (s.set i (some (.lst (xs.set j y))))
      | none => .no)
    | _ => .no
  | _ => .no
theorem ss_subL (i : Nat) (hx : XE N mk pk) (hv : XE N mv pv) (hi : i ∈ N := by decide) : SS F io N N L (sAsg (gSubL (mVar i) mk) mv) (pSubL i pk pv) := fun X A ps sw h n0 a s hio hn hl => by
  unfold pSubL
  split
  · rename_i xs eo
    have e0 := own_some eo
    refine sr_of (hv X A ps sw h a s) (by rw [a]; exact hio) s.nd1 fun z zw h1 p1 r1 => ?_
    have s1 := s.pre p1
    obtain ⟨j, o, m, ev, ej, uo, ro⟩ := own_get a hi s1 e0
    have em : bnd (gSubL (mVar i) mk zw sw) (fun s => rtn (Fl.nx s)) h1 = bnd (mk sw) (fun k => bnd (wSet (.ref j) k zw) fun _ => rtn (Fl.nx sw)) h1 := by
      unfold gSubL
      unfold bnd
      rw [ev]
      dsimp only
      cases mk sw h1 with
      | ok k h2 =>
        dsimp only
        cases wSet (.ref j) k zw h2 <;> rfl
      | ex c v h2 => rfl
      | no => rfl
    rw [em]
    refine sr_at (hx X A ps sw h1 a s1) fun y b h' p r => ?_
    have s' := s1.pre p
    have ej' := pre_get p ej
    cases r with
    | int k =>
      dsimp only
      split
      · rename_i l el
        cases ro with
        | lst rr =>
          rename_i ws
          have em2 : bnd (wSet (.ref j) (.int k) zw) (fun _ => rtn (Fl.nx sw)) h' = .ok (.nx sw) (h'.set j (.lst (ws.set l zw))) := by
            unfold bnd wSet
            simp only [ej']
            rw [← rr.length, el]
            rfl
          rw [em2]
          exact ⟨sw, _, A, rfl, (Go.of_pre p).trans (mut_go m), a, s'.mut m e0 (.lst ((rr.pre p).set (r1.pre p) l))⟩
      · exact trivial
    | ref n e r => cases r <;> exact trivial
    | _ => exact trivial
  · exact trivial
def pPar2 (i j : Nat) (r : PA) : PSt := fun s => PR.of (r s) fun ts => match ts with
  | [x, y] => .ok .nx ((s.set i (some x)).set j (some y))
  | _ => .no
theorem ss_par2 (i j : Nat) (hr : XA N mr pr) (hi : i ∉ N := by decide) (hj : j ∉ N := by decide) : SS F io N N L (sPar2 i j mr) (pPar2 i j pr) := fun X A ps sw h n0 a s hio hn hl =>
  sr_of (hr X A ps sw h a s) (by rw [a]; exact hio) s.nd1 fun ts ws h1 p1 r1 => by
    have s1 := s.pre p1
    cases r1 with
    | nil => exact trivial
    | cons q1 r =>
      cases r with
      | nil => exact trivial
      | cons q2 r =>
        cases r with
        | nil => exact ⟨_, h1, A, rfl, .refl, a, (s1.set q1 (by rw [a]; exact hi)).set q2 (by rw [a]; exact hj)⟩
        | cons _ _ => exact trivial
theorem ss_bad {m : MS} : SS F io N N' L m (fun _ => .no) := fun _ _ _ _ _ _ _ _ _ _ _ => trivial
theorem Go.av {X : Nat → Prop} {A A' : List (Nat × Nat)} {h h' : Hw} (go : Go io A A' h h') : ∀ j, Pu.av X A' j → Pu.av X A j ∨ h.length ≤ j := fun j z => by
  rcases z with z | z
  · exact .inl (.inl z)
  · obtain ⟨e, he, rfl⟩ := List.mem_map.mp z
    rcases go.new e he with q | q
    · exact .inl (.inr (List.mem_map.mpr ⟨e, q, rfl⟩))
    · exact .inr q
theorem Rep.go {X : Nat → Prop} {A A' : List (Nat × Nat)} {h h' : Hw} {t : T} {w : W} (go : Go io A A' h h') (r : Rep h (av X A) t w) : Rep h' (av X A') t w :=
  r.up (fun j a b => (go.av j a).elim (fun z => absurd z b) get_none) fun j o n e => ⟨o, go.ext.2 j o (fun z => n (.inr z)) e, .refl _⟩
theorem SrcOk.go {X : Nat → Prop} {A A' : List (Nat × Nat)} {h h' : Hw} {xs : List T} {s : Src × Nat} (go : Go io A A' h h') (H : SrcOk (av X A) h xs s) : SrcOk (av X A') h' xs s := by
  have up : ∀ h2, Ext (av X A') h' h2 → Ext (av X A) h h2 := fun h2 e => ⟨Nat.le_trans go.ext.1 e.1, fun j o n q => e.2 j o (fun z => (go.av j z).elim n fun l => by
    have := (List.getElem?_eq_some_iff.mp q).1
    omega) (go.ext.2 j o (fun z => n (.inr z)) q)⟩
  refine ⟨H.1, fun i t q => ?_, fun i q h2 e => H.2.2 i q h2 (up h2 e)⟩
  obtain ⟨w, r, k⟩ := H.2.1 i t q
  exact ⟨w, r.go go, fun h2 e => k h2 (up h2 e)⟩
def forL (g : T → PS → Option PS) (b : PSt) (D : List Nat) : List T → PSt
  | [] => fun s => .ok .nx s
  | x :: r => fun s => match g x s with
    | none => .no
    | some s1 => match b s1 with
      | .ok .nx s2 => forL g b D r (clr D s2)
      | .ok .ct s2 => forL g b D r (clr D s2)
      | .ok .bk s2 => .ok .nx (clr D s2)
      | .ok (.rt t) s2 => .ok (.rt t) s2
      | .ex C t => .ex C t
      | .no => .no
def pFor (it : PS → Q (List T)) (g : T → PS → Option PS) (b : PSt) (D : List Nat) : PSt := fun s => PR.of (it s) fun xs => forL g b D xs (clr D s)
theorem for_go {D : List Nat} {X : Nat → Prop} {n0 : Nat} {all : List T} {src : Src} {cnt : Nat} (hg : XGt N g pg) (hb : SS F io N N N m1 p1) (hio : ∀ i ∈ io, i ∈ N) : ∀ (xs : List T) (i n : Nat) (A : List (Nat × Nat)) (ps : PS) (sw : SW) (h : Hw), all.drop i = xs → xs.length < n → A.map (·.1) = N → SrcOk (av X A) h all (src, cnt) → Sto X A ps sw h → (∀ e ∈ A, e.1 ∉ io → n0 ≤ e.2) → n0 ≤ h.length →
    SR F io n0 N L X A h (forL pg p1 D xs ps) (sFor src g m1 i n sw h)
  | [], i, 0, _, _, _, _, _, hn, _, _, _, _, _ => by cases hn
  | [], i, n + 1, A, ps, sw, h, hx, hn, a, hs, st, _, _ => by
    have hi : all[i]? = none := by
      rw [List.getElem?_eq_none]
      have := congrArg List.length hx
      rw [List.length_drop, List.length_nil] at this
      omega
    refine ⟨sw, h, A, ?_, .refl, a, st⟩
    unfold sFor
    rw [hs.2.2 i hi h .refl]
  | x :: xs, i, 0, _, _, _, _, _, hn, _, _, _, _, _ => by cases hn
  | x :: xs, i, n + 1, A, ps, sw, h, hx, hn, a, hs, st, hq, hl => by
    have hi : all[i]? = some x := by
      have : (all.drop i)[0]? = some x := by rw [hx]; rfl
      rw [List.getElem?_drop] at this
      simpa using this
    have hx' : all.drop (i + 1) = xs := by
      rw [← List.drop_drop, hx]
      rfl
    obtain ⟨w, rw0, hw⟩ := hs.2.1 i x hi
    have e0 : sFor src g m1 i (n + 1) sw h = bnd (g w sw) (fun s => bnd (m1 s) fun f => match f with
      | .nx s => sFor src g m1 (i + 1) n s
      | .ct s => sFor src g m1 (i + 1) n s
      | .bk s => rtn (.nx s)
      | .rt w => rtn (.rt w)) h := by
      conv => lhs; unfold sFor
      rw [hw h .refl]
      all_goals rfl
    rw [e0]
    unfold forL
    cases eg : pg x ps with
    | none => exact trivial
    | some s1 =>
      obtain ⟨sw1, eg1, st1⟩ := hg _ A _ _ h x w s1 a st rw0 eg
      dsimp only
      rw [bnd_run eg1]
      have z := hb X A s1 sw1 h n0 a st1 hio hq hl
      have ha' : ∀ i ∈ io, i ∈ A.map (·.1) := by rw [a]; exact hio
      cases eb : p1 s1 with
      | no => exact trivial
      | ex C t =>
        rw [eb] at z
        obtain ⟨v, h1, e1, x1, r1⟩ := z
        exact ⟨v, h1, by unfold bnd; rw [e1], x1, r1⟩
      | ok f s2 =>
        rw [eb] at z
        cases f with
        | nx =>
          obtain ⟨sw2, h2, A2, e2, go, n2, st2⟩ := z
          dsimp only
          rw [bnd_run e2]
          exact sr_then go ha' st2.nd1 (for_go hg hb hio xs (i + 1) n A2 (clr D s2) sw2 h2 hx' (by simpa using hn) n2 (hs.go go) (st2.clr D) (n0_go go hq hl) (Nat.le_trans hl go.ext.1))
        | ct =>
          obtain ⟨sw2, h2, A2, e2, go, n2, st2⟩ := z
          dsimp only
          rw [bnd_run e2]
          exact sr_then go ha' st2.nd1 (for_go hg hb hio xs (i + 1) n A2 (clr D s2) sw2 h2 hx' (by simpa using hn) n2 (hs.go go) (st2.clr D) (n0_go go hq hl) (Nat.le_trans hl go.ext.1))
        | bk =>
          obtain ⟨sw2, h2, A2, e2, go, n2, st2⟩ := z
          dsimp only
          rw [bnd_run e2]
          exact ⟨sw2, h2, A2, rfl, go, n2, st2.clr D⟩
        | rt t =>
          obtain ⟨v, h1, e1, x1, r1, o1⟩ := z
          dsimp only
          rw [bnd_run e1]
          exact ⟨v, h1, rfl, x1, r1, o1⟩
theorem ss_for (D : List Nat) (hi : XI N mi pi) (hg : XGt N g pg) (hb : SS F io N N N m1 p1) : SS F io N N L (sForI mi g m1) (pFor pi pg p1 D) := fun X A ps sw h n0 a s hio hn hl =>
  sr_of (hi X A ps sw h a s) (by rw [a]; exact hio) s.nd1 fun xs src h1 p1' r1 =>
    for_go (L := L) (D := D) hg hb hio xs 0 (src.2 + 1) A _ sw h1 rfl (Nat.lt_succ_of_le r1.1) a r1 ((s.pre p1').clr D) hn (Nat.le_trans hl p1'.length_le)
end
end EL.Pu
namespace EL.Pu
open PySem PySem.Spec L2 EL
open PyProof.Rows hiding St
section
variable {F : Bool} {io N N1 N' L : List Nat} {ma mb mk mv me mo : ME} {pa pb pk pv pe po : PE} {m1 m2 : MS} {p1 p2 : PSt} {mt : MT} {pt : PT} {g : MG} {pg : T → PS → Option PS} {mi : MI} {pi : PS → Q (List T)} {mr : MA} {pr : PA}
theorem rRt.up {X : Nat → Prop} {n0 : Nat} {t : T} {w : W} {h h' : Hw} (hh : ∀ (j : Nat) (o : EL.O), h[j]? = some o → ∃ o', h'[j]? = some o' ∧ Sim o o') (p : Nat) (hp : n0 ≤ h.length) (ho : ∀ (j : Nat) (o : EL.O), h[j]? = some o → unl o = true → h'[j]? = some o) (r : rRt F X n0 t w h) : rRt F X n0 t w h' := by
  cases F with
  | false => exact Rep.up (fun _ a b => absurd a b) (fun j o _ => hh j o) r
  | true =>
    obtain ⟨j, o, e1, e2, e3, u, r⟩ := r
    exact ⟨j, o, e1, e2, ho j o e3 u, u, r.up (fun _ a b => absurd a b) fun j o _ => hh j o⟩
end
def FnP (m : List W → M W) (p : List T → Q T) : Prop := ∀ (X : Nat → Prop) (h : Hw) (ts : List T) (ws : List W), (∀ j, X j → j < h.length) → Reps h X ts ws → QR X h (rT X) (p ts) (m ws h)
/-- .. what it returns is new -/
def FnF (m : List W → M W) (p : List T → Q T) : Prop := ∀ (X : Nat → Prop) (h : Hw) (ts : List T) (ws : List W), (∀ j, X j → j < h.length) → Reps h X ts ws → QR X h (rF X h.length) (p ts) (m ws h)
theorem FnF.P {m : List W → M W} {p : List T → Q T} (H : FnF m p) : FnP m p := fun X h ts ws l r => qr_mono (H X h ts ws l r) fun t w h' p r => by
  obtain ⟨j, o, rfl, hj, e, _, r⟩ := r
  exact .ref (fun z => Nat.lt_irrefl _ (Nat.lt_of_lt_of_le (l j z) hj)) e (r.wide fun i z => .inl (.inl z))
def finP (q : PR PFl) : Q T := match q with
  | .ok (.rt t) _ => .ok t
  | .ok .nx _ => .ok .non
  | .ex C t => .ex C t
  | _ => .no
def pFn (n N : Nat) (b : PSt) : List T → Q T := fun ts => if ts.length = n then finP (b (ts.map some ++ List.replicate (N - n) none)) else .no
theorem start_get {ts : List T} {k i : Nat} {t : T} (e : (ts.map some ++ List.replicate k none)[i]? = some (some t)) : ts[i]? = some t := by
  by_cases hi : i < ts.length
  · rw [List.getElem?_append_left (by simpa using hi), List.getElem?_map] at e
    obtain ⟨u, e1, e2⟩ := Option.map_eq_some_iff.mp e
    cases e2
    exact e1
  · rw [List.getElem?_append_right (by simpa using hi), List.getElem?_replicate] at e
    split at e <;> cases e
theorem start_put {ws : List W} {k i : Nat} {w : W} (e : ws[i]? = some w) : (ws.map some ++ List.replicate k none)[i]? = some (some w) := by
  rw [List.getElem?_append_left (by simpa using (List.getElem?_eq_some_iff.mp e).1), List.getElem?_map, e]
  rfl
theorem sto_start {X : Nat → Prop} {h : Hw} {ts : List T} {ws : List W} (k : Nat) (l : ∀ j, X j → j < h.length) (r : Reps h X ts ws) : Sto X [] (ts.map some ++ List.replicate k none) (ws.map some ++ List.replicate k none) h := by
  refine ⟨by simp [r.length], fun i t e _ => ?_, fun i j t m => (by cases m), fun i j m => (by cases m), .nil, .nil, l⟩
  obtain ⟨w, ew, rw'⟩ := r.get (start_get e)
  exact ⟨w, start_put ew, rw'.iff fun j z => z.elim id fun z => (by cases z)⟩
theorem ext0 {h h' : Hw} (e : Ext (ix []) h h') : h <+: h' := pre_of fun j o q => e.2 j o (fun z => by cases z) q
section
variable {n N : Nat} {N' : List Nat} {m : MS} {p : PSt}
theorem fn_of (H : SS false [] [] N' [] m p) : FnP (mFn n N m) (pFn n N p) := fun X h ts ws l r => by
  unfold pFn mFn
  by_cases hn : ts.length = n
  · rw [if_pos hn, if_pos (r.length.symm.trans hn)]
    have z := H X [] _ _ h 0 rfl (sto_start (N - n) l r) (fun i hi => by cases hi) (fun e he => by cases he) (Nat.zero_le _)
    cases e : p (ts.map some ++ List.replicate (N - n) none) with
    | no => exact trivial
    | ex C t =>
      rw [e] at z
      obtain ⟨w, h1, e1, x, r1⟩ := z
      exact ⟨w, h1, by unfold bnd; rw [e1], ext0 x, r1⟩
    | ok f s1 =>
      rw [e] at z
      cases f with
      | nx =>
        obtain ⟨sw', h1, A', e1, go, n1, st⟩ := z
        exact ⟨.non, h1, by rw [bnd_run e1]; rfl, ext0 go.ext, .non⟩
      | bk => exact trivial
      | ct => exact trivial
      | rt t =>
        obtain ⟨w, h1, e1, x, r1, o⟩ := z
        exact ⟨w, h1, by rw [bnd_run e1]; rfl, ext0 x, Rep.iff (fun j z => .inl z) r1⟩
  · rw [if_neg hn]
    exact trivial
/-- no value is returned but by return -/
def finF' (q : PR PFl) : Q T := match q with
  | .ok (.rt t) _ => .ok t
  | .ex C t => .ex C t
  | _ => .no
def pFnF (n N : Nat) (b : PSt) : List T → Q T := fun ts => if ts.length = n then finF' (b (ts.map some ++ List.replicate (N - n) none)) else .no
theorem fnF_of (H : SS true [] [] N' [] m p) : FnF (mFn n N m) (pFnF n N p) := fun X h ts ws l r => by
  unfold pFnF mFn
  by_cases hn : ts.length = n
  · rw [if_pos hn, if_pos (r.length.symm.trans hn)]
    have z := H X [] _ _ h h.length rfl (sto_start (N - n) l r) (fun i hi => by cases hi) (fun e he => by cases he) (Nat.le_refl _)
    cases e : p (ts.map some ++ List.replicate (N - n) none) with
    | no => exact trivial
    | ex C t =>
      rw [e] at z
      obtain ⟨w, h1, e1, x, r1⟩ := z
      exact ⟨w, h1, by unfold bnd; rw [e1], ext0 x, r1⟩
    | ok f s1 =>
      rw [e] at z
      cases f with
      | nx => exact trivial
      | bk => exact trivial
      | ct => exact trivial
      | rt t =>
        obtain ⟨w, h1, e1, x, r1, o⟩ := z
        obtain ⟨j, o, q1, q2, q3, u, q4⟩ := r1
        exact ⟨w, h1, by rw [bnd_run e1]; rfl, ext0 x, j, o, q1, q2, q3, u, q4.iff fun i z => z.imp_left fun z => .inl z⟩
  · rw [if_neg hn]
    exact trivial
end
end EL.Pu
namespace EL.Pu
open PySem PySem.Spec L2 EL
open PyProof.Rows hiding St
section
variable {N : List Nat} {ma mb mo : ME} {pa pb po : PE} {mr mk : MA} {pr pk : PA} {m : List W → M W} {p : List T → Q T} {C n : Str}
theorem xe_call (F : FnP m p) (hr : XA N mr pr) : XE N (mCall m mr) (pCall p pr) := fun X A ps sw h a s => qr_bind (hr X A ps sw h a s) fun ts ws h1 p1 r1 => F _ h1 ts ws (avl_pre p1 s.avl) r1
theorem xf_call (F : FnF m p) (hr : XA N mr pr) : XF N (mCall m mr) (pCall p pr) := fun X A ps sw h a s => qr_bind (hr X A ps sw h a s) fun ts ws h1 p1 r1 => qr_mono (F _ h1 ts ws (avl_pre p1 s.avl) r1) fun t w h' p2 r => by
  obtain ⟨j, o, e1, e2, r⟩ := r
  exact ⟨j, o, e1, Nat.le_trans p1.length_le e2, r⟩
theorem vals_of {h : Hw} {X : Nat → Prop} : ∀ {ts : List T} {ws : List W}, Reps h X ts ws → Vals' h X ts ws
  | _, _, .nil => .nil
  | _, _, .cons r rs => .cons r.val (vals_of rs)
theorem OpB.R {b : List W → M W} {v : List T → Q T} (H : OpB b v) : FnP b v := fun X h ts ws l r => H h X ts ws l (vals_of r)
def uOwn (C : Str) (tys : List String) (p : List T → Q T) (x y : T) : Q T := if (insT x C && (insT y C || tyInT y tys)) = true then p [x, y] else .no
theorem op_own {tys : List String} (F : FnP m p) : Op2R (fOwn C tys m) (uOwn C tys p) := fun h X x y wx wy l r1 r2 => by
  unfold fOwn uOwn
  rw [val_ins r1.val, val_ins r2.val, val_tyIn r2.val]
  split
  · exact F X h _ _ l (.cons r1 (.cons r2 .nil))
  · exact trivial
def uOwnNe (C : Str) (tys : List String) (p : List T → Q T) (x y : T) : Q T := (uOwn C tys p x y).bind fun z => match z with
  | .bl b => .ok (.bl (!b))
  | _ => .no
theorem op_ownNe {tys : List String} (F : FnP m p) : Op2R (fOwnNe C tys m) (uOwnNe C tys p) := fun h X x y wx wy l r1 r2 =>
  qr_bind (op_own F h X x y wx wy l r1 r2) fun z wz h1 p1 r => by
    cases r with
    | bl b => exact qr_ok (.bl _)
    | ref n e r => cases r <;> exact trivial
    | _ => exact trivial
def uOwnIx (C : Str) (p : List T → Q T) (x y : T) : Q T := if insT x C = true then p [x, y] else .no
def uOwnIn (neg : Bool) (C : Str) (p : List T → Q T) (y x : T) : Q T := if insT x C = true then (p [x, y]).bind (fun z => match z with
  | .bl b => .ok (.bl (neg != b))
  | _ => .no) else .no
theorem op_ownIn {neg : Bool} (F : FnP m p) : Op2R (fOwnIn neg C m) (uOwnIn neg C p) := fun h X y x wy wx l r1 r2 => by
  unfold fOwnIn uOwnIn
  rw [val_ins r2.val]
  split
  · refine qr_bind (F X h _ _ l (.cons r2 (.cons r1 .nil))) fun z wz h1 p1 r => ?_
    cases r with
    | bl b => exact qr_ok (.bl _)
    | ref n e r => cases r <;> exact trivial
    | _ => exact trivial
  · exact trivial
def vLenO (C : Str) (p : List T → Q T) : List T → Q T
  | [x] => if insT x C = true then (p [x]).bind (fun z => match z with
    | .int n => if 0 ≤ n ∧ n < 4611686018427387904 then .ok (.int n) else .no
    | _ => .no) else .no
  | _ => .no
theorem op_lenO (F : FnP m p) : FnP (bLenO C m) (vLenO C p) := fun X h ts ws l r => by
  cases r with
  | nil => exact trivial
  | cons r rs =>
    cases rs with
    | cons _ _ => exact trivial
    | nil =>
      unfold vLenO bLenO
      dsimp only
      rw [val_ins r.val]
      split
      · refine qr_bind (F X h _ _ l (.cons r .nil)) fun z wz h1 p1 r => ?_
        cases r with
        | int n =>
          dsimp only
          split
          · exact qr_ok (Rep.int _)
          · exact trivial
        | ref n e r => cases r <;> exact trivial
        | _ => exact trivial
      · exact trivial
def meT (C n : Str) (x : T) : Bool := match x with
  | .ins D fs => decide (D = C) && (fs.lookup n).isNone
  | _ => false
theorem rep_me {h : Hw} {X : Nat → Prop} {x : T} {w : W} (r : Rep h X x w) (e : meT C n x = true) : isIns C n w h = .ok () h := by
  cases r with
  | ref nj e' r =>
    cases r with
    | ins k r =>
      rename_i D fs fw
      unfold meT at e
      obtain ⟨e1, e2⟩ := Bool.and_eq_true_iff.mp e
      unfold isIns
      simp only [e']
      have z := lookup_rep (f := n) k r
      cases q : fs.lookup n with
      | some t => rw [q] at e2; cases e2
      | none =>
        rw [q] at z
        rw [if_pos ⟨of_decide_eq_true e1, by rw [z]; rfl⟩]
    | _ => cases e
  | _ => cases e
def pMeth (C n : Str) (p : List T → Q T) (o : PE) (a : PA) : PE := fun s => (o s).bind fun x => if meT C n x = true then (a s).bind fun ts => p (x :: ts) else .no
theorem xf_meth (F : FnF m p) (ho : XE N mo po) (hr : XA N mr pr) : XF N (mMeth C n m [] mo mr) (pMeth C n p po pr) := fun X A ps sw h a s =>
  qr_bind (ho X A ps sw h a s) fun x wx h1 p1 r1 => by
    split
    · rename_i e
      rw [bnd_run (rep_me r1 e)]
      refine qr_bind (hr X A ps sw h1 a (s.pre p1)) fun ts ws h2 p2 r2 => ?_
      rw [List.append_nil]
      refine qr_mono (F _ h2 _ _ (avl_pre p2 (avl_pre p1 s.avl)) (.cons (r1.pre p2) r2)) fun t w h' p3 r => ?_
      obtain ⟨j, o, e1, e2, r⟩ := r
      exact ⟨j, o, e1, Nat.le_trans (Nat.le_trans p1.length_le p2.length_le) e2, r⟩
    · exact trivial
def pCallO (C : Str) (p : List T → Q T) (o : PE) (a : PA) : PE := fun s => (o s).bind fun x => (a s).bind fun ts => if insT x C = true then p (x :: ts) else .no
def pProp (C : Str) (p : List T → Q T) (o : PE) : PE := fun s => (o s).bind fun x => if insT x C = true then p [x] else .no
theorem xe_prop (F : FnP m p) (ho : XE N mo po) : XE N (mProp C m mo) (pProp C p po) := fun X A ps sw h a s =>
  qr_bind (ho X A ps sw h a s) fun x wx h1 p1 r1 => by
    rw [val_ins r1.val]
    split
    · exact F _ h1 _ _ (avl_pre p1 s.avl) (.cons r1 .nil)
    · exact trivial
/-- __init__: what is being made is owned; C: its class -/
def FnI (C : Str) (m : List W → M W) (p : List T → Q T) : Prop := ∀ (X : Nat → Prop) (h : Hw) (j : Nat) (ts : List T) (ws : List W), (∀ k, X k → k < h.length) → ¬ X j → h[j]? = some (.ins C []) → Reps h (wid X j) ts ws → match p ts with
  | .ok t => ∃ h' o, m (.ref j :: ws) h = .ok .non h' ∧ Ext (fun k => k = j) h h' ∧ h'[j]? = some o ∧ unl o = true ∧ Orp h' (wid X j) t o
  | .ex C t => ∃ w h', m (.ref j :: ws) h = .ex C w h' ∧ Ext (fun k => k = j) h h' ∧ Rep h' X t w
  | .no => True
def finI (q : PR PFl) : Q T := match q with
  | .ok .nx s => (match Pu.own 0 s with
    | some t => .ok t
    | none => .no)
  | .ok (.rt .non) s => (match Pu.own 0 s with
    | some t => .ok t
    | none => .no)
  | .ex C t => .ex C t
  | _ => .no
def pFnI (C : Str) (n N : Nat) (b : PSt) : List T → Q T := fun ts => if ts.length + 1 = n then finI (b ((T.ins C [] :: ts).map some ++ List.replicate (N - n) none)) else .no
theorem fnI_of {n N : Nat} {N' : List Nat} {ms : MS} {q : PSt} (H : SS false [0] [0] N' [] ms q) : FnI C (mFn n N ms) (pFnI C n N q) := fun X h j ts ws l nj ej r => by
  unfold pFnI mFn
  by_cases hn : ts.length + 1 = n
  · have hn' : (W.ref j :: ws).length = n := by rw [List.length_cons, ← r.length]; exact hn
    rw [if_pos hn, if_pos hn']
    have jl : j < h.length := (List.getElem?_eq_some_iff.mp ej).1
    have avw' : ∀ k, av X [(0, j)] k ↔ wid X j k := fun k => by
      constructor
      · rintro (z | z)
        · exact .inl z
        · exact .inr (by simpa using z)
      · rintro (z | z)
        · exact .inl z
        · exact .inr (by simpa using z)
    have st : Sto X [(0, j)] ((T.ins C [] :: ts).map some ++ List.replicate (N - n) none) ((W.ref j :: ws).map some ++ List.replicate (N - n) none) h := by
      refine ⟨by simp [r.length], fun i t e ni => ?_, fun i k t m e => ?_, fun i k m => ?_, by simp, by simp, l⟩
      · have e1 := start_get e
        cases i with
        | zero => exact absurd (by simp) ni
        | succ i =>
          rw [List.getElem?_cons_succ] at e1
          obtain ⟨w, ew, rw'⟩ := r.get e1
          exact ⟨w, start_put (by rw [List.getElem?_cons_succ]; exact ew), rw'.iff fun k z => (avw' k).mp z⟩
      · have m' := List.mem_singleton.mp m
        cases m'
        have e1 := start_get e
        cases e1
        exact ⟨rfl, _, ej, rfl, .ins rfl .nil⟩
      · have m' := List.mem_singleton.mp m
        cases m'
        exact ⟨jl, nj⟩
    have z := H X [(0, j)] _ _ h 0 rfl st (fun i hi => hi) (fun e he hi => by
      have := List.mem_singleton.mp he
      subst this
      exact absurd (by simp) hi) (Nat.zero_le _)
    have avI' : ∀ k, wid X j k → avI [0] X [(0, j)] k := fun k z => z.imp_right fun e => ⟨0, by simp, by simp [e]⟩
    have avI2 : ∀ k, avI [0] X [(0, j)] k → wid X j k := fun k z => z.imp_right fun ⟨i, _, m⟩ => by
      have := List.mem_singleton.mp m
      cases this
      rfl
    have ext' : ∀ h', Ext (ix [(0, j)]) h h' → Ext (fun k => k = j) h h' := fun h' x => x.mono fun k z => by
      obtain ⟨e, he, rfl⟩ := List.mem_map.mp z
      have := List.mem_singleton.mp he
      subst this
      rfl
    cases e : q ((T.ins C [] :: ts).map some ++ List.replicate (N - n) none) with
    | no => exact trivial
    | ex C t =>
      rw [e] at z
      obtain ⟨w, h1, e1, x, r1⟩ := z
      exact ⟨w, h1, by unfold bnd; rw [e1], ext' _ x, r1⟩
    | ok f s1 =>
      rw [e] at z
      cases f with
      | nx =>
        obtain ⟨sw', h1, A', e1, go, n1, s'⟩ := z
        unfold finI
        dsimp only
        cases eo : Pu.own 0 s1 with
        | none => exact trivial
        | some t =>
          have m := go.keep (0, j) (by simp) (by simp)
          obtain ⟨_, o, eo1, uo, ro⟩ := s'.ow 0 j t m (own_some eo)
          exact ⟨h1, o, by rw [bnd_run e1]; rfl, ext' _ go.ext, eo1, uo, ro.iff fun k z => z.elim .inl fun z => .inr (List.mem_map.mpr ⟨_, m, z.symm⟩)⟩
      | bk => exact trivial
      | ct => exact trivial
      | rt t =>
        obtain ⟨w, h1, e1, x, r1, o1⟩ := z
        cases t with
        | non =>
          unfold finI
          dsimp only
          cases eo : Pu.own 0 s1 with
          | none => exact trivial
          | some t =>
            obtain ⟨o, eo1, uo, ro⟩ := o1 0 j t (by simp) (by simp) (own_some eo)
            have ew : w = .non := by
              have r2 : Rep h1 _ T.non w := r1
              cases r2 with
              | non => rfl
              | ref n e r => cases r
            subst ew
            exact ⟨h1, o, by rw [bnd_run e1]; rfl, ext' _ x, eo1, uo, ro.iff fun k z => .inl (avI' k z)⟩
        | _ => exact trivial
  · rw [if_neg hn]
    exact trivial
theorem make_run {X : Nat → Prop} {h : Hw} {ts : List T} {ws : List W} (F : FnI C m p) (l : ∀ j, X j → j < h.length) (r : Reps h X ts ws) : QR X h (rF X h.length) (p ts) (bnd (alloc (.ins C [])) (fun r => bnd (m (r :: ws)) fun u => match u with
    | .non => rtn r
    | _ => bad) h) := by
  have p0 : h <+: h ++ [O.ins C []] := List.prefix_append _ _
  have ej : (h ++ [O.ins C []])[h.length]? = some (.ins C []) := by simp
  have z := F X (h ++ [O.ins C []]) h.length ts ws (avl_pre p0 l) (fun z => Nat.lt_irrefl _ (l _ z)) ej ((r.wide (Y := wid X h.length) fun k z => z.imp_right fun e => Nat.le_of_eq e.symm).pre p0)
  have ea : alloc (.ins C []) h = .ok (.ref h.length) (h ++ [O.ins C []]) := rfl
  have pre : ∀ h', Ext (fun k => k = h.length) (h ++ [O.ins C []]) h' → h <+: h' := fun h' x => pre_of fun j o e => x.2 j o (fun z => by
    have z : j = h.length := z
    rw [z, get_none (Nat.le_refl _)] at e
    cases e) (pre_get p0 e)
  rw [bnd_run ea]
  cases e : p ts with
  | no => exact trivial
  | ex C' t =>
    rw [e] at z
    obtain ⟨w, h', e1, x, r1⟩ := z
    exact ⟨w, h', by unfold bnd; rw [e1], pre h' x, r1⟩
  | ok t =>
    rw [e] at z
    obtain ⟨h', o, e1, x, eo, uo, ro⟩ := z
    exact ⟨.ref h.length, h', by rw [bnd_run e1]; rfl, pre h' x, h.length, o, rfl, Nat.le_refl _, eo, uo, ro⟩
def pMake (p : List T → Q T) (d : List T) (a : PA) : PE := fun s => (a s).bind fun ts => p (ts ++ d)
theorem xf_make {dws : List W} {dT : List T} (F : FnI C m p) (hd : ∀ h X, Reps h X dT dws) (hr : XA N mr pr) : XF N (mMake C m dws mr) (pMake p dT pr) := fun X A ps sw h a s =>
  qr_bind (hr X A ps sw h a s) fun ts ws h1 p1 r1 => qr_mono (make_run F (avl_pre p1 s.avl) (r1.append (hd _ _))) fun t w h' p2 r => by
    obtain ⟨j, o, e1, e2, r⟩ := r
    exact ⟨j, o, e1, Nat.le_trans p1.length_le e2, r⟩
def pMakeK (p : List T → Q T) (n m : Nat) (g : List T → List T → List T) (a k : PA) : PE := fun s => (a s).bind fun xs => (k s).bind fun zs => if xs.length = n ∧ zs.length = m then p (g xs zs) else .no
theorem xf_makeK {n' m' : Nat} {g : List W → List W → List W} {gT : List T → List T → List T} (F : FnI C m p) (hg : ∀ h X ts ws us vs, Reps h X ts ws → Reps h X us vs → Reps h X (gT ts us) (g ws vs)) (hr : XA N mr pr) (hk : XA N mk pk) : XF N (mMakeK C m n' m' g mr mk) (pMakeK p n' m' gT pr pk) := fun X A ps sw h a s =>
  qr_bind (hr X A ps sw h a s) fun ts ws h1 p1 r1 => qr_bind (hk X A ps sw h1 a (s.pre p1)) fun us vs h2 p2 r2 => by
    rw [← r1.length, ← r2.length]
    split
    · refine qr_mono (make_run F (avl_pre p2 (avl_pre p1 s.avl)) (hg _ _ _ _ _ _ (r1.pre p2) r2)) fun t w h' p3 r => ?_
      obtain ⟨j, o, e1, e2, r⟩ := r
      exact ⟨j, o, e1, Nat.le_trans (Nat.le_trans p1.length_le p2.length_le) e2, r⟩
    · exact trivial
theorem g_app : ∀ (h : Hw) (X : Nat → Prop) (ts : List T) (ws : List W) (us : List T) (vs : List W), Reps h X ts ws → Reps h X us vs → Reps h X ((fun xs zs => xs ++ zs) ts us) ((fun xs zs => xs ++ zs) ws vs) := fun _ _ _ _ _ _ a b => a.append b
end
end EL.Pu
namespace EL.Pu
open PySem PySem.Spec L2 EL
open PyProof.Rows hiding St
def PR.bind {α β : Type} (q : PR α) (k : α → PS → PR β) : PR β := match q with
  | .ok a s => k a s
  | .ex C t => .ex C t
  | .no => .no
@[simp] theorem PR.bind_ok {α β : Type} (a : α) (s : PS) (k : α → PS → PR β) : (PR.ok a s).bind k = k a s := rfl
def RG {α β : Type} (X : Nat → Prop) (A : List (Nat × Nat)) (sw : SW) (h : Hw) (rel : α → β → Hw → Prop) (q : PR α) (r : R β) : Prop := match q with
  | .ok a s' => ∃ b h', r = .ok b h' ∧ Ext (ix A) h h' ∧ Sto X A s' sw h' ∧ rel a b h'
  | .ex C t => ∃ w h', r = .ex C w h' ∧ Ext (ix A) h h' ∧ Rep h' X t w
  | .no => True
def SG {α β : Type} (N : List Nat) (rel : (Nat → Prop) → Nat → α → β → Hw → Prop) (m : SW → M β) (q : PS → PR α) : Prop :=
  ∀ X A ps sw h, A.map (·.1) = N → Sto X A ps sw h → RG X A sw h (rel (av X A) h.length) (q ps) (m sw h)
abbrev SE (N : List Nat) (m : ME) (q : PS → PR T) : Prop := SG N (fun X _ => rT X) m q
abbrev SA (N : List Nat) (m : MA) (q : PS → PR (List T)) : Prop := SG N (fun X _ => rA X) m q
/-- .. what comes is a new object, that the state does not touch -/
def RF (X : Nat → Prop) (A : List (Nat × Nat)) (sw : SW) (h : Hw) (q : PR T) (r : R W) : Prop := match q with
  | .ok t s' => ∃ j o h', r = .ok (.ref j) h' ∧ Ext (ix A) h h' ∧ h.length ≤ j ∧ h'[j]? = some o ∧ unl o = true ∧ Orp h' (wid (av X A) j) t o ∧ Sto (wid X j) A s' sw h'
  | .ex C t => ∃ w h', r = .ex C w h' ∧ Ext (ix A) h h' ∧ Rep h' X t w
  | .no => True
def SF (N : List Nat) (m : ME) (q : PS → PR T) : Prop := ∀ X A ps sw h, A.map (·.1) = N → Sto X A ps sw h → RF X A sw h (q ps) (m sw h)
theorem Sto.less {X Y : Nat → Prop} {A : List (Nat × Nat)} {s : PS} {sw : SW} {h : Hw} (st : Sto Y A s sw h) (l : ∀ j, X j → Y j) : Sto X A s sw h := by
  have sub : ∀ j, av X A j → av Y A j := fun j z => z.imp_left (l j)
  refine ⟨st.len, fun i t e n => ?_, fun i j t m e => ?_, fun i j m => ⟨(st.lt i j m).1, fun z => (st.lt i j m).2 (l j z)⟩, st.nd, st.nd1, fun j z => st.xl j (l j z)⟩
  · obtain ⟨w, e2, r⟩ := st.fr i t e n
    exact ⟨w, e2, r.iff sub⟩
  · obtain ⟨e2, o, q1, q2, q3⟩ := st.ow i j t m e
    exact ⟨e2, o, q1, q2, q3.iff sub⟩
section
variable {α β γ δ : Type} {X : Nat → Prop} {A : List (Nat × Nat)} {sw : SW} {h : Hw}
theorem rg_bind {rel : α → β → Hw → Prop} {rel' : γ → δ → Hw → Prop} {q : PR α} {k : α → PS → PR γ} {m : M β} {f : β → M δ} (H : RG X A sw h rel q (m h)) (K : ∀ a s' b h', Ext (ix A) h h' → Sto X A s' sw h' → rel a b h' → RG X A sw h' rel' (k a s') (f b h')) : RG X A sw h rel' (q.bind k) (bnd m f h) := by
  cases q with
  | no => exact trivial
  | ex C t =>
    obtain ⟨w, h', e, x, r⟩ := H
    exact ⟨w, h', by unfold bnd; rw [e], x, r⟩
  | ok a s =>
    obtain ⟨b, h', e, x, st, r⟩ := H
    have z := K a s b h' x st r
    rw [bnd_run e, PR.bind_ok]
    cases q2 : k a s with
    | no => exact trivial
    | ex C t =>
      rw [q2] at z
      obtain ⟨w, h2, e2, x2, r2⟩ := z
      exact ⟨w, h2, e2, x.trans x2, r2⟩
    | ok c s2 =>
      rw [q2] at z
      obtain ⟨w, h2, e2, x2, st2, r2⟩ := z
      exact ⟨w, h2, e2, x.trans x2, st2, r2⟩
theorem rg_ok {rel : α → β → Hw → Prop} {a : α} {b : β} {s : PS} (st : Sto X A s sw h) (r : rel a b h) : RG X A sw h rel (.ok a s) (.ok b h) := ⟨b, h, rfl, .refl, st, r⟩
def lift (q : Q α) (s : PS) : PR α := match q with
  | .ok a => .ok a s
  | .ex C t => .ex C t
  | .no => .no
@[simp] theorem lift_ok (a : α) (s : PS) : lift (.ok a) s = .ok a s := rfl
theorem rg_lift {rel : α → β → Hw → Prop} {q : Q α} {r : R β} {s : PS} (st : Sto X A s sw h) (H : QR (av X A) h rel q r) : RG X A sw h rel (lift q s) r := by
  cases q with
  | no => exact trivial
  | ex C t =>
    obtain ⟨w, h', e, p, r⟩ := H
    exact ⟨w, h', e, .of_pre p, r.iff fun j z => .inl z⟩
  | ok a =>
    obtain ⟨b, h', e, p, r⟩ := H
    exact ⟨b, h', e, .of_pre p, st.pre p, r⟩
def qOf (p : PS → Q α) : PS → PR α := fun s => lift (p s) s
theorem ext_av {h' : Hw} (x : Ext (ix A) h h') : Ext (av X A) h h' := x.mono fun j z => .inr z
end
section
variable {N : List Nat} {ma mb mo : ME} {pa pb : PE} {qa qb qo : PS → PR T} {mr mk : MA} {qr qk : PS → PR (List T)} {mt mu : MT} {qt qu : PS → PR Bool} {m : List W → M W} {p : List T → Q T} {C n : Str} {ml mu' : MO} {ql qu' : PS → PR (Option Int)}
theorem se_of (H : XE N ma pa) : SE N ma (qOf pa) := fun X A ps sw h a s => rg_lift s (H X A ps sw h a s)
theorem se_new (H : SF N ma qa) : SE N ma qa := fun X A ps sw h a s => by
  have z := H X A ps sw h a s
  cases e : qa ps with
  | no => exact trivial
  | ex C t => rw [e] at z; exact z
  | ok t s' =>
    rw [e] at z
    obtain ⟨j, o, h', e1, x, l, eo, uo, ro, st⟩ := z
    exact ⟨_, h', e1, x, st.less fun j z => .inl z, .ref (s.fresh l) eo (ro.iff fun i z => .inl z)⟩
def qBin (g : T → T → Q T) (a b : PS → PR T) : PS → PR T := fun s => (a s).bind fun x s1 => (b s1).bind fun y s2 => lift (g x y) s2
theorem se_bin {f : W → W → M W} {g : T → T → Q T} (op : Op2R f g) (ha : SE N ma qa) (hb : SE N mb qb) : SE N (mBin f ma mb) (qBin g qa qb) := fun X A ps sw h a s =>
  rg_bind (ha X A ps sw h a s) fun x s1 wx h1 x1 st1 r1 => rg_bind (hb X A s1 sw h1 a st1) fun y s2 wy h2 x2 st2 r2 => rg_lift st2 (op h2 _ x y wx wy st2.avl (r1.ext (ext_av x2)) r2)
def qaNil : PS → PR (List T) := fun s => .ok [] s
def qaCons (a : PS → PR T) (r : PS → PR (List T)) : PS → PR (List T) := fun s => (a s).bind fun x s1 => (r s1).bind fun xs s2 => .ok (x :: xs) s2
theorem sa_nil : SA N aNil qaNil := fun X A ps sw h a s => rg_ok s .nil
theorem sa_cons (ha : SE N ma qa) (hr : SA N mr qr) : SA N (aCons ma mr) (qaCons qa qr) := fun X A ps sw h a s =>
  rg_bind (ha X A ps sw h a s) fun x s1 wx h1 x1 st1 r1 => rg_bind (hr X A s1 sw h1 a st1) fun y s2 wy h2 x2 st2 r2 => rg_ok st2 (.cons (r1.ext (ext_av x2)) r2)
def qTup (r : PS → PR (List T)) : PS → PR T := fun s => (r s).bind fun xs s1 => if xs.length ≤ lim then .ok (.tup xs) s1 else .no
theorem se_tup (hr : SA N mr qr) : SE N (mTup mr) (qTup qr) := fun X A ps sw h a s => rg_bind (hr X A ps sw h a s) fun ts s1 ws h1 x1 st1 r1 => by
  rw [← r1.length]
  split
  · exact rg_ok st1 (.tup r1)
  · exact trivial
def qLst (r : PS → PR (List T)) : PS → PR T := fun s => (r s).bind fun xs s1 => if xs.length ≤ lim then .ok (.lst xs) s1 else .no
def qCall (f : List T → Q T) (r : PS → PR (List T)) : PS → PR T := fun s => (r s).bind fun ts s1 => lift (f ts) s1
def qMake (f : List T → Q T) (d : List T) (r : PS → PR (List T)) : PS → PR T := fun s => (r s).bind fun ts s1 => lift (f (ts ++ d)) s1
def qMakeK (f : List T → Q T) (n m : Nat) (g : List T → List T → List T) (a k : PS → PR (List T)) : PS → PR T := fun s => (a s).bind fun xs s1 => (k s1).bind fun zs s2 => if xs.length = n ∧ zs.length = m then lift (f (g xs zs)) s2 else .no
def qoSo (a : PS → PR T) : PS → PR (Option Int) := fun s => (a s).bind fun x s1 => match x with
  | .int i => .ok (some i) s1
  | _ => .no
def qSl (a : PS → PR T) (l u : PS → PR (Option Int)) : PS → PR T := fun s => (a s).bind fun x s1 => (l s1).bind fun lo s2 => (u s2).bind fun hi s3 => lift (uSl x lo hi) s3
end
end EL.Pu
namespace EL.Pu
open PySem PySem.Spec L2 EL
open PyProof.Rows hiding St
inductive Q1 where
  | ok (t s : T) | ex (C : Str) (t : T) | no
/-- a def that changes its first argument -/
def FnS (m : List W → M W) (p : T → List T → Q1) : Prop := ∀ (X : Nat → Prop) (h : Hw) (j : Nat) (t0 : T) (o : EL.O) (ts : List T) (ws : List W), (∀ k, X k → k < h.length) → ¬ X j → h[j]? = some o → unl o = true → Orp h (wid X j) t0 o → Reps h (wid X j) ts ws → match p t0 ts with
  | .ok t t1 => ∃ w h' o', m (.ref j :: ws) h = .ok w h' ∧ Ext (fun k => k = j) h h' ∧ Rep h' (wid X j) t w ∧ h'[j]? = some o' ∧ unl o' = true ∧ Orp h' (wid X j) t1 o'
  | .ex C t => ∃ w h', m (.ref j :: ws) h = .ex C w h' ∧ Ext (fun k => k = j) h h' ∧ Rep h' X t w
  | .no => True
def fin1 (q : PR PFl) : Q1 := match q with
  | .ok (.rt t) s => (match Pu.own 0 s with
    | some u => .ok t u
    | none => .no)
  | .ok .nx s => (match Pu.own 0 s with
    | some u => .ok .non u
    | none => .no)
  | .ex C t => .ex C t
  | _ => .no
def qFn (n N : Nat) (b : PSt) (t0 : T) (ts : List T) : Q1 := if ts.length + 1 = n then fin1 (b ((t0 :: ts).map some ++ List.replicate (N - n) none)) else .no
theorem fnS_of {n N : Nat} {N' : List Nat} {ms : MS} {q : PSt} (H : SS false [0] [0] N' [] ms q) : FnS (mFn n N ms) (qFn n N q) := fun X h j t0 o0 ts ws l nj ej uo0 ro0 r => by
  unfold qFn mFn
  by_cases hn : ts.length + 1 = n
  · have hn' : (W.ref j :: ws).length = n := by rw [List.length_cons, ← r.length]; exact hn
    rw [if_pos hn, if_pos hn']
    have jl : j < h.length := (List.getElem?_eq_some_iff.mp ej).1
    have avw' : ∀ k, av X [(0, j)] k → wid X j k := fun k z => z.imp_right fun z => by simpa using z
    have st : Sto X [(0, j)] ((t0 :: ts).map some ++ List.replicate (N - n) none) ((W.ref j :: ws).map some ++ List.replicate (N - n) none) h := by
      refine ⟨by simp [r.length], fun i t e ni => ?_, fun i k t m e => ?_, fun i k m => ?_, by simp, by simp, l⟩
      · have e1 := start_get e
        cases i with
        | zero => exact absurd (by simp) ni
        | succ i =>
          rw [List.getElem?_cons_succ] at e1
          obtain ⟨w, ew, rw'⟩ := r.get e1
          exact ⟨w, start_put (by rw [List.getElem?_cons_succ]; exact ew), rw'.iff avw'⟩
      · have m' := List.mem_singleton.mp m
        cases m'
        have e1 := start_get e
        cases e1
        exact ⟨rfl, _, ej, uo0, ro0.iff avw'⟩
      · have m' := List.mem_singleton.mp m
        cases m'
        exact ⟨jl, nj⟩
    have z := H X [(0, j)] _ _ h 0 rfl st (fun i hi => hi) (fun e he hi => by
      have := List.mem_singleton.mp he
      subst this
      exact absurd (by simp) hi) (Nat.zero_le _)
    have avI' : ∀ k, wid X j k → avI [0] X [(0, j)] k := fun k z => z.imp_right fun e => ⟨0, by simp, by simp [e]⟩
    have ext' : ∀ h', Ext (ix [(0, j)]) h h' → Ext (fun k => k = j) h h' := fun h' x => x.mono fun k z => by
      obtain ⟨e, he, rfl⟩ := List.mem_map.mp z
      have := List.mem_singleton.mp he
      subst this
      rfl
    cases e : q ((t0 :: ts).map some ++ List.replicate (N - n) none) with
    | no => exact trivial
    | ex C t =>
      rw [e] at z
      obtain ⟨w, h1, e1, x, r1⟩ := z
      exact ⟨w, h1, by unfold bnd; rw [e1], ext' _ x, r1⟩
    | ok f s1 =>
      rw [e] at z
      cases f with
      | nx =>
        obtain ⟨sw', h1, A', e1, go, n1, s'⟩ := z
        unfold fin1
        dsimp only
        cases eo : Pu.own 0 s1 with
        | none => exact trivial
        | some t =>
          have m := go.keep (0, j) (by simp) (by simp)
          obtain ⟨_, o, eo1, uo, ro⟩ := s'.ow 0 j t m (own_some eo)
          exact ⟨.non, h1, o, by rw [bnd_run e1]; rfl, ext' _ go.ext, .non, eo1, uo, ro.iff fun k z => z.elim .inl fun z => .inr (List.mem_map.mpr ⟨_, m, z.symm⟩)⟩
      | bk => exact trivial
      | ct => exact trivial
      | rt t =>
        obtain ⟨w, h1, e1, x, r1, o1⟩ := z
        unfold fin1
        dsimp only
        cases eo : Pu.own 0 s1 with
        | none => exact trivial
        | some u =>
          obtain ⟨o, eo1, uo, ro⟩ := o1 0 j u (by simp) (by simp) (own_some eo)
          exact ⟨w, h1, o, by rw [bnd_run e1]; rfl, ext' _ x, Rep.iff avI' r1, eo1, uo, ro.iff fun k z => .inl (avI' k z)⟩
  · rw [if_neg hn]
    exact trivial
/-- .. and returns what is new -/
def FnSF (m : List W → M W) (p : T → List T → Q1) : Prop := ∀ (X : Nat → Prop) (h : Hw) (j : Nat) (t0 : T) (o : EL.O) (ts : List T) (ws : List W), (∀ k, X k → k < h.length) → ¬ X j → h[j]? = some o → unl o = true → Orp h (wid X j) t0 o → Reps h (wid X j) ts ws → match p t0 ts with
  | .ok t t1 => ∃ w h' o', m (.ref j :: ws) h = .ok w h' ∧ Ext (fun k => k = j) h h' ∧ rF (wid X j) h.length t w h' ∧ h'[j]? = some o' ∧ unl o' = true ∧ Orp h' (fun k => wid X j k ∨ w = .ref k) t1 o'
  | .ex C t => ∃ w h', m (.ref j :: ws) h = .ex C w h' ∧ Ext (fun k => k = j) h h' ∧ Rep h' X t w
  | .no => True
def fin1F (q : PR PFl) : Q1 := match q with
  | .ok (.rt t) s => (match Pu.own 0 s with
    | some u => .ok t u
    | none => .no)
  | .ex C t => .ex C t
  | _ => .no
def qFnF (n N : Nat) (b : PSt) (t0 : T) (ts : List T) : Q1 := if ts.length + 1 = n then fin1F (b ((t0 :: ts).map some ++ List.replicate (N - n) none)) else .no
theorem fnSF_of {n N : Nat} {N' : List Nat} {ms : MS} {q : PSt} (H : SS true [0] [0] N' [] ms q) : FnSF (mFn n N ms) (qFnF n N q) := fun X h j t0 o0 ts ws l nj ej uo0 ro0 r => by
  unfold qFnF mFn
  by_cases hn : ts.length + 1 = n
  · have hn' : (W.ref j :: ws).length = n := by rw [List.length_cons, ← r.length]; exact hn
    rw [if_pos hn, if_pos hn']
    have jl : j < h.length := (List.getElem?_eq_some_iff.mp ej).1
    have avw' : ∀ k, av X [(0, j)] k → wid X j k := fun k z => z.imp_right fun z => by simpa using z
    have st : Sto X [(0, j)] ((t0 :: ts).map some ++ List.replicate (N - n) none) ((W.ref j :: ws).map some ++ List.replicate (N - n) none) h := by
      refine ⟨by simp [r.length], fun i t e ni => ?_, fun i k t m e => ?_, fun i k m => ?_, by simp, by simp, l⟩
      · have e1 := start_get e
        cases i with
        | zero => exact absurd (by simp) ni
        | succ i =>
          rw [List.getElem?_cons_succ] at e1
          obtain ⟨w, ew, rw'⟩ := r.get e1
          exact ⟨w, start_put (by rw [List.getElem?_cons_succ]; exact ew), rw'.iff avw'⟩
      · have m' := List.mem_singleton.mp m
        cases m'
        have e1 := start_get e
        cases e1
        exact ⟨rfl, _, ej, uo0, ro0.iff avw'⟩
      · have m' := List.mem_singleton.mp m
        cases m'
        exact ⟨jl, nj⟩
    have z := H X [(0, j)] _ _ h h.length rfl st (fun i hi => hi) (fun e he hi => by
      have := List.mem_singleton.mp he
      subst this
      exact absurd (by simp) hi) (Nat.le_refl _)
    have avI' : ∀ k, wid X j k → avI [0] X [(0, j)] k := fun k z => z.imp_right fun e => ⟨0, by simp, by simp [e]⟩
    have ext' : ∀ h', Ext (ix [(0, j)]) h h' → Ext (fun k => k = j) h h' := fun h' x => x.mono fun k z => by
      obtain ⟨e, he, rfl⟩ := List.mem_map.mp z
      have := List.mem_singleton.mp he
      subst this
      rfl
    cases e : q ((t0 :: ts).map some ++ List.replicate (N - n) none) with
    | no => exact trivial
    | ex C t =>
      rw [e] at z
      obtain ⟨w, h1, e1, x, r1⟩ := z
      exact ⟨w, h1, by unfold bnd; rw [e1], ext' _ x, r1⟩
    | ok f s1 =>
      rw [e] at z
      cases f with
      | nx => exact trivial
      | bk => exact trivial
      | ct => exact trivial
      | rt t =>
        obtain ⟨w, h1, e1, x, r1, o1⟩ := z
        unfold fin1F
        dsimp only
        cases eo : Pu.own 0 s1 with
        | none => exact trivial
        | some u =>
          obtain ⟨o, eo1, uo, ro⟩ := o1 0 j u (by simp) (by simp) (own_some eo)
          obtain ⟨j2, o2, q1, q2, q3, u2, q4⟩ := r1
          exact ⟨w, h1, o, by rw [bnd_run e1]; rfl, ext' _ x, ⟨j2, o2, q1, q2, q3, u2, q4.iff fun k z => z.imp_left (avI' k)⟩, eo1, uo, ro.iff fun k z => z.elim (fun z => .inl (avI' k z)) fun z => .inr ⟨rfl, z⟩⟩
  · rw [if_neg hn]
    exact trivial
theorem FnSF.S {m : List W → M W} {p : T → List T → Q1} (H : FnSF m p) : FnS m p := fun X h j t0 o ts ws l nj ej uo ro r => by
  have z := H X h j t0 o ts ws l nj ej uo ro r
  cases e : p t0 ts with
  | no => exact trivial
  | ex C t => rw [e] at z; exact z
  | ok t t1 =>
    rw [e] at z
    obtain ⟨w, h', o', e1, x, ⟨j2, o2, rfl, q2, q3, _, q4⟩, r2⟩ := z
    have jl := (List.getElem?_eq_some_iff.mp ej).1
    exact ⟨_, h', o', e1, x, .ref (fun z => z.elim (fun z => Nat.lt_irrefl _ (Nat.lt_of_lt_of_le (l j2 z) q2)) fun z => by omega) q3 (q4.iff fun k z => .inl z), r2.1, r2.2.1, r2.2.2.iff fun k z => .inl z⟩
/-- an owned object is changed by another def -/
theorem Sto.mut2 {X : Nat → Prop} {A : List (Nat × Nat)} {ps : PS} {sw : SW} {h h' : Hw} (s : Sto X A ps sw h) {i j : Nat} {t t0 : T} {o : EL.O} (m : (i, j) ∈ A) (e0 : ps[i]? = some (some t0)) (x : Ext (fun k => k = j) h h') (eo : h'[j]? = some o) (uo : unl o = true) (r : Orp h' (av X A) t o) : Sto X A (ps.set i (some t)) sw h' := by
  have up : ∀ (k : Nat) (u : EL.O), ¬ av X A k → h[k]? = some u → ∃ u', h'[k]? = some u' ∧ Sim u u' := fun k u n e => ⟨u, x.2 k u (fun z => n (.inr (by
    have z : k = j := z
    rw [z]
    exact List.mem_map.mpr ⟨_, m, rfl⟩))) e, .refl _⟩
  refine ⟨by rw [List.length_set]; exact s.len, fun k u e n => ?_, fun k l u m' e => ?_, fun k l m' => ⟨Nat.lt_of_lt_of_le (s.lt k l m').1 x.1, (s.lt k l m').2⟩, s.nd, s.nd1, fun k z => Nat.lt_of_lt_of_le (s.xl k z) x.1⟩
  · have hk : i ≠ k := fun z => n (by rw [← z]; exact List.mem_map.mpr ⟨_, m, rfl⟩)
    rw [List.getElem?_set_ne hk] at e
    obtain ⟨w, e1, r1⟩ := s.fr k u e n
    exact ⟨w, e1, r1.up (fun _ a b => absurd a b) up⟩
  · by_cases hk : i = k
    · subst hk
      have hl := nd_l s.nd1 m' m
      subst hl
      rw [List.getElem?_set, if_pos rfl] at e
      split at e
      · cases e
        obtain ⟨ew, _⟩ := s.ow i l t0 m e0
        exact ⟨ew, o, eo, uo, r⟩
      · cases e
    · rw [List.getElem?_set_ne hk] at e
      obtain ⟨e1, o1, e2, u1, r1⟩ := s.ow k l u m' e
      have hl : l ≠ j := fun z => hk (nd_r s.nd m (by rw [← z]; exact m'))
      exact ⟨e1, o1, x.2 l o1 hl e2, u1, r1.up (fun _ a b => absurd a b) up⟩
def goS (f : T → List T → Q1) (i : Nat) (ts : List T) (s1 : PS) : PR T := match Pu.own i s1 with
  | some t0 => (match f t0 ts with
    | .ok t t1 => .ok t (s1.set i (some t1))
    | _ => .no)
  | none => .no
def qCallS (f : T → List T → Q1) (i : Nat) (r : PS → PR (List T)) : PS → PR T := fun s => match r s with
  | .ok ts s1 => goS f i ts s1
  | _ => .no
section
variable {N : List Nat} {ma mb mo : ME} {pa pb : PE} {qa qb qo : PS → PR T} {mr mk : MA} {qr qk : PS → PR (List T)} {mt mu : MT} {qt qu : PS → PR Bool} {m : List W → M W} {p : T → List T → Q1}
theorem callS_inv (i : Nat) (hr : SA N mr qr) (hi : i ∈ N) {X : Nat → Prop} {A : List (Nat × Nat)} {ps : PS} {sw : SW} {h : Hw} (a : A.map (·.1) = N) (s : Sto X A ps sw h) : qCallS p i qr ps = .no ∨ ∃ ts s1 t0 t t1 ws h1 j o, qCallS p i qr ps = .ok t (s1.set i (some t1)) ∧ Ext (ix A) h h1 ∧ Sto X A s1 sw h1 ∧ Reps h1 (av X A) ts ws ∧ Pu.own i s1 = some t0 ∧ (i, j) ∈ A ∧ h1[j]? = some o ∧ unl o = true ∧ Orp h1 (av X A) t0 o ∧ p t0 ts = .ok t t1 ∧ mCall m (aCons (mVar i) mr) sw h = m (.ref j :: ws) h1 := by
  have z := hr X A ps sw h a s
  unfold qCallS
  cases e : qr ps with
  | no => exact .inl rfl
  | ex C t => exact .inl rfl
  | ok ts s1 =>
    rw [e] at z
    obtain ⟨ws, h1, e1, x1, st1, r1⟩ := z
    dsimp only
    unfold goS
    cases eo : Pu.own i s1 with
    | none => exact .inl rfl
    | some t0 =>
      dsimp only
      obtain ⟨j, o, mm, ev, ej, uo, ro⟩ := own_get a hi st1 (own_some eo)
      have ev0 : mVar i sw h = .ok (.ref j) h := by
        unfold mVar at ev ⊢
        split at ev
        · rename_i w q
          cases ev
          rfl
        · cases ev
      have em : mCall m (aCons (mVar i) mr) sw h = m (.ref j :: ws) h1 := by
        unfold mCall aCons
        rw [bnd_run (a := W.ref j :: ws) (h1 := h1)]
        rw [bnd_run ev0, bnd_run e1]
        rfl
      cases ef : p t0 ts with
      | no => exact .inl rfl
      | ex C t => exact .inl rfl
      | ok t t1 => exact .inr ⟨ts, s1, t0, t, t1, ws, h1, j, o, rfl, x1, st1, r1, eo, mm, ej, uo, ro, ef, em⟩
theorem wid_av {X : Nat → Prop} {A : List (Nat × Nat)} {i j : Nat} (mm : (i, j) ∈ A) (k : Nat) : wid (fun k => av X A k ∧ k ≠ j) j k ↔ av X A k := by
  constructor
  · rintro (⟨z, _⟩ | z)
    · exact z
    · have z : k = j := z
      rw [z]
      exact .inr (List.mem_map.mpr ⟨_, mm, rfl⟩)
  · intro z
    by_cases hk : k = j
    · exact .inr hk
    · exact .inl ⟨z, hk⟩
theorem se_callS (i : Nat) (Fn : FnS m p) (hr : SA N mr qr) (hi : i ∈ N := by decide) : SE N (mCall m (aCons (mVar i) mr)) (qCallS p i qr) := fun X A ps sw h a s => by
  rcases callS_inv (m := m) (p := p) i hr hi a s with e | ⟨ts, s1, t0, t, t1, ws, h1, j, o, e, x1, st1, r1, eo, mm, ej, uo, ro, ef, em⟩
  · rw [e]
    exact trivial
  · rw [e, em]
    have hX := wid_av (X := X) mm
    have zz := Fn (fun k => av X A k ∧ k ≠ j) h1 j t0 o ts ws (fun k z => st1.avl k z.1) (fun z => z.2 rfl) ej uo (ro.iff fun k z => (hX k).mp z) (r1.up (fun k a b => absurd ((hX k).mp a) b) fun _ o _ q => ⟨o, q, .refl _⟩)
    rw [ef] at zz
    obtain ⟨w, h2, o2, e2, x2, r2, eo2, uo2, ro2⟩ := zz
    have x2' : Ext (ix A) h1 h2 := x2.mono fun k z => by
      have z : k = j := z
      rw [z]
      exact List.mem_map.mpr ⟨_, mm, rfl⟩
    exact ⟨w, h2, e2, x1.trans x2', st1.mut2 mm (own_some eo) x2 eo2 uo2 (ro2.iff fun k z => (hX k).mpr z), r2.iff fun k z => (hX k).mpr z⟩
theorem sf_callS (i : Nat) (Fn : FnSF m p) (hr : SA N mr qr) (hi : i ∈ N := by decide) : SF N (mCall m (aCons (mVar i) mr)) (qCallS p i qr) := fun X A ps sw h a s => by
  rcases callS_inv (m := m) (p := p) i hr hi a s with e | ⟨ts, s1, t0, t, t1, ws, h1, j, o, e, x1, st1, r1, eo, mm, ej, uo, ro, ef, em⟩
  · rw [e]
    exact trivial
  · rw [e, em]
    have hX := wid_av (X := X) mm
    have zz := Fn (fun k => av X A k ∧ k ≠ j) h1 j t0 o ts ws (fun k z => st1.avl k z.1) (fun z => z.2 rfl) ej uo (ro.iff fun k z => (hX k).mp z) (r1.up (fun k a b => absurd ((hX k).mp a) b) fun _ o _ q => ⟨o, q, .refl _⟩)
    rw [ef] at zz
    obtain ⟨w, h2, o2, e2, x2, ⟨l, ol, rfl, q2, q3, q4, q5⟩, eo2, uo2, ro2⟩ := zz
    have x2' : Ext (ix A) h1 h2 := x2.mono fun k z => by
      have z : k = j := z
      rw [z]
      exact List.mem_map.mpr ⟨_, mm, rfl⟩
    have jl : j < h1.length := (List.getElem?_eq_some_iff.mp ej).1
    -- the state, with the new place out of reach
    have lw : l < h2.length := (List.getElem?_eq_some_iff.mp q3).1
    have stl : Sto (wid X l) A (s1.set i (some t1)) sw h2 := by
      have s2 := st1.mut2 mm (own_some eo) x2 eo2 uo2 (t := t1) (ro2.iff fun k z => .inl ((hX k).mpr z))
      refine ⟨s2.len, fun k u e n => ?_, fun k m u m' e => ?_, fun k m m' => ⟨(s2.lt k m m').1, fun z => ?_⟩, s2.nd, s2.nd1, fun k z => ?_⟩
      · have hk : i ≠ k := fun z => n (by rw [← z]; exact List.mem_map.mpr ⟨_, mm, rfl⟩)
        rw [List.getElem?_set_ne hk] at e
        obtain ⟨w, e1, r1⟩ := st1.fr k u e n
        refine ⟨w, e1, r1.up (fun q a b => ?_) fun q u n e => ⟨u, x2.2 q u (fun z => n (.inr (by
          have z : q = j := z
          rw [z]
          exact List.mem_map.mpr ⟨_, mm, rfl⟩))) e, .refl _⟩⟩
        rcases avw.mp a with a | a
        · exact absurd a b
        · have a : q = l := a
          rw [a]
          exact get_none q2
      · by_cases hk : i = k
        · subst hk
          have hl := nd_l st1.nd1 m' mm
          subst hl
          rw [List.getElem?_set, if_pos rfl] at e
          split at e
          · cases e
            obtain ⟨ew, _⟩ := st1.ow i m t0 mm (own_some eo)
            refine ⟨ew, o2, eo2, uo2, ro2.iff fun k z => ?_⟩
            rcases avw.mp z with z | z
            · exact .inl ((hX k).mpr z)
            · exact .inr (by rw [show k = l from z])
          · cases e
        · rw [List.getElem?_set_ne hk] at e
          obtain ⟨e1, o1, e2, u1, r1⟩ := st1.ow k m u m' e
          have hm : m ≠ j := fun z => hk (nd_r st1.nd mm (by rw [← z]; exact m'))
          refine ⟨e1, o1, x2.2 m o1 hm e2, u1, r1.up (fun q a b => ?_) fun q u n e => ⟨u, x2.2 q u (fun z => n (.inr (by
            have z : q = j := z
            rw [z]
            exact List.mem_map.mpr ⟨_, mm, rfl⟩))) e, .refl _⟩⟩
          rcases avw.mp a with a | a
          · exact absurd a b
          · have a : q = l := a
            rw [a]
            exact get_none q2
      · rcases z with z | z
        · exact (s2.lt k m m').2 z
        · have z : m = l := z
          have := (st1.lt k m m').1
          omega
      · rcases z with z | z
        · exact s2.xl k z
        · rw [show k = l from z]; exact lw
    exact ⟨l, ol, h2, e2, x1.trans x2', Nat.le_trans x1.1 q2, q3, q4, q5.iff fun k z => z.imp_left fun z => (hX k).mpr z, stl⟩
variable {mi : MI} {qi : PS → PR (List T)} {g : MG} {pg : T → PS → Option PS} {me : ME} {qe : PS → PR T} {vs : List Nat}
end
end EL.Pu
namespace EL.Pu
open PySem PySem.Spec L2 EL
open PyProof.Rows hiding St
section
variable {F : Bool} {io N N1 N' L : List Nat} {ma mb mk mv me mo : ME} {qa qk qv : PS → PR T} {m1 m2 : MS} {p1 p2 : PSt} {mt : MT} {qt : PS → PR Bool} {g : MG} {pg : T → PS → Option PS} {mi : MI} {qi : PS → PR (List T)} {mr : MA} {qr : PS → PR (List T)}
theorem sr_ofQ {α β : Type} {X : Nat → Prop} {A : List (Nat × Nat)} {n0 : Nat} {sw : SW} {h : Hw} {rel : α → β → Hw → Prop} {q : PR α} {k : α → PS → PR PFl} {m : M β} {f : β → M Fl} (H : RG X A sw h rel q (m h)) (hio : ∀ i ∈ io, i ∈ A.map (·.1)) (nd : (A.map (·.1)).Nodup) (K : ∀ a s' b h', Ext (ix A) h h' → Sto X A s' sw h' → rel a b h' → SR F io n0 N' L X A h' (k a s') (f b h')) : SR F io n0 N' L X A h (q.bind k) (bnd m f h) := by
  cases q with
  | no => exact trivial
  | ex C t =>
    obtain ⟨w, h', e, x, r⟩ := H
    exact ⟨w, h', by unfold bnd; rw [e], x, r⟩
  | ok a s =>
    obtain ⟨b, h', e, x, st, r⟩ := H
    rw [bnd_run e, PR.bind_ok]
    exact sr_then ⟨x, fun _ h _ => h, fun _ h => .inl h⟩ hio nd (K a s b h' x st r)
def qRet (a : PS → PR T) : PSt := fun s => (a s).bind fun x s1 => .ok (.rt x) s1
theorem sq_ret (ha : SE N ma qa) : SS false io N N' L (sRet ma) (qRet qa) := fun X A ps sw h n0 a s hio hn hl =>
  sr_ofQ (ha X A ps sw h a s) (by rw [a]; exact hio) s.nd1 fun x s1 b h' e st r => ⟨b, h', rfl, .refl, Rep.iff (fun j z => av_of_avI z) r, outs_of st fun _ z => by cases z⟩
def qAsg (g : T → PS → Option PS) (a : PS → PR T) : PSt := fun s => (a s).bind fun x s1 => match g x s1 with
  | some s' => .ok .nx s'
  | none => .no
theorem sq_asg (ha : SE N ma qa) (hg : XGt N g pg) : SS F io N N L (sAsg g ma) (qAsg pg qa) := fun X A ps sw h n0 a s hio hn hl =>
  sr_ofQ (ha X A ps sw h a s) (by rw [a]; exact hio) s.nd1 fun x s1 b h' e st r => by
    cases eg : pg x s1 with
    | none => exact trivial
    | some s' =>
      obtain ⟨sw', e1, st'⟩ := hg X A s1 sw h' x b s' a st r eg
      exact ⟨sw', h', A, by rw [bnd_run e1]; rfl, .refl, a, st'⟩
def qOwn (i : Nat) (a : PS → PR T) : PSt := fun s => (a s).bind fun x s1 => .ok .nx (s1.set i (some x))
def qPar2 (i j : Nat) (r : PS → PR (List T)) : PSt := fun s => (r s).bind fun ts s1 => match ts with
  | [x, y] => .ok .nx ((s1.set i (some x)).set j (some y))
  | _ => .no
def qPar3 (i j l : Nat) (r : PS → PR (List T)) : PSt := fun s => (r s).bind fun ts s1 => match ts with
  | [x, y, z] => .ok .nx (((s1.set i (some x)).set j (some y)).set l (some z))
  | _ => .no
theorem sq_par3 (i j l : Nat) (hr : SA N mr qr) (hi : i ∉ N := by decide) (hj : j ∉ N := by decide) (hl' : l ∉ N := by decide) : SS F io N N L (sPar3 i j l mr) (qPar3 i j l qr) := fun X A ps sw h n0 a s hio hn hl =>
  sr_ofQ (hr X A ps sw h a s) (by rw [a]; exact hio) s.nd1 fun ts s1 ws h1 e st r1 => by
    cases r1 with
    | nil => exact trivial
    | cons q1 r =>
      cases r with
      | nil => exact trivial
      | cons q2 r =>
        cases r with
        | nil => exact trivial
        | cons q3 r =>
          cases r with
          | nil => exact ⟨_, h1, A, rfl, .refl, a, ((st.set q1 (by rw [a]; exact hi)).set q2 (by rw [a]; exact hj)).set q3 (by rw [a]; exact hl')⟩
          | cons _ _ => exact trivial
def qApp (i : Nat) (a : PS → PR T) : PSt := fun s => match Pu.own i s with
  | some (.lst _) => (a s).bind fun y s1 => (match Pu.own i s1 with
    | some (.lst xs) => if xs.length < lim then .ok .nx (s1.set i (some (.lst (xs ++ [y])))) else .no
    | _ => .no)
  | _ => .no
def qDput (i : Nat) (k v : PS → PR T) : PSt := fun s => (v s).bind fun z s1 => (k s1).bind fun y s2 => match Pu.own i s2 with
  | some (.dic kvs) => (match keyT y with
    | some k => if kvs.length < lim then .ok .nx (s2.set i (some (.dic (putT kvs k z)))) else .no
    | none => .no)
  | _ => .no
end
end EL.Pu
namespace EL.Pu
open PySem PySem.Spec L2 EL
open PyProof.Rows hiding St
def uReprD (x : T) : Q T := match x with
  | .lst _ | .tup _ => (match tD 8 x with
    | some d => if d.showable = true ∧ d.depth ≤ 20 ∧ d.hasDict = false ∧ d.shown.length ≤ lim then .ok (.str d.shown) else .no
    | none => .no)
  | x => uRepr x
def vReprD := v1 uReprD
theorem op_reprD : OpB bReprD vReprD := opB_1 fun h X x w l r => by
  have dat : ∀ {w : W} {x : T}, Val h X x w → QR X h (rT X) (match tD 8 x with
    | some d => if d.showable = true ∧ d.depth ≤ 20 ∧ d.hasDict = false ∧ d.shown.length ≤ lim then .ok (.str d.shown) else .no
    | none => .no) (match toD h 8 w with
    | some d => if d.showable = true ∧ d.depth ≤ 20 ∧ d.hasDict = false ∧ d.shown.length ≤ lim then R.ok (W.str d.shown) h else R.no
    | none => R.no) := fun {w x} r => by
    cases e : tD 8 x with
    | none => exact trivial
    | some d =>
      rw [val_D r e]
      dsimp only
      split
      · exact qr_ok (Rep.str _)
      · exact trivial
  have old := fun (x : T) (w : W) (r : Val h X x w) => op_repr h X [x] [w] l (.cons r .nil)
  cases r with
  | tup r => exact dat (.tup r)
  | ref e r =>
    cases r with
    | lst r => exact dat (.ref e (.lst r))
    | _ => exact trivial
  | non => exact old _ _ .non
  | bl b => exact old _ _ (.bl b)
  | int i => exact old _ _ (.int i)
  | str x => exact old _ _ (.str x)
  | rol r => exact trivial
end EL.Pu
namespace EL.Pu
open PySem PySem.Spec L2 EL
open PyProof.Rows hiding St
section
variable {F : Bool} {io N N1 N' L : List Nat} {ma mb mk mv me mo : ME} {pa pb pk pv pe po : PE} {mr : MA} {pr : PA}
def paStar (a : PE) (r : PA) : PA := fun s => (a s).bind fun x => match tItemsT x with
  | some xs => (r s).bind fun ys => .ok (xs ++ ys)
  | none => .no
theorem xa_star (ha : XV N ma pa) (hr : XA N mr pr) : XA N (aStar ma mr) (paStar pa pr) := fun X A ps sw h a s => by
  refine qr_bind (ha X A ps sw h a s) fun x wx h1 p1 r1 => ?_
  cases e : tItemsT x with
  | none => exact trivial
  | some xs =>
    obtain ⟨ws, ew, rw'⟩ := val_itemsT r1 e
    rw [ew]
    exact qr_bind (hr X A ps sw h1 a (s.pre p1)) fun ys wys h2 p2 r2 => qr_ok ((rw'.pre p2).append r2)
end
end EL.Pu
namespace EL.Pu
open PySem PySem.Spec L2 EL
open PyProof.Rows hiding St
end EL.Pu
namespace EL.Pu
open PySem PySem.Spec L2 EL
open PyProof.Rows hiding St
/-- goes on, and leaves I -/
def OkN (q : PR PFl) (I : PS → Prop) : Prop := ∃ s', q = .ok .nx s' ∧ I s'
section
variable {I J : PS → Prop} {a b : PSt} {s s' : PS} {q : PR PFl}
theorem okN_eq (e : q = .ok .nx s) (h : I s) : OkN q I := ⟨_, e, h⟩
theorem OkN.imp (h : OkN q I) (k : ∀ s, I s → J s) : OkN q J := let ⟨s', e, i⟩ := h; ⟨s', e, k _ i⟩
theorem okN_seq (ha : OkN (a s) I) (hb : ∀ s', I s' → OkN (b s') J) : OkN (pSeq a b s) J := by
  obtain ⟨s', e, i⟩ := ha
  unfold pSeq
  rw [e]
  exact hb _ i
theorem okN_seqE (e : a s = .ok .nx s') (hb : OkN (b s') J) : OkN (pSeq a b s) J := okN_seq (I := fun z => z = s') ⟨_, e, rfl⟩ fun _ e => e ▸ hb
theorem seq_e {r : PR PFl} (e : a s = .ok .nx s') (hb : b s' = r) : pSeq a b s = r := by
  unfold pSeq
  rw [e]
  exact hb
theorem okN_forL {g : T → PS → Option PS} {D : List Nat} : ∀ {xs : List T} {s : PS}, I s → (∀ x ∈ xs, ∀ s, I s → ∃ s1, g x s = some s1 ∧ OkN (b s1) fun s2 => I (clr D s2)) → OkN (forL g b D xs s) I
  | [], s, h0, _ => ⟨s, rfl, h0⟩
  | x :: xs, s, h0, h => by
    obtain ⟨s1, e1, s2, e2, i2⟩ := h x List.mem_cons_self s h0
    unfold forL
    rw [e1]
    dsimp only
    rw [e2]
    exact okN_forL i2 fun y hy => h y (List.mem_cons_of_mem _ hy)
theorem okN_for {it : PS → Q (List T)} {g : T → PS → Option PS} {D : List Nat} {xs : List T} (e : it s = .ok xs) (h0 : I (clr D s)) (h : ∀ x ∈ xs, ∀ s, I s → ∃ s1, g x s = some s1 ∧ OkN (b s1) fun s2 => I (clr D s2)) : OkN (pFor it g b D s) I := by
  unfold pFor
  rw [e]
  exact okN_forL h0 h
theorem fin_ret {t : T} (h : OkN (a s) I) : finP (pSeq a (pRet (pC t)) s) = .ok t := by
  obtain ⟨s', e, _⟩ := h
  unfold pSeq
  rw [e]
  rfl
end
/-- the pool -/
def PoolT (t : T) : Prop := ∃ a b : Int, t = .lst [.int a, .int b] ∧ 0 ≤ a ∧ 0 ≤ b
def pcPool : List T → Q T := pFnF 2 5 (pSeq (pAsg (pgNm 2) (pIf (pVal (pBin uLt (pVar 1) (pCall vLen (paCons (pVar 0) (paNil))))) (pBin uIx (pVar 0) (pVar 1)) (pBin uAdd (pBin uMul (pC (.int 7)) (pCall vSum (paCons (pSl (pVar 0) (poNo) (poSo (pC (.int 63)))) (paNil)))) (pVar 1))))
    (pSeq (pAsg (pgNm 3) (pCall vAbs (paCons (pVar 2) (paNil))))
    (pSeq (pAsg (pgNm 4) (pBin uAdd (pBin uAdd (pBin uAdd (pBin uMod (pCall vInt (paCons (pVar 3) (paNil))) (pC (.int 2147483629))) (pBin uMul (pBin uMul (pC (.int 7919)) (pVar 1)) (pVar 1))) (pBin uMul (pC (.int 31)) (pVar 1))) (pC (.int 17))))
    (pSeq (pAsg (pgNm 4) (pBin uMod (pCall vInt (paCons (pBin uMul (pVar 4) (pC (.int 48271))) (paNil))) (pC (.int 2147483647))))
    (pRet (pLst (paCons (pBin uMul (pVar 3) (pCall vInt (paCons (pBin uGe (pVar 3) (pBin uPow (pC (.int 10)) (pC (.int 18)))) (paNil)))) (paCons (pBin uMod (pCall vInt (paCons (pBin uMul (pVar 4) (pVar 4)) (paNil))) (pC (.int 2147483629))) (paNil)))))))))
def pcDraw : T → List T → Q1 := qFn 2 3 (pSeq (pIfS (pVal (pBin uGt (pBin uIx (pVar 0) (pC (.int 0))) (pC (.int 0)))) (pSeq (pAsg (pgNm 2) (pBin uMod (pCall vInt (paCons (pBin uIx (pVar 0) (pC (.int 0))) (paNil))) (pVar 1)))
    (pSeq (pSubL 0 (pC (.int 0)) (pBin uDiv (pBin uIx (pVar 0) (pC (.int 0))) (pVar 1)))
    (pRet (pVar 2)))) (pNil))
    (pSeq (pSubL 0 (pC (.int 1)) (pBin uMod (pCall vInt (paCons (pBin uAdd (pBin uMul (pBin uIx (pVar 0) (pC (.int 1))) (pC (.int 48271))) (pC (.int 11))) (paNil))) (pC (.int 2147483647))))
    (pRet (pBin uMod (pCall vInt (paCons (pBin uDiv (pBin uMod (pCall vInt (paCons (pBin uMul (pBin uIx (pVar 0) (pC (.int 1))) (pBin uIx (pVar 0) (pC (.int 1)))) (paNil))) (pC (.int 2147483629))) (pC (.int 16))) (paNil))) (pVar 1)))))
def pcPick : T → List T → Q1 := qFn 2 2 (qRet (qBin uIx (qOf (pVar 1)) (qCallS pcDraw 0 (qaCons (qOf (pCall vLen (paCons (pVar 1) (paNil)))) (qaNil)))))
def pcParts : T → List T → Q1 := qFnF 2 7 (pSeq (pAsg (pgNm 2) (pC (.str "abcdefghijklmnopqrstuvwxyz")))
    (pSeq (qAsg (pgTu 3 (pgsCons (pgNm 3) (pgsCons (pgNm 4) (pgsCons (pgNm 5) (pgsNil))))) (qTup (qaCons (qCallS pcDraw 0 (qaCons (qOf (pC (.int 26))) (qaNil))) (qaCons (qBin uAdd (qOf (pC (.int 1))) (qBin uMul (qOf (pC (.int 2))) (qCallS pcDraw 0 (qaCons (qOf (pC (.int 6))) (qaNil))))) (qaCons (qCallS pcPick 0 (qaCons (qOf (pLst (paCons (pC (.str "")) (paCons (pC (.str "")) (paCons (pC (.str "q")) (paCons (pC (.str "abcdefg")) (paNil))))))) (qaNil))) (qaNil))))))
    (pRet (pLc (piRg1 (pVar 1)) (pgNm 6) (pYs) (pBin uAdd (pBin uIx (pVar 2) (pBin uMod (pCall vInt (paCons (pBin uAdd (pVar 3) (pBin uMul (pVar 4) (pVar 6))) (paNil))) (pC (.int 26)))) (pVar 5)) [6]))))
/-- whole numbers, evaluated -/
theorem q_int2 {c : Int → Int → Bool} {f : Int → Int → Int} {i j : Int} (h : c i j = true) : uInt2 c f (.int i) (.int j) = .ok (.int (f i j)) := if_pos h
theorem q_mul {i j : Int} (h : mulOk i j = true) : uMul (.int i) (.int j) = .ok (.int (i * j)) := q_int2 h
theorem q_mod {i j : Int} (h : 0 < j) : uMod (.int i) (.int j) = .ok (.int (i % j)) := q_int2 (decide_eq_true h)
theorem q_div {i j : Int} (h : 0 < j) (l : j.natAbs.log2 < 9000) : uDiv (.int i) (.int j) = .ok (.int (i / j)) := q_int2 (decide_eq_true ⟨h, l⟩)
theorem q_add {i j : Int} : uAdd (.int i) (.int j) = .ok (.int (i + j)) := rfl
theorem q_sub {i j : Int} : uSub (.int i) (.int j) = .ok (.int (i - j)) := rfl
theorem q_gt {i j : Int} : uGt (.int i) (.int j) = .ok (.bl (decide (j < i))) := rfl
theorem q_lt {i j : Int} : uLt (.int i) (.int j) = .ok (.bl (decide (i < j))) := rfl
theorem q_ge {i j : Int} : uGe (.int i) (.int j) = .ok (.bl (decide (j ≤ i))) := rfl
theorem q_le {i j : Int} : uLe (.int i) (.int j) = .ok (.bl (decide (i ≤ j))) := rfl
theorem pow_ok {j : Int} (i : Int) (h : 0 ≤ j ∧ j ≤ 1000000) (l : i.natAbs < 18446744073709551616) : uPow (.int i) (.int j) = .ok (.int (i ^ j.toNat)) := q_int2 (decide_eq_true ⟨h, l⟩)
theorem draw_p {t : T} (ht : PoolT t) {m : Int} (hm : 0 < m) (hl : m.natAbs.log2 < 9000) : ∃ v t', pcDraw t [.int m] = .ok (.int v) t' ∧ 0 ≤ v ∧ v < m ∧ PoolT t' := by
  obtain ⟨a, b, rfl, ha, hb⟩ := ht
  by_cases hc : 0 < a
  · refine ⟨a % m, .lst [.int (a / m), .int b], ?_, Int.emod_nonneg _ (by omega), Int.emod_lt_of_pos _ hm, _, _, rfl, Int.ediv_nonneg ha (by omega), hb⟩
    simp [pcDraw, qFn, pSeq, pIfS, pVal, pBin, pVar, pC, uIx, atI_0, PR.of, Q.bind, q_gt, hc, pAsg, pgNm, pCall, paCons, paNil, Pu.vInt, v1, uInt, q_mod hm, pSubL, Pu.own, q_div hm hl, ixN, pRet, fin1]
  · have h0 : 0 ≤ (b * 48271 + 11) % 2147483647 := Int.emod_nonneg _ (by decide)
    have h1 : (b * 48271 + 11) % 2147483647 < 2147483647 := Int.emod_lt_of_pos _ (by decide)
    refine ⟨(((b * 48271 + 11) % 2147483647) * ((b * 48271 + 11) % 2147483647)) % 2147483629 / 16 % m, .lst [.int a, .int ((b * 48271 + 11) % 2147483647)], ?_, Int.emod_nonneg _ (by omega), Int.emod_lt_of_pos _ hm, _, _, rfl, ha, h0⟩
    have m1 : mulOk b 48271 = true := mulOk_r (by decide) (by decide)
    generalize hz : (b * 48271 + 11) % 2147483647 = z at h0 h1 ⊢
    have m2 : mulOk z z = true := mulOk_l (by omega) (by omega)
    have d16 : ∀ i, uDiv (.int i) (.int 16) = .ok (.int (i / 16)) := fun i => q_div (by decide) (by decide +kernel)
    simp [pcDraw, d16, qFn, pSeq, pIfS, pVal, pBin, pVar, pC, uIx, atI_0, atI_1, PR.of, Q.bind, q_gt, hc, pNil, pAsg, pgNm, pCall, paCons, paNil, Pu.vInt, v1, uInt, q_mul m1, q_mul m2, q_add, q_mod, hz, q_mod hm, pSubL, Pu.own, q_div, ixN, pRet, fin1]
theorem asg_e {a : PE} {g : T → PS → Option PS} {s s' : PS} {x : T} (e : a s = .ok x) (e' : g x s = some s') : pAsg g a s = .ok .nx s' := by
  unfold pAsg PR.of
  rw [e]
  dsimp only
  rw [e']
theorem ret_e {a : PE} {s : PS} {x : T} (e : a s = .ok x) : pRet a s = .ok (.rt x) s := by
  unfold pRet PR.of
  rw [e]
theorem tInts_map : ∀ ns : List Int, tInts (ns.map T.int) = some ns
  | [] => rfl
  | n :: ns => by
    have := tInts_map ns
    unfold tInts at this ⊢
    rw [List.map_cons, mapO, this]
theorem cutT_ints (ns : List Int) (lo hi : Option Int) : ∃ ms : List Int, cutT (ns.map T.int) lo hi = ms.map T.int := by
  unfold cutT
  rw [← List.map_drop, ← List.map_take]
  exact ⟨_, rfl⟩
theorem pool_p {ns : List Int} {k : Int} (hk : 0 ≤ k) (hk2 : k ≤ 1000) : ∃ t, pcPool [.rol (ns.map T.int), .int k] = .ok t ∧ PoolT t := by
  have key : ∃ c : Int, (pIf (pVal (pBin uLt (pVar 1) (pCall vLen (paCons (pVar 0) (paNil))))) (pBin uIx (pVar 0) (pVar 1)) (pBin uAdd (pBin uMul (pC (.int 7)) (pCall vSum (paCons (pSl (pVar 0) (poNo) (poSo (pC (.int 63)))) (paNil)))) (pVar 1))) [some (.rol (ns.map T.int)), some (.int k), none, none, none] = .ok (.int c) := by
    by_cases hc : k < ns.length
    · obtain ⟨j, rfl⟩ := Int.eq_ofNat_of_zero_le hk
      have hj : j < ns.length := by omega
      have ea : atI (ns.map T.int) (j : Int) = some (.int ns[j]) := atI_nat (by rw [List.getElem?_map, List.getElem?_eq_getElem hj]; rfl)
      exact ⟨ns[j], by simp [pIf, pVal, pBin, pVar, pCall, paCons, paNil, Q.bind, vLen, v1, uLen, q_lt, hj, uIx, ea]⟩
    · obtain ⟨ms, em⟩ := cutT_ints ns none (some 63)
      have es : uSum (.lst (ms.map T.int)) = .ok (.int ms.sum) := by unfold uSum; rw [show tItems (.lst (ms.map T.int)) = some (ms.map T.int) from rfl]; dsimp only; rw [tInts_map]
      have m1 : mulOk 7 ms.sum = true := mulOk_l (by decide) (by decide)
      exact ⟨7 * ms.sum + k, by simp [pIf, pVal, pBin, pVar, pC, pCall, paCons, paNil, Q.bind, vLen, v1, uLen, q_lt, hc, pSl, poNo, poSo, uSl, em, vSum, es, q_mul m1, q_add]⟩
  obtain ⟨c, hc⟩ := key
  have hs : 0 ≤ (if c < 0 then -c else c) := by split <;> omega
  generalize hz : (if c < 0 then -c else c) = z at hs
  have m1 : mulOk 7919 k = true := mulOk_l (by decide) (by decide)
  have m2 : mulOk (7919 * k) k = true := mulOk_r (by omega) (by omega)
  have m3 : mulOk 31 k = true := mulOk_l (by decide) (by decide)
  generalize hy : z % 2147483629 + 7919 * k * k + 31 * k + 17 = y
  have m4 : mulOk y 48271 = true := mulOk_r (by decide) (by decide)
  have h0 : 0 ≤ y * 48271 % 2147483647 := Int.emod_nonneg _ (by decide)
  have h1 : y * 48271 % 2147483647 < 2147483647 := Int.emod_lt_of_pos _ (by decide)
  generalize hu : y * 48271 % 2147483647 = u at h0 h1
  have m5 : mulOk u u = true := mulOk_l (by omega) (by omega)
  have hb : (0 : Int) ≤ (if (1000000000000000000 : Int) ≤ z then 1 else 0) ∧ (if (1000000000000000000 : Int) ≤ z then (1 : Int) else 0) ≤ 1 := by split <;> omega
  generalize hv : (if (1000000000000000000 : Int) ≤ z then (1 : Int) else 0) = v at hb
  have m6 : mulOk z v = true := mulOk_r (by omega) (by omega)
  refine ⟨.lst [.int (z * v), .int (u * u % 2147483629)], ?_, _, _, rfl, Int.mul_nonneg hs hb.1, Int.emod_nonneg _ (by decide)⟩
  unfold pcPool pFnF
  rw [if_pos (by rfl)]
  have e1 := asg_e (g := pgNm 2) (s' := [some (.rol (ns.map T.int)), some (.int k), some (.int c), none, none]) hc rfl
  have step : ∀ {q : PR PFl} {t : T} {s : PS}, q = .ok (.rt t) s → finF' q = .ok t := fun e => by rw [e]; rfl
  refine step (s := [some (.rol (ns.map T.int)), some (.int k), some (.int c), some (.int z), some (.int u)]) ?_
  refine seq_e e1 (seq_e (asg_e (x := .int z) ?_ rfl) (seq_e (asg_e (x := .int y) ?_ rfl) (seq_e (asg_e (x := .int u) ?_ rfl) (ret_e ?_))))
  · simp [pCall, paCons, paNil, pVar, Q.bind, vAbs, v1, uAbs, hz]
  · simp [pBin, pCall, paCons, paNil, pVar, pC, Q.bind, Pu.vInt, v1, uInt, q_mod, q_mul m1, q_mul m2, q_mul m3, q_add, hy]
  · simp [pBin, pCall, paCons, paNil, pVar, pC, Q.bind, Pu.vInt, v1, uInt, q_mod, q_mul m4, hu]
  · have hp : uPow (.int 10) (.int 18) = .ok (.int 1000000000000000000) := by rw [pow_ok 10 (by decide) (by decide)]; rfl
    simp [pLst, pBin, pCall, paCons, paNil, pVar, pC, Q.bind, Pu.vInt, v1, uInt, q_ge, hp, hv, q_mul m6, q_mul m5, q_mod, lim]
theorem pick_p {t : T} (ht : PoolT t) {xs : List T} (hne : xs ≠ []) (hl : xs.length ≤ 1000) : ∃ x t', x ∈ xs ∧ pcPick t [.lst xs] = .ok x t' ∧ PoolT t' := by
  have hm : 0 < (xs.length : Int) := by have := List.length_pos_iff.mpr hne; omega
  obtain ⟨v, t', e, h0, h1, p'⟩ := draw_p ht (m := xs.length) hm (Nat.lt_of_le_of_lt (Nat.log2_le_self _) (by omega))
  obtain ⟨j, rfl⟩ := Int.eq_ofNat_of_zero_le h0
  have hj : j < xs.length := by omega
  have ea : atI xs (j : Int) = some xs[j] := atI_nat (List.getElem?_eq_getElem hj)
  refine ⟨xs[j], t', List.getElem_mem hj, ?_, p'⟩
  simp [pcPick, qFn, qRet, qBin, qOf, lift, pVar, PR.bind, qCallS, qaCons, qaNil, pCall, paCons, paNil, Q.bind, vLen, v1, uLen, goS, Pu.own, e, uIx, ea, fin1]
theorem range_p {m : Int} (h0 : 0 ≤ m) (h1 : m ≤ 1000) {a : PE} {s : PS} (e : a s = .ok (.int m)) : piRg1 a s = .ok (uRg 0 m.toNat) := by
  unfold piRg1
  rw [e]
  have : -big ≤ m ∧ m < big := by unfold big; omega
  simp [Q.bind, this]
theorem mem_uRg {x : T} {n : Nat} (h : x ∈ uRg 0 n) : ∃ i : Int, x = .int i ∧ 0 ≤ i ∧ i < n := by
  unfold uRg at h
  obtain ⟨j, hj, rfl⟩ := List.mem_map.mp h
  have := List.mem_range.mp hj
  exact ⟨_, rfl, by omega, by omega⟩
/-- a text by its codes -/
def wd (xs : List Nat) : T := .str ⟨xs.toArray⟩
theorem reps_ints0 : ∀ ns : List Int, Reps [] (fun _ => False) (ns.map T.int) (ns.map W.int)
  | [] => .nil
  | n :: ns => .cons (.int n) (reps_ints0 ns)
/-- the law is true where its plain function without a heap says so -/
theorem true_of {m : List W → M W} {p : List T → Q T} (pu : FnP m p) {ns : List Int} (e : p [.rol (ns.map T.int)] = .ok (.bl true)) : ∃ h', m [.rol (ns.map W.int)] [] = .ok (.bl true) h' := by
  have z := pu (fun _ => False) [] [.rol (ns.map T.int)] [.rol (ns.map W.int)] (fun _ h => h.elim) (.cons (.rol (reps_ints0 ns)) .nil)
  rw [e] at z
  obtain ⟨w, h', e', _, r⟩ := z
  cases r with
  | bl b => exact ⟨h', e'⟩
  | ref n e r => cases r
end EL.Pu
namespace EL.Pu
open PySem PySem.Spec L2 EL
open PyProof.Rows hiding St
theorem okN_forLI {I : Nat → PS → Prop} {g : T → PS → Option PS} {b : PSt} {D : List Nat} : ∀ {xs : List T} {n : Nat} {s : PS}, I n s → (∀ i x, xs[i]? = some x → ∀ s, I (n + i) s → ∃ s1, g x s = some s1 ∧ OkN (b s1) fun s2 => I (n + i + 1) (clr D s2)) → OkN (forL g b D xs s) (I (n + xs.length))
  | [], n, s, h0, _ => ⟨s, rfl, h0⟩
  | x :: xs, n, s, h0, h => by
    obtain ⟨s1, e1, s2, e2, i2⟩ := h 0 x rfl s h0
    unfold forL
    rw [e1]
    dsimp only
    rw [e2]
    have z := okN_forLI (g := g) (b := b) (xs := xs) (n := n + 1) (s := clr D s2) i2 fun i y hy s hs => by
      have q := h (i + 1) y hy s (by rw [show n + (i + 1) = n + 1 + i by omega]; exact hs)
      rw [show n + (i + 1) + 1 = n + 1 + i + 1 by omega] at q
      exact q
    rw [show n + (x :: xs).length = n + 1 + xs.length by rw [List.length_cons]; omega]
    exact z
theorem app_e {i : Nat} {a : PE} {s : PS} {xs : List T} {y : T} (o : Pu.own i s = some (.lst xs)) (e : a s = .ok y) (l : xs.length < lim) : pApp i a s = .ok .nx (s.set i (some (.lst (xs ++ [y])))) := by
  unfold pApp
  rw [o]
  dsimp only
  rw [e]
  show (if xs.length < lim then _ else _) = _
  rw [if_pos l]
theorem ifS_t {c : PT} {a b : PSt} {s : PS} {r : PR PFl} (e : c s = .ok true) (h : a s = r) : pIfS c a b s = r := by
  unfold pIfS PR.of
  rw [e]
  exact h
theorem ifS_f {c : PT} {a b : PSt} {s : PS} {r : PR PFl} (e : c s = .ok false) (h : b s = r) : pIfS c a b s = r := by
  unfold pIfS PR.of
  rw [e]
  exact h
theorem okN_forI {I : Nat → PS → Prop} {it : PS → Q (List T)} {g : T → PS → Option PS} {b : PSt} {D : List Nat} {s : PS} {xs : List T} {n : Nat} (e : it s = .ok xs) (hn : xs.length = n) (h0 : I 0 (clr D s)) (h : ∀ i x, xs[i]? = some x → ∀ s, I i s → ∃ s1, g x s = some s1 ∧ OkN (b s1) fun s2 => I (i + 1) (clr D s2)) : OkN (pFor it g b D s) (I n) := by
  unfold pFor
  rw [e]
  have z := okN_forLI (I := I) (g := g) (b := b) (D := D) (xs := xs) (n := 0) h0 fun i x hx s hs => by
    rw [Nat.zero_add] at hs ⊢
    exact h i x hx s hs
  rw [Nat.zero_add, hn] at z
  exact z
theorem own_e {i : Nat} {a : PE} {s : PS} {x : T} (e : a s = .ok x) : pOwn i a s = .ok .nx (s.set i (some x)) := by
  unfold pOwn PR.of
  rw [e]
theorem call_e {f : List T → Q T} {r : PA} {s : PS} {xs : List T} {q : Q T} (e : r s = .ok xs) (h : f xs = q) : pCall f r s = q := by
  unfold pCall Q.bind
  rw [e]
  exact h
theorem acons_e {a : PE} {r : PA} {s : PS} {x : T} {xs : List T} (e : a s = .ok x) (h : r s = .ok xs) : paCons a r s = .ok (x :: xs) := by
  unfold paCons Q.bind
  rw [e, h]
/-- returns what is J -/
def OkR (q : PR PFl) (J : T → Prop) : Prop := ∃ t s, q = .ok (.rt t) s ∧ J t
section
variable {a b : PSt} {s s1 : PS} {I : PS → Prop} {J : T → Prop} {q : PR PFl}
theorem okR_seqE (e : a s = .ok .nx s1) (h : OkR (b s1) J) : OkR (pSeq a b s) J := by
  unfold pSeq
  rw [e]
  exact h
theorem okR_seqR (h : OkR (a s) J) : OkR (pSeq a b s) J := by
  obtain ⟨t, s1, e, j⟩ := h
  unfold pSeq
  rw [e]
  exact ⟨t, s1, rfl, j⟩
theorem okR_ret {e : PE} {t : T} (h : e s = .ok t) (j : J t) : OkR (pRet e s) J := ⟨t, s, ret_e h, j⟩
theorem fn_okR {n N : Nat} {ts : List T} (hn : ts.length = n) (h : OkR (b (ts.map some ++ List.replicate (N - n) none)) J) : ∃ t, pFn n N b ts = .ok t ∧ J t := by
  obtain ⟨t, s, e, j⟩ := h
  unfold pFn
  rw [if_pos hn, e]
  exact ⟨t, rfl, j⟩
theorem fnF_okR {n N : Nat} {ts : List T} (hn : ts.length = n) (h : OkR (b (ts.map some ++ List.replicate (N - n) none)) J) : ∃ t, pFnF n N b ts = .ok t ∧ J t := by
  obtain ⟨t, s, e, j⟩ := h
  unfold pFnF
  rw [if_pos hn, e]
  exact ⟨t, rfl, j⟩
end
end EL.Pu
namespace EL.Pu
open PySem PySem.Spec L2 EL
open PyProof.Rows hiding St
theorem lcT_fm {α : Type} {g : T → PS → Option PS} {t : PT} {e : PE} {s0 : PS} {f y : α → T} {p : α → Bool} : ∀ {xs : List α}, (∀ a ∈ xs, ∃ s1, g (f a) s0 = some s1 ∧ t s1 = .ok (p a) ∧ (p a = true → e s1 = .ok (y a))) → lcT g t e s0 (xs.map f) = .ok ((xs.filter p).map y)
  | [], _ => rfl
  | a :: xs, h => by
    obtain ⟨s1, e1, e2, e3⟩ := h a List.mem_cons_self
    have ih := lcT_fm (xs := xs) fun b hb => h b (List.mem_cons_of_mem _ hb)
    rw [List.map_cons]
    unfold lcT
    rw [e1]
    dsimp only
    rw [e2]
    unfold Q.bind
    dsimp only
    cases hp : p a with
    | true =>
      rw [if_pos rfl, e3 hp]
      dsimp only
      rw [ih, List.filter_cons_of_pos hp]
      rfl
    | false =>
      rw [if_neg (by simp), ih, List.filter_cons_of_neg (by rw [hp]; simp)]
theorem finL_ok {ys : List T} (h : ys.length ≤ lim) : finL (.ok ys) = .ok (.lst ys) := if_pos h
theorem lc_fm {α : Type} {it : PS → Q (List T)} {g : T → PS → Option PS} {t : PT} {e : PE} {vs : List Nat} {s : PS} {f y : α → T} {p : α → Bool} {xs : List α} (hi : it s = .ok (xs.map f)) (hl : xs.length ≤ lim) (h : ∀ a ∈ xs, ∃ s1, g (f a) (clr vs s) = some s1 ∧ t s1 = .ok (p a) ∧ (p a = true → e s1 = .ok (y a))) : pLc it g t e vs s = .ok (.lst ((xs.filter p).map y)) := by
  unfold pLc Q.bind
  rw [hi]
  dsimp only
  rw [lcT_fm h]
  exact finL_ok (by rw [List.length_map]; exact Nat.le_trans (List.length_filter_le _ _) hl)
theorem lc_map {α : Type} {it : PS → Q (List T)} {g : T → PS → Option PS} {e : PE} {vs : List Nat} {s : PS} {f y : α → T} {xs : List α} (hi : it s = .ok (xs.map f)) (hl : xs.length ≤ lim) (h : ∀ a ∈ xs, ∃ s1, g (f a) (clr vs s) = some s1 ∧ e s1 = .ok (y a)) : pLc it g pYs e vs s = .ok (.lst (xs.map y)) := by
  have z := lc_fm (t := pYs) (p := fun _ => true) hi hl fun a ha => let ⟨s1, e1, e2⟩ := h a ha; ⟨s1, e1, rfl, fun _ => e2⟩
  rw [List.filter_eq_self.mpr (by simp)] at z
  exact z
theorem okN_if {c : PT} {a b : PSt} {s : PS} {I : PS → Prop} {x : Bool} (e : c s = .ok x) (ht : x = true → OkN (a s) I) (hf : x = false → OkN (b s) I) : OkN (pIfS c a b s) I := by
  cases x with
  | true => obtain ⟨s', e', i⟩ := ht rfl; exact ⟨s', ifS_t e e', i⟩
  | false => obtain ⟨s', e', i⟩ := hf rfl; exact ⟨s', ifS_f e e', i⟩
theorem val_e {a : PE} {s : PS} {b : Bool} (e : a s = .ok (.bl b)) : pVal a s = .ok b := by
  unfold pVal Q.bind
  rw [e]
theorem not_e {c : PT} {s : PS} {b : Bool} (e : c s = .ok b) : pNot c s = .ok (!b) := by
  unfold pNot Q.bind
  rw [e]
theorem or_e {c d : PT} {s : PS} {x y : Bool} (e : c s = .ok x) (e' : x = false → d s = .ok y) : pOr c d s = .ok (x || y) := by
  unfold pOr Q.bind
  rw [e]
  cases x with
  | true => rfl
  | false => exact e' rfl
theorem and_e {c d : PT} {s : PS} {x y : Bool} (e : c s = .ok x) (e' : x = true → d s = .ok y) : pAnd c d s = .ok (x && y) := by
  unfold pAnd Q.bind
  rw [e]
  cases x with
  | true => exact e' rfl
  | false => rfl
theorem tru_e {a : PE} {s : PS} {x : T} {b : Bool} (e : a s = .ok x) (e' : uTru x = .ok b) : pTru a s = .ok b := by
  unfold pTru Q.bind
  rw [e]
  exact e'
theorem bin_e {g : T → T → Q T} {a b : PE} {s : PS} {x y : T} {q : Q T} (e : a s = .ok x) (e' : b s = .ok y) (h : g x y = q) : pBin g a b s = q := by
  unfold pBin Q.bind
  rw [e, e']
  exact h
theorem if_e {c : PT} {a b : PE} {s : PS} {x : Bool} {q : Q T} (e : c s = .ok x) (ht : x = true → a s = q) (hf : x = false → b s = q) : pIf c a b s = q := by
  unfold pIf Q.bind
  rw [e]
  cases x with
  | true => exact ht rfl
  | false => exact hf rfl
theorem tup_e {r : PA} {s : PS} {xs : List T} (e : r s = .ok xs) (h : xs.length ≤ lim) : pTup r s = .ok (.tup xs) := by
  unfold pTup Q.bind
  rw [e]
  exact if_pos h
theorem lst_e {r : PA} {s : PS} {xs : List T} (e : r s = .ok xs) (h : xs.length ≤ lim) : pLst r s = .ok (.lst xs) := by
  unfold pLst Q.bind
  rw [e]
  exact if_pos h
theorem any_e {a : PE} {s : PS} {x : T} {xs : List T} (e : a s = .ok x) (e' : uAnyI x = .ok xs) : piAny a s = .ok xs := by
  unfold piAny Q.bind
  rw [e]
  exact e'
theorem qof_e {α : Type} {p : PS → Q α} {s : PS} {x : α} (e : p s = .ok x) : qOf p s = .ok x s := by
  unfold qOf
  rw [e]
  rfl
theorem qacons_e {a : PS → PR T} {r : PS → PR (List T)} {s s1 s2 : PS} {x : T} {xs : List T} (e : a s = .ok x s1) (h : r s1 = .ok xs s2) : qaCons a r s = .ok (x :: xs) s2 := by
  unfold qaCons PR.bind
  rw [e]
  dsimp only
  rw [h]
theorem qcall_e {f : T → List T → Q1} {i : Nat} {r : PS → PR (List T)} {s s1 : PS} {ts : List T} {t0 t t1 : T} (e : r s = .ok ts s1) (o : Pu.own i s1 = some t0) (h : f t0 ts = .ok t t1) : qCallS f i r s = .ok t (s1.set i (some t1)) := by
  unfold qCallS
  rw [e]
  dsimp only
  unfold goS
  rw [o]
  dsimp only
  rw [h]
theorem qasg_e {g : T → PS → Option PS} {a : PS → PR T} {s s1 s2 : PS} {x : T} (e : a s = .ok x s1) (h : g x s1 = some s2) : qAsg g a s = .ok .nx s2 := by
  unfold qAsg PR.bind
  rw [e]
  dsimp only
  rw [h]
theorem qbin_e {g : T → T → Q T} {a b : PS → PR T} {s s1 s2 : PS} {x y z : T} (e : a s = .ok x s1) (h : b s1 = .ok y s2) (k : g x y = .ok z) : qBin g a b s = .ok z s2 := by
  unfold qBin PR.bind
  rw [e]
  dsimp only
  rw [h]
  dsimp only
  rw [k]
  rfl
theorem eqv_str (x y : Str) : PyData.eqv (.str x) (.str y) = decide (x = y) := by
  by_cases h : x = y
  · subst h; simp [PyData.eqv]
  · simp [PyData.eqv, h]
theorem uEqP_str {neg : Bool} (x y : Str) : uEqP neg (.str x) (.str y) = .ok (.bl (neg != decide (x = y))) := by
  show Q.ok (T.bl (neg != PyData.eqv (.str x) (.str y))) = _
  rw [eqv_str]
theorem eqv_int (x y : Int) : PyData.eqv (.int x) (.int y) = decide (x = y) := by
  by_cases h : x = y
  · subst h; simp [PyData.eqv]
  · simp [PyData.eqv, h]
theorem uEqP_int {neg : Bool} (x y : Int) : uEqP neg (.int x) (.int y) = .ok (.bl (neg != decide (x = y))) := by
  show Q.ok (T.bl (neg != PyData.eqv (.int x) (.int y))) = _
  rw [eqv_int]
theorem uEqP_self {neg : Bool} {t : T} {d : PyData} (e : tD 8 t = some d) (p : d.plain = true) : uEqP neg t t = .ok (.bl (neg != true)) := by
  unfold uEqP
  rw [e]
  dsimp only
  rw [PySem.SeqAt.eqv_refl_plain d p]
theorem uIs_non {neg : Bool} : uIs neg .non .non = .ok (.bl (!neg)) := rfl
theorem uIs_int {neg : Bool} {i : Int} : uIs neg (.int i) .non = .ok (.bl neg) := rfl
theorem perm_of_mem {α : Type} [DecidableEq α] {a b : List α} (ha : a.Nodup) (hb : b.Nodup) (h : ∀ y, y ∈ a ↔ y ∈ b) : a.Perm b := (List.perm_ext_iff_of_nodup ha hb).mpr h
end EL.Pu
namespace EL.Pu
open PySem PySem.Spec L2 EL
open PyProof.Rows hiding St
end EL.Pu
namespace EL.Pu
open PySem PySem.Spec L2 EL
open PyProof.Rows hiding St
end EL.Pu
namespace EL.Pu
open PySem PySem.Spec L2 EL
open PyProof.Rows hiding St
end EL.Pu
namespace EL.Pu
open PySem PySem.Spec L2 EL
open PyProof.Rows hiding St
theorem qlst_e {r : PS → PR (List T)} {s s1 : PS} {xs : List T} (e : r s = .ok xs s1) (h : xs.length ≤ lim) : qLst r s = .ok (.lst xs) s1 := by
  unfold qLst PR.bind
  rw [e]
  exact if_pos h
theorem qtup_e {r : PS → PR (List T)} {s s1 : PS} {xs : List T} (e : r s = .ok xs s1) (h : xs.length ≤ lim) : qTup r s = .ok (.tup xs) s1 := by
  unfold qTup PR.bind
  rw [e]
  exact if_pos h
theorem qcallQ_e {f : List T → Q T} {r : PS → PR (List T)} {s s1 : PS} {ts : List T} {t : T} (e : r s = .ok ts s1) (h : f ts = .ok t) : qCall f r s = .ok t s1 := by
  unfold qCall PR.bind
  rw [e]
  dsimp only
  rw [h]
  rfl
theorem qret_e {a : PS → PR T} {s s1 : PS} {x : T} (e : a s = .ok x s1) : qRet a s = .ok (.rt x) s1 := by
  unfold qRet PR.bind
  rw [e]
end EL.Pu
namespace EL.Pu
open PySem PySem.Spec L2 EL
open PyProof.Rows hiding St
end EL.Pu
namespace EL.Pu
open PySem PySem.Spec L2 EL
open PyProof.Rows hiding St
end EL.Pu
namespace EL.Pu
open PySem PySem.Spec L2 EL
open PyProof.Rows hiding St
end EL.Pu
namespace EL.Pu
open PySem PySem.Spec L2 EL
open PyProof.Rows hiding St
section
variable {s s1 s2 s3 : PS} {a b k : PE} {r : PA} {c d : PT} {x y z : T} {ts us xs zs : List T} {q : Q T} {i : Nat} {v w : Bool}
theorem var_r (h : s[i]? = some (some x)) : pVar i s = .ok x := by
  unfold pVar
  rw [h]
theorem c_r : pC x s = .ok x := rfl
theorem nil_r : paNil s = .ok [] := rfl
theorem qnil_r : qaNil s = .ok [] s := rfl
theorem ys_r : pYs s = .ok true := rfl
theorem not_f (e : c s = .ok true) : pNot c s = .ok false := not_e e
theorem not_t (e : c s = .ok false) : pNot c s = .ok true := not_e e
theorem or_f (e : c s = .ok false) (e' : d s = .ok false) : pOr c d s = .ok false := or_e e fun _ => e'
theorem or_1 (e : c s = .ok true) : pOr c d s = .ok true := or_e (y := true) e fun h => by cases h
theorem and_t (e : c s = .ok true) (e' : d s = .ok true) : pAnd c d s = .ok true := and_e e fun _ => e'
theorem if_1 (e : c s = .ok true) (h : a s = q) : pIf c a b s = q := if_e e (fun _ => h) fun z => by cases z
theorem if_2 (e : c s = .ok false) (h : b s = q) : pIf c a b s = q := if_e e (fun z => by cases z) fun _ => h
theorem trub_r (e : a s = .ok (.bl v)) : pTru a s = .ok v := tru_e e rfl
theorem un_r {g : T → Q T} (e : a s = .ok x) (h : g x = q) : pUn g a s = q := by
  unfold pUn Q.bind
  rw [e]
  exact h
theorem mk_r {p : List T → Q T} {D : List T} (e : r s = .ok ts) (h : ts ++ D = us) (n : p us = q) : pMake p D r s = q := by
  unfold pMake Q.bind
  rw [e]
  dsimp only
  rw [h]
  exact n
theorem mk0_r {p : List T → Q T} (e : r s = .ok ts) (n : p ts = q) : pMake p [] r s = q := mk_r e (List.append_nil _) n
theorem mkK_r {p : List T → Q T} {n m : Nat} {g : List T → List T → List T} {r' : PA} (e : r s = .ok xs) (e' : r' s = .ok zs) (h : xs.length = n ∧ zs.length = m) (g' : g xs zs = us) (k : p us = q) : pMakeK p n m g r r' s = q := by
  unfold pMakeK Q.bind
  rw [e, e']
  dsimp only
  rw [if_pos h, g']
  exact k
theorem meth_r {C n : Str} {p : List T → Q T} (e : a s = .ok x) (m : meT C n x = true) (e' : r s = .ok ts) (h : p (x :: ts) = q) : pMeth C n p a r s = q := by
  unfold pMeth Q.bind
  rw [e]
  dsimp only
  rw [if_pos m, e']
  exact h
theorem callO_r {C : Str} {p : List T → Q T} (e : a s = .ok x) (e' : r s = .ok ts) (m : insT x C = true) (h : p (x :: ts) = q) : pCallO C p a r s = q := by
  unfold pCallO Q.bind
  rw [e, e']
  dsimp only
  rw [if_pos m]
  exact h
theorem prop_r {C : Str} {p : List T → Q T} (e : a s = .ok x) (m : insT x C = true) (h : p [x] = q) : pProp C p a s = q := by
  unfold pProp Q.bind
  rw [e]
  dsimp only
  rw [if_pos m]
  exact h
theorem own_r {C : Str} {tys : List String} {p : List T → Q T} (h : (insT x C && (insT y C || tyInT y tys)) = true) (n : p [x, y] = q) : uOwn C tys p x y = q := by
  unfold uOwn
  rw [if_pos h]
  exact n
theorem ownIx_r {C : Str} {p : List T → Q T} (h : insT x C = true) (n : p [x, y] = q) : uOwnIx C p x y = q := by
  unfold uOwnIx
  rw [if_pos h]
  exact n
theorem fld_r {C f : Str} (e : a s = .ok x) (h : uFld C f x = q) : pFld C f a s = q := by
  unfold pFld Q.bind
  rw [e]
  exact h
theorem asgN_r (e : a s = .ok x) (h : s.set i (some x) = s1) : pAsg (pgNm i) a s = .ok .nx s1 := asg_e e (by unfold pgNm; rw [h])
theorem own1_r (e : a s = .ok x) (h : s.set i (some x) = s1) : pOwn i a s = .ok .nx s1 := by rw [own_e e, h]
theorem reb1_r (e : a s = .ok x) (h : s.set i (some x) = s1) : pReb i a s = .ok .nx s1 := by unfold pReb; rw [own_e e, h]
theorem skip_r {A : PSt} (e : c s = .ok false) : pIfS c A pNil s = .ok .nx s := ifS_f e rfl
theorem pnil_r : pNil s = .ok .nx s := rfl
theorem exp_r (e : a s = .ok x) : pExp a s = .ok .nx s := by
  unfold pExp PR.of
  rw [e]
theorem seq_r {A B : PSt} {R : PR PFl} (e : A s = .ok .nx s1) (h : B s1 = R) : pSeq A B s = R := seq_e e h
theorem dput_r {kv : PE} {kvs : List (Key × T)} {k : Key} (o : Pu.own i s = some (.dic kvs)) (e : a s = .ok x) (e2 : kv s = .ok y) (ek : keyT y = some k) (l : kvs.length < lim) (h : s.set i (some (.dic (putT kvs k x))) = s1) : pDput i kv a s = .ok .nx s1 := by
  unfold pDput
  rw [o]
  dsimp only
  unfold PR.of
  rw [e]
  dsimp only
  rw [e2]
  dsimp only
  rw [ek]
  dsimp only
  rw [if_pos l, h]
theorem par2_r {j : Nat} (e : r s = .ok [x, y]) (h : s.set i (some x) = s1) (h2 : s1.set j (some y) = s2) : pPar2 i j r s = .ok .nx s2 := by
  unfold pPar2 PR.of
  rw [e]
  dsimp only
  rw [h, h2]
theorem app_r (o : Pu.own i s = some (.lst xs)) (e : a s = .ok y) (l : xs.length < lim) (h : s.set i (some (.lst (xs ++ [y]))) = s1) : pApp i a s = .ok .nx s1 := by rw [app_e o e l, h]
section
variable {A B : PS → PR T} {R R' : PS → PR (List T)}
theorem qof_r {α : Type} {p : PS → Q α} {o : α} (e : p s = .ok o) : qOf p s = .ok o s := qof_e e
theorem qcallS_r {f : T → List T → Q1} {t0 t t1 : T} (e : R s = .ok ts s1) (o : Pu.own i s1 = some t0) (h : f t0 ts = .ok t t1) (k : s1.set i (some t1) = s2) : qCallS f i R s = .ok t s2 := by rw [qcall_e e o h, k]
theorem qasgN_r (e : A s = .ok x s1) (h : s1.set i (some x) = s2) : qAsg (pgNm i) A s = .ok .nx s2 := qasg_e e (by unfold pgNm; rw [h])
theorem qown_r (e : A s = .ok x s1) (h : s1.set i (some x) = s2) : qOwn i A s = .ok .nx s2 := by
  unfold qOwn PR.bind
  rw [e]
  dsimp only
  rw [h]
theorem qpar2_r {j : Nat} (e : R s = .ok [x, y] s1) (h : s1.set i (some x) = s2) (h2 : s2.set j (some y) = s3) : qPar2 i j R s = .ok .nx s3 := by
  unfold qPar2 PR.bind
  rw [e]
  dsimp only
  rw [h, h2]
theorem qmk_r {p : List T → Q T} {D : List T} (e : R s = .ok ts s1) (h : ts ++ D = us) (n : p us = .ok x) : qMake p D R s = .ok x s1 := by
  unfold qMake PR.bind
  rw [e]
  dsimp only
  rw [h, n]
  rfl
theorem qmk0_r {p : List T → Q T} (e : R s = .ok ts s1) (n : p ts = .ok x) : qMake p [] R s = .ok x s1 := qmk_r e (List.append_nil _) n
theorem qmkK_r {p : List T → Q T} {n m : Nat} {g : List T → List T → List T} (e : R s = .ok xs s1) (e' : R' s1 = .ok zs s2) (h : xs.length = n ∧ zs.length = m) (g' : g xs zs = us) (k : p us = .ok x) : qMakeK p n m g R R' s = .ok x s2 := by
  unfold qMakeK PR.bind
  rw [e]
  dsimp only
  rw [e']
  dsimp only
  rw [if_pos h, g', k]
  rfl
theorem qapp_r {xs0 : List T} (o : Pu.own i s = some (.lst xs0)) (e : A s = .ok y s1) (o1 : Pu.own i s1 = some (.lst xs)) (l : xs.length < lim) (h : s1.set i (some (.lst (xs ++ [y]))) = s2) : qApp i A s = .ok .nx s2 := by
  unfold qApp
  rw [o]
  dsimp only
  rw [e]
  show (match Pu.own i s1 with
    | some (.lst xs) => if xs.length < lim then (PR.ok PFl.nx (s1.set i (some (.lst (xs ++ [y])))) : PR PFl) else .no
    | _ => .no) = _
  rw [o1]
  dsimp only
  rw [if_pos l, h]
theorem qpar3_r {j n : Nat} {t : T} {s4 : PS} (e : R s = .ok [x, y, t] s1) (h : s1.set i (some x) = s2) (h2 : s2.set j (some y) = s3) (h3 : s3.set n (some t) = s4) : qPar3 i j n R s = .ok .nx s4 := by
  unfold qPar3 PR.bind
  rw [e]
  dsimp only
  rw [h, h2, h3]
theorem qdput_r {kv : PS → PR T} {kvs : List (Key × T)} {k : Key} (e : A s = .ok x s1) (e2 : kv s1 = .ok y s2) (o : Pu.own i s2 = some (.dic kvs)) (ek : keyT y = some k) (l : kvs.length < lim) (h : s2.set i (some (.dic (putT kvs k x))) = s3) : qDput i kv A s = .ok .nx s3 := by
  unfold qDput PR.bind
  rw [e]
  dsimp only
  rw [e2]
  dsimp only
  rw [o]
  dsimp only
  rw [ek]
  dsimp only
  rw [if_pos l, h]
theorem qsl_r {lo hi : PS → PR (Option Int)} {u w : Option Int} {z : T} (e : A s = .ok x s1) (e1 : lo s1 = .ok u s2) (e2 : hi s2 = .ok w s3) (h : uSl x u w = .ok z) : qSl A lo hi s = .ok z s3 := by
  unfold qSl PR.bind
  rw [e]
  dsimp only
  rw [e1]
  dsimp only
  rw [e2]
  dsimp only
  rw [h]
  rfl
theorem qso_r {n : Int} (e : A s = .ok (.int n) s1) : qoSo A s = .ok (some n) s1 := by
  unfold qoSo PR.bind
  rw [e]
theorem qtup2_r (e : qTup R s = .ok (.tup [x, y]) s1) {j : Nat} (h : s1.set i (some x) = s2) (h2 : s2.set j (some y) = s3) : qAsg (pgTu 2 (pgsCons (pgNm i) (pgsCons (pgNm j) pgsNil))) (qTup R) s = .ok .nx s3 := qasg_e e (by
  subst h; subst h2
  rfl)
theorem qtup3_r {t : T} {n : Nat} {s4 : PS} (e : qTup R s = .ok (.tup [x, y, t]) s1) {j : Nat} (h : s1.set i (some x) = s2) (h2 : s2.set j (some y) = s3) (h3 : s3.set n (some t) = s4) : qAsg (pgTu 3 (pgsCons (pgNm i) (pgsCons (pgNm j) (pgsCons (pgNm n) pgsNil)))) (qTup R) s = .ok .nx s4 := qasg_e e (by
  subst h; subst h2; subst h3
  rfl)
theorem tup2_r (e : a s = .ok (.tup [x, y])) {j : Nat} (h : s.set i (some x) = s2) (h2 : s2.set j (some y) = s3) : pAsg (pgTu 2 (pgsCons (pgNm i) (pgsCons (pgNm j) pgsNil))) a s = .ok .nx s3 := asg_e e (by
  subst h; subst h2
  rfl)
end
theorem tup3_r {t : T} {n : Nat} {s4 : PS} (e : a s = .ok (.tup [x, y, t])) {j : Nat} (h : s.set i (some x) = s2) (h2 : s2.set j (some y) = s3) (h3 : s3.set n (some t) = s4) : pAsg (pgTu 3 (pgsCons (pgNm i) (pgsCons (pgNm j) (pgsCons (pgNm n) pgsNil)))) a s = .ok .nx s4 := asg_e e (by
  subst h; subst h2; subst h3
  rfl)
theorem eq_as {α : Type} {u v : α} (h : u = v) : u = v := h
theorem lt_as {u v : Nat} (h : u < v) : u < v := h
theorem key_o {k : Key} (h : keyT x = some k) : keyT x = some k := h
theorem own_o (h : s[i]? = some (some x)) : Pu.own i s = some x := by
  unfold Pu.own
  rw [h]
theorem set_o {o : Option T} (h : s.set i o = s1) : s.set i o = s1 := h
theorem cat_o (h : ts ++ us = xs) : ts ++ us = xs := h
theorem me_o {C n : Str} (h : meT C n x = true) : meT C n x = true := h
theorem ins_o {C : Str} (h : insT x C = true) : insT x C = true := h
theorem ins2_o {C : Str} {tys : List String} (h : (insT x C && (insT y C || tyInT y tys)) = true) : (insT x C && (insT y C || tyInT y tys)) = true := h
theorem lim_o (h : ts.length ≤ lim) : ts.length ≤ lim := h
theorem len2_o {n m : Nat} (h : xs.length = n ∧ zs.length = m) : xs.length = n ∧ zs.length = m := h
theorem ufld_o {C f : Str} (h : uFld C f x = q) : uFld C f x = q := h
theorem tup_r (e : r s = .ok xs) (h : xs.length ≤ lim) : pTup r s = .ok (.tup xs) := tup_e e h
theorem lst_r (e : r s = .ok xs) (h : xs.length ≤ lim) : pLst r s = .ok (.lst xs) := lst_e e h
theorem neI_f {i j : Int} (h : i = j) : uEqP true (.int i) (.int j) = .ok (.bl false) := by rw [uEqP_int, decide_eq_true h]; rfl
end
end EL.Pu
namespace EL.Pu
open PySem PySem.Spec L2 EL
open PyProof.Rows hiding St
end EL.Pu
namespace EL.Pu
open PySem PySem.Spec L2 EL
open PyProof.Rows hiding St
theorem no_r {s : PS} : poNo s = .ok none := rfl
def OkRS (q : PR PFl) (J : T → T → Prop) : Prop := ∃ t s u, q = .ok (.rt t) s ∧ Pu.own 0 s = some u ∧ J t u
section
variable {a b : PSt} {s s1 : PS} {I : PS → Prop} {J : T → T → Prop} {q : PR PFl}
theorem okRS_seqE (e : a s = .ok .nx s1) (h : OkRS (b s1) J) : OkRS (pSeq a b s) J := by
  unfold pSeq
  rw [e]
  exact h
theorem okRS_qret {e : PS → PR T} {t u : T} (h : e s = .ok t s1) (o : Pu.own 0 s1 = some u) (j : J t u) : OkRS (qRet e s) J := ⟨t, s1, u, qret_e h, o, j⟩
theorem okRS_ret {e : PE} {t u : T} (h : e s = .ok t) (o : Pu.own 0 s = some u) (j : J t u) : OkRS (pRet e s) J := ⟨t, s, u, ret_e h, o, j⟩
/-- a function's text, from OkR -/
theorem fn_e {n N : Nat} {ts : List T} {t : T} (hn : ts.length = n) (h : OkR (b (ts.map some ++ List.replicate (N - n) none)) fun x => x = t) : pFn n N b ts = .ok t := by
  obtain ⟨x, e, rfl⟩ := fn_okR hn h
  exact e
theorem fnF_e {n N : Nat} {ts : List T} {t : T} (hn : ts.length = n) (h : OkR (b (ts.map some ++ List.replicate (N - n) none)) fun x => x = t) : pFnF n N b ts = .ok t := by
  obtain ⟨x, e, rfl⟩ := fnF_okR hn h
  exact e
end
end EL.Pu
namespace EL.Pu
open PySem PySem.Spec L2 EL
open PyProof.Rows hiding St
end EL.Pu
namespace EL.Pu
open PySem PySem.Spec L2 EL
open PyProof.Rows hiding St
end EL.Pu
namespace EL.Pu
open PySem PySem.Spec L2 EL
open PyProof.Rows hiding St
end EL.Pu
namespace EL.Pu
open PySem PySem.Spec L2 EL
open PyProof.Rows hiding St
end EL.Pu
namespace EL.Pu
open PySem PySem.Spec L2 EL
open PyProof.Rows hiding St
end EL.Pu
namespace EL.Pu
open PySem PySem.Spec L2 EL
open PyProof.Rows hiding St
/-- a source gives these items, whatever is changed within Z -/
def SrcV (X Z : Nat → Prop) (h : Hw) (xs : List T) (s : Src × Nat) : Prop := xs.length ≤ s.2 ∧
  (∀ (i : Nat) (t : T), xs[i]? = some t → ∃ w, Rep h X t w ∧ ∀ h', Ext Z h h' → s.1.item i h' = some (some w)) ∧ ∀ i : Nat, xs[i]? = none → ∀ h', Ext Z h h' → s.1.item i h' = some none
theorem SrcV.ext {X Z : Nat → Prop} {h h1 : Hw} {xs : List T} {s : Src × Nat} (H : SrcV X Z h xs s) (e : Ext X h h1) (z : Ext Z h h1) : SrcV X Z h1 xs s := by
  refine ⟨H.1, fun i t q => ?_, fun i q h' e' => H.2.2 i q h' (z.trans e')⟩
  obtain ⟨w, r, k⟩ := H.2.1 i t q
  exact ⟨w, r.ext e, fun h' e' => k h' (z.trans e')⟩
end EL.Pu
namespace EL.Pu
open PySem PySem.Spec L2 EL
open PyProof.Rows hiding St
end EL.Pu
namespace EL.Pu
open PySem PySem.Spec L2 EL
open PyProof.Rows hiding St
section
variable {F : Bool} {io N N' L : List Nat} {C f : Str} {mi ms : List W → M W} {pi : List T → Q T} {pset : List (Key × T) → T → T → Q (List (Key × T))} {dws : List W} {dT : List T} {mr : MA} {pr : PA} {mk mv : ME} {pk pv : PE} {m1 m2 m3 : MS} {p1 p2 : PSt}
theorem Sto.any {X : Nat → Prop} {A : List (Nat × Nat)} {sw : SW} {h : Hw} {ps : PS} (s : Sto X A ps sw h) {i : Nat} (ni : i ∉ A.map (·.1)) (w : W) : Sto X A (ps.set i none) (sw.set i (some w)) h := by
  refine ⟨by rw [List.length_set, List.length_set]; exact s.len, fun k u e n => ?_, fun k j u m e => ?_, s.lt, s.nd, s.nd1, s.xl⟩
  · rw [List.getElem?_set] at e ⊢
    by_cases hk : i = k
    · rw [if_pos hk] at e
      split at e <;> cases e
    · rw [if_neg hk] at e ⊢
      exact s.fr k u e n
  · have hk : i ≠ k := fun z => ni (z ▸ List.mem_map.mpr ⟨_, m, rfl⟩)
    rw [List.getElem?_set_ne hk] at e ⊢
    exact s.ow k j u m e
end
end EL.Pu
namespace EL.Pu
open PySem PySem.Spec L2 EL
open PyProof.Rows hiding St
end EL.Pu
namespace EL.Pu
open PySem PySem.Spec L2 EL
open PyProof.Rows hiding St
def keysP (pb : PE) (n : Nat) : List T → Q (List Str)
  | [] => .ok []
  | t :: r => match pb (some t :: List.replicate n none) with
    | .ok (.str y) => (keysP pb n r).bind fun ys => .ok (y :: ys)
    | _ => .no
def pSortK (pa pb : PE) (n : Nat) : PE := fun s => (pa s).bind fun x => match tItems x with
  | some xs => (keysP pb n xs).bind fun ks => .ok (.lst (sortTD xs (ks.map PyData.str)))
  | none => .no
theorem keys_qr {mb : ME} {pb : PE} {n : Nat} (H : XE [] mb pb) {X : Nat → Prop} : ∀ {ts : List T} {ws : List W} {h : Hw}, (∀ j, X j → j < h.length) → Reps h X ts ws → QR X h (fun a b _ => a = b) (keysP pb n ts) (keysK mb n ws h)
  | _, _, h, _, .nil => qr_ok rfl
  | t :: ts, w :: ws, h, l, .cons r rs => by
    unfold keysP
    split
    · rename_i y e
      have q := H X [] _ _ h rfl (sto_start n l (Reps.cons r .nil))
      have q' : QR (av X []) h (rT (av X [])) (pb (some t :: List.replicate n none)) (mb (some w :: List.replicate n none) h) := q
      rw [e] at q'
      obtain ⟨b, h1, e1, p1, r1⟩ := q'
      cases r1 with
      | str =>
        have eb : keysK mb n (w :: ws) h = bnd (keysK mb n ws) (fun ys => rtn (y :: ys)) h1 := by
          show bnd (mb _) _ h = _
          unfold bnd
          rw [e1]
        rw [eb]
        have rest := keys_qr (n := n) H (X := X) (ts := ts) (ws := ws) (h := h1) (fun j z => Nat.lt_of_lt_of_le (l j z) p1.length_le) (rs.pre p1)
        cases q2 : keysP pb n ts with
        | no => exact trivial
        | ex C t2 =>
          rw [q2] at rest
          obtain ⟨w2, h2, e2, p2, r2⟩ := rest
          exact ⟨w2, h2, by unfold bnd; rw [e2], p1.trans p2, r2⟩
        | ok ys =>
          rw [q2] at rest
          obtain ⟨ys', h2, e2, p2, rfl⟩ := rest
          exact ⟨y :: ys, h2, by unfold bnd; rw [e2]; rfl, p1.trans p2, rfl⟩
      | ref n e0 r2 => cases r2
    · exact trivial
section
variable {N : List Nat} {ma mb : ME} {pa pb : PE}
theorem xf_sortK {n : Nat} (ha : XV N ma pa) (H : XE [] mb pb) : XF N (mSortK ma mb n) (pSortK pa pb n) := fun X A ps sw h a s => by
  refine qr_bind (ha X A ps sw h a s) fun x wx h1 p1 r1 => ?_
  split
  · rename_i ts e1
    obtain ⟨ws, f1, q1⟩ := val_items r1 e1
    rw [f1]
    dsimp only
    refine qr_bind (keys_qr H (avl_pre p1 s.avl) q1) fun ks ks' h2 p2 ek => ?_
    subst ek
    exact qr_new (Nat.le_trans p1.length_le p2.length_le) (.lst (reps_sort (q1.pre p2) _))
  · exact trivial
end
end EL.Pu
namespace EL.Pu
open PySem PySem.Spec L2 EL
open PyProof.Rows hiding St
def uStrD (x : T) : Q T := match x with
  | .lst _ => uReprD x
  | _ => .no
def vStrD := v1 uStrD
theorem op_strD : OpB bStrD vStrD := opB_1 fun h X x w l r => by
  cases r with
  | @ref t i o e r =>
    cases r with
    | lst r2 =>
      have z := op_reprD h X [_] [_] l (.cons (.ref e (.lst r2)) .nil)
      exact z
    | _ => exact trivial
  | _ => exact trivial
end EL.Pu
namespace EL.Pu
open PySem L2 EL
open PyProof.Rows hiding St
section
variable {N : List Nat} {ma mb : ME} {pa pb : PE} {F : Bool} {io L : List Nat}
def pAppF (a b : PE) : PSt := fun s => PR.of (a s) fun x => match x with
  | .lst xs => PR.of (b s) fun _ => if xs.length < lim then .ok .nx s else .no
  | _ => .no
theorem ss_appF (ha : XF N ma pa) (hb : XE N mb pb) : SS F io N N L (sExp (mApp ma mb)) (pAppF pa pb) := fun X A ps sw h n0 a s hio hn hl => by
  unfold pAppF
  have e0 : sExp (mApp ma mb) sw h = bnd (ma sw) (fun x => bnd (chkL x) fun _ => bnd (mb sw) fun y => bnd (fApp x y) fun _ => rtn (Fl.nx sw)) h := by
    unfold sExp mApp bnd
    cases ma sw h with
    | ok x h1 =>
      dsimp only
      cases chkL x h1 with
      | ok u h2 =>
        dsimp only
        cases mb sw h2 <;> rfl
      | ex c v h1 => rfl
      | no => rfl
    | ex c v h1 => rfl
    | no => rfl
  rw [e0]
  refine sr_at (ha X A ps sw h a s) fun x wx h1 p1 r1 => ?_
  obtain ⟨k, o, rfl, hk, ek, uk, rk⟩ := r1
  have kl : k < h1.length := (List.getElem?_eq_some_iff.mp ek).1
  cases rk with
  | lst rr =>
    rename_i xs ws
    have ec : chkL (.ref k) h1 = .ok () h1 := by
      unfold chkL
      simp only [ek]
    rw [bnd_run ec]
    have stw := s.more hk kl p1
    have z := hb (wid X k) A ps sw h1 a stw
    dsimp only
    unfold PR.of
    cases eb : pb ps with
    | no => exact trivial
    | ex C t =>
      rw [eb] at z
      obtain ⟨w, h2, e2, p2, r2⟩ := z
      exact ⟨w, h2, by unfold bnd; rw [e2], .of_pre (p1.trans p2), r2.iff fun j z => .inl (.inl z)⟩
    | ok y =>
      rw [eb] at z
      obtain ⟨w, h2, e2, p2, r2⟩ := z
      rw [bnd_run e2]
      dsimp only
      split
      · rename_i hlt
        have ek2 := pre_get p2 ek
        have em : bnd (fApp (.ref k) w) (fun _ => rtn (Fl.nx sw)) h2 = .ok (.nx sw) (h2.set k (.lst (ws ++ [w]))) := by
          unfold bnd fApp
          simp only [ek2]
          rw [if_pos (by rw [← rr.length]; exact hlt)]
          rfl
        have st2 : Sto (wid X k) A ps sw h2 := stw.pre p2
        have pp := p1.trans p2
        refine ⟨sw, _, A, em, ⟨⟨by rw [List.length_set]; exact pp.length_le, fun j u n e => ?_⟩, fun e he _ => he, fun e he => .inl he⟩, a, ?_⟩
        · have hj : j < h.length := (List.getElem?_eq_some_iff.mp e).1
          rw [List.getElem?_set_ne (by omega)]
          exact pre_get pp e
        · refine Sto.less (Y := wid X k) (st2.up (by rw [List.length_set]; exact Nat.le_refl _) (fun _ z => z) (fun _ z => .inl z) (fun j z => by rw [List.length_set]; exact st2.xl j z) (fun j u n e => ?_) fun j u m e => ?_) fun j z => .inl z
          · have : k ≠ j := fun z => n (.inl (.inr z.symm))
            exact ⟨u, by rw [List.getElem?_set_ne this]; exact e, Sim.refl _⟩
          · obtain ⟨q, hq, rfl⟩ := List.mem_map.mp m
            have := (st2.lt q.1 q.2 hq).2
            have : k ≠ q.2 := fun z => this (.inr z.symm)
            rw [List.getElem?_set_ne this]
            exact e
      · exact trivial
  | _ => exact trivial
end
end EL.Pu
namespace ThisLaw
open PySem PySem.Spec L2 EL
open PyProof.Rows hiding St
section
def topS (i : Nat) : Stmt := PySem.Challenge.pw_standinparts_k03_books_of_allowances.main.body.getD i (.Pass ⟨0, 0, 0, 0⟩)
end
abbrev s__law_pool : Stmt := topS 22
theorem sc__law_pool : FnScope ["_law_script", "_law_k", "_law_cell", "_law_size", "_law_mixed"] ["_law_script", "_law_k"] (defScope s__law_pool) := ⟨rfl, rfl, rfl, by decide +kernel, rfl, by decide +kernel, by decide +kernel⟩
def m__law_pool : List W → M W := mFn 2 5 (sSeq (sAsg (gNm 2) (mIf (tVal (mBin fLt (mVar 1) (mCall bLen (aCons (mVar 0) aNil)))) (mBin fIx (mVar 0) (mVar 1)) (mBin fAdd (mBin fMul (mC (.int 7)) (mCall bSum (aCons (mSl (mVar 0) oNo (oSo (mC (.int 63)))) aNil))) (mVar 1))))
    (sSeq (sAsg (gNm 3) (mCall bAbs (aCons (mVar 2) aNil)))
    (sSeq (sAsg (gNm 4) (mBin fAdd (mBin fAdd (mBin fAdd (mBin fMod (mCall bInt (aCons (mVar 3) aNil)) (mC (.int 2147483629))) (mBin fMul (mBin fMul (mC (.int 7919)) (mVar 1)) (mVar 1))) (mBin fMul (mC (.int 31)) (mVar 1))) (mC (.int 17))))
    (sSeq (sAsg (gNm 4) (mBin fMod (mCall bInt (aCons (mBin fMul (mVar 4) (mC (.int 48271))) aNil)) (mC (.int 2147483647))))
    (sRet (mLst (aCons (mBin fMul (mVar 3) (mCall bInt (aCons (mBin fGe (mVar 3) (mBin fPow (mC (.int 10)) (mC (.int 18)))) aNil))) (aCons (mBin fMod (mCall bInt (aCons (mBin fMul (mVar 4) (mVar 4)) aNil)) (mC (.int 2147483629))) aNil))))))))
theorem ok__law_pool {P : Program} {w : World} {K : PySem.W.Frag} {mg : Str → Option Value} {base : Heap} {cm : Cm} {f : Addr} {fd : FuncData} (F : Fun K "_law_pool" "_law_pool" s__law_pool f fd) (z_len : mg "len" = none) (z_sum : mg "sum" = none) (z_abs : mg "abs" = none) (z_int : mg "int" = none) :
    FnOk P w K mg base CX0 1 f fd ["_law_script", "_law_k"] (spM K cm m__law_pool) :=
  efn F sc__law_pool fun cdv A outer s H E hr => (rss_cons (rs_asg (vs := [2]) (re_if (rt_cmp oLt wCmp (re_var 1) (re_callB oLen wLen z_len (ra_cons (re_var 0) ra_nil))) (re_ix (re_var 0) (re_var 1)) (re_op oAdd wAdd (re_op oMul wMul (re_int) (re_callB (cr_sum rfl) wSum z_sum (ra_cons (re_sl (re_var 0) ro_no (ro_so (re_int))) ra_nil))) (re_var 1))) (rg_name 2 sc__law_pool.nd))
    (rss_cons (rs_asg (vs := [3]) (re_callB call_abs wAbs z_abs (ra_cons (re_var 2) ra_nil)) (rg_name 3 sc__law_pool.nd))
    (rss_cons (rs_asg (vs := [4]) (re_op oAdd wAdd (re_op oAdd wAdd (re_op oAdd wAdd (re_op op_mod wMod (re_callTy call_int1 wInt1 z_int (ra_cons (re_var 3) ra_nil)) (re_int)) (re_op oMul wMul (re_op oMul wMul (re_int) (re_var 1)) (re_var 1))) (re_op oMul wMul (re_int) (re_var 1))) (re_int)) (rg_name 4 sc__law_pool.nd))
    (rss_cons (rs_asg (vs := [4]) (re_op op_mod wMod (re_callTy call_int1 wInt1 z_int (ra_cons (re_op oMul wMul (re_var 4) (re_int)) ra_nil)) (re_int)) (rg_name 4 sc__law_pool.nd))
    (rss_one (rs_ret (re_lst (ra_cons (re_op oMul wMul (re_var 3) (re_callTy call_int1 wInt1 z_int (ra_cons (re_cmp oGe wCmp (re_var 3) (re_op op_pow wPow (re_int) (re_int))) ra_nil))) (ra_cons (re_op op_mod wMod (re_callTy call_int1 wInt1 z_int (ra_cons (re_op oMul wMul (re_var 4) (re_var 4)) ra_nil)) (re_int)) ra_nil)))))))))
abbrev s__law_draw : Stmt := topS 23
theorem sc__law_draw : FnScope ["_law_pool_here", "_law_many", "_law_found"] ["_law_pool_here", "_law_many"] (defScope s__law_draw) := ⟨rfl, rfl, rfl, by decide +kernel, rfl, by decide +kernel, by decide +kernel⟩
def m__law_draw : List W → M W := mFn 2 3 (sSeq (sIf (tVal (mBin fGt (mBin fIx (mVar 0) (mC (.int 0))) (mC (.int 0)))) (sSeq (sAsg (gNm 2) (mBin fMod (mCall bInt (aCons (mBin fIx (mVar 0) (mC (.int 0))) aNil)) (mVar 1)))
    (sSeq (sAsg (gSubL (mVar 0) (mC (.int 0))) (mBin fDiv (mBin fIx (mVar 0) (mC (.int 0))) (mVar 1)))
    (sRet (mVar 2)))) sNil)
    (sSeq (sAsg (gSubL (mVar 0) (mC (.int 1))) (mBin fMod (mCall bInt (aCons (mBin fAdd (mBin fMul (mBin fIx (mVar 0) (mC (.int 1))) (mC (.int 48271))) (mC (.int 11))) aNil)) (mC (.int 2147483647))))
    (sRet (mBin fMod (mCall bInt (aCons (mBin fDiv (mBin fMod (mCall bInt (aCons (mBin fMul (mBin fIx (mVar 0) (mC (.int 1))) (mBin fIx (mVar 0) (mC (.int 1)))) aNil)) (mC (.int 2147483629))) (mC (.int 16))) aNil)) (mVar 1)))))
theorem ok__law_draw {P : Program} {w : World} {K : PySem.W.Frag} {mg : Str → Option Value} {base : Heap} {cm : Cm} {f : Addr} {fd : FuncData} (F : Fun K "_law_draw" "_law_draw" s__law_draw f fd) (z_int : mg "int" = none) :
    FnOk P w K mg base CX0 1 f fd ["_law_pool_here", "_law_many"] (spM K cm m__law_draw) :=
  efn F sc__law_draw fun cdv A outer s H E hr => (rss_cons (rs_if (rt_cmp oGt wCmp (re_ix (re_var 0) (re_int)) (re_int)) (rss_cons (rs_asg (vs := [2]) (re_op op_mod wMod (re_callTy call_int1 wInt1 z_int (ra_cons (re_ix (re_var 0) (re_int)) ra_nil)) (re_var 1)) (rg_name 2 sc__law_draw.nd))
    (rss_cons (rs_asg (vs := []) (re_op op_fdivW wDiv (re_ix (re_var 0) (re_int)) (re_var 1)) (rg_sub (re_var 0) (re_int)))
    (rss_one (rs_ret (re_var 2))))) rss_nil)
    (rss_cons (rs_asg (vs := []) (re_op op_mod wMod (re_callTy call_int1 wInt1 z_int (ra_cons (re_op oAdd wAdd (re_op oMul wMul (re_ix (re_var 0) (re_int)) (re_int)) (re_int)) ra_nil)) (re_int)) (rg_sub (re_var 0) (re_int)))
    (rss_one (rs_ret (re_op op_mod wMod (re_callTy call_int1 wInt1 z_int (ra_cons (re_op op_fdivW wDiv (re_op op_mod wMod (re_callTy call_int1 wInt1 z_int (ra_cons (re_op oMul wMul (re_ix (re_var 0) (re_int)) (re_ix (re_var 0) (re_int))) ra_nil)) (re_int)) (re_int)) ra_nil)) (re_var 1))))))
abbrev s__law_pick : Stmt := topS 24
theorem sc__law_pick : FnScope ["_law_pool_here", "_law_row"] ["_law_pool_here", "_law_row"] (defScope s__law_pick) := ⟨rfl, rfl, rfl, by decide +kernel, rfl, by decide +kernel, by decide +kernel⟩
def m__law_pick : List W → M W := mFn 2 2 (sRet (mBin fIx (mVar 1) (mCall m__law_draw (aCons (mVar 0) (aCons (mCall bLen (aCons (mVar 1) aNil)) aNil)))))
theorem ok__law_pick {P : Program} {w : World} {K : PySem.W.Frag} {mg : Str → Option Value} {base : Heap} {cm : Cm} {f : Addr} {fd : FuncData} (F : Fun K "_law_pick" "_law_pick" s__law_pick f fd) {f__law_draw : Addr} {fd__law_draw : FuncData} (G__law_draw : FnOk P w K mg base CX0 1 f__law_draw fd__law_draw ["_law_pool_here", "_law_many"] (spM K cm m__law_draw)) (g__law_draw : mg "_law_draw" = some (.ref f__law_draw)) (k__law_draw : PySem.W.keepIn K (.ref f__law_draw) = true) (b__law_draw : Binds K fd__law_draw ["_law_pool_here", "_law_many"] []) (z_len : mg "len" = none) :
    FnOk P w K mg base CX0 2 f fd ["_law_pool_here", "_law_row"] (spM K cm m__law_pick) :=
  efn F sc__law_pick fun cdv A outer s H E hr => (rss_one (rs_ret (re_ix (re_var 1) (re_call G__law_draw (hr.mono (by decide)) g__law_draw k__law_draw b__law_draw (ra_cons (re_var 0) (ra_cons (re_callB oLen wLen z_len (ra_cons (re_var 1) ra_nil)) ra_nil))))))
abbrev s__law_parts : Stmt := topS 25
theorem sc__law_parts : FnScope ["_law_pool_here", "_law_many", "_law_signs", "_law_start", "_law_step", "_law_tail", "_law_k"] ["_law_pool_here", "_law_many"] (defScope s__law_parts) := ⟨rfl, rfl, rfl, by decide +kernel, rfl, by decide +kernel, by decide +kernel⟩
def m__law_parts : List W → M W := mFn 2 7 (sSeq (sAsg (gNm 2) (mC (.str "abcdefghijklmnopqrstuvwxyz")))
    (sSeq (sAsg (gTu 3 (gsCons (gNm 3) (gsCons (gNm 4) (gsCons (gNm 5) gsNil)))) (mTup (aCons (mCall m__law_draw (aCons (mVar 0) (aCons (mC (.int 26)) aNil))) (aCons (mBin fAdd (mC (.int 1)) (mBin fMul (mC (.int 2)) (mCall m__law_draw (aCons (mVar 0) (aCons (mC (.int 6)) aNil))))) (aCons (mCall m__law_pick (aCons (mVar 0) (aCons (mLst (aCons (mC (.str "")) (aCons (mC (.str "")) (aCons (mC (.str "q")) (aCons (mC (.str "abcdefg")) aNil))))) aNil))) aNil)))))
    (sRet (mLc (iRg1 (mVar 1)) (gNm 6) tYs (mBin fAdd (mBin fIx (mVar 2) (mBin fMod (mCall bInt (aCons (mBin fAdd (mVar 3) (mBin fMul (mVar 4) (mVar 6))) aNil)) (mC (.int 26)))) (mVar 5)) [6]))))
theorem ok__law_parts {P : Program} {w : World} {K : PySem.W.Frag} {mg : Str → Option Value} {base : Heap} {cm : Cm} {f : Addr} {fd : FuncData} (F : Fun K "_law_parts" "_law_parts" s__law_parts f fd) {f__law_draw : Addr} {fd__law_draw : FuncData} (G__law_draw : FnOk P w K mg base CX0 1 f__law_draw fd__law_draw ["_law_pool_here", "_law_many"] (spM K cm m__law_draw)) (g__law_draw : mg "_law_draw" = some (.ref f__law_draw)) (k__law_draw : PySem.W.keepIn K (.ref f__law_draw) = true) (b__law_draw : Binds K fd__law_draw ["_law_pool_here", "_law_many"] []) {f__law_pick : Addr} {fd__law_pick : FuncData} (G__law_pick : FnOk P w K mg base CX0 2 f__law_pick fd__law_pick ["_law_pool_here", "_law_row"] (spM K cm m__law_pick)) (g__law_pick : mg "_law_pick" = some (.ref f__law_pick)) (k__law_pick : PySem.W.keepIn K (.ref f__law_pick) = true) (b__law_pick : Binds K fd__law_pick ["_law_pool_here", "_law_row"] []) (z_range : mg "range" = none) (z_int : mg "int" = none) :
    FnOk P w K mg base CX0 3 f fd ["_law_pool_here", "_law_many"] (spM K cm m__law_parts) :=
  efn F sc__law_parts fun cdv A outer s H E hr => (rss_cons (rs_asg (vs := [2]) (re_str) (rg_name 2 sc__law_parts.nd))
    (rss_cons (rs_asg (vs := [3, 4, 5]) (re_tup (ra_cons (re_call G__law_draw (hr.mono (by decide)) g__law_draw k__law_draw b__law_draw (ra_cons (re_var 0) (ra_cons (re_int) ra_nil))) (ra_cons (re_op oAdd wAdd (re_int) (re_op oMul wMul (re_int) (re_call G__law_draw (hr.mono (by decide)) g__law_draw k__law_draw b__law_draw (ra_cons (re_var 0) (ra_cons (re_int) ra_nil))))) (ra_cons (re_call G__law_pick (hr.mono (by decide)) g__law_pick k__law_pick b__law_pick (ra_cons (re_var 0) (ra_cons (re_lst (ra_cons (re_str) (ra_cons (re_str) (ra_cons (re_str) (ra_cons (re_str) ra_nil))))) ra_nil))) ra_nil)))) (rg_tup rfl (rgs_cons (rg_name 3 sc__law_parts.nd) (rgs_cons (rg_name 4 sc__law_parts.nd) (rgs_cons (rg_name 5 sc__law_parts.nd) rgs_nil)))))
    (rss_one (rs_ret (re_lc [("_law_k", 6)] rfl sc__law_parts.nd (ri_rng1 z_range (re_var 1)) (N0 := ["_law_pool_here", "_law_many", "_law_signs", "_law_start", "_law_step", "_law_tail", "_law_k"]) (sc0 := defScope s__law_parts) (by decide +kernel) (fun _ _ _ _ _ => (rg_name 6 sc__law_parts.nd)) (fun _ _ _ _ _ => (re_op oAdd wAdd (re_ix (re_var 2) (re_op op_mod wMod (re_callTy call_int1 wInt1 z_int (ra_cons (re_op oAdd wAdd (re_var 3) (re_op oMul wMul (re_var 4) (re_var 6))) ra_nil)) (re_int))) (re_var 5))))))))
abbrev s__law_book : Stmt := topS 26
theorem sc__law_book : FnScope ["_law_pool_here", "_law_parts_here", "_law_many", "_law_found", "_law_turn", "_law_part", "_law_plain", "_law_since", "_law_row"] ["_law_pool_here", "_law_parts_here", "_law_many"] (defScope s__law_book) := ⟨rfl, rfl, rfl, by decide +kernel, rfl, by decide +kernel, by decide +kernel⟩
def m__law_book : List W → M W := mFn 3 9 (sSeq (sAsg (gNm 3) (mLst aNil))
    (sSeq (sForI (iRg1 (mVar 2)) (gNm 4) (sSeq (sPar3 5 6 7 (aCons (mCall m__law_pick (aCons (mVar 0) (aCons (mVar 1) aNil))) (aCons (mCall m__law_pick (aCons (mVar 0) (aCons (mVar 1) aNil))) (aCons (mCall m__law_draw (aCons (mVar 0) (aCons (mC (.int 4)) aNil))) aNil))))
    (sSeq (sAsg (gNm 8) (mTup (aCons (mVar 5) (aCons (mVar 6) (aCons (mVar 7) (aCons (mCall m__law_pick (aCons (mVar 0) (aCons (mLst (aCons (mC .non) (aCons (mC .non) (aCons (mVar 7) (aCons (mBin fAdd (mVar 7) (mC (.int 2))) (aCons (mC (.int 9999)) aNil)))))) aNil))) aNil))))))
    (sIf ((tAnd (tVal (mBin (fEqP true) (mVar 5) (mVar 6))) (tVal (mBin (fInP true) (mVar 8) (mVar 3))))) (sExp (mApp (mVar 3) (mVar 8))) sNil))))
    (sRet (mVar 3))))
theorem ok__law_book {P : Program} {w : World} {K : PySem.W.Frag} {mg : Str → Option Value} {base : Heap} {cm : Cm} {f : Addr} {fd : FuncData} (F : Fun K "_law_book" "_law_book" s__law_book f fd) (z_range : mg "range" = none) {f__law_pick : Addr} {fd__law_pick : FuncData} (G__law_pick : FnOk P w K mg base CX0 2 f__law_pick fd__law_pick ["_law_pool_here", "_law_row"] (spM K cm m__law_pick)) (g__law_pick : mg "_law_pick" = some (.ref f__law_pick)) (k__law_pick : PySem.W.keepIn K (.ref f__law_pick) = true) (b__law_pick : Binds K fd__law_pick ["_law_pool_here", "_law_row"] []) {f__law_draw : Addr} {fd__law_draw : FuncData} (G__law_draw : FnOk P w K mg base CX0 1 f__law_draw fd__law_draw ["_law_pool_here", "_law_many"] (spM K cm m__law_draw)) (g__law_draw : mg "_law_draw" = some (.ref f__law_draw)) (k__law_draw : PySem.W.keepIn K (.ref f__law_draw) = true) (b__law_draw : Binds K fd__law_draw ["_law_pool_here", "_law_many"] []) :
    FnOk P w K mg base CX0 3 f fd ["_law_pool_here", "_law_parts_here", "_law_many"] (spM K cm m__law_book) :=
  efn F sc__law_book fun cdv A outer s H E hr => (rss_cons (rs_asg (vs := [3]) (re_lst ra_nil) (rg_name 3 sc__law_book.nd))
    (rss_cons (rs_for (vs := [4]) PassesOwn.never rfl (ri_rng1 z_range (re_var 2)) (rg_name 4 sc__law_book.nd) (rss_cons (rs_par3 5 6 7 sc__law_book.nd (ra_cons (re_call G__law_pick (hr.mono (by decide)) g__law_pick k__law_pick b__law_pick (ra_cons (re_var 0) (ra_cons (re_var 1) ra_nil))) (ra_cons (re_call G__law_pick (hr.mono (by decide)) g__law_pick k__law_pick b__law_pick (ra_cons (re_var 0) (ra_cons (re_var 1) ra_nil))) (ra_cons (re_call G__law_draw (hr.mono (by decide)) g__law_draw k__law_draw b__law_draw (ra_cons (re_var 0) (ra_cons (re_int) ra_nil))) ra_nil))))
    (rss_cons (rs_asg (vs := [8]) (re_tup (ra_cons (re_var 5) (ra_cons (re_var 6) (ra_cons (re_var 7) (ra_cons (re_call G__law_pick (hr.mono (by decide)) g__law_pick k__law_pick b__law_pick (ra_cons (re_var 0) (ra_cons (re_lst (ra_cons (re_non) (ra_cons (re_non) (ra_cons (re_var 7) (ra_cons (re_op oAdd wAdd (re_var 7) (re_int)) (ra_cons (re_int) ra_nil)))))) ra_nil))) ra_nil))))) (rg_name 8 sc__law_book.nd))
    (rss_one (rs_if (rw_t (rt_and (rt_cmp (op_neP (hu_of16 hr)) wEqP (re_var 5) (re_var 6)) (rt_and1 (rt_cmp (op_notInP (hu_of16 hr)) wInP (re_var 8) (re_var 3))))) (rss_one (rs_expr (re_append (re_var 3) (re_var 8)))) rss_nil)))))
    (rss_one (rs_ret (re_var 3)))))
abbrev s_is_integer : Stmt := topS 10
theorem sc_is_integer : FnScope ["value", "lowest", "highest"] ["value", "lowest", "highest"] (defScope s_is_integer) := ⟨rfl, rfl, rfl, by decide +kernel, rfl, by decide +kernel, by decide +kernel⟩
def m_is_integer : List W → M W := mFn 3 3 (sRet ((mAnd (mIsi "int" (mVar 0)) (mAnd (mNot (mIsi "bool" (mVar 0))) (mCh fLe fLe (mVar 1) (mVar 0) (mVar 2))))))
theorem ok_is_integer {P : Program} {w : World} {K : PySem.W.Frag} {mg : Str → Option Value} {base : Heap} {cm : Cm} {f : Addr} {fd : FuncData} (F : Fun K "is_integer" "is_integer" s_is_integer f fd) (z_isinstance : mg "isinstance" = none) (z_bool : mg "bool" = none) (z_int : mg "int" = none) :
    FnOk P w K mg base CX0 1 f fd ["value", "lowest", "highest"] (spM K cm m_is_integer) :=
  efn F sc_is_integer fun cdv A outer s H E hr => (rss_one (rs_ret ((re_and (re_isi (T := "int") z_isinstance z_int (re_var 0)) (re_and (re_not (re_isi (T := "bool") z_isinstance z_bool (re_var 0))) (re_one (re_ch oLe wCmp oLe wCmp (re_var 1) (re_var 0) (re_var 2))))))))
abbrev s_is_date : Stmt := topS 12
theorem sc_is_date : FnScope ["value"] ["value"] (defScope s_is_date) := ⟨rfl, rfl, rfl, by decide +kernel, rfl, by decide +kernel, by decide +kernel⟩
def m_is_date : List W → M W := mFn 1 1 (sRet (mCall m_is_integer (aCons (mVar 0) (aCons (mC (.int 0)) (aCons (mC (.int 9999)) aNil)))))
theorem ok_is_date {P : Program} {w : World} {K : PySem.W.Frag} {mg : Str → Option Value} {base : Heap} {cm : Cm} {f : Addr} {fd : FuncData} (F : Fun K "is_date" "is_date" s_is_date f fd) {f_is_integer : Addr} {fd_is_integer : FuncData} (G_is_integer : FnOk P w K mg base CX0 1 f_is_integer fd_is_integer ["value", "lowest", "highest"] (spM K cm m_is_integer)) (g_is_integer : mg "is_integer" = some (.ref f_is_integer)) (k_is_integer : PySem.W.keepIn K (.ref f_is_integer) = true) (b_is_integer : Binds K fd_is_integer ["value", "lowest", "highest"] []) {t_LAST_DATE : Tok} (c_LAST_DATE : mg "LAST_DATE" = some (.int 9999 t_LAST_DATE)) :
    FnOk P w K mg base CX0 2 f fd ["value"] (spM K cm m_is_date) :=
  efn F sc_is_date fun cdv A outer s H E hr => (rss_one (rs_ret (re_call G_is_integer (hr.mono (by decide)) g_is_integer k_is_integer b_is_integer (ra_cons (re_var 0) (ra_cons (re_int) (ra_cons (re_gint c_LAST_DATE) ra_nil))))))
abbrev s_is_word : Stmt := topS 11
theorem sc_is_word : FnScope ["value", "letter"] ["value"] (defScope s_is_word) := ⟨rfl, rfl, rfl, by decide +kernel, rfl, by decide +kernel, by decide +kernel⟩
def m_is_word : List W → M W := mFn 1 2 (sSeq (sIf ((tOr (tNot (tTru (mIsi "str" (mVar 0)))) (tNot (tVal (mCh fLe fLe (mC (.int 1)) (mCall bLen (aCons (mVar 0) aNil)) (mC (.int 8))))))) (sRet (mC (.bl false))) sNil)
    (sRet (mCall bAll (aCons (mLc (iAny (mVar 0)) (gNm 1) tYs (mBin (fIn false) (mVar 1) (mC (.str "abcdefghijklmnopqrstuvwxyz"))) [1]) aNil))))
theorem ok_is_word {P : Program} {w : World} {K : PySem.W.Frag} {mg : Str → Option Value} {base : Heap} {cm : Cm} {f : Addr} {fd : FuncData} (F : Fun K "is_word" "is_word" s_is_word f fd) (z_len : mg "len" = none) {t_LONGEST_WORD : Tok} (c_LONGEST_WORD : mg "LONGEST_WORD" = some (.int 8 t_LONGEST_WORD)) (z_isinstance : mg "isinstance" = none) (z_str : mg "str" = none) (z_all : mg "all" = none) {t_LETTERS : Tok} (c_LETTERS : mg "LETTERS" = some (.str "abcdefghijklmnopqrstuvwxyz" t_LETTERS)) :
    FnOk P w K mg base CX0 1 f fd ["value"] (spM K cm m_is_word) :=
  efn F sc_is_word fun cdv A outer s H E hr => (rss_cons (rs_if (rw_t (rt_or (rt_not (rt_tru (re_isi (T := "str") z_isinstance z_str (re_var 0)))) (rt_or1 (rt_not (rt_ch oLe wCmp oLe wCmp (re_int) (re_callB oLen wLen z_len (ra_cons (re_var 0) ra_nil)) (re_gint c_LONGEST_WORD)))))) (rss_one (rs_ret (re_bl))) rss_nil)
    (rss_one (rs_ret (re_callB (cr_all rfl) wAll z_all (ra_cons (re_lc [("letter", 1)] rfl sc_is_word.nd (ri_any (re_var 0)) (N0 := ["value", "letter"]) (sc0 := defScope s_is_word) (by decide +kernel) (fun _ _ _ _ _ => (rg_name 1 sc_is_word.nd)) (fun _ _ _ _ _ => (re_cmp (oIn (hu65 hr)) wIn (re_var 1) (re_gstr c_LETTERS)))) ra_nil)))))
abbrev s_is_allowance : Stmt := topS 16
theorem sc_is_allowance : FnScope ["value", "part", "plain", "since", "till"] ["value"] (defScope s_is_allowance) := ⟨rfl, rfl, rfl, by decide +kernel, rfl, by decide +kernel, by decide +kernel⟩
def m_is_allowance : List W → M W := mFn 1 5 (sSeq (sIf ((tOr (tNot (tTru (mIsi "tuple" (mVar 0)))) (tVal (mBin (fEqP true) (mCall bLen (aCons (mVar 0) aNil)) (mC (.int 4)))))) (sRet (mC (.bl false))) sNil)
    (sSeq (sAsg (gTu 4 (gsCons (gNm 1) (gsCons (gNm 2) (gsCons (gNm 3) (gsCons (gNm 4) gsNil))))) (mVar 0))
    (sSeq (sIf ((tOr (tNot (tTru (mCall m_is_word (aCons (mVar 1) aNil)))) (tOr (tNot (tTru (mCall m_is_word (aCons (mVar 2) aNil)))) (tOr (tVal (mBin (fEqP false) (mVar 1) (mVar 2))) (tNot (tTru (mCall m_is_date (aCons (mVar 3) aNil)))))))) (sRet (mC (.bl false))) sNil)
    (sRet ((mOr (mBin (fIs false) (mVar 4) (mC .non)) ((mAnd (mCall m_is_date (aCons (mVar 4) aNil)) (mBin fLe (mVar 3) (mVar 4))))))))))
theorem ok_is_allowance {P : Program} {w : World} {K : PySem.W.Frag} {mg : Str → Option Value} {base : Heap} {cm : Cm} {f : Addr} {fd : FuncData} (F : Fun K "is_allowance" "is_allowance" s_is_allowance f fd) (z_len : mg "len" = none) (z_isinstance : mg "isinstance" = none) (z_tuple : mg "tuple" = none) {f_is_date : Addr} {fd_is_date : FuncData} (G_is_date : FnOk P w K mg base CX0 2 f_is_date fd_is_date ["value"] (spM K cm m_is_date)) (g_is_date : mg "is_date" = some (.ref f_is_date)) (k_is_date : PySem.W.keepIn K (.ref f_is_date) = true) (b_is_date : Binds K fd_is_date ["value"] []) {f_is_word : Addr} {fd_is_word : FuncData} (G_is_word : FnOk P w K mg base CX0 1 f_is_word fd_is_word ["value"] (spM K cm m_is_word)) (g_is_word : mg "is_word" = some (.ref f_is_word)) (k_is_word : PySem.W.keepIn K (.ref f_is_word) = true) (b_is_word : Binds K fd_is_word ["value"] []) :
    FnOk P w K mg base CX0 3 f fd ["value"] (spM K cm m_is_allowance) :=
  efn F sc_is_allowance fun cdv A outer s H E hr => (rss_cons (rs_if (rw_t (rt_or (rt_not (rt_tru (re_isi (T := "tuple") z_isinstance z_tuple (re_var 0)))) (rt_or1 (rt_cmp (op_neP (hu_of16 hr)) wEqP (re_callB oLen wLen z_len (ra_cons (re_var 0) ra_nil)) (re_int))))) (rss_one (rs_ret (re_bl))) rss_nil)
    (rss_cons (rs_asg (vs := [1, 2, 3, 4]) (re_var 0) (rg_tup rfl (rgs_cons (rg_name 1 sc_is_allowance.nd) (rgs_cons (rg_name 2 sc_is_allowance.nd) (rgs_cons (rg_name 3 sc_is_allowance.nd) (rgs_cons (rg_name 4 sc_is_allowance.nd) rgs_nil))))))
    (rss_cons (rs_if (rw_t (rt_or (rt_not (rt_tru (re_call G_is_word (hr.mono (by decide)) g_is_word k_is_word b_is_word (ra_cons (re_var 1) ra_nil)))) (rt_or (rt_not (rt_tru (re_call G_is_word (hr.mono (by decide)) g_is_word k_is_word b_is_word (ra_cons (re_var 2) ra_nil)))) (rt_or (rt_cmp (op_eqP (hu_of16 hr)) wEqP (re_var 1) (re_var 2)) (rt_or1 (rt_not (rt_tru (re_call G_is_date (hr.mono (by decide)) g_is_date k_is_date b_is_date (ra_cons (re_var 3) ra_nil))))))))) (rss_one (rs_ret (re_bl))) rss_nil)
    (rss_one (rs_ret ((re_or (re_cmp oIs wIs (re_var 4) (re_non)) (re_one ((re_and (re_call G_is_date (hr.mono (by decide)) g_is_date k_is_date b_is_date (ra_cons (re_var 4) ra_nil)) (re_one (re_cmp oLe wCmp (re_var 3) (re_var 4)))))))))))))
abbrev s_check_allowances : Stmt := topS 17
theorem sc_check_allowances : FnScope ["rows", "seen", "index", "row"] ["rows"] (defScope s_check_allowances) := ⟨rfl, rfl, rfl, by decide +kernel, rfl, by decide +kernel, by decide +kernel⟩
def m_check_allowances : List W → M W := mFn 1 4 (sSeq (sIf (tNot (tTru (mIsi2 "list" "tuple" (mVar 0)))) (fun _ => bad) sNil)
    (sSeq (sAsg (gNm 1) (bSetN0))
    (sSeq (sForI (iEnu (mVar 0)) (gTu 2 (gsCons (gNm 2) (gsCons (gNm 3) gsNil))) (sSeq (sIf ((tOr (tNot (tTru (mCall m_is_allowance (aCons (mVar 3) aNil)))) (tVal (mBin (fInSN false) (mVar 3) (mVar 1))))) (fun _ => bad) sNil)
    (sExp (mSAddN (mVar 1) (mVar 3)))))
    (sIf (tVal (mBin fGt (mCall bLen (aCons (mVar 0) aNil)) (mC (.int 12)))) (fun _ => bad) sNil))))
theorem ok_check_allowances {P : Program} {w : World} {K : PySem.W.Frag} {mg : Str → Option Value} {base : Heap} {cm : Cm} {f : Addr} {fd : FuncData} (F : Fun K "check_allowances" "check_allowances" s_check_allowances f fd) (z_isinstance : mg "isinstance" = none) (z_list : mg "list" = none) (z_tuple : mg "tuple" = none) (z_set : mg "set" = none) (eP : cm.P = P) (eW : cm.w = w) (z_enumerate : mg "enumerate" = none) {f_is_allowance : Addr} {fd_is_allowance : FuncData} (G_is_allowance : FnOk P w K mg base CX0 3 f_is_allowance fd_is_allowance ["value"] (spM K cm m_is_allowance)) (g_is_allowance : mg "is_allowance" = some (.ref f_is_allowance)) (k_is_allowance : PySem.W.keepIn K (.ref f_is_allowance) = true) (b_is_allowance : Binds K fd_is_allowance ["value"] []) (z_len : mg "len" = none) {t_MOST_ALLOWANCES : Tok} (c_MOST_ALLOWANCES : mg "MOST_ALLOWANCES" = some (.int 12 t_MOST_ALLOWANCES)) :
    FnOk P w K mg base CX0 4 f fd ["rows"] (spM K cm m_check_allowances) :=
  efn F sc_check_allowances fun cdv A outer s H E hr => (rss_cons (rs_if (rt_not (rt_tru (re_isi2 (S := "list") (T := "tuple") z_isinstance z_list z_tuple (re_var 0)))) (rss_one (rs_bad)) rss_nil)
    (rss_cons (rs_asg (vs := [1]) (re_setN0 eP eW z_set) (rg_name 1 sc_check_allowances.nd))
    (rss_cons (rs_for (vs := [2, 3]) PassesOwn.never rfl (ri_enum z_enumerate (re_var 0)) (rg_tup rfl (rgs_cons (rg_name 2 sc_check_allowances.nd) (rgs_cons (rg_name 3 sc_check_allowances.nd) rgs_nil))) (rss_cons (rs_if (rw_t (rt_or (rt_not (rt_tru (re_call G_is_allowance (hr.mono (by decide)) g_is_allowance k_is_allowance b_is_allowance (ra_cons (re_var 3) ra_nil)))) (rt_or1 (rt_cmp (or_sinN (hu_of16 hr)) (wInSN eP eW false) (re_var 3) (re_var 1))))) (rss_one (rs_bad)) rss_nil)
    (rss_one (rs_expr (re_saddN eP eW (hu_of16 hr) (re_var 1) (re_var 3))))))
    (rss_one (rs_if (rt_cmp oGt wCmp (re_callB oLen wLen z_len (ra_cons (re_var 0) ra_nil)) (re_gint c_MOST_ALLOWANCES)) (rss_one (rs_bad)) rss_nil)))))
abbrev s_ordered : Stmt := topS 18
theorem sc_ordered : FnScope ["rows", "keys", "ends", "part", "plain", "since", "till", "end"] ["rows"] (defScope s_ordered) := ⟨rfl, rfl, rfl, by decide +kernel, rfl, by decide +kernel, by decide +kernel⟩
def m_ordered : List W → M W := mFn 1 8 (sSeq (sAsg (gNm 1) (mLc (iAny (mVar 0)) (gTu 4 (gsCons (gNm 3) (gsCons (gNm 4) (gsCons (gNm 5) (gsCons (gNm 6) gsNil))))) tYs (mTup (aCons (mVar 3) (aCons (mVar 4) (aCons (mVar 5) (aCons (mIf (tVal (mBin (fIs false) (mVar 6) (mC .non))) (mC (.int 10000)) (mVar 6)) aNil))))) [3, 4, 5, 6]))
    (sSeq (sAsg (gNm 2) (mCall bSortSetN (aCons (mVar 1) aNil)))
    (sRet (mCall bTup1 (aCons (mLc (iAny (mVar 2)) (gTu 4 (gsCons (gNm 3) (gsCons (gNm 4) (gsCons (gNm 5) (gsCons (gNm 7) gsNil))))) tYs (mTup (aCons (mVar 3) (aCons (mVar 4) (aCons (mVar 5) (aCons (mIf (tVal (mBin (fEqP false) (mVar 7) (mC (.int 10000)))) (mC .non) (mVar 7)) aNil))))) [3, 4, 5, 7]) aNil)))))
theorem ok_ordered {P : Program} {w : World} {K : PySem.W.Frag} {mg : Str → Option Value} {base : Heap} {cm : Cm} {f : Addr} {fd : FuncData} (F : Fun K "ordered" "ordered" s_ordered f fd) {t_NO_END : Tok} (c_NO_END : mg "NO_END" = some (.int 10000 t_NO_END)) (z_sorted : mg "sorted" = none) (z_set : mg "set" = none) (eP : cm.P = P) (eW : cm.w = w) (z_tuple : mg "tuple" = none) :
    FnOk P w K mg base CX0 1 f fd ["rows"] (spM K cm m_ordered) :=
  efn F sc_ordered fun cdv A outer s H E hr => (rss_cons (rs_setLc [("part", 3), ("plain", 4), ("since", 5), ("till", 6)] rfl sc_ordered.nd (ri_any (re_var 0)) (N0 := ["rows", "keys", "ends", "part", "plain", "since", "till", "end"]) (sc0 := defScope s_ordered) (by decide +kernel) (fun _ _ _ _ _ => (rg_tup rfl (rgs_cons (rg_name 3 sc_ordered.nd) (rgs_cons (rg_name 4 sc_ordered.nd) (rgs_cons (rg_name 5 sc_ordered.nd) (rgs_cons (rg_name 6 sc_ordered.nd) rgs_nil)))))) (fun _ _ _ _ _ => (re_tup (ra_cons (re_var 3) (ra_cons (re_var 4) (ra_cons (re_var 5) (ra_cons (re_if (rt_cmp oIs wIs (re_var 6) (re_non)) (re_gint c_NO_END) (re_var 6)) ra_nil)))))))
    (rss_cons (rs_asg (vs := [2]) (re_sortSetN rfl eP eW (hu_of64 hr) z_sorted z_set (re_var 1)) (rg_name 2 sc_ordered.nd))
    (rss_one (rs_ret (re_callTy call_tuple_of wTup1 z_tuple (ra_cons (re_lc [("part", 3), ("plain", 4), ("since", 5), ("end", 7)] rfl sc_ordered.nd (ri_any (re_var 2)) (N0 := ["rows", "keys", "ends", "part", "plain", "since", "till", "end"]) (sc0 := defScope s_ordered) (by decide +kernel) (fun _ _ _ _ _ => (rg_tup rfl (rgs_cons (rg_name 3 sc_ordered.nd) (rgs_cons (rg_name 4 sc_ordered.nd) (rgs_cons (rg_name 5 sc_ordered.nd) (rgs_cons (rg_name 7 sc_ordered.nd) rgs_nil)))))) (fun _ _ _ _ _ => (re_tup (ra_cons (re_var 3) (ra_cons (re_var 4) (ra_cons (re_var 5) (ra_cons (re_if (rt_cmp (op_eqP (hu_of16 hr)) wEqP (re_var 7) (re_gint c_NO_END)) (re_non) (re_var 7)) ra_nil))))))) ra_nil))))))
abbrev s_Allowances___init__ : Stmt := inCls (topS 20) 0
theorem sc_Allowances___init__ : FnScope ["self", "rows", "through"] ["self", "rows", "through"] (defScope s_Allowances___init__) := ⟨rfl, rfl, rfl, by decide +kernel, rfl, by decide +kernel, by decide +kernel⟩
def m_Allowances___init__ : List W → M W := mFn 3 3 (sSeq (sExp (mCall m_check_allowances (aCons (mVar 1) aNil)))
    (sSeq (sFldS "Allowances" "_rows" (mVar 0) (mCall m_ordered (aCons (mVar 1) aNil)))
    (sFldS "Allowances" "_through" (mVar 0) (mVar 2))))
theorem ok_Allowances___init__ {P : Program} {w : World} {K : PySem.W.Frag} {mg : Str → Option Value} {base : Heap} {cm : Cm} {f : Addr} {fd : FuncData} {dvs_ : List V} {kws_ : List (Str × V)} (F : FunD K "__init__" "Allowances.__init__" (defArgs s_Allowances___init__) (defBody s_Allowances___init__) (defScope s_Allowances___init__) dvs_ kws_ f fd) {f_check_allowances : Addr} {fd_check_allowances : FuncData} (G_check_allowances : FnOk P w K mg base CX0 4 f_check_allowances fd_check_allowances ["rows"] (spM K cm m_check_allowances)) (g_check_allowances : mg "check_allowances" = some (.ref f_check_allowances)) (k_check_allowances : PySem.W.keepIn K (.ref f_check_allowances) = true) (b_check_allowances : Binds K fd_check_allowances ["rows"] []) (a_Allowances__rows : NoAttr K (cm "Allowances") "_rows") {f_ordered : Addr} {fd_ordered : FuncData} (G_ordered : FnOk P w K mg base CX0 1 f_ordered fd_ordered ["rows"] (spM K cm m_ordered)) (g_ordered : mg "ordered" = some (.ref f_ordered)) (k_ordered : PySem.W.keepIn K (.ref f_ordered) = true) (b_ordered : Binds K fd_ordered ["rows"] []) (k_Allowances : ClsK K mg "Allowances" (cm "Allowances")) (a_Allowances__through : NoAttr K (cm "Allowances") "_through") :
    FnOk P w K mg base CX0 5 f fd ["self", "rows", "through"] (spM K cm m_Allowances___init__) :=
  efnD F sc_Allowances___init__ fun cdv A outer s H E hr => (rss_cons (rs_expr (re_call G_check_allowances (hr.mono (by decide)) g_check_allowances k_check_allowances b_check_allowances (ra_cons (re_var 1) ra_nil)))
    (rss_cons (rs_fld (C := "Allowances") k_Allowances.cl a_Allowances__rows (re_var 0) (re_call G_ordered (hr.mono (by decide)) g_ordered k_ordered b_ordered (ra_cons (re_var 1) ra_nil)))
    (rss_one (rs_fld (C := "Allowances") k_Allowances.cl a_Allowances__through (re_var 0) (re_var 2)))))
abbrev s__law_key : Stmt := topS 31
theorem sc__law_key : FnScope ["_law_row", "_law_till"] ["_law_row"] (defScope s__law_key) := ⟨rfl, rfl, rfl, by decide +kernel, rfl, by decide +kernel, by decide +kernel⟩
def m__law_key : List W → M W := mFn 1 2 (sSeq (sAsg (gNm 1) (mIf (tVal (mBin (fIs false) (mBin fIx (mVar 0) (mC (.int 3))) (mC .non))) (mC (.int 10000)) (mBin fIx (mVar 0) (mC (.int 3)))))
    (sRet (mLst (aCons (mBin fIx (mVar 0) (mC (.int 0))) (aCons (mBin fIx (mVar 0) (mC (.int 1))) (aCons (mBin fAdd (mC (.int 100000)) (mBin fIx (mVar 0) (mC (.int 2)))) (aCons (mBin fAdd (mC (.int 100000)) (mVar 1)) aNil)))))))
theorem ok__law_key {P : Program} {w : World} {K : PySem.W.Frag} {mg : Str → Option Value} {base : Heap} {cm : Cm} {f : Addr} {fd : FuncData} (F : Fun K "_law_key" "_law_key" s__law_key f fd) :
    FnOk P w K mg base CX0 1 f fd ["_law_row"] (spM K cm m__law_key) :=
  efn F sc__law_key fun cdv A outer s H E hr => (rss_cons (rs_asg (vs := [1]) (re_if (rt_cmp oIs wIs (re_ix (re_var 0) (re_int)) (re_non)) (re_int) (re_ix (re_var 0) (re_int))) (rg_name 1 sc__law_key.nd))
    (rss_one (rs_ret (re_lst (ra_cons (re_ix (re_var 0) (re_int)) (ra_cons (re_ix (re_var 0) (re_int)) (ra_cons (re_op oAdd wAdd (re_int) (re_ix (re_var 0) (re_int))) (ra_cons (re_op oAdd wAdd (re_int) (re_var 1)) ra_nil))))))))
abbrev s_Allowances___eq__ : Stmt := inCls (topS 20) 9
theorem sc_Allowances___eq__ : FnScope ["self", "other"] ["self", "other"] (defScope s_Allowances___eq__) := ⟨rfl, rfl, rfl, by decide +kernel, rfl, by decide +kernel, by decide +kernel⟩
def m_Allowances___eq__ : List W → M W := mFn 2 2 (sSeq (sIf (tNot (tTru (mIsiC [("Allowances", true)] allTys (mVar 1)))) (sRet (mC (.bl false))) sNil)
    (sRet ((mAnd (mBin (fEqP false) (mFld "Allowances" "_rows" (mVar 0)) (mFld "Allowances" "_rows" (mVar 1))) (mBin (fEqP false) (mFld "Allowances" "_through" (mVar 0)) (mFld "Allowances" "_through" (mVar 1)))))))
theorem ok_Allowances___eq__ {P : Program} {w : World} {K : PySem.W.Frag} {mg : Str → Option Value} {base : Heap} {cm : Cm} {f : Addr} {fd : FuncData} (F : Fun K "__eq__" "Allowances.__eq__" s_Allowances___eq__ f fd) (z_isinstance : mg "isinstance" = none) (k_Allowances : ClsK K mg "Allowances" (cm "Allowances")) (a_Allowances__through : NoAttr K (cm "Allowances") "_through") (a_Allowances__rows : NoAttr K (cm "Allowances") "_rows") :
    FnOk P w K mg base CX0 1 f fd ["self", "other"] (spM K cm m_Allowances___eq__) :=
  efn F sc_Allowances___eq__ fun cdv A outer s H E hr => (rss_cons (rs_if (rt_not (rt_tru (re_isiC (C := "Allowances") z_isinstance k_Allowances.gl (isi_tab k_Allowances) k_Allowances.tys (re_var 1)))) (rss_one (rs_ret (re_bl))) rss_nil)
    (rss_one (rs_ret ((re_and (re_cmp (op_eqP (hu_of16 hr)) wEqP (re_fld (C := "Allowances") k_Allowances.cl a_Allowances__rows (re_var 0)) (re_fld (C := "Allowances") k_Allowances.cl a_Allowances__rows (re_var 1))) (re_one (re_cmp (op_eqP (hu_of16 hr)) wEqP (re_fld (C := "Allowances") k_Allowances.cl a_Allowances__through (re_var 0)) (re_fld (C := "Allowances") k_Allowances.cl a_Allowances__through (re_var 1)))))))))
abbrev s_Allowances___len__ : Stmt := inCls (topS 20) 5
theorem sc_Allowances___len__ : FnScope ["self"] ["self"] (defScope s_Allowances___len__) := ⟨rfl, rfl, rfl, by decide +kernel, rfl, by decide +kernel, by decide +kernel⟩
def m_Allowances___len__ : List W → M W := mFn 1 1 (sRet (mCall bLen (aCons (mFld "Allowances" "_rows" (mVar 0)) aNil)))
theorem ok_Allowances___len__ {P : Program} {w : World} {K : PySem.W.Frag} {mg : Str → Option Value} {base : Heap} {cm : Cm} {f : Addr} {fd : FuncData} (F : Fun K "__len__" "Allowances.__len__" s_Allowances___len__ f fd) (z_len : mg "len" = none) (k_Allowances : ClsK K mg "Allowances" (cm "Allowances")) (a_Allowances__rows : NoAttr K (cm "Allowances") "_rows") :
    FnOk P w K mg base CX0 1 f fd ["self"] (spM K cm m_Allowances___len__) :=
  efn F sc_Allowances___len__ fun cdv A outer s H E hr => (rss_one (rs_ret (re_callB oLen wLen z_len (ra_cons (re_fld (C := "Allowances") k_Allowances.cl a_Allowances__rows (re_var 0)) ra_nil))))
abbrev s_Allowances_rows : Stmt := inCls (topS 20) 2
theorem sc_Allowances_rows : FnScope ["self"] ["self"] (defScope s_Allowances_rows) := ⟨rfl, rfl, rfl, by decide +kernel, rfl, by decide +kernel, by decide +kernel⟩
def m_Allowances_rows : List W → M W := mFn 1 1 (sRet (mCall bList1 (aCons (mFld "Allowances" "_rows" (mVar 0)) aNil)))
theorem ok_Allowances_rows {P : Program} {w : World} {K : PySem.W.Frag} {mg : Str → Option Value} {base : Heap} {cm : Cm} {f : Addr} {fd : FuncData} (F : Fun K "rows" "Allowances.rows" s_Allowances_rows f fd) (z_list : mg "list" = none) (k_Allowances : ClsK K mg "Allowances" (cm "Allowances")) (a_Allowances__rows : NoAttr K (cm "Allowances") "_rows") :
    FnOk P w K mg base CX0 1 f fd ["self"] (spM K cm m_Allowances_rows) :=
  efn F sc_Allowances_rows fun cdv A outer s H E hr => (rss_one (rs_ret (re_callTy call_list_of wList1 z_list (ra_cons (re_fld (C := "Allowances") k_Allowances.cl a_Allowances__rows (re_var 0)) ra_nil))))
abbrev s_Allowances___contains__ : Stmt := inCls (topS 20) 6
theorem sc_Allowances___contains__ : FnScope ["self", "x"] ["self", "x"] (defScope s_Allowances___contains__) := ⟨rfl, rfl, rfl, by decide +kernel, rfl, by decide +kernel, by decide +kernel⟩
def m_Allowances___contains__ : List W → M W := mFn 2 2 (sRet ((mAnd (mCall m_is_allowance (aCons (mVar 1) aNil)) (mBin (fInP false) (mVar 1) (mFld "Allowances" "_rows" (mVar 0))))))
theorem ok_Allowances___contains__ {P : Program} {w : World} {K : PySem.W.Frag} {mg : Str → Option Value} {base : Heap} {cm : Cm} {f : Addr} {fd : FuncData} (F : Fun K "__contains__" "Allowances.__contains__" s_Allowances___contains__ f fd) (k_Allowances : ClsK K mg "Allowances" (cm "Allowances")) (a_Allowances__rows : NoAttr K (cm "Allowances") "_rows") {f_is_allowance : Addr} {fd_is_allowance : FuncData} (G_is_allowance : FnOk P w K mg base CX0 3 f_is_allowance fd_is_allowance ["value"] (spM K cm m_is_allowance)) (g_is_allowance : mg "is_allowance" = some (.ref f_is_allowance)) (k_is_allowance : PySem.W.keepIn K (.ref f_is_allowance) = true) (b_is_allowance : Binds K fd_is_allowance ["value"] []) :
    FnOk P w K mg base CX0 4 f fd ["self", "x"] (spM K cm m_Allowances___contains__) :=
  efn F sc_Allowances___contains__ fun cdv A outer s H E hr => (rss_one (rs_ret ((re_and (re_call G_is_allowance (hr.mono (by decide)) g_is_allowance k_is_allowance b_is_allowance (ra_cons (re_var 1) ra_nil)) (re_one (re_cmp (op_inP (hu_of16 hr)) wInP (re_var 1) (re_fld (C := "Allowances") k_Allowances.cl a_Allowances__rows (re_var 0))))))))
abbrev s_Allowances___or__ : Stmt := inCls (topS 20) 8
theorem sc_Allowances___or__ : FnScope ["self", "other", "new", "row"] ["self", "other"] (defScope s_Allowances___or__) := ⟨rfl, rfl, rfl, by decide +kernel, rfl, by decide +kernel, by decide +kernel⟩
def m_Allowances___or__ : List W → M W := mFn 2 4 (sSeq (sIf (tNot (tTru (mIsiC [("Allowances", true)] allTys (mVar 1)))) (fun _ => bad) sNil)
    (sSeq (sAsg (gNm 2) (mLc (iAny (mFld "Allowances" "_rows" (mVar 1))) (gNm 3) (tVal (mBin (fInP true) (mVar 3) (mFld "Allowances" "_rows" (mVar 0)))) (mVar 3) [3]))
    (sRet (mMakeK "Allowances" m_Allowances___init__ 1 1 (fun xs zs => xs ++ zs) (aCons (mLst (aStar (mFld "Allowances" "_rows" (mVar 0)) (aStar (mVar 2) aNil))) aNil) (aCons ((mOr (mFld "Allowances" "_through" (mVar 0)) (mFld "Allowances" "_through" (mVar 1)))) aNil)))))
theorem ok_Allowances___or__ {P : Program} {w : World} {K : PySem.W.Frag} {mg : Str → Option Value} {base : Heap} {cm : Cm} {f : Addr} {fd : FuncData} (F : Fun K "__or__" "Allowances.__or__" s_Allowances___or__ f fd) (z_isinstance : mg "isinstance" = none) (k_Allowances : ClsK K mg "Allowances" (cm "Allowances")) (a_Allowances__rows : NoAttr K (cm "Allowances") "_rows") {f_Allowances___init__ : Addr} {fd_Allowances___init__ : FuncData} (G_Allowances___init__ : FnOk P w K mg base CX0 5 f_Allowances___init__ fd_Allowances___init__ ["self", "rows", "through"] (spM K cm m_Allowances___init__)) (mk_Allowances : L2.Mk K (cm "Allowances") f_Allowances___init__) {gg_Allowances___init___1_through : List Value → List Value → List Value} {gv_Allowances___init___1_through : List V → List V → List V} (kb_Allowances___init___1_through : KBn K fd_Allowances___init__ ["self", "rows", "through"] 2 ["through"] gg_Allowances___init___1_through gv_Allowances___init___1_through) (gr_Allowances___init___1_through : GRel K 1 1 (fun xs zs => xs ++ zs) gv_Allowances___init___1_through) (a_Allowances__through : NoAttr K (cm "Allowances") "_through") :
    FnOk P w K mg base CX0 7 f fd ["self", "other"] (spM K cm m_Allowances___or__) :=
  efn F sc_Allowances___or__ fun cdv A outer s H E hr => (rss_cons (rs_if (rt_not (rt_tru (re_isiC (C := "Allowances") z_isinstance k_Allowances.gl (isi_tab k_Allowances) k_Allowances.tys (re_var 1)))) (rss_one (rs_bad)) rss_nil)
    (rss_cons (rs_setLc1 [("row", 3)] rfl sc_Allowances___or__.nd (ri_any (re_fld (C := "Allowances") k_Allowances.cl a_Allowances__rows (re_var 1))) (N0 := ["self", "other", "new", "row"]) (sc0 := defScope s_Allowances___or__) (by decide +kernel) (fun _ _ _ _ _ => (rg_name 3 sc_Allowances___or__.nd)) (fun _ _ _ _ _ => (rt_cmp (op_notInP (hu_of16 hr)) wInP (re_var 3) (re_fld (C := "Allowances") k_Allowances.cl a_Allowances__rows (re_var 0)))) (fun _ _ _ _ _ => (re_var 3)))
    (rss_one (rs_ret (re_mkK mk_Allowances G_Allowances___init__ (hr.mono (by decide)) k_Allowances.gl kb_Allowances___init___1_through gr_Allowances___init___1_through (ra_cons (re_lst (ra_star (re_fld (C := "Allowances") k_Allowances.cl a_Allowances__rows (re_var 0)) (ra_star (re_var 2) ra_nil))) ra_nil) (rk_cons ((re_or (re_fld (C := "Allowances") k_Allowances.cl a_Allowances__through (re_var 0)) (re_one (re_fld (C := "Allowances") k_Allowances.cl a_Allowances__through (re_var 1))))) rk_nil))))))
abbrev s_Allowances_through : Stmt := inCls (topS 20) 1
theorem sc_Allowances_through : FnScope ["self"] ["self"] (defScope s_Allowances_through) := ⟨rfl, rfl, rfl, by decide +kernel, rfl, by decide +kernel, by decide +kernel⟩
def m_Allowances_through : List W → M W := mFn 1 1 (sRet (mFld "Allowances" "_through" (mVar 0)))
theorem ok_Allowances_through {P : Program} {w : World} {K : PySem.W.Frag} {mg : Str → Option Value} {base : Heap} {cm : Cm} {f : Addr} {fd : FuncData} (F : Fun K "through" "Allowances.through" s_Allowances_through f fd) (k_Allowances : ClsK K mg "Allowances" (cm "Allowances")) (a_Allowances__through : NoAttr K (cm "Allowances") "_through") :
    FnOk P w K mg base CX0 1 f fd ["self"] (spM K cm m_Allowances_through) :=
  efn F sc_Allowances_through fun cdv A outer s H E hr => (rss_one (rs_ret (re_fld (C := "Allowances") k_Allowances.cl a_Allowances__through (re_var 0))))
abbrev s_Allowances___add__ : Stmt := inCls (topS 20) 7
theorem sc_Allowances___add__ : FnScope ["self", "other"] ["self", "other"] (defScope s_Allowances___add__) := ⟨rfl, rfl, rfl, by decide +kernel, rfl, by decide +kernel, by decide +kernel⟩
def m_Allowances___add__ : List W → M W := mFn 2 2 (sRet (mMakeK "Allowances" m_Allowances___init__ 1 1 (fun xs zs => xs ++ zs) (aCons (mLst (aStar (mFld "Allowances" "_rows" (mVar 0)) (aCons (mVar 1) aNil))) aNil) (aCons (mFld "Allowances" "_through" (mVar 0)) aNil)))
theorem ok_Allowances___add__ {P : Program} {w : World} {K : PySem.W.Frag} {mg : Str → Option Value} {base : Heap} {cm : Cm} {f : Addr} {fd : FuncData} (F : Fun K "__add__" "Allowances.__add__" s_Allowances___add__ f fd) {f_Allowances___init__ : Addr} {fd_Allowances___init__ : FuncData} (G_Allowances___init__ : FnOk P w K mg base CX0 5 f_Allowances___init__ fd_Allowances___init__ ["self", "rows", "through"] (spM K cm m_Allowances___init__)) (k_Allowances : ClsK K mg "Allowances" (cm "Allowances")) (mk_Allowances : L2.Mk K (cm "Allowances") f_Allowances___init__) (a_Allowances__rows : NoAttr K (cm "Allowances") "_rows") {gg_Allowances___init___1_through : List Value → List Value → List Value} {gv_Allowances___init___1_through : List V → List V → List V} (kb_Allowances___init___1_through : KBn K fd_Allowances___init__ ["self", "rows", "through"] 2 ["through"] gg_Allowances___init___1_through gv_Allowances___init___1_through) (gr_Allowances___init___1_through : GRel K 1 1 (fun xs zs => xs ++ zs) gv_Allowances___init___1_through) (a_Allowances__through : NoAttr K (cm "Allowances") "_through") :
    FnOk P w K mg base CX0 7 f fd ["self", "other"] (spM K cm m_Allowances___add__) :=
  efn F sc_Allowances___add__ fun cdv A outer s H E hr => (rss_one (rs_ret (re_mkK mk_Allowances G_Allowances___init__ (hr.mono (by decide)) k_Allowances.gl kb_Allowances___init___1_through gr_Allowances___init___1_through (ra_cons (re_lst (ra_star (re_fld (C := "Allowances") k_Allowances.cl a_Allowances__rows (re_var 0)) (ra_cons (re_var 1) ra_nil))) ra_nil) (rk_cons (re_fld (C := "Allowances") k_Allowances.cl a_Allowances__through (re_var 0)) rk_nil))))
abbrev s_law : Stmt := topS 32
theorem sc_law : FnScope ["_law_script", "_law_k", "_law_pool_here", "_law_parts_here", "_law_one", "_law_two", "_law_book_here", "_law_other", "_law_due", "_law_row", "_law_odd", "_law_both", "_law_more", "_law_built"] ["_law_script"] (defScope s_law) := ⟨rfl, rfl, rfl, by decide +kernel, rfl, by decide +kernel, by decide +kernel⟩
def m_law : List W → M W := mFn 1 14 (sSeq (sForI (iRg1 (mCall bMax (aCons (mC (.int 1)) (aCons (mCall bMin (aCons (mCall bLen (aCons (mVar 0) aNil)) (aCons (mC (.int 3)) aNil))) aNil)))) (gNm 1) (sSeq (sAsg (gNm 2) (mCall m__law_pool (aCons (mVar 0) (aCons (mVar 1) aNil))))
    (sSeq (sAsg (gNm 3) (mCall m__law_parts (aCons (mVar 2) (aCons (mC (.int 4)) aNil))))
    (sSeq (sAsg (gTu 2 (gsCons (gNm 4) (gsCons (gNm 5) gsNil))) (mTup (aCons (mCall m__law_book (aCons (mVar 2) (aCons (mVar 3) (aCons (mC (.int 5)) aNil)))) (aCons (mCall m__law_book (aCons (mVar 2) (aCons (mVar 3) (aCons (mC (.int 5)) aNil)))) aNil))))
    (sSeq (sPar2 6 7 (aCons (mMake "Allowances" m_Allowances___init__ [(.bl false)] (aCons (mVar 4) aNil)) (aCons (mMakeK "Allowances" m_Allowances___init__ 1 1 (fun xs zs => xs ++ zs) (aCons (mCall bTup1 (aCons (mVar 5) aNil)) aNil) (aCons (mC (.bl true)) aNil)) aNil)))
    (sSeq (sAsg (gNm 8) (mSortK (mVar 4) (mCall bStrD (aCons (mCall m__law_key (aCons (mVar 0) aNil)) aNil)) 0))
    (sSeq (sIf ((tOr (tVal (mBin (fEqP true) (mMeth "Allowances" "rows" m_Allowances_rows [] (mVar 6) aNil) (mVar 8))) (tOr (tVal (mBin (fEqP true) (mCall (bLenO "Allowances" m_Allowances___len__) (aCons (mVar 6) aNil)) (mCall bLen (aCons (mVar 4) aNil)))) (tVal (mBin (fOwnNe "Allowances" allTys m_Allowances___eq__) (mMake "Allowances" m_Allowances___init__ [(.bl false)] (aCons (mRev (mVar 4) (mUn fNeg (mC (.int 1)))) aNil)) (mVar 6)))))) (sRet (mC (.bl false))) sNil)
    (sSeq (sForI (iAny (mBin fAdd (mVar 4) (mVar 5))) (gNm 9) (sIf (tVal (mBin (fEqP true) (mBin (fOwnIn false "Allowances" m_Allowances___contains__) (mVar 9) (mVar 6)) (mBin (fInP false) (mVar 9) (mVar 4)))) (sRet (mC (.bl false))) sNil))
    (sSeq (sForI (iAny (mLst (aCons (mC .non) (aCons (mC (.int 5)) (aCons (mC (.str "a")) (aCons (mTup aNil) (aCons (mIf (tVal (mBin (fEqP true) (mVar 4) (mLst aNil))) (mCall bList1 (aCons (mBin fIx (mVar 4) (mC (.int 0))) aNil)) (mLst aNil)) (aCons (mTup (aCons (mBin fIx (mVar 3) (mC (.int 0))) (aCons (mBin fIx (mVar 3) (mC (.int 0))) (aCons (mC (.int 0)) (aCons (mC .non) aNil))))) aNil)))))))) (gNm 10) (sIf (tVal (mBin (fOwnIn false "Allowances" m_Allowances___contains__) (mVar 10) (mVar 6))) (sRet (mC (.bl false))) sNil))
    (sSeq (sAsg (gNm 11) (mBin (fOwn "Allowances" [] m_Allowances___or__) (mVar 6) (mVar 7)))
    (sSeq (sIf (tVal (mBin (fEqP true) (mLst (aCons (mProp "Allowances" m_Allowances_through (mVar 11)) (aCons (mProp "Allowances" m_Allowances_through (mVar 6)) (aCons (mProp "Allowances" m_Allowances_through (mVar 7)) aNil)))) (mLst (aCons (mC (.bl true)) (aCons (mC (.bl false)) (aCons (mC (.bl true)) aNil)))))) (sRet (mC (.bl false))) sNil)
    (sSeq (sAsg (gNm 12) (mLc (iAny (mVar 5)) (gNm 9) (tVal (mBin (fInP true) (mVar 9) (mVar 4))) (mVar 9) [9]))
    (sSeq (sIf (tVal (mBin (fEqP true) (mMeth "Allowances" "rows" m_Allowances_rows [] (mVar 11) aNil) (mSortK (mBin fAdd (mVar 4) (mVar 12)) (mCall bStrD (aCons (mCall m__law_key (aCons (mVar 0) aNil)) aNil)) 0))) (sRet (mC (.bl false))) sNil)
    (sSeq (sAsg (gNm 13) (mMake "Allowances" m_Allowances___init__ [(.tup []), (.bl false)] aNil))
    (sSeq (sForI (iAny (mVar 4)) (gNm 9) (sAsg (gNm 13) (mBin (fOwn "Allowances" allTys m_Allowances___add__) (mVar 13) (mVar 9))))
    (sSeq (sIf ((tOr (tVal (mBin (fOwnNe "Allowances" allTys m_Allowances___eq__) (mVar 13) (mVar 6))) (tOr (tVal (mBin (fEqP true) (mCall (bLenO "Allowances" m_Allowances___len__) (aCons (mMake "Allowances" m_Allowances___init__ [(.tup []), (.bl false)] aNil) aNil)) (mC (.int 0)))) (tOr (tVal (mBin (fOwn "Allowances" allTys m_Allowances___eq__) (mVar 6) (mVar 4))) (tVal (mBin (fOwn "Allowances" allTys m_Allowances___eq__) (mVar 6) (mVar 7))))))) (sRet (mC (.bl false))) sNil)
    (sSeq (sExp (mApp (mMeth "Allowances" "rows" m_Allowances_rows [] (mVar 6) aNil) (mC .non)))
    (sIf ((tOr (tVal (mBin (fEqP true) (mMeth "Allowances" "rows" m_Allowances_rows [] (mVar 6) aNil) (mVar 8))) (tVal (mBin (fOwn "Allowances" allTys m_Allowances___eq__) (mMakeK "Allowances" m_Allowances___init__ 1 1 (fun xs zs => xs ++ zs) (aCons (mVar 4) aNil) (aCons (mC (.bl true)) aNil)) (mVar 6))))) (sRet (mC (.bl false))) sNil))))))))))))))))))
    (sRet (mC (.bl true))))
theorem ok_law {P : Program} {w : World} {K : PySem.W.Frag} {mg : Str → Option Value} {base : Heap} {cm : Cm} {f : Addr} {fd : FuncData} (F : Fun K "law" "law" s_law f fd) (z_range : mg "range" = none) (z_max : mg "max" = none) (z_min : mg "min" = none) (z_len : mg "len" = none) {f__law_pool : Addr} {fd__law_pool : FuncData} (G__law_pool : FnOk P w K mg base CX0 1 f__law_pool fd__law_pool ["_law_script", "_law_k"] (spM K cm m__law_pool)) (g__law_pool : mg "_law_pool" = some (.ref f__law_pool)) (k__law_pool : PySem.W.keepIn K (.ref f__law_pool) = true) (b__law_pool : Binds K fd__law_pool ["_law_script", "_law_k"] []) {f__law_parts : Addr} {fd__law_parts : FuncData} (G__law_parts : FnOk P w K mg base CX0 3 f__law_parts fd__law_parts ["_law_pool_here", "_law_many"] (spM K cm m__law_parts)) (g__law_parts : mg "_law_parts" = some (.ref f__law_parts)) (k__law_parts : PySem.W.keepIn K (.ref f__law_parts) = true) (b__law_parts : Binds K fd__law_parts ["_law_pool_here", "_law_many"] []) {f__law_book : Addr} {fd__law_book : FuncData} (G__law_book : FnOk P w K mg base CX0 3 f__law_book fd__law_book ["_law_pool_here", "_law_parts_here", "_law_many"] (spM K cm m__law_book)) (g__law_book : mg "_law_book" = some (.ref f__law_book)) (k__law_book : PySem.W.keepIn K (.ref f__law_book) = true) (b__law_book : Binds K fd__law_book ["_law_pool_here", "_law_parts_here", "_law_many"] []) {f_Allowances___init__ : Addr} {fd_Allowances___init__ : FuncData} (G_Allowances___init__ : FnOk P w K mg base CX0 5 f_Allowances___init__ fd_Allowances___init__ ["self", "rows", "through"] (spM K cm m_Allowances___init__)) (k_Allowances : ClsK K mg "Allowances" (cm "Allowances")) (mk_Allowances : L2.Mk K (cm "Allowances") f_Allowances___init__) {dv_Allowances___init___1 : List V} {ds_Allowances___init___1 : List Value} (b_Allowances___init___1 : Binds K fd_Allowances___init__ ["self", "rows", "through"] ds_Allowances___init___1) (vd_Allowances___init___1 : Vals dv_Allowances___init___1 ds_Allowances___init___1) (rl_Allowances___init___1 : ∀ ρ H, Rels K ρ H [(.bl false)] dv_Allowances___init___1) (z_tuple : mg "tuple" = none) {gg_Allowances___init___1_through : List Value → List Value → List Value} {gv_Allowances___init___1_through : List V → List V → List V} (kb_Allowances___init___1_through : KBn K fd_Allowances___init__ ["self", "rows", "through"] 2 ["through"] gg_Allowances___init___1_through gv_Allowances___init___1_through) (gr_Allowances___init___1_through : GRel K 1 1 (fun xs zs => xs ++ zs) gv_Allowances___init___1_through) (z_sorted : mg "sorted" = none) (z_str : mg "str" = none) {f__law_key : Addr} {fd__law_key : FuncData} (G__law_key : FnOk P w K mg base CX0 1 f__law_key fd__law_key ["_law_row"] (spM K cm m__law_key)) (g__law_key : mg "_law_key" = some (.ref f__law_key)) (k__law_key : PySem.W.keepIn K (.ref f__law_key) = true) (b__law_key : Binds K fd__law_key ["_law_row"] []) {c_law P_law : Addr} (cd_law : fd.code = .ref c_law) (tb_law : LamX.TabB base mg c_law P_law) (tm_law : (P_law, (("law" ++ ".<locals>." : Str) ++ "<lambda>")) ∈ cm.T) (to_law : ∀ p ∈ cm.T, p.1 = P_law → p.2 = (("law" ++ ".<locals>." : Str) ++ "<lambda>")) {f_Allowances___eq__ : Addr} {fd_Allowances___eq__ : FuncData} (G_Allowances___eq__ : FnOk P w K mg base CX0 1 f_Allowances___eq__ fd_Allowances___eq__ ["self", "other"] (spM K cm m_Allowances___eq__)) (o_Allowances___eq__ : Own K (cm "Allowances") "__eq__" f_Allowances___eq__) (b_Allowances___eq__ : Binds K fd_Allowances___eq__ ["self", "other"] []) {f_Allowances___len__ : Addr} {fd_Allowances___len__ : FuncData} (G_Allowances___len__ : FnOk P w K mg base CX0 1 f_Allowances___len__ fd_Allowances___len__ ["self"] (spM K cm m_Allowances___len__)) (o_Allowances___len__ : Own K (cm "Allowances") "__len__" f_Allowances___len__) (b_Allowances___len__ : Binds K fd_Allowances___len__ ["self"] []) {f_Allowances_rows : Addr} {fd_Allowances_rows : FuncData} (G_Allowances_rows : FnOk P w K mg base CX0 1 f_Allowances_rows fd_Allowances_rows ["self"] (spM K cm m_Allowances_rows)) (o_Allowances_rows : Own K (cm "Allowances") "rows" f_Allowances_rows) (b_Allowances_rows : Binds K fd_Allowances_rows ["self"] []) {f_Allowances___contains__ : Addr} {fd_Allowances___contains__ : FuncData} (G_Allowances___contains__ : FnOk P w K mg base CX0 4 f_Allowances___contains__ fd_Allowances___contains__ ["self", "x"] (spM K cm m_Allowances___contains__)) (o_Allowances___contains__ : Own K (cm "Allowances") "__contains__" f_Allowances___contains__) (b_Allowances___contains__ : Binds K fd_Allowances___contains__ ["self", "x"] []) (z_list : mg "list" = none) {f_Allowances___or__ : Addr} {fd_Allowances___or__ : FuncData} (G_Allowances___or__ : FnOk P w K mg base CX0 7 f_Allowances___or__ fd_Allowances___or__ ["self", "other"] (spM K cm m_Allowances___or__)) (o_Allowances___or__ : Own K (cm "Allowances") "__or__" f_Allowances___or__) (b_Allowances___or__ : Binds K fd_Allowances___or__ ["self", "other"] []) {f_Allowances_through : Addr} {fd_Allowances_through : FuncData} (G_Allowances_through : FnOk P w K mg base CX0 1 f_Allowances_through fd_Allowances_through ["self"] (spM K cm m_Allowances_through)) {p_Allowances_through : Addr} (pr_Allowances_through : PropOf K (cm "Allowances") "through" p_Allowances_through f_Allowances_through) (b_Allowances_through : Binds K fd_Allowances_through ["self"] []) {dv_Allowances___init___0 : List V} {ds_Allowances___init___0 : List Value} (b_Allowances___init___0 : Binds K fd_Allowances___init__ ["self", "rows", "through"] ds_Allowances___init___0) (vd_Allowances___init___0 : Vals dv_Allowances___init___0 ds_Allowances___init___0) (rl_Allowances___init___0 : ∀ ρ H, Rels K ρ H [(.tup []), (.bl false)] dv_Allowances___init___0) {f_Allowances___add__ : Addr} {fd_Allowances___add__ : FuncData} (G_Allowances___add__ : FnOk P w K mg base CX0 7 f_Allowances___add__ fd_Allowances___add__ ["self", "other"] (spM K cm m_Allowances___add__)) (o_Allowances___add__ : Own K (cm "Allowances") "__add__" f_Allowances___add__) (b_Allowances___add__ : Binds K fd_Allowances___add__ ["self", "other"] []) (bf_Allowances_add : ∀ n ∈ allTys, BinF K (cm "Allowances") .Add n) :
    FnG P w K mg base CX0 8 f fd ["_law_script"] (spM K cm m_law) :=
  efnGT F cd_law sc_law fun A outer s H E hr gd => (rss_cons (rs_for (vs := [1]) PassesOwn.never rfl (ri_rng1 z_range (re_callB (call_max2 rfl) wMax z_max (ra_cons (re_int) (ra_cons (re_callB (call_min2 rfl) wMin z_min (ra_cons (re_callB oLen wLen z_len (ra_cons (re_var 0) ra_nil)) (ra_cons (re_int) ra_nil))) ra_nil)))) (rg_name 1 sc_law.nd) (rss_cons (rs_asg (vs := [2]) (re_call G__law_pool (hr.mono (by decide)) g__law_pool k__law_pool b__law_pool (ra_cons (re_var 0) (ra_cons (re_var 1) ra_nil))) (rg_name 2 sc_law.nd))
    (rss_cons (rs_asg (vs := [3]) (re_call G__law_parts (hr.mono (by decide)) g__law_parts k__law_parts b__law_parts (ra_cons (re_var 2) (ra_cons (re_int) ra_nil))) (rg_name 3 sc_law.nd))
    (rss_cons (rs_asg (vs := [4, 5]) (re_tup (ra_cons (re_call G__law_book (hr.mono (by decide)) g__law_book k__law_book b__law_book (ra_cons (re_var 2) (ra_cons (re_var 3) (ra_cons (re_int) ra_nil)))) (ra_cons (re_call G__law_book (hr.mono (by decide)) g__law_book k__law_book b__law_book (ra_cons (re_var 2) (ra_cons (re_var 3) (ra_cons (re_int) ra_nil)))) ra_nil))) (rg_tup rfl (rgs_cons (rg_name 4 sc_law.nd) (rgs_cons (rg_name 5 sc_law.nd) rgs_nil))))
    (rss_cons (rs_par2 6 7 sc_law.nd (ra_cons (re_make mk_Allowances G_Allowances___init__ (hr.mono (by decide)) k_Allowances.gl b_Allowances___init___1 vd_Allowances___init___1 rl_Allowances___init___1 (ra_cons (re_var 4) ra_nil)) (ra_cons (re_mkK mk_Allowances G_Allowances___init__ (hr.mono (by decide)) k_Allowances.gl kb_Allowances___init___1_through gr_Allowances___init___1_through (ra_cons (re_callTy call_tuple_of wTup1 z_tuple (ra_cons (re_var 5) ra_nil)) ra_nil) (rk_cons (re_bl) rk_nil)) ra_nil)))
    (rss_cons (rs_asg (vs := [8]) (re_sortK (k := 1) (n := 0) (N := ["_law_row"]) (hr.mono (by decide)) gd z_sorted (re_var 4) ⟨tb_law, rfl, tm_law, to_law⟩ ⟨⟨rfl, rfl, rfl, by decide +kernel, rfl, by decide +kernel, by decide +kernel⟩, rfl, fun _ _ _ _ => rfl, fun A outer s H f c' hr gd => (re_callTy (cr_strD gd (hu65 hr)) wStrD z_str (ra_cons (re_call G__law_key (hr.mono (by decide)) g__law_key k__law_key b__law_key (ra_cons (re_var 0) ra_nil)) ra_nil))⟩) (rg_name 8 sc_law.nd))
    (rss_cons (rs_if (rw_t (rt_or (rt_cmp (op_neP (hu_of16 hr)) wEqP (re_meth0 k_Allowances.cl o_Allowances_rows.meth G_Allowances_rows (hr.mono (by decide)) b_Allowances_rows .nil rels_nil (re_var 6)) (re_var 8)) (rt_or (rt_cmp (op_neP (hu_of16 hr)) wEqP (re_callB (cr_lenO G_Allowances___len__ (hr.mono (by decide)) b_Allowances___len__ o_Allowances___len__.at_ o_Allowances___len__.fn) wLenO z_len (ra_cons (re_var 6) ra_nil)) (re_callB oLen wLen z_len (ra_cons (re_var 4) ra_nil))) (rt_or1 (rt_cmp (op_ownNe (tys := allTys) G_Allowances___eq__ (hr.mono (by decide)) b_Allowances___eq__ o_Allowances___eq__.at_ o_Allowances___eq__.fn k_Allowances.ne k_Allowances.ob k_Allowances.nf) wOwnNe (re_make mk_Allowances G_Allowances___init__ (hr.mono (by decide)) k_Allowances.gl b_Allowances___init___1 vd_Allowances___init___1 rl_Allowances___init___1 (ra_cons (re_rev (re_var 4) (re_neg (re_int))) ra_nil)) (re_var 6)))))) (rss_one (rs_ret (re_bl))) rss_nil)
    (rss_cons (rs_for (vs := [9]) PassesOwn.never rfl (ri_any (re_op oAdd wAdd (re_var 4) (re_var 5))) (rg_name 9 sc_law.nd) (rss_one (rs_if (rt_cmp (op_neP (hu_of16 hr)) wEqP (re_cmp (op_ownIn G_Allowances___contains__ (hr.mono (by decide)) b_Allowances___contains__ o_Allowances___contains__.at_ o_Allowances___contains__.fn) wOwnIn (re_var 9) (re_var 6)) (re_cmp (op_inP (hu_of16 hr)) wInP (re_var 9) (re_var 4))) (rss_one (rs_ret (re_bl))) rss_nil)))
    (rss_cons (rs_for (vs := [10]) PassesOwn.never rfl (ri_any (re_lst (ra_cons (re_non) (ra_cons (re_int) (ra_cons (re_str) (ra_cons (re_tup ra_nil) (ra_cons (re_if (rt_cmp (op_neP (hu_of16 hr)) wEqP (re_var 4) (re_lst ra_nil)) (re_callTy call_list_of wList1 z_list (ra_cons (re_ix (re_var 4) (re_int)) ra_nil)) (re_lst ra_nil)) (ra_cons (re_tup (ra_cons (re_ix (re_var 3) (re_int)) (ra_cons (re_ix (re_var 3) (re_int)) (ra_cons (re_int) (ra_cons (re_non) ra_nil))))) ra_nil)))))))) (rg_name 10 sc_law.nd) (rss_one (rs_if (rt_cmp (op_ownIn G_Allowances___contains__ (hr.mono (by decide)) b_Allowances___contains__ o_Allowances___contains__.at_ o_Allowances___contains__.fn) wOwnIn (re_var 10) (re_var 6)) (rss_one (rs_ret (re_bl))) rss_nil)))
    (rss_cons (rs_asg (vs := [11]) (re_op (op_ownBin G_Allowances___or__ (hr.mono (by decide)) b_Allowances___or__ k_Allowances.first o_Allowances___or__.at_ o_Allowances___or__.fn) wOwn2 (re_var 6) (re_var 7)) (rg_name 11 sc_law.nd))
    (rss_cons (rs_if (rt_cmp (op_neP (hu_of16 hr)) wEqP (re_lst (ra_cons (re_prop k_Allowances.cl pr_Allowances_through G_Allowances_through (hr.mono (by decide)) b_Allowances_through (re_var 11)) (ra_cons (re_prop k_Allowances.cl pr_Allowances_through G_Allowances_through (hr.mono (by decide)) b_Allowances_through (re_var 6)) (ra_cons (re_prop k_Allowances.cl pr_Allowances_through G_Allowances_through (hr.mono (by decide)) b_Allowances_through (re_var 7)) ra_nil)))) (re_lst (ra_cons (re_bl) (ra_cons (re_bl) (ra_cons (re_bl) ra_nil))))) (rss_one (rs_ret (re_bl))) rss_nil)
    (rss_cons (rs_setLc1 [("_law_row", 9)] rfl sc_law.nd (ri_any (re_var 5)) (N0 := ["_law_script", "_law_k", "_law_pool_here", "_law_parts_here", "_law_one", "_law_two", "_law_book_here", "_law_other", "_law_due", "_law_row", "_law_odd", "_law_both", "_law_more", "_law_built"]) (sc0 := defScope s_law) (by decide +kernel) (fun _ _ _ _ _ => (rg_name 9 sc_law.nd)) (fun _ _ _ _ _ => (rt_cmp (op_notInP (hu_of16 hr)) wInP (re_var 9) (re_var 4))) (fun _ _ _ _ _ => (re_var 9)))
    (rss_cons (rs_if (rt_cmp (op_neP (hu_of16 hr)) wEqP (re_meth0 k_Allowances.cl o_Allowances_rows.meth G_Allowances_rows (hr.mono (by decide)) b_Allowances_rows .nil rels_nil (re_var 11)) (re_sortK (k := 1) (n := 0) (N := ["_law_row"]) (hr.mono (by decide)) gd z_sorted (re_op oAdd wAdd (re_var 4) (re_var 12)) ⟨tb_law, rfl, tm_law, to_law⟩ ⟨⟨rfl, rfl, rfl, by decide +kernel, rfl, by decide +kernel, by decide +kernel⟩, rfl, fun _ _ _ _ => rfl, fun A outer s H f c' hr gd => (re_callTy (cr_strD gd (hu65 hr)) wStrD z_str (ra_cons (re_call G__law_key (hr.mono (by decide)) g__law_key k__law_key b__law_key (ra_cons (re_var 0) ra_nil)) ra_nil))⟩)) (rss_one (rs_ret (re_bl))) rss_nil)
    (rss_cons (rs_asg (vs := [13]) (re_make0 mk_Allowances G_Allowances___init__ (hr.mono (by decide)) k_Allowances.gl b_Allowances___init___0 vd_Allowances___init___0 rl_Allowances___init___0) (rg_name 13 sc_law.nd))
    (rss_cons (rs_for (vs := [9]) PassesOwn.never rfl (ri_any (re_var 4)) (rg_name 9 sc_law.nd) (rss_one (rs_asg (vs := [13]) (re_op (op_binC (tys := allTys) G_Allowances___add__ (hr.mono (by decide)) b_Allowances___add__ k_Allowances.first o_Allowances___add__.at_ o_Allowances___add__.fn bf_Allowances_add) wOwn (re_var 13) (re_var 9)) (rg_name 13 sc_law.nd))))
    (rss_cons (rs_if (rw_t (rt_or (rt_cmp (op_ownNe (tys := allTys) G_Allowances___eq__ (hr.mono (by decide)) b_Allowances___eq__ o_Allowances___eq__.at_ o_Allowances___eq__.fn k_Allowances.ne k_Allowances.ob k_Allowances.nf) wOwnNe (re_var 13) (re_var 6)) (rt_or (rt_cmp (op_neP (hu_of16 hr)) wEqP (re_callB (cr_lenO G_Allowances___len__ (hr.mono (by decide)) b_Allowances___len__ o_Allowances___len__.at_ o_Allowances___len__.fn) wLenO z_len (ra_cons (re_make0 mk_Allowances G_Allowances___init__ (hr.mono (by decide)) k_Allowances.gl b_Allowances___init___0 vd_Allowances___init___0 rl_Allowances___init___0) ra_nil)) (re_int)) (rt_or (rt_cmp (op_ownCmp (tys := allTys) rfl G_Allowances___eq__ (hr.mono (by decide)) b_Allowances___eq__ o_Allowances___eq__.at_ o_Allowances___eq__.fn k_Allowances.nf) wOwn (re_var 6) (re_var 4)) (rt_or1 (rt_cmp (op_ownCmp (tys := allTys) rfl G_Allowances___eq__ (hr.mono (by decide)) b_Allowances___eq__ o_Allowances___eq__.at_ o_Allowances___eq__.fn k_Allowances.nf) wOwn (re_var 6) (re_var 7))))))) (rss_one (rs_ret (re_bl))) rss_nil)
    (rss_cons (rs_expr (re_append (re_meth0 k_Allowances.cl o_Allowances_rows.meth G_Allowances_rows (hr.mono (by decide)) b_Allowances_rows .nil rels_nil (re_var 6)) (re_non)))
    (rss_one (rs_if (rw_t (rt_or (rt_cmp (op_neP (hu_of16 hr)) wEqP (re_meth0 k_Allowances.cl o_Allowances_rows.meth G_Allowances_rows (hr.mono (by decide)) b_Allowances_rows .nil rels_nil (re_var 6)) (re_var 8)) (rt_or1 (rt_cmp (op_ownCmp (tys := allTys) rfl G_Allowances___eq__ (hr.mono (by decide)) b_Allowances___eq__ o_Allowances___eq__.at_ o_Allowances___eq__.fn k_Allowances.nf) wOwn (re_mkK mk_Allowances G_Allowances___init__ (hr.mono (by decide)) k_Allowances.gl kb_Allowances___init___1_through gr_Allowances___init___1_through (ra_cons (re_var 4) ra_nil) (rk_cons (re_bl) rk_nil)) (re_var 6))))) (rss_one (rs_ret (re_bl))) rss_nil)))))))))))))))))))
    (rss_one (rs_ret (re_bl))))
section
open EL.Pu
def p__law_pool : List T → Q T := pFnF 2 5 (pSeq (pAsg (pgNm 2) (pIf (pVal (pBin uLt (pVar 1) (pCall vLen (paCons (pVar 0) (paNil))))) (pBin uIx (pVar 0) (pVar 1)) (pBin uAdd (pBin uMul (pC (.int 7)) (pCall vSum (paCons (pSl (pVar 0) (poNo) (poSo (pC (.int 63)))) (paNil)))) (pVar 1))))
    (pSeq (pAsg (pgNm 3) (pCall vAbs (paCons (pVar 2) (paNil))))
    (pSeq (pAsg (pgNm 4) (pBin uAdd (pBin uAdd (pBin uAdd (pBin uMod (pCall vInt (paCons (pVar 3) (paNil))) (pC (.int 2147483629))) (pBin uMul (pBin uMul (pC (.int 7919)) (pVar 1)) (pVar 1))) (pBin uMul (pC (.int 31)) (pVar 1))) (pC (.int 17))))
    (pSeq (pAsg (pgNm 4) (pBin uMod (pCall vInt (paCons (pBin uMul (pVar 4) (pC (.int 48271))) (paNil))) (pC (.int 2147483647))))
    (pRet (pLst (paCons (pBin uMul (pVar 3) (pCall vInt (paCons (pBin uGe (pVar 3) (pBin uPow (pC (.int 10)) (pC (.int 18)))) (paNil)))) (paCons (pBin uMod (pCall vInt (paCons (pBin uMul (pVar 4) (pVar 4)) (paNil))) (pC (.int 2147483629))) (paNil)))))))))
theorem pu__law_pool : FnF m__law_pool p__law_pool := fnF_of (N' := []) (ss_seq (N1 := []) (ss_asg (xe_if (xt_val (xv_of (xe_bin op_lt (xv_of (xe_var 1)) (xv_of (xe_callB op_len (xva_cons (xv_of (xe_var 0)) (xva_nil))))))) (xe_bin op_ix (xv_of (xe_var 0)) (xv_of (xe_var 1))) (xe_bin op_add (xv_of (xe_bin op_mul (xv_of (xe_int 7)) (xv_of (xe_callB op_sum (xva_cons (xv_of (xe_sl (xv_of (xe_var 0)) (xo_no) (xo_so (xe_int 63)))) (xva_nil)))))) (xv_of (xe_var 1)))) (xg_nm 2))
    (ss_seq (N1 := []) (ss_asg (xe_callB op_abs (xva_cons (xv_of (xe_var 2)) (xva_nil))) (xg_nm 3))
    (ss_seq (N1 := []) (ss_asg (xe_bin op_add (xv_of (xe_bin op_add (xv_of (xe_bin op_add (xv_of (xe_bin op_mod (xv_of (xe_callB op_int (xva_cons (xv_of (xe_var 3)) (xva_nil)))) (xv_of (xe_int 2147483629)))) (xv_of (xe_bin op_mul (xv_of (xe_bin op_mul (xv_of (xe_int 7919)) (xv_of (xe_var 1)))) (xv_of (xe_var 1)))))) (xv_of (xe_bin op_mul (xv_of (xe_int 31)) (xv_of (xe_var 1)))))) (xv_of (xe_int 17))) (xg_nm 4))
    (ss_seq (N1 := []) (ss_asg (xe_bin op_mod (xv_of (xe_callB op_int (xva_cons (xv_of (xe_bin op_mul (xv_of (xe_var 4)) (xv_of (xe_int 48271)))) (xva_nil)))) (xv_of (xe_int 2147483647))) (xg_nm 4))
    (ss_retF (xf_lst (xa_cons (xe_bin op_mul (xv_of (xe_var 3)) (xv_of (xe_callB op_int (xva_cons (xv_of (xe_bin op_ge (xv_of (xe_var 3)) (xv_of (xe_bin op_pow (xv_of (xe_int 10)) (xv_of (xe_int 18)))))) (xva_nil))))) (xa_cons (xe_bin op_mod (xv_of (xe_callB op_int (xva_cons (xv_of (xe_bin op_mul (xv_of (xe_var 4)) (xv_of (xe_var 4)))) (xva_nil)))) (xv_of (xe_int 2147483629))) (xa_nil)))))))))
def p__law_draw : T → List T → Q1 := qFn 2 3 (pSeq (pIfS (pVal (pBin uGt (pBin uIx (pVar 0) (pC (.int 0))) (pC (.int 0)))) (pSeq (pAsg (pgNm 2) (pBin uMod (pCall vInt (paCons (pBin uIx (pVar 0) (pC (.int 0))) (paNil))) (pVar 1)))
    (pSeq (pSubL 0 (pC (.int 0)) (pBin uDiv (pBin uIx (pVar 0) (pC (.int 0))) (pVar 1)))
    (pRet (pVar 2)))) (pNil))
    (pSeq (pSubL 0 (pC (.int 1)) (pBin uMod (pCall vInt (paCons (pBin uAdd (pBin uMul (pBin uIx (pVar 0) (pC (.int 1))) (pC (.int 48271))) (pC (.int 11))) (paNil))) (pC (.int 2147483647))))
    (pRet (pBin uMod (pCall vInt (paCons (pBin uDiv (pBin uMod (pCall vInt (paCons (pBin uMul (pBin uIx (pVar 0) (pC (.int 1))) (pBin uIx (pVar 0) (pC (.int 1)))) (paNil))) (pC (.int 2147483629))) (pC (.int 16))) (paNil))) (pVar 1)))))
theorem pu__law_draw : FnS m__law_draw p__law_draw := fnS_of (N' := [0]) (ss_seq (N1 := [0]) (ss_if (xt_val (xv_of (xe_bin op_gt (xv_of (xe_bin op_ix (xv_own 0) (xv_of (xe_int 0)))) (xv_of (xe_int 0))))) (ss_seq (N1 := [0]) (ss_asg (xe_bin op_mod (xv_of (xe_callB op_int (xva_cons (xv_of (xe_bin op_ix (xv_own 0) (xv_of (xe_int 0)))) (xva_nil)))) (xv_of (xe_var 1))) (xg_nm 2))
    (ss_seq (N1 := [0]) (ss_subL 0 (xe_int 0) (xe_bin op_div (xv_of (xe_bin op_ix (xv_own 0) (xv_of (xe_int 0)))) (xv_of (xe_var 1))))
    (ss_ret (xe_var 2)))) (ss_nil))
    (ss_seq (N1 := [0]) (ss_subL 0 (xe_int 1) (xe_bin op_mod (xv_of (xe_callB op_int (xva_cons (xv_of (xe_bin op_add (xv_of (xe_bin op_mul (xv_of (xe_bin op_ix (xv_own 0) (xv_of (xe_int 1)))) (xv_of (xe_int 48271)))) (xv_of (xe_int 11)))) (xva_nil)))) (xv_of (xe_int 2147483647))))
    (ss_ret (xe_bin op_mod (xv_of (xe_callB op_int (xva_cons (xv_of (xe_bin op_div (xv_of (xe_bin op_mod (xv_of (xe_callB op_int (xva_cons (xv_of (xe_bin op_mul (xv_of (xe_bin op_ix (xv_own 0) (xv_of (xe_int 1)))) (xv_of (xe_bin op_ix (xv_own 0) (xv_of (xe_int 1)))))) (xva_nil)))) (xv_of (xe_int 2147483629)))) (xv_of (xe_int 16)))) (xva_nil)))) (xv_of (xe_var 1))))))
def p__law_pick : T → List T → Q1 := qFn 2 2 (qRet (qBin uIx (qOf (pVar 1)) (qCallS p__law_draw 0 (qaCons (qOf (pCall vLen (paCons (pVar 1) (paNil)))) (qaNil)))))
theorem pu__law_pick : FnS m__law_pick p__law_pick := fnS_of (N' := [0]) (sq_ret (se_bin op_ix.R (se_of (xe_var 1)) (se_callS 0 pu__law_draw (sa_cons (se_of (xe_callB op_len (xva_cons (xv_of (xe_var 1)) (xva_nil)))) (sa_nil)))))
def p__law_parts : T → List T → Q1 := qFnF 2 7 (pSeq (pAsg (pgNm 2) (pC (.str "abcdefghijklmnopqrstuvwxyz")))
    (pSeq (qAsg (pgTu 3 (pgsCons (pgNm 3) (pgsCons (pgNm 4) (pgsCons (pgNm 5) (pgsNil))))) (qTup (qaCons (qCallS p__law_draw 0 (qaCons (qOf (pC (.int 26))) (qaNil))) (qaCons (qBin uAdd (qOf (pC (.int 1))) (qBin uMul (qOf (pC (.int 2))) (qCallS p__law_draw 0 (qaCons (qOf (pC (.int 6))) (qaNil))))) (qaCons (qCallS p__law_pick 0 (qaCons (qOf (pLst (paCons (pC (.str "")) (paCons (pC (.str "")) (paCons (pC (.str "q")) (paCons (pC (.str "abcdefg")) (paNil))))))) (qaNil))) (qaNil))))))
    (pRet (pLc (piRg1 (pVar 1)) (pgNm 6) (pYs) (pBin uAdd (pBin uIx (pVar 2) (pBin uMod (pCall vInt (paCons (pBin uAdd (pVar 3) (pBin uMul (pVar 4) (pVar 6))) (paNil))) (pC (.int 26)))) (pVar 5)) [6]))))
theorem pu__law_parts : FnSF m__law_parts p__law_parts := fnSF_of (N' := [0]) (ss_seq (N1 := [0]) (ss_asg (xe_str "abcdefghijklmnopqrstuvwxyz") (xg_nm 2))
    (ss_seq (N1 := [0]) (sq_asg (se_tup (sa_cons (se_callS 0 pu__law_draw (sa_cons (se_of (xe_int 26)) (sa_nil))) (sa_cons (se_bin op_add.R (se_of (xe_int 1)) (se_bin op_mul.R (se_of (xe_int 2)) (se_callS 0 pu__law_draw (sa_cons (se_of (xe_int 6)) (sa_nil))))) (sa_cons (se_callS 0 pu__law_pick (sa_cons (se_of (xe_new (xf_lst (xa_cons (xe_str "") (xa_cons (xe_str "") (xa_cons (xe_str "q") (xa_cons (xe_str "abcdefg") (xa_nil)))))))) (sa_nil))) (sa_nil))))) (xg_tu (xgs_cons (xg_nm 3) (xgs_cons (xg_nm 4) (xgs_cons (xg_nm 5) (xgs_nil))))))
    (ss_retF (xf_lc (xi_rg1 (xe_var 1)) (xg_nm 6) (xt_ys) (xe_bin op_add (xv_of (xe_bin op_ix (xv_of (xe_var 2)) (xv_of (xe_bin op_mod (xv_of (xe_callB op_int (xva_cons (xv_of (xe_bin op_add (xv_of (xe_var 3)) (xv_of (xe_bin op_mul (xv_of (xe_var 4)) (xv_of (xe_var 6)))))) (xva_nil)))) (xv_of (xe_int 26)))))) (xv_of (xe_var 5)))))))
def p__law_book : T → List T → Q1 := qFnF 3 9 (pSeq (pOwn 3 (pLst (paNil)))
    (pSeq (pFor (piRg1 (pVar 2)) (pgNm 4) (pSeq (qPar3 5 6 7 (qaCons (qCallS p__law_pick 0 (qaCons (qOf (pVar 1)) (qaNil))) (qaCons (qCallS p__law_pick 0 (qaCons (qOf (pVar 1)) (qaNil))) (qaCons (qCallS p__law_draw 0 (qaCons (qOf (pC (.int 4))) (qaNil))) (qaNil)))))
    (pSeq (qAsg (pgNm 8) (qTup (qaCons (qOf (pVar 5)) (qaCons (qOf (pVar 6)) (qaCons (qOf (pVar 7)) (qaCons (qCallS p__law_pick 0 (qaCons (qOf (pLst (paCons (pC .non) (paCons (pC .non) (paCons (pVar 7) (paCons (pBin uAdd (pVar 7) (pC (.int 2))) (paCons (pC (.int 9999)) (paNil)))))))) (qaNil))) (qaNil)))))))
    (pIfS (pAnd (pVal (pBin (uEqP true) (pVar 5) (pVar 6))) (pVal (pBin (uInP true) (pVar 8) (pVar 3)))) (pApp 3 (pVar 8)) (pNil)))) [4, 5, 6, 7, 8])
    (pRet (pVar 3))))
theorem pu__law_book : FnSF m__law_book p__law_book := fnSF_of (N' := [0]) (ss_seq (N1 := [0, 3]) (ss_own 3 (xf_lst (xa_nil)))
    (ss_seq (N1 := [0, 3]) (ss_for [4, 5, 6, 7, 8] (xi_rg1 (xe_var 2)) (xg_nm 4) (ss_seq (N1 := [0, 3]) (sq_par3 5 6 7 (sa_cons (se_callS 0 pu__law_pick (sa_cons (se_of (xe_var 1)) (sa_nil))) (sa_cons (se_callS 0 pu__law_pick (sa_cons (se_of (xe_var 1)) (sa_nil))) (sa_cons (se_callS 0 pu__law_draw (sa_cons (se_of (xe_int 4)) (sa_nil))) (sa_nil)))))
    (ss_seq (N1 := [0, 3]) (sq_asg (se_tup (sa_cons (se_of (xe_var 5)) (sa_cons (se_of (xe_var 6)) (sa_cons (se_of (xe_var 7)) (sa_cons (se_callS 0 pu__law_pick (sa_cons (se_of (xe_new (xf_lst (xa_cons (xe_non) (xa_cons (xe_non) (xa_cons (xe_var 7) (xa_cons (xe_bin op_add (xv_of (xe_var 7)) (xv_of (xe_int 2))) (xa_cons (xe_int 9999) (xa_nil))))))))) (sa_nil))) (sa_nil)))))) (xg_nm 8))
    (ss_if (xt_and (xt_val (xv_of (xe_bin op_eqP (xv_of (xe_var 5)) (xv_of (xe_var 6))))) (xt_val (xv_of (xe_bin op_inP (xv_of (xe_var 8)) (xv_own 3))))) (ss_app 3 (xe_var 8)) (ss_nil)))))
    (ss_retO 3)))
def p_is_integer : List T → Q T := pFn 3 3 (pRet (peAnd (pIsi "int" (pVar 0)) (peAnd (peNot (pIsi "bool" (pVar 0))) (pCh uLe uLe (pVar 1) (pVar 0) (pVar 2)))))
theorem pu_is_integer : FnP m_is_integer p_is_integer := fn_of (N' := []) (ss_ret (xe_and (xe_isi (xv_of (xe_var 0))) (xe_and (xe_not (xe_isi (xv_of (xe_var 0)))) (xe_ch op_le op_le (xv_of (xe_var 1)) (xv_of (xe_var 0)) (xv_of (xe_var 2))))))
def p_is_date : List T → Q T := pFn 1 1 (pRet (pCall p_is_integer (paCons (pVar 0) (paCons (pC (.int 0)) (paCons (pC (.int 9999)) (paNil))))))
theorem pu_is_date : FnP m_is_date p_is_date := fn_of (N' := []) (ss_ret (xe_call pu_is_integer (xa_cons (xe_var 0) (xa_cons (xe_int 0) (xa_cons (xe_int 9999) (xa_nil))))))
def p_is_word : List T → Q T := pFn 1 2 (pSeq (pIfS (pOr (pNot (pTru (pIsi "str" (pVar 0)))) (pNot (pVal (pCh uLe uLe (pC (.int 1)) (pCall vLen (paCons (pVar 0) (paNil))) (pC (.int 8)))))) (pRet (pC (.bl false))) (pNil))
    (pRet (pCall vAll (paCons (pLc (piAny (pVar 0)) (pgNm 1) (pYs) (pBin (uIn false) (pVar 1) (pC (.str "abcdefghijklmnopqrstuvwxyz"))) [1]) (paNil)))))
theorem pu_is_word : FnP m_is_word p_is_word := fn_of (N' := []) (ss_seq (N1 := []) (ss_if (xt_or (xt_not (xt_tru (xv_of (xe_isi (xv_of (xe_var 0)))))) (xt_not (xt_val (xv_of (xe_ch op_le op_le (xv_of (xe_int 1)) (xv_of (xe_callB op_len (xva_cons (xv_of (xe_var 0)) (xva_nil)))) (xv_of (xe_int 8))))))) (ss_ret (xe_bl false)) (ss_nil))
    (ss_ret (xe_callB op_all (xva_cons (xv_of (xe_new (xf_lc (xi_any (xe_var 0)) (xg_nm 1) (xt_ys) (xe_bin op_in (xv_of (xe_var 1)) (xv_of (xe_str "abcdefghijklmnopqrstuvwxyz")))))) (xva_nil)))))
def p_is_allowance : List T → Q T := pFn 1 5 (pSeq (pIfS (pOr (pNot (pTru (pIsi "tuple" (pVar 0)))) (pVal (pBin (uEqP true) (pCall vLen (paCons (pVar 0) (paNil))) (pC (.int 4))))) (pRet (pC (.bl false))) (pNil))
    (pSeq (pAsg (pgTu 4 (pgsCons (pgNm 1) (pgsCons (pgNm 2) (pgsCons (pgNm 3) (pgsCons (pgNm 4) (pgsNil)))))) (pVar 0))
    (pSeq (pIfS (pOr (pNot (pTru (pCall p_is_word (paCons (pVar 1) (paNil))))) (pOr (pNot (pTru (pCall p_is_word (paCons (pVar 2) (paNil))))) (pOr (pVal (pBin (uEqP false) (pVar 1) (pVar 2))) (pNot (pTru (pCall p_is_date (paCons (pVar 3) (paNil)))))))) (pRet (pC (.bl false))) (pNil))
    (pRet (peOr (pBin (uIs false) (pVar 4) (pC .non)) (peAnd (pCall p_is_date (paCons (pVar 4) (paNil))) (pBin uLe (pVar 3) (pVar 4))))))))
theorem pu_is_allowance : FnP m_is_allowance p_is_allowance := fn_of (N' := []) (ss_seq (N1 := []) (ss_if (xt_or (xt_not (xt_tru (xv_of (xe_isi (xv_of (xe_var 0)))))) (xt_val (xv_of (xe_bin op_eqP (xv_of (xe_callB op_len (xva_cons (xv_of (xe_var 0)) (xva_nil)))) (xv_of (xe_int 4)))))) (ss_ret (xe_bl false)) (ss_nil))
    (ss_seq (N1 := []) (ss_asg (xe_var 0) (xg_tu (xgs_cons (xg_nm 1) (xgs_cons (xg_nm 2) (xgs_cons (xg_nm 3) (xgs_cons (xg_nm 4) (xgs_nil)))))))
    (ss_seq (N1 := []) (ss_if (xt_or (xt_not (xt_tru (xv_of (xe_call pu_is_word (xa_cons (xe_var 1) (xa_nil)))))) (xt_or (xt_not (xt_tru (xv_of (xe_call pu_is_word (xa_cons (xe_var 2) (xa_nil)))))) (xt_or (xt_val (xv_of (xe_bin op_eqP (xv_of (xe_var 1)) (xv_of (xe_var 2))))) (xt_not (xt_tru (xv_of (xe_call pu_is_date (xa_cons (xe_var 3) (xa_nil))))))))) (ss_ret (xe_bl false)) (ss_nil))
    (ss_ret (xe_or (xe_bin op_is (xv_of (xe_var 4)) (xv_of (xe_non))) (xe_and (xe_call pu_is_date (xa_cons (xe_var 4) (xa_nil))) (xe_bin op_le (xv_of (xe_var 3)) (xv_of (xe_var 4)))))))))
def p_check_allowances : List T → Q T := pFn 1 4 (pSeq (pIfS (pNot (pTru (pIsi2 "list" "tuple" (pVar 0)))) (fun _ => .no) (pNil))
    (pSeq (pOwn 1 (pSetN0))
    (pSeq (pFor (piEnu (pVar 0)) (pgTu 2 (pgsCons (pgNm 2) (pgsCons (pgNm 3) (pgsNil)))) (pSeq (pIfS (pOr (pNot (pTru (pCall p_is_allowance (paCons (pVar 3) (paNil))))) (pVal (pBin (uInSN false) (pVar 3) (pVar 1)))) (fun _ => .no) (pNil))
    (pSAddN 1 (pVar 3))) [2, 3])
    (pIfS (pVal (pBin uGt (pCall vLen (paCons (pVar 0) (paNil))) (pC (.int 12)))) (fun _ => .no) (pNil)))))
theorem pu_check_allowances : FnP m_check_allowances p_check_allowances := fn_of (N' := [1]) (ss_seq (N1 := []) (ss_if (xt_not (xt_tru (xv_of (xe_isi2 (xv_of (xe_var 0)))))) (ss_bad) (ss_nil))
    (ss_seq (N1 := [1]) (ss_own 1 (xf_setN0))
    (ss_seq (N1 := [1]) (ss_for [2, 3] (xi_enu (xe_var 0)) (xg_tu (xgs_cons (xg_nm 2) (xgs_cons (xg_nm 3) (xgs_nil)))) (ss_seq (N1 := [1]) (ss_if (xt_or (xt_not (xt_tru (xv_of (xe_call pu_is_allowance (xa_cons (xe_var 3) (xa_nil)))))) (xt_val (xv_of (xe_bin op_inSN (xv_of (xe_var 3)) (xv_own 1))))) (ss_bad) (ss_nil))
    (ss_saddN 1 (xe_var 3))))
    (ss_if (xt_val (xv_of (xe_bin op_gt (xv_of (xe_callB op_len (xva_cons (xv_of (xe_var 0)) (xva_nil)))) (xv_of (xe_int 12))))) (ss_bad) (ss_nil)))))
def p_ordered : List T → Q T := pFn 1 8 (pSeq (pAsg (pgNm 1) (pLc (piAny (pVar 0)) (pgTu 4 (pgsCons (pgNm 3) (pgsCons (pgNm 4) (pgsCons (pgNm 5) (pgsCons (pgNm 6) (pgsNil)))))) (pYs) (pTup (paCons (pVar 3) (paCons (pVar 4) (paCons (pVar 5) (paCons (pIf (pVal (pBin (uIs false) (pVar 6) (pC .non))) (pC (.int 10000)) (pVar 6)) (paNil)))))) [3, 4, 5, 6]))
    (pSeq (pAsg (pgNm 2) (pCall vSortSetN (paCons (pVar 1) (paNil))))
    (pRet (pCall vTup1 (paCons (pLc (piAny (pVar 2)) (pgTu 4 (pgsCons (pgNm 3) (pgsCons (pgNm 4) (pgsCons (pgNm 5) (pgsCons (pgNm 7) (pgsNil)))))) (pYs) (pTup (paCons (pVar 3) (paCons (pVar 4) (paCons (pVar 5) (paCons (pIf (pVal (pBin (uEqP false) (pVar 7) (pC (.int 10000)))) (pC .non) (pVar 7)) (paNil)))))) [3, 4, 5, 7]) (paNil))))))
theorem pu_ordered : FnP m_ordered p_ordered := fn_of (N' := []) (ss_seq (N1 := []) (ss_asg (xe_new (xf_lc (xi_any (xe_var 0)) (xg_tu (xgs_cons (xg_nm 3) (xgs_cons (xg_nm 4) (xgs_cons (xg_nm 5) (xgs_cons (xg_nm 6) (xgs_nil)))))) (xt_ys) (xe_tup (xa_cons (xe_var 3) (xa_cons (xe_var 4) (xa_cons (xe_var 5) (xa_cons (xe_if (xt_val (xv_of (xe_bin op_is (xv_of (xe_var 6)) (xv_of (xe_non))))) (xe_int 10000) (xe_var 6)) (xa_nil)))))))) (xg_nm 1))
    (ss_seq (N1 := []) (ss_asg (xe_new (xf_callB op_sortSetN (xva_cons (xv_of (xe_var 1)) (xva_nil)))) (xg_nm 2))
    (ss_ret (xe_callB op_tup1 (xva_cons (xv_of (xe_new (xf_lc (xi_any (xe_var 2)) (xg_tu (xgs_cons (xg_nm 3) (xgs_cons (xg_nm 4) (xgs_cons (xg_nm 5) (xgs_cons (xg_nm 7) (xgs_nil)))))) (xt_ys) (xe_tup (xa_cons (xe_var 3) (xa_cons (xe_var 4) (xa_cons (xe_var 5) (xa_cons (xe_if (xt_val (xv_of (xe_bin op_eqP (xv_of (xe_var 7)) (xv_of (xe_int 10000))))) (xe_non) (xe_var 7)) (xa_nil))))))))) (xva_nil))))))
def p_Allowances___init__ : List T → Q T := pFnI "Allowances" 3 3 (pSeq (pExp (pCall p_check_allowances (paCons (pVar 1) (paNil))))
    (pSeq (pFldS "Allowances" "_rows" 0 (pCall p_ordered (paCons (pVar 1) (paNil))))
    (pFldS "Allowances" "_through" 0 (pVar 2))))
theorem pu_Allowances___init__ : FnI "Allowances" m_Allowances___init__ p_Allowances___init__ := fnI_of (N' := [0]) (ss_seq (N1 := [0]) (ss_exp (xe_call pu_check_allowances (xa_cons (xe_var 1) (xa_nil))))
    (ss_seq (N1 := [0]) (ss_fld 0 (xe_call pu_ordered (xa_cons (xe_var 1) (xa_nil))))
    (ss_fld 0 (xe_var 2))))
def p__law_key : List T → Q T := pFnF 1 2 (pSeq (pAsg (pgNm 1) (pIf (pVal (pBin (uIs false) (pBin uIx (pVar 0) (pC (.int 3))) (pC .non))) (pC (.int 10000)) (pBin uIx (pVar 0) (pC (.int 3)))))
    (pRet (pLst (paCons (pBin uIx (pVar 0) (pC (.int 0))) (paCons (pBin uIx (pVar 0) (pC (.int 1))) (paCons (pBin uAdd (pC (.int 100000)) (pBin uIx (pVar 0) (pC (.int 2)))) (paCons (pBin uAdd (pC (.int 100000)) (pVar 1)) (paNil))))))))
theorem pu__law_key : FnF m__law_key p__law_key := fnF_of (N' := []) (ss_seq (N1 := []) (ss_asg (xe_if (xt_val (xv_of (xe_bin op_is (xv_of (xe_bin op_ix (xv_of (xe_var 0)) (xv_of (xe_int 3)))) (xv_of (xe_non))))) (xe_int 10000) (xe_bin op_ix (xv_of (xe_var 0)) (xv_of (xe_int 3)))) (xg_nm 1))
    (ss_retF (xf_lst (xa_cons (xe_bin op_ix (xv_of (xe_var 0)) (xv_of (xe_int 0))) (xa_cons (xe_bin op_ix (xv_of (xe_var 0)) (xv_of (xe_int 1))) (xa_cons (xe_bin op_add (xv_of (xe_int 100000)) (xv_of (xe_bin op_ix (xv_of (xe_var 0)) (xv_of (xe_int 2))))) (xa_cons (xe_bin op_add (xv_of (xe_int 100000)) (xv_of (xe_var 1))) (xa_nil))))))))
def p_Allowances___eq__ : List T → Q T := pFn 2 2 (pSeq (pIfS (pNot (pTru (pIsiC [("Allowances", true)] allTys (pVar 1)))) (pRet (pC (.bl false))) (pNil))
    (pRet (peAnd (pBin (uEqP false) (pFld "Allowances" "_rows" (pVar 0)) (pFld "Allowances" "_rows" (pVar 1))) (pBin (uEqP false) (pFld "Allowances" "_through" (pVar 0)) (pFld "Allowances" "_through" (pVar 1))))))
theorem pu_Allowances___eq__ : FnP m_Allowances___eq__ p_Allowances___eq__ := fn_of (N' := []) (ss_seq (N1 := []) (ss_if (xt_not (xt_tru (xv_of (xe_isiC (xv_of (xe_var 1)))))) (ss_ret (xe_bl false)) (ss_nil))
    (ss_ret (xe_and (xe_bin op_eqP (xv_of (xe_fld (xv_of (xe_var 0)))) (xv_of (xe_fld (xv_of (xe_var 1))))) (xe_bin op_eqP (xv_of (xe_fld (xv_of (xe_var 0)))) (xv_of (xe_fld (xv_of (xe_var 1))))))))
def p_Allowances___len__ : List T → Q T := pFn 1 1 (pRet (pCall vLen (paCons (pFld "Allowances" "_rows" (pVar 0)) (paNil))))
theorem pu_Allowances___len__ : FnP m_Allowances___len__ p_Allowances___len__ := fn_of (N' := []) (ss_ret (xe_callB op_len (xva_cons (xv_of (xe_fld (xv_of (xe_var 0)))) (xva_nil))))
def p_Allowances_rows : List T → Q T := pFnF 1 1 (pRet (pCall vList1 (paCons (pFld "Allowances" "_rows" (pVar 0)) (paNil))))
theorem pu_Allowances_rows : FnF m_Allowances_rows p_Allowances_rows := fnF_of (N' := []) (ss_retF (xf_callB op_list1 (xva_cons (xv_of (xe_fld (xv_of (xe_var 0)))) (xva_nil))))
def p_Allowances___contains__ : List T → Q T := pFn 2 2 (pRet (peAnd (pCall p_is_allowance (paCons (pVar 1) (paNil))) (pBin (uInP false) (pVar 1) (pFld "Allowances" "_rows" (pVar 0)))))
theorem pu_Allowances___contains__ : FnP m_Allowances___contains__ p_Allowances___contains__ := fn_of (N' := []) (ss_ret (xe_and (xe_call pu_is_allowance (xa_cons (xe_var 1) (xa_nil))) (xe_bin op_inP (xv_of (xe_var 1)) (xv_of (xe_fld (xv_of (xe_var 0)))))))
def p_Allowances___or__ : List T → Q T := pFnF 2 4 (pSeq (pIfS (pNot (pTru (pIsiC [("Allowances", true)] allTys (pVar 1)))) (fun _ => .no) (pNil))
    (pSeq (pAsg (pgNm 2) (pLc (piAny (pFld "Allowances" "_rows" (pVar 1))) (pgNm 3) (pVal (pBin (uInP true) (pVar 3) (pFld "Allowances" "_rows" (pVar 0)))) (pVar 3) [3]))
    (pRet (pMakeK p_Allowances___init__ 1 1 (fun xs zs => xs ++ zs) (paCons (pLst (paStar (pFld "Allowances" "_rows" (pVar 0)) (paStar (pVar 2) (paNil)))) (paNil)) (paCons (peOr (pFld "Allowances" "_through" (pVar 0)) (pFld "Allowances" "_through" (pVar 1))) (paNil))))))
theorem pu_Allowances___or__ : FnF m_Allowances___or__ p_Allowances___or__ := fnF_of (N' := []) (ss_seq (N1 := []) (ss_if (xt_not (xt_tru (xv_of (xe_isiC (xv_of (xe_var 1)))))) (ss_bad) (ss_nil))
    (ss_seq (N1 := []) (ss_asg (xe_new (xf_lc (xi_any (xe_fld (xv_of (xe_var 1)))) (xg_nm 3) (xt_val (xv_of (xe_bin op_inP (xv_of (xe_var 3)) (xv_of (xe_fld (xv_of (xe_var 0))))))) (xe_var 3))) (xg_nm 2))
    (ss_retF (xf_makeK pu_Allowances___init__ g_app (xa_cons (xe_new (xf_lst (xa_star (xv_of (xe_fld (xv_of (xe_var 0)))) (xa_star (xv_of (xe_var 2)) (xa_nil))))) (xa_nil)) (xa_cons (xe_or (xe_fld (xv_of (xe_var 0))) (xe_fld (xv_of (xe_var 1)))) (xa_nil))))))
def p_Allowances_through : List T → Q T := pFn 1 1 (pRet (pFld "Allowances" "_through" (pVar 0)))
theorem pu_Allowances_through : FnP m_Allowances_through p_Allowances_through := fn_of (N' := []) (ss_ret (xe_fld (xv_of (xe_var 0))))
def p_Allowances___add__ : List T → Q T := pFnF 2 2 (pRet (pMakeK p_Allowances___init__ 1 1 (fun xs zs => xs ++ zs) (paCons (pLst (paStar (pFld "Allowances" "_rows" (pVar 0)) (paCons (pVar 1) (paNil)))) (paNil)) (paCons (pFld "Allowances" "_through" (pVar 0)) (paNil))))
theorem pu_Allowances___add__ : FnF m_Allowances___add__ p_Allowances___add__ := fnF_of (N' := []) (ss_retF (xf_makeK pu_Allowances___init__ g_app (xa_cons (xe_new (xf_lst (xa_star (xv_of (xe_fld (xv_of (xe_var 0)))) (xa_cons (xe_var 1) (xa_nil))))) (xa_nil)) (xa_cons (xe_fld (xv_of (xe_var 0))) (xa_nil))))
def p_law : List T → Q T := pFn 1 14 (pSeq (pFor (piRg1 (pCall vMax (paCons (pC (.int 1)) (paCons (pCall vMin (paCons (pCall vLen (paCons (pVar 0) (paNil))) (paCons (pC (.int 3)) (paNil)))) (paNil))))) (pgNm 1) (pSeq (pOwn 2 (pCall p__law_pool (paCons (pVar 0) (paCons (pVar 1) (paNil)))))
    (pSeq (qAsg (pgNm 3) (qCallS p__law_parts 2 (qaCons (qOf (pC (.int 4))) (qaNil))))
    (pSeq (qAsg (pgTu 2 (pgsCons (pgNm 4) (pgsCons (pgNm 5) (pgsNil)))) (qTup (qaCons (qCallS p__law_book 2 (qaCons (qOf (pVar 3)) (qaCons (qOf (pC (.int 5))) (qaNil)))) (qaCons (qCallS p__law_book 2 (qaCons (qOf (pVar 3)) (qaCons (qOf (pC (.int 5))) (qaNil)))) (qaNil)))))
    (pSeq (pPar2 6 7 (paCons (pMake p_Allowances___init__ [.bl false] (paCons (pVar 4) (paNil))) (paCons (pMakeK p_Allowances___init__ 1 1 (fun xs zs => xs ++ zs) (paCons (pCall vTup1 (paCons (pVar 5) (paNil))) (paNil)) (paCons (pC (.bl true)) (paNil))) (paNil))))
    (pSeq (pAsg (pgNm 8) (pSortK (pVar 4) (pCall vStrD (paCons (pCall p__law_key (paCons (pVar 0) (paNil))) (paNil))) 0))
    (pSeq (pIfS (pOr (pVal (pBin (uEqP true) (pMeth "Allowances" "rows" p_Allowances_rows (pVar 6) (paNil)) (pVar 8))) (pOr (pVal (pBin (uEqP true) (pCall (vLenO "Allowances" p_Allowances___len__) (paCons (pVar 6) (paNil))) (pCall vLen (paCons (pVar 4) (paNil))))) (pVal (pBin (uOwnNe "Allowances" allTys p_Allowances___eq__) (pMake p_Allowances___init__ [.bl false] (paCons (pRev (pVar 4) (pUn uNeg (pC (.int 1)))) (paNil))) (pVar 6))))) (pRet (pC (.bl false))) (pNil))
    (pSeq (pFor (piAny (pBin uAdd (pVar 4) (pVar 5))) (pgNm 9) (pIfS (pVal (pBin (uEqP true) (pBin (uOwnIn false "Allowances" p_Allowances___contains__) (pVar 9) (pVar 6)) (pBin (uInP false) (pVar 9) (pVar 4)))) (pRet (pC (.bl false))) (pNil)) [9])
    (pSeq (pFor (piAny (pLst (paCons (pC .non) (paCons (pC (.int 5)) (paCons (pC (.str "a")) (paCons (pTup (paNil)) (paCons (pIf (pVal (pBin (uEqP true) (pVar 4) (pLst (paNil)))) (pCall vList1 (paCons (pBin uIx (pVar 4) (pC (.int 0))) (paNil))) (pLst (paNil))) (paCons (pTup (paCons (pBin uIx (pVar 3) (pC (.int 0))) (paCons (pBin uIx (pVar 3) (pC (.int 0))) (paCons (pC (.int 0)) (paCons (pC .non) (paNil)))))) (paNil))))))))) (pgNm 10) (pIfS (pVal (pBin (uOwnIn false "Allowances" p_Allowances___contains__) (pVar 10) (pVar 6))) (pRet (pC (.bl false))) (pNil)) [10])
    (pSeq (pAsg (pgNm 11) (pBin (uOwn "Allowances" [] p_Allowances___or__) (pVar 6) (pVar 7)))
    (pSeq (pIfS (pVal (pBin (uEqP true) (pLst (paCons (pProp "Allowances" p_Allowances_through (pVar 11)) (paCons (pProp "Allowances" p_Allowances_through (pVar 6)) (paCons (pProp "Allowances" p_Allowances_through (pVar 7)) (paNil))))) (pLst (paCons (pC (.bl true)) (paCons (pC (.bl false)) (paCons (pC (.bl true)) (paNil))))))) (pRet (pC (.bl false))) (pNil))
    (pSeq (pAsg (pgNm 12) (pLc (piAny (pVar 5)) (pgNm 9) (pVal (pBin (uInP true) (pVar 9) (pVar 4))) (pVar 9) [9]))
    (pSeq (pIfS (pVal (pBin (uEqP true) (pMeth "Allowances" "rows" p_Allowances_rows (pVar 11) (paNil)) (pSortK (pBin uAdd (pVar 4) (pVar 12)) (pCall vStrD (paCons (pCall p__law_key (paCons (pVar 0) (paNil))) (paNil))) 0))) (pRet (pC (.bl false))) (pNil))
    (pSeq (pAsg (pgNm 13) (pMake p_Allowances___init__ [.tup [], .bl false] (paNil)))
    (pSeq (pFor (piAny (pVar 4)) (pgNm 9) (pAsg (pgNm 13) (pBin (uOwn "Allowances" allTys p_Allowances___add__) (pVar 13) (pVar 9))) [9])
    (pSeq (pIfS (pOr (pVal (pBin (uOwnNe "Allowances" allTys p_Allowances___eq__) (pVar 13) (pVar 6))) (pOr (pVal (pBin (uEqP true) (pCall (vLenO "Allowances" p_Allowances___len__) (paCons (pMake p_Allowances___init__ [.tup [], .bl false] (paNil)) (paNil))) (pC (.int 0)))) (pOr (pVal (pBin (uOwn "Allowances" allTys p_Allowances___eq__) (pVar 6) (pVar 4))) (pVal (pBin (uOwn "Allowances" allTys p_Allowances___eq__) (pVar 6) (pVar 7)))))) (pRet (pC (.bl false))) (pNil))
    (pSeq (pAppF (pMeth "Allowances" "rows" p_Allowances_rows (pVar 6) (paNil)) (pC .non))
    (pIfS (pOr (pVal (pBin (uEqP true) (pMeth "Allowances" "rows" p_Allowances_rows (pVar 6) (paNil)) (pVar 8))) (pVal (pBin (uOwn "Allowances" allTys p_Allowances___eq__) (pMakeK p_Allowances___init__ 1 1 (fun xs zs => xs ++ zs) (paCons (pVar 4) (paNil)) (paCons (pC (.bl true)) (paNil))) (pVar 6)))) (pRet (pC (.bl false))) (pNil)))))))))))))))))) [1, 2, 3, 4, 5, 6, 7, 8, 9, 10, 11, 12, 13])
    (pRet (pC (.bl true))))
theorem pu_law : FnP m_law p_law := fn_of (N' := []) (ss_seq (N1 := []) (ss_for [1, 2, 3, 4, 5, 6, 7, 8, 9, 10, 11, 12, 13] (xi_rg1 (xe_callB op_max (xva_cons (xv_of (xe_int 1)) (xva_cons (xv_of (xe_callB op_min (xva_cons (xv_of (xe_callB op_len (xva_cons (xv_of (xe_var 0)) (xva_nil)))) (xva_cons (xv_of (xe_int 3)) (xva_nil))))) (xva_nil))))) (xg_nm 1) (ss_end (N1 := [2]) (· != 2) (ss_seq (N1 := [2]) (ss_own 2 (xf_call pu__law_pool (xa_cons (xe_var 0) (xa_cons (xe_var 1) (xa_nil)))))
    (ss_seq (N1 := [2]) (sq_asg (se_new (sf_callS 2 pu__law_parts (sa_cons (se_of (xe_int 4)) (sa_nil)))) (xg_nm 3))
    (ss_seq (N1 := [2]) (sq_asg (se_tup (sa_cons (se_new (sf_callS 2 pu__law_book (sa_cons (se_of (xe_var 3)) (sa_cons (se_of (xe_int 5)) (sa_nil))))) (sa_cons (se_new (sf_callS 2 pu__law_book (sa_cons (se_of (xe_var 3)) (sa_cons (se_of (xe_int 5)) (sa_nil))))) (sa_nil)))) (xg_tu (xgs_cons (xg_nm 4) (xgs_cons (xg_nm 5) (xgs_nil)))))
    (ss_seq (N1 := [2]) (ss_par2 6 7 (xa_cons (xe_new (xf_make pu_Allowances___init__ (fun _ _ => (.cons (.bl false) .nil)) (xa_cons (xe_var 4) (xa_nil)))) (xa_cons (xe_new (xf_makeK pu_Allowances___init__ g_app (xa_cons (xe_callB op_tup1 (xva_cons (xv_of (xe_var 5)) (xva_nil))) (xa_nil)) (xa_cons (xe_bl true) (xa_nil)))) (xa_nil))))
    (ss_seq (N1 := [2]) (ss_asg (xe_new (xf_sortK (xv_of (xe_var 4)) (xe_callB op_strD (xva_cons (xv_of (xe_new (xf_call pu__law_key (xa_cons (xe_var 0) (xa_nil))))) (xva_nil))))) (xg_nm 8))
    (ss_seq (N1 := [2]) (ss_if (xt_or (xt_val (xv_of (xe_bin op_eqP (xv_of (xe_new (xf_meth pu_Allowances_rows (xe_var 6) (xa_nil)))) (xv_of (xe_var 8))))) (xt_or (xt_val (xv_of (xe_bin op_eqP (xv_of (xe_call (op_lenO pu_Allowances___len__) (xa_cons (xe_var 6) (xa_nil)))) (xv_of (xe_callB op_len (xva_cons (xv_of (xe_var 4)) (xva_nil))))))) (xt_val (xv_of (xe_binR (op_ownNe pu_Allowances___eq__) (xe_new (xf_make pu_Allowances___init__ (fun _ _ => (.cons (.bl false) .nil)) (xa_cons (xe_rev (xv_of (xe_var 4)) (xv_of (xe_un op_neg (xv_of (xe_int 1))))) (xa_nil)))) (xe_var 6)))))) (ss_ret (xe_bl false)) (ss_nil))
    (ss_seq (N1 := [2]) (ss_for [9] (xi_any (xe_bin op_add (xv_of (xe_var 4)) (xv_of (xe_var 5)))) (xg_nm 9) (ss_if (xt_val (xv_of (xe_bin op_eqP (xv_of (xe_binR (op_ownIn pu_Allowances___contains__) (xe_var 9) (xe_var 6))) (xv_of (xe_bin op_inP (xv_of (xe_var 9)) (xv_of (xe_var 4))))))) (ss_ret (xe_bl false)) (ss_nil)))
    (ss_seq (N1 := [2]) (ss_for [10] (xi_any (xe_new (xf_lst (xa_cons (xe_non) (xa_cons (xe_int 5) (xa_cons (xe_str "a") (xa_cons (xe_tup (xa_nil)) (xa_cons (xe_if (xt_val (xv_of (xe_bin op_eqP (xv_of (xe_var 4)) (xv_of (xe_new (xf_lst (xa_nil))))))) (xe_new (xf_callB op_list1 (xva_cons (xv_of (xe_bin op_ix (xv_of (xe_var 4)) (xv_of (xe_int 0)))) (xva_nil)))) (xe_new (xf_lst (xa_nil)))) (xa_cons (xe_tup (xa_cons (xe_bin op_ix (xv_of (xe_var 3)) (xv_of (xe_int 0))) (xa_cons (xe_bin op_ix (xv_of (xe_var 3)) (xv_of (xe_int 0))) (xa_cons (xe_int 0) (xa_cons (xe_non) (xa_nil)))))) (xa_nil)))))))))) (xg_nm 10) (ss_if (xt_val (xv_of (xe_binR (op_ownIn pu_Allowances___contains__) (xe_var 10) (xe_var 6)))) (ss_ret (xe_bl false)) (ss_nil)))
    (ss_seq (N1 := [2]) (ss_asg (xe_binR (op_own pu_Allowances___or__.P) (xe_var 6) (xe_var 7)) (xg_nm 11))
    (ss_seq (N1 := [2]) (ss_if (xt_val (xv_of (xe_bin op_eqP (xv_of (xe_new (xf_lst (xa_cons (xe_prop pu_Allowances_through (xe_var 11)) (xa_cons (xe_prop pu_Allowances_through (xe_var 6)) (xa_cons (xe_prop pu_Allowances_through (xe_var 7)) (xa_nil))))))) (xv_of (xe_new (xf_lst (xa_cons (xe_bl true) (xa_cons (xe_bl false) (xa_cons (xe_bl true) (xa_nil)))))))))) (ss_ret (xe_bl false)) (ss_nil))
    (ss_seq (N1 := [2]) (ss_asg (xe_new (xf_lc (xi_any (xe_var 5)) (xg_nm 9) (xt_val (xv_of (xe_bin op_inP (xv_of (xe_var 9)) (xv_of (xe_var 4))))) (xe_var 9))) (xg_nm 12))
    (ss_seq (N1 := [2]) (ss_if (xt_val (xv_of (xe_bin op_eqP (xv_of (xe_new (xf_meth pu_Allowances_rows (xe_var 11) (xa_nil)))) (xv_of (xe_new (xf_sortK (xv_of (xe_bin op_add (xv_of (xe_var 4)) (xv_of (xe_var 12)))) (xe_callB op_strD (xva_cons (xv_of (xe_new (xf_call pu__law_key (xa_cons (xe_var 0) (xa_nil))))) (xva_nil))))))))) (ss_ret (xe_bl false)) (ss_nil))
    (ss_seq (N1 := [2]) (ss_asg (xe_new (xf_make pu_Allowances___init__ (fun _ _ => (.cons (.tup .nil) (.cons (.bl false) .nil))) (xa_nil))) (xg_nm 13))
    (ss_seq (N1 := [2]) (ss_for [9] (xi_any (xe_var 4)) (xg_nm 9) (ss_asg (xe_binR (op_own pu_Allowances___add__.P) (xe_var 13) (xe_var 9)) (xg_nm 13)))
    (ss_seq (N1 := [2]) (ss_if (xt_or (xt_val (xv_of (xe_binR (op_ownNe pu_Allowances___eq__) (xe_var 13) (xe_var 6)))) (xt_or (xt_val (xv_of (xe_bin op_eqP (xv_of (xe_call (op_lenO pu_Allowances___len__) (xa_cons (xe_new (xf_make pu_Allowances___init__ (fun _ _ => (.cons (.tup .nil) (.cons (.bl false) .nil))) (xa_nil))) (xa_nil)))) (xv_of (xe_int 0))))) (xt_or (xt_val (xv_of (xe_binR (op_own pu_Allowances___eq__) (xe_var 6) (xe_var 4)))) (xt_val (xv_of (xe_binR (op_own pu_Allowances___eq__) (xe_var 6) (xe_var 7))))))) (ss_ret (xe_bl false)) (ss_nil))
    (ss_seq (N1 := [2]) (ss_appF (xf_meth pu_Allowances_rows (xe_var 6) (xa_nil)) (xe_non))
    (ss_if (xt_or (xt_val (xv_of (xe_bin op_eqP (xv_of (xe_new (xf_meth pu_Allowances_rows (xe_var 6) (xa_nil)))) (xv_of (xe_var 8))))) (xt_val (xv_of (xe_binR (op_own pu_Allowances___eq__) (xe_new (xf_makeK pu_Allowances___init__ g_app (xa_cons (xe_var 4) (xa_nil)) (xa_cons (xe_bl true) (xa_nil)))) (xe_var 6))))) (ss_ret (xe_bl false)) (ss_nil))))))))))))))))))))
    (ss_ret (xe_bl true)))
open Classical
structure Row where
  p : Str
  q : Str
  s : Int
  e : Option Int
deriving DecidableEq
def tillT : Option Int → T
  | none => .non
  | some i => .int i
def rowT (r : Row) : T := .tup [.str r.p, .str r.q, .int r.s, tillT r.e]
def GoodW (x : Str) : Prop := p_is_word [.str x] = .ok (.bl true)
structure GoodR (r : Row) : Prop where
  p : GoodW r.p
  q : GoodW r.q
  ne : r.p ≠ r.q
  s0 : 0 ≤ r.s
  s1 : r.s ≤ 9999
  e : ∀ e, r.e = some e → r.s ≤ e ∧ e ≤ 9999
theorem isi_int {i : Int} : uIsi "int" (.int i) = .ok (.bl true) := by kernel_rfl
theorem isi_bool {i : Int} : uIsi "bool" (.int i) = .ok (.bl false) := by kernel_rfl
theorem date_p {i : Int} (h0 : 0 ≤ i) (h1 : i ≤ 9999) : p_is_date [.int i] = .ok (.bl true) := by
  have hk : p_is_integer [.int i, .int 0, .int 9999] = .ok (.bl true) := by
    simp [p_is_integer, pFn, pRet, PR.of, peAnd, peNot, pIsi, isi_int, isi_bool, pVar, pCh, q_le, Q.bind, h0, h1, finP]
  simp [p_is_date, pFn, pRet, PR.of, pCall, paCons, paNil, pVar, pC, Q.bind, hk, finP]
theorem isi_tup {ts : List T} : uIsi "tuple" (.tup ts) = .ok (.bl true) := by kernel_rfl
theorem tTru {b : Bool} : uTru (.bl b) = .ok b := rfl
theorem allow_p {r : Row} (g : GoodR r) : p_is_allowance [rowT r] = .ok (.bl true) := by
  have hp : p_is_word [.str r.p] = .ok (.bl true) := g.p
  have hq : p_is_word [.str r.q] = .ok (.bl true) := g.q
  have hd := date_p g.s0 g.s1
  have hne : r.p ≠ r.q := g.ne
  have h4 : uEqP true (.int 4) (.int 4) = .ok (.bl false) := by kernel_rfl
  unfold rowT
  cases he : r.e with
  | none =>
    simp [p_is_allowance, pFn, pSeq, pIfS, pOr, pNot, pTru, pIsi, isi_tup, tTru, pVal, pBin, pVar, pC, pCall, paCons, paNil, Q.bind, PR.of, Pu.vLen, v1, uLen, h4, pAsg, pgTu, pgsCons, pgsNil, pgNm, hp, hq, hd, uEqP_str, hne, pNil, pRet, peOr, tillT, uIs_non, finP]
  | some e =>
    obtain ⟨e0, e1⟩ := g.e e he
    have hd2 := date_p (i := e) (by have := g.s0; omega) e1
    simp [p_is_allowance, pFn, pSeq, pIfS, pOr, pNot, pTru, pIsi, isi_tup, tTru, pVal, pBin, pVar, pC, pCall, paCons, paNil, Q.bind, PR.of, Pu.vLen, v1, uLen, h4, pAsg, pgTu, pgsCons, pgsNil, pgNm, hp, hq, hd, uEqP_str, hne, pNil, pRet, peOr, peAnd, tillT, uIs_int, hd2, q_le, e0, finP]
def tillN : Option Int → NestedKey
  | none => .none
  | some i => .num i
def keyN (r : Row) : NestedKey := .tup [.text r.p, .text r.q, .num r.s, tillN r.e]
theorem keyN_inj {a b : Row} (h : keyN a = keyN b) : a = b := by
  unfold keyN at h
  injection h with h
  injection h with h1 h
  injection h with h2 h
  injection h with h3 h
  injection h with h4 h
  cases a with
  | mk p q s e => cases b with
    | mk p' q' s' e' =>
      injection h1 with h1
      injection h2 with h2
      injection h3 with h3
      dsimp only at h1 h2 h3 h4
      subst h1; subst h2; subst h3
      cases e with
      | none => cases e' with
        | none => rfl
        | some i => cases h4
      | some i => cases e' with
        | none => cases h4
        | some j => injection h4 with h4; subst h4; rfl
theorem tupNk_row (r : Row) : tupNk (rowT r) = some (keyN r) := by
  unfold rowT keyN
  cases r.e with
  | none => rfl
  | some e => rfl
theorem inSN_row (r : Row) (ks : List NestedKey) : uInSN false (rowT r) (.sT ks) = .ok (.bl (ks.contains (keyN r))) := by
  unfold uInSN
  rw [tupNk_row]
  simp
def endN : Option Int → Int
  | none => 10000
  | some i => i
def keyO (r : Row) : NestedKey := .tup [.text r.p, .text r.q, .num r.s, .num (endN r.e)]
theorem pgTu4 {a b c d : T} {i j k l : Nat} {s : PS} : pgTu 4 (pgsCons (pgNm i) (pgsCons (pgNm j) (pgsCons (pgNm k) (pgsCons (pgNm l) pgsNil)))) (.tup [a, b, c, d]) s = some ((((s.set i (some a)).set j (some b)).set k (some c)).set l (some d)) := rfl
theorem mapO_map {α β γ : Type} {f : β → Option γ} {g : α → β} {k : α → γ} (h : ∀ a, f (g a) = some (k a)) : ∀ xs : List α, mapO f (xs.map g) = some (xs.map k)
  | [] => rfl
  | x :: xs => by
    rw [List.map_cons, mapO, h, mapO_map h xs]
    rfl
theorem alikeN_O (rs : List Row) : alikeN (rs.map keyO) = true := by
  unfold alikeN
  rw [List.all_eq_true]
  intro a ha
  rw [List.all_eq_true]
  intro b hb
  obtain ⟨x, _, rfl⟩ := List.mem_map.mp ha
  obtain ⟨y, _, rfl⟩ := List.mem_map.mp hb
  rfl
theorem firmN_O (rs : List Row) : firmN (rs.map keyO) = true := by
  unfold firmN
  rw [List.all_eq_true]
  intro a ha
  obtain ⟨x, _, rfl⟩ := List.mem_map.mp ha
  rfl
theorem endN_inj {rs : List Row} (hg : ∀ r ∈ rs, GoodR r) : ∀ a ∈ rs, ∀ b ∈ rs, keyO a = keyO b → a = b := by
  intro a ha b hb h
  have ga := (hg a ha).e
  have gb := (hg b hb).e
  unfold keyO at h
  injection h with h
  injection h with h1 h
  injection h with h2 h
  injection h with h3 h
  injection h with h4 h
  cases a with
  | mk p q s e => cases b with
    | mk p' q' s' e' =>
      injection h1 with h1
      injection h2 with h2
      injection h3 with h3
      injection h4 with h4
      dsimp only at h1 h2 h3 h4 ga gb
      subst h1; subst h2; subst h3
      cases e with
      | none => cases e' with
        | none => rfl
        | some i => have := (gb i rfl).2; unfold endN at h4; dsimp only at h4; omega
      | some i => cases e' with
        | none => have := (ga i rfl).2; unfold endN at h4; dsimp only at h4; omega
        | some j => unfold endN at h4; dsimp only at h4; subst h4; rfl
theorem dedU_id {α : Type} [DecidableEq α] {xs : List α} (h : xs.Nodup) : (dedU xs).Perm xs := perm_of_mem (dedU_nd xs) h fun y => dedU_mem
theorem map_nodup {α β : Type} {f : α → β} : ∀ {xs : List α}, xs.Nodup → (∀ a ∈ xs, ∀ b ∈ xs, f a = f b → a = b) → (xs.map f).Nodup
  | [], _, _ => List.nodup_nil
  | x :: xs, h, inj => by
    rw [List.nodup_cons] at h
    rw [List.map_cons, List.nodup_cons]
    refine ⟨fun z => ?_, map_nodup h.2 fun a ha b hb => inj a (List.mem_cons_of_mem _ ha) b (List.mem_cons_of_mem _ hb)⟩
    obtain ⟨y, hy, e⟩ := List.mem_map.mp z
    have := inj y (List.mem_cons_of_mem _ hy) x List.mem_cons_self e
    subst this
    exact h.1 hy
theorem perm_map_inv {α β : Type} {f : α → β} : ∀ {xs : List α} {ys : List β}, ys.Perm (xs.map f) → ∃ zs : List α, zs.Perm xs ∧ ys = zs.map f
  | xs, [], h => by
    have : xs.map f = [] := (List.nil_perm.mp h)
    have : xs = [] := List.map_eq_nil_iff.mp this
    subst this
    exact ⟨[], .refl _, rfl⟩
  | xs, y :: ys, h => by
    have hy : y ∈ xs.map f := h.mem_iff.mp List.mem_cons_self
    obtain ⟨x, hx, rfl⟩ := List.mem_map.mp hy
    obtain ⟨l, r, rfl⟩ := List.append_of_mem hx
    have p1 : (f x :: ys).Perm (f x :: (l ++ r).map f) := h.trans (by rw [List.map_append, List.map_cons, List.map_append]; exact List.perm_middle)
    obtain ⟨zs, p2, rfl⟩ := perm_map_inv (List.perm_cons _ |>.mp p1)
    exact ⟨x :: zs, (p2.cons x).trans List.perm_middle.symm, rfl⟩
/-- a book of rows -/
def bookT (rs : List Row) (ch : Bool) : T := .ins "Allowances" [("_rows", .tup (rs.map rowT)), ("_through", .bl ch)]
def actR (d : Int) (r : Row) : Bool := decide (r.s ≤ d) && (match r.e with
  | none => true
  | some e => decide (d ≤ e))
def hit (d : Int) (x : Str) (r : Row) : Bool := decide (r.q = x) && actR d r
def outs (rs : List Row) (d : Int) (x : Str) : List Str := (rs.filter (hit d x)).map (·.p)
def add1 (f : List Str) (p : Str) : List Str := if p ∈ f then f else f ++ [p]
def addAll (f : List Str) (ps : List Str) : List Str := ps.foldl add1 f
theorem add1_mem {f : List Str} {p y : Str} : y ∈ add1 f p ↔ y ∈ f ∨ y = p := by
  unfold add1
  split
  · rename_i h
    exact ⟨.inl, fun z => z.elim id fun e => e ▸ h⟩
  · simp
theorem addAll_mem {y : Str} : ∀ {ps f : List Str}, y ∈ addAll f ps ↔ y ∈ f ∨ y ∈ ps
  | [], f => by simp [addAll]
  | p :: ps, f => by
    show y ∈ addAll (add1 f p) ps ↔ _
    rw [addAll_mem, add1_mem, List.mem_cons, or_assoc]
theorem add1_nd {f : List Str} {p : Str} (h : f.Nodup) : (add1 f p).Nodup := by
  unfold add1
  split
  · exact h
  · rename_i hp
    rw [List.nodup_append]
    exact ⟨h, List.nodup_cons.mpr ⟨by simp, List.nodup_nil⟩, fun a ha b hb e => hp (by simp at hb; rw [← hb, ← e]; exact ha)⟩
theorem addAll_nd : ∀ {ps f : List Str}, f.Nodup → (addAll f ps).Nodup
  | [], f, h => h
  | p :: ps, f, h => addAll_nd (ps := ps) (f := add1 f p) (add1_nd h)
theorem add1_pre (f : List Str) (p : Str) : f <+: add1 f p := by
  unfold add1
  split
  · exact List.prefix_refl _
  · exact List.prefix_append _ _
theorem addAll_pre : ∀ (ps f : List Str), f <+: addAll f ps
  | [], f => List.prefix_refl _
  | p :: ps, f => (add1_pre f p).trans (addAll_pre ps _)
theorem pre_at {α : Type} {a b : List α} (h : a <+: b) {i : Nat} {x : α} (e : a[i]? = some x) : b[i]? = some x := by
  obtain ⟨z, rfl⟩ := h
  have hi := (List.getElem?_eq_some_iff.mp e).1
  rw [List.getElem?_append_left hi]
  exact e
theorem outs_mem {rs : List Row} {d : Int} {x y : Str} : y ∈ outs rs d x ↔ ∃ r ∈ rs, hit d x r = true ∧ r.p = y := by
  unfold outs
  simp only [List.mem_map, List.mem_filter]
  exact ⟨fun ⟨r, ⟨h1, h2⟩, e⟩ => ⟨r, h1, h2, e⟩, fun ⟨r, h1, h2, e⟩ => ⟨r, ⟨h1, h2⟩, e⟩⟩
/-- what stands for x, through or not -/
inductive Reach (E : Str → Str → Prop) (x : Str) : Str → Prop where
  | refl : Reach E x x
  | step {y z : Str} (h : Reach E x y) (e : E y z) : Reach E x z
def Cand (ch : Bool) (E : Str → Str → Prop) (x y : Str) : Prop := if ch = true then Reach E x y else y = x ∨ E x y
def edge (rs : List Row) (d : Int) (y z : Str) : Prop := z ∈ outs rs d y
/-- the lists found on the way: f, of which n were looked at -/
structure Found (ch : Bool) (rs : List Row) (d : Int) (x : Str) (f : List Str) (n : Nat) : Prop where
  nd : f.Nodup
  hd : f[0]? = some x
  le : n ≤ f.length
  sound : ∀ y ∈ f, Cand ch (edge rs d) x y
  done : ∀ i y, i < n → f[i]? = some y → ∀ z ∈ outs rs d y, z ∈ f
  part : ∀ y ∈ f, y = x ∨ y ∈ rs.map (·.p)
theorem Found.step {ch : Bool} {rs : List Row} {d : Int} {x : Str} {f : List Str} {n : Nat} (F : Found ch rs d x f n) {y : Str} (e : f[n]? = some y) (hn : ch = true ∨ n = 0) : Found ch rs d x (addAll f (outs rs d y)) (n + 1) where
  nd := addAll_nd F.nd
  hd := pre_at (addAll_pre _ _) F.hd
  le := by
    have h1 := (List.getElem?_eq_some_iff.mp e).1
    have h2 := (addAll_pre (outs rs d y) f).length_le
    omega
  sound z hz := by
    rcases addAll_mem.mp hz with h | h
    · exact F.sound z h
    · have hy := F.sound y (List.mem_of_getElem? e)
      unfold Cand at hy ⊢
      split
      · rename_i hc
        rw [if_pos hc] at hy
        exact .step hy h
      · rename_i hc
        have h0 : n = 0 := hn.resolve_left hc
        subst h0
        rw [F.hd] at e
        cases e
        exact .inr h
  done i z hi ez w hw := by
    by_cases hin : i = n
    · subst hin
      have : z = y := by
        have := pre_at (addAll_pre (outs rs d y) f) e
        rw [this] at ez
        cases ez
        rfl
      subst this
      exact addAll_mem.mpr (.inr hw)
    · have hlt : i < f.length := by have := F.le; omega
      have : f[i]? = some z := by
        rw [List.getElem?_eq_getElem hlt] at *
        have := pre_at (addAll_pre (outs rs d y) f) (List.getElem?_eq_getElem hlt)
        rw [this] at ez
        exact ez
      exact addAll_mem.mpr (.inl (F.done i z (by omega) this w hw))
  part z hz := by
    rcases addAll_mem.mp hz with h | h
    · exact F.part z h
    · obtain ⟨r, hr, _, rfl⟩ := outs_mem.mp h
      exact .inr (List.mem_map.mpr ⟨r, hr, rfl⟩)
theorem nd_len {α : Type} [DecidableEq α] : ∀ {a b : List α}, a.Nodup → a ⊆ b → a.length ≤ b.length
  | [], b, _, _ => Nat.zero_le _
  | x :: a, b, h, s => by
    rw [List.nodup_cons] at h
    have hx : x ∈ b := s List.mem_cons_self
    have z := nd_len (a := a) (b := b.erase x) h.2 fun y hy => (List.mem_erase_of_ne (fun e : y = x => h.1 (by rw [← e]; exact hy))).mpr (s (List.mem_cons_of_mem _ hy))
    rw [List.length_erase_of_mem hx] at z
    have := List.length_pos_of_mem hx
    rw [List.length_cons]
    omega
theorem Found.few {ch : Bool} {rs : List Row} {d : Int} {x : Str} {f : List Str} {n : Nat} (F : Found ch rs d x f n) : f.length ≤ rs.length + 1 := by
  have : f ⊆ x :: rs.map (·.p) := fun y hy => by
    rcases F.part y hy with rfl | h
    · exact List.mem_cons_self
    · exact List.mem_cons_of_mem _ h
  have := nd_len F.nd this
  simpa using this
/-- all were looked at, or the first one where nothing goes through -/
theorem Found.all {ch : Bool} {rs : List Row} {d : Int} {x : Str} {f : List Str} {n : Nat} (F : Found ch rs d x f n) (h : if ch = true then n = f.length else 1 ≤ n) (y : Str) : y ∈ f ↔ Cand ch (edge rs d) x y := by
  refine ⟨F.sound y, fun c => ?_⟩
  have hx : x ∈ f := List.mem_of_getElem? F.hd
  unfold Cand at c
  cases ch with
  | true =>
    rw [if_pos rfl] at c h
    induction c with
    | refl => exact hx
    | step _ e ih =>
      obtain ⟨i, hi⟩ := List.mem_iff_getElem?.mp ih
      have := (List.getElem?_eq_some_iff.mp hi).1
      exact F.done i _ (by omega) hi _ e
  | false =>
    rw [if_neg (by simp)] at c h
    rcases c with rfl | e
    · exact hx
    · exact F.done 0 x (by omega) F.hd y e
theorem draw_eq : p__law_draw = pcDraw := rfl
theorem pool_eq : p__law_pool = pcPool := rfl
theorem pick_eq : p__law_pick = pcPick := rfl
theorem parts_eq : p__law_parts = pcParts := rfl
def abc : Str := Str.ofString "abcdefghijklmnopqrstuvwxyz"
def letterS (j : Int) : Str := ⟨#[(97 + j).toNat]⟩
def tails : List Str := [Str.ofString "", Str.ofString "", Str.ofString "q", Str.ofString "abcdefg"]
theorem letter_p {j : Int} (h0 : 0 ≤ j) (h1 : j < 26) : uIx (.str abc) (.int j) = .ok (.str (letterS j)) := by
  obtain ⟨n, rfl⟩ := Int.eq_ofNat_of_zero_le h0
  have hn : n < 26 := by omega
  clear h0 h1
  have key : (List.range 26).map (fun n : Nat => uIx (.str abc) (.int (n : Int))) = (List.range 26).map fun n : Nat => Q.ok (.str (letterS (n : Int))) := by kernel_rfl
  exact List.map_inj_left.mp key n (List.mem_range.mpr hn)
theorem word_p {j : Int} (h0 : 0 ≤ j) (h1 : j < 26) {x : Str} (hx : x ∈ tails) : GoodW (letterS j ++ x) ∧ (letterS j).length + x.length ≤ lim := by
  obtain ⟨n, rfl⟩ := Int.eq_ofNat_of_zero_le h0
  have hn : n < 26 := by omega
  clear h0 h1
  have key : (List.range 26).map (fun n : Nat => tails.map fun x => p_is_word [.str (letterS (n : Int) ++ x)]) = (List.range 26).map fun n : Nat => tails.map fun x => Q.ok (.bl true) := by kernel_rfl
  refine ⟨List.map_inj_left.mp (List.map_inj_left.mp key n (List.mem_range.mpr hn)) x hx, ?_⟩
  have hl : (letterS (n : Int)).length = 1 := rfl
  have hx' : x.length ≤ 7 := by
    unfold tails at hx
    simp only [List.mem_cons, List.not_mem_nil, or_false] at hx
    rcases hx with rfl | rfl | rfl | rfl <;> decide +kernel
  rw [hl]
  unfold lim
  omega
def tillD : Option Int → PyData
  | none => .none
  | some i => .int i
def dataR (r : Row) : PyData := .tuple [.str r.p, .str r.q, .int r.s, tillD r.e]
theorem tD_row (n : Nat) (r : Row) : tD (n + 1) (rowT r) = some (dataR r) := by
  unfold rowT dataR
  cases r.e <;> (cases n <;> rfl)
theorem tDs_rows (n : Nat) : ∀ rs : List Row, tDs (n + 1) (rs.map rowT) = some (rs.map dataR)
  | [] => by unfold tDs; rfl
  | r :: rs => by
    rw [List.map_cons]
    unfold tDs
    rw [tD_row, tDs_rows n rs]
    rfl
theorem plain_row (r : Row) : (dataR r).plain = true := by
  unfold dataR
  cases r.e <;> rfl
theorem inP_row (r : Row) (rs : List Row) : ∃ b : Bool, uInP true (rowT r) (.lst (rs.map rowT)) = .ok (.bl b) ∧ (b = true → r ∉ rs) := by
  unfold uInP
  rw [tD_row 7 r, show tD 8 (.lst (rs.map rowT)) = some (.list (rs.map dataR)) by unfold tD; rw [tDs_rows 6]; rfl]
  refine ⟨_, rfl, fun h hr => ?_⟩
  have : ((rs.map dataR).any fun z => PyData.eqv z (dataR r)) = true := List.any_eq_true.mpr ⟨dataR r, List.mem_map.mpr ⟨r, hr, rfl⟩, PySem.SeqAt.eqv_refl_plain _ (plain_row r)⟩
  rw [this] at h
  cases h
theorem tills {since : Int} {x : T} (h0 : 0 ≤ since) (h1 : since < 4) (hx : x ∈ [T.non, .non, .int since, .int (since + 2), .int 9999]) : ∃ e : Option Int, x = tillT e ∧ ∀ i, e = some i → since ≤ i ∧ i ≤ 9999 := by
  simp only [List.mem_cons, List.not_mem_nil, or_false] at hx
  rcases hx with rfl | rfl | rfl | rfl | rfl
  · exact ⟨none, rfl, fun i h => by cases h⟩
  · exact ⟨none, rfl, fun i h => by cases h⟩
  · exact ⟨some since, rfl, fun i h => by cases h; omega⟩
  · exact ⟨some (since + 2), rfl, fun i h => by cases h; omega⟩
  · exact ⟨some 9999, rfl, fun i h => by cases h; omega⟩
theorem book_draw {t : T} (ht : PoolT t) {ws : List Str} (hw : ∀ x ∈ ws, GoodW x) (hne : ws ≠ []) (hlw : ws.length ≤ 100) {m : Nat} (hm : m ≤ 12) : ∃ (rs : List Row) (t' : T), p__law_book t [.lst (ws.map T.str), .int (m : Nat)] = .ok (.lst (rs.map rowT)) t' ∧ rs.Nodup ∧ (∀ r ∈ rs, GoodR r ∧ r.p ∈ ws ∧ r.q ∈ ws) ∧ rs.length ≤ m ∧ PoolT t' := by
  generalize hL : T.lst (ws.map T.str) = L
  have loop : OkN ((pFor (piRg1 (pVar 2)) (pgNm 4) (pSeq (qPar3 5 6 7 (qaCons (qCallS p__law_pick 0 (qaCons (qOf (pVar 1)) (qaNil))) (qaCons (qCallS p__law_pick 0 (qaCons (qOf (pVar 1)) (qaNil))) (qaCons (qCallS p__law_draw 0 (qaCons (qOf (pC (.int 4))) (qaNil))) (qaNil)))))
    (pSeq (qAsg (pgNm 8) (qTup (qaCons (qOf (pVar 5)) (qaCons (qOf (pVar 6)) (qaCons (qOf (pVar 7)) (qaCons (qCallS p__law_pick 0 (qaCons (qOf (pLst (paCons (pC .non) (paCons (pC .non) (paCons (pVar 7) (paCons (pBin uAdd (pVar 7) (pC (.int 2))) (paCons (pC (.int 9999)) (paNil)))))))) (qaNil))) (qaNil)))))))
    (pIfS (pAnd (pVal (pBin (uEqP true) (pVar 5) (pVar 6))) (pVal (pBin (uInP true) (pVar 8) (pVar 3)))) (pApp 3 (pVar 8)) (pNil)))) [4, 5, 6, 7, 8]) [some t, some L, some (.int (m : Nat)), some (.lst []), none, none, none, none, none])
    (fun s => ∃ (rs : List Row) (t' : T), rs.Nodup ∧ (∀ r ∈ rs, GoodR r ∧ r.p ∈ ws ∧ r.q ∈ ws) ∧ rs.length ≤ m ∧ PoolT t' ∧ s = [some t', some L, some (.int (m : Nat)), some (.lst (rs.map rowT)), none, none, none, none, none]) := by
    have hlen : (uRg 0 m).length = m := by unfold uRg; simp
    refine okN_forI (I := fun i s => ∃ (rs : List Row) (t' : T), rs.Nodup ∧ (∀ r ∈ rs, GoodR r ∧ r.p ∈ ws ∧ r.q ∈ ws) ∧ rs.length ≤ i ∧ PoolT t' ∧ s = [some t', some L, some (.int (m : Nat)), some (.lst (rs.map rowT)), none, none, none, none, none]) (xs := uRg 0 m) (range_p (m := (m : Int)) (by omega) (by omega) rfl) hlen ⟨[], t, List.nodup_nil, by simp, by simp, ht, rfl⟩ fun i x hx s hs => ?_
    obtain ⟨j, rfl, _, _⟩ := mem_uRg (List.mem_of_getElem? hx)
    have hi : i < m := by
      have := (List.getElem?_eq_some_iff.mp hx).1
      omega
    obtain ⟨rs, t0, nd, hg, hr, pt0, rfl⟩ := hs
    refine ⟨_, rfl, ?_⟩
    have hne' : ws.map T.str ≠ [] := fun e => hne (List.map_eq_nil_iff.mp e)
    obtain ⟨x1, t1, m1, e1, pt1⟩ := pick_p pt0 (xs := ws.map T.str) hne' (by rw [List.length_map]; omega)
    obtain ⟨x2, t2, m2, e2, pt2⟩ := pick_p pt1 (xs := ws.map T.str) hne' (by rw [List.length_map]; omega)
    obtain ⟨v, t3, e3, v0, v1, pt3⟩ := draw_p pt2 (m := 4) (by decide) (by decide +kernel)
    obtain ⟨a, ha, rfl⟩ := List.mem_map.mp m1
    obtain ⟨b, hb, rfl⟩ := List.mem_map.mp m2
    obtain ⟨x4, t4, m4, e4, pt4⟩ := pick_p pt3 (xs := [T.non, .non, .int v, .int (v + 2), .int 9999]) (by simp) (by simp)
    obtain ⟨e, rfl, he⟩ := tills v0 v1 m4
    rw [hL] at e1 e2
    refine okN_seqE (s' := [some t3, some L, some (.int (m : Nat)), some (.lst (rs.map rowT)), some (.int j), some (.str a), some (.str b), some (.int v), none]) ?_ ?_
    · simp [qPar3, qaCons, qaNil, qCallS, qOf, lift, PR.bind, goS, Pu.own, pVar, pC, pick_eq, draw_eq, e1, e2, e3]
    refine okN_seqE (s' := [some t4, some L, some (.int (m : Nat)), some (.lst (rs.map rowT)), some (.int j), some (.str a), some (.str b), some (.int v), some (rowT ⟨a, b, v, e⟩)]) ?_ ?_
    · simp [qAsg, qTup, qaCons, qaNil, qCallS, qOf, lift, PR.bind, goS, Pu.own, pVar, pC, pick_eq, pLst, paCons, paNil, pBin, q_add, Q.bind, lim, e4, pgNm, rowT]
    obtain ⟨bb, eb, hb'⟩ := inP_row ⟨a, b, v, e⟩ rs
    refine okN_if (x := !decide (a = b) && bb) (and_e (val_e (bin_e rfl rfl (by rw [uEqP_str, Bool.true_bne]))) fun _ => val_e (bin_e rfl rfl eb)) (fun h => ?_) (fun h => ?_)
    · rw [Bool.and_eq_true] at h
      have hab : a ≠ b := by simpa using h.1
      refine okN_eq (app_e rfl rfl (by rw [List.length_map]; unfold lim; omega)) ⟨rs ++ [⟨a, b, v, e⟩], t4, ?_, fun r hr' => ?_, by rw [List.length_append]; simp; omega, pt4, by rw [List.map_append]; rfl⟩
      · rw [List.nodup_append]
        exact ⟨nd, by simp, fun c hc d hd e' => hb' h.2 (by simp at hd; rw [← hd, ← e']; exact hc)⟩
      · rcases List.mem_append.mp hr' with h' | h'
        · exact hg r h'
        · have : r = ⟨a, b, v, e⟩ := by simpa using h'
          subst this
          exact ⟨⟨hw a ha, hw b hb, hab, v0, by dsimp only; omega, he⟩, ha, hb⟩
    · exact ⟨_, rfl, rs, t4, nd, hg, by omega, pt4, rfl⟩
  obtain ⟨s1, e1, rs, t', nd, hg, hl, pt', rfl⟩ := loop
  refine ⟨rs, t', ?_, nd, hg, hl, pt'⟩
  unfold p__law_book qFnF
  rw [if_pos (show [L, T.int (m : Nat)].length + 1 = 3 from rfl)]
  have step : ∀ {q : PR PFl} {t u : T} {s : PS}, q = .ok (.rt t) s → Pu.own 0 s = some u → fin1F q = .ok t u := fun e o => by rw [e]; simp [fin1F, o]
  exact step (seq_e rfl (seq_e e1 (ret_e rfl))) rfl
/-- a short word of small letters -/
def Wd (x : Str) : Prop := (∀ c ∈ x.cps.toList, 97 ≤ c ∧ c ≤ 122) ∧ x.length ≤ 8
theorem wd_p {j : Int} (h0 : 0 ≤ j) (h1 : j < 26) {x : Str} (hx : x ∈ tails) : Wd (letterS j ++ x) := by
  obtain ⟨n, rfl⟩ := Int.eq_ofNat_of_zero_le h0
  have hn : n < 26 := by omega
  have key : ((List.range 26).all fun n : Nat => tails.all fun x => (letterS (n : Int) ++ x).cps.toList.all (fun c => decide (97 ≤ c) && decide (c ≤ 122)) && decide ((letterS (n : Int) ++ x).length ≤ 8)) = true := by decide +kernel
  have k2 := List.all_eq_true.mp (List.all_eq_true.mp key n (List.mem_range.mpr hn)) x hx
  rw [Bool.and_eq_true] at k2
  refine ⟨fun c hc => ?_, of_decide_eq_true k2.2⟩
  have k3 := List.all_eq_true.mp k2.1 c hc
  rw [Bool.and_eq_true] at k3
  exact ⟨of_decide_eq_true k3.1, of_decide_eq_true k3.2⟩
theorem parts_u {t : T} (ht : PoolT t) {m : Nat} (hm : m ≤ 4) : ∃ (ws : List Str) (t' : T), p__law_parts t [.int (m : Nat)] = .ok (.lst (ws.map T.str)) t' ∧ ws.length = m ∧ (∀ x ∈ ws, GoodW x) ∧ (∀ x ∈ ws, Wd x) ∧ ws.Nodup ∧ PoolT t' := by
  obtain ⟨v, t1, e1, v0, v1, pt1⟩ := draw_p ht (m := 26) (by decide) (by decide +kernel)
  obtain ⟨w, t2, e2, w0, w1, pt2⟩ := draw_p pt1 (m := 6) (by decide) (by decide +kernel)
  obtain ⟨x, t3, hx, e3, pt3⟩ := pick_p pt2 (xs := tails.map T.str) (by simp [tails]) (by simp [tails])
  obtain ⟨tl, htl, rfl⟩ := List.mem_map.mp hx
  have q1 : mulOk 2 w = true := mulOk_l (by decide) (by decide)
  have q2 : ∀ i : Int, mulOk (1 + 2 * w) i = true := fun i => mulOk_l (by omega) (by omega)
  have htails : tails.map T.str = [.str (Str.ofString ""), .str (Str.ofString ""), .str (Str.ofString "q"), .str (Str.ofString "abcdefg")] := rfl
  rw [htails] at e3
  refine ⟨(List.range m).map fun i : Nat => letterS ((v + (1 + 2 * w) * (i : Int)) % 26) ++ tl, t3, ?_, by simp, fun y hy => ?_, fun y hy => ?_, ?_, pt3⟩
  · rw [parts_eq]
    unfold pcParts qFnF
    rw [if_pos (show [T.int (m : Nat)].length + 1 = 2 from rfl)]
    have step : ∀ {q : PR PFl} {t u : T} {s : PS}, q = .ok (.rt t) s → Pu.own 0 s = some u → fin1F q = .ok t u := fun e o => by rw [e]; simp [fin1F, o]
    refine step (s := [some t3, some (.int (m : Nat)), some (.str abc), some (.int v), some (.int (1 + 2 * w)), some (.str tl), none]) ?_ rfl
    refine seq_e (s' := [some t, some (.int (m : Nat)), some (.str abc), none, none, none, none]) rfl ?_
    refine seq_e (s' := [some t3, some (.int (m : Nat)), some (.str abc), some (.int v), some (.int (1 + 2 * w)), some (.str tl), none]) ?_ ?_
    · simp [qAsg, qTup, qaCons, qaNil, qCallS, qBin, qOf, lift, PR.bind, goS, Pu.own, pC, e1, e2, e3, q_mul q1, q_add, pLst, paCons, paNil, Q.bind, lim, pgTu, pgsCons, pgsNil, pgNm]
    · refine ret_e ?_
      rw [List.map_map]
      refine lc_map (f := fun i : Nat => T.int (0 + (i : Int))) (xs := List.range m) (range_p (m := (m : Int)) (by omega) (by omega) rfl) (by rw [List.length_range]; unfold lim; omega) fun i hi => ⟨_, rfl, ?_⟩
      have hz : ∀ z : Int, 0 ≤ z % 26 ∧ z % 26 < 26 := fun z => ⟨Int.emod_nonneg _ (by decide), Int.emod_lt_of_pos _ (by decide)⟩
      have hq := hz (v + (1 + 2 * w) * (i : Int))
      have hi0 : (0 : Int) + (i : Int) = i := by omega
      refine bin_e (bin_e rfl (bin_e (x := .int (v + (1 + 2 * w) * (i : Int))) ?_ rfl (q_mod (by decide))) (letter_p hq.1 hq.2)) rfl ?_
      · refine call_e (acons_e (bin_e rfl (bin_e rfl rfl (q_mul (q2 _))) q_add) rfl) ?_
        show Q.ok (T.int (v + (1 + 2 * w) * (0 + (i : Int)))) = _
        rw [hi0]
      · show (if _ then _ else _) = _
        rw [if_pos (word_p hq.1 hq.2 htl).2]
        rfl
  · obtain ⟨i, _, rfl⟩ := List.mem_map.mp hy
    exact (word_p (Int.emod_nonneg _ (by decide)) (Int.emod_lt_of_pos _ (by decide)) htl).1
  · obtain ⟨i, _, rfl⟩ := List.mem_map.mp hy
    exact wd_p (Int.emod_nonneg _ (by decide)) (Int.emod_lt_of_pos _ (by decide)) htl
  · refine List.pairwise_map.mpr (List.pairwise_lt_range.imp_of_mem fun {a b} ha hb hab e => ?_)
    have ha' := List.mem_range.mp ha
    have hb' := List.mem_range.mp hb
    have e2 := congrArg TL.tl e
    rw [TL.tl_append, TL.tl_append] at e2
    have e3 : (97 + (v + (1 + 2 * w) * (a : Int)) % 26).toNat = (97 + (v + (1 + 2 * w) * (b : Int)) % 26).toNat := (List.cons.inj e2).1
    have z := fun z : Int => And.intro (Int.emod_nonneg z (show (26 : Int) ≠ 0 by decide)) (Int.emod_lt_of_pos z (show (0 : Int) < 26 by decide))
    have za := z (v + (1 + 2 * w) * (a : Int))
    have zb := z (v + (1 + 2 * w) * (b : Int))
    have e4 : (v + (1 + 2 * w) * (a : Int)) % 26 = (v + (1 + 2 * w) * (b : Int)) % 26 := by omega
    have hw' : w = 0 ∨ w = 1 ∨ w = 2 ∨ w = 3 ∨ w = 4 ∨ w = 5 := by omega
    rcases hw' with rfl | rfl | rfl | rfl | rfl | rfl <;> omega
open TL (tl tl_append ext_tl tl_mk)
abbrev ltW (x y : Str) : Prop := x.cps.toList < y.cps.toList
theorem print_abc {c : Nat} (h : 97 ≤ c ∧ c ≤ 122) : Builtin.Str.reprChar 39 c = [c] := by
  have key : ((List.range 26).all fun n => decide (Builtin.Str.reprChar 39 (97 + n) = [97 + n])) = true := by decide +kernel
  have := of_decide_eq_true (List.all_eq_true.mp key (c - 97) (List.mem_range.mpr (by omega)))
  rw [show 97 + (c - 97) = c by omega] at this
  exact this
theorem repr_fold : ∀ (l : List Nat) (acc : Array Nat), (∀ c ∈ l, 97 ≤ c ∧ c ≤ 122) → (l.foldl (fun out c => out ++ (Builtin.Str.reprChar 39 c).toArray) acc).toList = acc.toList ++ l
  | [], acc, _ => by simp
  | c :: l, acc, h => by
    rw [List.foldl_cons, repr_fold l _ fun d hd => h d (List.mem_cons_of_mem _ hd), print_abc (h c List.mem_cons_self)]
    simp
theorem repr_wd {x : Str} (h : Wd x) : tl (reprText x) = 39 :: (tl x ++ [39]) := by
  have hq : reprQuote x = 39 := by
    unfold reprQuote
    have : x.cps.contains 39 = false := by
      cases q : x.cps.contains 39 with
      | false => rfl
      | true =>
        have := (h.1 39 (by simpa using q)).1
        omega
    rw [this]
    rfl
  unfold reprText
  rw [hq]
  show (Array.push _ 39).toList = _
  rw [Array.toList_push, ← Array.foldl_toList, repr_fold _ _ h.1]
  rfl
theorem text_from : ∀ (ts : List Str) (k : Nat) (acc : Str), 0 < k → tl (textFrom k acc ts) = tl acc ++ ts.flatMap fun t => [44, 32] ++ tl t
  | [], _, _, _ => by simp [textFrom]
  | t :: ts, k, acc, hk => by
    show tl (textFrom (k + 1) _ ts) = _
    rw [text_from ts (k + 1) _ (Nat.succ_pos k), if_pos hk, tl_append, tl_append, List.flatMap_cons]
    have : tl ((", " : String) : Str) = [44, 32] := by decide +kernel
    rw [this]
    simp
theorem lt_app (p : List Nat) {a b : List Nat} (h : a < b) : p ++ a < p ++ b := by
  induction p with
  | nil => exact h
  | cons c p ih => exact List.cons_lt_cons_iff.mpr (.inr ⟨rfl, ih⟩)
theorem lt_word : ∀ {x y : List Nat} (r r' : List Nat), (∀ c ∈ y, 97 ≤ c ∧ c ≤ 122) → x < y → x ++ 39 :: r < y ++ 39 :: r'
  | _, [], _, _, _, h => absurd h (List.not_lt_nil _)
  | [], c :: y, r, r', hy, _ => List.cons_lt_cons_iff.mpr (.inl (by have := (hy c List.mem_cons_self).1; omega))
  | a :: x, c :: y, r, r', hy, h => by
    rcases List.cons_lt_cons_iff.mp h with h1 | ⟨e, h2⟩
    · exact List.cons_lt_cons_iff.mpr (.inl h1)
    · exact List.cons_lt_cons_iff.mpr (.inr ⟨e, lt_word r r' (fun d hd => hy d (List.mem_cons_of_mem _ hd)) h2⟩)
/-- rows' order -/
def ltR (a b : Row) : Prop := ltW a.p b.p ∨ (a.p = b.p ∧ (ltW a.q b.q ∨ (a.q = b.q ∧ (a.s < b.s ∨ (a.s = b.s ∧ endN a.e < endN b.e)))))
theorem ltW_tri (x y : Str) : ltW x y ∨ x = y ∨ ltW y x := by
  by_cases h : ltW x y
  · exact .inl h
  by_cases h' : ltW y x
  · exact .inr (.inr h')
  · exact .inr (.inl (leS_anti (leS_iff.mpr h') (leS_iff.mpr h)))
theorem ltR_tri {a b : Row} (h : keyO a ≠ keyO b) : ltR a b ∨ ltR b a := by
  unfold ltR
  rcases ltW_tri a.p b.p with h1 | h1 | h1
  · exact .inl (.inl h1)
  · rcases ltW_tri a.q b.q with h2 | h2 | h2
    · exact .inl (.inr ⟨h1, .inl h2⟩)
    · rcases Int.lt_trichotomy a.s b.s with h3 | h3 | h3
      · exact .inl (.inr ⟨h1, .inr ⟨h2, .inl h3⟩⟩)
      · rcases Int.lt_trichotomy (endN a.e) (endN b.e) with h4 | h4 | h4
        · exact .inl (.inr ⟨h1, .inr ⟨h2, .inr ⟨h3, h4⟩⟩⟩)
        · exact absurd (by unfold keyO; rw [h1, h2, h3, h4]) h
        · exact .inr (.inr ⟨h1.symm, .inr ⟨h2.symm, .inr ⟨h3.symm, h4⟩⟩⟩)
      · exact .inr (.inr ⟨h1.symm, .inr ⟨h2.symm, .inl h3⟩⟩)
    · exact .inr (.inr ⟨h1.symm, .inl h2⟩)
  · exact .inr (.inl h1)
/-- the signs of six figures -/
def six (n : Nat) : List Nat := [48 + n / 100000 % 10, 48 + n / 10000 % 10, 48 + n / 1000 % 10, 48 + n / 100 % 10, 48 + n / 10 % 10, 48 + n % 10]
theorem six_lt {n m : Nat} (hn : n < 1000000) (hm : m < 1000000) (h : n < m) (r r' : List Nat) : six n ++ r < six m ++ r' := by
  unfold six
  simp only [List.cons_append, List.nil_append]
  have k0 : n / 100000 % 10 < m / 100000 % 10 ∨ n / 100000 % 10 = m / 100000 % 10 := by omega
  refine List.cons_lt_cons_iff.mpr (k0.imp (fun z => by omega) fun z => ⟨by omega, ?_⟩)
  clear k0
  have k1 : n / 10000 % 10 < m / 10000 % 10 ∨ n / 10000 % 10 = m / 10000 % 10 := by omega
  refine List.cons_lt_cons_iff.mpr (k1.imp (fun z => by omega) fun z => ⟨by omega, ?_⟩)
  clear k1
  have k2 : n / 1000 % 10 < m / 1000 % 10 ∨ n / 1000 % 10 = m / 1000 % 10 := by omega
  refine List.cons_lt_cons_iff.mpr (k2.imp (fun z => by omega) fun z => ⟨by omega, ?_⟩)
  clear k2
  have k3 : n / 100 % 10 < m / 100 % 10 ∨ n / 100 % 10 = m / 100 % 10 := by omega
  refine List.cons_lt_cons_iff.mpr (k3.imp (fun z => by omega) fun z => ⟨by omega, ?_⟩)
  clear k3
  have k4 : n / 10 % 10 < m / 10 % 10 ∨ n / 10 % 10 = m / 10 % 10 := by omega
  refine List.cons_lt_cons_iff.mpr (k4.imp (fun z => by omega) fun z => ⟨by omega, ?_⟩)
  clear k4
  exact List.cons_lt_cons_iff.mpr (.inl (by omega))
/-- the signs of a row's key -/
def keyC (r : Row) : List Nat := [91, 39] ++ (tl r.p ++ 39 :: ([44, 32, 39] ++ (tl r.q ++ 39 :: ([44, 32] ++ (six (100000 + r.s).toNat ++ ([44, 32] ++ (six (100000 + endN r.e).toNat ++ [93])))))))
def keyD (r : Row) : PyData := .list [.str r.p, .str r.q, .int (100000 + r.s), .int (100000 + endN r.e)]
/-- a row of short words -/
structure WR (r : Row) : Prop where
  p : Wd r.p
  q : Wd r.q
  s0 : 0 ≤ r.s
  s1 : r.s ≤ 9999
  e : ∀ e, r.e = some e → 0 ≤ e ∧ e ≤ 9999
theorem WR.e0 {r : Row} (h : WR r) : 0 ≤ endN r.e ∧ endN r.e ≤ 10000 := by
  cases e : r.e with
  | none => exact ⟨by decide, by decide⟩
  | some i =>
    have := h.e i e
    unfold endN
    dsimp only
    omega
theorem keyC_lt {a b : Row} (ha : WR a) (hb : WR b) (h : ltR a b) : keyC a < keyC b := by
  have := ha.s0; have := ha.s1; have := hb.s0; have := hb.s1; have := ha.e0; have := hb.e0
  unfold keyC
  refine lt_app _ ?_
  rcases h with h | ⟨h, h1⟩
  · exact lt_word _ _ hb.p.1 h
  rw [h]
  refine lt_app _ (List.cons_lt_cons_iff.mpr (.inr ⟨rfl, lt_app _ ?_⟩))
  rcases h1 with h1 | ⟨h1, h2⟩
  · exact lt_word _ _ hb.q.1 h1
  rw [h1]
  refine lt_app _ (List.cons_lt_cons_iff.mpr (.inr ⟨rfl, lt_app _ ?_⟩))
  rcases h2 with h2 | ⟨h2, h3⟩
  · exact six_lt (by omega) (by omega) (by omega) _ _
  rw [h2]
  exact lt_app _ (lt_app _ (six_lt (by omega) (by omega) (by omega) _ _))
theorem dig {d : Nat} (h : d < 10) : (Nat.digitChar d).toNat = 48 + d := by
  rcases (show d = 0 ∨ d = 1 ∨ d = 2 ∨ d = 3 ∨ d = 4 ∨ d = 5 ∨ d = 6 ∨ d = 7 ∨ d = 8 ∨ d = 9 by omega) with rfl | rfl | rfl | rfl | rfl | rfl | rfl | rfl | rfl | rfl <;> rfl
theorem dig_six' {n : Nat} (h0 : 100000 ≤ n) (h1 : n < 1000000) : (Nat.toDigits 10 n).map Char.toNat = six n := by
  rw [Nat.toDigits_of_base_le (by decide) (by omega), Nat.toDigits_of_base_le (by decide) (show 10 ≤ n / 10 by omega), Nat.toDigits_of_base_le (by decide) (show 10 ≤ n / 10 / 10 by omega), Nat.toDigits_of_base_le (by decide) (show 10 ≤ n / 10 / 10 / 10 by omega), Nat.toDigits_of_base_le (by decide) (show 10 ≤ n / 10 / 10 / 10 / 10 by omega), Nat.toDigits_of_lt_base (show n / 10 / 10 / 10 / 10 / 10 < 10 by omega)]
  simp only [List.map_cons, List.map_nil, List.cons_append, List.nil_append]
  rw [dig (by omega), dig (by omega), dig (by omega), dig (by omega), dig (by omega), dig (by omega)]
  unfold six
  simp only [Nat.div_div_eq_div_mul]
  congr 1
  omega
theorem dig_six {n : Nat} (h0 : 100000 ≤ n) (h1 : n < 1000000) : tl (PyData.shown (.int (n : Nat))) = six n := by
  rw [PyData.shown_int]
  show (Str.ofString _).cps.toList = _
  rw [PyProof.Rows.signs_ofString, Int.toString_eq_repr, Int.repr_eq_if, if_pos (Int.natCast_nonneg n), Nat.toList_repr]
  exact dig_six' h0 h1
theorem key_tl {r : Row} (h : WR r) : tl (keyD r).shown = keyC r := by
  have := h.s0; have := h.s1; have := h.e0
  unfold keyD PyData.shown
  rw [show PyData.shownAll [.str r.p, .str r.q, .int (100000 + r.s), .int (100000 + endN r.e)] = [reprText r.p, reprText r.q, PyData.shown (.int (100000 + r.s)), PyData.shown (.int (100000 + endN r.e))] by
    simp [PyData.shownAll, PyData.shown]]
  show tl (textFrom 0 "[" _ ++ "]") = _
  rw [tl_append]
  show tl (textFrom 1 _ [reprText r.q, PyData.shown (.int (100000 + r.s)), PyData.shown (.int (100000 + endN r.e))]) ++ _ = _
  rw [text_from _ _ _ Nat.one_pos, tl_append, tl_append]
  have e0 : tl (if 0 > 0 then ", " else "" : String) = [] := by decide +kernel
  have e1 : tl ("[" : String) = [91] := by decide +kernel
  have e2 : tl ("]" : String) = [93] := by decide +kernel
  have d1 := dig_six (n := (100000 + r.s).toNat) (by omega) (by omega)
  have d2 := dig_six (n := (100000 + endN r.e).toNat) (by omega) (by omega)
  rw [show (((100000 + r.s).toNat : Nat) : Int) = 100000 + r.s by omega] at d1
  rw [show (((100000 + endN r.e).toNat : Nat) : Int) = 100000 + endN r.e by omega] at d2
  rw [e0, e1, e2, repr_wd h.p]
  simp only [List.flatMap_cons, List.flatMap_nil, repr_wd h.q, d1, d2]
  unfold keyC
  simp
open TL (tl tl_append ext_tl tl_mk)
theorem blt_str {x y : Str} (h : ltW x y) : itemOrd.blt (.inr x.cps.toList) (.inr y.cps.toList) = true := by
  have e : PySem.W.dataLt (.str x) (.str y) = true := by rw [PySem.W.dataLt_str]; exact decide_eq_true h
  rcases lex_true.mp (show PyProof.Rows.lexLt itemOrd [.inr x.cps.toList] [.inr y.cps.toList] = true from e) with h | ⟨_, h⟩
  · exact h
  · cases h
theorem blt_int {i j : Int} (h : i < j) : itemOrd.blt (.inl i) (.inl j) = true := decide_eq_true h
theorem ltO {a b : Row} (h : ltR a b) : PySem.W.dataLt (keyO a).data (keyO b).data = true := by
  show PyProof.Rows.lexLt itemOrd ([.inl 1] ++ ([.inr a.p.cps.toList] ++ ([.inl 1] ++ ([.inr a.q.cps.toList] ++ ([.inl 1] ++ ([.inl a.s] ++ ([.inl 1] ++ ([.inl (endN a.e)] ++ [.inl 0])))))))) ([.inl 1] ++ ([.inr b.p.cps.toList] ++ ([.inl 1] ++ ([.inr b.q.cps.toList] ++ ([.inl 1] ++ ([.inl b.s] ++ ([.inl 1] ++ ([.inl (endN b.e)] ++ [.inl 0])))))))) = true
  rw [PySem.W.lex_pre]
  rcases h with h | ⟨h0, h⟩
  · exact lex_true.mpr (.inl (blt_str h))
  rw [h0, PySem.W.lex_pre, PySem.W.lex_pre]
  rcases h with h | ⟨h0, h⟩
  · exact lex_true.mpr (.inl (blt_str h))
  rw [h0, PySem.W.lex_pre, PySem.W.lex_pre]
  rcases h with h | ⟨h0, h⟩
  · exact lex_true.mpr (.inl (blt_int h))
  rw [h0, PySem.W.lex_pre, PySem.W.lex_pre]
  exact lex_true.mpr (.inl (blt_int h))
theorem srt_of {rs rs' : List Row} (hg : ∀ r ∈ rs, GoodR r) (pr : rs'.Perm rs) (nd : rs.Nodup) (er : sortN (dedU (rs.map keyO)) = rs'.map keyO) : rs'.Pairwise ltR := by
  have pw : (rs'.map keyO).Pairwise fun a b => leN a b = true := er ▸ sortU_pw leN_tr leN_tot _
  have nd' : rs'.Nodup := pr.nodup_iff.mpr nd
  refine ((List.pairwise_map.mp pw).and nd').imp_of_mem fun {a b} ha hb h => ?_
  have hne : keyO a ≠ keyO b := fun e => h.2 (endN_inj hg a (pr.mem_iff.mp ha) b (pr.mem_iff.mp hb) e)
  rcases ltR_tri hne with z | z
  · exact z
  · have q := h.1
    unfold leN at q
    rw [show PySem.W.dataLt (keyO b).data (keyO a).data = true from ltO z] at q
    cases q
theorem check_2 {rs : List Row} {L : T} (hL : L = .lst (rs.map rowT) ∨ L = .tup (rs.map rowT)) (hg : ∀ r ∈ rs, GoodR r) (nd : rs.Nodup) (hl : rs.length ≤ 12) : p_check_allowances [L] = .ok .non := by
  have fin : ∀ {q : PR PFl}, OkN q (fun _ => True) → finP q = .ok .non := fun ⟨s, e, _⟩ => by rw [e]; rfl
  unfold p_check_allowances pFn
  rw [if_pos (show [L].length = 1 from rfl)]
  refine fin ?_
  refine okN_seqE (s' := [some L, none, none, none]) ?_ ?_
  · refine ifS_f (not_e (b := true) (tru_e (x := .bl true) ?_ rfl)) rfl
    rcases hL with rfl | rfl <;> (simp [pIsi2, pVar, Q.bind, uIsi2, tyT]; kernel_rfl)
  refine okN_seqE (s' := [some L, some (.sT []), none, none]) rfl ?_
  refine okN_seq (I := fun s => ∃ ks, s = [some L, some (.sT ks), none, none]) ?_ ?_
  · have hlen : (enuT (rs.map rowT)).length = rs.length := by unfold enuT; simp
    refine (okN_forI (I := fun i s => ∃ ks : List NestedKey, ks.length = i ∧ (∀ k ∈ ks, ∃ j, j < i ∧ ∃ r, rs[j]? = some r ∧ k = keyN r) ∧ s = [some L, some (.sT ks), none, none]) (xs := enuT (rs.map rowT)) ?_ hlen ⟨[], rfl, by simp, rfl⟩ fun i x hx s hs => ?_).imp fun s h => ?_
    · rcases hL with rfl | rfl <;> simp [piEnu, pVar, Q.bind, tItemsT]
    · obtain ⟨ks, hk, hm, rfl⟩ := hs
      have hx' : ∃ r, rs[i]? = some r ∧ x = .tup [.int (i : Nat), rowT r] := by
        unfold enuT at hx
        rw [List.getElem?_map, List.getElem?_zipIdx, List.getElem?_map] at hx
        cases hr : rs[i]? with
        | none => rw [hr] at hx; cases hx
        | some r => rw [hr] at hx; cases hx; exact ⟨r, rfl, by simp⟩
      obtain ⟨r, hr, rfl⟩ := hx'
      refine ⟨_, rfl, ?_⟩
      have gr := hg r (List.mem_of_getElem? hr)
      have hi : i < rs.length := (List.getElem?_eq_some_iff.mp hr).1
      have hnk : ks.contains (keyN r) = false := by
        rw [List.contains_eq_mem, decide_eq_false_iff_not]
        intro hmem
        obtain ⟨j, hj, r', hr', e⟩ := hm _ hmem
        have := keyN_inj e
        subst this
        have h1 := (List.getElem?_eq_some_iff.mp hr).2
        have h2 := (List.getElem?_eq_some_iff.mp hr').2
        exact List.pairwise_iff_getElem.mp nd j i (by omega) hi hj (h2.trans h1.symm)
      refine okN_seqE (s' := [some L, some (.sT ks), some (.int (i : Nat)), some (rowT r)]) ?_ ?_
      · refine ifS_f (or_e (x := false) (y := false) (not_e (b := true) (tru_e (x := .bl true) ?_ rfl)) fun _ => val_e ?_) rfl
        · exact call_e (acons_e rfl rfl) (allow_p gr)
        · refine bin_e rfl rfl ?_
          rw [inSN_row, hnk]
      · refine ⟨[some L, some (.sT (keyN r :: ks)), some (.int (i : Nat)), some (rowT r)], ?_, keyN r :: ks, by simp [hk], ?_, rfl⟩
        · have hlt : ks.length + 1 < 64 := by omega
          simp [pSAddN, Pu.own, pVar, PR.of, tupNk_row, hlt]
        · intro k hk'
          rcases List.mem_cons.mp hk' with rfl | hk'
          · exact ⟨i, by omega, r, hr, rfl⟩
          · obtain ⟨j, hj, q⟩ := hm k hk'
            exact ⟨j, by omega, q⟩
    · obtain ⟨ks, _, _, e⟩ := h
      exact ⟨ks, e⟩
  · rintro s ⟨ks, rfl⟩
    refine ⟨_, ifS_f (val_e (b := false) (bin_e (x := .int (rs.length : Nat)) (y := .int 12) ?_ rfl ?_)) rfl, trivial⟩
    · rcases hL with rfl | rfl <;> simp [pCall, paCons, paNil, pVar, Q.bind, Pu.vLen, v1, uLen]
    · rw [q_gt, decide_eq_false (by omega)]
theorem ordered_2 {rs : List Row} {L : T} (hL : L = .lst (rs.map rowT) ∨ L = .tup (rs.map rowT)) (hg : ∀ r ∈ rs, GoodR r) (nd : rs.Nodup) (hl : rs.length ≤ 12) : ∃ rs' : List Row, rs'.Perm rs ∧ rs'.Pairwise ltR ∧ p_ordered [L] = .ok (.tup (rs'.map rowT)) := by
  have ndk : (rs.map keyO).Nodup := map_nodup nd (endN_inj hg)
  have pk : (sortN (dedU (rs.map keyO))).Perm (rs.map keyO) := (sortU_perm leN _).trans (dedU_id ndk)
  obtain ⟨rs', pr, er⟩ := perm_map_inv pk
  refine ⟨rs', pr, srt_of hg pr nd er, ?_⟩
  have hl' : rs'.length = rs.length := pr.length_eq
  have hg' : ∀ r ∈ rs', GoodR r := fun r hr => hg r (pr.mem_iff.mp hr)
  have fin : ∀ {q : PR PFl} {t : T}, OkR q (fun x => x = t) → finP q = .ok t := fun ⟨t, s, e, h⟩ => by rw [e, ← h]; rfl
  unfold p_ordered pFn
  rw [if_pos (show [L].length = 1 from rfl)]
  refine fin ?_
  refine okR_seqE (s1 := [some L, some (.lst (rs.map fun r => .tup [.str r.p, .str r.q, .int r.s, .int (endN r.e)])), none, none, none, none, none, none]) (asg_e (lc_map (f := rowT) (xs := rs) ?_ (by unfold lim; omega) fun r hr => ⟨_, pgTu4, tup_e (acons_e rfl (acons_e rfl (acons_e rfl (acons_e (x := .int (endN r.e)) ?_ rfl)))) ?_⟩) rfl) ?_
  · rcases hL with rfl | rfl <;> rfl
  · cases he : r.e with
    | none => exact if_e (x := true) (val_e (bin_e rfl rfl uIs_non)) (fun _ => rfl) (fun h => by cases h)
    | some e => exact if_e (x := false) (val_e (bin_e rfl rfl uIs_int)) (fun h => by cases h) (fun _ => rfl)
  · show 4 ≤ lim
    unfold lim; omega
  refine okR_seqE (s1 := [some L, some (.lst (rs.map fun r => .tup [.str r.p, .str r.q, .int r.s, .int (endN r.e)])), some (.lst (rs'.map fun r => .tup [.str r.p, .str r.q, .int r.s, .int (endN r.e)])), none, none, none, none, none]) (asg_e (call_e (acons_e rfl rfl) ?_) rfl) ?_
  · unfold vSortSetN v1 uSortSetN
    dsimp only
    rw [show tItems (.lst (rs.map fun r => T.tup [.str r.p, .str r.q, .int r.s, .int (endN r.e)])) = some (rs.map fun r => T.tup [.str r.p, .str r.q, .int r.s, .int (endN r.e)]) from rfl]
    dsimp only
    rw [mapO_map (f := tupNk) (g := fun r : Row => T.tup [.str r.p, .str r.q, .int r.s, .int (endN r.e)]) (k := keyO) (fun r => rfl)]
    dsimp only
    rw [alikeN_O, firmN_O, List.length_map, decide_eq_true (by omega), er, List.map_map]
    rfl
  refine okR_ret (call_e (acons_e (lc_map (f := fun r : Row => T.tup [.str r.p, .str r.q, .int r.s, .int (endN r.e)]) (y := rowT) (xs := rs') rfl (by unfold lim; omega) fun r hr => ⟨_, pgTu4, tup_e (acons_e rfl (acons_e rfl (acons_e rfl (acons_e (x := tillT r.e) ?_ rfl)))) ?_⟩) rfl) rfl) rfl
  · have ge := (hg' r hr).e
    cases he : r.e with
    | none => exact if_e (x := true) (val_e (bin_e rfl rfl (by unfold endN; rw [uEqP_int]; rfl))) (fun _ => rfl) (fun h => by cases h)
    | some e =>
      have := (ge e he).2
      exact if_e (x := false) (val_e (bin_e rfl rfl (by rw [show endN (some e) = e from rfl, uEqP_int, decide_eq_false (by omega)]; rfl))) (fun h => by cases h) (fun _ => rfl)
  · show 4 ≤ lim
    unfold lim; omega
theorem init_2 {rs : List Row} {L : T} (hL : L = .lst (rs.map rowT) ∨ L = .tup (rs.map rowT)) (ch : Bool) (hg : ∀ r ∈ rs, GoodR r) (nd : rs.Nodup) (hl : rs.length ≤ 12) : ∃ rs' : List Row, rs'.Perm rs ∧ rs'.Pairwise ltR ∧ p_Allowances___init__ [L, .bl ch] = .ok (bookT rs' ch) := by
  obtain ⟨rs', pr, e⟩ := ordered_2 hL hg nd hl
  refine ⟨rs', pr, ?_⟩
  have hc := check_2 hL hg nd hl
  have hne : ¬ (Str.ofString "_rows" = Str.ofString "_through") := by decide +kernel
  simp [hne, p_Allowances___init__, pFnI, pSeq, pExp, pCall, paCons, paNil, pVar, Q.bind, PR.of, hc, pFldS, Pu.own, e, putFT, finI, bookT]
open TL (tl tl_append ext_tl tl_mk)
theorem eqv_row (a b : Row) : PyData.eqv (dataR a) (dataR b) = decide (a = b) := by
  unfold dataR
  rcases a with ⟨p, q, s, e⟩
  rcases b with ⟨p', q', s', e'⟩
  rw [Bool.eq_iff_iff, decide_eq_true_eq, Row.mk.injEq]
  cases e <;> cases e' <;> simp [tillD, PyData.eqv, PyData.eqvAll]
theorem any_row (r : Row) : ∀ rs : List Row, ((rs.map dataR).any fun z => PyData.eqv z (dataR r)) = decide (r ∈ rs)
  | [] => by simp
  | y :: xs => by
    rw [List.map_cons, List.any_cons, any_row r xs, eqv_row]
    by_cases h : r = y
    · subst h; simp
    · simp [h, Ne.symm h]
theorem in_lst (neg : Bool) (r : Row) (rs : List Row) : uInP neg (rowT r) (.lst (rs.map rowT)) = .ok (.bl (neg != decide (r ∈ rs))) := by
  unfold uInP
  rw [tD_row 7 r, show tD 8 (.lst (rs.map rowT)) = some (.list (rs.map dataR)) by unfold tD; rw [tDs_rows 6]; rfl]
  dsimp only
  rw [any_row]
theorem in_tup (neg : Bool) (r : Row) (rs : List Row) : uInP neg (rowT r) (.tup (rs.map rowT)) = .ok (.bl (neg != decide (r ∈ rs))) := by
  unfold uInP
  rw [tD_row 7 r, show tD 8 (.tup (rs.map rowT)) = some (.tuple (rs.map dataR)) by unfold tD; rw [tDs_rows 6]; rfl]
  dsimp only
  rw [any_row]
theorem plain_rows : ∀ rs : List Row, PyData.plainAll (rs.map dataR) = true
  | [] => rfl
  | x :: xs => by
    rw [List.map_cons]
    unfold PyData.plainAll
    rw [plain_row, plain_rows xs]
    rfl
theorem lst_self (neg : Bool) (rs : List Row) : uEqP neg (.lst (rs.map rowT)) (.lst (rs.map rowT)) = .ok (.bl (neg != true)) :=
  uEqP_self (d := .list (rs.map dataR)) (by unfold tD; rw [tDs_rows 6]; rfl) (by unfold PyData.plain; exact plain_rows rs)
theorem tup_self (neg : Bool) (rs : List Row) : uEqP neg (.tup (rs.map rowT)) (.tup (rs.map rowT)) = .ok (.bl (neg != true)) :=
  uEqP_self (d := .tuple (rs.map dataR)) (by unfold tD; rw [tDs_rows 6]; rfl) (by unfold PyData.plain; exact plain_rows rs)
theorem tup_any (neg : Bool) (a b : List Row) : ∃ v, uEqP neg (.tup (a.map rowT)) (.tup (b.map rowT)) = .ok (.bl v) := by
  unfold uEqP
  rw [show tD 8 (.tup (a.map rowT)) = some (.tuple (a.map dataR)) by unfold tD; rw [tDs_rows 6]; rfl, show tD 8 (.tup (b.map rowT)) = some (.tuple (b.map dataR)) by unfold tD; rw [tDs_rows 6]; rfl]
  exact ⟨_, rfl⟩
theorem lst_nil (neg : Bool) (rs : List Row) : uEqP neg (.lst (rs.map rowT)) (.lst []) = .ok (.bl (neg != rs.isEmpty)) := by
  cases rs with
  | nil => cases neg <;> kernel_rfl
  | cons r rs =>
    have e : tD 8 (.lst ((r :: rs).map rowT)) = some (.list ((r :: rs).map dataR)) := by unfold tD; rw [tDs_rows 6]; rfl
    unfold uEqP
    rw [e, show tD 8 (.lst []) = some (.list []) from rfl]
    rfl
theorem law_key_p (r : Row) : p__law_key [rowT r] = .ok (.lst [.str r.p, .str r.q, .int (100000 + r.s), .int (100000 + endN r.e)]) := by
  unfold p__law_key
  refine fnF_e rfl ?_
  have e3 : pBin uIx (pVar 0) (pC (.int 3)) [some (rowT r), none] = .ok (tillT r.e) := bin_e rfl rfl rfl
  refine okR_seqE (s1 := [some (rowT r), some (.int (endN r.e))]) (asg_e ?_ rfl) ?_
  · cases he : r.e with
    | none =>
      rw [he] at e3
      exact if_e (x := true) (val_e (bin_e e3 rfl uIs_non)) (fun _ => rfl) (fun h => by cases h)
    | some e =>
      rw [he] at e3
      exact if_e (x := false) (val_e (bin_e e3 rfl uIs_int)) (fun h => by cases h) (fun _ => e3)
  · exact okR_ret (lst_e (acons_e (bin_e rfl rfl rfl) (acons_e (bin_e rfl rfl rfl) (acons_e (bin_e rfl (bin_e rfl rfl rfl) q_add) (acons_e (bin_e rfl rfl q_add) rfl)))) (by simp [lim])) rfl
theorem keyD_ok {r : Row} (h : WR r) : (keyD r).showable = true ∧ (keyD r).depth ≤ 20 ∧ (keyD r).hasDict = false := by
  have := h.s0; have := h.s1; have := h.e0
  have big : ∀ i : Int, 100000 ≤ i → i ≤ 110000 → decide (i.natAbs.log2 < 1920) = true := fun i a b => decide_eq_true (Nat.lt_of_lt_of_le ((Nat.log2_lt (by omega)).mpr (show i.natAbs < 2 ^ 20 by omega)) (by decide))
  unfold keyD
  refine ⟨?_, ?_, ?_⟩
  · simp [PyData.showable, PyData.showableAll, big (100000 + r.s) (by omega) (by omega), big (100000 + endN r.e) (by omega) (by omega)]
  · simp [PyData.depth, PyData.depthAll]
  · simp [PyData.hasDict, PyData.hasDictAll]
theorem key_p {r : Row} (h : WR r) : pCall vStrD (paCons (pCall p__law_key (paCons (pVar 0) (paNil))) (paNil)) [some (rowT r)] = .ok (.str (keyD r).shown) := by
  have hlen : (keyD r).shown.length ≤ lim := by
    have e : (keyD r).shown.length = (keyC r).length := by rw [← key_tl h]; rfl
    rw [e]
    unfold keyC lim six
    have a : (tl r.p).length ≤ 8 := h.p.2
    have b : (tl r.q).length ≤ 8 := h.q.2
    simp only [List.length_cons, List.length_append, List.length_nil]
    omega
  have ok := keyD_ok h
  refine call_e (acons_e (call_e (acons_e rfl rfl) (law_key_p r)) rfl) ?_
  show uStrD (.lst [.str r.p, .str r.q, .int (100000 + r.s), .int (100000 + endN r.e)]) = _
  unfold uStrD uReprD
  dsimp only
  have e : tD 8 (.lst [.str r.p, .str r.q, .int (100000 + r.s), .int (100000 + endN r.e)]) = some (keyD r) := rfl
  rw [e]
  dsimp only
  rw [if_pos]
  exact ⟨ok.1, ok.2.1, ok.2.2, hlen⟩
theorem keys_all : ∀ {rows : List Row}, (∀ r ∈ rows, WR r) → keysP (pCall vStrD (paCons (pCall p__law_key (paCons (pVar 0) (paNil))) (paNil))) 0 (rows.map rowT) = .ok (rows.map fun r => (keyD r).shown)
  | [], _ => rfl
  | S :: rows, h => by
    have e := key_p (h S List.mem_cons_self)
    rw [List.map_cons]
    unfold keysP
    rw [show some (rowT S) :: List.replicate 0 none = [some (rowT S)] from rfl, e]
    dsimp only
    rw [keys_all fun T hT => h T (List.mem_cons_of_mem _ hT)]
    rfl
def rowK (r : Row) : T × PyData := (rowT r, .str (keyD r).shown)
theorem row_sort {rs rs' : List Row} (pr : rs'.Perm rs) (srt : rs'.Pairwise ltR) (hw : ∀ r ∈ rs, WR r) : sortU leP (rs.map rowK) = rs'.map rowK := by
  have hw' : ∀ r ∈ rs', WR r := fun r hr => hw r (pr.mem_iff.mp hr)
  have lt : ∀ a ∈ rs', ∀ b ∈ rs', ltR a b → (keyD a).shown.cps.toList < (keyD b).shown.cps.toList := fun a ha b hb h => by
    have e1 : (keyD a).shown.cps.toList = keyC a := key_tl (hw' a ha)
    have e2 : (keyD b).shown.cps.toList = keyC b := key_tl (hw' b hb)
    rw [e1, e2]
    exact keyC_lt (hw' a ha) (hw' b hb) h
  have le1 : ∀ S T, leP (rowK S) (rowK T) = true ↔ ¬ (keyD T).shown.cps.toList < (keyD S).shown.cps.toList := fun S T => by
    show (!PySem.W.dataLt (.str (keyD T).shown) (.str (keyD S).shown)) = true ↔ _
    rw [PySem.W.dataLt_str]
    simp
  have tri : ∀ S ∈ rs', ∀ T ∈ rs', S = T ∨ ltR S T ∨ ltR T S := fun S hS T hT => by
    obtain ⟨i, hi, rfl⟩ := List.getElem_of_mem hS
    obtain ⟨j, hj, rfl⟩ := List.getElem_of_mem hT
    rcases Nat.lt_trichotomy i j with h | h | h
    · exact .inr (.inl (List.pairwise_iff_getElem.mp srt i j hi hj h))
    · subst h
      exact .inl rfl
    · exact .inr (.inr (List.pairwise_iff_getElem.mp srt j i hj hi h))
  refine (sortU_eq (le := leP) (fun a b c => leD_tr a.2 b.2 c.2) (fun a b => leD_tot a.2 b.2) (pr.map _) (fun a ha b hb h1 h2 => ?_) ?_).symm
  · obtain ⟨S, hS, rfl⟩ := List.mem_map.mp ha
    obtain ⟨T, hT, rfl⟩ := List.mem_map.mp hb
    rcases tri S hS T hT with h | h | h
    · rw [h]
    · exact absurd (lt S hS T hT h) ((le1 T S).mp h2)
    · exact absurd (lt T hT S hS h) ((le1 S T).mp h1)
  · refine List.pairwise_map.mpr (srt.imp_of_mem fun {S T} hS hT h => (le1 S T).mpr fun z => ?_)
    exact absurd (lt S hS T hT h) (List.lt_asymm z)
theorem sortK_p {a : PE} {s : PS} {rs rs' : List Row} (e : a s = .ok (.lst (rs.map rowT))) (pr : rs'.Perm rs) (srt : rs'.Pairwise ltR) (hw : ∀ r ∈ rs, WR r) : pSortK a (pCall vStrD (paCons (pCall p__law_key (paCons (pVar 0) (paNil))) (paNil))) 0 s = .ok (.lst (rs'.map rowT)) := by
  unfold pSortK
  rw [e, Q.bind_ok]
  dsimp only [tItems]
  rw [keys_all hw, Q.bind_ok]
  unfold sortTD
  have ez : (rs.map rowT).zip ((rs.map fun r => (keyD r).shown).map PyData.str) = rs.map rowK := by
    rw [List.map_map, List.zip_map']
    rfl
  rw [ez, row_sort pr srt hw, List.map_map]
  rfl
/-- two arrangements in order are one -/
theorem srt_one {a b : List Row} (p : a.Perm b) (ha : a.Pairwise ltR) (hb : b.Pairwise ltR) (hw : ∀ r ∈ a, WR r) : a = b :=
  sorted_one p ha hb fun x hx y hy h1 h2 => absurd (keyC_lt (hw x hx) (hw y hy) h1) (List.lt_asymm (keyC_lt (hw y hy) (hw x hx) h2))
theorem isiC_yes {C : Str} {a : PE} {s : PS} {x : T} (e : a s = .ok x) (h : insT x C = true) : pIsiC [(C, true)] allTys a s = .ok (.bl true) := by
  unfold pIsiC
  rw [e, Q.bind_ok]
  unfold uIsiC
  rw [List.find?_cons_of_pos (by exact h)]
theorem rows_b (rs : List Row) (ch : Bool) : p_Allowances_rows [bookT rs ch] = .ok (.lst (rs.map rowT)) := by
  unfold p_Allowances_rows
  exact fnF_e rfl (okR_ret (call_e (acons_e (x := .tup (rs.map rowT)) rfl rfl) rfl) rfl)
theorem len_b {rs : List Row} (ch : Bool) (hl : rs.length ≤ 1000) : vLenO "Allowances" p_Allowances___len__ [bookT rs ch] = .ok (.int (rs.length : Nat)) := by
  have e : p_Allowances___len__ [bookT rs ch] = .ok (.int (rs.length : Nat)) := by
    unfold p_Allowances___len__
    refine fn_e rfl (okR_ret (call_e (acons_e (x := .tup (rs.map rowT)) rfl rfl) ?_) rfl)
    unfold Pu.vLen v1 uLen
    dsimp only
    rw [List.length_map]
  generalize hB : bookT rs ch = B at e ⊢
  have hi : insT B "Allowances" = true := by rw [← hB]; rfl
  unfold vLenO
  dsimp only
  rw [if_pos hi, e, Q.bind_ok]
  have h : (0 : Int) ≤ (rs.length : Nat) ∧ ((rs.length : Nat) : Int) < 4611686018427387904 := ⟨Int.natCast_nonneg _, by omega⟩
  generalize ((rs.length : Nat) : Int) = n at h ⊢
  simp only [h, and_self, if_true]
theorem own_in {rs : List Row} {ch : Bool} {x : T} {b : Bool} (e : p_Allowances___contains__ [bookT rs ch, x] = .ok (.bl b)) : uOwnIn false "Allowances" p_Allowances___contains__ x (bookT rs ch) = .ok (.bl b) := by
  unfold uOwnIn
  rw [if_pos (show insT (bookT rs ch) "Allowances" = true from rfl), e, Q.bind_ok]
  dsimp only
  rw [Bool.false_bne]
theorem in_b {rs : List Row} {ch : Bool} {r : Row} (g : GoodR r) : uOwnIn false "Allowances" p_Allowances___contains__ (rowT r) (bookT rs ch) = .ok (.bl (decide (r ∈ rs))) := by
  refine own_in ?_
  unfold p_Allowances___contains__
  refine fn_e rfl (okR_ret ?_ rfl)
  unfold peAnd
  rw [call_e (acons_e (x := rowT r) rfl rfl) (allow_p g), Q.bind_ok]
  dsimp only
  refine bin_e (y := .tup (rs.map rowT)) rfl rfl ?_
  rw [in_tup, Bool.false_bne]
theorem in_odd {rs : List Row} {ch : Bool} {x : T} (h : p_is_allowance [x] = .ok (.bl false)) : uOwnIn false "Allowances" p_Allowances___contains__ x (bookT rs ch) = .ok (.bl false) := by
  refine own_in ?_
  unfold p_Allowances___contains__
  refine fn_e rfl (okR_ret ?_ rfl)
  unfold peAnd
  rw [call_e (acons_e (x := x) rfl rfl) h, Q.bind_ok]
theorem eq_same (a : List Row) (c : Bool) : p_Allowances___eq__ [bookT a c, bookT a c] = .ok (.bl true) := by
  unfold p_Allowances___eq__
  refine fn_e rfl ?_
  refine okR_seqE (ifS_f (not_f (trub_r (isiC_yes (x := bookT a c) rfl rfl))) rfl) ?_
  refine okR_ret ?_ rfl
  unfold peAnd
  rw [bin_e (x := .tup (a.map rowT)) (y := .tup (a.map rowT)) rfl rfl (tup_self false a), Q.bind_ok]
  cases c <;> kernel_rfl
theorem eq_thr (a b : List Row) (c c' : Bool) (h : c ≠ c') : p_Allowances___eq__ [bookT a c, bookT b c'] = .ok (.bl false) := by
  unfold p_Allowances___eq__
  refine fn_e rfl ?_
  refine okR_seqE (ifS_f (not_f (trub_r (isiC_yes (x := bookT b c') rfl rfl))) rfl) ?_
  refine okR_ret ?_ rfl
  obtain ⟨v, e⟩ := tup_any false a b
  unfold peAnd
  rw [bin_e (x := .tup (a.map rowT)) (y := .tup (b.map rowT)) rfl rfl e, Q.bind_ok]
  cases v with
  | false => rfl
  | true =>
    dsimp only
    refine bin_e (x := .bl c) (y := .bl c') rfl rfl ?_
    cases c <;> cases c' <;> first | exact absurd rfl h | kernel_rfl
theorem eq_odd (a : List Row) (c : Bool) (ts : List T) : p_Allowances___eq__ [bookT a c, .lst ts] = .ok (.bl false) := by
  unfold p_Allowances___eq__
  refine fn_e rfl ?_
  refine okR_seqR ⟨.bl false, _, ifS_t (not_t (trub_r (v := false) ?_)) (ret_e rfl), rfl⟩
  show uIsiC [("Allowances", true)] allTys (.lst ts) = _
  kernel_rfl
theorem init_0 : p_Allowances___init__ [.tup [], .bl false] = .ok (bookT [] false) := by
  obtain ⟨rs', pr, _, e⟩ := init_2 (rs := []) (L := .tup []) (.inr rfl) false (fun _ h => absurd h List.not_mem_nil) List.nodup_nil (by decide)
  rw [List.perm_nil.mp pr] at e
  exact e
theorem add_b {a : List Row} {r : Row} (c : Bool) (hg : ∀ x ∈ a ++ [r], GoodR x) (nd : (a ++ [r]).Nodup) (hl : (a ++ [r]).length ≤ 12) : ∃ rb : List Row, rb.Perm (a ++ [r]) ∧ rb.Pairwise ltR ∧ p_Allowances___add__ [bookT a c, rowT r] = .ok (bookT rb c) := by
  obtain ⟨rb, pr, srt, e⟩ := init_2 (rs := a ++ [r]) (L := .lst ((a ++ [r]).map rowT)) (.inl rfl) c hg nd hl
  refine ⟨rb, pr, srt, ?_⟩
  unfold p_Allowances___add__
  refine fnF_e rfl (okR_ret (mkK_r (xs := [.lst ((a ++ [r]).map rowT)]) (zs := [.bl c]) (acons_e (lst_e (xs := (a ++ [r]).map rowT) ?_ ?_) rfl) (acons_e rfl rfl) ⟨rfl, rfl⟩ rfl e) rfl)
  · rw [List.map_append]
    rfl
  · rw [List.length_map]
    unfold lim
    omega
theorem or_b {a b : List Row} (c c' : Bool) (hg : ∀ x ∈ a ++ b.filter (fun r => decide (r ∉ a)), GoodR x) (nd : (a ++ b.filter (fun r => decide (r ∉ a))).Nodup) (hla : a.length ≤ 6) (hlb : b.length ≤ 6) : ∃ rb : List Row, rb.Perm (a ++ b.filter (fun r => decide (r ∉ a))) ∧ rb.Pairwise ltR ∧ p_Allowances___or__ [bookT a c, bookT b c'] = .ok (bookT rb (c || c')) := by
  have hl : (a ++ b.filter (fun r => decide (r ∉ a))).length ≤ 12 := by
    rw [List.length_append]
    have := List.length_filter_le (fun r => decide (r ∉ a)) b
    omega
  obtain ⟨rb, pr, srt, e⟩ := init_2 (rs := a ++ b.filter (fun r => decide (r ∉ a))) (L := .lst ((a ++ b.filter (fun r => decide (r ∉ a))).map rowT)) (.inl rfl) (c || c') hg nd hl
  refine ⟨rb, pr, srt, ?_⟩
  unfold p_Allowances___or__
  refine fnF_e rfl ?_
  refine okR_seqE (ifS_f (not_f (trub_r (isiC_yes (x := bookT b c') rfl rfl))) rfl) ?_
  refine okR_seqE (s1 := [some (bookT a c), some (bookT b c'), some (.lst ((b.filter (fun r => decide (r ∉ a))).map rowT)), none]) (asg_e ?_ rfl) ?_
  · refine lc_fm (xs := b) (f := rowT) (y := rowT) (p := fun r => decide (r ∉ a)) rfl (by unfold lim; omega) ?_
    intro r hr
    refine ⟨[some (bookT a c), some (bookT b c'), none, some (rowT r)], rfl, val_e (bin_e (y := .tup (a.map rowT)) rfl rfl ?_), fun _ => rfl⟩
    rw [in_tup]
    by_cases h : r ∈ a <;> simp [h]
  · refine okR_ret (mkK_r (xs := [.lst ((a ++ b.filter (fun r => decide (r ∉ a))).map rowT)]) (zs := [.bl (c || c')]) (acons_e (lst_e (xs := (a ++ b.filter (fun r => decide (r ∉ a))).map rowT) ?_ ?_) rfl) (acons_e ?_ rfl) ⟨rfl, rfl⟩ rfl e) rfl
    · rw [List.map_append]
      show Q.ok (a.map rowT ++ ((b.filter _).map rowT ++ [])) = _
      rw [List.append_nil]
    · rw [List.length_map]
      unfold lim
      omega
    · cases c <;> rfl
theorem ix_lst {ts : List T} {i : Nat} {t : T} (e : ts[i]? = some t) : uIx (.lst ts) (.int (i : Nat)) = .ok t := by
  have hl := (List.getElem?_eq_some_iff.mp e).1
  have q : atI ts ((i : Nat) : Int) = some t := by
    unfold atI ixN
    rw [if_pos (by omega), if_pos (by omega)]
    show ts[((i : Nat) : Int).toNat]? = some t
    rw [show ((i : Nat) : Int).toNat = i by omega, e]
  show (match atI ts ((i : Nat) : Int) with
    | some t => Q.ok t
    | none => .no) = _
  rw [q]
theorem ix0 (t : T) (ts : List T) : uIx (.lst (t :: ts)) (.int 0) = .ok t := ix_lst (i := 0) rfl
theorem add_rows (a b : List Row) (h : a.length + b.length ≤ 1000) : uAdd (.lst (a.map rowT)) (.lst (b.map rowT)) = .ok (.lst ((a ++ b).map rowT)) := by
  show (if _ ≤ lim then _ else _) = _
  rw [if_pos (by rw [List.length_map, List.length_map]; unfold lim; omega), List.map_append]
theorem bool_eq (a b : Bool) : uEqP true (.bl a) (.bl b) = .ok (.bl (a != b)) := by cases a <;> cases b <;> kernel_rfl
theorem ownNe_b {x y : T} {b : Bool} (h : (insT x "Allowances" && (insT y "Allowances" || tyInT y allTys)) = true) (e : p_Allowances___eq__ [x, y] = .ok (.bl b)) : uOwnNe "Allowances" allTys p_Allowances___eq__ x y = .ok (.bl (!b)) := by
  unfold uOwnNe
  rw [own_r h e, Q.bind_ok]
theorem thr_b (rs : List Row) (ch : Bool) : p_Allowances_through [bookT rs ch] = .ok (.bl ch) := by
  unfold p_Allowances_through
  refine fn_e rfl (okR_ret rfl rfl)
theorem odd_lst (ts : List T) : p_is_allowance [.lst ts] = .ok (.bl false) := by
  unfold p_is_allowance
  refine fn_e rfl (okR_seqR ⟨.bl false, _, ifS_t (or_1 (not_t (trub_r (a := pIsi "tuple" (pVar 0)) (show uIsi "tuple" (.lst ts) = _ by kernel_rfl)))) (ret_e rfl), rfl⟩)
theorem odd_same {p : Str} (g : GoodW p) : p_is_allowance [.tup [.str p, .str p, .int 0, .non]] = .ok (.bl false) := by
  have hp : p_is_word [.str p] = .ok (.bl true) := g
  have hd := date_p (i := 0) (by decide) (by decide)
  have h4 : uEqP true (.int 4) (.int 4) = .ok (.bl false) := by kernel_rfl
  simp [p_is_allowance, pFn, pSeq, pIfS, pOr, pNot, pTru, pIsi, isi_tup, tTru, pVal, pBin, pVar, pC, pCall, paCons, paNil, Q.bind, PR.of, Pu.vLen, v1, uLen, h4, pAsg, pgTu, pgsCons, pgsNil, pgNm, hp, hd, uEqP_str, pNil, pRet, finP]
def restB : PSt := (pSeq (pAsg (pgNm 8) (pSortK (pVar 4) (pCall vStrD (paCons (pCall p__law_key (paCons (pVar 0) (paNil))) (paNil))) 0)) (pSeq (pIfS (pOr (pVal (pBin (uEqP true) (pMeth "Allowances" "rows" p_Allowances_rows (pVar 6) (paNil)) (pVar 8))) (pOr (pVal (pBin (uEqP true) (pCall (vLenO "Allowances" p_Allowances___len__) (paCons (pVar 6) (paNil))) (pCall Pu.vLen (paCons (pVar 4) (paNil))))) (pVal (pBin (uOwnNe "Allowances" allTys p_Allowances___eq__) (pMake p_Allowances___init__ [.bl false] (paCons (pRev (pVar 4) (pUn uNeg (pC (.int 1)))) (paNil))) (pVar 6))))) (pRet (pC (.bl false))) (pNil)) (pSeq (pFor (piAny (pBin uAdd (pVar 4) (pVar 5))) (pgNm 9) (pIfS (pVal (pBin (uEqP true) (pBin (uOwnIn false "Allowances" p_Allowances___contains__) (pVar 9) (pVar 6)) (pBin (uInP false) (pVar 9) (pVar 4)))) (pRet (pC (.bl false))) (pNil)) [9]) (pSeq (pFor (piAny (pLst (paCons (pC .non) (paCons (pC (.int 5)) (paCons (pC (.str "a")) (paCons (pTup (paNil)) (paCons (pIf (pVal (pBin (uEqP true) (pVar 4) (pLst (paNil)))) (pCall vList1 (paCons (pBin uIx (pVar 4) (pC (.int 0))) (paNil))) (pLst (paNil))) (paCons (pTup (paCons (pBin uIx (pVar 3) (pC (.int 0))) (paCons (pBin uIx (pVar 3) (pC (.int 0))) (paCons (pC (.int 0)) (paCons (pC .non) (paNil)))))) (paNil))))))))) (pgNm 10) (pIfS (pVal (pBin (uOwnIn false "Allowances" p_Allowances___contains__) (pVar 10) (pVar 6))) (pRet (pC (.bl false))) (pNil)) [10]) (pSeq (pAsg (pgNm 11) (pBin (uOwn "Allowances" [] p_Allowances___or__) (pVar 6) (pVar 7))) (pSeq (pIfS (pVal (pBin (uEqP true) (pLst (paCons (pProp "Allowances" p_Allowances_through (pVar 11)) (paCons (pProp "Allowances" p_Allowances_through (pVar 6)) (paCons (pProp "Allowances" p_Allowances_through (pVar 7)) (paNil))))) (pLst (paCons (pC (.bl true)) (paCons (pC (.bl false)) (paCons (pC (.bl true)) (paNil))))))) (pRet (pC (.bl false))) (pNil)) (pSeq (pAsg (pgNm 12) (pLc (piAny (pVar 5)) (pgNm 9) (pVal (pBin (uInP true) (pVar 9) (pVar 4))) (pVar 9) [9])) (pSeq (pIfS (pVal (pBin (uEqP true) (pMeth "Allowances" "rows" p_Allowances_rows (pVar 11) (paNil)) (pSortK (pBin uAdd (pVar 4) (pVar 12)) (pCall vStrD (paCons (pCall p__law_key (paCons (pVar 0) (paNil))) (paNil))) 0))) (pRet (pC (.bl false))) (pNil)) (pSeq (pAsg (pgNm 13) (pMake p_Allowances___init__ [.tup [], .bl false] (paNil))) (pSeq (pFor (piAny (pVar 4)) (pgNm 9) (pAsg (pgNm 13) (pBin (uOwn "Allowances" allTys p_Allowances___add__) (pVar 13) (pVar 9))) [9]) (pSeq (pIfS (pOr (pVal (pBin (uOwnNe "Allowances" allTys p_Allowances___eq__) (pVar 13) (pVar 6))) (pOr (pVal (pBin (uEqP true) (pCall (vLenO "Allowances" p_Allowances___len__) (paCons (pMake p_Allowances___init__ [.tup [], .bl false] (paNil)) (paNil))) (pC (.int 0)))) (pOr (pVal (pBin (uOwn "Allowances" allTys p_Allowances___eq__) (pVar 6) (pVar 4))) (pVal (pBin (uOwn "Allowances" allTys p_Allowances___eq__) (pVar 6) (pVar 7)))))) (pRet (pC (.bl false))) (pNil)) (pSeq (pAppF (pMeth "Allowances" "rows" p_Allowances_rows (pVar 6) (paNil)) (pC .non)) (pIfS (pOr (pVal (pBin (uEqP true) (pMeth "Allowances" "rows" p_Allowances_rows (pVar 6) (paNil)) (pVar 8))) (pVal (pBin (uOwn "Allowances" allTys p_Allowances___eq__) (pMakeK p_Allowances___init__ 1 1 (fun xs zs => xs ++ zs) (paCons (pVar 4) (paNil)) (paCons (pC (.bl true)) (paNil))) (pVar 6)))) (pRet (pC (.bl false))) (pNil))))))))))))))
section
variable {X0 X1 X2 : T} {ws : List Str} {one two rs1 rs2 : List Row}
theorem rest_p (g1 : ∀ r ∈ one, GoodR r) (g2 : ∀ r ∈ two, GoodR r) (w1 : ∀ r ∈ one, WR r) (w2 : ∀ r ∈ two, WR r) (n1 : one.Nodup) (n2 : two.Nodup) (l1 : one.length ≤ 5) (l2 : two.length ≤ 5) (pr1 : rs1.Perm one) (s1 : rs1.Pairwise ltR) (pr2 : rs2.Perm two) (s2 : rs2.Pairwise ltR) (hws : ws ≠ []) (hg : ∀ x ∈ ws, GoodW x) :
    OkN (restB [some X0, some X1, some X2, some (.lst (ws.map T.str)), some (.lst (one.map rowT)), some (.lst (two.map rowT)), some (bookT rs1 false), some (bookT rs2 true), none, none, none, none, none, none]) fun s2 => clr [1, 2, 3, 4, 5, 6, 7, 8, 9, 10, 11, 12, 13] s2 = [some X0, none, none, none, none, none, none, none, none, none, none, none, none, none] := by
  have lr1 : rs1.length ≤ 5 := by rw [pr1.length_eq]; exact l1
  have lr2 : rs2.length ≤ 5 := by rw [pr2.length_eq]; exact l2
  have gr1 : ∀ r ∈ rs1, GoodR r := fun r h => g1 r (pr1.mem_iff.mp h)
  have gr2 : ∀ r ∈ rs2, GoodR r := fun r h => g2 r (pr2.mem_iff.mp h)
  unfold restB
  refine okN_seqE (s' := [some X0, some X1, some X2, some (.lst (ws.map T.str)), some (.lst (one.map rowT)), some (.lst (two.map rowT)), some (bookT rs1 false), some (bookT rs2 true), some (.lst (rs1.map rowT)), none, none, none, none, none]) (asg_e (sortK_p rfl pr1 s1 w1) rfl) ?_
  -- the same book from the rows turned
  obtain ⟨rr, prr, srr, er⟩ := init_2 (rs := one.reverse) (L := .lst (one.reverse.map rowT)) (.inl rfl) false (fun r h => g1 r (List.mem_reverse.mp h)) ((List.reverse_perm one).nodup_iff.mpr n1) (by rw [List.length_reverse]; omega)
  have err : rr = rs1 := srt_one (prr.trans ((List.reverse_perm one).trans pr1.symm)) srr s1 fun r h => w1 r (List.mem_reverse.mp (prr.mem_iff.mp h))
  subst err
  refine okN_seqE (ifS_f (or_f (val_e (bin_e (meth_r rfl rfl rfl (rows_b _ _)) rfl (lst_self true _))) (or_f (val_e (bin_e (call_e (acons_e rfl rfl) (len_b false (by omega))) (call_e (acons_e rfl rfl) (q := .ok (.int (one.length : Nat))) (by unfold Pu.vLen v1 uLen; dsimp only; rw [List.length_map])) (neI_f (by rw [pr1.length_eq])))) (val_e (bin_e (mk_r (ts := [.lst (one.reverse.map rowT)]) (acons_e (x := .lst (one.reverse.map rowT)) ?_ rfl) rfl er) rfl (ownNe_b rfl (eq_same _ _)))))) rfl) ?_
  · rw [List.map_reverse]
    rfl
  -- what lies in it
  refine okN_seq (I := fun s => s = [some X0, some X1, some X2, some (.lst (ws.map T.str)), some (.lst (one.map rowT)), some (.lst (two.map rowT)), some (bookT rr false), some (bookT rs2 true), some (.lst (rr.map rowT)), none, none, none, none, none]) ?_ ?_
  · refine okN_for (xs := (one ++ two).map rowT) (any_e (bin_e rfl rfl (add_rows one two (by omega))) rfl) rfl fun x hx s hs => ?_
    subst hs
    obtain ⟨r, hr, rfl⟩ := List.mem_map.mp hx
    have gr : GoodR r := (List.mem_append.mp hr).elim (g1 r) (g2 r)
    refine ⟨[some X0, some X1, some X2, some (.lst (ws.map T.str)), some (.lst (one.map rowT)), some (.lst (two.map rowT)), some (bookT rr false), some (bookT rs2 true), some (.lst (rr.map rowT)), some (rowT r), none, none, none, none], rfl, _, ifS_f (val_e (bin_e (bin_e rfl rfl (in_b gr)) (bin_e rfl rfl (in_lst false r one)) ((bool_eq _ _).trans ?_))) rfl, rfl⟩
    have : decide (r ∈ rr) = decide (r ∈ one) := decide_eq_decide.mpr pr1.mem_iff
    rw [this, Bool.false_bne, bne_self_eq_false]
  rintro s rfl
  -- what does not
  obtain ⟨p0, ws', rfl⟩ := List.exists_cons_of_ne_nil hws
  have hp0 := hg p0 List.mem_cons_self
  obtain ⟨ts, eo⟩ : ∃ ts, pIf (pVal (pBin (uEqP true) (pVar 4) (pLst (paNil)))) (pCall vList1 (paCons (pBin uIx (pVar 4) (pC (.int 0))) (paNil))) (pLst (paNil)) [some X0, some X1, some X2, some (.lst ((p0 :: ws').map T.str)), some (.lst (one.map rowT)), some (.lst (two.map rowT)), some (bookT rr false), some (bookT rs2 true), some (.lst (rr.map rowT)), none, none, none, none, none] = .ok (.lst ts) := by
    have e0 : pVal (pBin (uEqP true) (pVar 4) (pLst (paNil))) [some X0, some X1, some X2, some (.lst ((p0 :: ws').map T.str)), some (.lst (one.map rowT)), some (.lst (two.map rowT)), some (bookT rr false), some (bookT rs2 true), some (.lst (rr.map rowT)), none, none, none, none, none] = .ok (true != one.isEmpty) := val_e (bin_e rfl (lst_e rfl (by simp [lim])) (lst_nil true one))
    cases one with
    | nil => exact ⟨[], if_2 e0 (lst_e rfl (by simp [lim]))⟩
    | cons r one => exact ⟨_, if_1 e0 (call_e (acons_e (bin_e rfl rfl (ix0 (rowT r) (one.map rowT))) rfl) rfl)⟩
  refine okN_seq (I := fun s => s = [some X0, some X1, some X2, some (.lst ((p0 :: ws').map T.str)), some (.lst (one.map rowT)), some (.lst (two.map rowT)), some (bookT rr false), some (bookT rs2 true), some (.lst (rr.map rowT)), none, none, none, none, none]) ?_ ?_
  · refine okN_for (xs := [.non, .int 5, .str "a", .tup [], .lst ts, .tup [.str p0, .str p0, .int 0, .non]]) (any_e (lst_e (acons_e rfl (acons_e rfl (acons_e rfl (acons_e (tup_e rfl (by simp [lim])) (acons_e eo (acons_e (tup_e (acons_e (bin_e rfl rfl (ix0 (.str p0) (ws'.map T.str))) (acons_e (bin_e rfl rfl (ix0 (.str p0) (ws'.map T.str))) (acons_e rfl (acons_e rfl rfl)))) (by simp [lim])) rfl)))))) (by simp [lim])) rfl) rfl fun x hx s hs => ?_
    subst hs
    have hv : p_is_allowance [x] = .ok (.bl false) := by
      simp only [List.mem_cons, List.not_mem_nil, or_false] at hx
      rcases hx with rfl | rfl | rfl | rfl | rfl | rfl
      · kernel_rfl
      · kernel_rfl
      · kernel_rfl
      · kernel_rfl
      · exact odd_lst ts
      · exact odd_same hp0
    exact ⟨[some X0, some X1, some X2, some (.lst ((p0 :: ws').map T.str)), some (.lst (one.map rowT)), some (.lst (two.map rowT)), some (bookT rr false), some (bookT rs2 true), some (.lst (rr.map rowT)), none, some x, none, none, none], rfl, _, ifS_f (val_e (bin_e rfl rfl (in_odd hv))) rfl, rfl⟩
  rintro s rfl
  -- both at once
  have nf : (rr ++ rs2.filter fun r => decide (r ∉ rr)).Nodup := List.nodup_append.mpr ⟨pr1.nodup_iff.mpr n1, (pr2.nodup_iff.mpr n2).sublist (List.filter_sublist), fun a ha b hb e => by
    subst e
    exact of_decide_eq_true (List.mem_filter.mp hb).2 ha⟩
  obtain ⟨rb, prb, srb, eb⟩ := or_b (a := rr) (b := rs2) false true (fun x hx => (List.mem_append.mp hx).elim (gr1 x) fun h => gr2 x (List.mem_filter.mp h).1) nf (by omega) (by omega)
  have hmore : (one ++ two.filter fun r => decide (r ∉ one)).Nodup := List.nodup_append.mpr ⟨n1, n2.sublist (List.filter_sublist), fun a ha b hb e => by
    subst e
    exact of_decide_eq_true (List.mem_filter.mp hb).2 ha⟩
  have prm : rb.Perm (one ++ two.filter fun r => decide (r ∉ one)) := prb.trans ((List.perm_ext_iff_of_nodup nf hmore).mpr fun r => by
    simp only [List.mem_append, List.mem_filter, decide_eq_true_eq, pr1.mem_iff, pr2.mem_iff])
  have wm : ∀ r ∈ one ++ two.filter (fun r => decide (r ∉ one)), WR r := fun r h => (List.mem_append.mp h).elim (w1 r) fun h => w2 r (List.mem_filter.mp h).1
  refine okN_seqE (s' := [some X0, some X1, some X2, some (.lst ((p0 :: ws').map T.str)), some (.lst (one.map rowT)), some (.lst (two.map rowT)), some (bookT rr false), some (bookT rs2 true), some (.lst (rr.map rowT)), none, none, some (bookT rb true), none, none]) (asg_e (bin_e rfl rfl (own_r rfl eb)) rfl) ?_
  refine okN_seqE (ifS_f (val_e (bin_e (lst_e (acons_e (prop_r rfl rfl (thr_b _ _)) (acons_e (prop_r rfl rfl (thr_b _ _)) (acons_e (prop_r rfl rfl (thr_b _ _)) rfl))) (by simp [lim])) (lst_e (acons_e rfl (acons_e rfl (acons_e rfl rfl))) (by simp [lim])) (by kernel_rfl))) rfl) ?_
  refine okN_seqE (s' := [some X0, some X1, some X2, some (.lst ((p0 :: ws').map T.str)), some (.lst (one.map rowT)), some (.lst (two.map rowT)), some (bookT rr false), some (bookT rs2 true), some (.lst (rr.map rowT)), none, none, some (bookT rb true), some (.lst ((two.filter fun r => decide (r ∉ one)).map rowT)), none]) (asg_e (lc_fm (xs := two) (f := rowT) (y := rowT) (p := fun r => decide (r ∉ one)) rfl (by unfold lim; omega) fun r hr => ⟨[some X0, some X1, some X2, some (.lst ((p0 :: ws').map T.str)), some (.lst (one.map rowT)), some (.lst (two.map rowT)), some (bookT rr false), some (bookT rs2 true), some (.lst (rr.map rowT)), some (rowT r), none, some (bookT rb true), none, none], rfl, val_e (bin_e rfl rfl ?_), fun _ => rfl⟩) rfl) ?_
  · rw [in_lst]
    by_cases h : r ∈ one <;> simp [h]
  refine okN_seqE (ifS_f (val_e (bin_e (meth_r rfl rfl rfl (rows_b _ _)) (sortK_p (bin_e rfl rfl (add_rows one _ (by have := List.length_filter_le (fun r => decide (r ∉ one)) two; omega))) prm srb wm) (lst_self true _))) rfl) ?_
  -- row by row
  refine okN_seqE (s' := [some X0, some X1, some X2, some (.lst ((p0 :: ws').map T.str)), some (.lst (one.map rowT)), some (.lst (two.map rowT)), some (bookT rr false), some (bookT rs2 true), some (.lst (rr.map rowT)), none, none, some (bookT rb true), some (.lst ((two.filter fun r => decide (r ∉ one)).map rowT)), some (bookT [] false)]) (asg_e (mk_r (ts := []) rfl rfl init_0) rfl) ?_
  refine okN_seq (I := fun s => ∃ ru : List Row, ru.Perm one ∧ ru.Pairwise ltR ∧ s = [some X0, some X1, some X2, some (.lst ((p0 :: ws').map T.str)), some (.lst (one.map rowT)), some (.lst (two.map rowT)), some (bookT rr false), some (bookT rs2 true), some (.lst (rr.map rowT)), none, none, some (bookT rb true), some (.lst ((two.filter fun r => decide (r ∉ one)).map rowT)), some (bookT ru false)]) ?_ ?_
  · refine (okN_forI (n := one.length) (I := fun i s => ∃ ru : List Row, ru.Perm (one.take i) ∧ ru.Pairwise ltR ∧ s = [some X0, some X1, some X2, some (.lst ((p0 :: ws').map T.str)), some (.lst (one.map rowT)), some (.lst (two.map rowT)), some (bookT rr false), some (bookT rs2 true), some (.lst (rr.map rowT)), none, none, some (bookT rb true), some (.lst ((two.filter fun r => decide (r ∉ one)).map rowT)), some (bookT ru false)]) (xs := one.map rowT) rfl (by rw [List.length_map]) ⟨[], .refl _, .nil, rfl⟩ fun i x hx s hs => ?_).imp fun s h => ?_
    · obtain ⟨ru, pru, sru, rfl⟩ := hs
      rw [List.getElem?_map] at hx
      obtain ⟨r, hr, rfl⟩ := Option.map_eq_some_iff.mp hx
      have hi : i < one.length := (List.getElem?_eq_some_iff.mp hr).1
      have hri : one[i] = r := (List.getElem?_eq_some_iff.mp hr).2
      have ptk : (ru ++ [r]).Perm (one.take (i + 1)) := by
        rw [List.take_succ_eq_append_getElem hi, hri]
        exact pru.append_right _
      have nt : (one.take (i + 1)).Nodup := n1.sublist (List.take_sublist _ _)
      obtain ⟨rv, prv, srv, ev⟩ := add_b (a := ru) (r := r) false (fun y hy => g1 y (List.mem_of_mem_take (ptk.mem_iff.mp hy))) (ptk.nodup_iff.mpr nt) (by rw [ptk.length_eq, List.length_take]; omega)
      exact ⟨[some X0, some X1, some X2, some (.lst ((p0 :: ws').map T.str)), some (.lst (one.map rowT)), some (.lst (two.map rowT)), some (bookT rr false), some (bookT rs2 true), some (.lst (rr.map rowT)), some (rowT r), none, some (bookT rb true), some (.lst ((two.filter fun r => decide (r ∉ one)).map rowT)), some (bookT ru false)], rfl, _, asg_e (bin_e rfl rfl (own_r rfl ev)) rfl, rv, prv.trans ptk, srv, rfl⟩
    · obtain ⟨ru, pru, sru, rfl⟩ := h
      rw [List.take_length] at pru
      exact ⟨ru, pru, sru, rfl⟩
  rintro s ⟨ru, pru, sru, rfl⟩
  have eru : ru = rr := srt_one (pru.trans pr1.symm) sru s1 fun r h => w1 r (pru.mem_iff.mp h)
  subst eru
  refine okN_seqE (ifS_f (or_f (val_e (bin_e rfl rfl (ownNe_b rfl (eq_same _ _)))) (or_f (val_e (bin_e (call_e (acons_e (mk_r (ts := []) rfl rfl init_0) rfl) (len_b (rs := []) false (by decide))) rfl (neI_f rfl))) (or_f (val_e (bin_e rfl rfl (own_r rfl (eq_odd _ _ _)))) (val_e (bin_e rfl rfl (own_r rfl (eq_thr _ _ _ _ (by decide)))))))) rfl) ?_
  refine okN_seqE (s' := [some X0, some X1, some X2, some (.lst ((p0 :: ws').map T.str)), some (.lst (one.map rowT)), some (.lst (two.map rowT)), some (bookT ru false), some (bookT rs2 true), some (.lst (ru.map rowT)), none, none, some (bookT rb true), some (.lst ((two.filter fun r => decide (r ∉ one)).map rowT)), some (bookT ru false)]) ?_ ?_
  · unfold pAppF PR.of
    rw [meth_r (q := .ok (.lst (ru.map rowT))) rfl rfl rfl (rows_b _ _)]
    dsimp only
    rw [show pC T.non _ = Q.ok T.non from rfl]
    dsimp only
    rw [if_pos (by rw [List.length_map]; unfold lim; omega)]
  obtain ⟨rt, prt, srt', et⟩ := init_2 (rs := one) (L := .lst (one.map rowT)) (.inl rfl) true g1 n1 (by omega)
  exact ⟨_, ifS_f (or_f (val_e (bin_e (meth_r rfl rfl rfl (rows_b _ _)) rfl (lst_self true _))) (val_e (bin_e (mkK_r (xs := [.lst (one.map rowT)]) (zs := [.bl true]) (acons_e rfl rfl) (acons_e rfl rfl) ⟨rfl, rfl⟩ rfl et) rfl (own_r rfl (eq_thr _ _ _ _ (by decide)))))) rfl, rfl⟩
end
local macro_rules | `(tactic| walk_at "pe1") => `(tactic| first
  | ((with_reducible apply eq_as); with_reducible assumption)
  | ((with_reducible apply var_r); exact rfl)
  | with_reducible exact c_r
  | with_reducible exact nil_r
  | with_reducible exact qnil_r
  | with_reducible exact ys_r
  | with_reducible exact no_r
  | with_reducible exact pnil_r
  | with_reducible apply acons_e
  | with_reducible apply call_e
  | with_reducible apply bin_e
  | with_reducible exact q_add
  | with_reducible exact q_sub
  | with_reducible apply val_e
  | with_reducible apply trub_r
  | with_reducible apply not_f
  | with_reducible apply not_t
  | with_reducible apply or_f
  | with_reducible apply and_t
  | with_reducible apply un_r
  | with_reducible apply tup_r
  | with_reducible apply lst_r
  | with_reducible apply mk0_r
  | with_reducible apply mk_r
  | with_reducible apply mkK_r
  | with_reducible apply meth_r
  | with_reducible apply callO_r
  | with_reducible apply prop_r
  | with_reducible apply own_r
  | with_reducible apply ownIx_r
  | with_reducible apply fld_r
  | with_reducible apply asgN_r
  | with_reducible apply own1_r
  | with_reducible apply reb1_r
  | with_reducible apply par2_r
  | with_reducible apply skip_r
  | with_reducible apply exp_r
  | with_reducible apply qof_r
  | with_reducible apply qacons_e
  | with_reducible apply any_e
  | with_reducible apply qbin_e
  | with_reducible apply qtup2_r
  | with_reducible apply qtup3_r
  | with_reducible apply tup2_r
  | with_reducible apply tup3_r
  | with_reducible apply qtup_e
  | with_reducible apply qlst_e
  | with_reducible apply qcallS_r
  | with_reducible apply qcallQ_e
  | with_reducible apply qmk0_r
  | with_reducible apply qmk_r
  | with_reducible apply qmkK_r
  | with_reducible apply qapp_r
  | with_reducible apply app_r
  | with_reducible apply dput_r
  | with_reducible apply qdput_r
  | with_reducible apply qpar3_r
  | with_reducible apply qsl_r
  | with_reducible apply qso_r
  | with_reducible apply qasgN_r
  | with_reducible apply qown_r
  | with_reducible apply qpar2_r
  | ((with_reducible apply own_o); exact rfl)
  | ((with_reducible apply lt_as); with_reducible assumption)
  | ((with_reducible apply key_o); exact rfl)
  | ((with_reducible apply set_o); first | (simp only [List.set_cons_zero, List.set_cons_succ]; done) | (simp only [List.set_cons_zero, List.set_cons_succ]; exact rfl))
  | ((with_reducible apply cat_o); first | (simp only [List.cons_append, List.nil_append]; done) | (simp only [List.cons_append, List.nil_append]; exact rfl))
  | ((with_reducible apply me_o); first | exact rfl | kernel_rfl)
  | ((with_reducible apply ins_o); first | exact rfl | kernel_rfl)
  | ((with_reducible apply ins2_o); first | exact rfl | kernel_rfl)
  | ((with_reducible apply lim_o); simp [lim])
  | ((with_reducible apply len2_o); exact ⟨rfl, rfl⟩)
  | ((with_reducible apply ufld_o); exact rfl))
local macro_rules | `(tactic| walk_at "st") => `(tactic| first
  | ((with_reducible apply okN_seqE) <;> (repeat' (walk_at "pe1")))
  | ((with_reducible apply okR_seqE) <;> (repeat' (walk_at "pe1")))
  | ((with_reducible apply okRS_seqE) <;> (repeat' (walk_at "pe1")))
  | ((with_reducible apply okRS_qret) <;> (repeat' (walk_at "pe1")))
  | ((with_reducible apply okRS_ret) <;> (repeat' (walk_at "pe1")))
  | ((with_reducible apply okR_ret) <;> (repeat' (walk_at "pe1")))
  | ((with_reducible apply seq_r) <;> (repeat' (walk_at "pe1"))))
local macro_rules | `(tactic| walk_at "pe") => `(tactic| repeat' (walk_at "pe1"))
local macro_rules | `(tactic| walk_at "ini") => `(tactic| simp only [List.map_cons, List.map_nil, Nat.reduceSub, List.replicate_succ, List.replicate_zero, List.cons_append, List.nil_append])
set_option maxHeartbeats 4000000 in
theorem law_p {ns : List Int} (hl : ns.length ≤ 63) : p_law [.rol (ns.map T.int)] = .ok (.bl true) := by
  generalize hS : T.rol (ns.map T.int) = S
  unfold p_law pFn
  rw [if_pos (show [S].length = 1 from rfl)]
  refine fin_ret (I := fun s => s = [some S, none, none, none, none, none, none, none, none, none, none, none, none, none]) ?_
  obtain ⟨m, hm0, hm1, hm⟩ : ∃ m : Int, 0 ≤ m ∧ m ≤ 3 ∧ (pCall vMax (paCons (pC (.int 1)) (paCons (pCall vMin (paCons (pCall Pu.vLen (paCons (pVar 0) (paNil))) (paCons (pC (.int 3)) (paNil)))) (paNil)))) [some S, none, none, none, none, none, none, none, none, none, none, none, none, none] = .ok (.int m) := by
    subst hS
    refine ⟨if (if (3 : Int) < (ns.length : Int) then 3 else (ns.length : Int)) > 1 then (if (3 : Int) < (ns.length : Int) then 3 else (ns.length : Int)) else 1, by (repeat' split) <;> omega, by (repeat' split) <;> omega, ?_⟩
    simp [pCall, paCons, paNil, pC, pVar, Q.bind, Pu.vLen, v1, uLen, vMin, vMax]
  refine okN_for (range_p hm0 (by omega) hm) rfl fun x hx s hs => ?_
  obtain ⟨k, rfl, hk0, hk1⟩ := mem_uRg hx
  subst hs
  refine ⟨_, rfl, ?_⟩
  simp only [List.set_cons_zero, List.set_cons_succ]
  obtain ⟨t, et, pt⟩ := pool_p (ns := ns) (k := k) hk0 (by omega)
  rw [hS, ← pool_eq] at et
  walk_at "st"
  obtain ⟨ws, t1, e1, hwl, hw, hwd, ndws, pt1⟩ := parts_u pt (m := 4) (by decide)
  replace e1 : p__law_parts t [.int 4] = Q1.ok (.lst (ws.map T.str)) t1 := e1
  have hne : ws ≠ [] := fun e => by rw [e] at hwl; cases hwl
  walk_at "st"
  -- the two books' rows
  obtain ⟨one, t2, e2, n1, g1, l1, pt2⟩ := book_draw pt1 hw hne (by omega) (m := 5) (by omega)
  replace e2 : p__law_book t1 [.lst (ws.map T.str), .int 5] = .ok (.lst (one.map rowT)) t2 := e2
  obtain ⟨two, t3, e3, n2, g2, l2, pt3⟩ := book_draw pt2 hw hne (by omega) (m := 5) (by omega)
  replace e3 : p__law_book t2 [.lst (ws.map T.str), .int 5] = .ok (.lst (two.map rowT)) t3 := e3
  walk_at "st"
  have wr : ∀ {rs : List Row}, (∀ r ∈ rs, GoodR r ∧ r.p ∈ ws ∧ r.q ∈ ws) → ∀ r ∈ rs, WR r := fun h r hr => by
    obtain ⟨a, b, c⟩ := h r hr
    exact ⟨hwd _ b, hwd _ c, a.s0, a.s1, fun e he => by have := a.e e he; have := a.s0; omega⟩
  obtain ⟨rs1, pr1, s1, ei1⟩ := init_2 (rs := one) (L := .lst (one.map rowT)) (.inl rfl) false (fun r hr => (g1 r hr).1) n1 (by omega)
  obtain ⟨rs2, pr2, s2, ei2⟩ := init_2 (rs := two) (L := .tup (two.map rowT)) (.inr rfl) true (fun r hr => (g2 r hr).1) n2 (by omega)
  have et : Pu.vTup1 [.lst (two.map rowT)] = .ok (.tup (two.map rowT)) := rfl
  walk_at "st"
  exact rest_p (fun r hr => (g1 r hr).1) (fun r hr => (g2 r hr).1) (wr g1) (wr g2) n1 n2 l1 l2 pr1 s1 pr2 s2 hne hw
theorem law_true : ∀ ns : List Int, ns.length ≤ 63 → ∃ h', m_law [.rol (ns.map W.int)] [] = .ok (.bl true) h' := fun ns hl => true_of pu_law (law_p hl)
end
set_option maxHeartbeats 0 in
theorem all_mk {l : PySem.W.OpenLaw} {w : World} {K : PySem.W.Frag} {h : Heap} {mg : Str → Option Value} {fa : Addr} (X : K.In h) (G : h.Ns mainGlobals mg) (hfa : mg "law" = some (.ref fa))
    {q_ : Program} (TF : ∀ (y : Str) (c P : Addr), ((recsOf q_).find? fun e => e.name == y).isSome = true → PySem.W.tabIn K y = some (c, P) → PySem.W.CodeHd h c P ∧ h.get? P = some { cls := .none, data := .fields #[] })
    (z_range : PySem.W.nsIn K mainGlobals "range" = some none)
    (z_max : PySem.W.nsIn K mainGlobals "max" = some none)
    (z_min : PySem.W.nsIn K mainGlobals "min" = some none)
    (z_len : PySem.W.nsIn K mainGlobals "len" = some none)
    (z_sum : PySem.W.nsIn K mainGlobals "sum" = some none)
    (z_abs : PySem.W.nsIn K mainGlobals "abs" = some none)
    (z_int : PySem.W.nsIn K mainGlobals "int" = some none)
    (z_isinstance : PySem.W.nsIn K mainGlobals "isinstance" = some none)
    (z_list : PySem.W.nsIn K mainGlobals "list" = some none)
    (z_tuple : PySem.W.nsIn K mainGlobals "tuple" = some none)
    (z_set : PySem.W.nsIn K mainGlobals "set" = some none)
    (z_enumerate : PySem.W.nsIn K mainGlobals "enumerate" = some none)
    (z_bool : PySem.W.nsIn K mainGlobals "bool" = some none)
    {t_LAST_DATE : Tok} (c_LAST_DATE : PySem.W.nsIn K mainGlobals "LAST_DATE" = some (some (.int 9999 t_LAST_DATE)))
    {t_LONGEST_WORD : Tok} (c_LONGEST_WORD : PySem.W.nsIn K mainGlobals "LONGEST_WORD" = some (some (.int 8 t_LONGEST_WORD)))
    (z_str : PySem.W.nsIn K mainGlobals "str" = some none)
    (z_all : PySem.W.nsIn K mainGlobals "all" = some none)
    {t_LETTERS : Tok} (c_LETTERS : PySem.W.nsIn K mainGlobals "LETTERS" = some (some (.str "abcdefghijklmnopqrstuvwxyz" t_LETTERS)))
    {t_MOST_ALLOWANCES : Tok} (c_MOST_ALLOWANCES : PySem.W.nsIn K mainGlobals "MOST_ALLOWANCES" = some (some (.int 12 t_MOST_ALLOWANCES)))
    {C_Allowances : Addr} (g_Allowances : PySem.W.nsIn K mainGlobals "Allowances" = some (some (.ref C_Allowances)))
    (q1_Allowances : PySem.W.plainGet K C_Allowances Str.empty = true)
    (q2_Allowances : PySem.W.hasDictIn K C_Allowances = true)
    (q3_Allowances : PySem.W.plainOver K C_Allowances = true)
    (q4_Allowances : PySem.W.findIn K (.ref C_Allowances) "__setattr__" = some (some (.builtin "object.__setattr__")))
    (q5_Allowances : PySem.W.findIn K (.ref C_Allowances) "__class__" = some (some (.builtin "object.__class__")))
    (q6_Allowances : PySem.W.specialIn K (.builtin "object.__class__") "__get__" = some (some (.builtin "getset_descriptor.__get__")))
    (q7_Allowances : PySem.W.takesIn K (.builtin "object.__class__") = some true)
    (q8_Allowances : PySem.W.mroIn K C_Allowances (.type "object") = some true)
    (q9_Allowances : PySem.W.kitOne K (.ref C_Allowances) (.ref C_Allowances) = some true)
    (r1_Allowances : PySem.W.selfFirst K C_Allowances = true)
    (r2_Allowances : PySem.W.noSeq K C_Allowances = true)
    (r3_Allowances : PySem.W.findIn K (.ref C_Allowances) "__ne__" = some (some (.builtin "object.__ne__")))
    (t_Allowances_dict : PySem.W.kitOne K (.type "dict") (.ref C_Allowances) = some false)
    (n_Allowances_dict : PySem.W.notFirst K C_Allowances (.type "dict") = true)
    (t_Allowances_list : PySem.W.kitOne K (.type "list") (.ref C_Allowances) = some false)
    (n_Allowances_list : PySem.W.notFirst K C_Allowances (.type "list") = true)
    (t_Allowances_tuple : PySem.W.kitOne K (.type "tuple") (.ref C_Allowances) = some false)
    (n_Allowances_tuple : PySem.W.notFirst K C_Allowances (.type "tuple") = true)
    (t_Allowances_int : PySem.W.kitOne K (.type "int") (.ref C_Allowances) = some false)
    (n_Allowances_int : PySem.W.notFirst K C_Allowances (.type "int") = true)
    (t_Allowances_str : PySem.W.kitOne K (.type "str") (.ref C_Allowances) = some false)
    (n_Allowances_str : PySem.W.notFirst K C_Allowances (.type "str") = true)
    (t_Allowances_bool : PySem.W.kitOne K (.type "bool") (.ref C_Allowances) = some false)
    (n_Allowances_bool : PySem.W.notFirst K C_Allowances (.type "bool") = true)
    (t_Allowances_NoneType : PySem.W.kitOne K (.type "NoneType") (.ref C_Allowances) = some false)
    (n_Allowances_NoneType : PySem.W.notFirst K C_Allowances (.type "NoneType") = true)
    (e_Allowances__rows : PySem.W.findIn K (.ref C_Allowances) "_rows" = some none)
    {t_NO_END : Tok} (c_NO_END : PySem.W.nsIn K mainGlobals "NO_END" = some (some (.int 10000 t_NO_END)))
    (z_sorted : PySem.W.nsIn K mainGlobals "sorted" = some none)
    (e_Allowances__through : PySem.W.findIn K (.ref C_Allowances) "_through" = some none)
    (y1_Allowances : PySem.W.makesIn K C_Allowances = true)
    (y2_Allowances : PySem.W.keepIn K (.ref C_Allowances) = true)
    {pp_Allowances_through : Addr} (pa_Allowances_through : PySem.W.findIn K (.ref C_Allowances) "through" = some (some (.ref pp_Allowances_through)))
    (pb_Allowances_through : PySem.W.specialIn K (.ref pp_Allowances_through) "__get__" = some (some (.builtin "property.__get__")))
    (pc_Allowances_through : PySem.W.takesIn K (.ref pp_Allowances_through) = some true)
    {pt_Allowances_through : List Value} {fa_Allowances_through : Addr} (pd_Allowances_through : PySem.W.recIn K pp_Allowances_through "property" = some (.ref fa_Allowances_through :: pt_Allowances_through))
    (bb_Allowances_add : PySem.W.findIn K (.ref C_Allowances) "__radd__" = some none)
    {fo_Allowances_add_dict ro_Allowances_add_dict : Option Value} (bh_Allowances_add_dict : PySem.W.findIn K (.type "dict") "__add__" = some fo_Allowances_add_dict)
    (bo_Allowances_add_dict : PySem.W.findIn K (.type "dict") "__radd__" = some ro_Allowances_add_dict)
    (bs_Allowances_add_dict : PySem.W.subIn K (.type "dict") (.ref C_Allowances) = some false)
    {fo_Allowances_add_list ro_Allowances_add_list : Option Value} (bh_Allowances_add_list : PySem.W.findIn K (.type "list") "__add__" = some fo_Allowances_add_list)
    (bo_Allowances_add_list : PySem.W.findIn K (.type "list") "__radd__" = some ro_Allowances_add_list)
    (bs_Allowances_add_list : PySem.W.subIn K (.type "list") (.ref C_Allowances) = some false)
    {fo_Allowances_add_tuple ro_Allowances_add_tuple : Option Value} (bh_Allowances_add_tuple : PySem.W.findIn K (.type "tuple") "__add__" = some fo_Allowances_add_tuple)
    (bo_Allowances_add_tuple : PySem.W.findIn K (.type "tuple") "__radd__" = some ro_Allowances_add_tuple)
    (bs_Allowances_add_tuple : PySem.W.subIn K (.type "tuple") (.ref C_Allowances) = some false)
    {fo_Allowances_add_int ro_Allowances_add_int : Option Value} (bh_Allowances_add_int : PySem.W.findIn K (.type "int") "__add__" = some fo_Allowances_add_int)
    (bo_Allowances_add_int : PySem.W.findIn K (.type "int") "__radd__" = some ro_Allowances_add_int)
    (bs_Allowances_add_int : PySem.W.subIn K (.type "int") (.ref C_Allowances) = some false)
    {fo_Allowances_add_str ro_Allowances_add_str : Option Value} (bh_Allowances_add_str : PySem.W.findIn K (.type "str") "__add__" = some fo_Allowances_add_str)
    (bo_Allowances_add_str : PySem.W.findIn K (.type "str") "__radd__" = some ro_Allowances_add_str)
    (bs_Allowances_add_str : PySem.W.subIn K (.type "str") (.ref C_Allowances) = some false)
    {fo_Allowances_add_bool ro_Allowances_add_bool : Option Value} (bh_Allowances_add_bool : PySem.W.findIn K (.type "bool") "__add__" = some fo_Allowances_add_bool)
    (bo_Allowances_add_bool : PySem.W.findIn K (.type "bool") "__radd__" = some ro_Allowances_add_bool)
    (bs_Allowances_add_bool : PySem.W.subIn K (.type "bool") (.ref C_Allowances) = some false)
    {fo_Allowances_add_NoneType ro_Allowances_add_NoneType : Option Value} (bh_Allowances_add_NoneType : PySem.W.findIn K (.type "NoneType") "__add__" = some fo_Allowances_add_NoneType)
    (bo_Allowances_add_NoneType : PySem.W.findIn K (.type "NoneType") "__radd__" = some ro_Allowances_add_NoneType)
    (bs_Allowances_add_NoneType : PySem.W.subIn K (.type "NoneType") (.ref C_Allowances) = some false)
    {fa__law_pool : Addr} {od__law_pool an__law_pool : Option Addr} {sl__law_pool : Array (Option Value)} {oc__law_pool kV__law_pool dc__law_pool pm__law_pool cd__law_pool ct__law_pool : Value} (ga__law_pool : PySem.W.nsIn K mainGlobals "_law_pool" = some (some (.ref fa__law_pool)))
    (la__law_pool : K.lookup fa__law_pool = some ⟨oc__law_pool, od__law_pool, .func (PySem.W.fnOf "_law_pool" "_law_pool" (defArgs s__law_pool) (defBody s__law_pool) (defScope s__law_pool) .none kV__law_pool dc__law_pool pm__law_pool an__law_pool cd__law_pool ct__law_pool), sl__law_pool⟩)
    (ca__law_pool : PySem.W.codeIn K cd__law_pool "_law_pool" = true)
    (kp__law_pool : PySem.W.keepIn K (.ref fa__law_pool) = true)
    {fa__law_draw : Addr} {od__law_draw an__law_draw : Option Addr} {sl__law_draw : Array (Option Value)} {oc__law_draw kV__law_draw dc__law_draw pm__law_draw cd__law_draw ct__law_draw : Value} (ga__law_draw : PySem.W.nsIn K mainGlobals "_law_draw" = some (some (.ref fa__law_draw)))
    (la__law_draw : K.lookup fa__law_draw = some ⟨oc__law_draw, od__law_draw, .func (PySem.W.fnOf "_law_draw" "_law_draw" (defArgs s__law_draw) (defBody s__law_draw) (defScope s__law_draw) .none kV__law_draw dc__law_draw pm__law_draw an__law_draw cd__law_draw ct__law_draw), sl__law_draw⟩)
    (ca__law_draw : PySem.W.codeIn K cd__law_draw "_law_draw" = true)
    (kp__law_draw : PySem.W.keepIn K (.ref fa__law_draw) = true)
    {fa__law_pick : Addr} {od__law_pick an__law_pick : Option Addr} {sl__law_pick : Array (Option Value)} {oc__law_pick kV__law_pick dc__law_pick pm__law_pick cd__law_pick ct__law_pick : Value} (ga__law_pick : PySem.W.nsIn K mainGlobals "_law_pick" = some (some (.ref fa__law_pick)))
    (la__law_pick : K.lookup fa__law_pick = some ⟨oc__law_pick, od__law_pick, .func (PySem.W.fnOf "_law_pick" "_law_pick" (defArgs s__law_pick) (defBody s__law_pick) (defScope s__law_pick) .none kV__law_pick dc__law_pick pm__law_pick an__law_pick cd__law_pick ct__law_pick), sl__law_pick⟩)
    (ca__law_pick : PySem.W.codeIn K cd__law_pick "_law_pick" = true)
    (kp__law_pick : PySem.W.keepIn K (.ref fa__law_pick) = true)
    {fa__law_parts : Addr} {od__law_parts an__law_parts : Option Addr} {sl__law_parts : Array (Option Value)} {oc__law_parts kV__law_parts dc__law_parts pm__law_parts cd__law_parts ct__law_parts : Value} (ga__law_parts : PySem.W.nsIn K mainGlobals "_law_parts" = some (some (.ref fa__law_parts)))
    (la__law_parts : K.lookup fa__law_parts = some ⟨oc__law_parts, od__law_parts, .func (PySem.W.fnOf "_law_parts" "_law_parts" (defArgs s__law_parts) (defBody s__law_parts) (defScope s__law_parts) .none kV__law_parts dc__law_parts pm__law_parts an__law_parts cd__law_parts ct__law_parts), sl__law_parts⟩)
    (ca__law_parts : PySem.W.codeIn K cd__law_parts "_law_parts" = true)
    (kp__law_parts : PySem.W.keepIn K (.ref fa__law_parts) = true)
    {fa__law_book : Addr} {od__law_book an__law_book : Option Addr} {sl__law_book : Array (Option Value)} {oc__law_book kV__law_book dc__law_book pm__law_book cd__law_book ct__law_book : Value} (ga__law_book : PySem.W.nsIn K mainGlobals "_law_book" = some (some (.ref fa__law_book)))
    (la__law_book : K.lookup fa__law_book = some ⟨oc__law_book, od__law_book, .func (PySem.W.fnOf "_law_book" "_law_book" (defArgs s__law_book) (defBody s__law_book) (defScope s__law_book) .none kV__law_book dc__law_book pm__law_book an__law_book cd__law_book ct__law_book), sl__law_book⟩)
    (ca__law_book : PySem.W.codeIn K cd__law_book "_law_book" = true)
    (kp__law_book : PySem.W.keepIn K (.ref fa__law_book) = true)
    {fa_is_integer : Addr} {od_is_integer an_is_integer : Option Addr} {sl_is_integer : Array (Option Value)} {oc_is_integer kV_is_integer dc_is_integer pm_is_integer cd_is_integer ct_is_integer : Value} (ga_is_integer : PySem.W.nsIn K mainGlobals "is_integer" = some (some (.ref fa_is_integer)))
    (la_is_integer : K.lookup fa_is_integer = some ⟨oc_is_integer, od_is_integer, .func (PySem.W.fnOf "is_integer" "is_integer" (defArgs s_is_integer) (defBody s_is_integer) (defScope s_is_integer) .none kV_is_integer dc_is_integer pm_is_integer an_is_integer cd_is_integer ct_is_integer), sl_is_integer⟩)
    (ca_is_integer : PySem.W.codeIn K cd_is_integer "is_integer" = true)
    (kp_is_integer : PySem.W.keepIn K (.ref fa_is_integer) = true)
    {fa_is_date : Addr} {od_is_date an_is_date : Option Addr} {sl_is_date : Array (Option Value)} {oc_is_date kV_is_date dc_is_date pm_is_date cd_is_date ct_is_date : Value} (ga_is_date : PySem.W.nsIn K mainGlobals "is_date" = some (some (.ref fa_is_date)))
    (la_is_date : K.lookup fa_is_date = some ⟨oc_is_date, od_is_date, .func (PySem.W.fnOf "is_date" "is_date" (defArgs s_is_date) (defBody s_is_date) (defScope s_is_date) .none kV_is_date dc_is_date pm_is_date an_is_date cd_is_date ct_is_date), sl_is_date⟩)
    (ca_is_date : PySem.W.codeIn K cd_is_date "is_date" = true)
    (kp_is_date : PySem.W.keepIn K (.ref fa_is_date) = true)
    {fa_is_word : Addr} {od_is_word an_is_word : Option Addr} {sl_is_word : Array (Option Value)} {oc_is_word kV_is_word dc_is_word pm_is_word cd_is_word ct_is_word : Value} (ga_is_word : PySem.W.nsIn K mainGlobals "is_word" = some (some (.ref fa_is_word)))
    (la_is_word : K.lookup fa_is_word = some ⟨oc_is_word, od_is_word, .func (PySem.W.fnOf "is_word" "is_word" (defArgs s_is_word) (defBody s_is_word) (defScope s_is_word) .none kV_is_word dc_is_word pm_is_word an_is_word cd_is_word ct_is_word), sl_is_word⟩)
    (ca_is_word : PySem.W.codeIn K cd_is_word "is_word" = true)
    (kp_is_word : PySem.W.keepIn K (.ref fa_is_word) = true)
    {fa_is_allowance : Addr} {od_is_allowance an_is_allowance : Option Addr} {sl_is_allowance : Array (Option Value)} {oc_is_allowance kV_is_allowance dc_is_allowance pm_is_allowance cd_is_allowance ct_is_allowance : Value} (ga_is_allowance : PySem.W.nsIn K mainGlobals "is_allowance" = some (some (.ref fa_is_allowance)))
    (la_is_allowance : K.lookup fa_is_allowance = some ⟨oc_is_allowance, od_is_allowance, .func (PySem.W.fnOf "is_allowance" "is_allowance" (defArgs s_is_allowance) (defBody s_is_allowance) (defScope s_is_allowance) .none kV_is_allowance dc_is_allowance pm_is_allowance an_is_allowance cd_is_allowance ct_is_allowance), sl_is_allowance⟩)
    (ca_is_allowance : PySem.W.codeIn K cd_is_allowance "is_allowance" = true)
    (kp_is_allowance : PySem.W.keepIn K (.ref fa_is_allowance) = true)
    {fa_check_allowances : Addr} {od_check_allowances an_check_allowances : Option Addr} {sl_check_allowances : Array (Option Value)} {oc_check_allowances kV_check_allowances dc_check_allowances pm_check_allowances cd_check_allowances ct_check_allowances : Value} (ga_check_allowances : PySem.W.nsIn K mainGlobals "check_allowances" = some (some (.ref fa_check_allowances)))
    (la_check_allowances : K.lookup fa_check_allowances = some ⟨oc_check_allowances, od_check_allowances, .func (PySem.W.fnOf "check_allowances" "check_allowances" (defArgs s_check_allowances) (defBody s_check_allowances) (defScope s_check_allowances) .none kV_check_allowances dc_check_allowances pm_check_allowances an_check_allowances cd_check_allowances ct_check_allowances), sl_check_allowances⟩)
    (ca_check_allowances : PySem.W.codeIn K cd_check_allowances "check_allowances" = true)
    (kp_check_allowances : PySem.W.keepIn K (.ref fa_check_allowances) = true)
    {fa_ordered : Addr} {od_ordered an_ordered : Option Addr} {sl_ordered : Array (Option Value)} {oc_ordered kV_ordered dc_ordered pm_ordered cd_ordered ct_ordered : Value} (ga_ordered : PySem.W.nsIn K mainGlobals "ordered" = some (some (.ref fa_ordered)))
    (la_ordered : K.lookup fa_ordered = some ⟨oc_ordered, od_ordered, .func (PySem.W.fnOf "ordered" "ordered" (defArgs s_ordered) (defBody s_ordered) (defScope s_ordered) .none kV_ordered dc_ordered pm_ordered an_ordered cd_ordered ct_ordered), sl_ordered⟩)
    (ca_ordered : PySem.W.codeIn K cd_ordered "ordered" = true)
    (kp_ordered : PySem.W.keepIn K (.ref fa_ordered) = true)
    {fa_Allowances___init__ : Addr} {od_Allowances___init__ an_Allowances___init__ : Option Addr} {sl_Allowances___init__ : Array (Option Value)} {oc_Allowances___init__ dc_Allowances___init__ pm_Allowances___init__ cd_Allowances___init__ ct_Allowances___init__ : Value} (ga_Allowances___init__ : PySem.W.findIn K (.ref C_Allowances) "__init__" = some (some (.ref fa_Allowances___init__)))
     {T_Allowances___init__ : Addr} {ocT_Allowances___init__ : Value} {odT_Allowances___init__ : Option Addr} {slT_Allowances___init__ : Array (Option Value)} {nT_Allowances___init__ : Nat} {D_Allowances___init__ : Addr} (la_Allowances___init__ : K.lookup fa_Allowances___init__ = some ⟨oc_Allowances___init__, od_Allowances___init__, .func (PySem.W.fnOf "__init__" "Allowances.__init__" (defArgs s_Allowances___init__) (defBody s_Allowances___init__) (defScope s_Allowances___init__) (.ref T_Allowances___init__) (.ref D_Allowances___init__) dc_Allowances___init__ pm_Allowances___init__ an_Allowances___init__ cd_Allowances___init__ ct_Allowances___init__), sl_Allowances___init__⟩)
     {U_Allowances___init___0 : Addr} (dT_Allowances___init__ : K.lookup T_Allowances___init__ = some ⟨ocT_Allowances___init__, odT_Allowances___init__, .seq [Value.ref U_Allowances___init___0].toArray nT_Allowances___init__, slT_Allowances___init__⟩)
    {nU_Allowances___init___0 : Nat} {slU_Allowances___init___0 : Array (Option Value)} (dU_Allowances___init___0 : K.lookup U_Allowances___init___0 = some ⟨.type "tuple", none, .seq #[] nU_Allowances___init___0, slU_Allowances___init___0⟩)
    (dK_Allowances___init___through : PySem.W.nsIn K D_Allowances___init__ "through" = some (some (.bool false)))
    (ca_Allowances___init__ : PySem.W.codeIn K cd_Allowances___init__ "Allowances.__init__" = true)
    (kp_Allowances___init__ : PySem.W.keepIn K (.ref fa_Allowances___init__) = true)
    (xa_Allowances___init__ : PySem.W.isFn K (.ref fa_Allowances___init__) = true)
    (wa_Allowances___init__ : PySem.W.fnIn K fa_Allowances___init__ = true)
    {fa__law_key : Addr} {od__law_key an__law_key : Option Addr} {sl__law_key : Array (Option Value)} {oc__law_key kV__law_key dc__law_key pm__law_key cd__law_key ct__law_key : Value} (ga__law_key : PySem.W.nsIn K mainGlobals "_law_key" = some (some (.ref fa__law_key)))
    (la__law_key : K.lookup fa__law_key = some ⟨oc__law_key, od__law_key, .func (PySem.W.fnOf "_law_key" "_law_key" (defArgs s__law_key) (defBody s__law_key) (defScope s__law_key) .none kV__law_key dc__law_key pm__law_key an__law_key cd__law_key ct__law_key), sl__law_key⟩)
    (ca__law_key : PySem.W.codeIn K cd__law_key "_law_key" = true)
    (kp__law_key : PySem.W.keepIn K (.ref fa__law_key) = true)
    {fa_Allowances___eq__ : Addr} {od_Allowances___eq__ an_Allowances___eq__ : Option Addr} {sl_Allowances___eq__ : Array (Option Value)} {oc_Allowances___eq__ kV_Allowances___eq__ dc_Allowances___eq__ pm_Allowances___eq__ cd_Allowances___eq__ ct_Allowances___eq__ : Value} (ga_Allowances___eq__ : PySem.W.findIn K (.ref C_Allowances) "__eq__" = some (some (.ref fa_Allowances___eq__)))
    (la_Allowances___eq__ : K.lookup fa_Allowances___eq__ = some ⟨oc_Allowances___eq__, od_Allowances___eq__, .func (PySem.W.fnOf "__eq__" "Allowances.__eq__" (defArgs s_Allowances___eq__) (defBody s_Allowances___eq__) (defScope s_Allowances___eq__) .none kV_Allowances___eq__ dc_Allowances___eq__ pm_Allowances___eq__ an_Allowances___eq__ cd_Allowances___eq__ ct_Allowances___eq__), sl_Allowances___eq__⟩)
    (ca_Allowances___eq__ : PySem.W.codeIn K cd_Allowances___eq__ "Allowances.__eq__" = true)
    (kp_Allowances___eq__ : PySem.W.keepIn K (.ref fa_Allowances___eq__) = true)
    (xa_Allowances___eq__ : PySem.W.isFn K (.ref fa_Allowances___eq__) = true)
    (wa_Allowances___eq__ : PySem.W.fnIn K fa_Allowances___eq__ = true)
    {fa_Allowances___len__ : Addr} {od_Allowances___len__ an_Allowances___len__ : Option Addr} {sl_Allowances___len__ : Array (Option Value)} {oc_Allowances___len__ kV_Allowances___len__ dc_Allowances___len__ pm_Allowances___len__ cd_Allowances___len__ ct_Allowances___len__ : Value} (ga_Allowances___len__ : PySem.W.findIn K (.ref C_Allowances) "__len__" = some (some (.ref fa_Allowances___len__)))
    (la_Allowances___len__ : K.lookup fa_Allowances___len__ = some ⟨oc_Allowances___len__, od_Allowances___len__, .func (PySem.W.fnOf "__len__" "Allowances.__len__" (defArgs s_Allowances___len__) (defBody s_Allowances___len__) (defScope s_Allowances___len__) .none kV_Allowances___len__ dc_Allowances___len__ pm_Allowances___len__ an_Allowances___len__ cd_Allowances___len__ ct_Allowances___len__), sl_Allowances___len__⟩)
    (ca_Allowances___len__ : PySem.W.codeIn K cd_Allowances___len__ "Allowances.__len__" = true)
    (kp_Allowances___len__ : PySem.W.keepIn K (.ref fa_Allowances___len__) = true)
    (xa_Allowances___len__ : PySem.W.isFn K (.ref fa_Allowances___len__) = true)
    (wa_Allowances___len__ : PySem.W.fnIn K fa_Allowances___len__ = true)
    {fa_Allowances_rows : Addr} {od_Allowances_rows an_Allowances_rows : Option Addr} {sl_Allowances_rows : Array (Option Value)} {oc_Allowances_rows kV_Allowances_rows dc_Allowances_rows pm_Allowances_rows cd_Allowances_rows ct_Allowances_rows : Value} (ga_Allowances_rows : PySem.W.findIn K (.ref C_Allowances) "rows" = some (some (.ref fa_Allowances_rows)))
    (la_Allowances_rows : K.lookup fa_Allowances_rows = some ⟨oc_Allowances_rows, od_Allowances_rows, .func (PySem.W.fnOf "rows" "Allowances.rows" (defArgs s_Allowances_rows) (defBody s_Allowances_rows) (defScope s_Allowances_rows) .none kV_Allowances_rows dc_Allowances_rows pm_Allowances_rows an_Allowances_rows cd_Allowances_rows ct_Allowances_rows), sl_Allowances_rows⟩)
    (ca_Allowances_rows : PySem.W.codeIn K cd_Allowances_rows "Allowances.rows" = true)
    (kp_Allowances_rows : PySem.W.keepIn K (.ref fa_Allowances_rows) = true)
    (xa_Allowances_rows : PySem.W.isFn K (.ref fa_Allowances_rows) = true)
    (wa_Allowances_rows : PySem.W.fnIn K fa_Allowances_rows = true)
    {fa_Allowances___contains__ : Addr} {od_Allowances___contains__ an_Allowances___contains__ : Option Addr} {sl_Allowances___contains__ : Array (Option Value)} {oc_Allowances___contains__ kV_Allowances___contains__ dc_Allowances___contains__ pm_Allowances___contains__ cd_Allowances___contains__ ct_Allowances___contains__ : Value} (ga_Allowances___contains__ : PySem.W.findIn K (.ref C_Allowances) "__contains__" = some (some (.ref fa_Allowances___contains__)))
    (la_Allowances___contains__ : K.lookup fa_Allowances___contains__ = some ⟨oc_Allowances___contains__, od_Allowances___contains__, .func (PySem.W.fnOf "__contains__" "Allowances.__contains__" (defArgs s_Allowances___contains__) (defBody s_Allowances___contains__) (defScope s_Allowances___contains__) .none kV_Allowances___contains__ dc_Allowances___contains__ pm_Allowances___contains__ an_Allowances___contains__ cd_Allowances___contains__ ct_Allowances___contains__), sl_Allowances___contains__⟩)
    (ca_Allowances___contains__ : PySem.W.codeIn K cd_Allowances___contains__ "Allowances.__contains__" = true)
    (kp_Allowances___contains__ : PySem.W.keepIn K (.ref fa_Allowances___contains__) = true)
    (xa_Allowances___contains__ : PySem.W.isFn K (.ref fa_Allowances___contains__) = true)
    (wa_Allowances___contains__ : PySem.W.fnIn K fa_Allowances___contains__ = true)
    {fa_Allowances___or__ : Addr} {od_Allowances___or__ an_Allowances___or__ : Option Addr} {sl_Allowances___or__ : Array (Option Value)} {oc_Allowances___or__ kV_Allowances___or__ dc_Allowances___or__ pm_Allowances___or__ cd_Allowances___or__ ct_Allowances___or__ : Value} (ga_Allowances___or__ : PySem.W.findIn K (.ref C_Allowances) "__or__" = some (some (.ref fa_Allowances___or__)))
    (la_Allowances___or__ : K.lookup fa_Allowances___or__ = some ⟨oc_Allowances___or__, od_Allowances___or__, .func (PySem.W.fnOf "__or__" "Allowances.__or__" (defArgs s_Allowances___or__) (defBody s_Allowances___or__) (defScope s_Allowances___or__) .none kV_Allowances___or__ dc_Allowances___or__ pm_Allowances___or__ an_Allowances___or__ cd_Allowances___or__ ct_Allowances___or__), sl_Allowances___or__⟩)
    (ca_Allowances___or__ : PySem.W.codeIn K cd_Allowances___or__ "Allowances.__or__" = true)
    (kp_Allowances___or__ : PySem.W.keepIn K (.ref fa_Allowances___or__) = true)
    (xa_Allowances___or__ : PySem.W.isFn K (.ref fa_Allowances___or__) = true)
    (wa_Allowances___or__ : PySem.W.fnIn K fa_Allowances___or__ = true)
    {od_Allowances_through an_Allowances_through : Option Addr} {sl_Allowances_through : Array (Option Value)} {oc_Allowances_through kV_Allowances_through dc_Allowances_through pm_Allowances_through cd_Allowances_through ct_Allowances_through : Value} (la_Allowances_through : K.lookup fa_Allowances_through = some ⟨oc_Allowances_through, od_Allowances_through, .func (PySem.W.fnOf "through" "Allowances.through" (defArgs s_Allowances_through) (defBody s_Allowances_through) (defScope s_Allowances_through) .none kV_Allowances_through dc_Allowances_through pm_Allowances_through an_Allowances_through cd_Allowances_through ct_Allowances_through), sl_Allowances_through⟩)
    (ca_Allowances_through : PySem.W.codeIn K cd_Allowances_through "Allowances.through" = true)
    (kp_Allowances_through : PySem.W.keepIn K (.ref fa_Allowances_through) = true)
    {fa_Allowances___add__ : Addr} {od_Allowances___add__ an_Allowances___add__ : Option Addr} {sl_Allowances___add__ : Array (Option Value)} {oc_Allowances___add__ kV_Allowances___add__ dc_Allowances___add__ pm_Allowances___add__ cd_Allowances___add__ ct_Allowances___add__ : Value} (ga_Allowances___add__ : PySem.W.findIn K (.ref C_Allowances) "__add__" = some (some (.ref fa_Allowances___add__)))
    (la_Allowances___add__ : K.lookup fa_Allowances___add__ = some ⟨oc_Allowances___add__, od_Allowances___add__, .func (PySem.W.fnOf "__add__" "Allowances.__add__" (defArgs s_Allowances___add__) (defBody s_Allowances___add__) (defScope s_Allowances___add__) .none kV_Allowances___add__ dc_Allowances___add__ pm_Allowances___add__ an_Allowances___add__ cd_Allowances___add__ ct_Allowances___add__), sl_Allowances___add__⟩)
    (ca_Allowances___add__ : PySem.W.codeIn K cd_Allowances___add__ "Allowances.__add__" = true)
    (kp_Allowances___add__ : PySem.W.keepIn K (.ref fa_Allowances___add__) = true)
    (xa_Allowances___add__ : PySem.W.isFn K (.ref fa_Allowances___add__) = true)
    (wa_Allowances___add__ : PySem.W.fnIn K fa_Allowances___add__ = true)
    {fa_law : Addr} {od_law an_law : Option Addr} {sl_law : Array (Option Value)} {oc_law kV_law dc_law pm_law ct_law : Value} {cA_law : Addr} (ga_law : PySem.W.nsIn K mainGlobals "law" = some (some (.ref fa_law)))
    (la_law : K.lookup fa_law = some ⟨oc_law, od_law, .func (PySem.W.fnOf "law" "law" (defArgs s_law) (defBody s_law) (defScope s_law) .none kV_law dc_law pm_law an_law (.ref cA_law) ct_law), sl_law⟩)
    {eC_law : Value} {dC_law : Option Addr} {vC_law : Array Value} {sC_law : Array (Option Value)} (lc_law : K.lookup cA_law = some ⟨eC_law, dC_law, .fields vC_law, sC_law⟩)
    {PA_law : Addr} (vt_law : (vC_law[11]? : Option Value) = some (.ref PA_law))
    (nT_law : K.lookup PA_law = none)
    (rq_law : ((recsOf q_).find? fun e => e.name == ("law" : Str)).isSome = true)
    (ca_law : PySem.W.codeIn K (.ref cA_law) "law" = true)
    (kp_law : PySem.W.keepIn K (.ref fa_law) = true)
    : LawTab l w K CX0 8 "_law_script" mg fa h := by
  have e := hfa.symm.trans (PySem.W.mg_of X G ga_law)
  cases e
  have m_Allowances : Cls K C_Allowances := ⟨q1_Allowances, q2_Allowances, q3_Allowances, q4_Allowances⟩
  have t_Allowances : ∀ n ∈ allTys, PySem.W.kitOne K (.type n) (.ref C_Allowances) = some false := fun n hn => by
    simp only [List.mem_cons, List.not_mem_nil, or_false] at hn
    rcases hn with rfl | rfl | rfl | rfl | rfl | rfl | rfl
    · exact t_Allowances_dict
    · exact t_Allowances_list
    · exact t_Allowances_tuple
    · exact t_Allowances_int
    · exact t_Allowances_str
    · exact t_Allowances_bool
    · exact t_Allowances_NoneType
  have n_Allowances : ∀ n ∈ allTys, PySem.W.notFirst K C_Allowances (.type n) = true := fun n hn => by
    simp only [List.mem_cons, List.not_mem_nil, or_false] at hn
    rcases hn with rfl | rfl | rfl | rfl | rfl | rfl | rfl
    · exact n_Allowances_dict
    · exact n_Allowances_list
    · exact n_Allowances_tuple
    · exact n_Allowances_int
    · exact n_Allowances_str
    · exact n_Allowances_bool
    · exact n_Allowances_NoneType
  have k_Allowances : ClsK K mg "Allowances" C_Allowances := ⟨m_Allowances, ⟨m_Allowances, q5_Allowances, q6_Allowances, q7_Allowances, q8_Allowances⟩, PySem.W.mg_of X G g_Allowances, q9_Allowances, r1_Allowances, r2_Allowances, r3_Allowances, q8_Allowances, t_Allowances, n_Allowances⟩
  have bf_Allowances_add : ∀ n ∈ allTys, BinF K C_Allowances .Add n := fun n hn => by
    simp only [List.mem_cons, List.not_mem_nil, or_false] at hn
    rcases hn with rfl | rfl | rfl | rfl | rfl | rfl | rfl
    · exact ⟨⟨_, bb_Allowances_add, .inl rfl⟩, ⟨_, bh_Allowances_add_dict⟩, ⟨_, bo_Allowances_add_dict⟩, bs_Allowances_add_dict⟩
    · exact ⟨⟨_, bb_Allowances_add, .inl rfl⟩, ⟨_, bh_Allowances_add_list⟩, ⟨_, bo_Allowances_add_list⟩, bs_Allowances_add_list⟩
    · exact ⟨⟨_, bb_Allowances_add, .inl rfl⟩, ⟨_, bh_Allowances_add_tuple⟩, ⟨_, bo_Allowances_add_tuple⟩, bs_Allowances_add_tuple⟩
    · exact ⟨⟨_, bb_Allowances_add, .inl rfl⟩, ⟨_, bh_Allowances_add_int⟩, ⟨_, bo_Allowances_add_int⟩, bs_Allowances_add_int⟩
    · exact ⟨⟨_, bb_Allowances_add, .inl rfl⟩, ⟨_, bh_Allowances_add_str⟩, ⟨_, bo_Allowances_add_str⟩, bs_Allowances_add_str⟩
    · exact ⟨⟨_, bb_Allowances_add, .inl rfl⟩, ⟨_, bh_Allowances_add_bool⟩, ⟨_, bo_Allowances_add_bool⟩, bs_Allowances_add_bool⟩
    · exact ⟨⟨_, bb_Allowances_add, .inl rfl⟩, ⟨_, bh_Allowances_add_NoneType⟩, ⟨_, bo_Allowances_add_NoneType⟩, bs_Allowances_add_NoneType⟩
  have F__law_pool := fun_mk (st := s__law_pool) la__law_pool ca__law_pool kp__law_pool
  have b__law_pool := F__law_pool.binds (ps := ["_law_script", "_law_k"]) fun _ _ _ _ _ _ us hl => match us, hl with | [_, _], _ => rfl
  have F__law_draw := fun_mk (st := s__law_draw) la__law_draw ca__law_draw kp__law_draw
  have b__law_draw := F__law_draw.binds (ps := ["_law_pool_here", "_law_many"]) fun _ _ _ _ _ _ us hl => match us, hl with | [_, _], _ => rfl
  have F__law_pick := fun_mk (st := s__law_pick) la__law_pick ca__law_pick kp__law_pick
  have b__law_pick := F__law_pick.binds (ps := ["_law_pool_here", "_law_row"]) fun _ _ _ _ _ _ us hl => match us, hl with | [_, _], _ => rfl
  have F__law_parts := fun_mk (st := s__law_parts) la__law_parts ca__law_parts kp__law_parts
  have b__law_parts := F__law_parts.binds (ps := ["_law_pool_here", "_law_many"]) fun _ _ _ _ _ _ us hl => match us, hl with | [_, _], _ => rfl
  have F__law_book := fun_mk (st := s__law_book) la__law_book ca__law_book kp__law_book
  have b__law_book := F__law_book.binds (ps := ["_law_pool_here", "_law_parts_here", "_law_many"]) fun _ _ _ _ _ _ us hl => match us, hl with | [_, _, _], _ => rfl
  have F_is_integer := fun_mk (st := s_is_integer) la_is_integer ca_is_integer kp_is_integer
  have b_is_integer := F_is_integer.binds (ps := ["value", "lowest", "highest"]) fun _ _ _ _ _ _ us hl => match us, hl with | [_, _, _], _ => rfl
  have F_is_date := fun_mk (st := s_is_date) la_is_date ca_is_date kp_is_date
  have b_is_date := F_is_date.binds (ps := ["value"]) fun _ _ _ _ _ _ us hl => match us, hl with | [_], _ => rfl
  have F_is_word := fun_mk (st := s_is_word) la_is_word ca_is_word kp_is_word
  have b_is_word := F_is_word.binds (ps := ["value"]) fun _ _ _ _ _ _ us hl => match us, hl with | [_], _ => rfl
  have F_is_allowance := fun_mk (st := s_is_allowance) la_is_allowance ca_is_allowance kp_is_allowance
  have b_is_allowance := F_is_allowance.binds (ps := ["value"]) fun _ _ _ _ _ _ us hl => match us, hl with | [_], _ => rfl
  have F_check_allowances := fun_mk (st := s_check_allowances) la_check_allowances ca_check_allowances kp_check_allowances
  have b_check_allowances := F_check_allowances.binds (ps := ["rows"]) fun _ _ _ _ _ _ us hl => match us, hl with | [_], _ => rfl
  have F_ordered := fun_mk (st := s_ordered) la_ordered ca_ordered kp_ordered
  have b_ordered := F_ordered.binds (ps := ["rows"]) fun _ _ _ _ _ _ us hl => match us, hl with | [_], _ => rfl
  have F_Allowances___init__ : FunD K "__init__" "Allowances.__init__" (defArgs s_Allowances___init__) (defBody s_Allowances___init__) (defScope s_Allowances___init__) [V.ref U_Allowances___init___0] [("through", V.bl false)] fa_Allowances___init__ _ := ⟨⟨_, _, _, _, _, _, _, _, _, _, rfl, la_Allowances___init__, ca_Allowances___init__, .inr ⟨by simp, T_Allowances___init__, _, [Value.ref U_Allowances___init___0], nT_Allowances___init__, rfl, dT_Allowances___init__, rfl, .cons rfl (.nil)⟩, .inr ⟨D_Allowances___init__, rfl, fun q hq => by
    simp only [List.mem_cons, List.not_mem_nil, or_false] at hq
    rcases hq with rfl
    · exact ⟨_, dK_Allowances___init___through, rfl⟩⟩⟩, kp_Allowances___init__⟩
  obtain ⟨ds_Allowances___init___1, vd_Allowances___init___1, b_Allowances___init___1⟩ := F_Allowances___init__.binds (ps := ["self", "rows", "through"]) 2 1 (by simp) rfl (fun _ _ _ _ _ _ _ us its ks hu hi hk => match us, its, ks, hu, hi, hk with | [_, _], [_], [_], _, _, _ => ⟨_, rfl, _, _, _, _, _, _, rfl, rfl, rfl⟩) (by simp)
  have rl_Allowances___init___1 : ∀ ρ H, Rels K ρ H [(.bl false)] [V.bl false] := fun ρ H => (.cons (.bl _) .nil)
  obtain ⟨its_Allowances___init___1_through, mv_Allowances___init___1_through, kb_Allowances___init___1_through⟩ := F_Allowances___init__.kbinds (ps := ["self", "rows", "through"]) 2 ["through"] [] (fun us its mv ws => us ++ ws) (by simp) (by simp) (fun _ h => nomatch h) (fun r1 _ _ r4 => r1.append r4) fun _ _ _ _ _ _ _ us its mv ws hu hi hm hw => match us, its, mv, ws, hu, hi, hm, hw with | [_, _], [_], [], [_], _, _, _, _ => ⟨_, rfl, rfl⟩
  have gr_Allowances___init___1_through : GRel K 1 1 (fun xs zs => xs ++ zs) (fun vs zs => vs ++ zs) := fun ρ H x ws us vs zs r1 r2 _ _ => ⟨_, rfl, r1.append r2⟩
  obtain ⟨ds_Allowances___init___0, vd_Allowances___init___0, b_Allowances___init___0⟩ := F_Allowances___init__.binds (ps := ["self", "rows", "through"]) 1 0 (by simp) rfl (fun _ _ _ _ _ _ _ us its ks hu hi hk => match us, its, ks, hu, hi, hk with | [_], [_], [_], _, _, _ => ⟨_, rfl, _, _, _, _, _, _, rfl, rfl, rfl⟩) (by simp)
  have rl_Allowances___init___0 : ∀ ρ H, Rels K ρ H [(.tup []), (.bl false)] [V.ref U_Allowances___init___0, V.bl false] := fun ρ H => (.cons (.tup (.inr ⟨_, _, _, dU_Allowances___init___0, rfl, rfl, by decide, .nil⟩) .nil) (.cons (.bl _) .nil))
  have F__law_key := fun_mk (st := s__law_key) la__law_key ca__law_key kp__law_key
  have b__law_key := F__law_key.binds (ps := ["_law_row"]) fun _ _ _ _ _ _ us hl => match us, hl with | [_], _ => rfl
  have F_Allowances___eq__ := fun_mk (st := s_Allowances___eq__) la_Allowances___eq__ ca_Allowances___eq__ kp_Allowances___eq__
  have b_Allowances___eq__ := F_Allowances___eq__.binds (ps := ["self", "other"]) fun _ _ _ _ _ _ us hl => match us, hl with | [_, _], _ => rfl
  have ow_Allowances___eq__ : Own K C_Allowances "__eq__" fa_Allowances___eq__ := ⟨ga_Allowances___eq__, xa_Allowances___eq__, wa_Allowances___eq__, kp_Allowances___eq__⟩
  have F_Allowances___len__ := fun_mk (st := s_Allowances___len__) la_Allowances___len__ ca_Allowances___len__ kp_Allowances___len__
  have b_Allowances___len__ := F_Allowances___len__.binds (ps := ["self"]) fun _ _ _ _ _ _ us hl => match us, hl with | [_], _ => rfl
  have ow_Allowances___len__ : Own K C_Allowances "__len__" fa_Allowances___len__ := ⟨ga_Allowances___len__, xa_Allowances___len__, wa_Allowances___len__, kp_Allowances___len__⟩
  have F_Allowances_rows := fun_mk (st := s_Allowances_rows) la_Allowances_rows ca_Allowances_rows kp_Allowances_rows
  have b_Allowances_rows := F_Allowances_rows.binds (ps := ["self"]) fun _ _ _ _ _ _ us hl => match us, hl with | [_], _ => rfl
  have ow_Allowances_rows : Own K C_Allowances "rows" fa_Allowances_rows := ⟨ga_Allowances_rows, xa_Allowances_rows, wa_Allowances_rows, kp_Allowances_rows⟩
  have F_Allowances___contains__ := fun_mk (st := s_Allowances___contains__) la_Allowances___contains__ ca_Allowances___contains__ kp_Allowances___contains__
  have b_Allowances___contains__ := F_Allowances___contains__.binds (ps := ["self", "x"]) fun _ _ _ _ _ _ us hl => match us, hl with | [_, _], _ => rfl
  have ow_Allowances___contains__ : Own K C_Allowances "__contains__" fa_Allowances___contains__ := ⟨ga_Allowances___contains__, xa_Allowances___contains__, wa_Allowances___contains__, kp_Allowances___contains__⟩
  have F_Allowances___or__ := fun_mk (st := s_Allowances___or__) la_Allowances___or__ ca_Allowances___or__ kp_Allowances___or__
  have b_Allowances___or__ := F_Allowances___or__.binds (ps := ["self", "other"]) fun _ _ _ _ _ _ us hl => match us, hl with | [_, _], _ => rfl
  have ow_Allowances___or__ : Own K C_Allowances "__or__" fa_Allowances___or__ := ⟨ga_Allowances___or__, xa_Allowances___or__, wa_Allowances___or__, kp_Allowances___or__⟩
  have F_Allowances_through := fun_mk (st := s_Allowances_through) la_Allowances_through ca_Allowances_through kp_Allowances_through
  have b_Allowances_through := F_Allowances_through.binds (ps := ["self"]) fun _ _ _ _ _ _ us hl => match us, hl with | [_], _ => rfl
  have F_Allowances___add__ := fun_mk (st := s_Allowances___add__) la_Allowances___add__ ca_Allowances___add__ kp_Allowances___add__
  have b_Allowances___add__ := F_Allowances___add__.binds (ps := ["self", "other"]) fun _ _ _ _ _ _ us hl => match us, hl with | [_, _], _ => rfl
  have ow_Allowances___add__ : Own K C_Allowances "__add__" fa_Allowances___add__ := ⟨ga_Allowances___add__, xa_Allowances___add__, wa_Allowances___add__, kp_Allowances___add__⟩
  have F_law := fun_mk (st := s_law) la_law ca_law kp_law
  have mk_Allowances : L2.Mk K C_Allowances fa_Allowances___init__ := ⟨y1_Allowances, ga_Allowances___init__, xa_Allowances___init__, y2_Allowances⟩
  have pr_Allowances_through : PropOf K C_Allowances "through" pp_Allowances_through fa_Allowances_through := ⟨pa_Allowances_through, pb_Allowances_through, pc_Allowances_through, ⟨_, pd_Allowances_through⟩⟩
  have tf_ := TF _ _ _ rq_law (tab_by ga_law la_law rfl lc_law vt_law)
  refine ⟨PySem.W.fnOf "law" "law" (defArgs s_law) (defBody s_law) (defScope s_law) .none kV_law dc_law pm_law an_law (.ref cA_law) ct_law, [(cA_law, PA_law)], fun p hp => by rw [List.mem_singleton.mp hp]; exact tf_.2, fun p hp => by rw [List.mem_singleton.mp hp]; exact nT_law, fun p hp => by rw [List.mem_singleton.mp hp]; exact tf_.1, fun s v => .of_eq rfl, fun base _ _ TB => ?_⟩
  have O__law_pool := ok__law_pool (P := l.prog) (w := w) (mg := mg) (base := base) (cm := ⟨fun n => (([("Allowances", C_Allowances)] : List (Str × Addr)).lookup n).getD 0, l.prog, w, [(PA_law, (("law" ++ ".<locals>." : Str) ++ "<lambda>"))]⟩) F__law_pool (PySem.W.mg_none_of X G z_len) (PySem.W.mg_none_of X G z_sum) (PySem.W.mg_none_of X G z_abs) (PySem.W.mg_none_of X G z_int)
  have O__law_draw := ok__law_draw (P := l.prog) (w := w) (mg := mg) (base := base) (cm := ⟨fun n => (([("Allowances", C_Allowances)] : List (Str × Addr)).lookup n).getD 0, l.prog, w, [(PA_law, (("law" ++ ".<locals>." : Str) ++ "<lambda>"))]⟩) F__law_draw (PySem.W.mg_none_of X G z_int)
  have O__law_pick := ok__law_pick (P := l.prog) (w := w) (mg := mg) (base := base) (cm := ⟨fun n => (([("Allowances", C_Allowances)] : List (Str × Addr)).lookup n).getD 0, l.prog, w, [(PA_law, (("law" ++ ".<locals>." : Str) ++ "<lambda>"))]⟩) F__law_pick O__law_draw (PySem.W.mg_of X G ga__law_draw) kp__law_draw b__law_draw (PySem.W.mg_none_of X G z_len)
  have O__law_parts := ok__law_parts (P := l.prog) (w := w) (mg := mg) (base := base) (cm := ⟨fun n => (([("Allowances", C_Allowances)] : List (Str × Addr)).lookup n).getD 0, l.prog, w, [(PA_law, (("law" ++ ".<locals>." : Str) ++ "<lambda>"))]⟩) F__law_parts O__law_draw (PySem.W.mg_of X G ga__law_draw) kp__law_draw b__law_draw O__law_pick (PySem.W.mg_of X G ga__law_pick) kp__law_pick b__law_pick (PySem.W.mg_none_of X G z_range) (PySem.W.mg_none_of X G z_int)
  have O__law_book := ok__law_book (P := l.prog) (w := w) (mg := mg) (base := base) (cm := ⟨fun n => (([("Allowances", C_Allowances)] : List (Str × Addr)).lookup n).getD 0, l.prog, w, [(PA_law, (("law" ++ ".<locals>." : Str) ++ "<lambda>"))]⟩) F__law_book (PySem.W.mg_none_of X G z_range) O__law_pick (PySem.W.mg_of X G ga__law_pick) kp__law_pick b__law_pick O__law_draw (PySem.W.mg_of X G ga__law_draw) kp__law_draw b__law_draw
  have O_is_integer := ok_is_integer (P := l.prog) (w := w) (mg := mg) (base := base) (cm := ⟨fun n => (([("Allowances", C_Allowances)] : List (Str × Addr)).lookup n).getD 0, l.prog, w, [(PA_law, (("law" ++ ".<locals>." : Str) ++ "<lambda>"))]⟩) F_is_integer (PySem.W.mg_none_of X G z_isinstance) (PySem.W.mg_none_of X G z_bool) (PySem.W.mg_none_of X G z_int)
  have O_is_date := ok_is_date (P := l.prog) (w := w) (mg := mg) (base := base) (cm := ⟨fun n => (([("Allowances", C_Allowances)] : List (Str × Addr)).lookup n).getD 0, l.prog, w, [(PA_law, (("law" ++ ".<locals>." : Str) ++ "<lambda>"))]⟩) F_is_date O_is_integer (PySem.W.mg_of X G ga_is_integer) kp_is_integer b_is_integer (PySem.W.mg_of X G c_LAST_DATE)
  have O_is_word := ok_is_word (P := l.prog) (w := w) (mg := mg) (base := base) (cm := ⟨fun n => (([("Allowances", C_Allowances)] : List (Str × Addr)).lookup n).getD 0, l.prog, w, [(PA_law, (("law" ++ ".<locals>." : Str) ++ "<lambda>"))]⟩) F_is_word (PySem.W.mg_none_of X G z_len) (PySem.W.mg_of X G c_LONGEST_WORD) (PySem.W.mg_none_of X G z_isinstance) (PySem.W.mg_none_of X G z_str) (PySem.W.mg_none_of X G z_all) (PySem.W.mg_of X G c_LETTERS)
  have O_is_allowance := ok_is_allowance (P := l.prog) (w := w) (mg := mg) (base := base) (cm := ⟨fun n => (([("Allowances", C_Allowances)] : List (Str × Addr)).lookup n).getD 0, l.prog, w, [(PA_law, (("law" ++ ".<locals>." : Str) ++ "<lambda>"))]⟩) F_is_allowance (PySem.W.mg_none_of X G z_len) (PySem.W.mg_none_of X G z_isinstance) (PySem.W.mg_none_of X G z_tuple) O_is_date (PySem.W.mg_of X G ga_is_date) kp_is_date b_is_date O_is_word (PySem.W.mg_of X G ga_is_word) kp_is_word b_is_word
  have O_check_allowances := ok_check_allowances (P := l.prog) (w := w) (mg := mg) (base := base) (cm := ⟨fun n => (([("Allowances", C_Allowances)] : List (Str × Addr)).lookup n).getD 0, l.prog, w, [(PA_law, (("law" ++ ".<locals>." : Str) ++ "<lambda>"))]⟩) F_check_allowances (PySem.W.mg_none_of X G z_isinstance) (PySem.W.mg_none_of X G z_list) (PySem.W.mg_none_of X G z_tuple) (PySem.W.mg_none_of X G z_set) rfl rfl (PySem.W.mg_none_of X G z_enumerate) O_is_allowance (PySem.W.mg_of X G ga_is_allowance) kp_is_allowance b_is_allowance (PySem.W.mg_none_of X G z_len) (PySem.W.mg_of X G c_MOST_ALLOWANCES)
  have O_ordered := ok_ordered (P := l.prog) (w := w) (mg := mg) (base := base) (cm := ⟨fun n => (([("Allowances", C_Allowances)] : List (Str × Addr)).lookup n).getD 0, l.prog, w, [(PA_law, (("law" ++ ".<locals>." : Str) ++ "<lambda>"))]⟩) F_ordered (PySem.W.mg_of X G c_NO_END) (PySem.W.mg_none_of X G z_sorted) (PySem.W.mg_none_of X G z_set) rfl rfl (PySem.W.mg_none_of X G z_tuple)
  have O_Allowances___init__ := ok_Allowances___init__ (P := l.prog) (w := w) (mg := mg) (base := base) (cm := ⟨fun n => (([("Allowances", C_Allowances)] : List (Str × Addr)).lookup n).getD 0, l.prog, w, [(PA_law, (("law" ++ ".<locals>." : Str) ++ "<lambda>"))]⟩) F_Allowances___init__ O_check_allowances (PySem.W.mg_of X G ga_check_allowances) kp_check_allowances b_check_allowances e_Allowances__rows O_ordered (PySem.W.mg_of X G ga_ordered) kp_ordered b_ordered k_Allowances e_Allowances__through
  have O__law_key := ok__law_key (P := l.prog) (w := w) (mg := mg) (base := base) (cm := ⟨fun n => (([("Allowances", C_Allowances)] : List (Str × Addr)).lookup n).getD 0, l.prog, w, [(PA_law, (("law" ++ ".<locals>." : Str) ++ "<lambda>"))]⟩) F__law_key
  have O_Allowances___eq__ := ok_Allowances___eq__ (P := l.prog) (w := w) (mg := mg) (base := base) (cm := ⟨fun n => (([("Allowances", C_Allowances)] : List (Str × Addr)).lookup n).getD 0, l.prog, w, [(PA_law, (("law" ++ ".<locals>." : Str) ++ "<lambda>"))]⟩) F_Allowances___eq__ (PySem.W.mg_none_of X G z_isinstance) k_Allowances e_Allowances__through e_Allowances__rows
  have O_Allowances___len__ := ok_Allowances___len__ (P := l.prog) (w := w) (mg := mg) (base := base) (cm := ⟨fun n => (([("Allowances", C_Allowances)] : List (Str × Addr)).lookup n).getD 0, l.prog, w, [(PA_law, (("law" ++ ".<locals>." : Str) ++ "<lambda>"))]⟩) F_Allowances___len__ (PySem.W.mg_none_of X G z_len) k_Allowances e_Allowances__rows
  have O_Allowances_rows := ok_Allowances_rows (P := l.prog) (w := w) (mg := mg) (base := base) (cm := ⟨fun n => (([("Allowances", C_Allowances)] : List (Str × Addr)).lookup n).getD 0, l.prog, w, [(PA_law, (("law" ++ ".<locals>." : Str) ++ "<lambda>"))]⟩) F_Allowances_rows (PySem.W.mg_none_of X G z_list) k_Allowances e_Allowances__rows
  have O_Allowances___contains__ := ok_Allowances___contains__ (P := l.prog) (w := w) (mg := mg) (base := base) (cm := ⟨fun n => (([("Allowances", C_Allowances)] : List (Str × Addr)).lookup n).getD 0, l.prog, w, [(PA_law, (("law" ++ ".<locals>." : Str) ++ "<lambda>"))]⟩) F_Allowances___contains__ k_Allowances e_Allowances__rows O_is_allowance (PySem.W.mg_of X G ga_is_allowance) kp_is_allowance b_is_allowance
  have O_Allowances___or__ := ok_Allowances___or__ (P := l.prog) (w := w) (mg := mg) (base := base) (cm := ⟨fun n => (([("Allowances", C_Allowances)] : List (Str × Addr)).lookup n).getD 0, l.prog, w, [(PA_law, (("law" ++ ".<locals>." : Str) ++ "<lambda>"))]⟩) F_Allowances___or__ (PySem.W.mg_none_of X G z_isinstance) k_Allowances e_Allowances__rows O_Allowances___init__ mk_Allowances kb_Allowances___init___1_through gr_Allowances___init___1_through e_Allowances__through
  have O_Allowances_through := ok_Allowances_through (P := l.prog) (w := w) (mg := mg) (base := base) (cm := ⟨fun n => (([("Allowances", C_Allowances)] : List (Str × Addr)).lookup n).getD 0, l.prog, w, [(PA_law, (("law" ++ ".<locals>." : Str) ++ "<lambda>"))]⟩) F_Allowances_through k_Allowances e_Allowances__through
  have O_Allowances___add__ := ok_Allowances___add__ (P := l.prog) (w := w) (mg := mg) (base := base) (cm := ⟨fun n => (([("Allowances", C_Allowances)] : List (Str × Addr)).lookup n).getD 0, l.prog, w, [(PA_law, (("law" ++ ".<locals>." : Str) ++ "<lambda>"))]⟩) F_Allowances___add__ O_Allowances___init__ k_Allowances mk_Allowances e_Allowances__rows kb_Allowances___init___1_through gr_Allowances___init___1_through e_Allowances__through
  have O_law := ok_law (P := l.prog) (w := w) (mg := mg) (base := base) (cm := ⟨fun n => (([("Allowances", C_Allowances)] : List (Str × Addr)).lookup n).getD 0, l.prog, w, [(PA_law, (("law" ++ ".<locals>." : Str) ++ "<lambda>"))]⟩) F_law (PySem.W.mg_none_of X G z_range) (PySem.W.mg_none_of X G z_max) (PySem.W.mg_none_of X G z_min) (PySem.W.mg_none_of X G z_len) O__law_pool (PySem.W.mg_of X G ga__law_pool) kp__law_pool b__law_pool O__law_parts (PySem.W.mg_of X G ga__law_parts) kp__law_parts b__law_parts O__law_book (PySem.W.mg_of X G ga__law_book) kp__law_book b__law_book O_Allowances___init__ k_Allowances mk_Allowances b_Allowances___init___1 vd_Allowances___init___1 rl_Allowances___init___1 (PySem.W.mg_none_of X G z_tuple) kb_Allowances___init___1_through gr_Allowances___init___1_through (PySem.W.mg_none_of X G z_sorted) (PySem.W.mg_none_of X G z_str) O__law_key (PySem.W.mg_of X G ga__law_key) kp__law_key b__law_key rfl (TB _ List.mem_cons_self) List.mem_cons_self (fun p hp _ => by rw [List.mem_singleton.mp hp]) O_Allowances___eq__ ow_Allowances___eq__ b_Allowances___eq__ O_Allowances___len__ ow_Allowances___len__ b_Allowances___len__ O_Allowances_rows ow_Allowances_rows b_Allowances_rows O_Allowances___contains__ ow_Allowances___contains__ b_Allowances___contains__ (PySem.W.mg_none_of X G z_list) O_Allowances___or__ ow_Allowances___or__ b_Allowances___or__ O_Allowances_through pr_Allowances_through b_Allowances_through b_Allowances___init___0 vd_Allowances___init___0 rl_Allowances___init___0 O_Allowances___add__ ow_Allowances___add__ b_Allowances___add__ bf_Allowances_add
  exact law_impGT O_law law_true fun p hp => ⟨_, List.mem_cons_self, by rw [List.mem_singleton.mp hp]⟩
end ThisLaw
open PySem PySem.W PyProof.Rows
noncomputable def PySem.W.Fast.tw9441763270002281342 : Nat := 0
noncomputable def PySem.W.Fast.tw13534822213931190153 : Nat := 0
noncomputable def PySem.W.Fast.tw17243290568367791402 : Nat := 0
noncomputable def PySem.W.Fast.tw7257313596013405840 : Nat := 0
noncomputable def PySem.W.Fast.tw16391065297545087487 : Nat := 0
set_option maxHeartbeats 0 in
theorem PySem.Challenge.cw_standinparts_k03_books_of_allowances_holds : PySem.Challenge.rw_standinparts_k03_books_of_allowances.Holds := by
  w_on; o_law; k_head; (case hw => w_witness2)
  k_fill
  refine EL.walk_tabs (l := PySem.Challenge.rw_standinparts_k03_books_of_allowances) (k := 8) (x := "_law_script") (CX := fun _ => L2.CX0) rfl rfl ⟨rfl, by decide, by decide⟩ (fun w h Y => PySem.W.km_in_of Y) ?F (fun _ _ _ _ _ h => h)
  case F =>
    intro w mg fa h KX G hmg TF
    refine' ThisLaw.all_mk KX G hmg TF ?z_range ?z_max ?z_min ?z_len ?z_sum ?z_abs ?z_int ?z_isinstance ?z_list ?z_tuple ?z_set ?z_enumerate ?z_bool ?c_LAST_DATE ?c_LONGEST_WORD ?z_str ?z_all ?c_LETTERS ?c_MOST_ALLOWANCES ?g_Allowances ?q1_Allowances ?q2_Allowances ?q3_Allowances ?q4_Allowances ?q5_Allowances ?q6_Allowances ?q7_Allowances ?q8_Allowances ?q9_Allowances ?r1_Allowances ?r2_Allowances ?r3_Allowances ?t_Allowances_dict ?n_Allowances_dict ?t_Allowances_list ?n_Allowances_list ?t_Allowances_tuple ?n_Allowances_tuple ?t_Allowances_int ?n_Allowances_int ?t_Allowances_str ?n_Allowances_str ?t_Allowances_bool ?n_Allowances_bool ?t_Allowances_NoneType ?n_Allowances_NoneType ?e_Allowances__rows ?c_NO_END ?z_sorted ?e_Allowances__through ?y1_Allowances ?y2_Allowances ?pa_Allowances_through ?pb_Allowances_through ?pc_Allowances_through ?pd_Allowances_through ?bb_Allowances_add ?bh_Allowances_add_dict ?bo_Allowances_add_dict ?bs_Allowances_add_dict ?bh_Allowances_add_list ?bo_Allowances_add_list ?bs_Allowances_add_list ?bh_Allowances_add_tuple ?bo_Allowances_add_tuple ?bs_Allowances_add_tuple ?bh_Allowances_add_int ?bo_Allowances_add_int ?bs_Allowances_add_int ?bh_Allowances_add_str ?bo_Allowances_add_str ?bs_Allowances_add_str ?bh_Allowances_add_bool ?bo_Allowances_add_bool ?bs_Allowances_add_bool ?bh_Allowances_add_NoneType ?bo_Allowances_add_NoneType ?bs_Allowances_add_NoneType ?ga__law_pool ?la__law_pool ?ca__law_pool ?kp__law_pool ?ga__law_draw ?la__law_draw ?ca__law_draw ?kp__law_draw ?ga__law_pick ?la__law_pick ?ca__law_pick ?kp__law_pick ?ga__law_parts ?la__law_parts ?ca__law_parts ?kp__law_parts ?ga__law_book ?la__law_book ?ca__law_book ?kp__law_book ?ga_is_integer ?la_is_integer ?ca_is_integer ?kp_is_integer ?ga_is_date ?la_is_date ?ca_is_date ?kp_is_date ?ga_is_word ?la_is_word ?ca_is_word ?kp_is_word ?ga_is_allowance ?la_is_allowance ?ca_is_allowance ?kp_is_allowance ?ga_check_allowances ?la_check_allowances ?ca_check_allowances ?kp_check_allowances ?ga_ordered ?la_ordered ?ca_ordered ?kp_ordered ?ga_Allowances___init__ ?la_Allowances___init__ ?dT_Allowances___init__ ?dU_Allowances___init___0 ?dK_Allowances___init___through ?ca_Allowances___init__ ?kp_Allowances___init__ ?xa_Allowances___init__ ?wa_Allowances___init__ ?ga__law_key ?la__law_key ?ca__law_key ?kp__law_key ?ga_Allowances___eq__ ?la_Allowances___eq__ ?ca_Allowances___eq__ ?kp_Allowances___eq__ ?xa_Allowances___eq__ ?wa_Allowances___eq__ ?ga_Allowances___len__ ?la_Allowances___len__ ?ca_Allowances___len__ ?kp_Allowances___len__ ?xa_Allowances___len__ ?wa_Allowances___len__ ?ga_Allowances_rows ?la_Allowances_rows ?ca_Allowances_rows ?kp_Allowances_rows ?xa_Allowances_rows ?wa_Allowances_rows ?ga_Allowances___contains__ ?la_Allowances___contains__ ?ca_Allowances___contains__ ?kp_Allowances___contains__ ?xa_Allowances___contains__ ?wa_Allowances___contains__ ?ga_Allowances___or__ ?la_Allowances___or__ ?ca_Allowances___or__ ?kp_Allowances___or__ ?xa_Allowances___or__ ?wa_Allowances___or__ ?la_Allowances_through ?ca_Allowances_through ?kp_Allowances_through ?ga_Allowances___add__ ?la_Allowances___add__ ?ca_Allowances___add__ ?kp_Allowances___add__ ?xa_Allowances___add__ ?wa_Allowances___add__ ?ga_law ?la_law ?lc_law ?vt_law ?nT_law ?rq_law ?ca_law ?kp_law
    (case z_range => k_is); (case z_max => k_is); (case z_min => k_is); (case z_len => k_is); (case z_sum => k_is); (case z_abs => k_is); (case z_int => k_is); (case z_isinstance => k_is); (case z_list => k_is); (case z_tuple => k_is); (case z_set => k_is); (case z_enumerate => k_is); (case z_bool => k_is); (case c_LAST_DATE => k_is); (case c_LONGEST_WORD => k_is); (case z_str => k_is); (case z_all => k_is); (case c_LETTERS => k_is); (case c_MOST_ALLOWANCES => k_is); (case g_Allowances => k_is); (case q1_Allowances => k_is); (case q2_Allowances => k_is); (case q3_Allowances => k_is); (case q4_Allowances => k_is); (case q5_Allowances => k_is); (case q6_Allowances => k_is); (case q7_Allowances => k_is); (case q8_Allowances => k_is); (case q9_Allowances => kit_is); (case r1_Allowances => k_is); (case r2_Allowances => k_is); (case r3_Allowances => k_is); (case t_Allowances_dict => kit_is); (case n_Allowances_dict => k_is); (case t_Allowances_list => kit_is); (case n_Allowances_list => k_is); (case t_Allowances_tuple => kit_is); (case n_Allowances_tuple => k_is); (case t_Allowances_int => kit_is); (case n_Allowances_int => k_is); (case t_Allowances_str => kit_is); (case n_Allowances_str => k_is); (case t_Allowances_bool => kit_is); (case n_Allowances_bool => k_is); (case t_Allowances_NoneType => kit_is); (case n_Allowances_NoneType => k_is); (case e_Allowances__rows => k_is); (case c_NO_END => k_is); (case z_sorted => k_is); (case e_Allowances__through => k_is); (case y1_Allowances => k_is); (case y2_Allowances => k_is); (case pa_Allowances_through => k_is); (case pb_Allowances_through => k_is); (case pc_Allowances_through => k_is); (case pd_Allowances_through => k_is); (case bb_Allowances_add => k_is); (case bh_Allowances_add_dict => k_is); (case bo_Allowances_add_dict => k_is); (case bs_Allowances_add_dict => k_is); (case bh_Allowances_add_list => k_is); (case bo_Allowances_add_list => k_is); (case bs_Allowances_add_list => k_is); (case bh_Allowances_add_tuple => k_is); (case bo_Allowances_add_tuple => k_is); (case bs_Allowances_add_tuple => k_is); (case bh_Allowances_add_int => k_is); (case bo_Allowances_add_int => k_is); (case bs_Allowances_add_int => k_is); (case bh_Allowances_add_str => k_is); (case bo_Allowances_add_str => k_is); (case bs_Allowances_add_str => k_is); (case bh_Allowances_add_bool => k_is); (case bo_Allowances_add_bool => k_is); (case bs_Allowances_add_bool => k_is); (case bh_Allowances_add_NoneType => k_is); (case bo_Allowances_add_NoneType => k_is); (case bs_Allowances_add_NoneType => k_is); (case ga__law_pool => k_is); (case la__law_pool => k_is); (case ca__law_pool => k_is); (case kp__law_pool => k_is); (case ga__law_draw => k_is); (case la__law_draw => k_is); (case ca__law_draw => k_is); (case kp__law_draw => k_is); (case ga__law_pick => k_is); (case la__law_pick => k_is); (case ca__law_pick => k_is); (case kp__law_pick => k_is); (case ga__law_parts => k_is); (case la__law_parts => k_is); (case ca__law_parts => k_is); (case kp__law_parts => k_is); (case ga__law_book => k_is); (case la__law_book => k_is); (case ca__law_book => k_is); (case kp__law_book => k_is); (case ga_is_integer => k_is); (case la_is_integer => k_is); (case ca_is_integer => k_is); (case kp_is_integer => k_is); (case ga_is_date => k_is); (case la_is_date => k_is); (case ca_is_date => k_is); (case kp_is_date => k_is); (case ga_is_word => k_is); (case la_is_word => k_is); (case ca_is_word => k_is); (case kp_is_word => k_is); (case ga_is_allowance => k_is); (case la_is_allowance => k_is); (case ca_is_allowance => k_is); (case kp_is_allowance => k_is); (case ga_check_allowances => k_is); (case la_check_allowances => k_is); (case ca_check_allowances => k_is); (case kp_check_allowances => k_is); (case ga_ordered => k_is); (case la_ordered => k_is); (case ca_ordered => k_is); (case kp_ordered => k_is); (case ga_Allowances___init__ => k_is); (case la_Allowances___init__ => k_is); (case dT_Allowances___init__ => k_is); (case dU_Allowances___init___0 => k_is); (case dK_Allowances___init___through => k_is); (case ca_Allowances___init__ => k_is); (case kp_Allowances___init__ => k_is); (case xa_Allowances___init__ => k_is); (case wa_Allowances___init__ => k_is); (case ga__law_key => k_is); (case la__law_key => k_is); (case ca__law_key => k_is); (case kp__law_key => k_is); (case ga_Allowances___eq__ => k_is); (case la_Allowances___eq__ => k_is); (case ca_Allowances___eq__ => k_is); (case kp_Allowances___eq__ => k_is); (case xa_Allowances___eq__ => k_is); (case wa_Allowances___eq__ => k_is); (case ga_Allowances___len__ => k_is); (case la_Allowances___len__ => k_is); (case ca_Allowances___len__ => k_is); (case kp_Allowances___len__ => k_is); (case xa_Allowances___len__ => k_is); (case wa_Allowances___len__ => k_is); (case ga_Allowances_rows => k_is); (case la_Allowances_rows => k_is); (case ca_Allowances_rows => k_is); (case kp_Allowances_rows => k_is); (case xa_Allowances_rows => k_is); (case wa_Allowances_rows => k_is); (case ga_Allowances___contains__ => k_is); (case la_Allowances___contains__ => k_is); (case ca_Allowances___contains__ => k_is); (case kp_Allowances___contains__ => k_is); (case xa_Allowances___contains__ => k_is); (case wa_Allowances___contains__ => k_is); (case ga_Allowances___or__ => k_is); (case la_Allowances___or__ => k_is); (case ca_Allowances___or__ => k_is); (case kp_Allowances___or__ => k_is); (case xa_Allowances___or__ => k_is); (case wa_Allowances___or__ => k_is); (case la_Allowances_through => k_is); (case ca_Allowances_through => k_is); (case kp_Allowances_through => k_is); (case ga_Allowances___add__ => k_is); (case la_Allowances___add__ => k_is); (case ca_Allowances___add__ => k_is); (case kp_Allowances___add__ => k_is); (case xa_Allowances___add__ => k_is); (case wa_Allowances___add__ => k_is); (case ga_law => k_is); (case la_law => k_is); (case lc_law => k_is); (case vt_law => rfl); (case nT_law => first | decide +kernel | exact rfl); (case rq_law => decide +kernel); (case ca_law => k_is); (case kp_law => k_is)
