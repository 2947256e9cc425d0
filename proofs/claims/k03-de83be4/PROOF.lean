import PyProof.Rows.All
import Wide.All
import OpenK.AllK
import Wide.FinOn
import HandS.ForMost
import HandS.TupSets
import HandS.Strs
import HandS.IsInst
import HandS.Walk
import KE.SortData
import KE.GoesMore
import HandS.Style
import PySem.Challenge.RW_crossparity_k03_pairs_listed
set_option Elab.async false
set_option linter.all false
set_option maxRecDepth 100000
set_option maxHeartbeats 4000000
/-! Sets whose elements are objects compared by value (tuples of texts, tuples of such tuples): set(xs), s.add(x), x in s, len(s). -/
namespace CP
open PySem PySem.Spec PyProof.Rows L2

/-- how objects serve as keys: key k stands at address a; its hash; == , hash and the two quiet questions -/
structure KF (P : Program) (w : World) (κ : Type) [DecidableEq κ] where
  At : Heap → κ → Addr → Prop
  hs : κ → Int
  eqb : ∀ {A : Around} {E : Value → Shared → Prop} {s : Shared} {x y : κ} {a b : Addr} {Q : Bool → Shared → Prop}, A.units + 8 < cLine → At s.heap x a → At s.heap y b → Q (decide (x = y)) s → wpAny (model P w) A (eqBool (.ref a) (.ref b)) Q E s
  seen : ∀ {A : Around} {E : Value → Shared → Prop} {s : Shared} {x : κ} {b : Addr} {Q : Bool → Shared → Prop} {ys : List Value}, At s.heap x b → (∀ y ∈ ys, ∃ z c, y = Value.ref c ∧ At s.heap z c) → Q false s → wpAny (model P w) A (searchCouldBeSeen (.ref b) ys) Q E s
  hby : ∀ {A : Around} {E : Value → Shared → Prop} {s : Shared} {x : κ} {b : Addr} {Q : Bool → Shared → Prop}, At s.heap x b → (∀ v, Q v s) → wpAny (model P w) A (hashByValue 8 (.ref b)) Q E s
  pyh : ∀ {A : Around} {E : Value → Shared → Prop} {s : Shared} {x : κ} {b : Addr} {Q : Int → Shared → Prop}, A.units + 8 < cLine → At s.heap x b → (∀ n, Q (hs x) { s with toks := s.toks + n }) → wpAny (model P w) A (pyHash (.ref b)) Q E s
  other : ∀ {h h' : Heap} {x : κ} {a b : Addr} {o : Obj} {es : Array (Int × Value)} {ep : Nat} {t : SetTable}, At h x b → h.get? a = some o → o.data = .set es ep t → Heap.SameBut a h h' → At h' x b
  kept : ∀ {h h' : Heap} {x : κ} {b : Addr}, At h x b → (∀ c o, h.get? c = some o → h'.get? c = some o) → At h' x b

variable {P : Program} {w : World} {κ : Type} [DecidableEq κ] {F : KF P w κ} {A : Around} {E : Value → Shared → Prop} {s : Shared}

def rowsK (F : KF P w κ) (L : List (Addr × κ)) : List (Int × Value) := L.map fun p => (F.hs p.2, Value.ref p.1)
def hsK (F : KF P w κ) (L : List (Addr × κ)) : List Int := L.map fun p => F.hs p.2

/-- at a stands a set whose elements are the objects L, no two keys alike -/
structure SK (F : KF P w κ) (h : Heap) (a : Addr) (L : List (Addr × κ)) (es : Array (Int × Value)) (ep : Nat) (t : SetTable) : Prop where
  obj : ∃ o, h.get? a = some o ∧ o.ExactSet ∧ o.data = .set es ep t
  row : es.toList = rowsK F L
  tab : TabOk t (hsK F L)
  nod : (L.map (·.2)).Nodup
  ats : ∀ p ∈ L, F.At h p.2 p.1
  roo : L.length * 5 < t.mask * 3
  few : L.length < 64

section
variable {a : Addr} {L : List (Addr × κ)} {es : Array (Int × Value)} {ep : Nat} {t : SetTable}
theorem rowsK_len : (rowsK F L).length = L.length := List.length_map ..
theorem hsK_len : (hsK F L).length = L.length := List.length_map ..
theorem size_of_rows (e : es.toList = rowsK F L) : es.size = L.length := by
  rw [← Array.length_toList, e, rowsK_len]
theorem SK.size (R : SK F s.heap a L es ep t) : es.size = L.length := size_of_rows R.row
theorem entry_of_rows (e : es.toList = rowsK F L) {i : Nat} {p : Addr × κ} (hp : L[i]? = some p) : es[i]? = some (F.hs p.2, Value.ref p.1) := by
  rw [← Array.getElem?_toList, e, rowsK, List.getElem?_map, hp]; rfl
theorem fits_by (h1 : t.place.size = es.size) (h2 : t.dummies = #[]) (h3 : es.size ≤ t.mask) : t.fits es.size = true := by
  simp only [SetTable.fits, SetTable.fill, h2, Bool.and_eq_true, beq_iff_eq, decide_eq_true_eq]
  exact ⟨h1, by rw [h1]; exact h3⟩
theorem SK.fit (R : SK F s.heap a L es ep t) : t.fits es.size = true := by
  have q := R.tab.sz; rw [hsK_len] at q
  have r := R.size; have u := R.roo
  exact fits_by (by omega) R.tab.dm (by omega)
theorem SK.odd (R : SK F s.heap a L es ep t) : ¬ t.gaveWay = true := by
  simp only [SetTable.gaveWay, mask_odd R.tab.mok]; decide
theorem nth_dummy (m : Nat) : ∀ (n : Nat) (p : SetTable.Probe), p.dummy = none → (nth m p n).dummy = none
  | 0, _, e => e
  | n + 1, p, e => nth_dummy m n (adv m p) (by unfold adv; split <;> exact e)

/-- the walk's start for a hash -/
abbrev st0 (m : Nat) (h : Int) : SetTable.Probe := runAt m (SetTable.bits h % (m + 1)) (SetTable.bits h)

/-- looking for k, from the c-th place of its way on; K is the first empty place -/
theorem look_from (R : SK F s.heap a L es ep t) {x : Addr} {k : κ} (hx : F.At s.heap k x) (room : A.units + 8 < cLine) {K : Nat} (lim : K < 10 * SetTable.turns t.mask)
    (fre : way t.mask (F.hs k) K ∉ t.place.toList) (occ : ∀ c, c < K → way t.mask (F.hs k) c ∈ t.place.toList) {Q : SetFound → Shared → Prop}
    (yes : k ∈ L.map (·.2) → Q (.there none) s) (no : k ∉ L.map (·.2) → Q (.free (way t.mask (F.hs k) K) false) s) :
    ∀ (f c : Nat) (st : Option SetTable.Probe), st.getD (t.probeStart (F.hs k)) = nth t.mask (st0 t.mask (F.hs k)) c → c ≤ K → K - c < f →
      (∀ (i : Nat) p, L[i]? = some p → p.2 = k → ∃ d, c ≤ d ∧ d < K ∧ t.place.toList[i]? = some (way t.mask (F.hs k) d)) →
      wpAny (model P w) A (setSearchFrom a (.ref x) (F.hs k) true f st) Q E s
  | 0, _, _, _, _, z, _ => absurd z (Nat.not_lt_zero _)
  | f + 1, c, st, est, hc, hf, rest => by
    obtain ⟨o, ob1, _, ob2⟩ := R.obj
    rw [setSearchFrom_succ]
    refine wpAny_bind (wpAny_setState_of ob1 ob2 R.fit ?_); dsimp only
    refine wp_if_neg R.odd ?_
    try refine wpAny_bind (wpAny_pure ?_)
    have shift : ∀ q, nth t.mask (nth t.mask (st0 t.mask (F.hs k)) c) q = nth t.mask (st0 t.mask (F.hs k)) (c + q) := fun q => (nth_add t.mask c _ q).symm
    have place : ∀ q, (nth t.mask (nth t.mask (st0 t.mask (F.hs k)) c) q).j = way t.mask (F.hs k) (c + q) := fun q => congrArg SetTable.Probe.j (shift q)
    have look := go_spec t R.tab.ris R.tab.dm (fun i => (es[i]?.map (·.1)).getD 0) (F.hs k) (10 * SetTable.turns t.mask) (K - c) _ (nth_dummy t.mask c (st0 t.mask (F.hs k)) rfl) (by omega)
      (fun q hq => by rw [place]; exact occ (c + q) (by omega)) (by rw [place, Nat.add_sub_cancel' hc]; exact fre)
    have hashOf : ∀ (i : Nat) p, L[i]? = some p → (es[i]?.map (·.1)).getD 0 = F.hs p.2 := fun i p hp => by rw [entry_of_rows R.row hp]; rfl
    rcases look with ⟨q, i, hq, hi, _, none_before, ans⟩ | ⟨none_before, ans⟩
    · have ans' : t.probe (fun i => (es[i]?.map (·.1)).getD 0) (F.hs k) (st.getD (t.probeStart (F.hs k))) = some (.candidate (way t.mask (F.hs k) (c + q)) i (nth t.mask (st0 t.mask (F.hs k)) (c + (q + 1)))) := by
        rw [est, ← place, ← shift]; exact ans
      rw [ans']; dsimp only
      rw [place] at hi
      have inL : i < L.length := by
        have u := (List.getElem?_eq_some_iff.mp hi).1
        have v := R.tab.sz; rw [hsK_len] at v; rw [Array.length_toList] at u; omega
      obtain ⟨p, hp⟩ : ∃ p, L[i]? = some p := ⟨_, List.getElem?_eq_getElem inL⟩
      have pL : p ∈ L := List.mem_of_getElem? hp
      have go_on : wpAny (model P w) A (searchRest a (.ref x) (F.hs k) true f es t (way t.mask (F.hs k) (c + q)) i (nth t.mask (st0 t.mask (F.hs k)) (c + (q + 1)))) Q E s := by
        unfold searchRest
        rw [entry_of_rows R.row hp]; dsimp only
        refine wpAny_bind (wpAny_holding (F.eqb room (R.ats p pL) hx ?_))
        refine wpAny_bind (wpAny_setState_of ob1 ob2 R.fit ?_); dsimp only
        by_cases same : p.2 = k
        · refine wp_if_pos (by simp [same]) (wpAny_pure (yes (List.mem_map.mpr ⟨p, pL, same⟩)))
        · refine wp_if_neg (by simp [same]) ?_
          try refine wpAny_bind (wpAny_pure ?_)
          rw [sameMem]; dsimp only
          have live := slot_live R.tab.ris hi
          simp only [if_true, live, entry_of_rows R.row hp]
          refine wpAny_bind (wpAny_isSame_ref_self (wpAny_bind (wpAny_pure ?_)))
          simp only [if_true]
          refine wp_if_neg (by simp [same]) (look_from R hx room lim fre occ yes no f (c + (q + 1)) _ rfl (by omega) (by omega) fun j r hj er => ?_)
          obtain ⟨d, d1, d2, d3⟩ := rest j r hj er
          refine ⟨d, ?_, d2, d3⟩
          rcases Nat.lt_trichotomy d (c + q) with lt | eq | gt
          · exact absurd ((hashOf j r hj).trans (congrArg F.hs er)) (none_before (d - c) j (by omega) (by rw [place, Nat.add_sub_cancel' d1]; exact d3))
          · rw [eq] at d3
            have l2 := slot_live R.tab.ris d3
            rw [live] at l2; injection l2 with l2
            rw [← l2, hp] at hj
            exact absurd ((congrArg Prod.snd (Option.some.inj hj)).trans er) same
          · omega
      by_cases led : t.led = true
      · refine wp_if_neg (by simp [led]) ?_
        try refine wpAny_bind (wpAny_pure ?_)
        exact go_on
      · refine wp_if_pos (by simp [led]) (wpAny_bind (F.seen hx (fun y hy => ?_) ?_))
        · obtain ⟨r, hr, rfl⟩ := List.mem_map.mp hy
          have hr1 : r ∈ es.toList := by
            have : r ∈ es ∧ r.1 = F.hs k := by simpa using hr
            simpa using this.1
          rw [R.row] at hr1
          obtain ⟨p2, hp2, rfl⟩ := List.mem_map.mp hr1
          exact ⟨p2.2, p2.1, rfl, R.ats p2 hp2⟩
        · refine wp_if_neg (by decide) ?_
          try refine wpAny_bind (wpAny_pure ?_)
          exact go_on
    · have ans' : t.probe (fun i => (es[i]?.map (·.1)).getD 0) (F.hs k) (st.getD (t.probeStart (F.hs k))) = some (.empty (way t.mask (F.hs k) K) none) := by
        have e2 := place (K - c); rw [Nat.add_sub_cancel' hc] at e2
        rw [est, ← e2]; exact ans
      rw [ans']; dsimp only
      refine wpAny_pure (no fun hm => ?_)
      obtain ⟨r, hr, er⟩ := List.mem_map.mp hm
      obtain ⟨j, hj⟩ := List.getElem?_of_mem hr
      obtain ⟨d, d1, d2, d3⟩ := rest j r hj er
      exact none_before (d - c) j (by omega) (by rw [place, Nat.add_sub_cancel' d1]; exact d3) ((hashOf j r hj).trans (congrArg F.hs er))

theorem look_for (R : SK F s.heap a L es ep t) {x : Addr} {k : κ} (hx : F.At s.heap k x) (room : A.units + 8 < cLine) {Q : SetFound → Shared → Prop} (yes : k ∈ L.map (·.2) → Q (.there none) s)
    (no : ∀ K, k ∉ L.map (·.2) → way t.mask (F.hs k) K ∉ t.place.toList → (∀ c, c < K → way t.mask (F.hs k) c ∈ t.place.toList) → Q (.free (way t.mask (F.hs k) K) false) s) :
    wpAny (model P w) A (setSearch a (.ref x) (F.hs k) true) Q E s := by
  have u := R.roo
  obtain ⟨K, lim, fre, occ⟩ := R.tab.first (by rw [hsK_len]; omega) (F.hs k)
  have small : 10 * SetTable.turns t.mask ≤ 1420 := by
    unfold SetTable.turns; rcases R.tab.mok with e | e | e <;> omega
  unfold setSearch
  refine look_from R hx room lim fre occ yes (fun z => no K z fre occ) 100000 0 none rfl (Nat.zero_le _) (by omega) fun i p hp ek => ?_
  have hh : (hsK F L)[i]? = some (F.hs k) := by rw [hsK, List.getElem?_map, hp, ← ek]; rfl
  have hl : i < t.place.toList.length := by
    have v := R.tab.sz; rw [hsK_len] at v
    have u := (List.getElem?_eq_some_iff.mp hp).1; rw [Array.length_toList]; omega
  obtain ⟨c, c1, c2⟩ := R.tab.before fre hh (List.getElem?_eq_getElem hl)
  exact ⟨c, Nat.zero_le _, c1, by rw [List.getElem?_eq_getElem hl, c2]⟩
end
section
variable {a : Addr} {L : List (Addr × κ)} {es : Array (Int × Value)} {ep : Nat} {t : SetTable}
theorem pick_rows (L : List (Addr × κ)) (e : es.toList = rowsK F L) : ∀ l : List Nat, (∀ i ∈ l, i < L.length) →
    l.filterMap (fun i => es[i]?) = rowsK F (l.filterMap fun i => L[i]?) ∧ hsK F (l.filterMap fun i => L[i]?) = l.map fun i => (es.map (·.1)).getD i 0
  | [], _ => ⟨rfl, rfl⟩
  | i :: l, hl => by
    have hi := hl i List.mem_cons_self
    obtain ⟨p, hp⟩ : ∃ p, L[i]? = some p := ⟨_, List.getElem?_eq_getElem hi⟩
    obtain ⟨e1, e2⟩ := pick_rows L e l fun j hj => hl j (List.mem_cons_of_mem _ hj)
    have q := entry_of_rows e hp
    have q2 : (es.map (·.1)).getD i 0 = F.hs p.2 := by
      rw [Array.getD_eq_getD_getElem?, Array.getElem?_map, q]; rfl
    refine ⟨?_, ?_⟩
    · rw [List.filterMap_cons_some q, List.filterMap_cons_some hp, e1]; rfl
    · rw [List.filterMap_cons_some hp, List.map_cons, q2, ← e2]; rfl
theorem pick_all {α : Type} (L : List α) : ∀ n, n ≤ L.length → (List.range n).filterMap (fun i => L[i]?) = L.take n
  | 0, _ => rfl
  | n + 1, hn => by
    rw [List.range_succ, List.filterMap_append, pick_all L n (Nat.le_of_lt hn), List.take_succ, List.filterMap_cons, List.getElem?_eq_getElem hn]; rfl
theorem pick_perm {α : Type} (L : List α) {l : List Nat} (h : l.Perm (List.range L.length)) : (l.filterMap fun i => L[i]?).Perm L := by
  have q := h.filterMap fun i => L[i]?
  rw [pick_all L _ (Nat.le_refl _), List.take_length] at q
  exact q

/-- the table laid anew, with more places -/
theorem lay_anew {o : Obj} (ob1 : s.heap.get? a = some o) (obx : o.ExactSet) (ob2 : o.data = .set es ep t) (row : es.toList = rowsK F L) (pz : t.place.size = es.size) (dm : t.dummies = #[]) (le : es.size ≤ t.mask)
    (nod : (L.map (·.2)).Nodup) (ats : ∀ p ∈ L, F.At s.heap p.2 p.1) (few : L.length < 64) {n M : Nat} (hM : SetTable.sizeAbove n - 1 = M) (ok : MaskOk M) (most : SetTable.sizeAbove n ≤ 128) (roo : L.length * 5 < M * 3) {Q : Unit → Shared → Prop}
    (hQ : ∀ h' L' es' ep' t', Heap.SameBut a s.heap h' → SK F h' a L' es' ep' t' → L'.Perm L → Q () { s with heap := h' }) : wpAny (model P w) A (setRelay a n) Q E s := by
  have sz := size_of_rows row
  obtain ⟨t', ord, er, pm, T, em, _, epl, _⟩ := relaid_ok t (hs := es.map (·.1)) (wanted := n) hM ok (by rw [Array.size_map, sz]; omega)
  rw [Array.size_map, sz] at pm
  obtain ⟨r1, r2⟩ := pick_rows L row ord.toList fun i hi => List.mem_range.mp (pm.mem_iff.mp hi)
  have pL := pick_perm L pm
  rw [← r2] at T
  generalize (ord.toList.filterMap fun i => L[i]?) = L2 at r1 r2 pL T
  have r3 : (ord.filterMap (es[·]?)).toList = rowsK F L2 := by rw [← r1]; simp
  have z2 : (ord.filterMap (es[·]?)).size = es.size := by rw [size_of_rows r3, pL.length_eq, sz]
  rw [setRelay_eq]
  refine wpAny_bind (wpAny_setState_of ob1 ob2 (fits_by pz dm le) ?_); dsimp only
  refine wp_if_neg (by rw [sizeLine_eq]; omega) ?_
  try refine wpAny_bind (wpAny_pure ?_)
  rw [er]; dsimp only
  refine wpAny_bind (wp_if_neg (by rw [z2]; simp) ?_)
  try refine wpAny_bind (wpAny_pure ?_)
  refine wpAny_pure ?_; dsimp only
  refine wpAny_storeSet_of ob1 ob2 ?_ (by rw [z2, sz, sizeLine_eq]; omega)
  have sb : Heap.SameBut a s.heap (s.heap.update a (Obj.putSet (ord.filterMap (es[·]?)) t')) := Heap.SameBut.update ..
  exact hQ _ L2 _ _ _ sb ⟨⟨_, store_at ob1 ob2, ⟨obx.1, obx.2.1, obx.2.2⟩, rfl⟩, r3, T, (pL.map (·.2)).nodup_iff.mpr nod, fun p hp => F.other (ats p (pL.mem_iff.mp hp)) ob1 ob2 sb, by rw [pL.length_eq, em]; exact roo, by rw [pL.length_eq]; exact few⟩ pL

def marked (v : Bool) (t : SetTable) : SetTable := if v = true then t else { t with plain := false }
theorem plainly (v : Bool) {hs : List Int} (T : TabOk t hs) : TabOk (marked v t) hs := by
  cases v
  · exact ⟨T.ris, T.dm, T.sz, T.mok, T.bd, T.reach⟩
  · exact T
theorem marked_mask (v : Bool) (t : SetTable) : (marked v t).mask = t.mask := by cases v <;> rfl
theorem marked_fill (v : Bool) (t : SetTable) : (marked v t).fill = t.fill := by cases v <;> rfl
theorem by_value {β : Type} {x : Addr} {k : κ} (hx : F.At s.heap k x) {f : Bool → Sem β} {Q : β → Shared → Prop} (h : ∀ v, wpAny (model P w) A (f v) Q E s) : wpAny (model P w) A (if t.plain = true then (hashByValue 8 (.ref x) >>= f) else (pure true >>= f)) Q E s := by
  by_cases c : t.plain = true
  · exact wp_if_pos c (wpAny_bind (F.hby hx h))
  · exact wp_if_neg c (wpAny_bind (wpAny_pure (h true)))
/-- one element more -/
theorem put_in (R : SK F s.heap a L es ep t) {x : Addr} {k : κ} (hx : F.At s.heap k x) (room : A.units + 8 < cLine) (fewer : L.length + 1 < 64) {Q : Bool → Shared → Prop}
    (hQ : ∀ b h' L' es' ep' t', Heap.SameBut a s.heap h' → SK F h' a L' es' ep' t' → (k ∈ L.map (·.2) → L' = L) → (k ∉ L.map (·.2) → L'.Perm ((x, k) :: L)) → Q b { s with heap := h' }) :
    wpAny (model P w) A (setAddHashed a (.ref x) (F.hs k)) Q E s := by
  obtain ⟨o, ob1, obx, ob2⟩ := R.obj
  have sz := R.size
  have roo := R.roo
  unfold setAddHashed
  refine wpAny_holding ?_
  rw [show (100000 : Nat) = 99999 + 1 from rfl, setAddHashedIn_succ]
  refine wpAny_bind (wpAny_setState_of ob1 ob2 R.fit ?_); dsimp only
  refine wp_if_neg (by simp [byScan, Value.scannable]) ?_
  try refine wpAny_bind (wpAny_pure ?_)
  refine wpAny_bind (look_for R hx room (fun hm => ?_) fun K hm fre occ => ?_)
  · exact wpAny_pure (hQ false s.heap L es ep t (Heap.SameBut.refl a s.heap) R (fun _ => rfl) fun z => absurd hm z)
  · dsimp only
    refine wpAny_bind (wpAny_setState_of ob1 ob2 R.fit ?_); dsimp only
    obtain ⟨q1, q2, q3, q4, q5, q6, q7, q8, q9⟩ := R.tab.put fre occ
    generalize t.put (way t.mask (F.hs k) K) = pt at q1 q3 q4 q5 q6 q7 q8 q9 ⊢
    obtain ⟨t1, n⟩ := pt
    dsimp only at q1 q3 q4 q5 q6 q7 q8 q9 ⊢
    subst q1
    refine by_value hx fun v => ?_
    replace q3 := plainly v q3
    replace q4 : (marked v t1).mask = t.mask := (marked_mask v t1).trans q4
    replace q9 : (marked v t1).fill = _ := (marked_fill v t1).trans q9
    show wpAny _ _ (storeSet a _ (marked v t1) >>= fun _ => if (!false && (marked v t1).tooFull) = true then (setRelay a _ >>= fun _ => pure true) else pure true) _ _ _
    generalize marked v t1 = t1 at q3 q4 q9 ⊢
    generalize SetTable.below t.place (way t.mask (F.hs k) K) = n at q2 q3 ⊢
    have pm := put_perm L n (x, k)
    have row1 : (SetTable.insertAt es n (F.hs k, Value.ref x)).toList = rowsK F (L.take n ++ (x, k) :: L.drop n) := by
      rw [SetTable.toList_insertAt, R.row]
      simp only [rowsK, List.map_append, List.map_cons, List.map_take, List.map_drop]
    have hh1 : hsK F (L.take n ++ (x, k) :: L.drop n) = (hsK F L).take n ++ F.hs k :: (hsK F L).drop n := by
      simp only [hsK, List.map_append, List.map_cons, List.map_take, List.map_drop]
    rw [← hh1] at q3
    have nod1 : ((L.take n ++ (x, k) :: L.drop n).map (·.2)).Nodup := (pm.map (·.2)).nodup_iff.mpr (by rw [List.map_cons]; exact List.nodup_cons.mpr ⟨hm, R.nod⟩)
    generalize SetTable.insertAt es n (F.hs k, Value.ref x) = es1 at row1 ⊢
    generalize L.take n ++ (x, k) :: L.drop n = L1 at pm q3 nod1 row1
    have len1 : L1.length = L.length + 1 := pm.length_eq
    have sz1 : es1.size = L.length + 1 := (size_of_rows row1).trans len1
    refine wpAny_bind (wpAny_storeSet_of ob1 ob2 ?_ (by rw [sz1, sizeLine_eq]; omega))
    have sb : Heap.SameBut a s.heap (s.heap.update a (Obj.putSet es1 t1)) := Heap.SameBut.update ..
    have ob3 := store_at (es' := es1) (t' := t1) ob1 ob2
    generalize s.heap.update a (Obj.putSet es1 t1) = h1 at sb ob3 ⊢
    have ats1 : ∀ p ∈ L1, F.At h1 p.2 p.1 := fun p hp => by
      rcases List.mem_cons.mp (pm.mem_iff.mp hp) with rfl | hp
      · exact F.other hx ob1 ob2 sb
      · exact F.other (R.ats p hp) ob1 ob2 sb
    have full : t1.tooFull = decide ((L.length + 1) * 5 ≥ t1.mask * 3) := by
      unfold SetTable.tooFull; rw [q9, hsK_len]
    by_cases hf : (L.length + 1) * 5 ≥ t1.mask * 3
    · rw [full, decide_eq_true hf]
      first
        | (refine wpAny_bind ?_; refine wp_if_pos (by simp) ?_)
        | (refine wp_if_pos (by simp) ?_; refine wpAny_bind ?_)
      rw [sz]
      have pz1 : t1.place.size = es1.size := by have v := q3.sz; rw [hsK_len, len1] at v; rw [v, sz1]
      have two : (t.mask = 7 ∧ L.length = 4) ∨ (t.mask = 31 ∧ L.length = 18) := by
        rw [q4] at hf
        rcases R.tab.mok with e | e | e <;> rw [e] at hf roo
        · exact .inl ⟨e, by omega⟩
        · exact .inr ⟨e, by omega⟩
        · omega
      have more : ∀ M, SetTable.sizeAbove (SetTable.grown (L.length + 1)) - 1 = M → MaskOk M → SetTable.sizeAbove (SetTable.grown (L.length + 1)) ≤ 128 → (L.length + 1) * 5 < M * 3 →
          wpAny (model P w) A (setRelay a (SetTable.grown (L.length + 1))) (fun _ s' => wpAny (model P w) A (pure true) Q E s') E { s with heap := h1 } := fun M m1 m2 m3 m4 =>
        lay_anew (s := { s with heap := h1 }) ob3 ⟨obx.1, obx.2.1, obx.2.2⟩ rfl row1 pz1 q3.dm (by rw [sz1, q4]; rcases two with ⟨e, e2⟩ | ⟨e, e2⟩ <;> omega) nod1 ats1 (by rw [len1]; exact fewer) m1 m2 m3 (by rw [len1]; exact m4)
          fun h2 L2 es2 ep2 t2 sb2 R2 pm2 => wpAny_pure (hQ true h2 L2 es2 ep2 t2 (sb.trans sb2) R2 (fun z => absurd z hm) fun _ => pm2.trans pm)
      rcases two with ⟨_, e2⟩ | ⟨_, e2⟩
      · exact more 31 (by rw [e2, size_20]) (.inr (.inl rfl)) (by rw [e2, size_20]; decide) (by omega)
      · exact more 127 (by rw [e2, size_76]) (.inr (.inr rfl)) (by rw [e2, size_76]; decide) (by omega)
    · rw [full, decide_eq_false hf]
      first
        | refine wp_if_neg (by simp) ?_
        | (refine wpAny_bind ?_; refine wp_if_neg (by simp) ?_; refine wpAny_pure ?_)
      exact wpAny_pure (hQ true h1 L1 es1 (ep + 1) t1 sb ⟨⟨_, ob3, ⟨obx.1, obx.2.1, obx.2.2⟩, rfl⟩, row1, q3, nod1, ats1, by rw [len1]; omega, by rw [len1]; exact fewer⟩ (fun z => absurd z hm) fun _ => pm)
end
section
/-- what the set has from the first i of ks -/
structure Has (ks : List (Addr × κ)) (i : Nat) (L : List (Addr × κ)) : Prop where
  sub : ∀ p ∈ L, p ∈ ks.take i
  all : ∀ p ∈ ks.take i, p.2 ∈ L.map (·.2)
  len : L.length ≤ i
  full : (ks.map (·.2)).Nodup → L.length = i
  once : L.length = i → ((ks.take i).map (·.2)).Nodup
theorem take_one {α : Type} {l : List α} {i : Nat} {x : α} (h : l[i]? = some x) : l.take (i + 1) = l.take i ++ [x] := by rw [List.take_succ, h]; rfl
theorem Has.none (ks : List (Addr × κ)) : Has ks 0 [] := ⟨(fun _ z => nomatch z), (fun _ z => by simp at z), Nat.le_refl _, fun _ => rfl, fun _ => List.nodup_nil⟩
theorem Has.next {ks L L' : List (Addr × κ)} {i : Nat} {x : Addr × κ} (g : Has ks i L) (hx : ks[i]? = some x) (c1 : x.2 ∈ L.map (·.2) → L' = L) (c2 : x.2 ∉ L.map (·.2) → L'.Perm (x :: L)) : Has ks (i + 1) L' := by
  by_cases c : x.2 ∈ L.map (·.2)
  · rw [c1 c]
    refine ⟨fun p hp => ?_, fun p hp => ?_, Nat.le_succ_of_le g.len, fun nd => ?_, fun z => absurd z (Nat.ne_of_lt (Nat.lt_succ_of_le g.len))⟩
    · rw [take_one hx]; exact List.mem_append_left _ (g.sub p hp)
    · rw [take_one hx] at hp
      rcases List.mem_append.mp hp with z | z
      · exact g.all p z
      · rw [List.mem_singleton.mp z]; exact c
    · exfalso
      obtain ⟨p, hp, e⟩ := List.mem_map.mp c
      obtain ⟨j, hj⟩ := List.getElem?_of_mem (g.sub p hp)
      have hji : j < i := Nat.lt_of_lt_of_le (List.getElem?_eq_some_iff.mp hj).1 (List.length_take_le _ _)
      rw [List.getElem?_take_of_lt hji] at hj
      have a1 : (ks.map (·.2))[j]? = some x.2 := by rw [List.getElem?_map, hj, ← e]; rfl
      have a2 : (ks.map (·.2))[i]? = some x.2 := by rw [List.getElem?_map, hx]; rfl
      obtain ⟨b1, e1⟩ := List.getElem?_eq_some_iff.mp a1
      obtain ⟨b2, e2⟩ := List.getElem?_eq_some_iff.mp a2
      exact (List.pairwise_iff_getElem.mp nd) j i b1 b2 hji (e1.trans e2.symm)
  · have pm := c2 c
    refine ⟨fun p hp => ?_, fun p hp => ?_, by rw [pm.length_eq]; exact Nat.succ_le_succ g.len, fun nd => by rw [pm.length_eq, List.length_cons, g.full nd], fun z => ?_⟩
    · rw [take_one hx]
      rcases List.mem_cons.mp (pm.mem_iff.mp hp) with rfl | z
      · exact List.mem_append_right _ (List.mem_singleton.mpr rfl)
      · exact List.mem_append_left _ (g.sub p z)
    · rw [(pm.map (·.2)).mem_iff, List.map_cons]
      rw [take_one hx] at hp
      rcases List.mem_append.mp hp with z | z
      · exact List.mem_cons_of_mem _ (g.all p z)
      · rw [List.mem_singleton.mp z]; exact List.mem_cons_self
    · rw [pm.length_eq, List.length_cons] at z
      have nd := g.once (by omega)
      rw [take_one hx, List.map_append]
      refine List.nodup_append.mpr ⟨nd, by simp, fun y hy y' hy' e => c ?_⟩
      simp at hy'
      obtain ⟨p, hp, ep⟩ := List.mem_map.mp hy
      rw [← hy', ← e, ← ep]; exact g.all p hp
theorem SK.kept {h h' : Heap} {a : Addr} {L : List (Addr × κ)} {es : Array (Int × Value)} {ep : Nat} {t : SetTable} (R : SK F h a L es ep t) (ha : ∀ o, h.get? a = some o → h'.get? a = some o) (ht : ∀ p ∈ L, F.At h' p.2 p.1) : SK F h' a L es ep t := by
  obtain ⟨o, ob, r⟩ := R.obj
  exact ⟨⟨o, ha o ob, r⟩, R.row, R.tab, R.nod, ht, R.roo, R.few⟩
theorem SK.new {h : Heap} {a : Addr} {b : Bool} (ho : h.get? a = some { cls := .type "set", dict := none, data := .set #[] 0 (.fresh 0 0 b) }) : SK F h a [] #[] 0 (.fresh 0 0 b) :=
  ⟨⟨_, ho, ⟨rfl, rfl, rfl⟩, rfl⟩, rfl, ⟨List.Pairwise.nil, rfl, rfl, .inl rfl, fun _ z => (by cases z), fun _ _ _ z => (by simp [hsK] at z)⟩, List.nodup_nil, fun _ z => (by cases z), (by show 0 * 5 < 7 * 3; decide), (by show 0 < 64; decide)⟩

end
end CP
namespace CP
open PySem PySem.Spec PyProof.Rows L2
variable {P : Program} {w : World} {A : Around} {E : Value → Shared → Prop} {s : Shared}
section
variable {a : Addr}
/-- what a set filled item by item holds: J i h, «behind i items», S its place, h0 the heap ahead -/
structure Fills (P : Program) (w : World) (u : Nat) (E : Value → Shared → Prop) (S : Addr) (items : Array Value) (h0 : Heap) (J : Nat → Heap → Prop) : Prop where
  zero : ∀ (h : Heap) (b : Bool), h.get? S = some { cls := .type "set", dict := none, data := .set #[] 0 (.fresh 0 0 b) } → (∀ c o, h0.get? c = some o → h.get? c = some o) → J 0 h
  keep : ∀ (i : Nat) (h h' : Heap), J i h → (∀ o, h.get? S = some o → h'.get? S = some o) → (∀ c o, h0.get? c = some o → h'.get? c = some o) → J i h'
  step : ∀ (A' : Around) (i : Nat) (v : Value) (s' : Shared), A'.units ≤ u → items[i]? = some v → J i s'.heap → (∀ c o, h0.get? c = some o → s'.heap.get? c = some o) → ∀ Q : Bool → Shared → Prop,
    (∀ (b : Bool) (h' : Heap) (n : Nat), Heap.SameBut S s'.heap h' → J (i + 1) h' → Q b { s' with heap := h', toks := s'.toks + n }) → wpAny (model P w) A' (setAdd S v) Q E s'

theorem fills_loop {I : Addr} {fp wr : List Addr} {G : Array GenState → Array GenState → Prop} {items : Array Value} {St : Nat → Shared → Prop} {R : Result → Shared → Prop} {u : Nat} {h0 : Heap} {J : Nat → Heap → Prop} {S : Addr}
    (W : WalksS P w A.in1 I fp wr G items.size (fun i v => items[i]? = some v) St) (off : S ∉ fp) (freeS : h0.get? S = none) (freeW : ∀ b ∈ wr, h0.get? b = none) (hu : A.in1.units ≤ u)
    (T : ∀ E, Fills P w u E S items h0 J) :
    ∀ (k i : Nat) (s : Shared), items.size - i = k → i ≤ items.size → St i s → (∀ b o, h0.get? b = some o → s.heap.get? b = some o) → J i s.heap →
      (∀ s', Moved (S :: wr) G s s' → J items.size s'.heap → (∀ b o, h0.get? b = some o → s'.heap.get? b = some o) → R (.ok (.ret .none)) s') →
      codeAny (model P w) A (.builtin "set.update.loop" ⟨[.ref S, .ref I], []⟩) R s := by
  have offW : S ∉ wr := fun z => off (W.sub _ z)
  have wider : ∀ b ∈ wr, b ∈ S :: wr := fun b => List.mem_cons_of_mem _
  have still : ∀ {s s' : Shared}, Moved wr G s s' → (∀ b o, h0.get? b = some o → s.heap.get? b = some o) → ∀ b o, h0.get? b = some o → s'.heap.get? b = some o := fun m q b o e =>
    m.heap b o (fun z => by rw [freeW b z] at e; cases e) (q b o e)
  intro k
  induction k with
  | zero =>
    intro i s hk' hi hst hkp hJ hR
    obtain rfl : i = items.size := by omega
    refine codeAny_builtin PyProof.Rows.F.entry_set_update_loop ?_
    rw [Around.under_plainId PyProof.Rows.F.plain_set_update_loop _]
    show wpAny _ A.in1 (pyNext (.ref I) >>= _) _ _ s
    refine wpAny_bind (W.done s _ _ hst fun s' m => ?_)
    show wpAny _ A.in1 (ret Value.none) _ _ s'
    exact wpAny_pure (hR s' (m.mono wider) ((T (fun _ _ => False)).keep _ _ _ hJ (fun o e => m.heap S o offW e) (still m hkp)) (still m hkp))
  | succ k ih =>
    intro i s hk' hi hst hkp hJ hR
    have lt : i < items.size := by omega
    refine codeAny_builtin PyProof.Rows.F.entry_set_update_loop ?_
    rw [Around.under_plainId PyProof.Rows.F.plain_set_update_loop _]
    show wpAny _ A.in1 (pyNext (.ref I) >>= _) _ _ s
    refine wpAny_bind (W.item i s _ _ lt hst fun v s' pv hst' m => ?_)
    have q := still m hkp
    show wpAny _ A.in1 (holding [v] (setAdd S v) >>= _) _ _ s'
    refine wpAny_bind (wpAny_holding ((T _).step A.in1 i v s' hu pv ((T (fun _ _ => False)).keep _ _ _ hJ (fun o e => m.heap S o offW e) q) q _ fun b h' tn sb J' => ?_))
    have q2 : ∀ b o, h0.get? b = some o → h'.get? b = some o := fun b o e => (sb.2 b (fun z => by rw [z, freeS] at e; cases e)).trans (q b o e)
    refine wpAny_pure ⟨plainId_quiet PyProof.Rows.F.plain_set_update_loop _, ih (i + 1) _ (by omega) lt (W.frame _ s' _ _ hst' (Nat.le_add_right _ _) fun b hb o e => ?_) q2 J' fun s'' m'' J'' q'' => ?_⟩
    · rw [sb.2 b (fun z : b = S => off (z ▸ hb))]; exact e
    · refine hR s'' (Moved.trans W.gtrans ((m.mono wider).then_heap (Nat.le_add_right _ _) fun b o hb e => ?_) m'') J'' q''
      rw [sb.2 b (fun z : b = S => hb (by rw [z]; exact List.mem_cons_self))]; exact e

abbrev newSet (w : World) : Obj := { cls := .type "set", dict := none, data := .set #[] 0 (.fresh 0 0 (!w.params.followText "set-order")) }
theorem free_above {h : Heap} {b : Addr} (hb : h.objs.size ≤ b) : h.get? b = none := by
  cases q : h.get? b with
  | none => rfl
  | some o => exact absurd (Nat.lt_of_lt_of_le (Heap.lt_size q) hb) (Nat.lt_irrefl _)
/-- set(xs), xs a list or a tuple -/
theorem set_of_seq {l : Addr} {items : Array Value} {Q : Value → Shared → Prop} {J : Nat → Heap → Prop} {ty it : String} {od : Option Addr} {nl : Nat} {os : Array (Option Value)} {St : Addr → Nat → Heap → Prop}
    (hol : s.heap.get? l = some { cls := .type ty, dict := od, data := .seq items nl, slots := os }) (n1 : isSubtype (.type ty) (.type "set") = pure false) (n2 : isSubtype (.type ty) (.type "frozenset") = pure false) (n3 : (Value.type ty == Value.type "dict") = false)
    (beg : ∀ {A : Around} {E : Value → Shared → Prop} {s1 : Shared} {Q : Value → Shared → Prop}, s1.heap.get? l = some { cls := .type ty, dict := od, data := .seq items nl, slots := os } → Q (.ref s1.heap.objs.size) { s1 with heap := s1.heap.push { cls := .type it, data := .fields #[.ref l, .int 0 0] } } → wpAny (model P w) A (pyIter (.ref l)) Q E s1)
    (W : ∀ I, l ≠ I → Walks P w A.in1.in1.in1 I [I, l] [I] items.size (fun i v => items[i]? = some v) (St I))
    (St0 : ∀ h : Heap, h.get? l = some { cls := .type ty, dict := od, data := .seq items nl, slots := os } → St h.objs.size 0 (h.push { cls := .type it, data := .fields #[.ref l, .int 0 0] })) (T : ∀ E, Fills P w (A.units + 3) E s.heap.objs.size items s.heap J)
    (h : ∀ (h' : Heap) (tk : Nat), J items.size h' → (∀ b o, s.heap.get? b = some o → h'.get? b = some o) → Q (.ref s.heap.objs.size) { s with heap := h', toks := tk }) :
    wpAny (model P w) A (call (.type "set") [.ref l]) Q E s := by
  obtain ⟨c, tl, m1⟩ := PySem.F.called_set.mro
  have m2 := PySem.F.called_set.made
  have m3 := PySem.F.called_set.sub
  refine wpAny_call (codeAny_of_tree ?_); show wpAny _ _ (callAny (.type "set") _) _ _ _
  refine wpAny_pure ⟨Code.quiet_builtin _ (by decide +kernel), codeAny_builtin PySem.F.entry_type_call ?_⟩
  rw [Around.under_plain (weight_type_call_type "set" [.ref l] []) rfl]
  have m4 := PySem.F.called_set.notType
  have m5 := PySem.F.called_set.canCreate
  have m6 := PySem.F.typeCall_set_1 (.ref l)
  repeat (any_goals (first | assumption | wp_step))
  refine codeAny_mono (code_set_led1 (.ref l) (E := E) (Q₁ := fun v s₁ => v = .ref s.heap.objs.size ∧ s₁ = { s with heap := s.heap.push (newSet w) }) ⟨rfl, rfl⟩) fun r s₁ hr => ?_
  cases r with
  | error e => exact hr
  | ok fl =>
    cases fl with
    | ret obj =>
      obtain ⟨rfl, rfl⟩ := hr
      have atS : (s.heap.push (newSet w)).get? s.heap.objs.size = some (newSet w) := Heap.get?_push_size _ rfl
      have tyS : Shared.TypeIs { s with heap := s.heap.push (newSet w) } (.ref s.heap.objs.size) "set" := ⟨_, atS, rfl⟩
      have m7 := PySem.F.called_set.init.lookup
      have m8 := PySem.F.called_set.init.bind (.ref s.heap.objs.size)
      repeat (any_goals (first | assumption | wp_step))
      refine codeAny_mono (codeAny_call_builtin (R := wants (fun r s₂ => r = .none ∧ ∃ h' tk, s₂ = { s with heap := h', toks := tk } ∧ J items.size h' ∧ (∀ b o, s.heap.get? b = some o → h'.get? b = some o)) E)
        PySem.F.called_set.init.plain PySem.F.entry_set_init (check_set_init_1 tyS ?_)) fun r₂ s₂ hr₂ => ?_
      · have hol' : (s.heap.push (newSet w)).get? l = some { cls := .type ty, dict := od, data := .seq items nl, slots := os } := Heap.get?_push_of_some _ hol
        unfold Builtin.«set.__init__» noKeywords Builtin.Frozenset.updateFrom
        generalize hPI : pyIter = PI
        wp_walk
        subst hPI
        refine beg hol' (wpAny_bind (wpAny_runValue ?_))
        have ll : l < s.heap.objs.size := Heap.lt_size hol
        have nI : l ≠ (s.heap.push (newSet w)).objs.size := by rw [Heap.size_push]; exact Nat.ne_of_lt (Nat.lt_succ_of_lt ll)
        have off : s.heap.objs.size ∉ [(s.heap.push (newSet w)).objs.size, l] := by
          rw [Heap.size_push]; simp only [List.mem_cons, List.not_mem_nil, or_false, not_or]
          exact ⟨Nat.ne_of_lt (Nat.lt_succ_self _), Nat.ne_of_gt ll⟩
        have up : ∀ b o, s.heap.get? b = some o → ((s.heap.push (newSet w)).push { cls := .type it, data := .fields #[.ref l, .int 0 0] }).get? b = some o := fun b o e => Heap.get?_push_of_some _ (Heap.get?_push_of_some _ e)
        refine fills_loop ((W _ nI).toS) off (free_above (Nat.le_refl _)) (fun b hb => free_above (by rw [List.mem_singleton.mp hb, Heap.size_push]; exact Nat.le_succ _)) (by simp) T (items.size - 0) 0 _ (by omega) (Nat.zero_le _)
          (St0 _ hol') up ((T (fun _ _ => False)).zero _ _ (Heap.get?_push_of_some _ atS) up) ?_
        intro s' m J' q'
        obtain ⟨h', g2, d', tk', os'⟩ := s'
        have eg : g2 = s.gens := m.gens
        have ed : d' = s.drawn := m.drawn
        have eo : os' = s.os := m.os
        subst eg; subst ed; subst eo
        show wpAny _ _ _ _ _ _
        refine wpAny_pure ?_; show wpAny _ _ (ret Value.none) _ _ _
        exact wpAny_pure ⟨rfl, h', tk', rfl, J', q'⟩
      · cases r₂ with
        | error e => exact hr₂
        | ok fl₂ =>
          cases fl₂ with
          | ret r =>
            obtain ⟨rfl, h', tk, rfl, J', q'⟩ := hr₂
            repeat (any_goals (first | assumption | wp_step))
            exact h _ _ J' q'
          | _ => exact hr₂.elim
    | _ => exact hr.elim
theorem set_of_list {l : Addr} {items : Array Value} {Q : Value → Shared → Prop} {J : Nat → Heap → Prop} (hh : A.handled = none) (hl : s.heap.IsList l items) (T : ∀ E, Fills P w (A.units + 3) E s.heap.objs.size items s.heap J)
    (h : ∀ (h' : Heap) (tk : Nat), J items.size h' → (∀ b o, s.heap.get? b = some o → h'.get? b = some o) → Q (.ref s.heap.objs.size) { s with heap := h', toks := tk }) :
    wpAny (model P w) A (call (.type "set") [.ref l]) Q E s := by
  obtain ⟨⟨oc, od, odata, os⟩, hol, hcl, nl, hdl⟩ := hl
  simp only at hcl hdl
  subst hcl; subst hdl
  exact set_of_seq hol PySem.F.sub_list_set PySem.F.sub_list_frozenset (by decide) (fun e q => wpAny_pyIter_list ⟨_, e, rfl, nl, rfl⟩ q) (fun I nI => Walks.list (by simp [hh]) I l nI items)
    (fun h e => ⟨⟨_, Heap.get?_push_size _ rfl, rfl, rfl⟩, ⟨_, Heap.get?_push_of_some _ e, rfl, nl, rfl⟩⟩) T h
theorem set_of_tuple {l : Addr} {items : Array Value} {Q : Value → Shared → Prop} {J : Nat → Heap → Prop} (hh : A.handled = none) (hl : s.heap.IsTuple l items) (T : ∀ E, Fills P w (A.units + 3) E s.heap.objs.size items s.heap J)
    (h : ∀ (h' : Heap) (tk : Nat), J items.size h' → (∀ b o, s.heap.get? b = some o → h'.get? b = some o) → Q (.ref s.heap.objs.size) { s with heap := h', toks := tk }) :
    wpAny (model P w) A (call (.type "set") [.ref l]) Q E s := by
  obtain ⟨⟨oc, od, odata, os⟩, hol, hcl, nl, hdl⟩ := hl
  simp only at hcl hdl
  subst hcl; subst hdl
  exact set_of_seq hol PySem.F.sub_tuple_set PySem.F.sub_tuple_frozenset (by decide) (fun e q => wpAny_pyIter_tuple ⟨_, e, rfl, nl, rfl⟩ q) (fun I nI => Walks.tuple (by simp [hh]) I l nI items)
    (fun h e => ⟨⟨_, Heap.get?_push_size _ rfl, rfl, rfl⟩, ⟨_, Heap.get?_push_of_some _ e, rfl, nl, rfl⟩⟩) T h
end
end CP
namespace CP
open PySem PySem.Spec PyProof.Rows L2
section
variable {P : Program} {w : World} {A : Around} {E : Value → Shared → Prop} {s : Shared}
/-- the tuple at b holds the texts k -/
abbrev TxtAt (P : Program) (w : World) (h : Heap) (k : List Str) (b : Addr) : Prop := IsTupleKey (strKind P w) h k b
theorem items_txt {k : List Str} {vs : List Value} (h : ItemsAre (strKind P w) k vs) : ∀ v ∈ vs, ∃ x u, v = Value.str x u := by
  induction h with
  | nil => intro v z; cases z
  | @cons k0 v0 ks vs h1 _ ih =>
    intro v z
    rcases List.mem_cons.mp z with rfl | z
    · obtain ⟨u, e⟩ := Value.isStrOf_shape h1
      exact ⟨k0, u, e⟩
    · exact ih v z
theorem cls_txt (n : Nat) (x : Str) (u : Tok) : ofAClassStatement n (.str x u) = pure false := by cases n <;> rfl
theorem hsh_txt (n : Nat) (x : Str) (u : Tok) : hashByValue n (.str x u) = pure false := by cases n <;> rfl
theorem cls_tup {k : List Str} {b : Addr} {Q : Bool → Shared → Prop} (hk : TxtAt P w s.heap k b) (h : Q false s) : wpAny (model P w) A (ofAClassStatement 8 (.ref b)) Q E s := by
  have ty := hk.typeIs
  obtain ⟨o, items, n, ho, _, hd, hi⟩ := hk
  unfold ofAClassStatement
  refine wpAny_bind (wpAny_typeOf ty ?_); dsimp only
  have e : (("tuple" : String) == "tuple") = true := by decide
  simp only [e, if_true, Bool.not_true, Bool.false_eq_true, if_false]
  try refine wpAny_bind (wpAny_pure ?_)
  try simp only [Bool.not_true, Bool.false_eq_true, if_false]
  show wpAny _ _ (seqItems? (.ref b) >>= _) _ _ s
  refine wpAny_bind (wpAny_seqItems ho hd ?_); dsimp only
  refine wpAny_bind ?_; show wpAny _ _ (forIn items _ _) _ _ s
  rw [← Array.forIn_toList]
  refine wpAny_forIn_list _ (fun rest r s' => r.1 = none ∧ s' = s ∧ ∀ v ∈ rest, ∃ x u, v = Value.str x u) _ ?_ ?_ _ _ ⟨rfl, rfl, items_txt hi⟩
  · rintro v rest r s' ⟨hr, rfl, each⟩
    obtain ⟨x, u, rfl⟩ := each v List.mem_cons_self
    rw [cls_txt]
    refine wpAny_bind (wpAny_pure ?_); simp only [Bool.false_eq_true, if_false]
    exact wpAny_pure ⟨rfl, rfl, fun y hy => each y (List.mem_cons_of_mem _ hy)⟩
  · rintro ⟨r1, r2⟩ s' ⟨hr, rfl, _⟩
    simp only at hr; subst hr
    exact wpAny_pure h
theorem hsh_tup {k : List Str} {b : Addr} {Q : Bool → Shared → Prop} (hk : TxtAt P w s.heap k b) (h : ∀ v, Q v s) : wpAny (model P w) A (hashByValue 8 (.ref b)) Q E s := by
  have ty := hk.typeIs
  obtain ⟨o, items, n, ho, _, hd, hi⟩ := hk
  unfold hashByValue
  refine wpAny_bind (wpAny_specialOf ty PySem.F.slot_tuple_hash.lookup ?_)
  show wpAny _ _ (seqItems? (.ref b) >>= _) _ _ s
  refine wpAny_bind (wpAny_seqItems ho hd (wpAny_bind ?_)); show wpAny _ _ (forIn items _ _) _ _ s
  rw [← Array.forIn_toList]
  refine wpAny_forIn_list _ (fun rest r s' => (r.1 = none ∨ r.1 = some false) ∧ s' = s ∧ ∀ v ∈ rest, ∃ x u, v = Value.str x u) _ ?_ ?_ _ _ ⟨.inl rfl, rfl, items_txt hi⟩
  · rintro v rest r s' ⟨hr, rfl, each⟩
    obtain ⟨x, u, rfl⟩ := each v List.mem_cons_self
    rw [hsh_txt]
    refine wpAny_bind (wpAny_pure ?_); simp only [Bool.not_false, if_true]
    exact wpAny_pure (wpAny_pure (h _))
  · rintro ⟨r1, r2⟩ s' ⟨hr, rfl, _⟩
    simp only at hr
    rcases hr with rfl | rfl
    · exact wpAny_pure (h _)
    · exact wpAny_pure (h _)
theorem seen_tup2 {k : List Str} {b : Addr} {Q : Bool → Shared → Prop} {ys : List Value} (hk : TxtAt P w s.heap k b) (hy : ∀ y ∈ ys, ∃ z c, y = Value.ref c ∧ TxtAt P w s.heap z c) (h : Q false s) : wpAny (model P w) A (searchCouldBeSeen (.ref b) ys) Q E s := by
  unfold searchCouldBeSeen
  refine wpAny_bind ?_
  refine wpAny_forIn_list _ (fun rest r s' => r.1 = none ∧ s' = s ∧ ∀ y ∈ rest, ∃ z c, y = Value.ref c ∧ TxtAt P w s.heap z c) _ ?_ ?_ _ _ ⟨rfl, rfl, hy⟩
  · rintro v rest r s' ⟨hr, rfl, each⟩
    obtain ⟨z, c, rfl, hc⟩ := each v List.mem_cons_self
    have each' : ∀ y ∈ rest, ∃ z c, y = Value.ref c ∧ TxtAt P w s'.heap z c := fun y z => each y (List.mem_cons_of_mem _ z)
    dsimp only
    by_cases hv : (b == c || (carriedByValue (.ref b) && carriedByValue (.ref c))) = true
    · exact wp_if_pos hv (wpAny_pure ⟨rfl, rfl, each'⟩)
    · refine wp_if_neg hv (wpAny_bind (wpAny_eqIsQuiet_tuple hk ?_)); simp only [Bool.not_true, Bool.false_eq_true, if_false]
      refine wpAny_bind (wpAny_eqIsQuiet_tuple hc ?_); simp only [Bool.not_true, Bool.false_eq_true, if_false]
      refine wpAny_bind (cls_tup hk ?_); simp only [Bool.false_eq_true, if_false]
      refine wpAny_bind (cls_tup hc ?_); simp only [Bool.false_eq_true, if_false]
      exact wpAny_pure ⟨rfl, rfl, each'⟩
  · rintro ⟨r1, r2⟩ s' ⟨hr, rfl, _⟩
    simp only at hr; subst hr
    exact wpAny_pure h
end
/-- tuples of texts as keys -/
def txtK (P : Program) (w : World) : KF P w (List Str) where
  At := fun h k b => TxtAt P w h k b
  hs := tupleKeyHash (strKind P w)
  eqb := fun hu hx hy h => wpAny_eqBool_tuple (by omega) hx hy h
  seen := fun hx hy h => seen_tup2 hx hy h
  hby := fun hx h => hsh_tup hx h
  pyh := fun hu hx h => wpAny_pyHash_tuple (by omega) hx (h _)
  other := fun hb ho hd hs => by
    obtain ⟨o2, items, n, ho2, hc, hd2, hi⟩ := hb
    refine ⟨o2, items, n, (hs.2 _ fun z => ?_).trans ho2, hc, hd2, hi⟩
    rw [z, ho] at ho2; cases ho2; rw [hd] at hd2; cases hd2
  kept := fun hb hk => by
    obtain ⟨o2, items, n, ho2, r⟩ := hb
    exact ⟨o2, items, n, hk _ _ ho2, r⟩

section
variable {P : Program} {w : World} {κ : Type} [DecidableEq κ] (F : KF P w κ)
/-- a set filled with the objects ks, item by item -/
theorem fills_keys {S : Addr} {items : Array Value} {h0 : Heap} {ks : List (Addr × κ)} {u : Nat} {E : Value → Shared → Prop} (hu : u + 8 < cLine) (hit : items.toList = ks.map fun p => Value.ref p.1) (few : ks.length < 64) (hk : ∀ p ∈ ks, F.At h0 p.2 p.1) :
    Fills P w u E S items h0 (fun i h => (∃ L es ep t, SK F h S L es ep t ∧ Has ks i L)) := by
  have sub : ∀ {i : Nat} {L : List (Addr × κ)} {p : Addr × κ}, Has ks i L → p ∈ L → p ∈ ks := fun g hp => List.mem_of_mem_take (g.sub _ hp)
  refine ⟨fun h b e _ => ⟨[], #[], 0, _, SK.new e, Has.none ks⟩, fun i h h' ⟨L, es, ep, t, R, g⟩ q1 q2 => ⟨L, es, ep, t, R.kept q1 fun p hp => F.kept (hk p (sub g hp)) q2, g⟩, ?_⟩
  intro A' i v s' hA hv ⟨L, es, ep, t, R, g⟩ q2 Q hQ
  obtain ⟨p, hp, rfl⟩ : ∃ p, ks[i]? = some p ∧ v = .ref p.1 := by
    have e : items.toList[i]? = some v := by rw [Array.getElem?_toList]; exact hv
    rw [hit, List.getElem?_map] at e
    cases hq : ks[i]? with
    | none => rw [hq] at e; cases e
    | some p => rw [hq] at e; exact ⟨p, rfl, (Option.some.inj e).symm⟩
  have hx : F.At s'.heap p.2 p.1 := F.kept (hk p (List.mem_of_getElem? hp)) q2
  unfold setAdd
  refine wpAny_holding (wpAny_bind (F.pyh (by omega) hx fun tn => ?_))
  have li : i < ks.length := (List.getElem?_eq_some_iff.mp hp).1
  refine put_in (s := { s' with toks := s'.toks + tn }) R hx (by omega) (by have := g.len; omega) fun b h' L' es' ep' t' sb R' c1 c2 => ?_
  exact hQ b h' tn sb ⟨L', es', ep', t', R', g.next hp c1 c2⟩
end
section
variable {P : Program} {w : World}
theorem txts_get {us : List Value} {xs : List Str} (r : Vals (xs.map V.str) us) (i : Nat) (v : Value) (e : us[i]? = some v) : ∃ x u, xs[i]? = some x ∧ v = .str x u := by
  have li : i < xs.length := by have := (List.getElem?_eq_some_iff.mp e).1; rw [← r.length, List.length_map] at this; exact this
  have hx : xs[i]? = some xs[i] := List.getElem?_eq_getElem li
  obtain ⟨u, e2, rv⟩ := r.get (i := i) (x := V.str xs[i]) (by rw [List.getElem?_map, hx]; rfl)
  rw [e] at e2; cases e2
  obtain ⟨t, rfl⟩ := rv
  exact ⟨_, t, hx, rfl⟩
/-- a set filled with texts -/
theorem fills_txts {S : Addr} {items : Array Value} {h0 : Heap} {xs : List Str} {u : Nat} {E : Value → Shared → Prop} (hi : Vals (xs.map V.str) items.toList) (few : xs.length + 1 < scanBound) :
    Fills P w u E S items h0 (fun i h => ∃ n, h.SetOf (strKind P w) S (fun k => decide (k ∈ xs.take i)) n ∧ n ≤ i ∧ (xs.Nodup → n = i) ∧ (n = i → (xs.take i).Nodup)) := by
  refine ⟨fun h b e _ => ⟨0, ?_, Nat.le_refl _, fun _ => rfl, fun _ => List.nodup_nil⟩, fun i h h' ⟨n, R, c⟩ q1 _ => ⟨n, ?_, c⟩, ?_⟩
  · exact SetOf_congr ((setObjOf_fresh (knd := strKind P w) b).setOf e (by unfold scanBound; omega)) (fun k => by simp) rfl
  · obtain ⟨o, es, ep, tb, ho, rest⟩ := R
    exact ⟨o, es, ep, tb, q1 o ho, rest⟩
  · intro A' i v s' _ hv ⟨n, R, c1, c2, c3⟩ _ Q hQ
    obtain ⟨x, u, hx, rfl⟩ := txts_get hi i v (by rw [Array.getElem?_toList]; exact hv)
    have li : i < xs.length := (List.getElem?_eq_some_iff.mp hx).1
    unfold setAdd
    refine wpAny_holding (wpAny_bind ((strKind P w).pyHash (k := x) (strKind_is _ _ _ _) ?_))
    refine wpAny_setAddHashed_of (knd := strKind P w) (s := { s' with toks := s'.toks + 1 }) (strKind_is _ _ _ _) rfl R (by omega) fun h' sb R' => ?_
    refine hQ _ h' 1 sb ⟨_, SetOf_congr R' (fun k => ?_) rfl, ?_, fun nd => ?_, fun z => ?_⟩
    · rw [take_one hx]; simp [Bool.decide_or]
    · split <;> omega
    · have : x ∉ xs.take i := fun z => by
        obtain ⟨j, hj⟩ := List.getElem?_of_mem z
        have hji : j < i := Nat.lt_of_lt_of_le (List.getElem?_eq_some_iff.mp hj).1 (List.length_take_le _ _)
        rw [List.getElem?_take_of_lt hji] at hj
        obtain ⟨b1, e1⟩ := List.getElem?_eq_some_iff.mp hj
        obtain ⟨b2, e2⟩ := List.getElem?_eq_some_iff.mp hx
        exact (List.pairwise_iff_getElem.mp nd) j i b1 b2 hji (e1.trans e2.symm)
      rw [decide_eq_false this]; simp [c2 nd]
    · by_cases c : x ∈ xs.take i
      · rw [decide_eq_true c, if_pos rfl] at z; omega
      · rw [decide_eq_false c, if_neg (by decide)] at z
        rw [take_one hx]
        refine List.nodup_append.mpr ⟨c3 (by omega), by simp, fun y hy y' hy' e => c ?_⟩
        simp at hy'
        rw [← hy', ← e]; exact hy
end
/-! ### len(set(xs)) -/
section
variable {X : Cx} {e : Expr} {te : TE} {p p2 q pos : Pos}
/-- xs a row of texts -/
def tLenSetX (K : PySem.W.Frag) (te : TE) : TE := fun σ H Q => te σ H fun x H1 => ∃ (l : Addr) (xs : List Str), x = V.ref l ∧ (SqL K H1 l (xs.map V.str) ∨ SqT K H1 l (xs.map V.str)) ∧ xs.length < 1000 ∧
  ∀ n : Nat, n ≤ xs.length → (n = xs.length ↔ xs.Nodup) → Q (.int (n : Int)) H1
theorem pe_lenSetX (hc : X.calm = true) (hg : Gl X "len") (hm : X.mg "len" = none) (hg2 : Gl X "set") (hm2 : X.mg "set" = none) (he : PE X e te)
    (na : starEach [e] X.env = (false, eval e X.env) :: starEach [] X.env := by rfl) : PE X (.Call (.Name "len" p) [.Call (.Name "set" p2) [e] [] q] [] pos) (tLenSetX X.K te) := by
  refine ⟨fun pins s σ H Q I h => Call_ (ld_blt I hg hm PySem.boot_len ?_)⟩
  refine PyProof.Rows.callWith_builtin1 (PyProof.Rows.args_cons ?_ rfl) rfl rfl
  refine Call_ (ld_blt I hg2 hm2 PyProof.Rows.boot_set ?_)
  refine PyProof.Rows.callWith_type1 (PyProof.Rows.args_cons (thn (he.run pins s σ H _ I h) fun v s1 ⟨x, H1, I1, r1, l, xs, ex, hq, few, k⟩ => PyProof.Rows.args_nil ?_) na) na rfl
  subst ex; cases r1
  rcases hq with hq | hq
  · obtain ⟨its, r, pl, _⟩ := I1.list hq
    refine set_of_list (I1.ok.hd hc) pl.isList (fun E => fills_txts (xs := xs) (by simpa using r) (by unfold scanBound; omega)) fun h' tk ⟨n, ⟨o, es, ep, t, ho, hex, hd, _, _, _, hf, hn⟩, c1, c2, c3⟩ keep => ?_
    have sz : its.toArray.size = xs.length := by rw [List.size_toArray, ← r.length, List.length_map]
    rw [sz] at c1 c2 c3; rw [List.take_length] at c3
    exact PyProof.Rows.args_nil (call_len_set ho hex hd hf (by rw [hn]; omega) ⟨.int n, H1, (I1.kept (t' := tk) keep).tok _, ⟨_, by rw [hn]⟩, k n c1 ⟨c3, c2⟩⟩)
  · obtain ⟨its, r, pl, _⟩ := I1.tuple hq
    refine set_of_tuple (I1.ok.hd hc) pl (fun E => fills_txts (xs := xs) (by simpa using r) (by unfold scanBound; omega)) fun h' tk ⟨n, ⟨o, es, ep, t, ho, hex, hd, _, _, _, hf, hn⟩, c1, c2, c3⟩ keep => ?_
    have sz : its.toArray.size = xs.length := by rw [List.size_toArray, ← r.length, List.length_map]
    rw [sz] at c1 c2 c3; rw [List.take_length] at c3
    exact PyProof.Rows.args_nil (call_len_set ho hex hd hf (by rw [hn]; omega) ⟨.int n, H1, (I1.kept (t' := tk) keep).tok _, ⟨_, by rw [hn]⟩, k n c1 ⟨c3, c2⟩⟩)
/-- xs a row of tuples of texts -/
def tLenSetP (K : PySem.W.Frag) (te : TE) : TE := fun σ H Q => te σ H fun x H1 => ∃ (l : Addr) (ks : List (Addr × List Str)), x = V.ref l ∧ (SqL K H1 l (ks.map fun p => V.ref p.1) ∨ SqT K H1 l (ks.map fun p => V.ref p.1)) ∧ (∀ p ∈ ks, SqT K H1 p.1 (p.2.map V.str)) ∧ ks.length < 64 ∧
  ∀ n : Nat, n ≤ ks.length → (n = ks.length ↔ (ks.map (·.2)).Nodup) → Q (.int (n : Int)) H1
theorem txt_items {P : Program} {w : World} : ∀ {k : List Str} {us : List Value}, Vals (k.map V.str) us → ItemsAre (strKind P w) k us
  | [], us, r => by cases r; exact .nil
  | x :: k, us, r => by
    cases r with
    | @cons _ u _ us h1 h2 =>
      obtain ⟨t, rfl⟩ := h1
      exact .cons (strKind_is _ _ _ _) (txt_items h2)
theorem txt_at {pins : List (Addr × Obj)} {σ : L2.St} {H : Hp} {s : Shared} {b : Addr} {k : List Str} (I : L2.Inv X pins σ H s) (h : SqT X.K H b (k.map V.str)) : TxtAt X.prog X.w s.heap k b := by
  obtain ⟨its, r, ⟨o, ho, hc, n, hd⟩, _⟩ := I.tuple h
  exact ⟨o, its.toArray, n, ho, hc, hd, by simpa using txt_items r⟩
theorem refs_only : ∀ {κ : Type} {ks : List (Addr × κ)} {us : List Value}, Vals (ks.map fun p => V.ref p.1) us → us = ks.map fun p => Value.ref p.1
  | _, [], us, r => by cases r; rfl
  | _, p :: ks, us, r => by
    cases r with
    | @cons _ u _ us h1 h2 =>
      obtain rfl : u = Value.ref p.1 := h1
      rw [refs_only h2]; rfl
theorem pe_lenSetP (hc : X.calm = true) (hg : Gl X "len") (hm : X.mg "len" = none) (hg2 : Gl X "set") (hm2 : X.mg "set" = none) (hu : X.A.units + 64 < cLine) (he : PE X e te)
    (na : starEach [e] X.env = (false, eval e X.env) :: starEach [] X.env := by rfl) : PE X (.Call (.Name "len" p) [.Call (.Name "set" p2) [e] [] q] [] pos) (tLenSetP X.K te) := by
  refine ⟨fun pins s σ H Q I h => Call_ (ld_blt I hg hm PySem.boot_len ?_)⟩
  refine PyProof.Rows.callWith_builtin1 (PyProof.Rows.args_cons ?_ rfl) rfl rfl
  refine Call_ (ld_blt I hg2 hm2 PyProof.Rows.boot_set ?_)
  refine PyProof.Rows.callWith_type1 (PyProof.Rows.args_cons (thn (he.run pins s σ H _ I h) fun v s1 ⟨x, H1, I1, r1, l, ks, ex, hq, hks, few, k⟩ => PyProof.Rows.args_nil ?_) na) na rfl
  subst ex; cases r1
  have ats : ∀ p ∈ ks, (txtK X.prog X.w).At s1.heap p.2 p.1 := fun p hp => txt_at I1 (hks p hp)
  rcases hq with hq | hq
  · obtain ⟨its, r, pl, _⟩ := I1.list hq
    have sz : its.toArray.size = ks.length := by rw [List.size_toArray, ← r.length, List.length_map]
    refine set_of_list (I1.ok.hd hc) pl.isList (fun E => fills_keys (txtK X.prog X.w) (ks := ks) (by omega) (by simpa using refs_only r) few ats) fun h' tk ⟨L, es, ep, t, R, g⟩ keep => ?_
    rw [sz] at g
    obtain ⟨o, ho, hex, hd⟩ := R.obj
    have cz := size_of_rows R.row
    have c3 := g.once; rw [List.take_length] at c3
    exact PyProof.Rows.args_nil (call_len_set ho hex hd (R.fit (s := { s1 with heap := h' })) (by have := R.few; omega) ⟨.int L.length, H1, (I1.kept (t' := tk) keep).tok _, ⟨_, by rw [cz]⟩, k L.length g.len ⟨c3, g.full⟩⟩)
  · obtain ⟨its, r, pl, _⟩ := I1.tuple hq
    have sz : its.toArray.size = ks.length := by rw [List.size_toArray, ← r.length, List.length_map]
    refine set_of_tuple (I1.ok.hd hc) pl (fun E => fills_keys (txtK X.prog X.w) (ks := ks) (by omega) (by simpa using refs_only r) few ats) fun h' tk ⟨L, es, ep, t, R, g⟩ keep => ?_
    rw [sz] at g
    obtain ⟨o, ho, hex, hd⟩ := R.obj
    have cz := size_of_rows R.row
    have c3 := g.once; rw [List.take_length] at c3
    exact PyProof.Rows.args_nil (call_len_set ho hex hd (R.fit (s := { s1 with heap := h' })) (by have := R.few; omega) ⟨.int L.length, H1, (I1.kept (t' := tk) keep).tok _, ⟨_, by rw [cz]⟩, k L.length g.len ⟨c3, g.full⟩⟩)
end
end CP
namespace CP
open PySem L2
def top (i : Nat) : Stmt := PySem.Challenge.pw_crossparity_k03_pairs_listed.main.body.getD i (.Pass ⟨0, 0, 0, 0⟩)
abbrev sCell : Stmt := top 19
abbrev sSource : Stmt := top 20
abbrev sNext : Stmt := top 21
abbrev sOne : Stmt := top 22
abbrev sMixed : Stmt := top 23
abbrev sGraph : Stmt := top 24
/-- three ints at a: a source of choices -/
def Src (H : Hp) (a : Addr) : Prop := ∃ x y z : Int, H a = some (.lst [.int x, .int y, .int z])
/-- all that stood stands, but what is at a -/
def But (a : Addr) (H H' : Hp) : Prop := ∀ b o, b ≠ a → H b = some o → H' b = some o
theorem But.refl {a : Addr} {H : Hp} : But a H H := fun _ _ _ e => e
theorem But.trans {a : Addr} {H H1 H2 : Hp} (x : But a H H1) (y : But a H1 H2) : But a H H2 := fun b o n e => y b o n (x b o n e)
theorem But.upd {a : Addr} {H : Hp} {o : HO} : But a H (L2.upd H a o) := fun b u n e => by rw [upd_ne n]; exact e
theorem But.new {a p : Addr} {H : Hp} {o : HO} (h : H p = none) : But a H (L2.upd H p o) := fun b u _ e => by rw [upd_ne (ne_of_none e h)]; exact e
theorem But.of_same {a : Addr} {H H' : Hp} (h : Same H H') : But a H H' := fun b o _ e => h b o e

def spCell (K : PySem.W.Frag) : Sp := fun vs H Q _ => ∃ (a : Addr) (ns : List Int), vs = [.ref a, .int 0] ∧ SqL K H a (ns.map V.int) ∧ ∀ c : Int, Q (.int c) H
def spSource : Sp := fun vs H Q _ => ∃ c : Int, vs = [.int c] ∧ ∀ p H', H p = none → Src H' p → Same H H' → Q (.ref p) H'
def spNext : Sp := fun vs H Q _ => ∃ (a : Addr) (m : Int), vs = [.ref a, .int m] ∧ Src H a ∧ 0 < m ∧ m < 1000000 ∧ ∀ (r : Int) H', 0 ≤ r → r < m → Src H' a → But a H H' → Q (.int r) H'
section
variable {P : Program} {w : World} {K : PySem.W.Frag} {mg : Str → Option Value} {base : Heap}
theorem scCell : FnScope ["_law_script", "_law_k"] ["_law_script", "_law_k"] (defScope sCell) := ⟨rfl, rfl, rfl, by decide +kernel, rfl, by decide +kernel, by decide +kernel⟩
theorem ok_cell {f : Addr} {fd : FuncData} (F : Fun K "_law_cell_at" "_law_cell_at" sCell f fd) (mlen : mg "len" = none) : FnOk P w K mg base CX0 1 f fd ["_law_script", "_law_k"] (spCell K) := by
  refine F.ok scCell (fun vs H Q E h => ?_) (fun cdv A outer s H vs Q E hr h => ?_)
  · obtain ⟨a, ns, rfl, _⟩ := h; rfl
  · obtain ⟨a, ns, rfl, hS, k⟩ := h
    refine ⟨_, pss_cons (ps_if (pt_cmpR op_lt (pv 1) (pe_callB call_len_seq (by rfl) mlen PySem.boot_len (pa_cons (pv 0) pa_nil)) (nomark _)) (pss_one (ps_ret (pe_ix ix_list (pv 0) (pv 1) (fun _ _ => rfl)))) pss_nil) (pss_one (ps_ret pe_int)), ?_⟩
    refine ⟨_, rfl, _, rfl, a, _, rfl, .inl hS, _, _, rfl, rfl, _, rfl, ?_⟩
    by_cases c : (0 : Int) < ((ns.map V.int).length : Int)
    · rw [decide_eq_true c]
      refine iteT ?_
      cases ns with
      | nil => simp at c
      | cons n ns => exact ⟨_, rfl, _, rfl, a, _, _, _, rfl, rfl, hS, atI_nat (j := 0) rfl, k n⟩
    · rw [decide_eq_false c]
      exact iteF (k 0)
theorem scSource : FnScope ["_law_cell"] ["_law_cell"] (defScope sSource) := ⟨rfl, rfl, rfl, by decide +kernel, rfl, by decide +kernel, by decide +kernel⟩
theorem ok_source {f : Addr} {fd : FuncData} (F : Fun K "_law_source_of" "_law_source_of" sSource f fd) (mint : mg "int" = none) : FnOk P w K mg base CX0 1 f fd ["_law_cell"] spSource := by
  refine F.ok scSource (fun vs H Q E h => ?_) (fun cdv A outer s H vs Q E hr h => ?_)
  · obtain ⟨c, rfl, _⟩ := h; rfl
  · obtain ⟨c, rfl, k⟩ := h
    refine ⟨_, pss_cons (ps_set (i := 0) scSource.nd rfl (Or.inl rfl) (pe_ifExp (pt_cmpR op_ge (pv 0) pe_int (nomark _)) (pv 0) (pe_op op_sub (pe_op op_sub pe_int (pe_op op_mul pe_int (pv 0))) pe_int)))
      (pss_one (ps_ret (pe_lst (pa_cons (pe_op op_mul (pv 0) (pe_callTy call_int1 (by rfl) mint (by decide +kernel) (pa_cons (pe_cmpR op_ge (pv 0) (pe_op op_pow pe_int pe_int) (nomark _)) pa_nil)))
        (pa_cons (pe_op op_mod (pv 0) pe_int) (pa_cons pe_int pa_nil)))))), ?_⟩
    refine ⟨_, rfl, _, _, rfl, rfl, _, rfl, ite2 (fun _ => ⟨_, rfl, ?_⟩) (fun _ => ⟨_, rfl, _, _, rfl, rfl, .inl ⟨by decide, by decide⟩, _, _, rfl, rfl, _, _, rfl, rfl, ?_⟩)⟩
    all_goals
      refine ⟨_, rfl, _, rfl, _, _, rfl, rfl, ⟨by decide, by decide, by decide⟩, _, _, rfl, rfl, .inr ⟨_, rfl, _, _, rfl, rfl, .inr ?_, _, rfl, _, _, rfl, rfl, (show (0 : Int) < 2147483647 by decide), by show 3 ≤ sizeLine; decide, fun p hp => ?_⟩⟩
      · split <;> decide
      · exact k p _ hp ⟨_, _, _, upd_same⟩ fun b o e => by rw [upd_ne (ne_of_none e hp)]; exact e
theorem scNext : FnScope ["_law_source", "_law_many", "_law_found", "_law_prime", "_law_number"] ["_law_source", "_law_many"] (defScope sNext) := ⟨rfl, rfl, rfl, by decide +kernel, rfl, by decide +kernel, by decide +kernel⟩
theorem small_mod (n m : Int) (h : 0 < m) (h2 : m ≤ 2147483647) : -(2 ^ 64) < n % m ∧ n % m < 2 ^ 64 := by
  have a := Int.emod_nonneg n (Int.ne_of_gt h)
  have b := Int.emod_lt_of_pos n h
  omega
theorem ok_next {f : Addr} {fd : FuncData} (F : Fun K "_law_next" "_law_next" sNext f fd) : FnOk P w K mg base CX0 1 f fd ["_law_source", "_law_many"] spNext := by
  refine F.ok scNext (fun vs H Q E h => ?_) (fun cdv A outer s H vs Q E hr h => ?_)
  · obtain ⟨a, m, rfl, _⟩ := h; rfl
  · obtain ⟨a, m, rfl, ⟨x, y, z, hS⟩, h0, h1, k⟩ := h
    refine ⟨_, pss_cons (ps_if (pt_cmpR op_gt (pe_ix ix_list (pv 0) pe_int (fun _ _ => rfl)) pe_int (nomark _))
        (pss_cons (ps_set (i := 2) scNext.nd rfl (Or.inl rfl) (pe_op op_mod (pe_ix ix_list (pv 0) pe_int (fun _ _ => rfl)) (pv 1)))
        (pss_cons (ps_asg (pe_op op_fdiv (pe_ix ix_list (pv 0) pe_int (fun _ _ => rfl)) (pv 1)) (pg_sub (pv 0) pe_int set_list))
        (pss_one (ps_ret (pv 2))))) pss_nil)
      (pss_cons (ps_asg (pe_op op_add (pe_ix ix_list (pv 0) pe_int (fun _ _ => rfl)) pe_int) (pg_sub (pv 0) pe_int set_list))
      (pss_cons (ps_set (i := 3) scNext.nd rfl (Or.inl rfl) pe_int)
      (pss_cons (ps_set (i := 4) scNext.nd rfl (Or.inl rfl) (pe_op op_mod (pe_op op_add (pe_op op_add (pe_ix ix_list (pv 0) pe_int (fun _ _ => rfl)) (pe_op op_mul pe_int (pe_ix ix_list (pv 0) pe_int (fun _ _ => rfl)))) pe_int) (pv 3)))
      (pss_cons (ps_set (i := 4) scNext.nd rfl (Or.inl rfl) (pe_op op_mod (pe_op op_mul (pv 4) pe_int) (pv 3)))
      (pss_cons (ps_set (i := 4) scNext.nd rfl (Or.inl rfl) (pe_op op_mod (pe_op op_mul (pv 4) (pe_op op_add (pe_op op_fdiv (pv 4) pe_int) pe_int)) (pv 3)))
      (pss_cons (ps_set (i := 4) scNext.nd rfl (Or.inl rfl) (pe_op op_mod (pe_op op_mul (pv 4) (pe_op op_add (pe_op op_fdiv (pv 4) pe_int) pe_int)) pe_int))
      (pss_one (ps_ret (pe_op op_mod (pe_op op_fdiv (pv 4) pe_int) (pv 1)))))))))), ?_⟩
    have i0 : ∀ {x y z : Int}, atI [V.int x, V.int y, V.int z] 0 = some (.int x) := rfl
    have i1 : ∀ {x y z : Int}, atI [V.int x, V.int y, V.int z] 1 = some (.int y) := rfl
    have i2 : ∀ {x y z : Int}, atI [V.int x, V.int y, V.int z] 2 = some (.int z) := rfl
    refine ⟨_, rfl, a, _, _, _, rfl, rfl, SqL.of hS, i0, _, _, rfl, rfl, _, rfl, ite2 (fun _ => ?_) (fun _ => ?_)⟩
    · refine ⟨_, rfl, a, _, _, _, rfl, rfl, SqL.of hS, i0, _, rfl, _, _, rfl, rfl, h0, ?_⟩
      refine ⟨_, rfl, a, _, _, _, rfl, rfl, SqL.of hS, i0, _, rfl, _, _, rfl, rfl, ⟨h0, by omega⟩, _, rfl, a, _, _, 0, rfl, rfl, hS, rfl, _, rfl, ?_⟩
      exact k _ _ (Int.emod_nonneg _ (by omega)) (Int.emod_lt_of_pos _ h0) ⟨_, _, _, upd_same⟩ But.upd
    · refine ⟨_, rfl, a, _, _, _, rfl, rfl, SqL.of hS, i2, _, _, rfl, rfl, _, rfl, a, _, _, 2, rfl, rfl, hS, rfl, ?_⟩
      refine ⟨_, rfl, a, _, _, _, rfl, rfl, SqL.of upd_same, i1, _, rfl, a, _, _, _, rfl, rfl, SqL.of upd_same, i2, _, _, rfl, rfl, .inl ⟨by decide, by decide⟩, _, _, rfl, rfl, _, _, rfl, rfl, _, rfl, _, _, rfl, rfl, (show (0 : Int) < 2147483647 by decide), ?_⟩
      refine ⟨_, rfl, _, _, rfl, rfl, .inr ⟨by decide, by decide⟩, _, rfl, _, _, rfl, rfl, (show (0 : Int) < 2147483647 by decide), ?_⟩
      refine ⟨_, rfl, _, rfl, _, _, rfl, rfl, ⟨by decide, by decide⟩, _, _, rfl, rfl, _, _, rfl, rfl, .inl (small_mod _ _ (by decide) (by decide)), _, rfl, _, _, rfl, rfl, (show (0 : Int) < 2147483647 by decide), ?_⟩
      refine ⟨_, rfl, _, rfl, _, _, rfl, rfl, ⟨by decide, by decide⟩, _, _, rfl, rfl, _, _, rfl, rfl, .inl (small_mod _ _ (by decide) (by decide)), _, _, rfl, rfl, (show (0 : Int) < 2147483399 by decide), ?_⟩
      refine ⟨_, rfl, _, _, rfl, rfl, ⟨by decide, by decide⟩, _, rfl, _, _, rfl, rfl, h0, ?_⟩
      exact k _ _ (Int.emod_nonneg _ (by omega)) (Int.emod_lt_of_pos _ h0) ⟨_, _, _, upd_same⟩ But.upd
end
end CP
namespace CP
open PySem L2
def spOne (K : PySem.W.Frag) : Sp := fun vs H Q _ => ∃ (a b : Addr) (xs : List V), vs = [.ref a, .ref b] ∧ Src H a ∧ a ≠ b ∧ SqL K H b xs ∧ H b = some (.lst xs) ∧ 0 < xs.length ∧ xs.length < 100000 ∧
  ∀ x H', x ∈ xs → Src H' a → But a H H' → Q x H'
/-- a text, or a tracked tuple of two texts -/
def Item (H : Hp) (x : V) : Prop := (∃ z, x = .str z ∧ PyData.strOk z = true) ∨ ∃ p u v, x = .ref p ∧ H p = some (.tup [.str u, .str v]) ∧ PyData.strOk u = true ∧ PyData.strOk v = true
def spMixed (K : PySem.W.Frag) : Sp := fun vs H Q _ => ∃ (a b : Addr) (xs : List V), vs = [.ref a, .ref b] ∧ Src H a ∧ a ≠ b ∧ H b = some (.lst xs) ∧ (∀ x ∈ xs, Item H x) ∧ xs.length < 100000 ∧
  ∀ p ys H', ys.Perm xs → H p = none → H' p = some (.lst ys) → Src H' a → But a H H' → Q (.ref p) H'
section
variable {P : Program} {w : World} {K : PySem.W.Frag} {mg : Str → Option Value} {base : Heap}
theorem scOne : FnScope ["_law_source", "_law_some"] ["_law_source", "_law_some"] (defScope sOne) := ⟨rfl, rfl, rfl, by decide +kernel, rfl, by decide +kernel, by decide +kernel⟩
theorem ok_one {f fN : Addr} {fd fdN : FuncData} (F : Fun K "_law_one" "_law_one" sOne f fd) (mlen : mg "len" = none) (mN : mg "_law_next" = some (.ref fN)) (FN : Fun K "_law_next" "_law_next" sNext fN fdN) (bN : Binds K fdN ["_law_source", "_law_many"] []) :
    FnOk P w K mg base CX0 2 f fd ["_law_source", "_law_some"] (spOne K) := by
  have GN : FnOk P w K mg base CX0 1 fN fdN ["_law_source", "_law_many"] spNext := ok_next FN
  refine F.ok scOne (fun vs H Q E h => ?_) (fun cdv A outer s H vs Q E hr h => ?_)
  · obtain ⟨a, b, xs, rfl, _⟩ := h; rfl
  · obtain ⟨a, b, xs, rfl, hS, ab, hB, hB2, h0, h1, k⟩ := h
    refine ⟨_, pss_one (ps_ret (pe_ix ix_list (pv 1) (pe_call GN hr rfl mN FN.kp bN .nil pass0 (pa_cons (pv 0) (pa_cons (pe_callB call_len_seq (by rfl) mlen PySem.boot_len (pa_cons (pv 1) pa_nil)) pa_nil))) (fun _ _ => rfl))), ?_⟩
    refine ⟨_, rfl, _, rfl, _, rfl, b, _, rfl, .inl hB, a, _, rfl, hS, by omega, by omega, fun r H' r0 r1 S' B' => ?_⟩
    obtain ⟨j, rfl⟩ : ∃ j : Nat, r = j := ⟨r.toNat, by omega⟩
    have hj : j < xs.length := by omega
    exact ⟨b, xs, _, _, rfl, rfl, SqL.of (B' b _ ab.symm hB2), atI_nat (List.getElem?_eq_getElem hj), k _ _ (List.getElem_mem hj) S' B'⟩
theorem scMixed : FnScope ["_law_source", "_law_some", "_law_left", "_law_found"] ["_law_source", "_law_some"] (defScope sMixed) := ⟨rfl, rfl, rfl, by decide +kernel, rfl, by decide +kernel, by decide +kernel⟩
theorem erase_perm {α : Type} : ∀ {l : List α} {k : Nat} {y : α}, l[k]? = some y → (y :: l.eraseIdx k).Perm l
  | [], _, _, h => by simp at h
  | a :: l, 0, y, h => by
    obtain rfl : a = y := Option.some.inj h
    exact List.Perm.refl _
  | a :: l, k + 1, y, h => by
    have ih := erase_perm (l := l) (k := k) (y := y) h
    show (y :: a :: l.eraseIdx k).Perm (a :: l)
    exact (List.Perm.swap a y _).trans (ih.cons a)
theorem Item.but {H H' : Hp} {a : Addr} {x : V} (S : Src H a) (B : But a H H') (h : Item H x) : Item H' x := by
  rcases h with h | ⟨p, u, v, e, h, o⟩
  · exact .inl h
  · obtain ⟨x1, y1, z1, S⟩ := S
    exact .inr ⟨p, u, v, e, B p _ (ne_of h S (fun z => by cases z)) h, o⟩
theorem Item.dp {H : Hp} {x : V} (h : Item H x) : ∃ d, Dp K H x d ∧ d.canLay0 = true ∧ d.depth ≤ 1 := by
  rcases h with ⟨z, rfl, o⟩ | ⟨p, u, v, rfl, h, o⟩
  · exact ⟨_, .str z, by simp [PyData.canLay0, o], by simp [PyData.depth]⟩
  · exact ⟨_, .tup (SqT.of h) (.cons (.str u) (.cons (.str v) .nil)), by simp [PyData.canLay0, PyData.canLayAll0, o], by simp [PyData.depth, PyData.depthAll]⟩
theorem items_dp {H : Hp} : ∀ {xs : List V}, (∀ x ∈ xs, Item H x) → ∃ ds, DpAll K H xs ds ∧ ds.length = xs.length ∧ PyData.canLayAll0 ds = true ∧ PyData.depthAll ds ≤ 1
  | [], _ => ⟨[], .nil, rfl, by simp [PyData.canLayAll0], by simp [PyData.depthAll]⟩
  | x :: xs, h => by
    obtain ⟨d, d1, d2, d3⟩ := (h x List.mem_cons_self).dp (K := K)
    obtain ⟨ds, e1, e2, e3, e4⟩ := items_dp (xs := xs) fun y hy => h y (List.mem_cons_of_mem _ hy)
    refine ⟨d :: ds, .cons d1 e1, by simp [e2], by simp [PyData.canLayAll0, d2, e3], ?_⟩
    simp only [PyData.depthAll]; omega
theorem eqv_nil {ds : List PyData} : PyData.eqv (.list ds) (.list []) = decide (ds = []) := by
  cases ds <;> simp [PyData.eqv, PyData.eqvAll]
theorem ok_mixed {f fN : Addr} {fd fdN : FuncData} (F : Fun K "_law_mixed" "_law_mixed" sMixed f fd) (mlen : mg "len" = none) (mlist : mg "list" = none) (mN : mg "_law_next" = some (.ref fN)) (FN : Fun K "_law_next" "_law_next" sNext fN fdN) (bN : Binds K fdN ["_law_source", "_law_many"] []) :
    FnOk P w K mg base CX0 2 f fd ["_law_source", "_law_some"] (spMixed K) := by
  have GN : FnOk P w K mg base CX0 1 fN fdN ["_law_source", "_law_many"] spNext := ok_next FN
  refine F.ok scMixed (fun vs H Q E h => ?_) (fun cdv A outer s H vs Q E hr h => ?_)
  · obtain ⟨a, b, xs, rfl, _⟩ := h; rfl
  · obtain ⟨a, b, xs, rfl, hS, ab, hB, hI, h1, k⟩ := h
    have hu := hu_of hr
    refine ⟨_, pss_cons (ps_set (i := 2) scMixed.nd rfl (Or.inl rfl) (pe_callTy call_list_of (by rfl) mlist (by decide +kernel) (pa_cons (pv 1) pa_nil)))
      (pss_cons (ps_set (i := 3) scMixed.nd rfl (Or.inl rfl) (pe_lst pa_nil))
      (pss_cons (ps_while PassesOwn.never (pt_cmpR (op_neD hr.units) (pv 2) (pe_lst pa_nil) (nomark _))
        (pss_one (ps_expr (pe_bm PySem.F.plainAttrs_list PySem.F.slot_list_append PySem.F.type_list_append mt_append (pv 3) (pa_cons (pe_bm PySem.F.plainAttrs_list PySem.F.slot_list_pop PySem.F.type_list_pop mt_popAt (pv 2)
          (pa_cons (pe_call GN hr rfl mN FN.kp bN .nil pass0 (pa_cons (pv 0) (pa_cons (pe_callB call_len_seq (by rfl) mlen PySem.boot_len (pa_cons (pv 2) pa_nil)) pa_nil))) pa_nil)) pa_nil)))))
      (pss_one (ps_ret (pv 3))))), ?_⟩
    refine ⟨_, rfl, b, _, rfl, .inl (SqL.of hB), fun l hl => ?_⟩
    refine ⟨by show 0 ≤ sizeLine; decide, fun p hp => ?_⟩
    have S0 := hS
    obtain ⟨x0, y0, z0, hS0⟩ := hS
    have al : a ≠ l := ne_of_none hS0 hl
    have hl1 : L2.upd H l (.lst xs) l = some (.lst xs) := upd_same
    have ap : a ≠ p := ne_of_none (show L2.upd H l (.lst xs) a = some _ by rw [upd_ne al]; exact hS0) hp
    have lp : l ≠ p := ne_of_none hl1 hp
    have hp0 : H p = none := by rw [upd_ne lp.symm] at hp; exact hp
    have s1 : Same H (L2.upd (L2.upd H l (.lst xs)) p (.lst [])) := fun c o e => by
      rw [upd_ne (ne_of_none e hp0), upd_ne (ne_of_none e hl)]; exact e
    refine while_by (fun σ H' => ∃ left found, σ = [some (.ref a), some (.ref b), some (.ref l), some (.ref p)] ∧ H' l = some (.lst left) ∧ H' p = some (.lst found) ∧ (left ++ found).Perm xs ∧ Src H' a ∧ But a H H')
      (fun _ H' => match H' l with | some (.lst ys) => ys.length | _ => 0) ?_ ?_ ?_
    · exact ⟨xs, [], rfl, by rw [upd_ne lp]; exact upd_same, upd_same, by simp, ⟨x0, y0, z0, s1 _ _ hS0⟩, But.of_same s1⟩
    · rintro σ H' ⟨left, found, rfl, e1, e2, pm, S', B'⟩
      have lenx : left.length + found.length = xs.length := by have := pm.length_eq; rw [List.length_append] at this; exact this
      have each : ∀ x ∈ left, Item H' x := fun x hx => (hI x (pm.mem_iff.mp (List.mem_append_left _ hx))).but S0 B'
      refine ⟨_, rfl, by show 0 ≤ sizeLine; decide, fun q hq => ?_⟩
      have nq : ∀ {c : Addr} {o : HO}, H' c = some o → L2.upd H' q (.lst []) c = some o := fun e => by rw [upd_ne (ne_of_none e hq)]; exact e
      have each2 : ∀ x ∈ left, Item (L2.upd H' q (.lst [])) x := fun x hx => (each x hx).but S' (But.new hq)
      obtain ⟨ds, d1, d2, d3, d4⟩ := items_dp (K := K) each2
      refine ⟨.list ds, .list [], .lst (SqL.of (nq e1)) d1, .lst (SqL.of upd_same) .nil, ?_, by decide, _, rfl, ?_⟩
      · have c1 : (PyData.list ds).canLay0 = true := by simp [PyData.canLay0, d3]
        have c2 : (PyData.list ds).depth = PyData.depthAll ds + 1 := by first | rfl | simp [PyData.depth, Nat.add_comm]
        unfold SeqAt.shaped; rw [c1, c2]; simp; omega
      rw [eqv_nil]
      cases left with
      | nil =>
        have : ds = [] := by cases ds with | nil => rfl | cons _ _ => simp at d2
        subst this
        refine iteF ⟨_, rfl, ?_⟩
        refine k p found _ (by simpa using pm) hp0 (nq e2) ?_ (B'.trans (But.new hq))
        obtain ⟨x1, y1, z1, S'⟩ := S'
        exact ⟨x1, y1, z1, nq S'⟩
      | cons y0 left =>
        have : ds ≠ [] := by intro e; rw [e] at d2; simp at d2
        rw [decide_eq_false this]
        refine iteT ?_
        refine ⟨_, rfl, .inl ⟨rfl, _, SqL.of (nq e2)⟩, _, rfl, .inl ⟨rfl, _, SqL.of (nq e1)⟩, _, rfl, _, rfl, l, _, rfl, .inl (SqL.of (nq e1)), a, _, rfl, ?_, by first | (simp; done) | (simp; omega), by simp at lenx ⊢; omega, fun r H2 r0 r1 S2 B2 => ?_⟩
        · obtain ⟨x1, y1, z1, S'⟩ := S'
          exact ⟨x1, y1, z1, nq S'⟩
        obtain ⟨j, rfl⟩ : ∃ j : Nat, r = j := ⟨r.toNat, by omega⟩
        have hj : j < (y0 :: left).length := by simp at r1 ⊢; omega
        have e1' := B2 l _ al.symm (nq e1)
        have e2' := B2 p _ ap.symm (nq e2)
        refine ⟨l, _, _, j, _, rfl, rfl, e1', by omega, by simp at hj lenx; omega, seqIndex_of (by omega) (by omega), List.getElem?_eq_getElem hj, ?_⟩
        have e2'' : L2.upd H2 l (.lst ((y0 :: left).eraseIdx j)) p = some (.lst found) := by rw [upd_ne lp.symm]; exact e2'
        refine ⟨p, _, _, rfl, rfl, e2'', by rw [sizeLine_eq]; simp at lenx; omega, ?_⟩
        have pe := erase_perm (List.getElem?_eq_getElem hj)
        obtain ⟨x2, y2, z2, S2⟩ := S2
        refine ⟨⟨(y0 :: left).eraseIdx j, found ++ [(y0 :: left)[j]], rfl, by rw [upd_ne lp]; exact upd_same, upd_same, ?_, ⟨x2, y2, z2, by rw [upd_ne ap, upd_ne al]; exact S2⟩, fun c o n e => ?_⟩, ?_⟩
        · refine List.Perm.trans ?_ pm
          have q1 : ((y0 :: left).eraseIdx j ++ (found ++ [(y0 :: left)[j]])).Perm ((y0 :: left)[j] :: (y0 :: left).eraseIdx j ++ found) := by
            rw [← List.append_assoc]
            exact (List.perm_append_comm).trans (List.Perm.refl _)
          exact q1.trans (pe.append_right found)
        · rw [upd_ne (ne_of_none e hp0), upd_ne (ne_of_none e hl)]
          exact B2 c o n (nq (B' c o n e))
        · show (match L2.upd (L2.upd H2 l _) p _ l with | some (.lst ys) => ys.length | _ => 0) < (match H' l with | some (.lst ys) => ys.length | _ => 0)
          rw [upd_ne lp, upd_same, e1]
          show ((y0 :: left).eraseIdx j).length < (y0 :: left).length
          rw [List.length_eraseIdx_of_lt hj]; simp
    · rintro σ H' Q1 Q2 m ⟨v, ev, hz, q⟩
      exact ⟨v, ev, hz, fun p hp => let ⟨d, e, c1, c2, c3, c4, kk, ek, q⟩ := q p hp; ⟨d, e, c1, c2, c3, c4, kk, ek, m _ _ q⟩⟩
end
end CP
namespace CP
open PySem L2
abbrev sInit : Stmt := inClass (top 8) 0
abbrev sApart : Stmt := top 9
abbrev sPairs : Stmt := top 10
abbrev sRow : Stmt := top 11
abbrev sCouple : Stmt := top 12
abbrev sName : Stmt := top 13
abbrev sVerts : Stmt := top 14
abbrev sEdges : Stmt := top 15
abbrev sAmong : Stmt := top 16
abbrev sJoins : Stmt := top 17
/-- u < v as Python compares texts -/
def ltS (u v : Str) : Bool := decide (u.cps.toList < v.cps.toList)
def spRow : Sp := fun vs H Q _ => ∃ (a : Addr) (xs : List V), vs = [.ref a] ∧ (H a = some (.lst xs) ∨ H a = some (.tup xs)) ∧ ∀ H', Same H H' → Q (.bl true) H'
def spCouple : Sp := fun vs H Q _ => ∃ (a : Addr) (x y : V), vs = [.ref a] ∧ H a = some (.tup [x, y]) ∧ Q (.bl true) H
def spAmong (K : PySem.W.Frag) : Sp := fun vs H Q _ => ∃ (a : Addr) (ns : List Str) (z : Str), vs = [.ref a, .str z] ∧ (SqL K H a (ns.map V.str) ∨ SqT K H a (ns.map V.str)) ∧ Q (.bl (decide (z ∈ ns))) H
def spJoins (K : PySem.W.Frag) : Sp := fun vs H Q _ => ∃ (a p : Addr) (ns : List Str) (u v : Str), vs = [.ref a, .ref p] ∧ (SqL K H a (ns.map V.str) ∨ SqT K H a (ns.map V.str)) ∧ H p = some (.tup [.str u, .str v]) ∧ Q (.bl (decide (u ∈ ns) && (decide (v ∈ ns) && ltS u v))) H
def spApart : Sp := fun vs H Q _ => ∃ (p q : Addr) (u v x y : Str), vs = [.ref p, .ref q] ∧ H p = some (.tup [.str u, .str v]) ∧ H q = some (.tup [.str x, .str y]) ∧ Q (.bl (decide (u ≠ x ∧ u ≠ y ∧ v ≠ x ∧ v ≠ y))) H
section
variable {P : Program} {w : World} {K : PySem.W.Frag} {mg : Str → Option Value} {base : Heap}
theorem kit2 {K : PySem.W.Frag} {t : String} (h : t = "list" ∨ t = "tuple") : PySem.W.kitAny K (.type t) [.type "list", .type "tuple"] = some true := by
  rcases h with rfl | rfl
  · exact kitAny_cons (kit_ty (b := "list") (r := true) (by decide +kernel)) (fun z => nomatch z) (fun _ => rfl)
  · exact kitAny_cons (kit_ty (b := "list") (r := false) (by decide +kernel)) (fun _ => kitAny_cons (kit_ty (b := "tuple") (r := true) (by decide +kernel)) (fun z => nomatch z) (fun _ => rfl)) (fun z => nomatch z)
theorem scRow : FnScope ["value"] ["value"] (defScope sRow) := ⟨rfl, rfl, rfl, by decide +kernel, rfl, by decide +kernel, by decide +kernel⟩
theorem ok_row {f : Addr} {fd : FuncData} (F : Fun K "is_row" "is_row" sRow f fd) (mi : mg "isinstance" = none) (ml : mg "list" = none) (mt : mg "tuple" = none) : FnOk P w K mg base CX0 1 f fd ["value"] spRow := by
  refine F.ok scRow (fun vs H Q E h => ?_) (fun cdv A outer s H vs Q E hr h => ?_)
  · obtain ⟨a, xs, rfl, _⟩ := h; rfl
  · obtain ⟨a, xs, rfl, hA, k⟩ := h
    refine ⟨_, pss_one (ps_ret (pe_callB call_isiT (by rfl) mi (by decide +kernel) (pa_cons (pv 0) (pa_cons (pe_tup (pa_cons (pe_bltn (v := .ty "list") (by rfl) ml (by decide +kernel) rfl) (pa_cons (pe_bltn (v := .ty "tuple") (by rfl) mt (by decide +kernel) rfl) pa_nil))) pa_nil)))), ?_⟩
    refine ⟨_, rfl, by show 2 ≤ sizeLine; decide, fun t ht => ?_⟩
    have s1 : Same H (L2.upd H t (.tup [.ty "list", .ty "tuple"])) := fun c o e => by rw [upd_ne (ne_of_none e ht)]; exact e
    rcases hA with hA | hA
    · exact ⟨_, t, _, .type "list", _, true, rfl, upd_same, .cons (.ty _) (.cons (.ty _) .nil), .base (.lst (s1 _ _ hA)), kit2 (.inl rfl), k _ s1⟩
    · exact ⟨_, t, _, .type "tuple", _, true, rfl, upd_same, .cons (.ty _) (.cons (.ty _) .nil), .base (.tup (s1 _ _ hA)), kit2 (.inr rfl), k _ s1⟩
theorem scCouple : FnScope ["value"] ["value"] (defScope sCouple) := ⟨rfl, rfl, rfl, by decide +kernel, rfl, by decide +kernel, by decide +kernel⟩
theorem ok_couple {f : Addr} {fd : FuncData} (F : Fun K "is_couple" "is_couple" sCouple f fd) (mi : mg "isinstance" = none) (ml : mg "len" = none) (mt : mg "tuple" = none) : FnOk P w K mg base CX0 1 f fd ["value"] spCouple := by
  refine F.ok scCouple (fun vs H Q E h => ?_) (fun cdv A outer s H vs Q E hr h => ?_)
  · obtain ⟨a, x, y, rfl, _⟩ := h; rfl
  · obtain ⟨a, x, y, rfl, hA, k⟩ := h
    refine ⟨_, pss_one (ps_ret (pe_and (pe_callB call_isi (by rfl) mi (by decide +kernel) (pa_cons (pv 0) (pa_cons (pe_bltn (v := .ty "tuple") (by rfl) mt (by decide +kernel) rfl) pa_nil)))
      (pe_one (pe_cmpR op_eq (pe_callB call_len_seq (by rfl) ml PySem.boot_len (pa_cons (pv 0) pa_nil)) pe_int (nomark _))))), ?_⟩
    refine ⟨_, rfl, _, _, .type "tuple", _, true, rfl, .ty _, .base (.tup hA), kit_ty (by decide +kernel), _, rfl, iteT ?_⟩
    refine ⟨_, rfl, a, _, rfl, .inr (SqT.of hA), rfl, ?_⟩
    exact k
theorem scAmong : FnScope ["vertices", "value"] ["vertices", "value"] (defScope sAmong) := ⟨rfl, rfl, rfl, by decide +kernel, rfl, by decide +kernel, by decide +kernel⟩
theorem inV_txt (z : Str) (ns : List Str) : inV (.str z) (ns.map V.str) = decide (z ∈ ns) := by
  have e : inV (.str z) (ns.map V.str) = ns.any (fun n => n == z) := by
    unfold inV; rw [List.any_map]; rfl
  rw [e]
  by_cases c : z ∈ ns
  · rw [decide_eq_true c]; exact List.any_eq_true.mpr ⟨z, c, by simp⟩
  · rw [decide_eq_false c]
    cases h : ns.any (fun n => n == z) with
    | false => rfl
    | true =>
      obtain ⟨n, hn, q⟩ := List.any_eq_true.mp h
      exact absurd (by have := beq_iff_eq.mp q; rw [this] at hn; exact hn) c
theorem flat_txt (ns : List Str) : (ns.map V.str).all flatV = true := by simp [List.all_eq_true, flatV]
theorem ok_among {f : Addr} {fd : FuncData} (F : Fun K "is_among" "is_among" sAmong f fd) (mi : mg "isinstance" = none) (ms : mg "str" = none) : FnOk P w K mg base CX0 1 f fd ["vertices", "value"] (spAmong K) := by
  refine F.ok scAmong (fun vs H Q E h => ?_) (fun cdv A outer s H vs Q E hr h => ?_)
  · obtain ⟨a, ns, z, rfl, _⟩ := h; rfl
  · obtain ⟨a, ns, z, rfl, hA, k⟩ := h
    refine ⟨_, pss_one (ps_ret (pe_and (pe_callB call_isi (by rfl) mi (by decide +kernel) (pa_cons (pv 1) (pa_cons (pe_bltn (v := .ty "str") (by rfl) ms (by decide +kernel) rfl) pa_nil))) (pe_one (pe_cmpR op_in_seq (pv 1) (pv 0) rfl)))), ?_⟩
    refine ⟨_, rfl, _, _, .type "str", _, true, rfl, .ty _, .base (.str z), kit_ty (by decide +kernel), _, rfl, iteT ?_⟩
    refine ⟨_, rfl, _, rfl, a, _, rfl, hA, rfl, flat_txt ns, ?_⟩
    rw [inV_txt]; exact k
theorem scJoins : FnScope ["vertices", "value", "low", "high"] ["vertices", "value"] (defScope sJoins) := ⟨rfl, rfl, rfl, by decide +kernel, rfl, by decide +kernel, by decide +kernel⟩
theorem ok_joins {f fC fA : Addr} {fd fdC fdA : FuncData} (F : Fun K "joins" "joins" sJoins f fd) (mC : mg "is_couple" = some (.ref fC)) (FC : FnOk P w K mg base CX0 1 fC fdC ["value"] spCouple) (kC : PySem.W.keepIn K (.ref fC) = true) (bC : Binds K fdC ["value"] [])
    (mA : mg "is_among" = some (.ref fA)) (FA : FnOk P w K mg base CX0 1 fA fdA ["vertices", "value"] (spAmong K)) (kA : PySem.W.keepIn K (.ref fA) = true) (bA : Binds K fdA ["vertices", "value"] []) : FnOk P w K mg base CX0 2 f fd ["vertices", "value"] (spJoins K) := by
  refine F.ok scJoins (fun vs H Q E h => ?_) (fun cdv A outer s H vs Q E hr h => ?_)
  · obtain ⟨a, p, ns, u, v, rfl, _⟩ := h; rfl
  · obtain ⟨a, p, ns, u, v, rfl, hA, hP, k⟩ := h
    refine ⟨_, pss_cons (ps_if (pt_not (pt_val (pe_call FC hr rfl mC kC bC .nil pass0 (pa_cons (pv 1) pa_nil)))) (pss_one (ps_ret pe_bl)) pss_nil)
      (pss_cons (ps_asg (pv 1) (pg_tup rfl (pgs_cons (pg_name (i := 2) scJoins.nd rfl (Or.inl rfl)) (pgs_cons (pg_name (i := 3) scJoins.nd rfl (Or.inl rfl)) pgs_nil))))
      (pss_one (ps_ret (pe_and (pe_call FA hr rfl mA kA bA .nil pass0 (pa_cons (pv 0) (pa_cons (pv 2) pa_nil))) (pe_and (pe_call FA hr rfl mA kA bA .nil pass0 (pa_cons (pv 0) (pa_cons (pv 3) pa_nil))) (pe_one (pe_cmpR op_lt_str (pv 2) (pv 3) (nomark _)))))))), ?_⟩
    refine ⟨_, rfl, p, _, _, rfl, hP, _, rfl, iteF ?_⟩
    refine ⟨_, rfl, p, _, rfl, SqT.of hP, rfl, _, _, rfl, _, _, rfl, rfl, ?_⟩
    refine ⟨_, rfl, _, rfl, a, ns, u, rfl, hA, _, rfl, ?_⟩
    by_cases c1 : u ∈ ns
    · rw [decide_eq_true c1] at k ⊢
      refine iteT ⟨_, rfl, _, rfl, a, ns, v, rfl, hA, _, rfl, ?_⟩
      by_cases c2 : v ∈ ns
      · rw [decide_eq_true c2] at k ⊢
        exact iteT ⟨_, rfl, _, rfl, _, _, rfl, rfl, k⟩
      · rw [decide_eq_false c2] at k ⊢
        exact iteF k
    · rw [decide_eq_false c1] at k ⊢
      exact iteF k
theorem scApart : FnScope ["one", "other"] ["one", "other"] (defScope sApart) := ⟨rfl, rfl, rfl, by decide +kernel, rfl, by decide +kernel, by decide +kernel⟩
theorem ok_apart {f : Addr} {fd : FuncData} (F : Fun K "are_apart" "are_apart" sApart f fd) : FnOk P w K mg base CX0 1 f fd ["one", "other"] spApart := by
  refine F.ok scApart (fun vs H Q E h => ?_) (fun cdv A outer s H vs Q E hr h => ?_)
  · obtain ⟨p, q, u, v, x, y, rfl, _⟩ := h; rfl
  · obtain ⟨p, q, u, v, x, y, rfl, hP, hQ, k⟩ := h
    refine ⟨_, pss_one (ps_ret (pe_and (pe_cmpR op_notIn_seq (pe_ix ix_tup (pv 0) pe_int (fun _ _ => rfl)) (pv 1) rfl) (pe_one (pe_cmpR op_notIn_seq (pe_ix ix_tup (pv 0) pe_int (fun _ _ => rfl)) (pv 1) rfl)))), ?_⟩
    have two : ∀ z : Str, inV (.str z) [.str x, .str y] = decide (z ∈ [x, y]) := fun z => inV_txt z [x, y]
    refine ⟨_, rfl, p, _, _, _, rfl, rfl, SqT.of hP, (atI_nat (j := 0) rfl), _, rfl, q, _, rfl, .inr (SqT.of hQ), rfl, rfl, _, rfl, ?_⟩
    show if (!inV (.str u) [.str x, .str y]) = true then _ else _
    rw [two]
    by_cases c1 : u ∈ [x, y]
    · rw [decide_eq_true c1]
      refine iteF ?_
      have e : decide (u ≠ x ∧ u ≠ y ∧ v ≠ x ∧ v ≠ y) = false := decide_eq_false fun z => by simp at c1; rcases c1 with c | c <;> simp_all
      rw [e] at k; exact k
    · rw [decide_eq_false c1]
      refine iteT ⟨_, rfl, p, _, _, _, rfl, rfl, SqT.of hP, (atI_nat (j := 1) rfl), _, rfl, q, _, rfl, .inr (SqT.of hQ), rfl, rfl, ?_⟩
      show Q (.bl (!inV (.str v) [.str x, .str y])) _
      rw [two]
      have e : decide (u ≠ x ∧ u ≠ y ∧ v ≠ x ∧ v ≠ y) = !decide (v ∈ [x, y]) := by
        simp only [List.mem_cons, List.not_mem_nil, or_false, not_or] at c1 ⊢
        by_cases c2 : v = x <;> by_cases c3 : v = y <;> simp [c1, c2, c3]
      rw [e] at k; exact k
end
end CP
namespace CP
open PySem L2
abbrev letters : Str := "abcdefghijklmnopqrstuvwxyz"
structure NameOk (z : Str) : Prop where
  pos : 0 < z.length
  most : z.length ≤ 8
  all : ∀ c ∈ z.cps.toList, c ∈ letters.cps.toList
def spName : Sp := fun vs H Q _ => ∃ z : Str, vs = [.str z] ∧ NameOk z ∧ ∀ H', Same H H' → Q (.bl true) H'
def spVerts : Sp := fun vs H Q _ => ∃ (a : Addr) (ns : List Str), vs = [.ref a] ∧ H a = some (.lst (ns.map V.str)) ∧ 0 < ns.length ∧ ns.length ≤ 8 ∧ ns.Nodup ∧ (∀ z ∈ ns, NameOk z) ∧ ∀ H', Same H H' → Q (.bl true) H'
/-- edges as tracked tuples: address and the two names -/
abbrev Ed := Addr × (Str × Str)
def EdAt (H : Hp) (p : Ed) : Prop := H p.1 = some (.tup [.str p.2.1, .str p.2.2])
/-- an edge between names of ns -/
def EdOk (ns : List Str) (e : Str × Str) : Prop := e.1 ∈ ns ∧ e.2 ∈ ns ∧ ltS e.1 e.2 = true
def spEdges : Sp := fun vs H Q _ => ∃ (a b : Addr) (ns : List Str) (ks : List Ed), vs = [.ref a, .ref b] ∧ H a = some (.lst (ns.map V.str)) ∧ H b = some (.lst (ks.map fun p => V.ref p.1)) ∧ (∀ p ∈ ks, EdAt H p) ∧ (∀ p ∈ ks, EdOk ns p.2) ∧
  (ks.map (·.2)).Nodup ∧ ks.length ≤ 18 ∧ ∀ H', Same H H' → Q (.bl true) H'
theorem Same.new {H : Hp} {p : Addr} {o : HO} (h : H p = none) : Same H (L2.upd H p o) := fun c u e => by rw [upd_ne (ne_of_none e h)]; exact e
/-- the list at D grows: what stood before D stands -/
theorem Same.grow {H H' : Hp} {D : Addr} {o : HO} (h : H D = none) (s : Same H H') : Same H (L2.upd H' D o) := fun c u e => by rw [upd_ne (ne_of_none e h)]; exact s c u e
section
variable {P : Program} {w : World} {K : PySem.W.Frag} {mg : Str → Option Value} {base : Heap}
theorem scName : FnScope ["value", "letter"] ["value"] (defScope sName) := ⟨rfl, rfl, rfl, by decide +kernel, rfl, by decide +kernel, by decide +kernel⟩
theorem ok_name {f : Addr} {fd : FuncData} {t1 t2 : Tok} (F : Fun K "is_name" "is_name" sName f fd) (mi : mg "isinstance" = none) (ms : mg "str" = none) (ml : mg "len" = none) (ma : mg "all" = none) (mL : mg "LETTERS" = some (.str letters t1)) (mN : mg "LONGEST_NAME" = some (.int 8 t2)) :
    FnOk P w K mg base CX0 1 f fd ["value"] spName := by
  refine F.ok scName (fun vs H Q E h => ?_) (fun cdv A outer s H vs Q E hr h => ?_)
  · obtain ⟨z, rfl, _⟩ := h; rfl
  · obtain ⟨z, rfl, N, k⟩ := h
    refine ⟨_, pss_cons (ps_if (PW.pt (pw_or (pt_not (pt_val (pe_callB call_isi (by rfl) mi (by decide +kernel) (pa_cons (pv 0) (pa_cons (pe_bltn (v := .ty "str") (by rfl) ms (by decide +kernel) rfl) pa_nil)))))
        (pw_or (pt_cmpR op_eq (pe_callB call_len_str (by rfl) ml PySem.boot_len (pa_cons (pv 0) pa_nil)) pe_int (nomark _)) (pw_or1 (pt_cmpR op_gt (pe_callB call_len_str (by rfl) ml PySem.boot_len (pa_cons (pv 0) pa_nil)) (pe_glob (v := .int 8) rfl mN ⟨_, rfl⟩) (nomark _))))))
        (pss_one (ps_ret pe_bl)) pss_nil)
      (pss_one (ps_ret (pe_callB (cr_all rfl) (by rfl) ma (by decide +kernel) (pa_cons (pe_lc (own := [("letter", 1)]) (g := gName 1) (tt := tYes) rfl scName.nd (pi_str (pv 0)) (blkOk_by (own := [("letter", 1)]) (N := ["value", "letter"]) (sc := defScope sName) (by decide +kernel))
        (fun _ _ _ _ _ => pg_name (i := 1) scName.nd rfl (Or.inl rfl)) (fun _ _ _ _ _ => pts_nil) (fun _ _ _ _ _ => pe_cmpR op_in_sign (pv 1) (pe_glob (v := .str letters) rfl mL ⟨_, rfl⟩) rfl)) pa_nil)))), ?_⟩
    have hz : z.length ≤ sizeLine := by have := N.most; rw [sizeLine_eq]; omega
    refine ⟨_, rfl, _, _, .type "str", _, true, rfl, .ty _, .base (.str z), kit_ty (by decide +kernel), _, rfl, iteF ?_⟩
    refine ⟨_, rfl, z, rfl, hz, rfl, _, rfl, ?_⟩
    rw [decide_eq_false (by intro e; have := N.pos; injection e with e; omega)]
    refine iteF ⟨_, rfl, z, rfl, hz, _, _, rfl, rfl, _, rfl, ?_⟩
    rw [decide_eq_false (by have := N.most; omega)]
    refine iteF ?_
    refine ⟨_, rfl, z, rfl, fun D hD => lc_it walk_str (fun i H' => H' D = some (.lst ((List.replicate i true).map V.bl)) ∧ Same H H') ⟨upd_same, Same.new hD⟩ (fun _ _ _ _ => True.intro) ?_ ?_⟩
    · rintro i x H1 H2 hi ⟨e1, s1⟩ ⟨rfl, c, hc, rfl⟩
      refine ⟨rfl, _, rfl, c, letters, rfl, rfl, _, e1, by rw [List.length_map, List.length_replicate, sizeLine_eq]; have := N.most; have e : z.cps.size = z.length := rfl; omega, ?_, Same.grow hD s1⟩
      rw [decide_eq_true (N.all c (by simpa using Array.mem_of_getElem? hc)), upd_same, List.replicate_succ', List.map_append]; rfl
    · rintro H1 ⟨e1, s1⟩
      refine ⟨D, List.replicate z.cps.size true, rfl, SqL.of e1, ?_⟩
      have e : (List.replicate z.cps.size true).all id = true := by simp
      rw [e]; exact k _ s1
theorem scVerts : FnScope ["value", "name"] ["value"] (defScope sVerts) := ⟨rfl, rfl, rfl, by decide +kernel, rfl, by decide +kernel, by decide +kernel⟩
theorem ok_verts {f fR fN : Addr} {fd fdR fdN : FuncData} {t1 : Tok} (F : Fun K "are_vertices" "are_vertices" sVerts f fd) (ml : mg "len" = none) (ma : mg "all" = none) (mset : mg "set" = none) (mM : mg "MOST_VERTICES" = some (.int 8 t1))
    (mR : mg "is_row" = some (.ref fR)) (FR : FnOk P w K mg base CX0 1 fR fdR ["value"] spRow) (kR : PySem.W.keepIn K (.ref fR) = true) (bR : Binds K fdR ["value"] [])
    (mN : mg "is_name" = some (.ref fN)) (FN : FnOk P w K mg base CX0 1 fN fdN ["value"] spName) (kN : PySem.W.keepIn K (.ref fN) = true) (bN : Binds K fdN ["value"] []) : FnOk P w K mg base CX0 2 f fd ["value"] spVerts := by
  refine F.ok scVerts (fun vs H Q E h => ?_) (fun cdv A outer s H vs Q E hr h => ?_)
  · obtain ⟨a, ns, rfl, _⟩ := h; rfl
  · obtain ⟨a, ns, rfl, hA, h0, h8, nd, each, k⟩ := h
    refine ⟨_, pss_cons (ps_if (PW.pt (pw_or (pt_not (pt_val (pe_call FR hr rfl mR kR bR .nil pass0 (pa_cons (pv 0) pa_nil))))
        (pw_or (pt_cmpR op_eq (pe_callB call_len_seq (by rfl) ml PySem.boot_len (pa_cons (pv 0) pa_nil)) pe_int (nomark _)) (pw_or1 (pt_cmpR op_gt (pe_callB call_len_seq (by rfl) ml PySem.boot_len (pa_cons (pv 0) pa_nil)) (pe_glob (v := .int 8) rfl mM ⟨_, rfl⟩) (nomark _))))))
        (pss_one (ps_ret pe_bl)) pss_nil)
      (pss_one (ps_ret (pe_and (pe_callB (cr_all rfl) (by rfl) ma (by decide +kernel) (pa_cons (pe_lc (own := [("name", 1)]) (g := gName 1) (tt := tYes) rfl scVerts.nd (pi_list (pv 0)) (blkOk_by (own := [("name", 1)]) (N := ["value", "name"]) (sc := defScope sVerts) (by decide +kernel))
        (fun _ _ _ _ _ => pg_name (i := 1) scVerts.nd rfl (Or.inl rfl)) (fun _ _ _ _ _ => pts_nil) (fun _ _ _ _ _ => pe_call FN hr rfl mN kN bN .nil pass0 (pa_cons (pv 1) pa_nil))) pa_nil))
        (pe_one (pe_cmpR op_eq (pe_lenSetX rfl (by rfl) ml (by rfl) mset (pv 0)) (pe_callB call_len_seq (by rfl) ml PySem.boot_len (pa_cons (pv 0) pa_nil)) (nomark _)))))), ?_⟩
    refine ⟨_, rfl, a, _, rfl, .inl hA, fun H1 s1 => ⟨_, rfl, iteF ?_⟩⟩
    have hA1 := s1 _ _ hA
    refine ⟨_, rfl, a, _, rfl, .inl (SqL.of hA1), rfl, _, rfl, ?_⟩
    rw [decide_eq_false (by intro e; injection e with e; rw [List.length_map] at e; omega)]
    refine iteF ⟨_, rfl, a, _, rfl, .inl (SqL.of hA1), _, _, rfl, rfl, _, rfl, ?_⟩
    rw [decide_eq_false (by rw [List.length_map]; omega)]
    refine iteF ?_
    refine ⟨_, rfl, a, rfl, ⟨_, SqL.of hA1⟩, fun D hD => lc_list (K := K) (a := a) (xs := ns.map V.str) (fun i H' => H' D = some (.lst ((List.replicate i true).map V.bl)) ∧ Same H1 H') ⟨upd_same, Same.new hD⟩ (fun i H' _ ⟨_, s2⟩ => SqL.of (s2 _ _ hA1)) ?_ ?_⟩
    · rintro i x H2 hi ⟨e1, s2⟩
      have li : i < ns.length := by have := (List.getElem?_eq_some_iff.mp hi).1; rw [List.length_map] at this; exact this
      rw [List.getElem?_map, List.getElem?_eq_getElem li] at hi
      obtain rfl : V.str ns[i] = x := Option.some.inj hi
      refine ⟨rfl, _, rfl, _, rfl, each _ (List.getElem_mem li), fun H3 s3 => ⟨_, s3 _ _ e1, by rw [List.length_map, List.length_replicate, sizeLine_eq]; omega, ?_, Same.grow hD (s2.trans s3)⟩⟩
      rw [upd_same, List.replicate_succ', List.map_append]; rfl
    · rintro H2 ⟨e1, s2⟩
      refine ⟨D, _, rfl, SqL.of e1, _, rfl, ?_⟩
      have e : (List.replicate (ns.map V.str).length true).all id = true := by simp
      rw [e]
      refine iteT ⟨_, rfl, a, ns, rfl, .inl (SqL.of (s2 _ _ hA1)), by omega, fun n _ q => ⟨_, rfl, a, _, rfl, .inl (SqL.of (s2 _ _ hA1)), rfl, ?_⟩⟩
      rw [q.mpr nd, decide_eq_true (by rw [List.length_map])]
      exact k _ (s1.trans s2)
theorem scEdges : FnScope ["vertices", "value", "edge"] ["vertices", "value"] (defScope sEdges) := ⟨rfl, rfl, rfl, by decide +kernel, rfl, by decide +kernel, by decide +kernel⟩
theorem ok_edges {f fR fJ : Addr} {fd fdR fdJ : FuncData} {t1 : Tok} (F : Fun K "are_edges" "are_edges" sEdges f fd) (ml : mg "len" = none) (ma : mg "all" = none) (mset : mg "set" = none) (mM : mg "MOST_EDGES" = some (.int 18 t1))
    (mR : mg "is_row" = some (.ref fR)) (FR : FnOk P w K mg base CX0 1 fR fdR ["value"] spRow) (kR : PySem.W.keepIn K (.ref fR) = true) (bR : Binds K fdR ["value"] [])
    (mJ : mg "joins" = some (.ref fJ)) (FJ : FnOk P w K mg base CX0 2 fJ fdJ ["vertices", "value"] (spJoins K)) (kJ : PySem.W.keepIn K (.ref fJ) = true) (bJ : Binds K fdJ ["vertices", "value"] []) : FnOk P w K mg base CX0 3 f fd ["vertices", "value"] spEdges := by
  refine F.ok scEdges (fun vs H Q E h => ?_) (fun cdv A outer s H vs Q E hr h => ?_)
  · obtain ⟨a, b, ns, ks, rfl, _⟩ := h; rfl
  · obtain ⟨a, b, ns, ks, rfl, hA, hB, hat, hok, nd, h18, k⟩ := h
    have hr1 : Room 1 _ := hr.mono (by decide)
    refine ⟨_, pss_cons (ps_if (PW.pt (pw_or (pt_not (pt_val (pe_call FR hr1 rfl mR kR bR .nil pass0 (pa_cons (pv 1) pa_nil))))
        (pw_or1 (pt_cmpR op_gt (pe_callB call_len_seq (by rfl) ml PySem.boot_len (pa_cons (pv 1) pa_nil)) (pe_glob (v := .int 18) rfl mM ⟨_, rfl⟩) (nomark _)))))
        (pss_one (ps_ret pe_bl)) pss_nil)
      (pss_one (ps_ret (pe_and (pe_callB (cr_all rfl) (by rfl) ma (by decide +kernel) (pa_cons (pe_lc (own := [("edge", 2)]) (g := gName 2) (tt := tYes) rfl scEdges.nd (pi_list (pv 1)) (blkOk_by (own := [("edge", 2)]) (N := ["vertices", "value", "edge"]) (sc := defScope sEdges) (by decide +kernel))
        (fun _ _ _ _ _ => pg_name (i := 2) scEdges.nd rfl (Or.inl rfl)) (fun _ _ _ _ _ => pts_nil) (fun _ _ _ _ _ => pe_call FJ hr rfl mJ kJ bJ .nil pass0 (pa_cons (pv 0) (pa_cons (pv 2) pa_nil)))) pa_nil))
        (pe_one (pe_cmpR op_eq (pe_lenSetP rfl (by rfl) ml (by rfl) mset hr.units (pv 1)) (pe_callB call_len_seq (by rfl) ml PySem.boot_len (pa_cons (pv 1) pa_nil)) (nomark _)))))), ?_⟩
    refine ⟨_, rfl, b, _, rfl, .inl hB, fun H1 s1 => ⟨_, rfl, iteF ?_⟩⟩
    have hA1 := s1 _ _ hA
    have hB1 := s1 _ _ hB
    refine ⟨_, rfl, b, _, rfl, .inl (SqL.of hB1), _, _, rfl, rfl, _, rfl, ?_⟩
    rw [decide_eq_false (by rw [List.length_map]; omega)]
    refine iteF ?_
    refine ⟨_, rfl, b, rfl, ⟨_, SqL.of hB1⟩, fun D hD => lc_list (K := K) (a := b) (xs := ks.map fun p => V.ref p.1) (fun i H' => H' D = some (.lst ((List.replicate i true).map V.bl)) ∧ Same H1 H') ⟨upd_same, Same.new hD⟩ (fun i H' _ ⟨_, s2⟩ => SqL.of (s2 _ _ hB1)) ?_ ?_⟩
    · rintro i x H2 hi ⟨e1, s2⟩
      have li : i < ks.length := by have := (List.getElem?_eq_some_iff.mp hi).1; rw [List.length_map] at this; exact this
      rw [List.getElem?_map, List.getElem?_eq_getElem li] at hi
      obtain rfl : V.ref ks[i].1 = x := Option.some.inj hi
      have mem := List.getElem_mem li
      obtain ⟨o1, o2, o3⟩ := hok _ mem
      refine ⟨rfl, _, rfl, _, rfl, a, ks[i].1, ns, ks[i].2.1, ks[i].2.2, rfl, .inl (SqL.of (s2 _ _ hA1)), s2 _ _ (s1 _ _ (hat _ mem)), _, e1, by rw [List.length_map, List.length_replicate, sizeLine_eq]; omega, ?_, Same.grow hD s2⟩
      rw [upd_same, List.replicate_succ', List.map_append, decide_eq_true o1, decide_eq_true o2, o3]; rfl
    · rintro H2 ⟨e1, s2⟩
      refine ⟨D, _, rfl, SqL.of e1, _, rfl, ?_⟩
      have e : (List.replicate (ks.map fun p => V.ref p.1).length true).all id = true := by simp
      rw [e]
      refine iteT ⟨_, rfl, b, ks.map (fun p => (p.1, [p.2.1, p.2.2])), rfl, .inl (SqL.of ?_), ?_, by rw [List.length_map]; omega, fun n _ q => ⟨_, rfl, b, _, rfl, .inl (SqL.of (s2 _ _ hB1)), rfl, ?_⟩⟩
      · rw [List.map_map]; exact s2 _ _ hB1
      · intro p hp
        obtain ⟨p0, hp0, rfl⟩ := List.mem_map.mp hp
        exact SqT.of (s2 _ _ (s1 _ _ (hat _ hp0)))
      · have nd2 : ((ks.map (fun p => (p.1, [p.2.1, p.2.2]))).map (·.2)).Nodup := by
          rw [List.map_map]
          have : ((fun x => x.2) ∘ fun p : Ed => (p.1, [p.2.1, p.2.2])) = (fun e : Str × Str => [e.1, e.2]) ∘ (fun p : Ed => p.2) := rfl
          rw [this, ← List.map_map]
          exact List.Pairwise.map _ (fun x y h e => h (by simp at e; exact Prod.ext e.1 e.2)) nd
        rw [q.mpr nd2, decide_eq_true (by simp)]
        exact k _ (s1.trans s2)
end
end CP
namespace CP
open PySem L2
/-! ### the order of edges -/
def encE (e : Str × Str) : PyData := .tuple [.str e.1, .str e.2]
def ltE (e f : Str × Str) : Bool := if e.1 = f.1 then (if e.2 = f.2 then false else ltS e.2 f.2) else ltS e.1 f.1
theorem eqv_str (x y : Str) : PyData.eqv (.str x) (.str y) = decide (x = y) := by
  simp only [PyData.eqv]
  by_cases h : x = y
  · subst h; simp
  · simp [h]
theorem dataLt_E (e f : Str × Str) : PySem.W.dataLt (encE e) (encE f) = ltE e f := by
  unfold encE ltE ltS
  rw [PySem.W.dataLt_pair (by simp [PySem.W.alike]) (by simp [PySem.W.alike]), eqv_str, eqv_str, PySem.W.dataLt_str, PySem.W.dataLt_str]
  by_cases h1 : e.1 = f.1 <;> by_cases h2 : e.2 = f.2 <;> simp [h1, h2]
theorem str_ext {x y : Str} (h : x.cps.toList = y.cps.toList) : x = y := PySem.W.str_of_cps h
theorem ltS_irrefl (x : Str) : ltS x x = false := by unfold ltS; exact decide_eq_false (List.lt_irrefl _)
theorem ltS_asymm {x y : Str} (h : ltS x y = true) : ltS y x = false := by
  unfold ltS at *
  exact decide_eq_false fun z => List.lt_irrefl _ (List.lt_trans (of_decide_eq_true h) z)
theorem ltS_total {x y : Str} (h : x ≠ y) (h2 : ltS x y = false) : ltS y x = true := by
  unfold ltS at *
  refine decide_eq_true ?_
  have n : ¬ x.cps.toList < y.cps.toList := of_decide_eq_false h2
  have le : y.cps.toList ≤ x.cps.toList := List.not_lt.mp n
  rcases List.le_iff_lt_or_eq.mp le with l | e
  · exact l
  · exact absurd (str_ext e.symm) h
theorem ltE_irrefl (e : Str × Str) : ltE e e = false := by simp [ltE]
theorem ltE_asymm {e f : Str × Str} (h : ltE e f = true) : ltE f e = false := by
  unfold ltE at *
  by_cases h1 : e.1 = f.1
  · rw [if_pos h1] at h; rw [if_pos h1.symm]
    by_cases h2 : e.2 = f.2
    · rw [if_pos h2] at h; cases h
    · rw [if_neg h2] at h; rw [if_neg fun z => h2 z.symm]; exact ltS_asymm h
  · rw [if_neg h1] at h; rw [if_neg fun z => h1 z.symm]; exact ltS_asymm h
theorem ltE_total {e f : Str × Str} (h : e ≠ f) (h2 : ltE e f = false) : ltE f e = true := by
  unfold ltE at *
  by_cases h1 : e.1 = f.1
  · rw [if_pos h1] at h2; rw [if_pos h1.symm]
    by_cases h3 : e.2 = f.2
    · exact absurd (Prod.ext h1 h3) h
    · rw [if_neg h3] at h2; rw [if_neg fun z => h3 z.symm]; exact ltS_total h3 h2
  · rw [if_neg h1] at h2; rw [if_neg fun z => h1 z.symm]; exact ltS_total h1 h2
def leD (p q : Ed) : Bool := PySem.W.dataLe false (fun p : Ed => encE p.2) p q
theorem leD_eq (p q : Ed) : leD p q = !ltE q.2 p.2 := by
  show (!PySem.W.dataLt (encE q.2) (encE p.2)) = _
  rw [dataLt_E]
theorem leD_total : PySem.W.TotalLe leD := by
  show PySem.W.TotalLe (PySem.W.dataLe false fun p : Ed => encE p.2)
  exact PySem.W.sortLe_total _ _ _
/-- the edges in ascending order -/
def sortE (ks : List Ed) : List Ed := ks.mergeSort leD
theorem sortE_perm (ks : List Ed) : (sortE ks).Perm ks := List.mergeSort_perm ks leD
theorem sortE_lt {ks : List Ed} (nd : (ks.map (·.2)).Nodup) : (sortE ks).Pairwise (fun p q => ltE p.2 q.2 = true) := by
  have h1 := PySem.W.sort_pairwise leD_total ks
  have h2 : ((sortE ks).map (·.2)).Nodup := ((sortE_perm ks).map _).nodup_iff.mpr nd
  rw [List.nodup_iff_pairwise_ne, List.pairwise_map] at h2
  refine (h1.and h2).imp fun {p q} ⟨a, b⟩ => ?_
  rw [leD_eq] at a
  have a' : ltE q.2 p.2 = false := by simpa using a
  exact ltE_total (fun z => b z.symm) a'
/-- a sorted arrangement is the one -/
theorem asc_unique : ∀ {l m : List Ed}, l.Perm m → l.Pairwise (fun p q => ltE p.2 q.2 = true) → m.Pairwise (fun p q => ltE p.2 q.2 = true) → l = m
  | [], m, h, _, _ => h.nil_eq
  | p :: l, [], h, _, _ => absurd h.length_eq (by simp)
  | p :: l, q :: m, h, h1, h2 => by
    have e : p = q := by
      by_cases c : p = q
      · exact c
      · have a : p ∈ m := by
          have := h.mem_iff.mp (List.mem_cons_self (a := p) (l := l))
          rcases List.mem_cons.mp this with z | z
          · exact absurd z c
          · exact z
        have b : q ∈ l := by
          have := h.mem_iff.mpr (List.mem_cons_self (a := q) (l := m))
          rcases List.mem_cons.mp this with z | z
          · exact absurd z.symm c
          · exact z
        have u := (List.pairwise_cons.mp h1).1 q b
        have v := (List.pairwise_cons.mp h2).1 p a
        rw [ltE_asymm u] at v; cases v
    subst e
    rw [asc_unique (List.Perm.cons_inv h) (List.pairwise_cons.mp h1).2 (List.pairwise_cons.mp h2).2]
section
variable {X : Cx}
def rSortE : List V → Hp → VK → Prop := fun vs H Q => ∃ (a : Addr) (ks : List Ed), vs = [V.ref a] ∧ H a = some (.lst (ks.map fun p => V.ref p.1)) ∧ (∀ p ∈ ks, EdAt H p) ∧ ks.length < 1000 ∧
  ∀ p, H p = none → Q (.ref p) (L2.upd H p (.lst ((sortE ks).map fun p => V.ref p.1)))
theorem each_refs : ∀ {ks : List Ed} {us : List Value}, PySem.W.EachIs (fun v (p : Ed) => v = Value.ref p.1) us ks → us = ks.map fun p => Value.ref p.1
  | [], _, .nil => rfl
  | p :: ks, _, .cons h t => by rw [h, each_refs t]; rfl
theorem refs_each : ∀ ks : List Ed, PySem.W.EachIs (fun v (p : Ed) => v = Value.ref p.1) (ks.map fun p => Value.ref p.1) ks
  | [] => .nil
  | p :: ks => .cons rfl (refs_each ks)
theorem vals_refs : ∀ ks : List Ed, Vals (ks.map fun p => V.ref p.1) (ks.map fun p => Value.ref p.1)
  | [] => .nil
  | p :: ks => .cons rfl (vals_refs ks)
theorem dp_edge {K : PySem.W.Frag} {H : Hp} {p : Ed} (h : EdAt H p) : Dp K H (.ref p.1) (encE p.2) := .tup (SqT.of h) (.cons (.str _) (.cons (.str _) .nil))
theorem reads_each {pins : List (Addr × Obj)} {σ : L2.St} {H : Hp} {s : Shared} (I : L2.Inv X pins σ H s) : ∀ {ks : List Ed}, (∀ p ∈ ks, EdAt H p) → PySem.W.EachIs (fun v (p : Ed) => ∃ as, Reads s.heap v (encE p.2) as) (ks.map fun p => Value.ref p.1) ks
  | [], _ => .nil
  | p :: ks, h => .cons (Dp.reads I _ _ _ (dp_edge (h p List.mem_cons_self)) rfl) (reads_each I fun q hq => h q (List.mem_cons_of_mem _ hq))
theorem cr_sortE (hu : X.A.units + 64 < cLine) : CallR X (.builtin "sorted") rSortE := by
  intro pins s σ H vs us Q I r h
  obtain ⟨a, ks, rfl, hA, hat, few, k⟩ := h
  obtain ⟨its, rv, pl, _⟩ := I.list (SqL.of hA)
  rw [Vals.ref1 r]
  have ei := refs_only (κ := Str × Str) rv
  subst ei
  refine PySem.W.sorted_data (β := Ed) (R := fun v p => v = Value.ref p.1) (enc := fun p => encE p.2) pl.isList (refs_each ks) (reads_each I hat) (PySem.W.AllAlike.of fun b b' => by simp [encE, PySem.W.alike, PySem.W.alikeAll]) (PySem.W.Sortable.tuples fun b => ⟨_, _, rfl⟩) (by rw [sizeLine_eq]; omega)
    (fun b _ => by simp [encE, PyData.depth, PyData.depthAll]; omega) fun out hl e => ?_
  have eo : out = (sortE ks).map fun p => Value.ref p.1 := each_refs e
  subst eo
  obtain ⟨ep, he⟩ := PyProof.Rows.sortedAll_at s.heap (ks.map fun p => Value.ref p.1) ((sortE ks).map fun p => Value.ref p.1).toArray
  have len : ((sortE ks).map fun p => V.ref p.1).length ≤ sizeLine := by rw [List.length_map, (sortE_perm ks).length_eq, sizeLine_eq]; omega
  exact ⟨.ref _, L2.upd H (s.heap.objs.size + 1) (.lst ((sortE ks).map fun p => V.ref p.1)), I.laid (t' := s.toks) (fun _ _ => PyProof.Rows.sortedAll_old) (Nat.le_succ _) ⟨len, _, ep, vals_refs _, he⟩, rfl, k _ (I.hok.fresh (Nat.le_succ _))⟩
def rLtE : R2 := fun x y H Q => ∃ p q : Ed, x = .ref p.1 ∧ y = .ref q.1 ∧ EdAt H p ∧ EdAt H q ∧ Q (.bl (ltE p.2 q.2)) H
theorem op_ltE (hu : X.A.units + 64 < cLine) : OpR X (compareOp .Lt) rLtE := by
  intro pins s σ H x y v u Q I rx ry h
  obtain ⟨p, q, rfl, rfl, hp, hq, k⟩ := h
  obtain ⟨as, r1⟩ := Dp.reads I (encE p.2) _ v (dp_edge hp) rx
  obtain ⟨bs, r2⟩ := Dp.reads I (encE q.2) _ u (dp_edge hq) ry
  have c := PySem.W.rcLt_alike (encE p.2) (encE q.2) X.A s v u as bs r1 r2 (by simp [encE, PySem.W.alike, PySem.W.alikeAll]) (by simp [encE]) (by simp [encE, PyData.depth, PyData.depthAll]; omega)
  rw [dataLt_E] at c
  exact c _ _ _ _ ⟨.bl _, H, I, rfl, k⟩
end
end CP
namespace CP
open PySem L2
open AutoSeq1 (wpAny_loadPart')
/-! ### enumerate(t), t a tuple -/
theorem new_enumT (l : Addr) (items : Array Value) (n : Nat) (dct : Option Addr) (sl : Array (Option Value)) :
    Meets (Builtin.«enumerate.__new__» ⟨[.type "enumerate", .ref l], []⟩) (fun _ R s => s.heap.get? l = some { cls := .type "tuple", dict := dct, data := .seq items n, slots := sl } ∧
      R (.ok (.ret (.ref (s.heap.push { cls := .type "tuple_iterator", data := .fields #[.ref l, .int 0 0] }).objs.size)))
        { s with heap := (s.heap.push { cls := .type "tuple_iterator", data := .fields #[.ref l, .int 0 0] }).push { cls := .type "enumerate", data := .fields #[.none, .bool false, .ref s.heap.objs.size, rawInt 0, .none, .none] } }) :=
  .of_wp fun prog w A R s h => by
    obtain ⟨hp, g, d, tk, os⟩ := s; obtain ⟨hl, h⟩ := h
    have m1 := sub_enumerate
    have hT : Heap.IsTuple (Shared.heap ⟨hp, g, d, tk, os⟩) l items := ⟨_, hl, rfl, n, rfl⟩
    wp_walk using wpAny_loadPart' hl
    refine wpAny_stack_any fun st => wpAny_pure ?_
    split
    · rename_i c _ _ _ _ _
      cases (c == Value.type "enumerate") <;> (wp_walk using wpAny_loadPart' hl, wpAny_pyIter_tuple hT; exact ⟨_, rfl, h⟩)
    · wp_walk using wpAny_loadPart' hl, wpAny_pyIter_tuple hT
      exact ⟨_, rfl, h⟩
section
variable {prog : Program} {w : World} {A : Around} {E : Value → Shared → Prop} {s : Shared}
abbrev tupIt (l : Addr) : Obj := { cls := .type "tuple_iterator", data := .fields #[.ref l, .int 0 0] }
abbrev enumOb (it : Addr) : Obj := { cls := .type "enumerate", data := .fields #[.none, .bool false, .ref it, rawInt 0, .none, .none] }
theorem call_enumT {l : Addr} {items : Array Value} {Q : Value → Shared → Prop} (hT : s.heap.IsTuple l items)
    (h : ∀ h', IsEnum h' (s.heap.objs.size + 1) s.heap.objs.size 0 .none → h'.IsTupleIter s.heap.objs.size l 0 → (∀ b o, s.heap.get? b = some o → h'.get? b = some o) → Q (.ref (s.heap.objs.size + 1)) { s with heap := h' }) :
    wpAny (model prog w) A (call (.type "enumerate") [.ref l]) Q E s := by
  obtain ⟨⟨c, dct, dt, sl⟩, hl, hc, n, hd⟩ := hT
  simp only at hc hd
  subst hc hd
  refine callType_new F.called_enumerate (by decide) (F.typeCall_enumerate_1 _) (F.newCall_enumerate_1 _) (fun obj => F.args_object_init_2 obj _) F.entry_enumerate_new (new_enumT l items n dct sl) ⟨hl, ?_⟩
  have hz : (s.heap.push (tupIt l)).objs.size = s.heap.objs.size + 1 := Heap.size_push ..
  show _ ∧ _
  rw [hz]
  have he : IsEnum ((s.heap.push (tupIt l)).push (enumOb s.heap.objs.size)) (s.heap.objs.size + 1) s.heap.objs.size 0 .none := by
    have q := Heap.get?_push_size (s.heap.push (tupIt l)) (o := enumOb s.heap.objs.size) rfl
    rw [hz] at q; exact q
  exact ⟨⟨_, he, rfl⟩, h _ he ⟨_, Heap.get?_push_of_some _ (Heap.get?_push_size _ rfl), rfl, rfl⟩ fun b o x => Heap.get?_push_of_some _ (Heap.get?_push_of_some _ x)⟩
end
def ItT (K : PySem.W.Frag) (a : Addr) : It :=
  ⟨fun i H => ∃ (xs : List V) (x : V), SqT K H a xs ∧ xs[i]? = some x, fun i H v H' => ∃ T x, v = .ref T ∧ H T = none ∧ H' = L2.upd H T (.tup [.int (i : Nat), x]) ∧ ∀ xs, SqT K H a xs → xs[i]? = some x, fun i H => ∃ xs : List V, SqT K H a xs ∧ xs.length = i⟩
theorem walk_enumT {K : PySem.W.Frag} {a : Addr} {xs : List V} : Walk (ItT K a) xs.length (fun H => SqT K H a xs) (YPair (fun i => some (.int (i : Nat))) (fun i => xs[i]?)) := by
  refine ⟨fun i _ hi q => ⟨xs, xs[i], q, by simp [hi]⟩, fun _ q => ⟨xs, q, rfl⟩, fun i H v H' _ q y => ?_⟩
  obtain ⟨T, x, h1, h2, h3, h4⟩ := y
  exact ⟨T, _, x, h1, h2, h3, rfl, h4 xs q⟩
theorem turn_enumT {P : Program} {w : World} {K : PySem.W.Frag} {elts : List Expr} {kk : Nat} {tpos : Pos} (a e it : Addr) :
    Turn P w K (.Tuple elts kk tpos) (ItT K a) [e, it] e (fun i h => (∃ old, IsEnum h e it ((i : Nat) : Int) old) ∧ h.IsTupleIter it a i ∧ e ≠ it) where
  mem := by simp
  obj := fun i h ⟨⟨old, he⟩, ⟨o, ho, hc, hd⟩, _⟩ b hb => by
    rcases (show b = e ∨ b = it by simpa using hb) with rfl | rfl
    · exact ⟨_, he, fun v q => nomatch q⟩
    · exact ⟨o, ho, fun v q => by rw [hd] at q; cases q⟩
  keep := fun i h h' ⟨⟨old, he⟩, hi, hne⟩ k => ⟨⟨old, k e (by simp) _ he⟩, hi.at fun o q => k it (by simp) o q, hne⟩
  item := by
    intro X hP hw hK hc i pins s σ H E I hf ⟨⟨old, he⟩, hit, hne⟩ ⟨xs, x, hq, hx⟩
    subst hP hw hK
    obtain ⟨its, rv, p, hz⟩ := I.tuple hq
    obtain ⟨u, hu, ru⟩ := rv.get hx
    have hel : e < s.heap.objs.size := Heap.lt_size he
    have hil : it < s.heap.objs.size := by obtain ⟨_, q, _⟩ := hit; exact Heap.lt_size q
    have ea : e ≠ a := fun z => by
      obtain ⟨o, ho, hc2, _⟩ := p
      rw [← z, he] at ho; cases ho; injection hc2 with hc2; exact absurd hc2 (by decide)
    have ia : a ≠ it := fun z => by
      obtain ⟨o, ho, hc2, _⟩ := p
      obtain ⟨o2, ho2, hc3, _⟩ := hit
      rw [z, ho2] at ho; cases ho; rw [hc3] at hc2; injection hc2 with hc2; exact absurd hc2 (by decide)
    have hiu : its.toArray[i]? = some u := by simpa using hu
    have li : i < its.toArray.size := (Array.getElem?_eq_some_iff.mp hiu).1
    refine wpAny_pyNext_enum_itemD (Draws.tuple (A := X.A.in1) (by simp [I.ok.hd hc]) it a ia its.toArray) he ⟨hit, p⟩ li hne (by simp [hne, ea]) fun x' h' tk px ho st' hT hsz hk => ?_
    obtain rfl : x' = u := Option.some.inj (px.symm.trans hiu)
    refine ⟨_, rfl, wpAny_letOwnedTupleGo_enum (s := { s with heap := h', toks := tk + 1 }) ho fun h'' he' sb => ?_⟩
    have hT2 : h''.get? s.heap.objs.size = some { cls := .type "tuple", data := .seq #[.int i tk, x'] } := (sb.2 _ (Nat.ne_of_gt hel)).trans hT
    have new : ObjOk X.prog X.w (L2.upd H s.heap.objs.size (.tup [.int (i : Nat), x])) h'' s.heap.objs.size (.tup [.int (i : Nat), x]) :=
      ⟨by show 2 ≤ sizeLine; decide, [.int i tk, x'], .cons ⟨_, rfl⟩ (.cons ru .nil), ⟨_, hT2, rfl, _, rfl⟩⟩
    have I1 : L2.Inv X pins σ (L2.upd H s.heap.objs.size (.tup [.int (i : Nat), x])) { s with heap := h'', toks := tk + 1 } :=
      I.turnedNew (ch := [e, it]) (fun b ob hb q => (sb.2 b (fun z => hb (by simp [z]))).trans (hk b ob (fun z => hb (by simp [z])) (fun z => hb (by simp [z])) q)) hf (Nat.le_refl _) new
    refine ⟨.ref s.heap.objs.size, _, I1, rfl, ⟨_, x, rfl, I.hok.fresh (Nat.le_refl _), rfl, fun ys hy => by rw [I.tuple_inj hy hq]; exact hx⟩, ⟨⟨x', ?_⟩, st'.1.at fun o q => (sb.2 it (Ne.symm hne)).trans q, hne⟩, fun b hb => ?_⟩
    · rw [show ((i + 1 : Nat) : Int) = (i : Int) + 1 by omega]; exact he'
    · have hb' : b < s.heap.objs.size := by
        rcases (show b = e ∨ b = it by simpa using hb) with rfl | rfl
        · exact hel
        · exact hil
      rw [upd_ne (Nat.ne_of_lt hb')]
      exact (hf b hb).1
  done := by
    intro X hP hw hK hc i pins s σ H E I hf ⟨⟨old, he⟩, hit, hne⟩ ⟨xs, hq, hx⟩
    subst hP hw hK
    obtain ⟨its, rv, p, hz⟩ := I.tuple hq
    obtain ⟨f0, f1, f2, f3, f4, f5⟩ := hf it (by simp)
    have hl := rv.length
    have ia : a ≠ it := fun z => by
      obtain ⟨o, ho, hc2, _⟩ := p
      obtain ⟨o2, ho2, hc3, _⟩ := hit
      rw [z, ho2] at ho; cases ho; rw [hc3] at hc2; injection hc2 with hc2; exact absurd hc2 (by decide)
    have ei : i = its.toArray.size := by rw [List.size_toArray]; omega
    rw [ei] at hit
    exact wpAny_pyNext_enum_endD (Draws.tuple (A := X.A.in1) (by simp [I.ok.hd hc]) it a ia its.toArray) he ⟨hit, p⟩ fun h' eb => ⟨rfl, I.turned (t' := s.toks) (fun b o hb q => eb b o hb q) f0 f1 f3 f4 f5⟩
  self := fun A i s Q E ⟨⟨_, he⟩, _⟩ h => wpAny_pyIter_enum he h
def iEnumT (K : PySem.W.Frag) (ta : TA) : TI := fun σ H R => ta σ H fun vs H1 => ∃ a xs, vs = [.ref a] ∧ SqT K H1 a xs ∧ R (ItT K a) H1
theorem pi_enumT {X : Cx} {e : Expr} {ta : TA} {p pos tpos : Pos} {elts : List Expr} {kk : Nat} (hg : Gl X "enumerate") (hm : X.mg "enumerate" = none) (ha : PA X [e] ta) (hs : starEach [e] X.env = [(false, eval e X.env)] := by rfl) :
    PI X (.Tuple elts kk tpos) (.Call (.Name "enumerate" p) [e] [] pos) (iEnumT X.K ta) := by
  refine ⟨fun pins s σ H R I h => ?_⟩
  refine PyProof.Rows.Call_ (ld_blt I hg hm PyProof.Rows.boot_enumerate (PyProof.Rows.callWith_type1 (thn (ha.run pos pins s σ H _ I h) fun us s1 ⟨vs, H1, I1, r1, a, xs, ex, hq, q⟩ => ?_) hs rfl))
  subst ex
  rw [Vals.ref1 r1]
  obtain ⟨its, rv, p', hz⟩ := I1.tuple hq
  refine call_enumT (items := its.toArray) p' fun h' he hit hk => wpAny_pyIter_enum he ?_
  have I2 : L2.Inv X pins σ H1 { s1 with heap := h' } := I1.kept (t' := s1.toks) hk
  refine ⟨s1.heap.objs.size + 1, [s1.heap.objs.size + 1, s1.heap.objs.size], _, _, H1, rfl, I2, turn_enumT a (s1.heap.objs.size + 1) s1.heap.objs.size, ⟨⟨.none, he⟩, hit, Nat.succ_ne_self _⟩, fun b hb => ?_, q⟩
  have hle : s1.heap.objs.size ≤ b := by
    rcases (show b = s1.heap.objs.size + 1 ∨ b = s1.heap.objs.size by simpa using hb) with z | z
    · rw [z]; exact Nat.le_add_right _ _
    · rw [z]; exact Nat.le_refl _
  exact I1.fpOk hle (I1.hok.fresh hle)
end CP
namespace CP
open PySem L2
/-! ### a Graph: its two fields -/
theorem ve : ¬ (("vertices" : Str) = "edges") := by decide +kernel
def gf (a b : Addr) : List (Str × V) := putF "edges" (.ref b) (putF "vertices" (.ref a) [])
theorem gf_eq (a b : Addr) : gf a b = ([("vertices", V.ref a), ("edges", V.ref b)] : List (Str × V)) := by
  show (if ("vertices" : Str) = "edges" then [(("vertices" : Str), V.ref b)] else (("vertices" : Str), V.ref a) :: putF "edges" (V.ref b) []) = _
  rw [if_neg ve]
  all_goals rfl
theorem gf_v (a b : Addr) : (gf a b).lookup ("vertices" : Str) = some (.ref a) := by
  unfold gf; rw [lookup_putF, if_neg ve, lookup_putF, if_pos rfl]
theorem gf_e (a b : Addr) : (gf a b).lookup ("edges" : Str) = some (.ref b) := by
  unfold gf; rw [lookup_putF, if_pos rfl]
/-- at g a Graph of the class C with these names and these edges -/
structure GrAt (C : Addr) (H : Hp) (g : Addr) (ns : List Str) (es : List Ed) : Prop where
  ob : ∃ dx t1 t2, H g = some (.ins C dx (gf t1 t2)) ∧ H t1 = some (.tup (ns.map V.str)) ∧ H t2 = some (.tup (es.map fun p => V.ref p.1))
  ed : ∀ p ∈ es, EdAt H p
theorem GrAt.same {C : Addr} {H H' : Hp} {g : Addr} {ns : List Str} {es : List Ed} (G : GrAt C H g ns es) (s : Same H H') : GrAt C H' g ns es := by
  obtain ⟨⟨dx, t1, t2, a, b, c⟩, e⟩ := G
  exact ⟨⟨dx, t1, t2, s _ _ a, s _ _ b, s _ _ c⟩, fun p hp => s _ _ (e p hp)⟩
structure ArgsOk (H : Hp) (a b : Addr) (ns : List Str) (ks : List Ed) : Prop where
  na : H a = some (.lst (ns.map V.str))
  n0 : 0 < ns.length
  n8 : ns.length ≤ 8
  nd : ns.Nodup
  nm : ∀ z ∈ ns, NameOk z
  ea : H b = some (.lst (ks.map fun p => V.ref p.1))
  ed : ∀ p ∈ ks, EdAt H p
  eo : ∀ p ∈ ks, EdOk ns p.2
  en : (ks.map (·.2)).Nodup
  el : ks.length ≤ 18
def spInit (C : Addr) : Sp := fun vs H Q _ => ∃ (g dx a b : Addr) (ns : List Str) (ks : List Ed), vs = [.ref g, .ref a, .ref b] ∧ H g = some (.ins C dx []) ∧ ArgsOk H a b ns ks ∧
  ∀ H', GrAt C H' g ns (sortE ks) → (∀ c o, c ≠ g → H c = some o → H' c = some o) → Q .non H'
structure GTxt (K : PySem.W.Frag) (mg : Str → Option Value) (C : Addr) : Prop where
  cl : Cls K C
  nV : NoAttr K C "vertices"
  nE : NoAttr K C "edges"
  mg : mg "Graph" = some (.ref C)
section
variable {P : Program} {w : World} {K : PySem.W.Frag} {mg : Str → Option Value} {base : Heap}
theorem scInit : FnScope ["self", "vertices", "edges"] ["self", "vertices", "edges"] (defScope sInit) := ⟨rfl, rfl, rfl, by decide +kernel, rfl, by decide +kernel, by decide +kernel⟩
theorem ok_init {f fV fE C : Addr} {fd fdV fdE : FuncData} (F : Fun K "__init__" "Graph.__init__" sInit f fd) (T : GTxt K mg C) (mt : mg "tuple" = none) (ms : mg "sorted" = none)
    (mV : mg "are_vertices" = some (.ref fV)) (FV : FnOk P w K mg base CX0 2 fV fdV ["value"] spVerts) (kV : PySem.W.keepIn K (.ref fV) = true) (bV : Binds K fdV ["value"] [])
    (mE : mg "are_edges" = some (.ref fE)) (FE : FnOk P w K mg base CX0 3 fE fdE ["vertices", "value"] spEdges) (kE : PySem.W.keepIn K (.ref fE) = true) (bE : Binds K fdE ["vertices", "value"] []) :
    FnOk P w K mg base CX0 4 f fd ["self", "vertices", "edges"] (spInit C) := by
  refine F.ok scInit (fun vs H Q E h => ?_) (fun cdv A outer s H vs Q E hr h => ?_)
  · obtain ⟨g, dx, a, b, ns, ks, rfl, _⟩ := h; rfl
  · obtain ⟨g, dx, a, b, ns, ks, rfl, hg, ⟨na, n0, n8, nd, nm, ea, ed, eo, en, el⟩, k⟩ := h
    have hr2 : Room 2 _ := hr.mono (by decide)
    refine ⟨_, pss_cons (ps_if (pt_not (pt_val (pe_call FV hr2 rfl mV kV bV .nil pass0 (pa_cons (pv 1) pa_nil)))) pss_never pss_nil)
      (pss_cons (ps_if (pt_not (pt_val (pe_call FE hr rfl mE kE bE .nil pass0 (pa_cons (pv 1) (pa_cons (pv 2) pa_nil))))) pss_never pss_nil)
      (pss_cons (ps_fld (pv 0) (pe_callTy call_tuple_of (by rfl) mt (by decide +kernel) (pa_cons (pv 1) pa_nil)) rfl)
      (pss_one (ps_fld (pv 0) (pe_callTy call_tuple_of (by rfl) mt (by decide +kernel) (pa_cons (pe_callB (cr_sortE hr.units) (by rfl) ms (by decide +kernel) (pa_cons (pv 2) pa_nil)) pa_nil)) rfl)))), ?_⟩
    refine ⟨_, rfl, a, ns, rfl, na, n0, n8, nd, nm, fun H1 s1 => ⟨_, rfl, iteF ?_⟩⟩
    refine ⟨_, rfl, _, rfl, a, b, ns, ks, rfl, s1 _ _ na, s1 _ _ ea, fun p hp => s1 _ _ (ed p hp), eo, en, el, fun H2 s2 => ⟨_, rfl, iteF ?_⟩⟩
    have s12 := s1.trans s2
    refine ⟨_, rfl, a, _, rfl, .inl ⟨SqL.of (s12 _ _ na), fun t1 h1 => ?_⟩⟩
    have g2 := s12 _ _ hg
    have gt1 : g ≠ t1 := ne_of_none g2 h1
    refine ⟨_, rfl, g, C, dx, [], rfl, by rw [upd_ne gt1]; exact g2, T.cl, T.nV, by decide, ?_⟩
    have old : ∀ {c : Addr} {o : HO}, c ≠ g → H c = some o → L2.upd (L2.upd H2 t1 (.tup (ns.map V.str))) g (.ins C dx (putF "vertices" (.ref t1) [])) c = some o := fun n e => by
      rw [upd_ne n, upd_ne (ne_of_none (s12 _ _ e) h1)]; exact s12 _ _ e
    have nin : ∀ {c : Addr} {xs : List V}, H c = some (.lst xs) → c ≠ g := fun e => ne_of e hg (fun z => by cases z)
    have nit : ∀ {c : Addr} {xs : List V}, H c = some (.tup xs) → c ≠ g := fun e => ne_of e hg (fun z => by cases z)
    refine ⟨_, rfl, b, ks, rfl, old (nin ea) ea, fun p hp => old (nit (ed p hp)) (ed p hp), by omega, fun l hl => ?_⟩
    refine ⟨l, _, rfl, .inl ⟨SqL.of upd_same, fun t2 h2 => ?_⟩⟩
    have gl : g ≠ l := ne_of_none (upd_same (H := L2.upd H2 t1 (.tup (ns.map V.str))) (a := g)) hl
    have gt2 : g ≠ t2 := ne_of_none (show L2.upd _ l _ g = some _ by rw [upd_ne gl]; exact upd_same) h2
    have lt2 : l ≠ t2 := ne_of_none upd_same h2
    refine ⟨_, rfl, g, C, dx, _, rfl, by rw [upd_ne gt2, upd_ne gl]; exact upd_same, T.cl, T.nE, (by show 1 < 1000; decide), ?_⟩
    have t1a : L2.upd (L2.upd H2 t1 (.tup (ns.map V.str))) g (.ins C dx (putF "vertices" (.ref t1) [])) t1 = some (.tup (ns.map V.str)) := by rw [upd_ne gt1.symm]; exact upd_same
    have t1l : t1 ≠ l := ne_of_none t1a hl
    have t1t2 : t1 ≠ t2 := ne_of_none (show L2.upd _ l _ t1 = some _ by rw [upd_ne t1l]; exact t1a) h2
    have all : ∀ {c : Addr} {o : HO}, c ≠ g → H c = some o → L2.upd (L2.upd (L2.upd (L2.upd (L2.upd H2 t1 (.tup (ns.map V.str))) g (.ins C dx (putF "vertices" (.ref t1) []))) l (.lst ((sortE ks).map fun p => V.ref p.1))) t2 (.tup ((sortE ks).map fun p => V.ref p.1))) g (.ins C dx (putF "edges" (.ref t2) (putF "vertices" (.ref t1) []))) c = some o := fun {c o} n e => by
      have o1 := old n e
      have o2 : L2.upd (L2.upd (L2.upd H2 t1 (.tup (ns.map V.str))) g (.ins C dx (putF "vertices" (.ref t1) []))) l (.lst ((sortE ks).map fun p => V.ref p.1)) c = some o := by rw [upd_ne (ne_of_none o1 hl)]; exact o1
      rw [upd_ne n, upd_ne (ne_of_none o2 h2)]; exact o2
    refine k _ ⟨⟨dx, t1, t2, upd_same, ?_, ?_⟩, fun p hp => all (nit (ed p ((sortE_perm ks).mem_iff.mp hp))) (ed p ((sortE_perm ks).mem_iff.mp hp))⟩ fun c o n e => all n e
    · rw [upd_ne gt1.symm, upd_ne t1t2, upd_ne t1l, upd_ne gt1.symm]; exact upd_same
    · rw [upd_ne gt2.symm]; exact upd_same
end
end CP
namespace CP
open PySem L2
abbrev E2 := Str × Str
/-- no common end -/
def apB (e f : E2) : Bool := decide (e.1 ≠ f.1 ∧ e.1 ≠ f.2 ∧ e.2 ≠ f.1 ∧ e.2 ≠ f.2)
/-- the pairs of the i-th edge and the later ones -/
def rowP (es : List E2) (i : Nat) : List (E2 × E2) := match es[i]? with
  | none => []
  | some e => ((es.drop (i + 1)).filter (apB e)).map fun f => (e, f)
/-- the rows of the first n edges -/
def upTo (r : Nat → List (E2 × E2)) : Nat → List (E2 × E2)
  | 0 => []
  | n + 1 => upTo r n ++ r n
def pairsOf (es : List E2) : List (E2 × E2) := upTo (rowP es) es.length
/-- a pair as a tracked tuple of two tracked edges -/
abbrev Pr := Addr × (Ed × Ed)
structure PrAt (H : Hp) (q : Pr) : Prop where
  ob : H q.1 = some (.tup [.ref q.2.1.1, .ref q.2.2.1])
  one : EdAt H q.2.1
  two : EdAt H q.2.2
theorem PrAt.same {H H' : Hp} {q : Pr} (h : PrAt H q) (s : Same H H') : PrAt H' q := ⟨s _ _ h.ob, s _ _ h.one, s _ _ h.two⟩
def prV (q : Pr) : E2 × E2 := (q.2.1.2, q.2.2.2)
/-- at l a list of pairs worth ps -/
def PrsAt (H : Hp) (l : Addr) (ps : List (E2 × E2)) : Prop := ∃ qs : List Pr, H l = some (.lst (qs.map fun q => V.ref q.1)) ∧ (∀ q ∈ qs, PrAt H q) ∧ qs.map prV = ps
theorem PrsAt.nil {H : Hp} {l : Addr} (h : H l = some (.lst [])) : PrsAt H l [] := ⟨[], h, (fun _ z => nomatch z), rfl⟩
/-- the list at l is the one thing that may have changed -/
theorem PrsAt.kept {H H' : Hp} {l : Addr} {ps : List (E2 × E2)} (h : PrsAt H l ps) (s : Same H H') : PrsAt H' l ps := by
  obtain ⟨qs, a, b, c⟩ := h
  exact ⟨qs, s _ _ a, fun q hq => (b q hq).same s, c⟩
theorem EdAt.keepL {H : Hp} {l : Addr} {xs : List V} {o : HO} {p : Ed} (hl : H l = some (.lst xs)) (h : EdAt H p) : EdAt (L2.upd H l o) p := by
  unfold EdAt; rw [upd_ne (ne_of h hl (fun z => by cases z))]; exact h
theorem PrAt.keepL {H : Hp} {l : Addr} {xs : List V} {o : HO} {q : Pr} (hl : H l = some (.lst xs)) (h : PrAt H q) : PrAt (L2.upd H l o) q :=
  ⟨by rw [upd_ne (ne_of h.ob hl (fun z => by cases z))]; exact h.ob, h.one.keepL hl, h.two.keepL hl⟩
/-- one more pair: its tuple at t is new -/
theorem PrsAt.push {H : Hp} {l t : Addr} {ps : List (E2 × E2)} {p q : Ed} (h : PrsAt H l ps) (ht : H t = some (.tup [.ref p.1, .ref q.1])) (hp : EdAt H p) (hq : EdAt H q) : ∃ qs : List V, H l = some (.lst qs) ∧ qs.length = ps.length ∧ PrsAt (L2.upd H l (.lst (qs ++ [.ref t]))) l (ps ++ [(p.2, q.2)]) := by
  obtain ⟨qs, a, b, c⟩ := h
  refine ⟨_, a, by rw [List.length_map, ← c, List.length_map], qs ++ [(t, p, q)], ?_, fun r hr => ?_, ?_⟩
  · rw [upd_same, List.map_append]; rfl
  · rcases List.mem_append.mp hr with hr | hr
    · exact (b r hr).keepL a
    · rw [List.mem_singleton.mp hr]; exact PrAt.keepL a ⟨ht, hp, hq⟩
  · rw [List.map_append, c]; rfl
def spPairs (C : Addr) : Sp := fun vs H Q _ => ∃ (g : Addr) (ns : List Str) (es : List Ed), vs = [.ref g] ∧ GrAt C H g ns es ∧ es.length < 1000 ∧
  ∀ l H', H l = none → PrsAt H' l (pairsOf (es.map (·.2))) → Same H H' → Q (.ref l) H'
section
variable {P : Program} {w : World} {K : PySem.W.Frag} {mg : Str → Option Value} {base : Heap}
theorem cut_drop (xs : List V) (i : Nat) : cutV xs (some ((i : Int) + 1)) none = xs.drop (i + 1) := by
  have e : ((i : Int) + 1) = ((i + 1 : Nat) : Int) := by omega
  unfold cutV
  rw [e, HT.sIx_nat, HT.sIx_none]
  by_cases c : i + 1 ≤ xs.length
  · rw [Nat.min_eq_left c, List.take_of_length_le (by rw [List.length_drop]; exact Nat.le_refl _)]
  · rw [Nat.min_eq_right (by omega), List.drop_of_length_le (by omega : xs.length ≤ i + 1), List.drop_length]; simp
theorem row_len (es : List E2) (i : Nat) : (rowP es i).length ≤ es.length := by
  unfold rowP
  cases es[i]? with
  | none => exact Nat.zero_le _
  | some e =>
    show (((es.drop (i + 1)).filter (apB e)).map fun f => (e, f)).length ≤ _
    rw [List.length_map]
    exact Nat.le_trans (List.length_filter_le _ _) (by rw [List.length_drop]; omega)
theorem upTo_len {r : Nat → List (E2 × E2)} {m : Nat} (h : ∀ i, (r i).length ≤ m) : ∀ n, (upTo r n).length ≤ n * m
  | 0 => Nat.zero_le _
  | n + 1 => by
    show (upTo r n ++ r n).length ≤ _
    rw [List.length_append, Nat.succ_mul]
    exact Nat.add_le_add (upTo_len h n) (h n)
theorem scPairs : FnScope ["graph", "found", "at", "one", "other"] ["graph"] (defScope sPairs) := ⟨rfl, rfl, rfl, by decide +kernel, rfl, by decide +kernel, by decide +kernel⟩
theorem ok_pairs {f fA C : Addr} {fd fdA : FuncData} (F : Fun K "pairs" "pairs" sPairs f fd) (T : GTxt K mg C) (me : mg "enumerate" = none)
    (mA : mg "are_apart" = some (.ref fA)) (FA : FnOk P w K mg base CX0 1 fA fdA ["one", "other"] spApart) (kA : PySem.W.keepIn K (.ref fA) = true) (bA : Binds K fdA ["one", "other"] []) :
    FnOk P w K mg base CX0 2 f fd ["graph"] (spPairs C) := by
  refine F.ok scPairs (fun vs H Q E h => ?_) (fun cdv A outer s H vs Q E hr h => ?_)
  · obtain ⟨g, ns, es, rfl, _⟩ := h; rfl
  · obtain ⟨g, ns, es, rfl, G, few, k⟩ := h
    refine ⟨_, pss_cons (ps_set (i := 1) scPairs.nd rfl (Or.inl rfl) (pe_lst pa_nil))
      (pss_cons (ps_for PassesOwn.never rfl (pi_enumT (by rfl) me (pa_cons (pe_fld (pv 0) rfl) pa_nil)) (pg_tup rfl (pgs_cons (pg_name (i := 2) scPairs.nd rfl (Or.inl rfl)) (pgs_cons (pg_name (i := 3) scPairs.nd rfl (Or.inl rfl)) pgs_nil)))
        (pss_one (ps_for PassesOwn.never rfl (pi_tup (pe_slice sl_tup (pe_fld (pv 0) rfl) (po_some (pe_op op_add (pv 2) pe_int)) po_none)) (pg_name (i := 4) scPairs.nd rfl (Or.inl rfl))
          (pss_one (ps_if (pt_val (pe_call FA hr rfl mA kA bA .nil pass0 (pa_cons (pv 3) (pa_cons (pv 4) pa_nil))))
            (pss_one (ps_expr (pe_bm PySem.F.plainAttrs_list PySem.F.slot_list_append PySem.F.type_list_append mt_append (pv 1) (pa_cons (pe_tup (pa_cons (pv 3) (pa_cons (pv 4) pa_nil))) pa_nil)))) pss_nil)))))
      (pss_one (ps_ret (pv 1)))), ?_⟩
    refine ⟨by show 0 ≤ sizeLine; decide, fun l hl => ?_⟩
    have s0 : Same H (L2.upd H l (.lst [])) := Same.new hl
    have G0 := G.same s0
    obtain ⟨⟨dx, t1, t2, g1, g2, g3⟩, ge⟩ := id G
    have gl : ∀ {H' : Hp}, Same H H' → H' g = some (.ins C dx (gf t1 t2)) := fun s => s _ _ g1
    refine ⟨_, rfl, g, C, dx, _, _, rfl, gl s0, T.cl, T.nE, gf_e _ _, t2, _, rfl, SqT.of (s0 _ _ g3), ?_⟩
    refine for_it (walk_enumT (K := K) (a := t2) (xs := es.map fun p => V.ref p.1)) (fun i σ H' => ∃ v2 v3 v4, σ = [some (.ref g), some (.ref l), v2, v3, v4] ∧ Same H H' ∧ PrsAt H' l (upTo (rowP (es.map (·.2))) i))
      ⟨_, _, _, rfl, s0, PrsAt.nil upd_same⟩ (fun i σ H' _ ⟨_, _, _, _, s, _⟩ => SqT.of (s _ _ g3)) ?_ ?_
    · rintro i x σ H1 H2 hi ⟨v2, v3, v4, rfl, s1, R1⟩ ⟨tt, x1, x2, rfl, ht, rfl, e1, e2⟩
      rw [List.length_map] at hi
      obtain rfl : V.int (i : Nat) = x1 := Option.some.inj e1
      dsimp only at e2
      rw [List.getElem?_map, List.getElem?_eq_getElem hi] at e2
      obtain rfl : V.ref es[i].1 = x2 := Option.some.inj e2
      have s2 : Same H1 (L2.upd H1 tt (.tup [.int (i : Nat), .ref es[i].1])) := Same.new ht
      refine ⟨tt, _, rfl, SqT.of upd_same, rfl, _, _, rfl, _, _, rfl, rfl, ?_⟩
      have s12 := s1.trans s2
      refine ⟨_, rfl, g, C, dx, _, _, rfl, gl s12, T.cl, T.nE, gf_e _ _, _, rfl, _, _, rfl, rfl, _, rfl, t2, _, rfl, SqT.of (s12 _ _ g3), ?_, fun ts hts => ?_⟩
      · intro ⟨z, _⟩
        have e : ((i : Int) + 1) = ((i + 1 : Nat) : Int) := by omega
        rw [e, HT.sIx_nat, List.length_map] at z; omega
      rw [cut_drop]
      refine ⟨ts, rfl, ⟨_, SqT.of upd_same⟩, ?_⟩
      have R2 := (R1.kept s2).kept (Same.new (o := .tup ((es.map fun p => V.ref p.1).drop (i + 1))) hts)
      have mi : es[i] ∈ es := List.getElem_mem hi
      refine for_tup (K := K) (a := ts) (xs := (es.map fun p => V.ref p.1).drop (i + 1)) (fun j σ H' => ∃ v4, σ = [some (.ref g), some (.ref l), some (.int (i : Nat)), some (.ref es[i].1), v4] ∧ Same H H' ∧ H' ts = some (.tup ((es.map fun p => V.ref p.1).drop (i + 1))) ∧
        PrsAt H' l (upTo (rowP (es.map (·.2))) i ++ ((((es.map (·.2)).drop (i + 1)).take j).filter (apB es[i].2)).map fun f => (es[i].2, f)))
        ⟨v4, rfl, s12.trans (Same.new hts), upd_same, by simpa using R2⟩ (fun j σ H' _ ⟨_, _, _, q, _⟩ => SqT.of q) ?_ ?_
      · rintro j y σ H3 hj ⟨v4', rfl, s3, q3, R3⟩
        have lj : i + 1 + j < es.length := by
          have := (List.getElem?_eq_some_iff.mp hj).1
          rw [List.length_drop, List.length_map] at this; omega
        rw [List.getElem?_drop, List.getElem?_map, List.getElem?_eq_getElem lj] at hj
        obtain rfl : V.ref es[i + 1 + j].1 = y := Option.some.inj hj
        have mj : es[i + 1 + j] ∈ es := List.getElem_mem lj
        have ei : EdAt H3 es[i] := s3 _ _ (ge _ mi)
        have ej : EdAt H3 es[i + 1 + j] := s3 _ _ (ge _ mj)
        have tk : ((es.map (·.2)).drop (i + 1)).take (j + 1) = ((es.map (·.2)).drop (i + 1)).take j ++ [es[i + 1 + j].2] := by
          refine take_one ?_
          rw [List.getElem?_drop, List.getElem?_map, List.getElem?_eq_getElem lj]; rfl
        refine ⟨_, rfl, _, rfl, es[i].1, es[i + 1 + j].1, _, _, _, _, rfl, ei, ej, _, rfl, ?_⟩
        show if apB es[i].2 es[i + 1 + j].2 = true then _ else _
        by_cases c : apB es[i].2 es[i + 1 + j].2 = true
        · rw [c]
          refine iteT ⟨_, rfl, ?_⟩
          obtain ⟨qs, r1, r2, r3⟩ := id R3
          refine ⟨.inl ⟨rfl, _, SqL.of r1⟩, _, rfl, _, rfl, by show 2 ≤ sizeLine; decide, fun t ht3 => ?_⟩
          have s4 : Same H3 (L2.upd H3 t (.tup [.ref es[i].1, .ref es[i + 1 + j].1])) := Same.new ht3
          obtain ⟨zs, z1, z2, z3⟩ := (R3.kept s4).push (t := t) upd_same (s4 _ _ ei) (s4 _ _ ej)
          have small : zs.length < sizeLine := by
            rw [z2, List.length_append, List.length_map, sizeLine_eq]
            have b1 := upTo_len (m := es.length) (fun i => by have := row_len (es.map (·.2)) i; rw [List.length_map] at this; exact this) i
            have b2 : ((((es.map (·.2)).drop (i + 1)).take j).filter (apB es[i].2)).length ≤ es.length := by
              refine Nat.le_trans (List.length_filter_le _ _) (Nat.le_trans (List.length_take_le' _ _) ?_)
              rw [List.length_drop, List.length_map]; omega
            have b3 : i * es.length ≤ 1000 * 1000 := Nat.mul_le_mul (by omega) (by omega)
            omega
          refine ⟨l, zs, _, rfl, rfl, z1, small, ?_⟩
          refine ⟨_, rfl, Same.grow hl (s3.trans s4), ?_, ?_⟩
          · rw [upd_ne (ne_of q3 r1 (fun z => by cases z))]; exact s4 _ _ q3
          · rw [tk, List.filter_append, List.map_append]
            have e : [es[i + 1 + j].2].filter (apB es[i].2) = [es[i + 1 + j].2] := by simp [c]
            rw [e, ← List.append_assoc]; exact z3
        · have c' : apB es[i].2 es[i + 1 + j].2 = false := by simpa using c
          rw [c']
          refine iteF ⟨_, rfl, s3, q3, ?_⟩
          rw [tk, List.filter_append, List.map_append]
          have e : [es[i + 1 + j].2].filter (apB es[i].2) = [] := by simp [c']
          rw [e]; simpa using R3
      · rintro σ H3 ⟨v4', rfl, s3, q3, R3⟩
        refine ⟨_, _, _, rfl, s3, ?_⟩
        rw [List.take_of_length_le (by simp)] at R3
        have e : rowP (es.map (·.2)) i = (((es.map (·.2)).drop (i + 1)).filter (apB es[i].2)).map fun f => (es[i].2, f) := by
          unfold rowP
          rw [List.getElem?_map, List.getElem?_eq_getElem hi]; rfl
        show PrsAt H3 l (upTo (rowP (es.map (·.2))) i ++ rowP (es.map (·.2)) i)
        rw [e]; exact R3
    · rintro σ H1 ⟨v2, v3, v4, rfl, s1, R1⟩
      rw [List.length_map] at R1
      refine ⟨_, rfl, k l H1 hl ?_ s1⟩
      unfold pairsOf; rw [List.length_map]; exact R1
end
end CP
namespace CP
open PySem L2
theorem perm_map {α β : Type} {f : α → β} {l m : List β} (h : l.Perm m) : ∀ ks : List α, m = ks.map f → ∃ js : List α, js.Perm ks ∧ js.map f = l := by
  induction h with
  | nil => intro ks e; cases ks with | nil => exact ⟨[], .refl _, rfl⟩ | cons _ _ => cases e
  | @cons x l1 l2 _ ih =>
    intro ks e
    cases ks with
    | nil => cases e
    | cons k ks =>
      injection e with e1 e2
      obtain ⟨js, p, q⟩ := ih ks e2
      exact ⟨k :: js, p.cons k, by rw [List.map_cons, q, e1]⟩
  | swap x y l =>
    intro ks e
    match ks, e with
    | a :: b :: ks, e =>
      injection e with e1 e2; injection e2 with e2 e3
      exact ⟨b :: a :: ks, List.Perm.swap _ _ _, by rw [List.map_cons, List.map_cons, e1, e2, e3]⟩
    | [a], e => simp at e
    | [], e => simp at e
  | trans _ _ ih1 ih2 =>
    intro ks e
    obtain ⟨js, p, q⟩ := ih2 ks e
    obtain ⟨is, p2, q2⟩ := ih1 js q.symm
    exact ⟨is, p2.trans p, q2⟩
def base8 : List Str := ["a", "ab", "b", "x", "zzzzzzzz", "node", "k", "c"]
theorem base8_nd : base8.Nodup := by decide +kernel
instance (z : Str) : Decidable (NameOk z) := decidable_of_iff (0 < z.length ∧ z.length ≤ 8 ∧ ∀ c ∈ z.cps.toList, c ∈ letters.cps.toList) ⟨fun ⟨a, b, c⟩ => ⟨a, b, c⟩, fun ⟨a, b, c⟩ => ⟨a, b, c⟩⟩
theorem base8_ok : ∀ z ∈ base8, NameOk z := by decide +kernel
theorem letters_small : ∀ c ∈ letters.cps.toList, c < 0x110000 := by decide +kernel
theorem NameOk.strOk {z : Str} (h : NameOk z) : PyData.strOk z = true := by
  unfold PyData.strOk
  rw [← Array.all_toList, List.all_eq_true]
  intro c hc
  simpa using letters_small c (h.all c hc)
/-- the edges of one name -/
def rowE (ns : List Str) (i : Nat) : List E2 := match ns[i]? with
  | none => []
  | some n => (ns.filter (ltS n)).map fun m => (n, m)
def upE (r : Nat → List E2) : Nat → List E2
  | 0 => []
  | n + 1 => upE r n ++ r n
theorem rowE_mem {ns : List Str} {i : Nat} {e : E2} (h : e ∈ rowE ns i) : ns[i]? = some e.1 ∧ e.2 ∈ ns ∧ ltS e.1 e.2 = true := by
  unfold rowE at h
  cases q : ns[i]? with
  | none => rw [q] at h; cases h
  | some n =>
    rw [q] at h
    obtain ⟨m, hm, rfl⟩ := List.mem_map.mp h
    exact ⟨rfl, (List.mem_filter.mp hm).1, (List.mem_filter.mp hm).2⟩
theorem upE_mem {ns : List Str} : ∀ {n : Nat} {e : E2}, e ∈ upE (rowE ns) n → ∃ i, i < n ∧ e ∈ rowE ns i
  | 0, e, h => nomatch h
  | n + 1, e, h => by
    rcases List.mem_append.mp h with h | h
    · obtain ⟨i, a, b⟩ := upE_mem h; exact ⟨i, by omega, b⟩
    · exact ⟨n, by omega, h⟩
theorem upE_ok {ns : List Str} {n : Nat} {e : E2} (h : e ∈ upE (rowE ns) n) : EdOk ns e := by
  obtain ⟨i, _, h⟩ := upE_mem h
  obtain ⟨a, b, c⟩ := rowE_mem h
  exact ⟨List.mem_of_getElem? a, b, c⟩
theorem nodup_ne {α : Type} {l : List α} (nd : l.Nodup) {i j : Nat} {x : α} (hi : l[i]? = some x) (hj : l[j]? = some x) : i = j := by
  obtain ⟨a, e1⟩ := List.getElem?_eq_some_iff.mp hi
  obtain ⟨b, e2⟩ := List.getElem?_eq_some_iff.mp hj
  rcases Nat.lt_trichotomy i j with c | c | c
  · exact absurd (e1.trans e2.symm) ((List.pairwise_iff_getElem.mp nd) i j a b c)
  · exact c
  · exact absurd (e2.trans e1.symm) ((List.pairwise_iff_getElem.mp nd) j i b a c)
theorem rowE_nd {ns : List Str} (nd : ns.Nodup) (i : Nat) : (rowE ns i).Nodup := by
  unfold rowE
  cases ns[i]? with
  | none => exact List.nodup_nil
  | some n => exact List.Pairwise.map _ (fun x y h e => h (by injection e)) (nd.filter _)
theorem upE_nd {ns : List Str} (nd : ns.Nodup) : ∀ n, (upE (rowE ns) n).Nodup
  | 0 => List.nodup_nil
  | n + 1 => by
    refine List.nodup_append.mpr ⟨upE_nd nd n, rowE_nd nd n, fun x hx y hy e => ?_⟩
    subst e
    obtain ⟨i, hi, h⟩ := upE_mem hx
    have := nodup_ne nd (rowE_mem h).1 (rowE_mem hy).1
    omega
theorem rowE_len (ns : List Str) (i : Nat) : (rowE ns i).length ≤ ns.length := by
  unfold rowE
  cases ns[i]? with
  | none => exact Nat.zero_le _
  | some n => show ((ns.filter (ltS n)).map _).length ≤ _; rw [List.length_map]; exact List.length_filter_le _ _
theorem upE_len {r : Nat → List E2} {m : Nat} (h : ∀ i, (r i).length ≤ m) : ∀ n, (upE r n).length ≤ n * m
  | 0 => Nat.zero_le _
  | n + 1 => by
    show (upE r n ++ r n).length ≤ _
    rw [List.length_append, Nat.succ_mul]
    exact Nat.add_le_add (upE_len h n) (h n)
/-- at l a list of edges worth es -/
def EdsAt (H : Hp) (l : Addr) (es : List E2) : Prop := ∃ ks : List Ed, H l = some (.lst (ks.map fun p => V.ref p.1)) ∧ (∀ p ∈ ks, EdAt H p) ∧ ks.map (·.2) = es
theorem EdsAt.kept {H H' : Hp} {l : Addr} {es : List E2} (h : EdsAt H l es) (s : Same H H') : EdsAt H' l es := by
  obtain ⟨ks, a, b, c⟩ := h
  exact ⟨ks, s _ _ a, fun p hp => s _ _ (b p hp), c⟩
theorem EdsAt.push {H : Hp} {l t : Addr} {es : List E2} {u v : Str} (h : EdsAt H l es) (ht : H t = some (.tup [.str u, .str v])) : ∃ zs : List V, H l = some (.lst zs) ∧ zs.length = es.length ∧ EdsAt (L2.upd H l (.lst (zs ++ [.ref t]))) l (es ++ [(u, v)]) := by
  obtain ⟨ks, a, b, c⟩ := h
  refine ⟨_, a, by rw [List.length_map, ← c, List.length_map], ks ++ [(t, u, v)], ?_, fun p hp => ?_, ?_⟩
  · rw [upd_same, List.map_append]; rfl
  · rcases List.mem_append.mp hp with hp | hp
    · exact (b p hp).keepL a
    · rw [List.mem_singleton.mp hp]; exact EdAt.keepL a ht
  · rw [List.map_append, c]; rfl
/-- l.extend(m) -/
theorem EdsAt.ext {H : Hp} {l m : Addr} {es fs : List E2} (h : EdsAt H l es) (hm : EdsAt H m fs) : ∃ zs ys : List V, H l = some (.lst zs) ∧ H m = some (.lst ys) ∧ zs.length = es.length ∧ ys.length = fs.length ∧ EdsAt (L2.upd H l (.lst (zs ++ ys))) l (es ++ fs) := by
  obtain ⟨ks, a, b, c⟩ := h
  obtain ⟨js, a2, b2, c2⟩ := hm
  refine ⟨_, _, a, a2, by rw [List.length_map, ← c, List.length_map], by rw [List.length_map, ← c2, List.length_map], ks ++ js, ?_, fun p hp => ?_, ?_⟩
  · rw [upd_same, List.map_append]
  · rcases List.mem_append.mp hp with hp | hp
    · exact (b p hp).keepL a
    · exact (b2 p hp).keepL a
  · rw [List.map_append, c, c2]
end CP
namespace CP
open PySem L2
def spGraph : Sp := fun vs H Q _ => ∃ a : Addr, vs = [.ref a, .int 8] ∧ Src H a ∧
  ∀ p n e ns ks H', H' p = some (.tup [.ref n, .ref e]) → ArgsOk H' n e ns ks → H n = none → H e = none → Src H' a → But a H H' → Q (.ref p) H'
theorem cut_take (xs : List V) (m : Int) (h : 0 ≤ m) : cutV xs none (some m) = xs.take m.toNat := by
  obtain ⟨k, rfl⟩ : ∃ k : Nat, m = k := ⟨m.toNat, by omega⟩
  unfold cutV
  rw [HT.sIx_nat, HT.sIx_none, List.drop_zero, Nat.sub_zero, Int.toNat_natCast]
  by_cases c : k ≤ xs.length
  · rw [Nat.min_eq_left c]
  · rw [Nat.min_eq_right (by omega), List.take_length, List.take_of_length_le (by omega)]
theorem But.none {a b : Addr} {H H' : Hp} (B : But a H H') (n : b ≠ a) (h : H' b = none) : H b = none := by
  cases e : H b with
  | none => rfl
  | some o => rw [B b o n e] at h; cases h
theorem Src.but {a : Addr} {H H' : Hp} (S : Src H a) (s : Same H H') : Src H' a := by
  obtain ⟨x, y, z, e⟩ := S; exact ⟨x, y, z, s _ _ e⟩
theorem Src.ne {a b : Addr} {H : Hp} (S : Src H a) (h : H b = none) : b ≠ a := fun e => by
  obtain ⟨x, y, z, q⟩ := S
  rw [e, q] at h; cases h
theorem EdAt.but {a : Addr} {H H' : Hp} {p : Ed} (S : Src H a) (B : But a H H') (h : EdAt H p) : EdAt H' p := by
  obtain ⟨x, y, z, e⟩ := S
  exact B _ _ (ne_of h e (fun z => by cases z)) h
section
variable {P : Program} {w : World} {K : PySem.W.Frag} {mg : Str → Option Value} {base : Heap}
theorem scGraph : FnScope ["_law_source", "_law_most", "_law_names", "_law_edges", "_law_name", "_law_limit", "_law_end"] ["_law_source", "_law_most"] (defScope sGraph) := ⟨rfl, rfl, rfl, by decide +kernel, rfl, by decide +kernel, by decide +kernel⟩
theorem ok_graph {f fN fM fO : Addr} {fd fdN fdM fdO : FuncData} (F : Fun K "_law_graph" "_law_graph" sGraph f fd) (ml : mg "len" = none) (mmin : mg "min" = none)
    (mN : mg "_law_next" = some (.ref fN)) (GN : FnOk P w K mg base CX0 1 fN fdN ["_law_source", "_law_many"] spNext) (kN : PySem.W.keepIn K (.ref fN) = true) (bN : Binds K fdN ["_law_source", "_law_many"] [])
    (mM : mg "_law_mixed" = some (.ref fM)) (GM : FnOk P w K mg base CX0 2 fM fdM ["_law_source", "_law_some"] (spMixed K)) (kM : PySem.W.keepIn K (.ref fM) = true) (bM : Binds K fdM ["_law_source", "_law_some"] [])
    (mO : mg "_law_one" = some (.ref fO)) (GO : FnOk P w K mg base CX0 2 fO fdO ["_law_source", "_law_some"] (spOne K)) (kO : PySem.W.keepIn K (.ref fO) = true) (bO : Binds K fdO ["_law_source", "_law_some"] []) :
    FnOk P w K mg base CX0 3 f fd ["_law_source", "_law_most"] spGraph := by
  refine F.ok scGraph (fun vs H Q E h => ?_) (fun cdv A outer s H vs Q E hr h => ?_)
  · obtain ⟨a, rfl, _⟩ := h; rfl
  · obtain ⟨a, rfl, S0, k⟩ := h
    have hr1 : Room 1 _ := hr.mono (by decide)
    refine ⟨_, pss_cons (ps_set (i := 2) scGraph.nd rfl (Or.inl rfl) (pe_slice sl_list (pe_call GM hr rfl mM kM bM .nil pass0 (pa_cons (pv 0) (pa_cons (pe_lst (pa_cons pe_str (pa_cons pe_str (pa_cons pe_str (pa_cons pe_str (pa_cons pe_str (pa_cons pe_str (pa_cons pe_str (pa_cons pe_str pa_nil))))))))) pa_nil)))
        po_none (po_some (pe_op op_add pe_int (pe_call GN hr1 rfl mN kN bN .nil pass0 (pa_cons (pv 0) (pa_cons (pv 1) pa_nil)))))))
      (pss_cons (ps_set (i := 3) scGraph.nd rfl (Or.inl rfl) (pe_lst pa_nil))
      (pss_cons (ps_for PassesOwn.never rfl (pi_list (pv 2)) (pg_name (i := 4) scGraph.nd rfl (Or.inr rfl))
        (pss_one (ps_expr (pe_bm PySem.F.plainAttrs_list PySem.F.slot_list_extend PySem.F.type_list_extend mt_extend (pv 3) (pa_cons (pe_lc (own := [("_law_end", 6)]) (g := gName 6) rfl scGraph.nd (pi_list (pv 2))
          (blkOk_by (own := [("_law_end", 6)]) (N := ["_law_source", "_law_most", "_law_names", "_law_edges", "_law_name", "_law_limit", "_law_end"]) (sc := defScope sGraph) (by decide +kernel))
          (fun _ _ _ _ _ => pg_name (i := 6) scGraph.nd rfl (Or.inl rfl)) (fun _ _ _ _ _ => pts_one (pt_cmpR op_lt_str (pv 4) (pv 6) (nomark _))) (fun _ _ _ _ _ => pe_tup (pa_cons (pv 4) (pa_cons (pv 6) pa_nil)))) pa_nil)))))
      (pss_cons (ps_set (i := 3) scGraph.nd rfl (Or.inl rfl) (pe_call GM hr rfl mM kM bM .nil pass0 (pa_cons (pv 0) (pa_cons (pv 3) pa_nil))))
      (pss_cons (ps_set (i := 5) scGraph.nd rfl (Or.inl rfl) (pe_call GO hr rfl mO kO bO .nil pass0 (pa_cons (pv 0) (pa_cons (pe_lst (pa_cons pe_int (pa_cons (pe_op op_add (pe_callB call_len_seq (by rfl) ml PySem.boot_len (pa_cons (pv 2) pa_nil)) pe_int)
        (pa_cons (pe_op op_mul pe_int (pe_callB call_len_seq (by rfl) ml PySem.boot_len (pa_cons (pv 2) pa_nil))) (pa_cons (pe_call GN hr1 rfl mN kN bN .nil pass0 (pa_cons (pv 0) (pa_cons (pe_op op_add (pe_callB call_len_seq (by rfl) ml PySem.boot_len (pa_cons (pv 3) pa_nil)) pe_int) pa_nil))) pa_nil))))) pa_nil))))
      (pss_one (ps_ret (pe_tup (pa_cons (pv 2) (pa_cons (pe_slice sl_list (pv 3) po_none (po_some (pe_callB (call_min2 rfl) (by rfl) mmin (by decide +kernel) (pa_cons (pv 5) (pa_cons pe_int pa_nil))))) pa_nil))))))))), ?_⟩
    refine ⟨_, rfl, by show 8 ≤ sizeLine; decide, fun b hb => ?_⟩
    have ba := S0.ne hb
    have s1 : Same H (L2.upd H b (.lst (base8.map V.str))) := Same.new hb
    refine ⟨a, b, base8.map V.str, rfl, S0.but s1, ba.symm, upd_same, fun x hx => ?_, by decide, fun p ys H1 pm hp0 hp1 S1 B1 => ?_⟩
    · obtain ⟨z, hz, rfl⟩ := List.mem_map.mp hx
      exact .inl ⟨z, rfl, (base8_ok z hz).strOk⟩
    obtain ⟨bs, pb, rfl⟩ := perm_map pm base8 rfl
    have B01 : But a H H1 := (But.of_same s1).trans B1
    have pa : p ≠ a := (S0.but s1).ne hp0
    refine ⟨_, rfl, _, rfl, a, 8, rfl, S1, by decide, by decide, fun r H2 r0 r1 S2 B2 => ⟨_, _, rfl, rfl, _, rfl, p, _, rfl, SqL.of (B2 p _ pa hp1), fun n hn => ?_⟩⟩
    have e1 : cutV (bs.map V.str) none (some (1 + r)) = (bs.take (1 + r).toNat).map V.str := by rw [cut_take _ _ (by omega), List.map_take]
    rw [e1]
    generalize hns : bs.take (1 + r).toNat = ns
    have len8 : bs.length = 8 := by rw [pb.length_eq]; rfl
    have nsl : ns.length = (1 + r).toNat := by rw [← hns, List.length_take, len8]; omega
    have n0 : 0 < ns.length := by omega
    have n8 : ns.length ≤ 8 := by omega
    have nsub : ∀ z ∈ ns, z ∈ base8 := fun z hz => pb.mem_iff.mp (List.mem_of_mem_take (hns ▸ hz))
    have nnd : ns.Nodup := by rw [← hns]; exact ((pb.nodup_iff).mpr base8_nd).sublist (List.take_sublist _ _)
    have nok : ∀ z ∈ ns, NameOk z := fun z hz => base8_ok z (nsub z hz)
    have na := S2.ne hn
    have B02 := B01.trans B2
    have n00 : H n = none := B02.none na hn
    refine ⟨by show 0 ≤ sizeLine; decide, fun e he => ?_⟩
    generalize hH3 : L2.upd H2 n (.lst (ns.map V.str)) = H3 at he ⊢
    have s23 : Same H2 H3 := by rw [← hH3]; exact Same.new hn
    have n3 : H3 n = some (.lst (ns.map V.str)) := by rw [← hH3]; exact upd_same
    have S3 := S2.but s23
    have ea := S3.ne he
    have B03 : But a H H3 := B02.trans (But.of_same s23)
    have e00 : H e = none := B03.none ea he
    refine ⟨_, rfl, n, rfl, ⟨_, SqL.of (Same.new he _ _ n3)⟩, for_list (K := K) (a := n) (xs := ns.map V.str) (fun i σ H' => ∃ v4, σ = [some (.ref a), some (.int 8), some (.ref n), some (.ref e), v4, none, none] ∧ Same H3 H' ∧ EdsAt H' e (upE (rowE ns) i))
      ⟨_, rfl, Same.new he, [], upd_same, (fun _ z => nomatch z), rfl⟩ (fun i σ H' _ ⟨_, _, s, _⟩ => SqL.of (s _ _ n3)) ?_ ?_⟩
    · rintro i x σ H4 hi ⟨v4, rfl, s4, R4⟩
      have li : i < ns.length := by have := (List.getElem?_eq_some_iff.mp hi).1; rw [List.length_map] at this; exact this
      rw [List.getElem?_map, List.getElem?_eq_getElem li] at hi
      obtain rfl : V.str ns[i] = x := Option.some.inj hi
      obtain ⟨_, r1, _⟩ := id R4
      refine ⟨_, rfl, .inl ⟨rfl, _, SqL.of r1⟩, _, rfl, n, rfl, ⟨_, SqL.of (s4 _ _ n3)⟩, fun D hD => lc_list (K := K) (a := n) (xs := ns.map V.str) (fun j H' => Same H4 H' ∧ EdsAt H' D (((ns.take j).filter (ltS ns[i])).map fun m => (ns[i], m)))
        ⟨Same.new hD, [], upd_same, (fun _ z => nomatch z), rfl⟩ (fun j H' _ ⟨s, _⟩ => SqL.of (s _ _ (s4 _ _ n3))) ?_ ?_⟩
      · rintro j y H5 hj ⟨s5, R5⟩
        have lj : j < ns.length := by have := (List.getElem?_eq_some_iff.mp hj).1; rw [List.length_map] at this; exact this
        rw [List.getElem?_map, List.getElem?_eq_getElem lj] at hj
        obtain rfl : V.str ns[j] = y := Option.some.inj hj
        have tk : ns.take (j + 1) = ns.take j ++ [ns[j]] := take_one (List.getElem?_eq_getElem lj)
        refine ⟨rfl, _, rfl, _, rfl, _, _, rfl, rfl, _, rfl, ?_⟩
        show if ltS ns[i] ns[j] = true then _ else _
        by_cases c : ltS ns[i] ns[j] = true
        · rw [c]
          refine iteT ⟨_, rfl, _, rfl, by show 2 ≤ sizeLine; decide, fun t ht => ?_⟩
          have s6 : Same H5 (L2.upd H5 t (.tup [.str ns[i], .str ns[j]])) := Same.new ht
          obtain ⟨zs, z1, z2, z3⟩ := (R5.kept s6).push (t := t) upd_same
          refine ⟨zs, z1, ?_, Same.grow hD (s5.trans s6), ?_⟩
          · rw [z2, List.length_map, sizeLine_eq]
            have := List.length_filter_le (ltS ns[i]) (ns.take j)
            rw [List.length_take] at this; omega
          · rw [tk, List.filter_append, List.map_append]
            have q : [ns[j]].filter (ltS ns[i]) = [ns[j]] := by simp [c]
            rw [q]; exact z3
        · have c' : ltS ns[i] ns[j] = false := by simpa using c
          rw [c']
          refine iteF ⟨s5, ?_⟩
          rw [tk, List.filter_append]
          have q : [ns[j]].filter (ltS ns[i]) = [] := by simp [c']
          rw [q, List.append_nil]; exact R5
      · rintro H5 ⟨s5, R5⟩
        rw [List.length_map, List.take_length] at R5
        have er : rowE ns i = (ns.filter (ltS ns[i])).map fun m => (ns[i], m) := by
          unfold rowE; rw [List.getElem?_eq_getElem li]
        rw [← er] at R5
        obtain ⟨zs, ys, z1, z2, z3, z4, z5⟩ := (R4.kept s5).ext R5
        refine ⟨e, D, zs, ys, rfl, rfl, z1, z2, ?_, ?_⟩
        · rw [z3, z4, sizeLine_eq]
          have q1 := upE_len (m := ns.length) (rowE_len ns) i
          have q2 := rowE_len ns i
          have q3 : i * ns.length ≤ 8 * 8 := Nat.mul_le_mul (by omega) n8
          omega
        · exact ⟨_, rfl, Same.grow he (s4.trans s5), z5⟩
    · rintro σ H4 ⟨v4, rfl, s4, ks, k1, k2, k3⟩
      rw [List.length_map] at k3
      have S4 := S3.but s4
      have klen : ks.length ≤ 64 := by
        have q1 := upE_len (m := ns.length) (rowE_len ns) ns.length
        have q3 : ns.length * ns.length ≤ 8 * 8 := Nat.mul_le_mul n8 n8
        have q4 := congrArg List.length k3
        rw [List.length_map] at q4; omega
      have kok : ∀ p ∈ ks, EdOk ns p.2 := fun p hp => upE_ok (n := ns.length) (by rw [← k3]; exact List.mem_map.mpr ⟨p, hp, rfl⟩)
      refine ⟨_, rfl, _, rfl, a, e, _, rfl, S4, ea.symm, k1, fun x hx => ?_, by rw [List.length_map]; omega, fun p2 ys H5 pm2 hp20 hp21 S5 B5 => ?_⟩
      · obtain ⟨p, hp, rfl⟩ := List.mem_map.mp hx
        obtain ⟨o1, o2, _⟩ := kok p hp
        exact .inr ⟨p.1, p.2.1, p.2.2, rfl, k2 p hp, (nok _ o1).strOk, (nok _ o2).strOk⟩
      obtain ⟨js, pj, rfl⟩ := perm_map pm2 ks rfl
      have p2a := S4.ne hp20
      have n4 := s4 _ _ n3
      have n5 := B5 n _ na n4
      have j5 : ∀ p ∈ js, EdAt H5 p := fun p hp => EdAt.but S4 B5 (k2 p (pj.mem_iff.mp hp))
      have jlen : js.length ≤ 64 := by rw [pj.length_eq]; exact klen
      refine ⟨_, rfl, _, rfl, n, _, rfl, .inl (SqL.of n5), _, _, rfl, rfl, _, rfl, n, _, rfl, .inl (SqL.of n5), _, _, rfl, rfl, .inl ⟨by decide, by decide⟩, _, rfl, _, rfl, p2, _, rfl, .inl (SqL.of hp21), _, _, rfl, rfl, a, _, rfl, S5, by omega, by rw [List.length_map]; omega, fun r2 H6 r20 r21 S6 B6 => ?_⟩
      refine ⟨by show 4 ≤ sizeLine; decide, fun q hq => ?_⟩
      have qa := S6.ne hq
      have s67 : Same H6 (L2.upd H6 q (.lst [.int 18, .int ((ns.map V.str).length + 1), .int (2 * (ns.map V.str).length), .int r2])) := Same.new hq
      refine ⟨a, q, _, rfl, S6.but s67, qa.symm, SqL.of upd_same, upd_same, by show 0 < 4; decide, by show 4 < 100000; decide, fun x H7 hx S7 B7 => ?_⟩
      obtain ⟨m, m0, rfl⟩ : ∃ m : Int, 0 ≤ m ∧ x = .int m := by
        simp only [List.mem_cons, List.not_mem_nil, or_false] at hx
        rcases hx with rfl | rfl | rfl | rfl
        · exact ⟨_, by decide, rfl⟩
        · exact ⟨_, by omega, rfl⟩
        · exact ⟨_, by omega, rfl⟩
        · exact ⟨_, r20, rfl⟩
      have B57 : But a H5 H7 := (B6.trans (But.of_same s67)).trans B7
      have p7 := B57 p2 _ p2a hp21
      have n7 := B57 n _ na n5
      refine ⟨_, rfl, _, rfl, _, rfl, _, _, rfl, _, rfl, p2, _, rfl, SqL.of p7, fun e2 he2 => ?_⟩
      have e2a := S7.ne he2
      generalize hm : (if (18 : Int) < m then 18 else m) = m2
      have m20 : 0 ≤ m2 := by rw [← hm]; split <;> omega
      have m18 : m2 ≤ 18 := by rw [← hm]; split <;> omega
      rw [cut_take _ _ m20, ← List.map_take]
      refine ⟨by show 2 ≤ sizeLine; decide, fun t ht => ?_⟩
      have B07 : But a H H7 := (((B03.trans (But.of_same s4)).trans B5).trans B57)
      have s78 : Same H7 (L2.upd H7 e2 (.lst ((js.take m2.toNat).map fun p => V.ref p.1))) := Same.new he2
      have s79 : Same H7 (L2.upd (L2.upd H7 e2 (.lst ((js.take m2.toNat).map fun p => V.ref p.1))) t (.tup [.ref n, .ref e2])) := s78.trans (Same.new ht)
      have jsub : ∀ p ∈ js.take m2.toNat, p ∈ js := fun p hp => List.mem_of_mem_take hp
      refine k t n e2 ns (js.take m2.toNat) _ upd_same ⟨s79 _ _ n7, n0, n8, nnd, nok, ?_, fun p hp => s79 _ _ (EdAt.but S5 B57 (j5 p (jsub p hp))), fun p hp => kok p (pj.mem_iff.mp (jsub p hp)), ?_, ?_⟩ n00 (B07.none e2a he2) (S7.but s79) (B07.trans (But.of_same s79))
      · rw [upd_ne (ne_of_none (upd_same (H := H7) (a := e2)) ht)]; exact upd_same
      · have nd1 : (js.map (·.2)).Nodup := (pj.map (·.2)).nodup_iff.mpr (by rw [k3]; exact upE_nd nnd _)
        rw [List.map_take]; exact nd1.sublist (List.take_sublist _ _)
      · rw [List.length_take]; omega
end
end CP
namespace CP
open PySem L2
abbrev sLawPairs : Stmt := top 25
abbrev sLaw : Stmt := top 26
/-- the pairs of the i-th edge and the greater ones -/
def rowL (es : List E2) (i : Nat) : List (E2 × E2) := match es[i]? with
  | none => []
  | some e => ((es.filter (apB e)).filter (ltE e)).map fun f => (e, f)
theorem filter_after {es : List E2} (h : es.Pairwise (fun e f => ltE e f = true)) {i : Nat} {e : E2} (hi : es[i]? = some e) : es.filter (ltE e) = es.drop (i + 1) := by
  induction es generalizing i with
  | nil => simp at hi
  | cons f es ih =>
    obtain ⟨h1, h2⟩ := List.pairwise_cons.mp h
    cases i with
    | zero =>
      obtain rfl : f = e := Option.some.inj hi
      rw [List.filter_cons, if_neg (by rw [ltE_irrefl]; decide)]
      exact List.filter_eq_self.mpr fun x hx => h1 x hx
    | succ i =>
      have hi' : es[i]? = some e := hi
      rw [List.filter_cons, if_neg (by rw [ltE_asymm (h1 e (List.mem_of_getElem? hi'))]; decide)]
      exact ih h2 hi'
theorem rows_same {es : List E2} (h : es.Pairwise (fun e f => ltE e f = true)) (i : Nat) : rowL es i = rowP es i := by
  unfold rowL rowP
  cases q : es[i]? with
  | none => rfl
  | some e =>
    show ((es.filter (apB e)).filter (ltE e)).map _ = ((es.drop (i + 1)).filter (apB e)).map _
    rw [← filter_after h q, List.filter_filter, List.filter_filter]
    congr 1
    exact List.filter_congr fun x _ => Bool.and_comm _ _
theorem upTo_congr {r r' : Nat → List (E2 × E2)} (h : ∀ i, r i = r' i) : ∀ n, upTo r n = upTo r' n
  | 0 => rfl
  | n + 1 => by show upTo r n ++ r n = upTo r' n ++ r' n; rw [upTo_congr h n, h n]
theorem PrsAt.ext {H : Hp} {l m : Addr} {es fs : List (E2 × E2)} (h : PrsAt H l es) (hm : PrsAt H m fs) : ∃ zs ys : List V, H l = some (.lst zs) ∧ H m = some (.lst ys) ∧ zs.length = es.length ∧ ys.length = fs.length ∧ PrsAt (L2.upd H l (.lst (zs ++ ys))) l (es ++ fs) := by
  obtain ⟨ks, a, b, c⟩ := h
  obtain ⟨js, a2, b2, c2⟩ := hm
  refine ⟨_, _, a, a2, by rw [List.length_map, ← c, List.length_map], by rw [List.length_map, ← c2, List.length_map], ks ++ js, ?_, fun p hp => ?_, ?_⟩
  · rw [upd_same, List.map_append]
  · rcases List.mem_append.mp hp with hp | hp
    · exact (b p hp).keepL a
    · exact (b2 p hp).keepL a
  · rw [List.map_append, c, c2]
def spLawPairs : Sp := fun vs H Q _ => ∃ (b : Addr) (ks : List Ed), vs = [.ref b] ∧ H b = some (.lst (ks.map fun p => V.ref p.1)) ∧ (∀ p ∈ ks, EdAt H p) ∧ ks.length ≤ 18 ∧
  ∀ l H', H l = none → PrsAt H' l (upTo (rowL ((sortE ks).map (·.2))) (sortE ks).length) → Same H H' → Q (.ref l) H'
section
variable {P : Program} {w : World} {K : PySem.W.Frag} {mg : Str → Option Value} {base : Heap}
theorem rowL_len (es : List E2) (i : Nat) : (rowL es i).length ≤ es.length := by
  unfold rowL
  cases es[i]? with
  | none => exact Nat.zero_le _
  | some e =>
    show (((es.filter (apB e)).filter (ltE e)).map fun f => (e, f)).length ≤ _
    rw [List.length_map]
    exact Nat.le_trans (List.length_filter_le _ _) (List.length_filter_le _ _)
theorem scLP : FnScope ["_law_edges", "_law_found", "_law_one_here", "_law_far", "_law_other"] ["_law_edges"] (defScope sLawPairs) := ⟨rfl, rfl, rfl, by decide +kernel, rfl, by decide +kernel, by decide +kernel⟩
theorem ap_test (e f : E2) : (!decide (e.1 ∈ [f.1, f.2]) && !decide (e.2 ∈ [f.1, f.2])) = apB e f := by
  unfold apB
  by_cases c1 : e.1 = f.1 <;> by_cases c2 : e.1 = f.2 <;> by_cases c3 : e.2 = f.1 <;> by_cases c4 : e.2 = f.2 <;> simp [c1, c2, c3, c4]
theorem ix_tup2 {X : Cx} (K : PySem.W.Frag) (h : X.K = K) : IxR X (rIxT K) := h ▸ ix_tup
theorem op_notIn2 {X : Cx} (K : PySem.W.Frag) (h : X.K = K) : OpR X (compareOp .NotIn) (rIn K true) := h ▸ op_notIn_seq
theorem ok_lawpairs {f : Addr} {fd : FuncData} (F : Fun K "_law_pairs" "_law_pairs" sLawPairs f fd) (ms : mg "sorted" = none) : FnOk P w K mg base CX0 1 f fd ["_law_edges"] spLawPairs := by
  refine F.ok scLP (fun vs H Q E h => ?_) (fun cdv A outer s H vs Q E hr h => ?_)
  · obtain ⟨b, ks, rfl, _⟩ := h; rfl
  · obtain ⟨b, ks, rfl, hb, hed, h18, k⟩ := h
    refine ⟨_, pss_cons (ps_set (i := 1) scLP.nd rfl (Or.inl rfl) (pe_lst pa_nil))
      (pss_cons (ps_for PassesOwn.never rfl (pi_list (pe_callB (cr_sortE hr.units) (by rfl) ms (by decide +kernel) (pa_cons (pv 0) pa_nil))) (pg_name (i := 2) scLP.nd rfl (Or.inr rfl))
        (pss_cons (ps_setLc (i := 3) (own := [("_law_other", 4)]) (g := gName 4) rfl scLP.nd rfl rfl (sw_true rfl rfl rfl (by decide +kernel)) (pi_list (pe_callB (cr_sortE hr.units) (by rfl) ms (by decide +kernel) (pa_cons (pv 0) pa_nil)))
          (blkOk_by (own := [("_law_other", 4)]) (N := ["_law_edges", "_law_found", "_law_one_here", "_law_far", "_law_other"]) (sc := defScope sLawPairs) (by decide +kernel))
          (fun _ _ _ _ _ => pg_name (i := 4) scLP.nd rfl (Or.inl rfl)) (fun _ _ _ _ _ => pts_one (PW.pt (pw_and (pt_cmpR (op_notIn2 K rfl) (pe_ix (ix_tup2 K rfl) (pv 2) pe_int (fun _ _ => rfl)) (pv 4) rfl) (pw_and1 (pt_cmpR (op_notIn2 K rfl) (pe_ix (ix_tup2 K rfl) (pv 2) pe_int (fun _ _ => rfl)) (pv 4) rfl))))) (fun _ _ _ _ _ => pv 4))
        (pss_one (ps_expr (pe_bm PySem.F.plainAttrs_list PySem.F.slot_list_extend PySem.F.type_list_extend mt_extend (pv 1) (pa_cons (pe_lc (own := [("_law_other", 4)]) (g := gName 4) rfl scLP.nd (pi_list (pv 3))
          (blkOk_by (own := [("_law_other", 4)]) (N := ["_law_edges", "_law_found", "_law_one_here", "_law_far", "_law_other"]) (sc := defScope sLawPairs) (by decide +kernel))
          (fun _ _ _ _ _ => pg_name (i := 4) scLP.nd rfl (Or.inl rfl)) (fun _ _ _ _ _ => pts_one (pt_cmpR (op_ltE hr.units) (pv 2) (pv 4) (nomark _))) (fun _ _ _ _ _ => pe_tup (pa_cons (pv 2) (pa_cons (pv 4) pa_nil)))) pa_nil))))))
      (pss_one (ps_ret (pv 1)))), ?_⟩
    refine ⟨by show 0 ≤ sizeLine; decide, fun l hl => ?_⟩
    have s0 : Same H (L2.upd H l (.lst [])) := Same.new hl
    generalize hS : sortE ks = S
    have pS : S.Perm ks := by rw [← hS]; exact sortE_perm ks
    have Sl : S.length ≤ 18 := by rw [pS.length_eq]; exact h18
    have Sed : ∀ {H' : Hp}, Same H H' → ∀ p ∈ S, EdAt H' p := fun s p hp => s _ _ (hed p (pS.mem_iff.mp hp))
    refine ⟨_, rfl, b, ks, rfl, s0 _ _ hb, fun p hp => s0 _ _ (hed p hp), by omega, fun sl hsl => ?_⟩
    rw [hS]
    have s1 : Same H (L2.upd (L2.upd H l (.lst [])) sl (.lst (S.map fun p => V.ref p.1))) := s0.trans (Same.new hsl)
    refine ⟨sl, rfl, ⟨_, SqL.of upd_same⟩, for_list (K := K) (a := sl) (xs := S.map fun p => V.ref p.1) (fun i σ H' => ∃ v2 v3, σ = [some (.ref b), some (.ref l), v2, v3, none] ∧ Same H H' ∧ H' sl = some (.lst (S.map fun p => V.ref p.1)) ∧ PrsAt H' l (upTo (rowL (S.map (·.2))) i))
      ⟨_, _, rfl, s1, upd_same, PrsAt.nil (by rw [upd_ne (ne_of_none upd_same hsl)]; exact upd_same)⟩ (fun i σ H' _ ⟨_, _, _, _, q, _⟩ => SqL.of q) ?_ ?_⟩
    · rintro i x σ H2 hi ⟨v2, v3, rfl, s2, q2, R2⟩
      have li : i < S.length := by have := (List.getElem?_eq_some_iff.mp hi).1; rw [List.length_map] at this; exact this
      rw [List.getElem?_map, List.getElem?_eq_getElem li] at hi
      obtain rfl : V.ref S[i].1 = x := Option.some.inj hi
      have mi : S[i] ∈ S := List.getElem_mem li
      generalize hp : S[i] = p at mi
      refine ⟨_, rfl, b, ks, rfl, s2 _ _ hb, fun p hp => s2 _ _ (hed p hp), by omega, fun sm hsm => ?_⟩
      rw [hS]
      have s3 : Same H2 (L2.upd H2 sm (.lst (S.map fun p => V.ref p.1))) := Same.new hsm
      generalize hH3 : L2.upd H2 sm (.lst (S.map fun p => V.ref p.1)) = H3 at s3
      have q3 : H3 sm = some (.lst (S.map fun p => V.ref p.1)) := by rw [← hH3]; exact upd_same
      have s23 := s2.trans s3
      refine ⟨sm, rfl, ⟨_, SqL.of q3⟩, fun D hD => lc_list (K := K) (a := sm) (xs := S.map fun p => V.ref p.1) (fun j H' => Same H3 H' ∧ H' D = some (.lst (((S.take j).filter fun q => apB p.2 q.2).map fun q => V.ref q.1)))
        ⟨Same.new hD, upd_same⟩ (fun j H' _ ⟨s, _⟩ => SqL.of (s _ _ q3)) ?_ ?_⟩
      · rintro j y H4 hj ⟨s4, e4⟩
        have lj : j < S.length := by have := (List.getElem?_eq_some_iff.mp hj).1; rw [List.length_map] at this; exact this
        rw [List.getElem?_map, List.getElem?_eq_getElem lj] at hj
        obtain rfl : V.ref S[j].1 = y := Option.some.inj hj
        have mj : S[j] ∈ S := List.getElem_mem lj
        have tk : S.take (j + 1) = S.take j ++ [S[j]] := take_one (List.getElem?_eq_getElem lj)
        have ep := Sed (s23.trans s4) p mi
        have eq := Sed (s23.trans s4) S[j] mj
        have two : ∀ z : Str, inV (.str z) [.str S[j].2.1, .str S[j].2.2] = decide (z ∈ [S[j].2.1, S[j].2.2]) := fun z => inV_txt z [S[j].2.1, S[j].2.2]
        refine ⟨rfl, _, rfl, p.1, _, _, _, rfl, rfl, SqT.of ep, (atI_nat (j := 0) rfl), _, rfl, S[j].1, _, rfl, .inr (SqT.of eq), rfl, rfl, _, rfl, ?_⟩
        have at2 := ap_test p.2 S[j].2
        show if (!inV (.str p.2.1) [.str S[j].2.1, .str S[j].2.2]) = true then _ else _
        rw [two]
        by_cases c1 : p.2.1 ∈ [S[j].2.1, S[j].2.2]
        · rw [decide_eq_true c1] at at2 ⊢
          refine iteF ?_
          refine iteF ⟨s4, ?_⟩
          have c : apB p.2 S[j].2 = false := at2.symm
          rw [tk, List.filter_append]
          have q : [S[j]].filter (fun q => apB p.2 q.2) = [] := by simp [c]
          rw [q, List.append_nil]; exact e4
        · rw [decide_eq_false c1] at at2 ⊢
          refine iteT ⟨_, rfl, p.1, _, _, _, rfl, rfl, SqT.of ep, (atI_nat (j := 1) rfl), _, rfl, S[j].1, _, rfl, .inr (SqT.of eq), rfl, rfl, _, rfl, ?_⟩
          show if (!inV (.str p.2.2) [.str S[j].2.1, .str S[j].2.2]) = true then _ else _
          rw [two]
          by_cases c2 : p.2.2 ∈ [S[j].2.1, S[j].2.2]
          · rw [decide_eq_true c2] at at2 ⊢
            refine iteF ⟨s4, ?_⟩
            have c : apB p.2 S[j].2 = false := at2.symm
            rw [tk, List.filter_append]
            have q : [S[j]].filter (fun q => apB p.2 q.2) = [] := by simp [c]
            rw [q, List.append_nil]; exact e4
          · rw [decide_eq_false c2] at at2 ⊢
            have c : apB p.2 S[j].2 = true := at2.symm
            refine iteT ⟨_, rfl, _, e4, ?_, Same.grow hD s4, ?_⟩
            · rw [List.length_map, sizeLine_eq]
              have := List.length_filter_le (fun q : Ed => apB p.2 q.2) (S.take j)
              rw [List.length_take] at this; omega
            · rw [upd_same, tk, List.filter_append]
              have q : [S[j]].filter (fun q => apB p.2 q.2) = [S[j]] := by simp [c]
              rw [q, List.map_append]; rfl
      · rintro H4 ⟨s4, e4⟩
        rw [List.length_map, List.take_length] at e4
        have s24 := s23.trans s4
        have H24 : Same H2 H4 := s3.trans s4
        obtain ⟨_, r1, _⟩ := R2.kept H24
        refine ⟨_, rfl, .inl ⟨rfl, _, SqL.of r1⟩, _, rfl, D, rfl, ⟨_, SqL.of e4⟩, fun D2 hD2 => lc_list (K := K) (a := D) (xs := (S.filter fun q => apB p.2 q.2).map fun q => V.ref q.1) (fun j H' => Same H4 H' ∧ PrsAt H' D2 ((((S.filter fun q => apB p.2 q.2).take j).filter fun q => ltE p.2 q.2).map fun q => (p.2, q.2)))
          ⟨Same.new hD2, PrsAt.nil upd_same⟩ (fun j H' _ ⟨s, _⟩ => SqL.of (s _ _ e4)) ?_ ?_⟩
        · rintro j y H5 hj ⟨s5, R5⟩
          generalize hJ : (S.filter fun q => apB p.2 q.2) = J at hj R5 ⊢
          have Jsub : ∀ q ∈ J, q ∈ S := fun q hq => by rw [← hJ] at hq; exact (List.mem_filter.mp hq).1
          have Jlen : J.length ≤ 18 := by rw [← hJ]; exact Nat.le_trans (List.length_filter_le _ _) Sl
          have lj : j < J.length := by have := (List.getElem?_eq_some_iff.mp hj).1; rw [List.length_map] at this; exact this
          rw [List.getElem?_map, List.getElem?_eq_getElem lj] at hj
          obtain rfl : V.ref J[j].1 = y := Option.some.inj hj
          have mj : J[j] ∈ J := List.getElem_mem lj
          have tk : J.take (j + 1) = J.take j ++ [J[j]] := take_one (List.getElem?_eq_getElem lj)
          have ep := Sed (s24.trans s5) p mi
          have eq := Sed (s24.trans s5) J[j] (Jsub _ mj)
          refine ⟨rfl, _, rfl, _, rfl, p, J[j], rfl, rfl, ep, eq, _, rfl, ?_⟩
          by_cases c : ltE p.2 J[j].2 = true
          · rw [c]
            refine iteT ⟨_, rfl, _, rfl, by show 2 ≤ sizeLine; decide, fun t ht => ?_⟩
            have s6 : Same H5 (L2.upd H5 t (.tup [.ref p.1, .ref J[j].1])) := Same.new ht
            obtain ⟨zs, z1, z2, z3⟩ := (R5.kept s6).push (t := t) upd_same (s6 _ _ ep) (s6 _ _ eq)
            refine ⟨zs, z1, ?_, Same.grow hD2 (s5.trans s6), ?_⟩
            · rw [z2, List.length_map, sizeLine_eq]
              have := List.length_filter_le (fun q : Ed => ltE p.2 q.2) (J.take j)
              rw [List.length_take] at this; omega
            · rw [tk, List.filter_append, List.map_append]
              have q : [J[j]].filter (fun q => ltE p.2 q.2) = [J[j]] := by simp [c]
              rw [q]; exact z3
          · have c' : ltE p.2 J[j].2 = false := by simpa using c
            rw [c']
            refine iteF ⟨s5, ?_⟩
            rw [tk, List.filter_append]
            have q : [J[j]].filter (fun q => ltE p.2 q.2) = [] := by simp [c']
            rw [q, List.append_nil]; exact R5
        · rintro H5 ⟨s5, R5⟩
          rw [List.length_map, List.take_length] at R5
          have er : rowL (S.map (·.2)) i = ((S.filter fun q => apB p.2 q.2).filter fun q => ltE p.2 q.2).map fun q => (p.2, q.2) := by
            unfold rowL
            rw [List.getElem?_map, List.getElem?_eq_getElem li, hp]
            show (((S.map (·.2)).filter (apB p.2)).filter (ltE p.2)).map (fun f => (p.2, f)) = _
            rw [List.filter_map, List.filter_map, List.map_map]; rfl
          rw [← er] at R5
          obtain ⟨zs, ys, z1, z2, z3, z4, z5⟩ := ((R2.kept H24).kept s5).ext R5
          refine ⟨l, D2, zs, ys, rfl, rfl, z1, z2, ?_, ?_⟩
          · rw [z3, z4, sizeLine_eq]
            have a1 := upTo_len (m := S.length) (fun i => by have := rowL_len (S.map (·.2)) i; rw [List.length_map] at this; exact this) i
            have a2 := rowL_len (S.map (·.2)) i
            rw [List.length_map] at a2
            have a3 : i * S.length ≤ 18 * 18 := Nat.mul_le_mul (by omega) Sl
            omega
          · refine ⟨_, _, rfl, Same.grow hl (s24.trans s5), ?_, z5⟩
            have q5 := s5 _ _ (H24 _ _ q2)
            have nl : sl ≠ l := fun z => by
              have := hsl
              rw [z, upd_same] at this; cases this
            rw [upd_ne nl]; exact q5
    · rintro σ H2 ⟨v2, v3, rfl, s2, q2, R2⟩
      rw [List.length_map] at R2
      exact ⟨_, rfl, k l H2 hl (by rw [hS]; exact R2) s2⟩
end
end CP
namespace CP
open PySem L2
/-! ### lists of pairs as data -/
def pD (p : E2 × E2) : PyData := .tuple [encE p.1, encE p.2]
def OkE (e : E2) : Prop := PyData.strOk e.1 = true ∧ PyData.strOk e.2 = true
def OkP (p : E2 × E2) : Prop := OkE p.1 ∧ OkE p.2
theorem encE_lay {e : E2} (h : OkE e) : (encE e).canLay0 = true := by simp [encE, PyData.canLay0, PyData.canLayAll0, h.1, h.2]
theorem pD_lay {p : E2 × E2} (h : OkP p) : (pD p).canLay0 = true := by
  have a := encE_lay h.1; have b := encE_lay h.2
  simp [pD, PyData.canLay0, PyData.canLayAll0, a, b]
theorem pDs_lay : ∀ {ps : List (E2 × E2)}, (∀ p ∈ ps, OkP p) → PyData.canLayAll0 (ps.map pD) = true
  | [], _ => by simp [PyData.canLayAll0]
  | p :: ps, h => by
    have a := pD_lay (h p List.mem_cons_self)
    have b := pDs_lay fun q hq => h q (List.mem_cons_of_mem _ hq)
    simp [PyData.canLayAll0, a, b]
theorem encE_depth (e : E2) : (encE e).depth = 1 := by simp [encE, PyData.depth, PyData.depthAll]
theorem pD_depth (p : E2 × E2) : (pD p).depth = 2 := by simp [pD, PyData.depth, PyData.depthAll, encE_depth]
theorem pDs_depth : ∀ ps : List (E2 × E2), PyData.depthAll (ps.map pD) ≤ 2
  | [] => by simp [PyData.depthAll]
  | p :: ps => by
    have a := pD_depth p; have b := pDs_depth ps
    simp only [List.map_cons, PyData.depthAll]; omega
theorem pDs_shaped {ps : List (E2 × E2)} (h : ∀ p ∈ ps, OkP p) : SeqAt.shaped (.list (ps.map pD)) = true := by
  have c1 : (PyData.list (ps.map pD)).canLay0 = true := by simp [PyData.canLay0, pDs_lay h]
  have c2 : (PyData.list (ps.map pD)).depth = PyData.depthAll (ps.map pD) + 1 := by first | rfl | simp [PyData.depth, Nat.add_comm]
  have := pDs_depth ps
  unfold SeqAt.shaped; rw [c1, c2]; simp; omega
theorem alike_pD (p q : E2 × E2) : PySem.W.alike (pD p) (pD q) = true := by simp [pD, encE, PySem.W.alike, PySem.W.alikeAll]
theorem alike_pDs : ∀ ps : List (E2 × E2), PySem.W.alikeAll (ps.map pD) (ps.map pD) = true
  | [] => by simp [PySem.W.alikeAll]
  | p :: ps => by simp [PySem.W.alikeAll, alike_pD, alike_pDs ps]
theorem eqv_pDs (ps : List (E2 × E2)) : PyData.eqv (.list (ps.map pD)) (.list (ps.map pD)) = true := PySem.W.eqv_refl_alike _ (by simp [PySem.W.alike, alike_pDs])
theorem dp_pair {K : PySem.W.Frag} {H : Hp} {q : Pr} (h : PrAt H q) : Dp K H (.ref q.1) (pD (prV q)) := .tup (SqT.of h.ob) (.cons (dp_edge h.one) (.cons (dp_edge h.two) .nil))
theorem dp_pairs {K : PySem.W.Frag} {H : Hp} : ∀ {qs : List Pr}, (∀ q ∈ qs, PrAt H q) → DpAll K H (qs.map fun q => V.ref q.1) ((qs.map prV).map pD)
  | [], _ => .nil
  | q :: qs, h => .cons (dp_pair (h q List.mem_cons_self)) (dp_pairs fun r hr => h r (List.mem_cons_of_mem _ hr))
theorem PrsAt.dp {K : PySem.W.Frag} {H : Hp} {l : Addr} {ps : List (E2 × E2)} (h : PrsAt H l ps) : Dp K H (.ref l) (.list (ps.map pD)) := by
  obtain ⟨qs, a, b, rfl⟩ := h
  exact .lst (SqL.of a) (dp_pairs b)
theorem rowP_mem {es : List E2} {i : Nat} {p : E2 × E2} (h : p ∈ rowP es i) : p.1 ∈ es ∧ p.2 ∈ es := by
  unfold rowP at h
  cases q : es[i]? with
  | none => rw [q] at h; cases h
  | some e =>
    rw [q] at h
    obtain ⟨f, hf, rfl⟩ := List.mem_map.mp h
    exact ⟨List.mem_of_getElem? q, List.mem_of_mem_drop (List.mem_filter.mp hf).1⟩
theorem upTo_mem {r : Nat → List (E2 × E2)} : ∀ {n : Nat} {p : E2 × E2}, p ∈ upTo r n → ∃ i, p ∈ r i
  | 0, _, h => nomatch h
  | n + 1, p, h => by
    rcases List.mem_append.mp h with h | h
    · exact upTo_mem h
    · exact ⟨n, h⟩
theorem pairs_mem {es : List E2} {p : E2 × E2} (h : p ∈ pairsOf es) : p.1 ∈ es ∧ p.2 ∈ es := by
  obtain ⟨i, h⟩ := upTo_mem h
  exact rowP_mem h
/-- sorted: the order of the argument has no effect -/
theorem sortE_same {ks js : List Ed} (h : js.Perm ks) (nd : (ks.map (·.2)).Nodup) : sortE js = sortE ks :=
  asc_unique (((sortE_perm js).trans h).trans (sortE_perm ks).symm) (sortE_lt ((h.map _).nodup_iff.mpr nd)) (sortE_lt nd)
theorem sorted_map {ks : List Ed} (nd : (ks.map (·.2)).Nodup) : ((sortE ks).map (·.2)).Pairwise (fun e f => ltE e f = true) := List.pairwise_map.mpr (sortE_lt nd)
theorem GrAt.but {C a : Addr} {H H' : Hp} {g : Addr} {ns : List Str} {es : List Ed} (S : Src H a) (B : But a H H') (G : GrAt C H g ns es) : GrAt C H' g ns es := by
  obtain ⟨⟨dx, t1, t2, e1, e2, e3⟩, ed⟩ := G
  obtain ⟨x, y, z, q⟩ := id S
  exact ⟨⟨dx, t1, t2, B _ _ (ne_of e1 q (fun z => by cases z)) e1, B _ _ (ne_of e2 q (fun z => by cases z)) e2, B _ _ (ne_of e3 q (fun z => by cases z)) e3⟩, fun p hp => EdAt.but S B (ed p hp)⟩
theorem Same.but {a : Addr} {H0 H H' : Hp} (s : Same H0 H) (h : H0 a = none) (B : But a H H') : Same H0 H' := fun c o e => B c o (ne_of_none e h) (s c o e)
def spLaw (K : PySem.W.Frag) : Sp := fun vs H Q _ => ∃ (a : Addr) (ns : List Int), vs = [.ref a] ∧ SqL K H a (ns.map V.int) ∧ ns.length ≤ 63 ∧ ∀ H', Q (.bl true) H'
section
variable {P : Program} {w : World} {K : PySem.W.Frag} {mg : Str → Option Value} {base : Heap}
theorem cut_ints (ns : List Int) (lo hi : Option Int) : ∃ ms : List Int, cutV (ns.map V.int) lo hi = ms.map V.int ∧ ms.length ≤ ns.length := by
  unfold cutV
  refine ⟨(ns.drop (HT.sIx (ns.map V.int).length 0 lo)).take (HT.sIx (ns.map V.int).length (ns.map V.int).length hi - HT.sIx (ns.map V.int).length 0 lo), by rw [List.map_take, List.map_drop], ?_⟩
  rw [List.length_take, List.length_drop]; omega
theorem scLaw : FnScope ["_law_script", "_law_cell", "_law_source", "_law_names", "_law_edges", "_law_graph_here", "_law_due", "_law_k", "_law_told"] ["_law_script"] (defScope sLaw) := ⟨rfl, rfl, rfl, by decide +kernel, rfl, by decide +kernel, by decide +kernel⟩
theorem ok_law {f fC fS fG fM fL fP fI C : Addr} {fd fdC fdS fdG fdM fdL fdP fdI : FuncData} (F : Fun K "law" "law" sLaw f fd) (T : GTxt K mg C) (mr : mg "range" = none) (mi : mg "isinstance" = none) (ml : mg "list" = none)
    (mC : mg "_law_cell_at" = some (.ref fC)) (GC : FnOk P w K mg base CX0 1 fC fdC ["_law_script", "_law_k"] (spCell K)) (kC : PySem.W.keepIn K (.ref fC) = true) (bC : Binds K fdC ["_law_script", "_law_k"] [])
    (mS : mg "_law_source_of" = some (.ref fS)) (GS : FnOk P w K mg base CX0 1 fS fdS ["_law_cell"] spSource) (kS : PySem.W.keepIn K (.ref fS) = true) (bS : Binds K fdS ["_law_cell"] [])
    (mG : mg "_law_graph" = some (.ref fG)) (GG : FnOk P w K mg base CX0 3 fG fdG ["_law_source", "_law_most"] spGraph) (kG : PySem.W.keepIn K (.ref fG) = true) (bG : Binds K fdG ["_law_source", "_law_most"] [])
    (mM : mg "_law_mixed" = some (.ref fM)) (GM : FnOk P w K mg base CX0 2 fM fdM ["_law_source", "_law_some"] (spMixed K)) (kM : PySem.W.keepIn K (.ref fM) = true) (bM : Binds K fdM ["_law_source", "_law_some"] [])
    (mL : mg "_law_pairs" = some (.ref fL)) (GL : FnOk P w K mg base CX0 1 fL fdL ["_law_edges"] spLawPairs) (kL : PySem.W.keepIn K (.ref fL) = true) (bL : Binds K fdL ["_law_edges"] [])
    (mP : mg "pairs" = some (.ref fP)) (GP : FnOk P w K mg base CX0 2 fP fdP ["graph"] (spPairs C)) (kP : PySem.W.keepIn K (.ref fP) = true) (bP : Binds K fdP ["graph"] [])
    (MI : Mk K C fI) (GI : FnOk P w K mg base CX0 4 fI fdI ["self", "vertices", "edges"] (spInit C)) (bI : Binds K fdI ["self", "vertices", "edges"] []) : FnOk P w K mg base CX0 6 f fd ["_law_script"] (spLaw K) := by
  refine F.ok scLaw (fun vs H Q E h => ?_) (fun cdv A outer s H vs Q E hr h => ?_)
  · obtain ⟨a, ns, rfl, _⟩ := h; rfl
  · obtain ⟨a, sc, rfl, hA, h63, k⟩ := h
    have hr1 : Room 1 _ := hr.mono (by decide)
    have hr2 : Room 2 _ := hr.mono (by decide)
    have hr3 : Room 3 _ := hr.mono (by decide)
    refine ⟨_, pss_cons (ps_for PassesOwn.never rfl (pi_list (pe_op op_cat (pe_lst (pa_cons (pe_call GC hr1 rfl mC kC bC .nil pass0 (pa_cons (pv 0) (pa_cons pe_int pa_nil))) pa_nil)) (pe_slice sl_list (pv 0) (po_some pe_int) (po_some pe_int)))) (pg_name (i := 1) scLaw.nd rfl (Or.inl rfl))
        (pss_cons (ps_set (i := 2) scLaw.nd rfl (Or.inl rfl) (pe_call GS hr1 rfl mS kS bS .nil pass0 (pa_cons (pv 1) pa_nil)))
        (pss_cons (ps_asg (pe_call GG hr3 rfl mG kG bG .nil pass0 (pa_cons (pv 2) (pa_cons pe_int pa_nil))) (pg_tup rfl (pgs_cons (pg_name (i := 3) scLaw.nd rfl (Or.inl rfl)) (pgs_cons (pg_name (i := 4) scLaw.nd rfl (Or.inl rfl)) pgs_nil))))
        (pss_cons (ps_set (i := 5) scLaw.nd rfl (Or.inl rfl) (pe_make MI GI hr rfl T.mg bI .nil pass0 (pa_cons (pv 3) (pa_cons (pv 4) pa_nil))))
        (pss_cons (ps_set (i := 6) scLaw.nd rfl (Or.inl rfl) (pe_call GL hr1 rfl mL kL bL .nil pass0 (pa_cons (pv 4) pa_nil)))
        (pss_cons (ps_for PassesOwn.never rfl (pi_range1 rfl mr (pa_cons pe_int pa_nil)) (pg_name (i := 7) scLaw.nd rfl (Or.inl rfl))
          (pss_cons (ps_set (i := 8) scLaw.nd rfl (Or.inl rfl) (pe_call GP hr2 rfl mP kP bP .nil pass0 (pa_cons (pv 5) pa_nil)))
          (pss_cons (ps_if (PW.pt (pw_or (pt_cmpR (op_neD hr.units) (pv 8) (pv 6) (nomark _)) (pw_or1 (pt_not (pt_val (pe_callB call_isi (by rfl) mi (by decide +kernel) (pa_cons (pv 8) (pa_cons (pe_bltn (v := .ty "list") (by rfl) ml (by decide +kernel) rfl) pa_nil)))))))) (pss_one (ps_ret pe_bl)) pss_nil)
          (pss_cons (ps_expr (pe_bm0 PySem.F.plainAttrs_list PySem.F.slot_list_reverse PySem.F.type_list_reverse mt_reverse (pv 8)))
          (pss_one (ps_expr (pe_bm PySem.F.plainAttrs_list PySem.F.slot_list_append PySem.F.type_list_append mt_append (pv 8) (pa_cons pe_non pa_nil))))))))
        (pss_one (ps_if (pt_cmpR (op_neD hr.units) (pe_call GP hr2 rfl mP kP bP .nil pass0 (pa_cons (pe_make MI GI hr rfl T.mg bI .nil pass0 (pa_cons (pe_revL (pv 3)) (pa_cons (pe_call GM hr2 rfl mM kM bM .nil pass0 (pa_cons (pv 2) (pa_cons (pv 4) pa_nil))) pa_nil))) pa_nil)) (pv 6) (nomark _)) (pss_one (ps_ret pe_bl)) pss_nil))))))))
      (pss_one (ps_ret pe_bl)), ?_⟩
    refine ⟨_, rfl, a, sc, rfl, hA, fun c0 => ?_⟩
    refine ⟨by show 1 ≤ sizeLine; decide, fun l1 hl1 => ?_⟩
    have s1 : Same H (L2.upd H l1 (.lst [.int c0])) := Same.new hl1
    obtain ⟨ms, em, lm⟩ := cut_ints sc (some 1) (some 6)
    refine ⟨_, rfl, _, rfl, _, rfl, a, _, rfl, s1.seq hA, fun l2 hl2 => ?_⟩
    rw [em]
    have s2 : Same (L2.upd H l1 (.lst [.int c0])) (L2.upd (L2.upd H l1 (.lst [.int c0])) l2 (.lst (ms.map V.int))) := Same.new hl2
    refine ⟨l1, l2, _, _, rfl, rfl, s2 _ _ upd_same, upd_same, by rw [List.length_map, sizeLine_eq]; show 1 + ms.length ≤ _; omega, fun L hL => ?_⟩
    generalize hH0 : L2.upd (L2.upd (L2.upd H l1 (.lst [.int c0])) l2 (.lst (ms.map V.int))) L (.lst ([V.int c0] ++ ms.map V.int)) = H0
    have L0 : H0 L = some (.lst ((c0 :: ms).map V.int)) := by rw [← hH0]; exact upd_same
    refine ⟨L, rfl, ⟨_, SqL.of L0⟩, for_list (K := K) (a := L) (xs := (c0 :: ms).map V.int) (fun i σ H' => (∃ v1 v2 v3 v4 v5 v6 v7 v8, σ = [some (.ref a), v1, v2, v3, v4, v5, v6, v7, v8]) ∧ Same H0 H')
      ⟨⟨_, _, _, _, _, _, _, _, rfl⟩, Same.refl _⟩ (fun i σ H' _ ⟨_, s⟩ => SqL.of (s _ _ L0)) ?_ ?_⟩
    · rintro i x σ H1 hi ⟨⟨v1, v2, v3, v4, v5, v6, v7, v8, rfl⟩, s01⟩
      obtain ⟨c, rfl⟩ : ∃ c, x = V.int c := by
        rw [List.getElem?_map] at hi
        cases e : (c0 :: ms)[i]? with
        | none => rw [e] at hi; cases hi
        | some c => rw [e] at hi; exact ⟨c, (Option.some.inj hi).symm⟩
      refine ⟨_, rfl, c, rfl, fun p H2 hp S2 s12 => ?_⟩
      have p0 : H0 p = none := s01.free hp
      have s02 := s01.trans s12
      refine ⟨_, rfl, p, rfl, S2, fun q n e ns ks H3 hq A3 hn he S3 B3 => ?_⟩
      have s03 : Same H0 H3 := Same.but s02 p0 B3
      have np := S2.ne hn
      have ep := S2.ne he
      refine ⟨q, _, rfl, SqT.of hq, rfl, _, _, rfl, _, _, rfl, rfl, ?_⟩
      obtain ⟨na, n0, n8, nd, nm, ea, ed, eo, en, el⟩ := id A3
      refine ⟨_, rfl, _, rfl, fun g dx hg hdx gdx => ?_⟩
      have sg : Same H3 (L2.upd (L2.upd H3 dx (.own g)) g (.ins C dx [])) := fun b o x => by rw [upd_ne (ne_of_none x hg), upd_ne (ne_of_none x hdx)]; exact x
      refine ⟨g, dx, n, e, ns, ks, rfl, upd_same, ⟨sg _ _ na, n0, n8, nd, nm, sg _ _ ea, fun p hp => sg _ _ (ed p hp), eo, en, el⟩, fun H4 G4 k4 => ⟨rfl, ?_⟩⟩
      have s34 : Same H3 H4 := Same.made hg hdx fun c o x n => k4 c o n x
      have s04 := s03.trans s34
      have S4 := S3.but s34
      have e4 := s34 _ _ ea
      have ed4 : ∀ p ∈ ks, EdAt H4 p := fun p hp => s34 _ _ (ed p hp)
      refine ⟨_, rfl, e, ks, rfl, e4, ed4, el, fun du H5 hdu R5 s45 => ?_⟩
      have srt := sorted_map en
      generalize hS : (sortE ks).map (·.2) = S at R5 srt
      have Slen : (sortE ks).length = S.length := by rw [← hS, List.length_map]
      rw [Slen, upTo_congr (rows_same srt)] at R5
      have R5' : PrsAt H5 du (pairsOf S) := R5
      have Sok : ∀ x ∈ pairsOf S, OkP x := fun x hx => by
        have mem : ∀ y ∈ S, OkE y := fun y hy => by
          rw [← hS] at hy
          obtain ⟨r, hr, rfl⟩ := List.mem_map.mp hy
          obtain ⟨o1, o2, _⟩ := eo r ((sortE_perm ks).mem_iff.mp hr)
          exact ⟨(nm _ o1).strOk, (nm _ o2).strOk⟩
        obtain ⟨m1, m2⟩ := pairs_mem hx
        exact ⟨mem _ m1, mem _ m2⟩
      have shp := pDs_shaped Sok
      have few : (sortE ks).length < 1000 := by rw [(sortE_perm ks).length_eq]; omega
      have G5 := G4.same s45
      have S5 := S4.but s45
      have n5 := s45 _ _ (s34 _ _ na)
      have e5 := s45 _ _ e4
      have ed5 : ∀ p ∈ ks, EdAt H5 p := fun p hp => s45 _ _ (ed4 p hp)
      have s05 := s04.trans s45
      refine ⟨2, rfl, by decide, by decide, for_range (lo := 0) (n := (2 : Int).toNat) (fun j σ H' => ∃ v7 v8, σ = [some (.ref a), some (.int c), some (.ref p), some (.ref n), some (.ref e), some (.ref g), some (.ref du), v7, v8] ∧ Same H5 H') ⟨_, _, rfl, Same.refl _⟩ ?_ ?_⟩
      · rintro j σ H6 hj ⟨v7', v8', rfl, s56⟩
        refine ⟨_, rfl, g, ns, sortE ks, rfl, G5.same s56, few, fun t H7 ht R7 s67 => ?_⟩
        rw [hS] at R7
        have R7d := (R5'.kept s56).kept s67
        refine ⟨_, rfl, _, rfl, _, _, R7.dp, R7d.dp, shp, shp, _, rfl, ?_⟩
        rw [eqv_pDs]
        refine iteF ?_
        obtain ⟨qs, t1, _, _⟩ := id R7
        refine ⟨_, rfl, _, _, .type "list", _, true, rfl, .ty _, .base (.lst t1), kit_ty (by decide +kernel), _, rfl, iteF ?_⟩
        have t5 : H5 t = none := s56.free ht
        have s57 := s56.trans s67
        refine ⟨_, rfl, .inl ⟨rfl, _, SqL.of t1⟩, t, _, rfl, rfl, t1, ?_⟩
        refine ⟨_, rfl, .inl ⟨rfl, _, SqL.of upd_same⟩, t, _, _, rfl, rfl, upd_same, ?_, ?_⟩
        · rw [List.length_reverse, List.length_map, sizeLine_eq]
          obtain ⟨qs', t1', _, t3⟩ := id R7
          rw [t1] at t1'
          have e1 : (qs.map fun q => V.ref q.1).length = (qs'.map fun q => V.ref q.1).length := by injection t1' with z; injection z with z; rw [z]
          rw [List.length_map, List.length_map] at e1
          have e2 := congrArg List.length t3
          rw [List.length_map] at e2
          have b1 := upTo_len (m := S.length) (row_len S) S.length
          have b2 : S.length ≤ 18 := by rw [← Slen, (sortE_perm ks).length_eq]; exact el
          have b3 : S.length * S.length ≤ 18 * 18 := Nat.mul_le_mul b2 b2
          have b4 : (pairsOf S).length = (upTo (rowP S) S.length).length := rfl
          omega
        · exact ⟨_, _, rfl, Same.grow t5 (Same.grow t5 s57)⟩
      · rintro σ H6 ⟨v7', v8', rfl, s56⟩
        have n6 := s56 _ _ n5
        refine ⟨_, rfl, n, _, rfl, SqL.of n6, fun r hr => ?_⟩
        have s67 : Same H6 (L2.upd H6 r (.lst (ns.map V.str).reverse)) := Same.new hr
        have s57 := s56.trans s67
        have S7 := S5.but s57
        have ed7 : ∀ p ∈ ks, EdAt _ p := fun p hp => s57 _ _ (ed5 p hp)
        refine ⟨_, rfl, _, rfl, p, e, _, rfl, S7, ep.symm, s57 _ _ e5, fun x hx => ?_, by rw [List.length_map]; omega, fun m ys H8 pm hm8 hm S8 B8 => ?_⟩
        · obtain ⟨z, hz, rfl⟩ := List.mem_map.mp hx
          obtain ⟨o1, o2, _⟩ := eo z hz
          exact .inr ⟨z.1, z.2.1, z.2.2, rfl, ed7 z hz, (nm _ o1).strOk, (nm _ o2).strOk⟩
        obtain ⟨js, pj, rfl⟩ := perm_map pm ks rfl
        intro g2 dx2 hg2 hdx2 gdx2
        have sg2 : Same H8 (L2.upd (L2.upd H8 dx2 (.own g2)) g2 (.ins C dx2 [])) := fun b o x => by rw [upd_ne (ne_of_none x hg2), upd_ne (ne_of_none x hdx2)]; exact x
        have rp : r ≠ p := fun z => by obtain ⟨x, y, w, q⟩ := S5.but s56; rw [z, q] at hr; cases hr
        have r8 : H8 r = some (.lst (ns.reverse.map V.str)) := B8 r _ rp (by rw [List.map_reverse]; exact upd_same)
        have ed8 : ∀ z ∈ js, EdAt H8 z := fun z hz => EdAt.but S7 B8 (ed7 z (pj.mem_iff.mp hz))
        refine ⟨g2, dx2, r, m, ns.reverse, js, rfl, upd_same, ⟨sg2 _ _ r8, by rw [List.length_reverse]; exact n0, by rw [List.length_reverse]; exact n8, (List.reverse_perm ns).nodup_iff.mpr nd, fun z hz => nm z (List.mem_reverse.mp hz), sg2 _ _ hm, fun z hz => sg2 _ _ (ed8 z hz), fun z hz => ?_, (pj.map _).nodup_iff.mpr en, by rw [pj.length_eq]; exact el⟩, fun H9 G9 k9 => ⟨rfl, ?_⟩⟩
        · obtain ⟨o1, o2, o3⟩ := eo z (pj.mem_iff.mp hz)
          exact ⟨List.mem_reverse.mpr o1, List.mem_reverse.mpr o2, o3⟩
        have s89 : Same H8 H9 := Same.made hg2 hdx2 fun c o x n => k9 c o n x
        have p5 : H5 p ≠ none := fun z => by obtain ⟨x, y, w, q⟩ := S5; rw [q] at z; cases z
        refine ⟨g2, ns.reverse, sortE js, rfl, G9, by rw [(sortE_perm js).length_eq, pj.length_eq]; omega, fun t HA ht RA s9A => ?_⟩
        rw [sortE_same pj en, hS] at RA
        have du7 : PrsAt H8 du (pairsOf S) := by
          obtain ⟨qs, a1, a2, a3⟩ := R5'.kept s57
          have dp' : du ≠ p := fun z => by
            have := hdu
            rw [z] at this
            obtain ⟨x, y, w, q⟩ := S4; rw [q] at this; cases this
          obtain ⟨x, y, w, q⟩ := id S7
          exact ⟨qs, B8 du _ dp' a1, fun z hz => ⟨B8 _ _ (ne_of (a2 z hz).ob q (fun z => by cases z)) (a2 z hz).ob, EdAt.but S7 B8 (a2 z hz).one, EdAt.but S7 B8 (a2 z hz).two⟩, a3⟩
        have duA := (du7.kept s89).kept s9A
        refine ⟨_, rfl, _, _, RA.dp, duA.dp, shp, shp, _, rfl, ?_⟩
        rw [eqv_pDs]
        refine iteF ⟨⟨_, _, _, _, _, _, _, _, rfl⟩, ?_⟩
        exact (Same.but (s05.trans s57) p0 B8).trans (s89.trans s9A)
    · rintro σ H1 ⟨_, _⟩
      exact k H1
end
end CP
namespace CP
open PySem L2
set_option maxHeartbeats 4000000 in
theorem all_mk {l : PySem.W.OpenLaw} {w : World} {K : PySem.W.Frag} {h : Heap} {mg : Str → Option Value} {fa C fAp fPa fRo fCo fNa fVe fEg fAm fJo fCe fSo fNe fOn fMi fGr fLp fLa fIn : Addr} (X : K.In h) (G : h.Ns mainGlobals mg) (hfa : mg "law" = some (.ref fa))
    {odAp anAp odPa anPa odRo anRo odCo anCo odNa anNa odVe anVe odEg anEg odAm anAm odJo anJo odCe anCe odSo anSo odNe anNe odOn anOn odMi anMi odGr anGr odLp anLp odLa anLa odIn anIn : Option Addr} {slAp slPa slRo slCo slNa slVe slEg slAm slJo slCe slSo slNe slOn slMi slGr slLp slLa slIn : Array (Option Value)} {ocAp kVAp dcAp pmAp cdAp ctAp ocPa kVPa dcPa pmPa cdPa ctPa ocRo kVRo dcRo pmRo cdRo ctRo ocCo kVCo dcCo pmCo cdCo ctCo ocNa kVNa dcNa pmNa cdNa ctNa ocVe kVVe dcVe pmVe cdVe ctVe ocEg kVEg dcEg pmEg cdEg ctEg ocAm kVAm dcAm pmAm cdAm ctAm ocJo kVJo dcJo pmJo cdJo ctJo ocCe kVCe dcCe pmCe cdCe ctCe ocSo kVSo dcSo pmSo cdSo ctSo ocNe kVNe dcNe pmNe cdNe ctNe ocOn kVOn dcOn pmOn cdOn ctOn ocMi kVMi dcMi pmMi cdMi ctMi ocGr kVGr dcGr pmGr cdGr ctGr ocLp kVLp dcLp pmLp cdLp ctLp ocLa kVLa dcLa pmLa cdLa ctLa ocIn kVIn dcIn pmIn cdIn ctIn : Value} {t0 t1 t2 t3 : Tok}
    (aC : PySem.W.nsIn K mainGlobals "Graph" = some (some (.ref C)))
    (aAp : PySem.W.nsIn K mainGlobals "are_apart" = some (some (.ref fAp)))
    (lAp : K.lookup fAp = some ⟨ocAp, odAp, .func (PySem.W.fnOf "are_apart" "are_apart" (defArgs sApart) (defBody sApart) (defScope sApart) .none kVAp dcAp pmAp anAp cdAp ctAp), slAp⟩)
    (cAp : PySem.W.codeIn K cdAp "are_apart" = true)
    (kAp : PySem.W.keepIn K (.ref fAp) = true)
    (aPa : PySem.W.nsIn K mainGlobals "pairs" = some (some (.ref fPa)))
    (lPa : K.lookup fPa = some ⟨ocPa, odPa, .func (PySem.W.fnOf "pairs" "pairs" (defArgs sPairs) (defBody sPairs) (defScope sPairs) .none kVPa dcPa pmPa anPa cdPa ctPa), slPa⟩)
    (cPa : PySem.W.codeIn K cdPa "pairs" = true)
    (kPa : PySem.W.keepIn K (.ref fPa) = true)
    (aRo : PySem.W.nsIn K mainGlobals "is_row" = some (some (.ref fRo)))
    (lRo : K.lookup fRo = some ⟨ocRo, odRo, .func (PySem.W.fnOf "is_row" "is_row" (defArgs sRow) (defBody sRow) (defScope sRow) .none kVRo dcRo pmRo anRo cdRo ctRo), slRo⟩)
    (cRo : PySem.W.codeIn K cdRo "is_row" = true)
    (kRo : PySem.W.keepIn K (.ref fRo) = true)
    (aCo : PySem.W.nsIn K mainGlobals "is_couple" = some (some (.ref fCo)))
    (lCo : K.lookup fCo = some ⟨ocCo, odCo, .func (PySem.W.fnOf "is_couple" "is_couple" (defArgs sCouple) (defBody sCouple) (defScope sCouple) .none kVCo dcCo pmCo anCo cdCo ctCo), slCo⟩)
    (cCo : PySem.W.codeIn K cdCo "is_couple" = true)
    (kCo : PySem.W.keepIn K (.ref fCo) = true)
    (aNa : PySem.W.nsIn K mainGlobals "is_name" = some (some (.ref fNa)))
    (lNa : K.lookup fNa = some ⟨ocNa, odNa, .func (PySem.W.fnOf "is_name" "is_name" (defArgs sName) (defBody sName) (defScope sName) .none kVNa dcNa pmNa anNa cdNa ctNa), slNa⟩)
    (cNa : PySem.W.codeIn K cdNa "is_name" = true)
    (kNa : PySem.W.keepIn K (.ref fNa) = true)
    (aVe : PySem.W.nsIn K mainGlobals "are_vertices" = some (some (.ref fVe)))
    (lVe : K.lookup fVe = some ⟨ocVe, odVe, .func (PySem.W.fnOf "are_vertices" "are_vertices" (defArgs sVerts) (defBody sVerts) (defScope sVerts) .none kVVe dcVe pmVe anVe cdVe ctVe), slVe⟩)
    (cVe : PySem.W.codeIn K cdVe "are_vertices" = true)
    (kVe : PySem.W.keepIn K (.ref fVe) = true)
    (aEg : PySem.W.nsIn K mainGlobals "are_edges" = some (some (.ref fEg)))
    (lEg : K.lookup fEg = some ⟨ocEg, odEg, .func (PySem.W.fnOf "are_edges" "are_edges" (defArgs sEdges) (defBody sEdges) (defScope sEdges) .none kVEg dcEg pmEg anEg cdEg ctEg), slEg⟩)
    (cEg : PySem.W.codeIn K cdEg "are_edges" = true)
    (kEg : PySem.W.keepIn K (.ref fEg) = true)
    (aAm : PySem.W.nsIn K mainGlobals "is_among" = some (some (.ref fAm)))
    (lAm : K.lookup fAm = some ⟨ocAm, odAm, .func (PySem.W.fnOf "is_among" "is_among" (defArgs sAmong) (defBody sAmong) (defScope sAmong) .none kVAm dcAm pmAm anAm cdAm ctAm), slAm⟩)
    (cAm : PySem.W.codeIn K cdAm "is_among" = true)
    (kAm : PySem.W.keepIn K (.ref fAm) = true)
    (aJo : PySem.W.nsIn K mainGlobals "joins" = some (some (.ref fJo)))
    (lJo : K.lookup fJo = some ⟨ocJo, odJo, .func (PySem.W.fnOf "joins" "joins" (defArgs sJoins) (defBody sJoins) (defScope sJoins) .none kVJo dcJo pmJo anJo cdJo ctJo), slJo⟩)
    (cJo : PySem.W.codeIn K cdJo "joins" = true)
    (kJo : PySem.W.keepIn K (.ref fJo) = true)
    (aCe : PySem.W.nsIn K mainGlobals "_law_cell_at" = some (some (.ref fCe)))
    (lCe : K.lookup fCe = some ⟨ocCe, odCe, .func (PySem.W.fnOf "_law_cell_at" "_law_cell_at" (defArgs sCell) (defBody sCell) (defScope sCell) .none kVCe dcCe pmCe anCe cdCe ctCe), slCe⟩)
    (cCe : PySem.W.codeIn K cdCe "_law_cell_at" = true)
    (kCe : PySem.W.keepIn K (.ref fCe) = true)
    (aSo : PySem.W.nsIn K mainGlobals "_law_source_of" = some (some (.ref fSo)))
    (lSo : K.lookup fSo = some ⟨ocSo, odSo, .func (PySem.W.fnOf "_law_source_of" "_law_source_of" (defArgs sSource) (defBody sSource) (defScope sSource) .none kVSo dcSo pmSo anSo cdSo ctSo), slSo⟩)
    (cSo : PySem.W.codeIn K cdSo "_law_source_of" = true)
    (kSo : PySem.W.keepIn K (.ref fSo) = true)
    (aNe : PySem.W.nsIn K mainGlobals "_law_next" = some (some (.ref fNe)))
    (lNe : K.lookup fNe = some ⟨ocNe, odNe, .func (PySem.W.fnOf "_law_next" "_law_next" (defArgs sNext) (defBody sNext) (defScope sNext) .none kVNe dcNe pmNe anNe cdNe ctNe), slNe⟩)
    (cNe : PySem.W.codeIn K cdNe "_law_next" = true)
    (kNe : PySem.W.keepIn K (.ref fNe) = true)
    (aOn : PySem.W.nsIn K mainGlobals "_law_one" = some (some (.ref fOn)))
    (lOn : K.lookup fOn = some ⟨ocOn, odOn, .func (PySem.W.fnOf "_law_one" "_law_one" (defArgs sOne) (defBody sOne) (defScope sOne) .none kVOn dcOn pmOn anOn cdOn ctOn), slOn⟩)
    (cOn : PySem.W.codeIn K cdOn "_law_one" = true)
    (kOn : PySem.W.keepIn K (.ref fOn) = true)
    (aMi : PySem.W.nsIn K mainGlobals "_law_mixed" = some (some (.ref fMi)))
    (lMi : K.lookup fMi = some ⟨ocMi, odMi, .func (PySem.W.fnOf "_law_mixed" "_law_mixed" (defArgs sMixed) (defBody sMixed) (defScope sMixed) .none kVMi dcMi pmMi anMi cdMi ctMi), slMi⟩)
    (cMi : PySem.W.codeIn K cdMi "_law_mixed" = true)
    (kMi : PySem.W.keepIn K (.ref fMi) = true)
    (aGr : PySem.W.nsIn K mainGlobals "_law_graph" = some (some (.ref fGr)))
    (lGr : K.lookup fGr = some ⟨ocGr, odGr, .func (PySem.W.fnOf "_law_graph" "_law_graph" (defArgs sGraph) (defBody sGraph) (defScope sGraph) .none kVGr dcGr pmGr anGr cdGr ctGr), slGr⟩)
    (cGr : PySem.W.codeIn K cdGr "_law_graph" = true)
    (kGr : PySem.W.keepIn K (.ref fGr) = true)
    (aLp : PySem.W.nsIn K mainGlobals "_law_pairs" = some (some (.ref fLp)))
    (lLp : K.lookup fLp = some ⟨ocLp, odLp, .func (PySem.W.fnOf "_law_pairs" "_law_pairs" (defArgs sLawPairs) (defBody sLawPairs) (defScope sLawPairs) .none kVLp dcLp pmLp anLp cdLp ctLp), slLp⟩)
    (cLp : PySem.W.codeIn K cdLp "_law_pairs" = true)
    (kLp : PySem.W.keepIn K (.ref fLp) = true)
    (aLa : PySem.W.nsIn K mainGlobals "law" = some (some (.ref fLa)))
    (lLa : K.lookup fLa = some ⟨ocLa, odLa, .func (PySem.W.fnOf "law" "law" (defArgs sLaw) (defBody sLaw) (defScope sLaw) .none kVLa dcLa pmLa anLa cdLa ctLa), slLa⟩)
    (cLa : PySem.W.codeIn K cdLa "law" = true)
    (kLa : PySem.W.keepIn K (.ref fLa) = true)
    (aIn : PySem.W.findIn K (.ref C) "__init__" = some (some (.ref fIn)))
    (iIn : PySem.W.isFn K (.ref fIn) = true)
    (lIn : K.lookup fIn = some ⟨ocIn, odIn, .func (PySem.W.fnOf "__init__" "Graph.__init__" (defArgs sInit) (defBody sInit) (defScope sInit) .none kVIn dcIn pmIn anIn cdIn ctIn), slIn⟩)
    (cIn : PySem.W.codeIn K cdIn "Graph.__init__" = true)
    (kIn : PySem.W.keepIn K (.ref fIn) = true)
    (pgC : PySem.W.plainGet K C Str.empty = true)
    (hdC : PySem.W.hasDictIn K C = true)
    (poC : PySem.W.plainOver K C = true)
    (saC : PySem.W.findIn K (.ref C) "__setattr__" = some (some (.builtin "object.__setattr__")))
    (mkC : PySem.W.makesIn K C = true)
    (kcC : PySem.W.keepIn K (.ref C) = true)
    (nV : PySem.W.findIn K (.ref C) "vertices" = some none)
    (nE : PySem.W.findIn K (.ref C) "edges" = some none)
    (z_len : PySem.W.nsIn K mainGlobals "len" = some none)
    (z_int : PySem.W.nsIn K mainGlobals "int" = some none)
    (z_list : PySem.W.nsIn K mainGlobals "list" = some none)
    (z_tuple : PySem.W.nsIn K mainGlobals "tuple" = some none)
    (z_isinstance : PySem.W.nsIn K mainGlobals "isinstance" = some none)
    (z_str : PySem.W.nsIn K mainGlobals "str" = some none)
    (z_all : PySem.W.nsIn K mainGlobals "all" = some none)
    (z_set : PySem.W.nsIn K mainGlobals "set" = some none)
    (z_sorted : PySem.W.nsIn K mainGlobals "sorted" = some none)
    (z_enumerate : PySem.W.nsIn K mainGlobals "enumerate" = some none)
    (z_min : PySem.W.nsIn K mainGlobals "min" = some none)
    (z_range : PySem.W.nsIn K mainGlobals "range" = some none)
    (x_LETTERS : PySem.W.nsIn K mainGlobals "LETTERS" = some (some (.str letters t0)))
    (x_LONGEST_NAME : PySem.W.nsIn K mainGlobals "LONGEST_NAME" = some (some (.int 8 t1)))
    (x_MOST_VERTICES : PySem.W.nsIn K mainGlobals "MOST_VERTICES" = some (some (.int 8 t2)))
    (x_MOST_EDGES : PySem.W.nsIn K mainGlobals "MOST_EDGES" = some (some (.int 18 t3))) :
    ∃ fd : FuncData, (∀ (s : Shared) (v : Value), BindsTo s fd ⟨[v], []⟩ [("_law_script", v)]) ∧ ∀ base : Heap, K.In base → base.Ns mainGlobals mg → FnOk l.prog w K mg base CX0 6 fa fd ["_law_script"] (spLaw K) := by
  have e := hfa.symm.trans (PySem.W.mg_of X G aLa)
  cases e
  have T : GTxt K mg C := ⟨⟨pgC, hdC, poC, saC⟩, nV, nE, PySem.W.mg_of X G aC⟩
  have FAp := fun_mk (st := sApart) lAp cAp kAp
  have bAp := FAp.binds (ps := ["one", "other"]) fun _ _ _ _ _ _ us hl => match us, hl with | [_, _], _ => rfl
  have mAp := PySem.W.mg_of X G aAp
  have FPa := fun_mk (st := sPairs) lPa cPa kPa
  have bPa := FPa.binds (ps := ["graph"]) fun _ _ _ _ _ _ us hl => match us, hl with | [_], _ => rfl
  have mPa := PySem.W.mg_of X G aPa
  have FRo := fun_mk (st := sRow) lRo cRo kRo
  have bRo := FRo.binds (ps := ["value"]) fun _ _ _ _ _ _ us hl => match us, hl with | [_], _ => rfl
  have mRo := PySem.W.mg_of X G aRo
  have FCo := fun_mk (st := sCouple) lCo cCo kCo
  have bCo := FCo.binds (ps := ["value"]) fun _ _ _ _ _ _ us hl => match us, hl with | [_], _ => rfl
  have mCo := PySem.W.mg_of X G aCo
  have FNa := fun_mk (st := sName) lNa cNa kNa
  have bNa := FNa.binds (ps := ["value"]) fun _ _ _ _ _ _ us hl => match us, hl with | [_], _ => rfl
  have mNa := PySem.W.mg_of X G aNa
  have FVe := fun_mk (st := sVerts) lVe cVe kVe
  have bVe := FVe.binds (ps := ["value"]) fun _ _ _ _ _ _ us hl => match us, hl with | [_], _ => rfl
  have mVe := PySem.W.mg_of X G aVe
  have FEg := fun_mk (st := sEdges) lEg cEg kEg
  have bEg := FEg.binds (ps := ["vertices", "value"]) fun _ _ _ _ _ _ us hl => match us, hl with | [_, _], _ => rfl
  have mEg := PySem.W.mg_of X G aEg
  have FAm := fun_mk (st := sAmong) lAm cAm kAm
  have bAm := FAm.binds (ps := ["vertices", "value"]) fun _ _ _ _ _ _ us hl => match us, hl with | [_, _], _ => rfl
  have mAm := PySem.W.mg_of X G aAm
  have FJo := fun_mk (st := sJoins) lJo cJo kJo
  have bJo := FJo.binds (ps := ["vertices", "value"]) fun _ _ _ _ _ _ us hl => match us, hl with | [_, _], _ => rfl
  have mJo := PySem.W.mg_of X G aJo
  have FCe := fun_mk (st := sCell) lCe cCe kCe
  have bCe := FCe.binds (ps := ["_law_script", "_law_k"]) fun _ _ _ _ _ _ us hl => match us, hl with | [_, _], _ => rfl
  have mCe := PySem.W.mg_of X G aCe
  have FSo := fun_mk (st := sSource) lSo cSo kSo
  have bSo := FSo.binds (ps := ["_law_cell"]) fun _ _ _ _ _ _ us hl => match us, hl with | [_], _ => rfl
  have mSo := PySem.W.mg_of X G aSo
  have FNe := fun_mk (st := sNext) lNe cNe kNe
  have bNe := FNe.binds (ps := ["_law_source", "_law_many"]) fun _ _ _ _ _ _ us hl => match us, hl with | [_, _], _ => rfl
  have mNe := PySem.W.mg_of X G aNe
  have FOn := fun_mk (st := sOne) lOn cOn kOn
  have bOn := FOn.binds (ps := ["_law_source", "_law_some"]) fun _ _ _ _ _ _ us hl => match us, hl with | [_, _], _ => rfl
  have mOn := PySem.W.mg_of X G aOn
  have FMi := fun_mk (st := sMixed) lMi cMi kMi
  have bMi := FMi.binds (ps := ["_law_source", "_law_some"]) fun _ _ _ _ _ _ us hl => match us, hl with | [_, _], _ => rfl
  have mMi := PySem.W.mg_of X G aMi
  have FGr := fun_mk (st := sGraph) lGr cGr kGr
  have bGr := FGr.binds (ps := ["_law_source", "_law_most"]) fun _ _ _ _ _ _ us hl => match us, hl with | [_, _], _ => rfl
  have mGr := PySem.W.mg_of X G aGr
  have FLp := fun_mk (st := sLawPairs) lLp cLp kLp
  have bLp := FLp.binds (ps := ["_law_edges"]) fun _ _ _ _ _ _ us hl => match us, hl with | [_], _ => rfl
  have mLp := PySem.W.mg_of X G aLp
  have FLa := fun_mk (st := sLaw) lLa cLa kLa
  have FIn := fun_mk (st := sInit) lIn cIn kIn
  have bIn := FIn.binds (ps := ["self", "vertices", "edges"]) fun _ _ _ _ _ _ us hl => match us, hl with | [_, _, _], _ => rfl
  have n_len := PySem.W.mg_none_of X G z_len
  have n_int := PySem.W.mg_none_of X G z_int
  have n_list := PySem.W.mg_none_of X G z_list
  have n_tuple := PySem.W.mg_none_of X G z_tuple
  have n_isinstance := PySem.W.mg_none_of X G z_isinstance
  have n_str := PySem.W.mg_none_of X G z_str
  have n_all := PySem.W.mg_none_of X G z_all
  have n_set := PySem.W.mg_none_of X G z_set
  have n_sorted := PySem.W.mg_none_of X G z_sorted
  have n_enumerate := PySem.W.mg_none_of X G z_enumerate
  have n_min := PySem.W.mg_none_of X G z_min
  have n_range := PySem.W.mg_none_of X G z_range
  have v_LETTERS := PySem.W.mg_of X G x_LETTERS
  have v_LONGEST_NAME := PySem.W.mg_of X G x_LONGEST_NAME
  have v_MOST_VERTICES := PySem.W.mg_of X G x_MOST_VERTICES
  have v_MOST_EDGES := PySem.W.mg_of X G x_MOST_EDGES
  refine ⟨PySem.W.fnOf "law" "law" (defArgs sLaw) (defBody sLaw) (defScope sLaw) .none kVLa dcLa pmLa anLa cdLa ctLa, fun s v => .of_eq rfl, fun base _ _ => ?_⟩
  have GNe : FnOk l.prog w K mg base CX0 1 fNe _ ["_law_source", "_law_many"] spNext := ok_next FNe
  have GOn : FnOk l.prog w K mg base CX0 2 fOn _ ["_law_source", "_law_some"] (spOne K) := ok_one FOn n_len mNe FNe bNe
  have GMi : FnOk l.prog w K mg base CX0 2 fMi _ ["_law_source", "_law_some"] (spMixed K) := ok_mixed FMi n_len n_list mNe FNe bNe
  have GRo : FnOk l.prog w K mg base CX0 1 fRo _ ["value"] spRow := ok_row FRo n_isinstance n_list n_tuple
  have GCo : FnOk l.prog w K mg base CX0 1 fCo _ ["value"] spCouple := ok_couple FCo n_isinstance n_len n_tuple
  have GAm : FnOk l.prog w K mg base CX0 1 fAm _ ["vertices", "value"] (spAmong K) := ok_among FAm n_isinstance n_str
  have GJo : FnOk l.prog w K mg base CX0 2 fJo _ ["vertices", "value"] (spJoins K) := ok_joins FJo mCo GCo kCo bCo mAm GAm kAm bAm
  have GNa : FnOk l.prog w K mg base CX0 1 fNa _ ["value"] spName := ok_name FNa n_isinstance n_str n_len n_all v_LETTERS v_LONGEST_NAME
  have GVe : FnOk l.prog w K mg base CX0 2 fVe _ ["value"] spVerts := ok_verts FVe n_len n_all n_set v_MOST_VERTICES mRo GRo kRo bRo mNa GNa kNa bNa
  have GEg : FnOk l.prog w K mg base CX0 3 fEg _ ["vertices", "value"] spEdges := ok_edges FEg n_len n_all n_set v_MOST_EDGES mRo GRo kRo bRo mJo GJo kJo bJo
  have GIn : FnOk l.prog w K mg base CX0 4 fIn _ ["self", "vertices", "edges"] (spInit C) := ok_init FIn T n_tuple n_sorted mVe GVe kVe bVe mEg GEg kEg bEg
  have GAp : FnOk l.prog w K mg base CX0 1 fAp _ ["one", "other"] spApart := ok_apart FAp
  have GPa : FnOk l.prog w K mg base CX0 2 fPa _ ["graph"] (spPairs C) := ok_pairs FPa T n_enumerate mAp GAp kAp bAp
  have GCe : FnOk l.prog w K mg base CX0 1 fCe _ ["_law_script", "_law_k"] (spCell K) := ok_cell FCe n_len
  have GSo : FnOk l.prog w K mg base CX0 1 fSo _ ["_law_cell"] spSource := ok_source FSo n_int
  have GGr : FnOk l.prog w K mg base CX0 3 fGr _ ["_law_source", "_law_most"] spGraph := ok_graph FGr n_len n_min mNe GNe kNe bNe mMi GMi kMi bMi mOn GOn kOn bOn
  have GLp : FnOk l.prog w K mg base CX0 1 fLp _ ["_law_edges"] spLawPairs := ok_lawpairs FLp n_sorted
  exact ok_law FLa T n_range n_isinstance n_list mCe GCe kCe bCe mSo GSo kSo bSo mGr GGr kGr bGr mMi GMi kMi bMi mLp GLp kLp bLp mPa GPa kPa bPa ⟨mkC, aIn, iIn, kcC⟩ GIn bIn
theorem walk {l : PySem.W.OpenLaw} {q : Program} {loose : List Str} {XP : (Str → Option Value) → Heap → Prop} {YP : World → Heap → Prop} {d : DefRec} {K : Params → PySem.W.Frag} (hn : l.most = some 63) (hdf : d.params.defaults = [])
    (hY : ∀ (w : World) (h : Heap), YP w h → (K w.params).In h)
    (F : ∀ (w : World) (mg : Str → Option Value) (fa : Addr) (h : Heap), (K w.params).In h → h.Ns mainGlobals mg → mg d.name = some (.ref fa) →
      ∃ fd : FuncData, (∀ (s : Shared) (u : Value), BindsTo s fd ⟨[u], []⟩ [("_law_script", u)]) ∧ ∀ base : Heap, (K w.params).In base → base.Ns mainGlobals mg → FnOk l.prog w (K w.params) mg base CX0 6 fa fd ["_law_script"] (spLaw (K w.params))) :
    PySem.W.WalkO q loose XP YP l.row.toRowW d [] (fun f vs => PySem.call f vs) :=
  L2.walk_of (n := 63) (k := 6) (x := "_law_script") (CX := fun _ => CX0) (sp := fun w => spLaw (K w.params)) hn (by decide) hdf ⟨rfl, by decide, by decide⟩ hY F (fun _ _ a ns hl _ hS => ⟨a, ns, rfl, hS, hl, fun _ => rfl⟩) fun _ _ _ _ _ z => z
end CP
open PySem PySem.W PyProof.Rows
set_option maxRecDepth 100000 in
set_option maxHeartbeats 0 in
theorem PySem.Challenge.cw_crossparity_k03_pairs_listed_holds : PySem.Challenge.rw_crossparity_k03_pairs_listed.Holds := by
  w_on; o_law; k_head; (case hw => w_witness2)
  k_fill
  refine CP.walk (l := PySem.Challenge.rw_crossparity_k03_pairs_listed) rfl rfl (fun w h Y => PySem.W.kIn_of Y) ?F
  case F =>
    intro w mg fa h KX G hmg
    refine' CP.all_mk KX G hmg ?aC ?aAp ?lAp ?cAp ?kAp ?aPa ?lPa ?cPa ?kPa ?aRo ?lRo ?cRo ?kRo ?aCo ?lCo ?cCo ?kCo ?aNa ?lNa ?cNa ?kNa ?aVe ?lVe ?cVe ?kVe ?aEg ?lEg ?cEg ?kEg ?aAm ?lAm ?cAm ?kAm ?aJo ?lJo ?cJo ?kJo ?aCe ?lCe ?cCe ?kCe ?aSo ?lSo ?cSo ?kSo ?aNe ?lNe ?cNe ?kNe ?aOn ?lOn ?cOn ?kOn ?aMi ?lMi ?cMi ?kMi ?aGr ?lGr ?cGr ?kGr ?aLp ?lLp ?cLp ?kLp ?aLa ?lLa ?cLa ?kLa ?aIn ?iIn ?lIn ?cIn ?kIn ?pgC ?hdC ?poC ?saC ?mkC ?kcC ?nV ?nE ?z_len ?z_int ?z_list ?z_tuple ?z_isinstance ?z_str ?z_all ?z_set ?z_sorted ?z_enumerate ?z_min ?z_range ?x_LETTERS ?x_LONGEST_NAME ?x_MOST_VERTICES ?x_MOST_EDGES
    (case aC => k_is)
    (case aAp => k_is)
    (case lAp => k_is)
    (case cAp => k_is)
    (case kAp => k_is)
    (case aPa => k_is)
    (case lPa => k_is)
    (case cPa => k_is)
    (case kPa => k_is)
    (case aRo => k_is)
    (case lRo => k_is)
    (case cRo => k_is)
    (case kRo => k_is)
    (case aCo => k_is)
    (case lCo => k_is)
    (case cCo => k_is)
    (case kCo => k_is)
    (case aNa => k_is)
    (case lNa => k_is)
    (case cNa => k_is)
    (case kNa => k_is)
    (case aVe => k_is)
    (case lVe => k_is)
    (case cVe => k_is)
    (case kVe => k_is)
    (case aEg => k_is)
    (case lEg => k_is)
    (case cEg => k_is)
    (case kEg => k_is)
    (case aAm => k_is)
    (case lAm => k_is)
    (case cAm => k_is)
    (case kAm => k_is)
    (case aJo => k_is)
    (case lJo => k_is)
    (case cJo => k_is)
    (case kJo => k_is)
    (case aCe => k_is)
    (case lCe => k_is)
    (case cCe => k_is)
    (case kCe => k_is)
    (case aSo => k_is)
    (case lSo => k_is)
    (case cSo => k_is)
    (case kSo => k_is)
    (case aNe => k_is)
    (case lNe => k_is)
    (case cNe => k_is)
    (case kNe => k_is)
    (case aOn => k_is)
    (case lOn => k_is)
    (case cOn => k_is)
    (case kOn => k_is)
    (case aMi => k_is)
    (case lMi => k_is)
    (case cMi => k_is)
    (case kMi => k_is)
    (case aGr => k_is)
    (case lGr => k_is)
    (case cGr => k_is)
    (case kGr => k_is)
    (case aLp => k_is)
    (case lLp => k_is)
    (case cLp => k_is)
    (case kLp => k_is)
    (case aLa => k_is)
    (case lLa => k_is)
    (case cLa => k_is)
    (case kLa => k_is)
    (case aIn => k_is)
    (case iIn => k_is)
    (case lIn => k_is)
    (case cIn => k_is)
    (case kIn => k_is)
    (case pgC => k_is)
    (case hdC => k_is)
    (case poC => k_is)
    (case saC => k_is)
    (case mkC => k_is)
    (case kcC => k_is)
    (case nV => k_is)
    (case nE => k_is)
    (case z_len => k_is)
    (case z_int => k_is)
    (case z_list => k_is)
    (case z_tuple => k_is)
    (case z_isinstance => k_is)
    (case z_str => k_is)
    (case z_all => k_is)
    (case z_set => k_is)
    (case z_sorted => k_is)
    (case z_enumerate => k_is)
    (case z_min => k_is)
    (case z_range => k_is)
    (case x_LETTERS => k_is)
    (case x_LONGEST_NAME => k_is)
    (case x_MOST_VERTICES => k_is)
    (case x_MOST_EDGES => k_is)
