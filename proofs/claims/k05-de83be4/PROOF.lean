import PyProof.Rows.All
import Wide.All
import OpenK.AllK
import Wide.FinOn
import HandS.ForMost
import HandS.TupSets
import PyProof.ReprRoads
import HandS.ExcInit
import HandS.ExcOwn
import HandS.ExcBuiltin
import HandS.ExcField
import HandS.IsInst
import KE.KExcIs
import HandS.Walk
import PyProof.Rows.ReprShort
import PyProof.Rows.RegFStrParts
import HandS.Style
import KE.LtData
import KE.RegKIsAll
import PySem.Challenge.RW_crossparity_k05_errors
set_option Elab.async false
set_option linter.all false
set_option maxRecDepth 100000
set_option maxHeartbeats 4000000
/-! Sets whose elements are objects compared by value (tuples of texts, tuples of such tuples): set(xs), s.add(x), x in s, len(s). -/
namespace CP
open PySem PySem.Spec PyProof.Rows L2

/-- how objects serve as keys: key k stands at address a; its hash; == , hash and the two quiet questions -/
structure KF (P : Program) (w : World) (κ : Type) [DecidableEq κ] where
  At : Heap → κ → Addr → Prop
  hs : κ → Int
  eqb : ∀ {A : Around} {E : Value → Shared → Prop} {s : Shared} {x y : κ} {a b : Addr} {Q : Bool → Shared → Prop}, A.units + 8 < cLine → At s.heap x a → At s.heap y b → Q (decide (x = y)) s → wpAny (model P w) A (eqBool (.ref a) (.ref b)) Q E s
  seen : ∀ {A : Around} {E : Value → Shared → Prop} {s : Shared} {x : κ} {b : Addr} {Q : Bool → Shared → Prop} {ys : List Value}, At s.heap x b → (∀ y ∈ ys, ∃ z c, y = Value.ref c ∧ At s.heap z c) → Q false s → wpAny (model P w) A (searchCouldBeSeen (.ref b) ys) Q E s
  hby : ∀ {A : Around} {E : Value → Shared → Prop} {s : Shared} {x : κ} {b : Addr} {Q : Bool → Shared → Prop}, At s.heap x b → (∀ v, Q v s) → wpAny (model P w) A (hashByValue 8 (.ref b)) Q E s
  pyh : ∀ {A : Around} {E : Value → Shared → Prop} {s : Shared} {x : κ} {b : Addr} {Q : Int → Shared → Prop}, A.units + 8 < cLine → At s.heap x b → (∀ n, Q (hs x) { s with toks := s.toks + n }) → wpAny (model P w) A (pyHash (.ref b)) Q E s
  other : ∀ {h h' : Heap} {x : κ} {a b : Addr} {o : Obj} {es : Array (Int × Value)} {ep : Nat} {t : SetTable}, At h x b → h.get? a = some o → o.data = .set es ep t → Heap.SameBut a h h' → At h' x b
  kept : ∀ {h h' : Heap} {x : κ} {b : Addr}, At h x b → (∀ c o, h.get? c = some o → h'.get? c = some o) → At h' x b

variable {P : Program} {w : World} {κ : Type} [DecidableEq κ] {F : KF P w κ} {A : Around} {E : Value → Shared → Prop} {s : Shared}

def rowsK (F : KF P w κ) (L : List (Addr × κ)) : List (Int × Value) := L.map fun p => (F.hs p.2, Value.ref p.1)
def hsK (F : KF P w κ) (L : List (Addr × κ)) : List Int := L.map fun p => F.hs p.2

/-- at a stands a set whose elements are the objects L, no two keys alike -/
structure SK (F : KF P w κ) (h : Heap) (a : Addr) (L : List (Addr × κ)) (es : Array (Int × Value)) (ep : Nat) (t : SetTable) : Prop where
  obj : ∃ o, h.get? a = some o ∧ o.ExactSet ∧ o.data = .set es ep t
  row : es.toList = rowsK F L
  tab : TabOk t (hsK F L)
  nod : (L.map (·.2)).Nodup
  ats : ∀ p ∈ L, F.At h p.2 p.1
  roo : L.length * 5 < t.mask * 3
  few : L.length < 64

section
variable {a : Addr} {L : List (Addr × κ)} {es : Array (Int × Value)} {ep : Nat} {t : SetTable}
theorem rowsK_len : (rowsK F L).length = L.length := List.length_map ..
theorem hsK_len : (hsK F L).length = L.length := List.length_map ..
theorem size_of_rows (e : es.toList = rowsK F L) : es.size = L.length := by
  rw [← Array.length_toList, e, rowsK_len]
theorem SK.size (R : SK F s.heap a L es ep t) : es.size = L.length := size_of_rows R.row
theorem entry_of_rows (e : es.toList = rowsK F L) {i : Nat} {p : Addr × κ} (hp : L[i]? = some p) : es[i]? = some (F.hs p.2, Value.ref p.1) := by
  rw [← Array.getElem?_toList, e, rowsK, List.getElem?_map, hp]; rfl
theorem fits_by (h1 : t.place.size = es.size) (h2 : t.dummies = #[]) (h3 : es.size ≤ t.mask) : t.fits es.size = true := by
  simp only [SetTable.fits, SetTable.fill, h2, Bool.and_eq_true, beq_iff_eq, decide_eq_true_eq]
  exact ⟨h1, by rw [h1]; exact h3⟩
theorem SK.fit (R : SK F s.heap a L es ep t) : t.fits es.size = true := by
  have q := R.tab.sz; rw [hsK_len] at q
  have r := R.size; have u := R.roo
  exact fits_by (by omega) R.tab.dm (by omega)
theorem SK.odd (R : SK F s.heap a L es ep t) : ¬ t.gaveWay = true := by
  simp only [SetTable.gaveWay, mask_odd R.tab.mok]; decide
theorem nth_dummy (m : Nat) : ∀ (n : Nat) (p : SetTable.Probe), p.dummy = none → (nth m p n).dummy = none
  | 0, _, e => e
  | n + 1, p, e => nth_dummy m n (adv m p) (by unfold adv; split <;> exact e)

/-- the walk's start for a hash -/
abbrev st0 (m : Nat) (h : Int) : SetTable.Probe := runAt m (SetTable.bits h % (m + 1)) (SetTable.bits h)

/-- looking for k, from the c-th place of its way on; K is the first empty place -/
theorem look_from (R : SK F s.heap a L es ep t) {x : Addr} {k : κ} (hx : F.At s.heap k x) (room : A.units + 8 < cLine) {K : Nat} (lim : K < 10 * SetTable.turns t.mask)
    (fre : way t.mask (F.hs k) K ∉ t.place.toList) (occ : ∀ c, c < K → way t.mask (F.hs k) c ∈ t.place.toList) {Q : SetFound → Shared → Prop}
    (yes : k ∈ L.map (·.2) → Q (.there none) s) (no : k ∉ L.map (·.2) → Q (.free (way t.mask (F.hs k) K) false) s) :
    ∀ (f c : Nat) (st : Option SetTable.Probe), st.getD (t.probeStart (F.hs k)) = nth t.mask (st0 t.mask (F.hs k)) c → c ≤ K → K - c < f →
      (∀ (i : Nat) p, L[i]? = some p → p.2 = k → ∃ d, c ≤ d ∧ d < K ∧ t.place.toList[i]? = some (way t.mask (F.hs k) d)) →
      wpAny (model P w) A (setSearchFrom a (.ref x) (F.hs k) true f st) Q E s
  | 0, _, _, _, _, z, _ => absurd z (Nat.not_lt_zero _)
  | f + 1, c, st, est, hc, hf, rest => by
    obtain ⟨o, ob1, _, ob2⟩ := R.obj
    rw [setSearchFrom_succ]
    refine wpAny_bind (wpAny_setState_of ob1 ob2 R.fit ?_); dsimp only
    refine wp_if_neg R.odd ?_
    try refine wpAny_bind (wpAny_pure ?_)
    have shift : ∀ q, nth t.mask (nth t.mask (st0 t.mask (F.hs k)) c) q = nth t.mask (st0 t.mask (F.hs k)) (c + q) := fun q => (nth_add t.mask c _ q).symm
    have place : ∀ q, (nth t.mask (nth t.mask (st0 t.mask (F.hs k)) c) q).j = way t.mask (F.hs k) (c + q) := fun q => congrArg SetTable.Probe.j (shift q)
    have look := go_spec t R.tab.ris R.tab.dm (fun i => (es[i]?.map (·.1)).getD 0) (F.hs k) (10 * SetTable.turns t.mask) (K - c) _ (nth_dummy t.mask c (st0 t.mask (F.hs k)) rfl) (by omega)
      (fun q hq => by rw [place]; exact occ (c + q) (by omega)) (by rw [place, Nat.add_sub_cancel' hc]; exact fre)
    have hashOf : ∀ (i : Nat) p, L[i]? = some p → (es[i]?.map (·.1)).getD 0 = F.hs p.2 := fun i p hp => by rw [entry_of_rows R.row hp]; rfl
    rcases look with ⟨q, i, hq, hi, _, none_before, ans⟩ | ⟨none_before, ans⟩
    · have ans' : t.probe (fun i => (es[i]?.map (·.1)).getD 0) (F.hs k) (st.getD (t.probeStart (F.hs k))) = some (.candidate (way t.mask (F.hs k) (c + q)) i (nth t.mask (st0 t.mask (F.hs k)) (c + (q + 1)))) := by
        rw [est, ← place, ← shift]; exact ans
      rw [ans']; dsimp only
      rw [place] at hi
      have inL : i < L.length := by
        have u := (List.getElem?_eq_some_iff.mp hi).1
        have v := R.tab.sz; rw [hsK_len] at v; rw [Array.length_toList] at u; omega
      obtain ⟨p, hp⟩ : ∃ p, L[i]? = some p := ⟨_, List.getElem?_eq_getElem inL⟩
      have pL : p ∈ L := List.mem_of_getElem? hp
      have go_on : wpAny (model P w) A (searchRest a (.ref x) (F.hs k) true f es t (way t.mask (F.hs k) (c + q)) i (nth t.mask (st0 t.mask (F.hs k)) (c + (q + 1)))) Q E s := by
        unfold searchRest
        rw [entry_of_rows R.row hp]; dsimp only
        refine wpAny_bind (wpAny_holding (F.eqb room (R.ats p pL) hx ?_))
        refine wpAny_bind (wpAny_setState_of ob1 ob2 R.fit ?_); dsimp only
        by_cases same : p.2 = k
        · refine wp_if_pos (by simp [same]) (wpAny_pure (yes (List.mem_map.mpr ⟨p, pL, same⟩)))
        · refine wp_if_neg (by simp [same]) ?_
          try refine wpAny_bind (wpAny_pure ?_)
          rw [sameMem]; dsimp only
          have live := slot_live R.tab.ris hi
          simp only [if_true, live, entry_of_rows R.row hp]
          refine wpAny_bind (wpAny_isSame_ref_self (wpAny_bind (wpAny_pure ?_)))
          simp only [if_true]
          refine wp_if_neg (by simp [same]) (look_from R hx room lim fre occ yes no f (c + (q + 1)) _ rfl (by omega) (by omega) fun j r hj er => ?_)
          obtain ⟨d, d1, d2, d3⟩ := rest j r hj er
          refine ⟨d, ?_, d2, d3⟩
          rcases Nat.lt_trichotomy d (c + q) with lt | eq | gt
          · exact absurd ((hashOf j r hj).trans (congrArg F.hs er)) (none_before (d - c) j (by omega) (by rw [place, Nat.add_sub_cancel' d1]; exact d3))
          · rw [eq] at d3
            have l2 := slot_live R.tab.ris d3
            rw [live] at l2; injection l2 with l2
            rw [← l2, hp] at hj
            exact absurd ((congrArg Prod.snd (Option.some.inj hj)).trans er) same
          · omega
      by_cases led : t.led = true
      · refine wp_if_neg (by simp [led]) ?_
        try refine wpAny_bind (wpAny_pure ?_)
        exact go_on
      · refine wp_if_pos (by simp [led]) (wpAny_bind (F.seen hx (fun y hy => ?_) ?_))
        · obtain ⟨r, hr, rfl⟩ := List.mem_map.mp hy
          have hr1 : r ∈ es.toList := by
            have : r ∈ es ∧ r.1 = F.hs k := by simpa using hr
            simpa using this.1
          rw [R.row] at hr1
          obtain ⟨p2, hp2, rfl⟩ := List.mem_map.mp hr1
          exact ⟨p2.2, p2.1, rfl, R.ats p2 hp2⟩
        · refine wp_if_neg (by decide) ?_
          try refine wpAny_bind (wpAny_pure ?_)
          exact go_on
    · have ans' : t.probe (fun i => (es[i]?.map (·.1)).getD 0) (F.hs k) (st.getD (t.probeStart (F.hs k))) = some (.empty (way t.mask (F.hs k) K) none) := by
        have e2 := place (K - c); rw [Nat.add_sub_cancel' hc] at e2
        rw [est, ← e2]; exact ans
      rw [ans']; dsimp only
      refine wpAny_pure (no fun hm => ?_)
      obtain ⟨r, hr, er⟩ := List.mem_map.mp hm
      obtain ⟨j, hj⟩ := List.getElem?_of_mem hr
      obtain ⟨d, d1, d2, d3⟩ := rest j r hj er
      exact none_before (d - c) j (by omega) (by rw [place, Nat.add_sub_cancel' d1]; exact d3) ((hashOf j r hj).trans (congrArg F.hs er))

theorem look_for (R : SK F s.heap a L es ep t) {x : Addr} {k : κ} (hx : F.At s.heap k x) (room : A.units + 8 < cLine) {Q : SetFound → Shared → Prop} (yes : k ∈ L.map (·.2) → Q (.there none) s)
    (no : ∀ K, k ∉ L.map (·.2) → way t.mask (F.hs k) K ∉ t.place.toList → (∀ c, c < K → way t.mask (F.hs k) c ∈ t.place.toList) → Q (.free (way t.mask (F.hs k) K) false) s) :
    wpAny (model P w) A (setSearch a (.ref x) (F.hs k) true) Q E s := by
  have u := R.roo
  obtain ⟨K, lim, fre, occ⟩ := R.tab.first (by rw [hsK_len]; omega) (F.hs k)
  have small : 10 * SetTable.turns t.mask ≤ 1420 := by
    unfold SetTable.turns; rcases R.tab.mok with e | e | e <;> omega
  unfold setSearch
  refine look_from R hx room lim fre occ yes (fun z => no K z fre occ) 100000 0 none rfl (Nat.zero_le _) (by omega) fun i p hp ek => ?_
  have hh : (hsK F L)[i]? = some (F.hs k) := by rw [hsK, List.getElem?_map, hp, ← ek]; rfl
  have hl : i < t.place.toList.length := by
    have v := R.tab.sz; rw [hsK_len] at v
    have u := (List.getElem?_eq_some_iff.mp hp).1; rw [Array.length_toList]; omega
  obtain ⟨c, c1, c2⟩ := R.tab.before fre hh (List.getElem?_eq_getElem hl)
  exact ⟨c, Nat.zero_le _, c1, by rw [List.getElem?_eq_getElem hl, c2]⟩
end
section
variable {a : Addr} {L : List (Addr × κ)} {es : Array (Int × Value)} {ep : Nat} {t : SetTable}
theorem pick_rows (L : List (Addr × κ)) (e : es.toList = rowsK F L) : ∀ l : List Nat, (∀ i ∈ l, i < L.length) →
    l.filterMap (fun i => es[i]?) = rowsK F (l.filterMap fun i => L[i]?) ∧ hsK F (l.filterMap fun i => L[i]?) = l.map fun i => (es.map (·.1)).getD i 0
  | [], _ => ⟨rfl, rfl⟩
  | i :: l, hl => by
    have hi := hl i List.mem_cons_self
    obtain ⟨p, hp⟩ : ∃ p, L[i]? = some p := ⟨_, List.getElem?_eq_getElem hi⟩
    obtain ⟨e1, e2⟩ := pick_rows L e l fun j hj => hl j (List.mem_cons_of_mem _ hj)
    have q := entry_of_rows e hp
    have q2 : (es.map (·.1)).getD i 0 = F.hs p.2 := by
      rw [Array.getD_eq_getD_getElem?, Array.getElem?_map, q]; rfl
    refine ⟨?_, ?_⟩
    · rw [List.filterMap_cons_some q, List.filterMap_cons_some hp, e1]; rfl
    · rw [List.filterMap_cons_some hp, List.map_cons, q2, ← e2]; rfl
theorem pick_all {α : Type} (L : List α) : ∀ n, n ≤ L.length → (List.range n).filterMap (fun i => L[i]?) = L.take n
  | 0, _ => rfl
  | n + 1, hn => by
    rw [List.range_succ, List.filterMap_append, pick_all L n (Nat.le_of_lt hn), List.take_succ, List.filterMap_cons, List.getElem?_eq_getElem hn]; rfl
theorem pick_perm {α : Type} (L : List α) {l : List Nat} (h : l.Perm (List.range L.length)) : (l.filterMap fun i => L[i]?).Perm L := by
  have q := h.filterMap fun i => L[i]?
  rw [pick_all L _ (Nat.le_refl _), List.take_length] at q
  exact q

/-- the table laid anew, with more places -/
theorem lay_anew {o : Obj} (ob1 : s.heap.get? a = some o) (obx : o.ExactSet) (ob2 : o.data = .set es ep t) (row : es.toList = rowsK F L) (pz : t.place.size = es.size) (dm : t.dummies = #[]) (le : es.size ≤ t.mask)
    (nod : (L.map (·.2)).Nodup) (ats : ∀ p ∈ L, F.At s.heap p.2 p.1) (few : L.length < 64) {n M : Nat} (hM : SetTable.sizeAbove n - 1 = M) (ok : MaskOk M) (most : SetTable.sizeAbove n ≤ 128) (roo : L.length * 5 < M * 3) {Q : Unit → Shared → Prop}
    (hQ : ∀ h' L' es' ep' t', Heap.SameBut a s.heap h' → SK F h' a L' es' ep' t' → L'.Perm L → Q () { s with heap := h' }) : wpAny (model P w) A (setRelay a n) Q E s := by
  have sz := size_of_rows row
  obtain ⟨t', ord, er, pm, T, em, _, epl, _⟩ := relaid_ok t (hs := es.map (·.1)) (wanted := n) hM ok (by rw [Array.size_map, sz]; omega)
  rw [Array.size_map, sz] at pm
  obtain ⟨r1, r2⟩ := pick_rows L row ord.toList fun i hi => List.mem_range.mp (pm.mem_iff.mp hi)
  have pL := pick_perm L pm
  rw [← r2] at T
  generalize (ord.toList.filterMap fun i => L[i]?) = L2 at r1 r2 pL T
  have r3 : (ord.filterMap (es[·]?)).toList = rowsK F L2 := by rw [← r1]; simp
  have z2 : (ord.filterMap (es[·]?)).size = es.size := by rw [size_of_rows r3, pL.length_eq, sz]
  rw [setRelay_eq]
  refine wpAny_bind (wpAny_setState_of ob1 ob2 (fits_by pz dm le) ?_); dsimp only
  refine wp_if_neg (by rw [sizeLine_eq]; omega) ?_
  try refine wpAny_bind (wpAny_pure ?_)
  rw [er]; dsimp only
  refine wpAny_bind (wp_if_neg (by rw [z2]; simp) ?_)
  try refine wpAny_bind (wpAny_pure ?_)
  refine wpAny_pure ?_; dsimp only
  refine wpAny_storeSet_of ob1 ob2 ?_ (by rw [z2, sz, sizeLine_eq]; omega)
  have sb : Heap.SameBut a s.heap (s.heap.update a (Obj.putSet (ord.filterMap (es[·]?)) t')) := Heap.SameBut.update ..
  exact hQ _ L2 _ _ _ sb ⟨⟨_, store_at ob1 ob2, ⟨obx.1, obx.2.1, obx.2.2⟩, rfl⟩, r3, T, (pL.map (·.2)).nodup_iff.mpr nod, fun p hp => F.other (ats p (pL.mem_iff.mp hp)) ob1 ob2 sb, by rw [pL.length_eq, em]; exact roo, by rw [pL.length_eq]; exact few⟩ pL

def marked (v : Bool) (t : SetTable) : SetTable := if v = true then t else { t with plain := false }
theorem plainly (v : Bool) {hs : List Int} (T : TabOk t hs) : TabOk (marked v t) hs := by
  cases v
  · exact ⟨T.ris, T.dm, T.sz, T.mok, T.bd, T.reach⟩
  · exact T
theorem marked_mask (v : Bool) (t : SetTable) : (marked v t).mask = t.mask := by cases v <;> rfl
theorem marked_fill (v : Bool) (t : SetTable) : (marked v t).fill = t.fill := by cases v <;> rfl
theorem by_value {β : Type} {x : Addr} {k : κ} (hx : F.At s.heap k x) {f : Bool → Sem β} {Q : β → Shared → Prop} (h : ∀ v, wpAny (model P w) A (f v) Q E s) : wpAny (model P w) A (if t.plain = true then (hashByValue 8 (.ref x) >>= f) else (pure true >>= f)) Q E s := by
  by_cases c : t.plain = true
  · exact wp_if_pos c (wpAny_bind (F.hby hx h))
  · exact wp_if_neg c (wpAny_bind (wpAny_pure (h true)))
/-- one element more -/
theorem put_in (R : SK F s.heap a L es ep t) {x : Addr} {k : κ} (hx : F.At s.heap k x) (room : A.units + 8 < cLine) (fewer : L.length + 1 < 64) {Q : Bool → Shared → Prop}
    (hQ : ∀ b h' L' es' ep' t', Heap.SameBut a s.heap h' → SK F h' a L' es' ep' t' → (k ∈ L.map (·.2) → L' = L) → (k ∉ L.map (·.2) → L'.Perm ((x, k) :: L)) → Q b { s with heap := h' }) :
    wpAny (model P w) A (setAddHashed a (.ref x) (F.hs k)) Q E s := by
  obtain ⟨o, ob1, obx, ob2⟩ := R.obj
  have sz := R.size
  have roo := R.roo
  unfold setAddHashed
  refine wpAny_holding ?_
  rw [show (100000 : Nat) = 99999 + 1 from rfl, setAddHashedIn_succ]
  refine wpAny_bind (wpAny_setState_of ob1 ob2 R.fit ?_); dsimp only
  refine wp_if_neg (by simp [byScan, Value.scannable]) ?_
  try refine wpAny_bind (wpAny_pure ?_)
  refine wpAny_bind (look_for R hx room (fun hm => ?_) fun K hm fre occ => ?_)
  · exact wpAny_pure (hQ false s.heap L es ep t (Heap.SameBut.refl a s.heap) R (fun _ => rfl) fun z => absurd hm z)
  · dsimp only
    refine wpAny_bind (wpAny_setState_of ob1 ob2 R.fit ?_); dsimp only
    obtain ⟨q1, q2, q3, q4, q5, q6, q7, q8, q9⟩ := R.tab.put fre occ
    generalize t.put (way t.mask (F.hs k) K) = pt at q1 q3 q4 q5 q6 q7 q8 q9 ⊢
    obtain ⟨t1, n⟩ := pt
    dsimp only at q1 q3 q4 q5 q6 q7 q8 q9 ⊢
    subst q1
    refine by_value hx fun v => ?_
    replace q3 := plainly v q3
    replace q4 : (marked v t1).mask = t.mask := (marked_mask v t1).trans q4
    replace q9 : (marked v t1).fill = _ := (marked_fill v t1).trans q9
    show wpAny _ _ (storeSet a _ (marked v t1) >>= fun _ => if (!false && (marked v t1).tooFull) = true then (setRelay a _ >>= fun _ => pure true) else pure true) _ _ _
    generalize marked v t1 = t1 at q3 q4 q9 ⊢
    generalize SetTable.below t.place (way t.mask (F.hs k) K) = n at q2 q3 ⊢
    have pm := put_perm L n (x, k)
    have row1 : (SetTable.insertAt es n (F.hs k, Value.ref x)).toList = rowsK F (L.take n ++ (x, k) :: L.drop n) := by
      rw [SetTable.toList_insertAt, R.row]
      simp only [rowsK, List.map_append, List.map_cons, List.map_take, List.map_drop]
    have hh1 : hsK F (L.take n ++ (x, k) :: L.drop n) = (hsK F L).take n ++ F.hs k :: (hsK F L).drop n := by
      simp only [hsK, List.map_append, List.map_cons, List.map_take, List.map_drop]
    rw [← hh1] at q3
    have nod1 : ((L.take n ++ (x, k) :: L.drop n).map (·.2)).Nodup := (pm.map (·.2)).nodup_iff.mpr (by rw [List.map_cons]; exact List.nodup_cons.mpr ⟨hm, R.nod⟩)
    generalize SetTable.insertAt es n (F.hs k, Value.ref x) = es1 at row1 ⊢
    generalize L.take n ++ (x, k) :: L.drop n = L1 at pm q3 nod1 row1
    have len1 : L1.length = L.length + 1 := pm.length_eq
    have sz1 : es1.size = L.length + 1 := (size_of_rows row1).trans len1
    refine wpAny_bind (wpAny_storeSet_of ob1 ob2 ?_ (by rw [sz1, sizeLine_eq]; omega))
    have sb : Heap.SameBut a s.heap (s.heap.update a (Obj.putSet es1 t1)) := Heap.SameBut.update ..
    have ob3 := store_at (es' := es1) (t' := t1) ob1 ob2
    generalize s.heap.update a (Obj.putSet es1 t1) = h1 at sb ob3 ⊢
    have ats1 : ∀ p ∈ L1, F.At h1 p.2 p.1 := fun p hp => by
      rcases List.mem_cons.mp (pm.mem_iff.mp hp) with rfl | hp
      · exact F.other hx ob1 ob2 sb
      · exact F.other (R.ats p hp) ob1 ob2 sb
    have full : t1.tooFull = decide ((L.length + 1) * 5 ≥ t1.mask * 3) := by
      unfold SetTable.tooFull; rw [q9, hsK_len]
    by_cases hf : (L.length + 1) * 5 ≥ t1.mask * 3
    · rw [full, decide_eq_true hf]
      first
        | (refine wpAny_bind ?_; refine wp_if_pos (by simp) ?_)
        | (refine wp_if_pos (by simp) ?_; refine wpAny_bind ?_)
      rw [sz]
      have pz1 : t1.place.size = es1.size := by have v := q3.sz; rw [hsK_len, len1] at v; rw [v, sz1]
      have two : (t.mask = 7 ∧ L.length = 4) ∨ (t.mask = 31 ∧ L.length = 18) := by
        rw [q4] at hf
        rcases R.tab.mok with e | e | e <;> rw [e] at hf roo
        · exact .inl ⟨e, by omega⟩
        · exact .inr ⟨e, by omega⟩
        · omega
      have more : ∀ M, SetTable.sizeAbove (SetTable.grown (L.length + 1)) - 1 = M → MaskOk M → SetTable.sizeAbove (SetTable.grown (L.length + 1)) ≤ 128 → (L.length + 1) * 5 < M * 3 →
          wpAny (model P w) A (setRelay a (SetTable.grown (L.length + 1))) (fun _ s' => wpAny (model P w) A (pure true) Q E s') E { s with heap := h1 } := fun M m1 m2 m3 m4 =>
        lay_anew (s := { s with heap := h1 }) ob3 ⟨obx.1, obx.2.1, obx.2.2⟩ rfl row1 pz1 q3.dm (by rw [sz1, q4]; rcases two with ⟨e, e2⟩ | ⟨e, e2⟩ <;> omega) nod1 ats1 (by rw [len1]; exact fewer) m1 m2 m3 (by rw [len1]; exact m4)
          fun h2 L2 es2 ep2 t2 sb2 R2 pm2 => wpAny_pure (hQ true h2 L2 es2 ep2 t2 (sb.trans sb2) R2 (fun z => absurd z hm) fun _ => pm2.trans pm)
      rcases two with ⟨_, e2⟩ | ⟨_, e2⟩
      · exact more 31 (by rw [e2, size_20]) (.inr (.inl rfl)) (by rw [e2, size_20]; decide) (by omega)
      · exact more 127 (by rw [e2, size_76]) (.inr (.inr rfl)) (by rw [e2, size_76]; decide) (by omega)
    · rw [full, decide_eq_false hf]
      first
        | refine wp_if_neg (by simp) ?_
        | (refine wpAny_bind ?_; refine wp_if_neg (by simp) ?_; refine wpAny_pure ?_)
      exact wpAny_pure (hQ true h1 L1 es1 (ep + 1) t1 sb ⟨⟨_, ob3, ⟨obx.1, obx.2.1, obx.2.2⟩, rfl⟩, row1, q3, nod1, ats1, by rw [len1]; omega, by rw [len1]; exact fewer⟩ (fun z => absurd z hm) fun _ => pm)
end
section
/-- what the set has from the first i of ks -/
structure Has (ks : List (Addr × κ)) (i : Nat) (L : List (Addr × κ)) : Prop where
  sub : ∀ p ∈ L, p ∈ ks.take i
  all : ∀ p ∈ ks.take i, p.2 ∈ L.map (·.2)
  len : L.length ≤ i
  full : (ks.map (·.2)).Nodup → L.length = i
  once : L.length = i → ((ks.take i).map (·.2)).Nodup
theorem take_one {α : Type} {l : List α} {i : Nat} {x : α} (h : l[i]? = some x) : l.take (i + 1) = l.take i ++ [x] := by rw [List.take_succ, h]; rfl
theorem Has.none (ks : List (Addr × κ)) : Has ks 0 [] := ⟨(fun _ z => nomatch z), (fun _ z => by simp at z), Nat.le_refl _, fun _ => rfl, fun _ => List.nodup_nil⟩
theorem Has.next {ks L L' : List (Addr × κ)} {i : Nat} {x : Addr × κ} (g : Has ks i L) (hx : ks[i]? = some x) (c1 : x.2 ∈ L.map (·.2) → L' = L) (c2 : x.2 ∉ L.map (·.2) → L'.Perm (x :: L)) : Has ks (i + 1) L' := by
  by_cases c : x.2 ∈ L.map (·.2)
  · rw [c1 c]
    refine ⟨fun p hp => ?_, fun p hp => ?_, Nat.le_succ_of_le g.len, fun nd => ?_, fun z => absurd z (Nat.ne_of_lt (Nat.lt_succ_of_le g.len))⟩
    · rw [take_one hx]; exact List.mem_append_left _ (g.sub p hp)
    · rw [take_one hx] at hp
      rcases List.mem_append.mp hp with z | z
      · exact g.all p z
      · rw [List.mem_singleton.mp z]; exact c
    · exfalso
      obtain ⟨p, hp, e⟩ := List.mem_map.mp c
      obtain ⟨j, hj⟩ := List.getElem?_of_mem (g.sub p hp)
      have hji : j < i := Nat.lt_of_lt_of_le (List.getElem?_eq_some_iff.mp hj).1 (List.length_take_le _ _)
      rw [List.getElem?_take_of_lt hji] at hj
      have a1 : (ks.map (·.2))[j]? = some x.2 := by rw [List.getElem?_map, hj, ← e]; rfl
      have a2 : (ks.map (·.2))[i]? = some x.2 := by rw [List.getElem?_map, hx]; rfl
      obtain ⟨b1, e1⟩ := List.getElem?_eq_some_iff.mp a1
      obtain ⟨b2, e2⟩ := List.getElem?_eq_some_iff.mp a2
      exact (List.pairwise_iff_getElem.mp nd) j i b1 b2 hji (e1.trans e2.symm)
  · have pm := c2 c
    refine ⟨fun p hp => ?_, fun p hp => ?_, by rw [pm.length_eq]; exact Nat.succ_le_succ g.len, fun nd => by rw [pm.length_eq, List.length_cons, g.full nd], fun z => ?_⟩
    · rw [take_one hx]
      rcases List.mem_cons.mp (pm.mem_iff.mp hp) with rfl | z
      · exact List.mem_append_right _ (List.mem_singleton.mpr rfl)
      · exact List.mem_append_left _ (g.sub p z)
    · rw [(pm.map (·.2)).mem_iff, List.map_cons]
      rw [take_one hx] at hp
      rcases List.mem_append.mp hp with z | z
      · exact List.mem_cons_of_mem _ (g.all p z)
      · rw [List.mem_singleton.mp z]; exact List.mem_cons_self
    · rw [pm.length_eq, List.length_cons] at z
      have nd := g.once (by omega)
      rw [take_one hx, List.map_append]
      refine List.nodup_append.mpr ⟨nd, by simp, fun y hy y' hy' e => c ?_⟩
      simp at hy'
      obtain ⟨p, hp, ep⟩ := List.mem_map.mp hy
      rw [← hy', ← e, ← ep]; exact g.all p hp
theorem SK.kept {h h' : Heap} {a : Addr} {L : List (Addr × κ)} {es : Array (Int × Value)} {ep : Nat} {t : SetTable} (R : SK F h a L es ep t) (ha : ∀ o, h.get? a = some o → h'.get? a = some o) (ht : ∀ p ∈ L, F.At h' p.2 p.1) : SK F h' a L es ep t := by
  obtain ⟨o, ob, r⟩ := R.obj
  exact ⟨⟨o, ha o ob, r⟩, R.row, R.tab, R.nod, ht, R.roo, R.few⟩
theorem SK.new {h : Heap} {a : Addr} {b : Bool} (ho : h.get? a = some { cls := .type "set", dict := none, data := .set #[] 0 (.fresh 0 0 b) }) : SK F h a [] #[] 0 (.fresh 0 0 b) :=
  ⟨⟨_, ho, ⟨rfl, rfl, rfl⟩, rfl⟩, rfl, ⟨List.Pairwise.nil, rfl, rfl, .inl rfl, fun _ z => (by cases z), fun _ _ _ z => (by simp [hsK] at z)⟩, List.nodup_nil, fun _ z => (by cases z), (by show 0 * 5 < 7 * 3; decide), (by show 0 < 64; decide)⟩

end
end CP
/-! Defs that show data (repr): the promise holds where no repr is running around the call. -/
namespace CP
open PySem PySem.Spec PyProof.Rows L2
structure FnG (P : Program) (w : World) (K : PySem.W.Frag) (mg : Str → Option Value) (base : Heap) (k : Nat) (f : Addr) (fd : FuncData) (ps : List Str) (sp : Sp) : Prop where
  len : ∀ vs H Q E, sp vs H Q E → vs.length = ps.length
  run : ∀ (A : Around) (outer : List Env) (s : Shared) (H : Hp) (args : Args) (us : List Value) (vs : List V) (Q : VK) (E : XK), Room k A → A.guards = some [] → Env0 P w K mg base A outer s H → BindsTo s fd args (ps.zip us) → Vals vs us → sp vs H Q E →
    codeAny (model P w) A (.call (.ref f) args) (CR CX0 outer P w H s Q E) s
section
variable {P : Program} {w : World} {K : PySem.W.Frag} {mg : Str → Option Value} {base : Heap}
theorem okG {x qual : Str} {st : Stmt} {f : Addr} {fd : FuncData} {N ps : List Str} {k : Nat} {sp : Sp} (F : Fun K x qual st f fd) (S : FnScope N ps (defScope st)) (len : ∀ vs H Q E, sp vs H Q E → vs.length = ps.length)
    (body : ∀ (cdv : Value) (A : Around) (outer : List Env) (s : Shared) (H : Hp) (vs : List V) (Q : VK) (E : XK), Room k (A.deeper (envOfC qual (defScope st) s.heap.objs.size f cdv)) → (A.deeper (envOfC qual (defScope st) s.heap.objs.size f cdv)).guards = some [] → sp vs H Q E →
      ∃ t, PSs (cxOf CX0 P w K mg base N qual (defScope st) f cdv A outer s H E).nox (defBody st) t ∧ t { nx := fun _ H' => Q .non H', rt := Q } (start N vs) H) : FnG P w K mg base (k + 1) f fd ps sp := by
  obtain ⟨oc, od, kV, doc, pm, an, cdv, ct, osl, rfl, lk, hcd⟩ := F.ex
  refine ⟨len, fun A outer s H args us vs Q E room gds env0 hb vals hsp => ?_⟩
  have up : ∀ b o, base.get? b = some o → s.heap.get? b = some o := fun b o e => (env0.bs b o e).1
  have KIn : K.In s.heap := env0.mod.kin.keeps up
  have kinds : ∀ y ∈ ps.zip us, (defScope st).names.lookup y.1 = some .local ∨ ((defScope st).names.lookup y.1 = some .cell ∧ ((cellsFrom (s.heap.objs.size + 1) (defScope st).names []).lookup y.1).isSome = true) := fun ⟨n, v⟩ hy =>
    (S.par n (List.of_mem_zip hy).1).elim .inl fun q => .inr ⟨q, PySem.W.cellsFrom_some _ _ _ (.inl q)⟩
  refine codeAny_call_function room.depth (KIn _ _ lk) rfl S.co S.gen rfl (PySem.W.codeRec_of KIn hcd) (hb _ _ _ _ (wpAny_newFunctionEnv_cells S.kind kinds fun env he s1 x => ?_))
  subst he
  refine ⟨(env0.mod.nolimit.keeps up).keeps x.toInCall.keep, codeAny_func ?_⟩
  obtain ⟨t, ht, hq⟩ := body cdv A outer s H vs Q E (room.deeper _) gds hsp
  have I : L2.Inv (cxOf CX0 P w K mg base N qual (defScope st) f cdv A outer s H E) [] (start N vs) H s1 := inv_start S room.hd env0 (len _ _ _ _ hsp) vals x
  refine wpAny_mono (ht.nox.run [] s1 (start N vs) H _ I hq) (fun fl s' hs => ?_) fun e s' hs => hs
  have done : ∀ {σ' : L2.St} {H' : Hp} {v : V} {u : Value}, L2.Inv (cxOf CX0 P w K mg base N qual (defScope st) f cdv A outer s H E) [] σ' H' s' → RelV v u → Q v H' → CE outer P w H s Q u s' := fun J rv q => ⟨_, _, J.os, J.bare, J.base, J.hok, rv, q⟩
  match fl, hs with
  | .ret u, ⟨v, σ', H', J, rv, q⟩ => exact done J rv q
  | .next, ⟨σ', H', J, q⟩ => exact done (v := V.non) (u := Value.none) J rfl q
  | .brk, ⟨_, _, _, q⟩ => exact q.elim
  | .cont, ⟨_, _, _, q⟩ => exact q.elim
end
section
variable {X : Cx} {x : Str} {p pos : Pos} {e : Expr} {es : List Expr} {t : TA} {k : Nat} {f : Addr} {fd : FuncData} {ps : List Str} {sp : Sp}
theorem pe_callG (F : FnG X.prog X.w X.K X.mg X.base k f fd ps sp) (hr : Room k X.A) (gds : X.A.guards = some []) (hg : Gl X x) (hm : X.mg x = some (.ref f)) (hk : PySem.W.keepIn X.K (.ref f) = true) (hb : Binds X.K fd ps []) (ha : PA X (e :: es) t)
    (hdb : (x == ("__debug__" : Str)) = false := by decide) (he : starEach (e :: es) X.env = (false, eval e X.env) :: starEach es X.env := by rfl) (hpl : (backTo pos (starEach es X.env)).any (·.1) = false := by rfl) : PE X (.Call (.Name x p) (e :: es) [] pos) (tCall sp [] E0 t) := by
  refine ⟨fun pins s σ H Q I h => wpAny_Call_Name_kw (ld_glob I hg hm ?_ hdb)⟩
  refine PySem.W.callWith_K (h₀ := X.base) I.ok.mod.kin hk (thn (ha.run pos pins s σ H _ I h) fun us s1 ⟨vs, H1, I1, r, q⟩ => ⟨I1.kIn, ?_⟩) he hpl
  have r2 : Vals (vs ++ []) (us ++ []) := r.append .nil
  have hl : (us ++ []).length = ps.length := by rw [← r2.length]; exact F.len _ _ _ _ q
  refine wpAny_call (codeAny_mono (F.run X.A X.stack s1 H1 ⟨us, []⟩ (us ++ []) (vs ++ []) Q E0 hr gds I1.env0 (hb s1 us I1.kIn hl) r2 q) fun res s' hq => ?_)
  match res, hq with
  | .error err, hq => exact (hq : False).elim
  | .ok (.ret u), hq => exact I1.after hq
  | .ok .next, hq => exact False.elim hq
  | .ok .brk, hq => exact False.elim hq
  | .ok .cont, hq => exact False.elim hq
/-- repr(x) of data that can be shown -/
def rReprD (K : PySem.W.Frag) : List V → Hp → VK → Prop := fun xs H Q => ∃ (a : Addr) (d : PyData), xs = [.ref a] ∧ Dp K H (.ref a) d ∧ d.showable = true ∧ d.hasDict = false ∧ d.depth ≤ 60 ∧ d.shown.length ≤ sizeLine ∧ Q (.str d.shown) H
theorem call_reprD (gds : X.A.guards = some []) (hu : X.A.units + 64 < cLine) : CallR X (.builtin "repr") (rReprD X.K) := by
  intro pins s σ H xs us Q I r h
  obtain ⟨a, d, rfl, hd, h1, h2, h3, h4, q⟩ := h
  rw [Vals.ref1 r]
  obtain ⟨as, rd⟩ := Dp.reads I d _ (Value.ref a) hd rfl
  exact repr_of_reads' rd h1 (fun z => by rw [h2] at z; cases z) gds (by omega) (fun _ _ z => z) (fun h' u tk hk => ⟨.str d.shown, H, I.kept (t' := tk) hk, ⟨_, rfl⟩, q⟩) h4
end
end CP
namespace CP
open PySem PySem.Spec PyProof.Rows L2
theorem callG {P : Program} {w : World} {K : PySem.W.Frag} {mg mb : Str → Option Value} {k : Nat} {fa a : Addr} {fd : FuncData} {x : Str} {sp : Sp} {s0 : Shared} {vs : List Value} {ns : List Int}
    (KX : K.In s0.heap) (n1 : s0.heap.Ns mainGlobals mg) (n2 : s0.heap.Ns builtinsNs mb) (n3 : ∀ x : Str, x ≠ "__name__" → mb x = bootBuiltins x) (lim : s0.heap.NoLimit) (gens : s0.gens = #[])
    (obj : s0.heap.get? a = some { cls := .type "list", data := .seq vs.toArray }) (hints : IntsAre vs ns) (few : ns.length ≤ sizeLine) (room : Room k callerA)
    (F : ∀ base : Heap, K.In base → base.Ns mainGlobals mg → FnG P w K mg base k fa fd [x] sp) (bind : ∀ (s : Shared) (u : Value), BindsTo s fd ⟨[u], []⟩ [(x, u)])
    (hsp : ∀ H : Hp, SqL K H a (ns.map V.int) → sp [.ref a] H (fun v _ => v = .bl true) fun _ _ _ => False) :
    codeAny (model P w) callerA (.call (.ref fa) ⟨[.ref a], []⟩) (fun r s' => r = .ok (.ret (.bool true)) ∧ OldK s0.heap s'.heap ∧ s'.os = s0.os ∧ AllBare s'.gens) s0 := by
  have rv := vals_ints hints
  have lenV := hints.length
  have core : ∀ H : Hp, (∀ b, H b = none ∨ ∃ ob xs, H b = some (.frz ob (.lst xs))) → SqL K H a (ns.map V.int) → HOk P w H s0.heap → (∀ b, H b ≠ none → b = a) → (H a ≠ none → K.lookup a = none) →
      codeAny (model P w) callerA (.call (.ref fa) ⟨[.ref a], []⟩) (fun r s' => r = .ok (.ret (.bool true)) ∧ OldK s0.heap s'.heap ∧ s'.os = s0.os ∧ AllBare s'.gens) s0 := by
    intro H only sq ok onlyA unk
    have noD : ∀ {b : Addr} {o : Obj} {es : Array DictEntry} {ep : Nat}, s0.heap.get? b = some o → o.data = .dict es ep → H b = none := fun {b o es ep} e d => by
      cases q : H b with
      | none => rfl
      | some u =>
        obtain rfl : b = a := onlyA b (by rw [q]; simp)
        rw [obj] at e; cases e; cases (show Data.seq vs.toArray _ = Data.dict es ep from d)
    have nsH : ∀ {b : Addr} {m : Str → Option Value}, s0.heap.Ns b m → (hidT s0.heap H).Ns b m := fun ⟨o, es, ep, e, d, r⟩ => ⟨o, es, ep, hidT_get e (noD e d), d, r⟩
    have kH : K.In (hidT s0.heap H) := fun b o e => hidT_get (KX b o e) (by
      cases q : H b with
      | none => rfl
      | some u =>
        obtain rfl : b = a := onlyA b (by rw [q]; simp)
        rw [unk (by rw [q]; simp)] at e; cases e)
    have md : Mod K mg (hidT s0.heap H) := ⟨kH, nsH n1, ⟨mb, nsH n2, n3⟩, let ⟨mc, h1, h2⟩ := lim; ⟨mc, nsH h1, h2⟩⟩
    have env0 : Env0 P w K mg (hidT s0.heap H) callerA [] s0 H := ⟨rfl, md, fun b o e => of_hidT e, Nat.le_of_eq (hidT_size _ _), trivial, fun b hb => absurd (show b ∈ ([] : List Addr) from hb) (by simp), ok, .of_eq gens⟩
    refine codeAny_mono ((F _ kH (nsH n1)).run callerA [] s0 H ⟨[.ref a], []⟩ [.ref a] [.ref a] _ _ room rfl env0 (bind s0 (.ref a)) (.cons rfl .nil) (hsp H sq)) fun r s' h => ?_
    match r, h with
    | .error e, h => exact (h : False).elim
    | .ok .next, h => exact False.elim h
    | .ok .brk, h => exact False.elim h
    | .ok .cont, h => exact False.elim h
    | .ok (.ret u), ⟨v, H', os, bare, un, ok', r', q⟩ =>
      obtain rfl : v = .bl true := q
      obtain rfl : u = Value.bool true := r'
      refine ⟨rfl, OldK.of_keep fun b o e => ?_, os, bare⟩
      rcases only b with q | ⟨ob, xs, q⟩
      · exact un.keep b o e q (fun z => absurd (show b ∈ ([] : List Addr) from z) (by simp)) (by simp)
      · obtain ⟨e1, _⟩ := ok b _ q
        obtain ⟨e2, _⟩ := ok' b _ (un.frzs b ob _ q)
        rw [e] at e1; cases e1; exact e2
  cases hk : K.lookup a with
  | some o =>
    have e := KX a o hk
    rw [obj] at e
    cases e
    exact core (fun _ => none) (fun _ => .inl rfl) (.inr ⟨_, vs.toArray, _, hk, rfl, rfl, rfl, by rw [List.size_toArray, lenV]; exact few, by simpa using rv⟩) (fun b u z => by cases (show (none : Option HO) = some u from z)) (fun b z => absurd rfl z) fun z => absurd rfl z
  | none =>
    refine core (fun b => if b = a then some (.frz { cls := .type "list", data := .seq vs.toArray } (.lst (ns.map V.int))) else none) (fun b => ?_) (.inl (.inr ⟨{ cls := .type "list", data := .seq vs.toArray }, if_pos rfl⟩)) (fun b u z => ?_) (fun b z => ?_) fun _ => hk
    all_goals by_cases hb : b = a
    · exact .inr ⟨_, _, if_pos hb⟩
    · exact .inl (if_neg hb)
    · have z' := (if_pos hb).symm.trans z
      cases z'; subst hb
      exact ⟨obj, by rw [List.length_map]; exact few, vs, _, rv, obj⟩
    · cases (if_neg hb).symm.trans z
    · exact hb
    · exact absurd (if_neg hb) z
theorem walkG {l : PySem.W.OpenLaw} {n k : Nat} {q : Program} {loose : List Str} {XP : (Str → Option Value) → Heap → Prop} {YP : World → Heap → Prop} {d : DefRec} {K : Params → PySem.W.Frag} {sp : PySem.W.Frag → Sp} {x : Str}
    (hn : l.most = some n) (hn2 : n ≤ sizeLine) (hdf : d.params.defaults = []) (room : Room k callerA) (hY : ∀ (w : World) (h : Heap), YP w h → (K w.params).In h)
    (F : ∀ (w : World) (mg : Str → Option Value) (fa : Addr) (h : Heap), (K w.params).In h → h.Ns mainGlobals mg → mg d.name = some (.ref fa) → ∃ fd : FuncData, (∀ (s : Shared) (u : Value), BindsTo s fd ⟨[u], []⟩ [(x, u)]) ∧
        ∀ base : Heap, (K w.params).In base → base.Ns mainGlobals mg → FnG l.prog w (K w.params) mg base k fa fd [x] (sp (K w.params)))
    (hsp : ∀ (K : PySem.W.Frag) (H : Hp) (a : Addr) (ns : List Int), ns.length ≤ n → SqL K H a (ns.map V.int) → sp K [.ref a] H (fun v _ => v = .bl true) fun _ _ _ => False) :
    PySem.W.WalkO q loose XP YP l.row.toRowW d [] (fun f vs => PySem.call f vs) := by
  refine Att.attach_call hn hdf fun w s0 s1 mg mb fa o pm cd doc a vs ns G Y ho hd hcd hmg hobj hints hlen hg => ?_
  have KX := hY w _ Y
  obtain ⟨fd, hb, hF⟩ := F w mg fa _ KX G.T.g hmg
  exact callG KX G.T.g G.T.b G.T.builtins G.T.nolimit hg hobj hints (Nat.le_trans hlen hn2) room hF hb fun H hS => hsp _ H a ns hlen hS
end CP
/-! Exceptions as values: made, kept, asked for their class, their fields read. -/
namespace CP
open PySem PySem.Spec PyProof.Rows L2
/-- an exception of a built-in class at a -/
def bxo (a : Addr) (T : String) : HO := .ext fun h => ∃ o, h.get? a = some o ∧ o.cls = .type T
theorem bxo_ok {P : Program} {w : World} {H : Hp} {h : Heap} {a : Addr} {T : String} {o : Obj} (e : h.get? a = some o) (c : o.cls = .type T) : ObjOk P w H h a (bxo a T) :=
  ⟨⟨o, e, c⟩, ⟨o, e⟩, fun _ _ ⟨o, q, r⟩ k => ⟨o, k o q, r⟩⟩
/-- what isinstance and the fields' reading want of the class -/
structure XCls (K : PySem.W.Frag) (C : Addr) : Prop where
  cl : (PySem.W.clsIn K C).isSome = true
  ga : PySem.W.findIn K (.ref C) "__getattribute__" = some (some (.builtin "BaseException.__getattribute__"))
  gg : PySem.W.findIn K (.ref C) "__getattr__" = some none
  sb : PySem.W.subIn K (.ref C) (.type "BaseException") = some true
  hd : PySem.W.hasDictIn K C = true
  ca : PySem.W.findIn K (.ref C) "__class__" = some (some (.builtin "object.__class__"))
  sg : PySem.W.specialIn K (.builtin "object.__class__") "__get__" = some (some (.builtin "getset_descriptor.__get__"))
  tk : PySem.W.takesIn K (.builtin "object.__class__") = some true
  mo : PySem.W.mroIn K C (.type "object") = some true
/-- an exception value: of an own class (with a field or without), or a ValueError -/
inductive TyE (K : PySem.W.Frag) (H : Hp) : V → Value → Prop where
  | plain {a C : Addr} (h : H a = some (exo a C none)) (T : XCls K C) : TyE K H (.ref a) (.ref C)
  | field {a C d : Addr} {fs : List (Str × V)} (h : H a = some (exo a C (some d))) (hd : H d = some (exd d fs)) (T : XCls K C) : TyE K H (.ref a) (.ref C)
  | blt {a : Addr} (h : H a = some (bxo a "ValueError")) : TyE K H (.ref a) (.type "ValueError")
section
variable {X : Cx} {pins : List (Addr × Obj)} {σ : L2.St} {H : Hp} {s : Shared}
theorem exd_get {P : Program} {w : World} {h : Heap} {dx : Addr} {fs : List (Str × V)} (ok : HOk P w H h) (he : H dx = some (exd dx fs)) : ∃ o, h.get? dx = some o := by
  obtain ⟨mA, ⟨o, _, _, e, _⟩, _⟩ := exd_at ok he
  exact ⟨o, e⟩
def rIsiE (K : PySem.W.Frag) : List V → Hp → VK → Prop := fun xs H Q => ∃ (x c : V) (t u : Value) (b : Bool), xs = [x, c] ∧ ClsV c u ∧ TyE K H x t ∧ PySem.W.kitOne K t u = some b ∧ Q (.bl b) H
theorem call_isiE : CallR X (.builtin "isinstance") (rIsiE X.K) := by
  intro pins s σ H xs us Q I r h
  obtain ⟨x, c, t, u, b, rfl, k, ty, e, q⟩ := h
  obtain ⟨u1, u2, rfl, r1, r2⟩ := vals2 r
  have e2 := k.eq r2
  subst e2
  cases ty with
  | @plain a C h T =>
    cases (show u1 = Value.ref a from r1)
    obtain ⟨t1, ho⟩ := exo_at I.hok h
    exact PySem.W.kia_one (PySem.W.kitx_exc (od := none) T.cl T.ga T.gg T.sb T.ca T.sg T.tk T.mo) I.kIn ⟨ho, rfl, rfl, trivial⟩ e (fun z => nomatch z) fun tk => ⟨.bl b, H, I.tok tk, rfl, q⟩
  | @field a C d fs h hd T =>
    cases (show u1 = Value.ref a from r1)
    obtain ⟨t1, ho⟩ := exo_at I.hok h
    obtain ⟨oD, hoD⟩ := exd_get I.hok hd
    exact PySem.W.kia_one (PySem.W.kitx_exc (od := some oD) T.cl T.ga T.gg T.sb T.ca T.sg T.tk T.mo) I.kIn ⟨ho, rfl, rfl, hoD⟩ e (fun z => nomatch z) fun tk => ⟨.bl b, H, I.tok tk, rfl, q⟩
  | @blt a h =>
    cases (show u1 = Value.ref a from r1)
    obtain ⟨o, ho, hc⟩ := (I.hok a _ h).1
    exact PySem.W.kia_one (PySem.W.kitx_bexc PySem.F.excAttr_ValueError PySem.F.lkClass_ValueError PySem.F.soClass_ValueError (by decide)) I.kIn ⟨o, ho, hc⟩ e (fun z => nomatch z) fun tk => ⟨.bl b, H, I.tok tk, rfl, q⟩
/-- e.f, e such a value -/
def tFldE (K : PySem.W.Frag) (f : Str) (te : TE) : TE := fun σ H Q => te σ H fun x H1 => ∃ (a C d : Addr) (fs : List (Str × V)) (v : V), x = .ref a ∧ H1 a = some (exo a C (some d)) ∧ H1 d = some (exd d fs) ∧ XCls K C ∧ PySem.W.findIn K (.ref C) f = some none ∧ fs.lookup f = some v ∧ Q v H1
theorem pe_fldE {e : Expr} {te : TE} {pos : Pos} {n : Str} (he : PE X e te) (hb : attributeBase e n X.env (eval e X.env) = eval e X.env := by rfl) : PE X (.Attribute e n pos) (tFldE X.K n te) := by
  refine ⟨fun pins s σ H Q I h => attr_of hb (thn (he.run pins s σ H _ I h) fun u s1 ⟨x, H1, I1, rx, a, C, d, fs, v, ex, ha, hd, T, no, l, q⟩ => ?_)⟩
  subst ex
  obtain rfl : u = Value.ref a := rx
  obtain ⟨t1, ho⟩ := exo_at I1.hok ha
  obtain ⟨mA, hns, hr⟩ := exd_at I1.hok hd
  obtain ⟨od, ho2, hl⟩ := lookIn_ns hns
  obtain ⟨u, hu, ru⟩ := RelO.some_of (v := v) (o := mA n) (by rw [← l]; exact hr n)
  exact HandSPX.exc_get I1.kIn ⟨ho, rfl, rfl, ho2⟩ T.ga T.gg T.sb (PySem.W.findObj_own T.hd no rfl (by rw [hl, hu])) (handed_of ru) ⟨v, H1, I1.tok _, ru, q⟩
/-- a new object at an address that the heap has not -/
theorem laid_new {h' : Heap} {a : Addr} {o : HO} {t' : Nat} (I : L2.Inv X pins σ H s) (k : ∀ b u, s.heap.get? b = some u → h'.get? b = some u) (new : s.heap.get? a = none) (hn : H a = none) (ok : ObjOk X.prog X.w (L2.upd H a o) h' a o) : L2.Inv X pins σ (L2.upd H a o) { s with heap := h', toks := t' } := by
  refine I.un ⟨fun b u q _ _ _ => k b u q, fun b u q _ _ _ => ⟨u.slots, k b u q⟩, fun b u q n _ => ?_, fun b u q _ => ⟨u, k b u q⟩, fun b xs q => ?_, fun b u xs q => ?_, fun b ps q => ⟨#[], ?_⟩⟩ fun b u e => ?_
  · rw [upd_ne (fun z => by rw [z, new] at q; cases q)]; exact n
  · rw [upd_ne (ne_of_none q hn)]; exact q
  · rw [upd_ne (ne_of_none q hn)]; exact q
  · rw [upd_ne (ne_of_none q hn), q]; simp
  · by_cases hb : b = a
    · subst hb; rw [upd_same] at e; cases e; exact ok
    · rw [upd_ne hb] at e
      exact (I.hok b u e).stay (fun c v _ q => k c v q) (fun c q => by rw [upd_ne (ne_of_none q hn)]; exact q) fun c xs q => by rw [upd_ne (ne_of_none q hn)]; exact q
/-- ValueError('x') -/
theorem pe_bexc {m : Str} {j : Nat} {p p2 pos : Pos} (hg : Gl X "ValueError") (hm : X.mg "ValueError" = none) : PE X (.Call (.Name "ValueError" p) [.Constant (.str m) j p2] [] pos) (fun _ H Q => ∀ a, H a = none → Q (.ref a) (L2.upd H a (bxo a "ValueError"))) := by
  refine ⟨fun pins s σ H Q I h => wpAny_Call_Name_kw (ld_blt I hg hm boot_ValueError ?_ (by decide) (by decide))⟩
  refine PyProof.Rows.callWith_type1 (thn ((pa_cons (pe_str (x := m) (j := j) (pos := p2)) pa_nil).run pos pins s σ H (fun vs H1 => H1 = H ∧ vs.length = 1) I ⟨rfl, rfl⟩) fun us s1 ⟨vs, H1, I1, r1, eH, l1⟩ => ?_) rfl rfl
  subst eH
  obtain ⟨hp1, g1, d1, tk1, os1⟩ := s1
  refine wpAny_call_exc exb_ValueError.call (fun h' a mk => ?_) (by rw [← r1.length, l1, sizeLine_eq]; omega)
  have hn := I1.hok.gone mk.new
  obtain ⟨t, ht, _⟩ := mk.there
  exact ⟨.ref a, _, laid_new (t' := tk1) I1 mk.keeps mk.new hn (bxo_ok ht rfl), rfl, h a hn⟩
/-- C(), an own class without own __init__ -/
theorem pe_exc0 {C : Addr} {bmB : List Value} {B newId initId : String} {x : Str} {p pos : Pos} (F : ExcBaseFacts B newId initId bmB) (q : PySem.W.excIn X.K C bmB newId = true) (gC : X.mg x = some (.ref C)) (kC : PySem.W.keepIn X.K (.ref C) = true) (hg : Gl X x)
    (hdb : (x == ("__debug__" : Str)) = false := by decide) : PE X (.Call (.Name x p) [] [] pos) (fun _ H Q => ∀ a, H a = none → Q (.ref a) (L2.upd H a (exo a C none))) := by
  refine ⟨fun pins s σ H Q I h => wpAny_Call_Name_kw (ld_glob I hg gC (PySem.W.callWith_K0 I.kIn kC ?_) hdb)⟩
  obtain ⟨bm, N, nm, qn, bs, hdct, sn, sub, ab, col, dd, k0, k1, k2, k3, k5, mN, hC, hN, hni, T⟩ := exc_obj I.kIn q
  refine wpAny_call_exc_subT F T hC hN hni (fun h' a mk => ?_) (Nat.zero_le _)
  have hn := I.hok.gone mk.new
  obtain ⟨t, ht, _⟩ := mk.there
  exact ⟨.ref a, _, laid_new (t' := s.toks) I mk.keeps mk.new hn (exo_ok ht), rfl, h a hn⟩
/-- C(e), C's own __init__ keeping sp, as a value -/
def tMkV (C : Addr) (sp : Sp) (ta : TA) : TE := fun σ H Q => ta σ H fun vs H1 => vs.length ≤ 1000 ∧ ∀ a, H1 a = none → sp (.ref a :: vs) (L2.upd H1 a (exo a C none)) (fun v H2 => v = .non ∧ Q (.ref a) H2) E0
theorem pe_excI {e : Expr} {es : List Expr} {ta : TA} {x : Str} {C fI : Addr} {k : Nat} {fd : FuncData} {ps : List Str} {sp : Sp} {p pos : Pos} (T : OexC X.K C) (iC : PySem.W.findIn X.K (.ref C) "__init__" = some (some (.ref fI))) (tI : PySem.W.typeIn X.K (.ref fI) = some (.type "function"))
    (F1 : FnOk X.prog X.w X.K X.mg X.base CX0 k fI fd ps sp) (hr : Room (k + 1) X.A) (hb : Binds X.K fd ps []) (hg : Gl X x) (hm : X.mg x = some (.ref C)) (ha : PA X (e :: es) ta)
    (hdb : (x == ("__debug__" : Str)) = false := by decide) (he : starEach (e :: es) X.env = (false, eval e X.env) :: starEach es X.env := by rfl) (hpl : (backTo pos (starEach es X.env)).any (·.1) = false := by rfl) : PE X (.Call (.Name x p) (e :: es) [] pos) (tMkV C sp ta) := by
  obtain ⟨nm, q, N, bs, bm, sn, sub, ab, col, dd, k0, k1, k2, k3, k5, hC, hbm⟩ := T.cls
  refine ⟨fun pins s σ H Q I h => wpAny_Call_Name_kw (ld_glob I hg hm ?_ hdb)⟩
  refine PySem.W.callWith_K (h₀ := X.base) I.ok.mod.kin T.kC (thn (ha.run pos pins s σ H _ I h) fun us s1 ⟨vs, H1, I1, r1, hz, q1⟩ => ⟨I1.kIn, ?_⟩) he hpl
  show wpAny _ _ (call (.ref C) us) _ _ _
  obtain ⟨hp, g, dr, tk, os⟩ := s1
  have below : hp.objs.size ≤ hp.objs.size + 1 := Nat.le_succ _
  have fresh : H1 (hp.objs.size + 1) = none := I1.hok.fresh below
  have want := q1 (hp.objs.size + 1) fresh
  generalize hh2 : (hp.push (PySem.W.kdv_tup us)).push (PySem.HandSPX.excO C hp.objs.size) = hp2
  have keep : ∀ b o, hp.get? b = some o → hp2.get? b = some o := fun b o e => by rw [← hh2]; exact Heap.get?_push_of_some _ (Heap.get?_push_of_some _ e)
  have got : hp2.get? (hp.objs.size + 1) = some (PySem.HandSPX.excO C hp.objs.size) := by rw [← hh2]; heap_get
  have I2 : L2.Inv X pins σ (L2.upd H1 (hp.objs.size + 1) (exo (hp.objs.size + 1) C none)) ⟨hp2, g, dr, tk, os⟩ := I1.laid (t' := tk) (h' := hp2) keep below (exo_ok got)
  have r2 : Vals (V.ref (hp.objs.size + 1) :: vs) (Value.ref (hp.objs.size + 1) :: us) := .cons rfl r1
  have hl : (Value.ref (hp.objs.size + 1) :: us ++ []).length = ps.length := by
    rw [List.append_nil, ← r2.length]; exact F1.len _ _ _ _ want
  have few : us.length ≤ sizeLine := by rw [← Paired.length r1, sizeLine_eq]; omega
  have bnd := hb ⟨hp2, g, dr, tk, os⟩ (Value.ref (hp.objs.size + 1) :: us) I2.kIn hl
  rw [List.append_nil] at bnd
  refine wpAny_call (PySem.HandSPX.call_own F.excBase_ValueError (fun Y => PySem.HandSPX.refsVE_contains Y bm hbm) (I1.kIn _ _ hC) (PySem.W.looks_findIn I1.kIn iC) (fun self => PySem.W.bind_fn I1.kIn self tI) few ?_)
  rw [hh2]
  refine codeAny_mono (F1.run _ X.stack _ _ ⟨Value.ref (hp.objs.size + 1) :: us, []⟩ (Value.ref (hp.objs.size + 1) :: us) _ _ E0 (hr.make C us []) (I2.env0.make C us []) bnd r2 want) fun r s' hq => ?_
  match r, hq with
  | .error er, hq => exact (hq : False).elim
  | .ok .next, hq => exact False.elim hq
  | .ok .brk, hq => exact False.elim hq
  | .ok .cont, hq => exact False.elim hq
  | .ok (.ret u), ⟨v, H2, os2, bare2, un2, hok2, rv, ev, q2⟩ =>
    subst ev
    exact ⟨rv, .ref (hp.objs.size + 1), H2, I2.call' (ch := []) os2 un2 hok2 bare2 (fun b z => absurd z (by simp)), rfl, q2⟩
end
end CP
namespace CP
open PySem L2
def top (i : Nat) : Stmt := PySem.Challenge.pw_crossparity_k05_errors.main.body.getD i (.Pass ⟨0, 0, 0, 0⟩)
abbrev sCell : Stmt := top 12
abbrev sSource : Stmt := top 13
abbrev sNext : Stmt := top 14
/-- three ints at a: a source of choices -/
def Src (H : Hp) (a : Addr) : Prop := ∃ x y z : Int, H a = some (.lst [.int x, .int y, .int z])
/-- all that stood stands, but what is at a -/
def But (a : Addr) (H H' : Hp) : Prop := ∀ b o, b ≠ a → H b = some o → H' b = some o
theorem But.refl {a : Addr} {H : Hp} : But a H H := fun _ _ _ e => e
theorem But.trans {a : Addr} {H H1 H2 : Hp} (x : But a H H1) (y : But a H1 H2) : But a H H2 := fun b o n e => y b o n (x b o n e)
theorem But.upd {a : Addr} {H : Hp} {o : HO} : But a H (L2.upd H a o) := fun b u n e => by rw [upd_ne n]; exact e
theorem But.new {a p : Addr} {H : Hp} {o : HO} (h : H p = none) : But a H (L2.upd H p o) := fun b u _ e => by rw [upd_ne (ne_of_none e h)]; exact e
theorem But.of_same {a : Addr} {H H' : Hp} (h : Same H H') : But a H H' := fun b o _ e => h b o e

def spCell (K : PySem.W.Frag) : Sp := fun vs H Q _ => ∃ (a : Addr) (ns : List Int), vs = [.ref a, .int 0] ∧ SqL K H a (ns.map V.int) ∧ ∀ c : Int, Q (.int c) H
def spSource : Sp := fun vs H Q _ => ∃ c : Int, vs = [.int c] ∧ ∀ p H', H p = none → Src H' p → Same H H' → Q (.ref p) H'
def spNext : Sp := fun vs H Q _ => ∃ (a : Addr) (m : Int), vs = [.ref a, .int m] ∧ Src H a ∧ 0 < m ∧ m < 1000000 ∧ ∀ (r : Int) H', 0 ≤ r → r < m → Src H' a → But a H H' → Q (.int r) H'
section
variable {P : Program} {w : World} {K : PySem.W.Frag} {mg : Str → Option Value} {base : Heap}
theorem scCell : FnScope ["_law_script", "_law_k"] ["_law_script", "_law_k"] (defScope sCell) := ⟨rfl, rfl, rfl, by decide +kernel, rfl, by decide +kernel, by decide +kernel⟩
theorem ok_cell {f : Addr} {fd : FuncData} (F : Fun K "_law_cell_at" "_law_cell_at" sCell f fd) (mlen : mg "len" = none) : FnOk P w K mg base CX0 1 f fd ["_law_script", "_law_k"] (spCell K) := by
  refine F.ok scCell (fun vs H Q E h => ?_) (fun cdv A outer s H vs Q E hr h => ?_)
  · obtain ⟨a, ns, rfl, _⟩ := h; rfl
  · obtain ⟨a, ns, rfl, hS, k⟩ := h
    refine ⟨_, pss_cons (ps_if (pt_cmpR op_lt (pv 1) (pe_callB call_len_seq (by rfl) mlen PySem.boot_len (pa_cons (pv 0) pa_nil)) (nomark _)) (pss_one (ps_ret (pe_ix ix_list (pv 0) (pv 1) (fun _ _ => rfl)))) pss_nil) (pss_one (ps_ret pe_int)), ?_⟩
    refine ⟨_, rfl, _, rfl, a, _, rfl, .inl hS, _, _, rfl, rfl, _, rfl, ?_⟩
    by_cases c : (0 : Int) < ((ns.map V.int).length : Int)
    · rw [decide_eq_true c]
      refine iteT ?_
      cases ns with
      | nil => simp at c
      | cons n ns => exact ⟨_, rfl, _, rfl, a, _, _, _, rfl, rfl, hS, atI_nat (j := 0) rfl, k n⟩
    · rw [decide_eq_false c]
      exact iteF (k 0)
theorem scSource : FnScope ["_law_cell"] ["_law_cell"] (defScope sSource) := ⟨rfl, rfl, rfl, by decide +kernel, rfl, by decide +kernel, by decide +kernel⟩
theorem ok_source {f : Addr} {fd : FuncData} (F : Fun K "_law_source_of" "_law_source_of" sSource f fd) (mint : mg "int" = none) : FnOk P w K mg base CX0 1 f fd ["_law_cell"] spSource := by
  refine F.ok scSource (fun vs H Q E h => ?_) (fun cdv A outer s H vs Q E hr h => ?_)
  · obtain ⟨c, rfl, _⟩ := h; rfl
  · obtain ⟨c, rfl, k⟩ := h
    refine ⟨_, pss_cons (ps_set (i := 0) scSource.nd rfl (Or.inl rfl) (pe_ifExp (pt_cmpR op_ge (pv 0) pe_int (nomark _)) (pv 0) (pe_op op_sub (pe_op op_sub pe_int (pe_op op_mul pe_int (pv 0))) pe_int)))
      (pss_one (ps_ret (pe_lst (pa_cons (pe_op op_mul (pv 0) (pe_callTy call_int1 (by rfl) mint (by decide +kernel) (pa_cons (pe_cmpR op_ge (pv 0) (pe_op op_pow pe_int pe_int) (nomark _)) pa_nil)))
        (pa_cons (pe_op op_mod (pv 0) pe_int) (pa_cons pe_int pa_nil)))))), ?_⟩
    refine ⟨_, rfl, _, _, rfl, rfl, _, rfl, ite2 (fun _ => ⟨_, rfl, ?_⟩) (fun _ => ⟨_, rfl, _, _, rfl, rfl, .inl ⟨by decide, by decide⟩, _, _, rfl, rfl, _, _, rfl, rfl, ?_⟩)⟩
    all_goals
      refine ⟨_, rfl, _, rfl, _, _, rfl, rfl, ⟨by decide, by decide, by decide⟩, _, _, rfl, rfl, .inr ⟨_, rfl, _, _, rfl, rfl, .inr ?_, _, rfl, _, _, rfl, rfl, (show (0 : Int) < 2147483647 by decide), by show 3 ≤ sizeLine; decide, fun p hp => ?_⟩⟩
      · split <;> decide
      · exact k p _ hp ⟨_, _, _, upd_same⟩ fun b o e => by rw [upd_ne (ne_of_none e hp)]; exact e
theorem scNext : FnScope ["_law_source", "_law_many", "_law_found", "_law_prime", "_law_number"] ["_law_source", "_law_many"] (defScope sNext) := ⟨rfl, rfl, rfl, by decide +kernel, rfl, by decide +kernel, by decide +kernel⟩
theorem small_mod (n m : Int) (h : 0 < m) (h2 : m ≤ 2147483647) : -(2 ^ 64) < n % m ∧ n % m < 2 ^ 64 := by
  have a := Int.emod_nonneg n (Int.ne_of_gt h)
  have b := Int.emod_lt_of_pos n h
  omega
theorem ok_next {f : Addr} {fd : FuncData} (F : Fun K "_law_next" "_law_next" sNext f fd) : FnOk P w K mg base CX0 1 f fd ["_law_source", "_law_many"] spNext := by
  refine F.ok scNext (fun vs H Q E h => ?_) (fun cdv A outer s H vs Q E hr h => ?_)
  · obtain ⟨a, m, rfl, _⟩ := h; rfl
  · obtain ⟨a, m, rfl, ⟨x, y, z, hS⟩, h0, h1, k⟩ := h
    refine ⟨_, pss_cons (ps_if (pt_cmpR op_gt (pe_ix ix_list (pv 0) pe_int (fun _ _ => rfl)) pe_int (nomark _))
        (pss_cons (ps_set (i := 2) scNext.nd rfl (Or.inl rfl) (pe_op op_mod (pe_ix ix_list (pv 0) pe_int (fun _ _ => rfl)) (pv 1)))
        (pss_cons (ps_asg (pe_op op_fdiv (pe_ix ix_list (pv 0) pe_int (fun _ _ => rfl)) (pv 1)) (pg_sub (pv 0) pe_int set_list))
        (pss_one (ps_ret (pv 2))))) pss_nil)
      (pss_cons (ps_asg (pe_op op_add (pe_ix ix_list (pv 0) pe_int (fun _ _ => rfl)) pe_int) (pg_sub (pv 0) pe_int set_list))
      (pss_cons (ps_set (i := 3) scNext.nd rfl (Or.inl rfl) pe_int)
      (pss_cons (ps_set (i := 4) scNext.nd rfl (Or.inl rfl) (pe_op op_mod (pe_op op_add (pe_op op_add (pe_ix ix_list (pv 0) pe_int (fun _ _ => rfl)) (pe_op op_mul pe_int (pe_ix ix_list (pv 0) pe_int (fun _ _ => rfl)))) pe_int) (pv 3)))
      (pss_cons (ps_set (i := 4) scNext.nd rfl (Or.inl rfl) (pe_op op_mod (pe_op op_mul (pv 4) pe_int) (pv 3)))
      (pss_cons (ps_set (i := 4) scNext.nd rfl (Or.inl rfl) (pe_op op_mod (pe_op op_mul (pv 4) (pe_op op_add (pe_op op_fdiv (pv 4) pe_int) pe_int)) (pv 3)))
      (pss_cons (ps_set (i := 4) scNext.nd rfl (Or.inl rfl) (pe_op op_mod (pe_op op_mul (pv 4) (pe_op op_add (pe_op op_fdiv (pv 4) pe_int) pe_int)) pe_int))
      (pss_one (ps_ret (pe_op op_mod (pe_op op_fdiv (pv 4) pe_int) (pv 1)))))))))), ?_⟩
    have i0 : ∀ {x y z : Int}, atI [V.int x, V.int y, V.int z] 0 = some (.int x) := rfl
    have i1 : ∀ {x y z : Int}, atI [V.int x, V.int y, V.int z] 1 = some (.int y) := rfl
    have i2 : ∀ {x y z : Int}, atI [V.int x, V.int y, V.int z] 2 = some (.int z) := rfl
    refine ⟨_, rfl, a, _, _, _, rfl, rfl, SqL.of hS, i0, _, _, rfl, rfl, _, rfl, ite2 (fun _ => ?_) (fun _ => ?_)⟩
    · refine ⟨_, rfl, a, _, _, _, rfl, rfl, SqL.of hS, i0, _, rfl, _, _, rfl, rfl, h0, ?_⟩
      refine ⟨_, rfl, a, _, _, _, rfl, rfl, SqL.of hS, i0, _, rfl, _, _, rfl, rfl, ⟨h0, by omega⟩, _, rfl, a, _, _, 0, rfl, rfl, hS, rfl, _, rfl, ?_⟩
      exact k _ _ (Int.emod_nonneg _ (by omega)) (Int.emod_lt_of_pos _ h0) ⟨_, _, _, upd_same⟩ But.upd
    · refine ⟨_, rfl, a, _, _, _, rfl, rfl, SqL.of hS, i2, _, _, rfl, rfl, _, rfl, a, _, _, 2, rfl, rfl, hS, rfl, ?_⟩
      refine ⟨_, rfl, a, _, _, _, rfl, rfl, SqL.of upd_same, i1, _, rfl, a, _, _, _, rfl, rfl, SqL.of upd_same, i2, _, _, rfl, rfl, .inl ⟨by decide, by decide⟩, _, _, rfl, rfl, _, _, rfl, rfl, _, rfl, _, _, rfl, rfl, (show (0 : Int) < 2147483647 by decide), ?_⟩
      refine ⟨_, rfl, _, _, rfl, rfl, .inr ⟨by decide, by decide⟩, _, rfl, _, _, rfl, rfl, (show (0 : Int) < 2147483647 by decide), ?_⟩
      refine ⟨_, rfl, _, rfl, _, _, rfl, rfl, ⟨by decide, by decide⟩, _, _, rfl, rfl, _, _, rfl, rfl, .inl (small_mod _ _ (by decide) (by decide)), _, rfl, _, _, rfl, rfl, (show (0 : Int) < 2147483647 by decide), ?_⟩
      refine ⟨_, rfl, _, rfl, _, _, rfl, rfl, ⟨by decide, by decide⟩, _, _, rfl, rfl, _, _, rfl, rfl, .inl (small_mod _ _ (by decide) (by decide)), _, _, rfl, rfl, (show (0 : Int) < 2147483399 by decide), ?_⟩
      refine ⟨_, rfl, _, _, rfl, rfl, ⟨by decide, by decide⟩, _, rfl, _, _, rfl, rfl, h0, ?_⟩
      exact k _ _ (Int.emod_nonneg _ (by omega)) (Int.emod_lt_of_pos _ h0) ⟨_, _, _, upd_same⟩ But.upd
end
end CP
namespace CP
open PySem L2
theorem Same.new {H : Hp} {p : Addr} {o : HO} (h : H p = none) : Same H (L2.upd H p o) := fun c u e => by rw [upd_ne (ne_of_none e h)]; exact e
theorem Same.grow {H H' : Hp} {D : Addr} {o : HO} (h : H D = none) (s : Same H H') : Same H (L2.upd H' D o) := fun c u e => by rw [upd_ne (ne_of_none e h)]; exact s c u e
theorem Same.but {a : Addr} {H0 H H' : Hp} (s : Same H0 H) (h : H0 a = none) (B : But a H H') : Same H0 H' := fun c o e => B c o (ne_of_none e h) (s c o e)
abbrev sKinds : Stmt := top 17
abbrev sFields : Stmt := top 19
abbrev sLaw : Stmt := top 20
abbrev sI0 : Stmt := inClass (top 2) 0
abbrev sI1 : Stmt := inClass (top 3) 0
abbrev sI2 : Stmt := inClass (top 4) 0
abbrev sI5 : Stmt := inClass (top 7) 0
abbrev sI6 : Stmt := inClass (top 8) 0
abbrev sI7 : Stmt := inClass (top 9) 0
/-- an error with its one attribute -/
def XAt (H : Hp) (a C : Addr) (f : Str) (v : V) : Prop := ∃ d, H a = some (exo a C (some d)) ∧ H d = some (exd d [(f, v)])
theorem XAt.same {H H' : Hp} {a C : Addr} {f : Str} {v : V} (s : Same H H') (h : XAt H a C f v) : XAt H' a C f v := let ⟨d, x, y⟩ := h; ⟨d, s _ _ x, s _ _ y⟩
def spXI (C : Addr) : Str → Sp := fun f vs H Q _ => ∃ (a : Addr) (v : V), vs = [.ref a, v] ∧ H a = some (exo a C none) ∧ ∀ d, H d = none → d ≠ a → Q .non (L2.upd (L2.upd H d (exd d [(f, v)])) a (exo a C (some d)))
theorem mk_x {C a : Addr} {f : Str} {H1 : Hp} {v : V} {R : Hp → Prop} (ha : H1 a = none) (k : ∀ H2, XAt H2 a C f v → Same H1 H2 → R H2) : spXI C f [.ref a, v] (L2.upd H1 a (exo a C none)) (fun v H2 => v = .non ∧ R H2) E0 := by
  refine ⟨a, v, rfl, upd_same, fun d hd hda => ⟨rfl, k _ ⟨d, upd_same, by rw [upd_ne hda, upd_same]⟩ fun b o e => ?_⟩⟩
  have hd' : H1 d = none := by rw [upd_ne hda] at hd; exact hd
  rw [upd_ne (ne_of_none e ha), upd_ne (ne_of_none e hd'), upd_ne (ne_of_none e ha)]; exact e
theorem TyE.same {K : PySem.W.Frag} {H H' : Hp} {x : V} {t : Value} (s : Same H H') (h : TyE K H x t) : TyE K H' x t := by
  cases h with
  | plain h T => exact .plain (s _ _ h) T
  | field h hd T => exact .field (s _ _ h) (s _ _ hd) T
  | blt h => exact .blt (s _ _ h)
section
variable {P : Program} {w : World} {K : PySem.W.Frag} {mg : Str → Option Value} {base : Heap}
theorem scI0 : FnScope ["self", "why"] ["self", "why"] (defScope sI0) := ⟨rfl, rfl, rfl, by decide +kernel, rfl, by decide +kernel, by decide +kernel⟩
theorem ok_I0 {f C : Addr} {fd : FuncData} (F : Fun K "__init__" "NoGraph.__init__" sI0 f fd) (T : OexC K C) (no : PySem.W.findIn K (.ref C) "why" = some none) : FnOk P w K mg base CX0 1 f fd ["self", "why"] (spXI C "why") := by
  refine F.ok scI0 (fun vs H Q E h => ?_) (fun cdv A outer s H vs Q E hr h => ?_)
  · obtain ⟨a, v, rfl, _⟩ := h; rfl
  · obtain ⟨a, v, rfl, ha, k⟩ := h
    exact ⟨_, pss_one (ps_ost (pv 0) (pv 1)), _, rfl, _, rfl, a, C, rfl, T, no, .inl ⟨ha, k⟩⟩
theorem scI1 : FnScope ["self", "at"] ["self", "at"] (defScope sI1) := ⟨rfl, rfl, rfl, by decide +kernel, rfl, by decide +kernel, by decide +kernel⟩
theorem ok_I1 {f C : Addr} {fd : FuncData} (F : Fun K "__init__" "NoRecord.__init__" sI1 f fd) (T : OexC K C) (no : PySem.W.findIn K (.ref C) "at" = some none) : FnOk P w K mg base CX0 1 f fd ["self", "at"] (spXI C "at") := by
  refine F.ok scI1 (fun vs H Q E h => ?_) (fun cdv A outer s H vs Q E hr h => ?_)
  · obtain ⟨a, v, rfl, _⟩ := h; rfl
  · obtain ⟨a, v, rfl, ha, k⟩ := h
    exact ⟨_, pss_one (ps_ost (pv 0) (pv 1)), _, rfl, _, rfl, a, C, rfl, T, no, .inl ⟨ha, k⟩⟩
theorem scI2 : FnScope ["self", "at"] ["self", "at"] (defScope sI2) := ⟨rfl, rfl, rfl, by decide +kernel, rfl, by decide +kernel, by decide +kernel⟩
theorem ok_I2 {f C : Addr} {fd : FuncData} (F : Fun K "__init__" "NoCarry.__init__" sI2 f fd) (T : OexC K C) (no : PySem.W.findIn K (.ref C) "at" = some none) : FnOk P w K mg base CX0 1 f fd ["self", "at"] (spXI C "at") := by
  refine F.ok scI2 (fun vs H Q E h => ?_) (fun cdv A outer s H vs Q E hr h => ?_)
  · obtain ⟨a, v, rfl, _⟩ := h; rfl
  · obtain ⟨a, v, rfl, ha, k⟩ := h
    exact ⟨_, pss_one (ps_ost (pv 0) (pv 1)), _, rfl, _, rfl, a, C, rfl, T, no, .inl ⟨ha, k⟩⟩
theorem scI5 : FnScope ["self", "why"] ["self", "why"] (defScope sI5) := ⟨rfl, rfl, rfl, by decide +kernel, rfl, by decide +kernel, by decide +kernel⟩
theorem ok_I5 {f C : Addr} {fd : FuncData} (F : Fun K "__init__" "NoDrawing.__init__" sI5 f fd) (T : OexC K C) (no : PySem.W.findIn K (.ref C) "why" = some none) : FnOk P w K mg base CX0 1 f fd ["self", "why"] (spXI C "why") := by
  refine F.ok scI5 (fun vs H Q E h => ?_) (fun cdv A outer s H vs Q E hr h => ?_)
  · obtain ⟨a, v, rfl, _⟩ := h; rfl
  · obtain ⟨a, v, rfl, ha, k⟩ := h
    exact ⟨_, pss_one (ps_ost (pv 0) (pv 1)), _, rfl, _, rfl, a, C, rfl, T, no, .inl ⟨ha, k⟩⟩
theorem scI6 : FnScope ["self", "edge"] ["self", "edge"] (defScope sI6) := ⟨rfl, rfl, rfl, by decide +kernel, rfl, by decide +kernel, by decide +kernel⟩
theorem ok_I6 {f C : Addr} {fd : FuncData} (F : Fun K "__init__" "NoEdge.__init__" sI6 f fd) (T : OexC K C) (no : PySem.W.findIn K (.ref C) "edge" = some none) : FnOk P w K mg base CX0 1 f fd ["self", "edge"] (spXI C "edge") := by
  refine F.ok scI6 (fun vs H Q E h => ?_) (fun cdv A outer s H vs Q E hr h => ?_)
  · obtain ⟨a, v, rfl, _⟩ := h; rfl
  · obtain ⟨a, v, rfl, ha, k⟩ := h
    exact ⟨_, pss_one (ps_ost (pv 0) (pv 1)), _, rfl, _, rfl, a, C, rfl, T, no, .inl ⟨ha, k⟩⟩
theorem scI7 : FnScope ["self", "witness"] ["self", "witness"] (defScope sI7) := ⟨rfl, rfl, rfl, by decide +kernel, rfl, by decide +kernel, by decide +kernel⟩
theorem ok_I7 {f C : Addr} {fd : FuncData} (F : Fun K "__init__" "NotDrawable.__init__" sI7 f fd) (T : OexC K C) (no : PySem.W.findIn K (.ref C) "witness" = some none) : FnOk P w K mg base CX0 1 f fd ["self", "witness"] (spXI C "witness") := by
  refine F.ok scI7 (fun vs H Q E h => ?_) (fun cdv A outer s H vs Q E hr h => ?_)
  · obtain ⟨a, v, rfl, _⟩ := h; rfl
  · obtain ⟨a, v, rfl, ha, k⟩ := h
    exact ⟨_, pss_one (ps_ost (pv 0) (pv 1)), _, rfl, _, rfl, a, C, rfl, T, no, .inl ⟨ha, k⟩⟩
end
/-! ### the numbers of the marks -/
def pk (bs : List Bool) (i : Nat) : List V := ((List.range i).filter fun j => bs[j]? == some true).map fun j => V.int (j : Nat)
theorem pk_len (bs : List Bool) (i : Nat) : (pk bs i).length ≤ i := by
  unfold pk; rw [List.length_map]; exact Nat.le_trans (List.length_filter_le _ _) (by simp)
theorem pk_succ (bs : List Bool) (i : Nat) : pk bs (i + 1) = pk bs i ++ (if bs[i]? = some true then [V.int (i : Nat)] else []) := by
  unfold pk; rw [List.range_succ, List.filter_append, List.map_append]
  by_cases c : bs[i]? = some true <;> simp [c]
/-- the nine classes -/
structure Nine where
  (c0 c1 c2 c3 c4 c5 c6 c7 c8 : Addr)
structure Kits (K : PySem.W.Frag) (N : Nine) (t : Value) (b0 b1 b2 b3 b4 b5 b6 b7 b8 : Bool) : Prop where
  k0 : PySem.W.kitOne K t (.ref N.c0) = some b0
  k1 : PySem.W.kitOne K t (.ref N.c1) = some b1
  k2 : PySem.W.kitOne K t (.ref N.c2) = some b2
  k3 : PySem.W.kitOne K t (.ref N.c3) = some b3
  k4 : PySem.W.kitOne K t (.ref N.c4) = some b4
  k5 : PySem.W.kitOne K t (.ref N.c5) = some b5
  k6 : PySem.W.kitOne K t (.ref N.c6) = some b6
  k7 : PySem.W.kitOne K t (.ref N.c7) = some b7
  k8 : PySem.W.kitOne K t (.ref N.c8) = some b8
structure NineG (mg : Str → Option Value) (N : Nine) : Prop where
  m0 : mg "NoGraph" = some (.ref N.c0)
  m1 : mg "NoRecord" = some (.ref N.c1)
  m2 : mg "NoCarry" = some (.ref N.c2)
  m3 : mg "NoOrder" = some (.ref N.c3)
  m4 : mg "NoWitness" = some (.ref N.c4)
  m5 : mg "NoDrawing" = some (.ref N.c5)
  m6 : mg "NoEdge" = some (.ref N.c6)
  m7 : mg "NotDrawable" = some (.ref N.c7)
  m8 : mg "NoMost" = some (.ref N.c8)
def spKinds (K : PySem.W.Frag) (N : Nine) : Sp := fun vs H Q _ => ∃ (x : V) (t : Value) (b0 b1 b2 b3 b4 b5 b6 b7 b8 : Bool), vs = [x] ∧ TyE K H x t ∧ Kits K N t b0 b1 b2 b3 b4 b5 b6 b7 b8 ∧
  ∀ L H', H' L = some (.lst (pk [b0, b1, b2, b3, b4, b5, b6, b7, b8] 9)) → Same H H' → Q (.ref L) H'
section
variable {P : Program} {w : World} {K : PySem.W.Frag} {mg : Str → Option Value} {base : Heap}
theorem pg_tup2 {X : Cx} (K : PySem.W.Frag) (h : X.K = K) {es : List Expr} {k : Nat} {t : TGs} {n : Nat} {pos : Pos} (hc : X.calm = true) (hp : PGs X es t)
    (hn : (assignEach es X.env).length = n := by rfl) (hst : (assignEach es X.env).findIdx? (·.1) = none := by rfl) : PG X (.Tuple es k pos) (gTup K n t) := h ▸ pg_tup hc hp hn hst
theorem scKinds : FnScope ["_law_e", "_law_some", "_law_at", "_law_mark"] ["_law_e"] (defScope sKinds) := ⟨rfl, rfl, rfl, by decide +kernel, rfl, by decide +kernel, by decide +kernel⟩
theorem ok_kinds {f : Addr} {fd : FuncData} {N : Nine} (F : Fun K "_law_kinds" "_law_kinds" sKinds f fd) (mi : mg "isinstance" = none) (me : mg "enumerate" = none) (G : NineG mg N) : FnOk P w K mg base CX0 1 f fd ["_law_e"] (spKinds K N) := by
  refine F.ok scKinds (fun vs H Q E h => ?_) (fun cdv A outer s H vs Q E hr h => ?_)
  · obtain ⟨x, t, b0, b1, b2, b3, b4, b5, b6, b7, b8, rfl, _⟩ := h; rfl
  · obtain ⟨x, t, b0, b1, b2, b3, b4, b5, b6, b7, b8, rfl, ty, T, k⟩ := h
    refine ⟨_, pss_cons (ps_set (i := 1) scKinds.nd rfl (Or.inl rfl) (pe_lst
        (pa_cons (pe_callB call_isiE (by rfl) mi (by decide +kernel) (pa_cons (pv 0) (pa_cons (pe_glob (v := .ref N.c0) rfl G.m0 rfl) pa_nil)))
        (pa_cons (pe_callB call_isiE (by rfl) mi (by decide +kernel) (pa_cons (pv 0) (pa_cons (pe_glob (v := .ref N.c1) rfl G.m1 rfl) pa_nil)))
        (pa_cons (pe_callB call_isiE (by rfl) mi (by decide +kernel) (pa_cons (pv 0) (pa_cons (pe_glob (v := .ref N.c2) rfl G.m2 rfl) pa_nil)))
        (pa_cons (pe_callB call_isiE (by rfl) mi (by decide +kernel) (pa_cons (pv 0) (pa_cons (pe_glob (v := .ref N.c3) rfl G.m3 rfl) pa_nil))) pa_nil))))))
      (pss_cons (ps_set (i := 1) scKinds.nd rfl (Or.inl rfl) (pe_op op_cat (pv 1) (pe_lst
        (pa_cons (pe_callB call_isiE (by rfl) mi (by decide +kernel) (pa_cons (pv 0) (pa_cons (pe_glob (v := .ref N.c4) rfl G.m4 rfl) pa_nil)))
        (pa_cons (pe_callB call_isiE (by rfl) mi (by decide +kernel) (pa_cons (pv 0) (pa_cons (pe_glob (v := .ref N.c5) rfl G.m5 rfl) pa_nil)))
        (pa_cons (pe_callB call_isiE (by rfl) mi (by decide +kernel) (pa_cons (pv 0) (pa_cons (pe_glob (v := .ref N.c6) rfl G.m6 rfl) pa_nil))) pa_nil))))))
      (pss_cons (ps_set (i := 1) scKinds.nd rfl (Or.inl rfl) (pe_op op_cat (pv 1) (pe_lst
        (pa_cons (pe_callB call_isiE (by rfl) mi (by decide +kernel) (pa_cons (pv 0) (pa_cons (pe_glob (v := .ref N.c7) rfl G.m7 rfl) pa_nil)))
        (pa_cons (pe_callB call_isiE (by rfl) mi (by decide +kernel) (pa_cons (pv 0) (pa_cons (pe_glob (v := .ref N.c8) rfl G.m8 rfl) pa_nil))) pa_nil)))))
      (pss_one (ps_ret (pe_lc (own := [("_law_at", 2), ("_law_mark", 3)]) (g := gTup K 2 (gCons (gName 2) (gCons (gName 3) gNil))) (tt := tB (tVar 3)) (te := tVar 2) rfl scKinds.nd (pi_enum (by rfl) me (pa_cons (pv 1) pa_nil))
        (blkOk_by (own := [("_law_at", 2), ("_law_mark", 3)]) (N := ["_law_e", "_law_some", "_law_at", "_law_mark"]) (sc := defScope sKinds) (by decide +kernel))
        (fun _ _ _ _ _ => pg_tup2 (n := 2) K rfl rfl (pgs_cons (pg_name (i := 2) scKinds.nd rfl (Or.inl rfl)) (pgs_cons (pg_name (i := 3) scKinds.nd rfl (Or.inl rfl)) pgs_nil)))
        (fun _ _ _ _ _ => pts_one (pt_val (pv 3))) (fun _ _ _ _ _ => pv 2)))))), ?_⟩
    refine ⟨_, rfl, _, _, t, _, b0, rfl, .own _, ty, T.k0, _, rfl, _, _, t, _, b1, rfl, .own _, ty, T.k1, _, rfl, _, _, t, _, b2, rfl, .own _, ty, T.k2, _, rfl, _, _, t, _, b3, rfl, .own _, ty, T.k3, by show 4 ≤ sizeLine; decide, fun l1 hl1 => ?_⟩
    have s1 : Same H (L2.upd H l1 (.lst [.bl b0, .bl b1, .bl b2, .bl b3])) := Same.new hl1
    generalize hH1 : L2.upd H l1 (.lst [.bl b0, .bl b1, .bl b2, .bl b3]) = H1 at s1
    have e1 : H1 l1 = some (.lst [.bl b0, .bl b1, .bl b2, .bl b3]) := by rw [← hH1]; exact upd_same
    have ty1 := ty.same s1
    refine ⟨_, rfl, _, rfl, _, _, t, _, b4, rfl, .own _, ty1, T.k4, _, rfl, _, _, t, _, b5, rfl, .own _, ty1, T.k5, _, rfl, _, _, t, _, b6, rfl, .own _, ty1, T.k6, by show 3 ≤ sizeLine; decide, fun l2 hl2 => ?_⟩
    refine ⟨l1, l2, _, _, rfl, rfl, Same.new hl2 _ _ e1, upd_same, by show 7 ≤ sizeLine; decide, fun l3 hl3 => ?_⟩
    have s3 : Same H1 (L2.upd (L2.upd H1 l2 (.lst [.bl b4, .bl b5, .bl b6])) l3 (.lst ([.bl b0, .bl b1, .bl b2, .bl b3] ++ [.bl b4, .bl b5, .bl b6]))) := (Same.new hl2).trans (Same.new hl3)
    generalize hH3 : L2.upd (L2.upd H1 l2 (.lst [.bl b4, .bl b5, .bl b6])) l3 (.lst ([.bl b0, .bl b1, .bl b2, .bl b3] ++ [.bl b4, .bl b5, .bl b6])) = H3 at s3
    have e3 : H3 l3 = some (.lst [.bl b0, .bl b1, .bl b2, .bl b3, .bl b4, .bl b5, .bl b6]) := by rw [← hH3]; exact upd_same
    have ty3 := ty1.same s3
    refine ⟨_, rfl, _, rfl, _, _, t, _, b7, rfl, .own _, ty3, T.k7, _, rfl, _, _, t, _, b8, rfl, .own _, ty3, T.k8, by show 2 ≤ sizeLine; decide, fun l4 hl4 => ?_⟩
    refine ⟨l3, l4, _, _, rfl, rfl, Same.new hl4 _ _ e3, upd_same, by show 9 ≤ sizeLine; decide, fun l5 hl5 => ?_⟩
    have s5 : Same H3 (L2.upd (L2.upd H3 l4 (.lst [.bl b7, .bl b8])) l5 (.lst ([.bl b0, .bl b1, .bl b2, .bl b3, .bl b4, .bl b5, .bl b6] ++ [.bl b7, .bl b8]))) := (Same.new hl4).trans (Same.new hl5)
    generalize hH5 : L2.upd (L2.upd H3 l4 (.lst [.bl b7, .bl b8])) l5 (.lst ([.bl b0, .bl b1, .bl b2, .bl b3, .bl b4, .bl b5, .bl b6] ++ [.bl b7, .bl b8])) = H5 at s5
    have e5 : H5 l5 = some (.lst ([b0, b1, b2, b3, b4, b5, b6, b7, b8].map V.bl)) := by rw [← hH5]; exact upd_same
    have s05 := (s1.trans s3).trans s5
    have h9 : [b0, b1, b2, b3, b4, b5, b6, b7, b8].length = 9 := rfl
    generalize [b0, b1, b2, b3, b4, b5, b6, b7, b8] = bs at e5 k h9
    refine ⟨_, rfl, l5, _, rfl, SqL.of e5, fun D hD => lc_it (walk_enum (K := K) (a := l5) (xs := bs.map V.bl)) (fun i H' => Same H5 H' ∧ H' D = some (.lst (pk bs i))) ⟨Same.new hD, upd_same⟩ (fun i H' _ ⟨s, _⟩ => SqL.of (s _ _ e5)) ?_ ?_⟩
    · rintro i v H6 H7 hi ⟨s6, e6⟩ ⟨q, x1, y1, rfl, hq, rfl, hx, hy⟩
      obtain rfl : V.int (i : Nat) = x1 := Option.some.inj hx
      rw [List.length_map] at hi
      have hi9 : i < 9 := by rw [← h9]; exact hi
      have hy : (bs.map V.bl)[i]? = some y1 := hy
      rw [List.getElem?_map, List.getElem?_eq_getElem hi] at hy
      obtain rfl : V.bl bs[i] = y1 := Option.some.inj hy
      have s7 : Same H6 (L2.upd H6 q (.tup [.int (i : Nat), .bl bs[i]])) := Same.new hq
      have nq : D ≠ q := fun z => by rw [z, hq] at e6; cases e6
      have e7 := s7 _ _ e6
      refine ⟨q, _, rfl, SqT.of upd_same, rfl, _, _, rfl, _, _, rfl, rfl, rfl, _, rfl, bs[i], rfl, ?_⟩
      have ps := pk_succ bs i
      rw [List.getElem?_eq_getElem hi] at ps
      cases c : bs[i] with
      | true =>
        rw [c] at ps e7 s7
        refine iteT ⟨_, rfl, _, e7, by have := pk_len bs i; rw [sizeLine_eq]; omega, (Same.grow hD (s6.trans s7)), ?_⟩
        rw [upd_same, ps, if_pos rfl]
      | false =>
        rw [c] at ps e7 s7
        refine iteF ⟨s6.trans s7, ?_⟩
        rw [ps, if_neg (by simp), List.append_nil]; exact e7
    · rintro H6 ⟨s6, e6⟩
      rw [List.length_map, h9] at e6
      exact k D H6 e6 (s05.trans s6)
end
end CP
namespace CP
open PySem L2
/-- what the attributes are -/
def dF (v : Int) : PyData := .list [.str "edges", .int v, .int (0 - v), .str "position", .tuple [.str "a", .str "b"], .list [.int v]]
theorem log_small {i : Int} (h1 : -1000 ≤ i) (h2 : i ≤ 1000) : i.natAbs.log2 < 10 := by
  by_cases h : i.natAbs = 0
  · rw [h]; decide
  · rw [Nat.log2_lt h]; omega
theorem dF_show {v : Int} (h1 : -1000 ≤ v) (h2 : v ≤ 1000) : (dF v).showable = true := by
  have a := log_small h1 h2
  have b := log_small (i := 0 - v) (by omega) (by omega)
  simp only [dF, PyData.showable, PyData.showableAll, Bool.and_true, Bool.true_and, Bool.and_eq_true, decide_eq_true_eq]
  omega
theorem dF_nd (v : Int) : (dF v).hasDict = false := by simp [dF, PyData.hasDict, PyData.hasDictAll]
theorem dF_depth (v : Int) : (dF v).depth ≤ 60 := by simp [dF, PyData.depth, PyData.depthAll]
theorem dF_len {v : Int} (h1 : -1000 ≤ v) (h2 : v ≤ 1000) : (dF v).shown.length ≤ sizeLine := by
  have a := log_small h1 h2
  have b := log_small (i := 0 - v) (by omega) (by omega)
  have hw : PyData.weight (dF v) ≤ 2 ^ 20 := by
    have wt : ∀ i : Int, i.natAbs.log2 < 10 → PyData.weight (.int i) ≤ 10 := fun i hi => by
      unfold PyData.weight; split <;> omega
    have w1 := wt v a
    have w2 := wt (0 - v) b
    have s1 : PyData.weight (.str "edges") ≤ 100 := by decide
    have s2 : PyData.weight (.str "position") ≤ 100 := by decide
    have s3 : PyData.weight (.str "a") ≤ 100 := by decide
    have s4 : PyData.weight (.str "b") ≤ 100 := by decide
    have e : PyData.weight (dF v) = PyData.weight (.str "edges") + 1 + (PyData.weight (.int v) + 1 + (PyData.weight (.int (0 - v)) + 1 + (PyData.weight (.str "position") + 1 + ((PyData.weight (.str "a") + 1 + (PyData.weight (.str "b") + 1 + 0)) + 1 + ((PyData.weight (.int v) + 1 + 0) + 1 + 0))))) := by
      simp only [dF, PyData.weight, PyData.weightAll]
    rw [e]; omega
  have hl : PyData.layable0 (dF v) = true := by
    unfold PyData.layable0
    rw [decide_eq_true hw, decide_eq_true (Nat.le_trans (dF_depth v) (by decide : 60 ≤ 64))]
    simp only [dF, PyData.canLay0, PyData.canLayAll0, Bool.and_true, Bool.true_and]
    decide +kernel
  have hi : (dF v).intsShort 13 = true := by
    have i1 := PyData.shown_int_le2 (i := v) (by omega) (by omega)
    have i2 := PyData.shown_int_le2 (i := 0 - v) (by omega) (by omega)
    simp only [dF, PyData.intsShort, PyData.intsShortAll, decide_eq_true i1, decide_eq_true i2, Bool.and_true, Bool.true_and]
  have := PyProof.Rows.shown_le13 hl hi
  rw [sizeLine_eq]; omega
/-- the classes, as the written part has them -/
structure Tab (K : PySem.W.Frag) (N : Nine) : Prop where
  x0 : XCls K N.c0
  x1 : XCls K N.c1
  x2 : XCls K N.c2
  x3 : XCls K N.c3
  x4 : XCls K N.c4
  x5 : XCls K N.c5
  x6 : XCls K N.c6
  x7 : XCls K N.c7
  x8 : XCls K N.c8
  f0 : PySem.W.findIn K (.ref N.c0) "why" = some none
  f1 : PySem.W.findIn K (.ref N.c1) "at" = some none
  f2 : PySem.W.findIn K (.ref N.c2) "at" = some none
  f5 : PySem.W.findIn K (.ref N.c5) "why" = some none
  f6 : PySem.W.findIn K (.ref N.c6) "edge" = some none
  f7 : PySem.W.findIn K (.ref N.c7) "witness" = some none
/-- the nine errors that the law makes -/
structure Errs (N : Nine) (H : Hp) (l : Addr) (v : Int) (a0 a1 a2 a3 a4 a5 a6 a7 a8 p q : Addr) : Prop where
  ls : H l = some (.lst [.ref a0, .ref a1, .ref a2, .ref a3, .ref a4, .ref a5, .ref a6, .ref a7, .ref a8])
  e0 : XAt H a0 N.c0 "why" (.str "edges")
  e1 : XAt H a1 N.c1 "at" (.int v)
  e2 : XAt H a2 N.c2 "at" (.int (0 - v))
  e3 : H a3 = some (exo a3 N.c3 none)
  e4 : H a4 = some (exo a4 N.c4 none)
  e5 : XAt H a5 N.c5 "why" (.str "position")
  e6 : XAt H a6 N.c6 "edge" (.ref p)
  ep : H p = some (.tup [.str "a", .str "b"])
  e7 : XAt H a7 N.c7 "witness" (.ref q)
  eq : H q = some (.lst [.int v])
  e8 : H a8 = some (exo a8 N.c8 none)
theorem Errs.same {N : Nine} {H H' : Hp} {l : Addr} {v : Int} {a0 a1 a2 a3 a4 a5 a6 a7 a8 p q : Addr} (s : Same H H') (h : Errs N H l v a0 a1 a2 a3 a4 a5 a6 a7 a8 p q) : Errs N H' l v a0 a1 a2 a3 a4 a5 a6 a7 a8 p q :=
  ⟨s _ _ h.ls, h.e0.same s, h.e1.same s, h.e2.same s, s _ _ h.e3, s _ _ h.e4, h.e5.same s, h.e6.same s, s _ _ h.ep, h.e7.same s, s _ _ h.eq, s _ _ h.e8⟩
def spFields (N : Nine) : Sp := fun vs H Q _ => ∃ (l : Addr) (v : Int) (a0 a1 a2 a3 a4 a5 a6 a7 a8 p q : Addr), vs = [.ref l, .int v] ∧ -1000 ≤ v ∧ v ≤ 1000 ∧ Errs N H l v a0 a1 a2 a3 a4 a5 a6 a7 a8 p q ∧ ∀ H', Same H H' → Q (.bl true) H'
section
variable {P : Program} {w : World} {K : PySem.W.Frag} {mg : Str → Option Value} {base : Heap}
theorem scFields : FnScope ["_law_some", "_law_value", "_law_fields"] ["_law_some", "_law_value"] (defScope sFields) := ⟨rfl, rfl, rfl, by decide +kernel, rfl, by decide +kernel, by decide +kernel⟩
theorem ok_fields {f : Addr} {fd : FuncData} {N : Nine} (F : Fun K "_law_fields_right" "_law_fields_right" sFields f fd) (mr : mg "repr" = none) (T : Tab K N) : FnG P w K mg base 1 f fd ["_law_some", "_law_value"] (spFields N) := by
  refine okG F scFields (fun vs H Q E h => ?_) (fun cdv A outer s H vs Q E hr gds h => ?_)
  · obtain ⟨l, v, a0, a1, a2, a3, a4, a5, a6, a7, a8, p, q, rfl, _⟩ := h; rfl
  · obtain ⟨l, v, a0, a1, a2, a3, a4, a5, a6, a7, a8, p, q, rfl, h1, h2, X, k⟩ := h
    refine ⟨_, pss_cons (ps_set (i := 2) scFields.nd rfl (Or.inl rfl) (pe_lst
        (pa_cons (pe_fldE (pe_ix ix_list (pv 0) pe_int (fun _ _ => rfl)))
        (pa_cons (pe_fldE (pe_ix ix_list (pv 0) pe_int (fun _ _ => rfl)))
        (pa_cons (pe_fldE (pe_ix ix_list (pv 0) pe_int (fun _ _ => rfl)))
        (pa_cons (pe_fldE (pe_ix ix_list (pv 0) pe_int (fun _ _ => rfl)))
        (pa_cons (pe_fldE (pe_ix ix_list (pv 0) pe_int (fun _ _ => rfl)))
        (pa_cons (pe_fldE (pe_ix ix_list (pv 0) pe_int (fun _ _ => rfl))) pa_nil))))))))
      (pss_one (ps_ret (pe_cmpR op_eq (pe_callB (call_reprD gds hr.units) (by rfl) mr (by decide +kernel) (pa_cons (pv 2) pa_nil))
        (pe_callB (call_reprD gds hr.units) (by rfl) mr (by decide +kernel) (pa_cons (pe_lst (pa_cons pe_str (pa_cons (pv 1) (pa_cons (pe_op op_sub pe_int (pv 1)) (pa_cons pe_str (pa_cons (pe_tup (pa_cons pe_str (pa_cons pe_str pa_nil))) (pa_cons (pe_lst (pa_cons (pv 1) pa_nil)) pa_nil))))))) pa_nil)) (nomark _)))), ?_⟩
    obtain ⟨ls, ⟨d0, e0, g0⟩, ⟨d1, e1, g1⟩, ⟨d2, e2, g2⟩, e3, e4, ⟨d5, e5, g5⟩, ⟨d6, e6, g6⟩, ep, ⟨d7, e7, g7⟩, eq, e8⟩ := id X
    refine ⟨_, rfl, l, _, _, _, rfl, rfl, SqL.of ls, atI_nat (j := 0) rfl, a0, _, d0, _, _, rfl, e0, g0, T.x0, T.f0, rfl, ?_⟩
    refine ⟨_, rfl, l, _, _, _, rfl, rfl, SqL.of ls, atI_nat (j := 1) rfl, a1, _, d1, _, _, rfl, e1, g1, T.x1, T.f1, rfl, ?_⟩
    refine ⟨_, rfl, l, _, _, _, rfl, rfl, SqL.of ls, atI_nat (j := 2) rfl, a2, _, d2, _, _, rfl, e2, g2, T.x2, T.f2, rfl, ?_⟩
    refine ⟨_, rfl, l, _, _, _, rfl, rfl, SqL.of ls, atI_nat (j := 5) rfl, a5, _, d5, _, _, rfl, e5, g5, T.x5, T.f5, rfl, ?_⟩
    refine ⟨_, rfl, l, _, _, _, rfl, rfl, SqL.of ls, atI_nat (j := 6) rfl, a6, _, d6, _, _, rfl, e6, g6, T.x6, T.f6, rfl, ?_⟩
    refine ⟨_, rfl, l, _, _, _, rfl, rfl, SqL.of ls, atI_nat (j := 7) rfl, a7, _, d7, _, _, rfl, e7, g7, T.x7, T.f7, rfl, ?_⟩
    refine ⟨by show 6 ≤ sizeLine; decide, fun m hm => ?_⟩
    have s1 : Same H (L2.upd H m (.lst [.str "edges", .int v, .int (0 - v), .str "position", .ref p, .ref q])) := Same.new hm
    have em : (L2.upd H m (.lst [.str "edges", .int v, .int (0 - v), .str "position", .ref p, .ref q])) m = some (.lst [.str "edges", .int v, .int (0 - v), .str "position", .ref p, .ref q]) := upd_same
    generalize hH1 : L2.upd H m (.lst [.str "edges", .int v, .int (0 - v), .str "position", .ref p, .ref q]) = H1 at s1 em
    refine ⟨_, rfl, m, dF v, rfl, .lst (SqL.of em) (.cons (.str _) (.cons (.int _) (.cons (.int _) (.cons (.str _) (.cons (.tup (SqT.of (s1 _ _ ep)) (.cons (.str _) (.cons (.str _) .nil))) (.cons (.lst (SqL.of (s1 _ _ eq)) (.cons (.int _) .nil)) .nil)))))),
      dF_show h1 h2, dF_nd v, dF_depth v, dF_len h1 h2, ?_⟩
    refine ⟨_, rfl, _, rfl, _, _, rfl, rfl, by show 2 ≤ sizeLine; decide, fun t ht => ?_⟩
    have s2 := Same.new (o := .tup [.str "a", .str "b"]) ht
    refine ⟨_, rfl, by show 1 ≤ sizeLine; decide, fun u hu => ?_⟩
    have s3 := Same.new (o := .lst [.int v]) hu
    refine ⟨by show 6 ≤ sizeLine; decide, fun m2 hm2 => ?_⟩
    have s4 := Same.new (o := .lst [.str "edges", .int v, .int (0 - v), .str "position", .ref t, .ref u]) hm2
    refine ⟨m2, dF v, rfl, .lst (SqL.of upd_same) (.cons (.str _) (.cons (.int _) (.cons (.int _) (.cons (.str _) (.cons (.tup (SqT.of (s4 _ _ (s3 _ _ upd_same))) (.cons (.str _) (.cons (.str _) .nil))) (.cons (.lst (SqL.of (s4 _ _ upd_same)) (.cons (.int _) .nil)) .nil)))))),
      dF_show h1 h2, dF_nd v, dF_depth v, dF_len h1 h2, rfl, ?_⟩
    rw [decide_eq_true rfl]
    exact k _ (s1.trans (s2.trans (s3.trans s4)))
end
end CP
namespace CP
open PySem L2
/-- who is of which class -/
structure TabK (K : PySem.W.Frag) (N : Nine) (B : Addr) : Prop where
  r0 : Kits K N (.ref N.c0) true false false false false false false false false
  r1 : Kits K N (.ref N.c1) false true false false false false false false false
  r2 : Kits K N (.ref N.c2) false false true false false false false false false
  r3 : Kits K N (.ref N.c3) false false false true false false false false false
  r4 : Kits K N (.ref N.c4) false false false false true false false false false
  r5 : Kits K N (.ref N.c5) false false false false false true false false false
  r6 : Kits K N (.ref N.c6) false false false false false false true false false
  r7 : Kits K N (.ref N.c7) false false false false false false false true false
  r8 : Kits K N (.ref N.c8) false false false false false false false false true
  p0 : PySem.W.kitOne K (.ref N.c0) (.ref B) = some true
  p1 : PySem.W.kitOne K (.ref N.c1) (.ref B) = some true
  p2 : PySem.W.kitOne K (.ref N.c2) (.ref B) = some true
  p3 : PySem.W.kitOne K (.ref N.c3) (.ref B) = some true
  p4 : PySem.W.kitOne K (.ref N.c4) (.ref B) = some true
  p5 : PySem.W.kitOne K (.ref N.c5) (.ref B) = some true
  p6 : PySem.W.kitOne K (.ref N.c6) (.ref B) = some true
  p7 : PySem.W.kitOne K (.ref N.c7) (.ref B) = some true
  p8 : PySem.W.kitOne K (.ref N.c8) (.ref B) = some true
  v0 : PySem.W.kitOne K (.ref N.c0) (.type "ValueError") = some true
  v1 : PySem.W.kitOne K (.ref N.c1) (.type "ValueError") = some true
  v2 : PySem.W.kitOne K (.ref N.c2) (.type "ValueError") = some true
  v3 : PySem.W.kitOne K (.ref N.c3) (.type "ValueError") = some true
  v4 : PySem.W.kitOne K (.ref N.c4) (.type "ValueError") = some true
  v5 : PySem.W.kitOne K (.ref N.c5) (.type "ValueError") = some true
  v6 : PySem.W.kitOne K (.ref N.c6) (.type "ValueError") = some true
  v7 : PySem.W.kitOne K (.ref N.c7) (.type "ValueError") = some true
  v8 : PySem.W.kitOne K (.ref N.c8) (.type "ValueError") = some true
  xB : XCls K B
  rB : Kits K N (.ref B) false false false false false false false false false
  vB : PySem.W.kitOne K (.ref B) (.type "ValueError") = some true
  rV : Kits K N (.type "ValueError") false false false false false false false false false
theorem XAt.ty {K : PySem.W.Frag} {H : Hp} {a C : Addr} {f : Str} {v : V} (h : XAt H a C f v) (T : XCls K C) : TyE K H (.ref a) (.ref C) := let ⟨_, x, y⟩ := h; .field x y T
theorem Errs.at {K : PySem.W.Frag} {N : Nine} {B : Addr} {H : Hp} {l : Addr} {v : Int} {a0 a1 a2 a3 a4 a5 a6 a7 a8 p q : Addr} (E : Errs N H l v a0 a1 a2 a3 a4 a5 a6 a7 a8 p q) (T : Tab K N) (U : TabK K N B) :
    ∀ {i : Nat} {x : V}, i < 9 → ([.ref a0, .ref a1, .ref a2, .ref a3, .ref a4, .ref a5, .ref a6, .ref a7, .ref a8] : List V)[i]? = some x → ∃ t, TyE K H x t ∧ Kits K N t (decide (i = 0)) (decide (i = 1)) (decide (i = 2)) (decide (i = 3)) (decide (i = 4)) (decide (i = 5)) (decide (i = 6)) (decide (i = 7)) (decide (i = 8)) ∧ PySem.W.kitOne K t (.ref B) = some true ∧ PySem.W.kitOne K t (.type "ValueError") = some true
  | 0, _, _, e => by cases e; exact ⟨_, E.e0.ty T.x0, U.r0, U.p0, U.v0⟩
  | 1, _, _, e => by cases e; exact ⟨_, E.e1.ty T.x1, U.r1, U.p1, U.v1⟩
  | 2, _, _, e => by cases e; exact ⟨_, E.e2.ty T.x2, U.r2, U.p2, U.v2⟩
  | 3, _, _, e => by cases e; exact ⟨_, .plain E.e3 T.x3, U.r3, U.p3, U.v3⟩
  | 4, _, _, e => by cases e; exact ⟨_, .plain E.e4 T.x4, U.r4, U.p4, U.v4⟩
  | 5, _, _, e => by cases e; exact ⟨_, E.e5.ty T.x5, U.r5, U.p5, U.v5⟩
  | 6, _, _, e => by cases e; exact ⟨_, E.e6.ty T.x6, U.r6, U.p6, U.v6⟩
  | 7, _, _, e => by cases e; exact ⟨_, E.e7.ty T.x7, U.r7, U.p7, U.v7⟩
  | 8, _, _, e => by cases e; exact ⟨_, .plain E.e8 T.x8, U.r8, U.p8, U.v8⟩
  | n + 9, _, h, _ => absurd h (by omega)
theorem pk_one : ∀ {i : Nat}, i < 9 → pk [decide (i = 0), decide (i = 1), decide (i = 2), decide (i = 3), decide (i = 4), decide (i = 5), decide (i = 6), decide (i = 7), decide (i = 8)] 9 = [V.int (i : Nat)]
  | 0, _ => by decide +kernel
  | 1, _ => by decide +kernel
  | 2, _ => by decide +kernel
  | 3, _ => by decide +kernel
  | 4, _ => by decide +kernel
  | 5, _ => by decide +kernel
  | 6, _ => by decide +kernel
  | 7, _ => by decide +kernel
  | 8, _ => by decide +kernel
  | n + 9, h => absurd h (by omega)
theorem pk_none : pk [false, false, false, false, false, false, false, false, false] 9 = [] := rfl
theorem eqv_i (i : Int) : PyData.eqv (.list [.int i]) (.list [.int i]) = true := PySem.W.eqv_refl_alike _ (by simp [PySem.W.alike, PySem.W.alikeAll])
theorem eqv_0 : PyData.eqv (.list []) (.list []) = true := PySem.W.eqv_refl_alike _ (by simp [PySem.W.alike, PySem.W.alikeAll])
theorem eqv_ab : PyData.eqv (.tuple [.str "a", .str "b"]) (.tuple [.str "a", .str "b"]) = true := PySem.W.eqv_refl_alike _ (by simp [PySem.W.alike, PySem.W.alikeAll])
theorem shp_i (i : Int) : SeqAt.shaped (.list [.int i]) = true := by simp [SeqAt.shaped, PyData.canLay0, PyData.canLayAll0, PyData.depth, PyData.depthAll]
theorem shp_0 : SeqAt.shaped (.list []) = true := by simp [SeqAt.shaped, PyData.canLay0, PyData.canLayAll0, PyData.depth, PyData.depthAll]
theorem shp_ab : SeqAt.shaped (.tuple [.str "a", .str "b"]) = true := by decide +kernel
theorem cut_ints (ns : List Int) (lo hi : Option Int) : ∃ ms : List Int, cutV (ns.map V.int) lo hi = ms.map V.int ∧ ms.length ≤ ns.length := by
  unfold cutV
  refine ⟨(ns.drop (HT.sIx (ns.map V.int).length 0 lo)).take (HT.sIx (ns.map V.int).length (ns.map V.int).length hi - HT.sIx (ns.map V.int).length 0 lo), by rw [List.map_take, List.map_drop], ?_⟩
  rw [List.length_take, List.length_drop]; omega
/-- a class with its own __init__ -/
structure OwnI (P : Program) (w : World) (K : PySem.W.Frag) (mg : Str → Option Value) (base : Heap) (C : Addr) (f : Str) : Prop where
  T : OexC K C
  ex : ∃ (fI : Addr) (fd : FuncData), PySem.W.findIn K (.ref C) "__init__" = some (some (.ref fI)) ∧ PySem.W.typeIn K (.ref fI) = some (.type "function") ∧ FnOk P w K mg base CX0 1 fI fd ["self", f] (spXI C f) ∧ Binds K fd ["self", f] []
def spLaw (K : PySem.W.Frag) : Sp := fun vs H Q _ => ∃ (a : Addr) (ns : List Int), vs = [.ref a] ∧ SqL K H a (ns.map V.int) ∧ ns.length ≤ 63 ∧ ∀ H', Q (.bl true) H'
abbrev veB : List Value := [.type "ValueError", .type "Exception", .type "BaseException", .type "object"]
section
variable {P : Program} {w : World} {K : PySem.W.Frag} {mg : Str → Option Value} {base : Heap}
theorem scLaw : FnScope ["_law_script", "_law_cell", "_law_source", "_law_value", "_law_some", "_law_at", "_law_error", "_law_base", "_law_changed"] ["_law_script"] (defScope sLaw) := ⟨rfl, rfl, rfl, by decide +kernel, rfl, by decide +kernel, by decide +kernel⟩
theorem ok_law {f fC fS fN fK fF B : Addr} {fd fdC fdS fdN fdK fdF : FuncData} {N : Nine} (F : Fun K "law" "law" sLaw f fd) (T : Tab K N) (U : TabK K N B) (G : NineG mg N) (mB : mg "ParityError" = some (.ref B)) (mV : mg "ValueError" = none) (mi : mg "isinstance" = none) (me : mg "enumerate" = none)
    (mC : mg "_law_cell_at" = some (.ref fC)) (GC : FnOk P w K mg base CX0 1 fC fdC ["_law_script", "_law_k"] (spCell K)) (kC : PySem.W.keepIn K (.ref fC) = true) (bC : Binds K fdC ["_law_script", "_law_k"] [])
    (mS : mg "_law_source_of" = some (.ref fS)) (GS : FnOk P w K mg base CX0 1 fS fdS ["_law_cell"] spSource) (kS : PySem.W.keepIn K (.ref fS) = true) (bS : Binds K fdS ["_law_cell"] [])
    (mN : mg "_law_next" = some (.ref fN)) (GN : FnOk P w K mg base CX0 1 fN fdN ["_law_source", "_law_many"] spNext) (kN : PySem.W.keepIn K (.ref fN) = true) (bN : Binds K fdN ["_law_source", "_law_many"] [])
    (mK : mg "_law_kinds" = some (.ref fK)) (GK : FnOk P w K mg base CX0 1 fK fdK ["_law_e"] (spKinds K N)) (kK : PySem.W.keepIn K (.ref fK) = true) (bK : Binds K fdK ["_law_e"] [])
    (mF : mg "_law_fields_right" = some (.ref fF)) (GF : FnG P w K mg base 1 fF fdF ["_law_some", "_law_value"] (spFields N)) (kF : PySem.W.keepIn K (.ref fF) = true) (bF : Binds K fdF ["_law_some", "_law_value"] [])
    (O0 : OwnI P w K mg base N.c0 "why") (O1 : OwnI P w K mg base N.c1 "at") (O2 : OwnI P w K mg base N.c2 "at") (O5 : OwnI P w K mg base N.c5 "why") (O6 : OwnI P w K mg base N.c6 "edge") (O7 : OwnI P w K mg base N.c7 "witness")
    (q3 : PySem.W.excIn K N.c3 veB "ValueError.__new__" = true) (q4 : PySem.W.excIn K N.c4 veB "ValueError.__new__" = true) (q8 : PySem.W.excIn K N.c8 veB "ValueError.__new__" = true) (qB : PySem.W.excIn K B veB "ValueError.__new__" = true)
    (w3 : PySem.W.keepIn K (.ref N.c3) = true) (w4 : PySem.W.keepIn K (.ref N.c4) = true) (w8 : PySem.W.keepIn K (.ref N.c8) = true) (wB : PySem.W.keepIn K (.ref B) = true) : FnG P w K mg base 3 f fd ["_law_script"] (spLaw K) := by
  obtain ⟨T0, f0, fd0, i0, t0, g0, b0⟩ := O0
  obtain ⟨T1, f1, fd1, i1, t1, g1, b1⟩ := O1
  obtain ⟨T2, f2, fd2, i2, t2, g2, b2⟩ := O2
  obtain ⟨T5, f5, fd5, i5, t5, g5, b5⟩ := O5
  obtain ⟨T6, f6, fd6, i6, t6, g6, b6⟩ := O6
  obtain ⟨T7, f7, fd7, i7, t7, g7, b7⟩ := O7
  refine okG F scLaw (fun vs H Q E h => ?_) (fun cdv A outer s H vs Q E hr gds h => ?_)
  · obtain ⟨a, ns, rfl, _⟩ := h; rfl
  · obtain ⟨a, sc, rfl, hA, h63, k⟩ := h
    have hr1 : Room 1 _ := hr.mono (by decide)
    refine ⟨_, pss_cons (ps_for PassesOwn.never rfl (pi_list (pe_op op_cat (pe_lst (pa_cons (pe_call GC hr1 rfl mC kC bC .nil pass0 (pa_cons (pv 0) (pa_cons pe_int pa_nil))) pa_nil)) (pe_slice sl_list (pv 0) (po_some pe_int) (po_some pe_int)))) (pg_name (i := 1) scLaw.nd rfl (Or.inl rfl))
        (pss_cons (ps_set (i := 2) scLaw.nd rfl (Or.inl rfl) (pe_call GS hr1 rfl mS kS bS .nil pass0 (pa_cons (pv 1) pa_nil)))
        (pss_cons (ps_set (i := 3) scLaw.nd rfl (Or.inl rfl) (pe_op op_sub (pe_call GN hr1 rfl mN kN bN .nil pass0 (pa_cons (pv 2) (pa_cons pe_int pa_nil))) pe_int))
        (pss_cons (ps_set (i := 4) scLaw.nd rfl (Or.inl rfl) (pe_lst (pa_cons (pe_excI T0 i0 t0 g0 hr b0 rfl G.m0 (pa_cons pe_str pa_nil)) (pa_cons (pe_excI T1 i1 t1 g1 hr b1 rfl G.m1 (pa_cons (pv 3) pa_nil)) (pa_cons (pe_excI T2 i2 t2 g2 hr b2 rfl G.m2 (pa_cons (pe_op op_sub pe_int (pv 3)) pa_nil))
          (pa_cons (pe_exc0 PySem.F.excBase_ValueError q3 G.m3 w3 rfl) (pa_cons (pe_exc0 PySem.F.excBase_ValueError q4 G.m4 w4 rfl) pa_nil)))))))
        (pss_cons (ps_set (i := 4) scLaw.nd rfl (Or.inl rfl) (pe_op op_cat (pv 4) (pe_lst (pa_cons (pe_excI T5 i5 t5 g5 hr b5 rfl G.m5 (pa_cons pe_str pa_nil)) (pa_cons (pe_excI T6 i6 t6 g6 hr b6 rfl G.m6 (pa_cons (pe_tup (pa_cons pe_str (pa_cons pe_str pa_nil))) pa_nil))
          (pa_cons (pe_excI T7 i7 t7 g7 hr b7 rfl G.m7 (pa_cons (pe_lst (pa_cons (pv 3) pa_nil)) pa_nil)) (pa_cons (pe_exc0 PySem.F.excBase_ValueError q8 G.m8 w8 rfl) pa_nil)))))))
        (pss_cons (ps_for PassesOwn.never rfl (pi_enum (by rfl) me (pa_cons (pv 4) pa_nil)) (pg_tup rfl (pgs_cons (pg_name (i := 5) scLaw.nd rfl (Or.inl rfl)) (pgs_cons (pg_name (i := 6) scLaw.nd rfl (Or.inl rfl)) pgs_nil)))
          (pss_one (ps_if (PW.pt (pw_or (pt_cmpR (op_neD hr.units) (pe_call GK hr1 rfl mK kK bK .nil pass0 (pa_cons (pv 6) pa_nil)) (pe_lst (pa_cons (pv 5) pa_nil)) (nomark _))
            (pw_or (pt_not (pt_val (pe_callB call_isiE (by rfl) mi (by decide +kernel) (pa_cons (pv 6) (pa_cons (pe_glob (v := .ref B) rfl mB rfl) pa_nil)))))
            (pw_or1 (pt_not (pt_val (pe_callB call_isiE (by rfl) mi (by decide +kernel) (pa_cons (pv 6) (pa_cons (pe_bltn (v := .ty "ValueError") (by rfl) mV (by decide +kernel) rfl) pa_nil)))))))))
            (pss_one (ps_ret pe_bl)) pss_nil)))
        (pss_cons (ps_set (i := 7) scLaw.nd rfl (Or.inl rfl) (pe_exc0 PySem.F.excBase_ValueError qB mB wB rfl))
        (pss_cons (ps_if (PW.pt (pw_or (pt_cmpR (op_neD hr.units) (pe_call GK hr1 rfl mK kK bK .nil pass0 (pa_cons (pv 7) pa_nil)) (pe_lst pa_nil) (nomark _))
            (pw_or (pt_not (pt_val (pe_callB call_isiE (by rfl) mi (by decide +kernel) (pa_cons (pv 7) (pa_cons (pe_bltn (v := .ty "ValueError") (by rfl) mV (by decide +kernel) rfl) pa_nil)))))
            (pw_or1 (pt_cmpR (op_neD hr.units) (pe_call GK hr1 rfl mK kK bK .nil pass0 (pa_cons (pe_bexc rfl mV) pa_nil)) (pe_lst pa_nil) (nomark _))))))
            (pss_one (ps_ret pe_bl)) pss_nil)
        (pss_cons (ps_if (pt_not (pt_val (pe_callG GF hr1 gds rfl mF kF bF (pa_cons (pv 4) (pa_cons (pv 3) pa_nil))))) (pss_one (ps_ret pe_bl)) pss_nil)
        (pss_cons (ps_set (i := 8) scLaw.nd rfl (Or.inl rfl) (pe_excI T6 i6 t6 g6 hr b6 rfl G.m6 (pa_cons (pe_lst (pa_cons (pv 3) pa_nil)) pa_nil)))
        (pss_one (ps_if (PW.pt (pw_or (pt_cmpR (op_neD hr.units) (pe_fldE (pv 8)) (pe_lst (pa_cons (pv 3) pa_nil)) (nomark _))
            (pw_or1 (pt_cmpR (op_neD hr.units) (pe_fldE (pe_ix ix_list (pv 4) pe_int (fun _ _ => rfl))) (pe_tup (pa_cons pe_str (pa_cons pe_str pa_nil))) (nomark _)))))
            (pss_one (ps_ret pe_bl)) pss_nil))))))))))))
      (pss_one (ps_ret pe_bl)), ?_⟩
    refine ⟨_, rfl, a, sc, rfl, hA, fun c0 => ?_⟩
    refine ⟨by show 1 ≤ sizeLine; decide, fun l1 hl1 => ?_⟩
    have s1 : Same H (L2.upd H l1 (.lst [.int c0])) := Same.new hl1
    obtain ⟨ms, em, lm⟩ := cut_ints sc (some 1) (some 6)
    refine ⟨_, rfl, _, rfl, _, rfl, a, _, rfl, s1.seq hA, fun l2 hl2 => ?_⟩
    rw [em]
    have s2 : Same (L2.upd H l1 (.lst [.int c0])) (L2.upd (L2.upd H l1 (.lst [.int c0])) l2 (.lst (ms.map V.int))) := Same.new hl2
    refine ⟨l1, l2, _, _, rfl, rfl, s2 _ _ upd_same, upd_same, by rw [List.length_map, sizeLine_eq]; show 1 + ms.length ≤ _; omega, fun L hL => ?_⟩
    generalize hH0 : L2.upd (L2.upd (L2.upd H l1 (.lst [.int c0])) l2 (.lst (ms.map V.int))) L (.lst ([V.int c0] ++ ms.map V.int)) = H0
    have L0 : H0 L = some (.lst ((c0 :: ms).map V.int)) := by rw [← hH0]; exact upd_same
    refine ⟨L, rfl, ⟨_, SqL.of L0⟩, for_list (K := K) (a := L) (xs := (c0 :: ms).map V.int) (fun i σ H' => (∃ v1 v2 v3 v4 v5 v6 v7 v8, σ = [some (.ref a), v1, v2, v3, v4, v5, v6, v7, v8]) ∧ Same H0 H')
      ⟨⟨_, _, _, _, _, _, _, _, rfl⟩, Same.refl _⟩ (fun i σ H' _ ⟨_, s⟩ => SqL.of (s _ _ L0)) ?_ ?_⟩
    · rintro i x σ H1 hi ⟨⟨v1, v2, v3, v4, v5, v6, v7, v8, rfl⟩, s01⟩
      obtain ⟨c, rfl⟩ : ∃ c, x = V.int c := by
        rw [List.getElem?_map] at hi
        cases e : (c0 :: ms)[i]? with
        | none => rw [e] at hi; cases hi
        | some c => rw [e] at hi; exact ⟨c, (Option.some.inj hi).symm⟩
      refine ⟨_, rfl, c, rfl, fun sp H2 hp S2 s12 => ?_⟩
      have p0 : H0 sp = none := s01.free hp
      have s02 := s01.trans s12
      refine ⟨_, rfl, sp, 1000, rfl, S2, by decide, by decide, fun r H3 r0 r1 S3 B3 => ?_⟩
      have s03 : Same H0 H3 := Same.but s02 p0 B3
      refine ⟨_, _, rfl, rfl, ?_⟩
      have b1 : -1000 ≤ r - 1 := by omega
      have b2 : r - 1 ≤ 1000 := by omega
      -- the nine errors
      refine ⟨by show 1 ≤ 1000; decide, fun a0 n0 => mk_x n0 fun H4 X0 s4 => ?_⟩
      refine ⟨_, rfl, by show 1 ≤ 1000; decide, fun a1 n1 => mk_x n1 fun H5 X1 s5 => ?_⟩
      refine ⟨_, rfl, _, _, rfl, rfl, by show 1 ≤ 1000; decide, fun a2 n2 => mk_x n2 fun H6 X2 s6 a3 n3 a4 n4 => ?_⟩
      have s7 : Same H6 (L2.upd (L2.upd H6 a3 (exo a3 N.c3 none)) a4 (exo a4 N.c4 none)) := (Same.new n3).trans (Same.new n4)
      have X3 : (L2.upd (L2.upd H6 a3 (exo a3 N.c3 none)) a4 (exo a4 N.c4 none)) a3 = some (exo a3 N.c3 none) := Same.new n4 _ _ upd_same
      have X4 : (L2.upd (L2.upd H6 a3 (exo a3 N.c3 none)) a4 (exo a4 N.c4 none)) a4 = some (exo a4 N.c4 none) := upd_same
      generalize L2.upd (L2.upd H6 a3 (exo a3 N.c3 none)) a4 (exo a4 N.c4 none) = H7 at s7 X3 X4
      refine ⟨by show 5 ≤ sizeLine; decide, fun m1 hm1 => ?_⟩
      have s8 : Same H7 (L2.upd H7 m1 (.lst [.ref a0, .ref a1, .ref a2, .ref a3, .ref a4])) := Same.new hm1
      have M1 : (L2.upd H7 m1 (.lst [.ref a0, .ref a1, .ref a2, .ref a3, .ref a4])) m1 = some (.lst [.ref a0, .ref a1, .ref a2, .ref a3, .ref a4]) := upd_same
      generalize L2.upd H7 m1 (.lst [.ref a0, .ref a1, .ref a2, .ref a3, .ref a4]) = H8 at s8 M1
      refine ⟨_, rfl, by show 1 ≤ 1000; decide, fun a5 n5 => mk_x n5 fun H9 X5 s9 => ?_⟩
      refine ⟨by show 2 ≤ sizeLine; decide, fun p hpp => ?_⟩
      have s10 : Same H9 (L2.upd H9 p (.tup [.str "a", .str "b"])) := Same.new hpp
      have Xp : (L2.upd H9 p (.tup [.str "a", .str "b"])) p = some (.tup [.str "a", .str "b"]) := upd_same
      generalize L2.upd H9 p (.tup [.str "a", .str "b"]) = HA at s10 Xp
      refine ⟨by show 1 ≤ 1000; decide, fun a6 n6 => mk_x n6 fun HB X6 sB => ?_⟩
      refine ⟨_, rfl, by show 1 ≤ sizeLine; decide, fun q hq => ?_⟩
      have sC : Same HB (L2.upd HB q (.lst [.int (r - 1)])) := Same.new hq
      have Xq : (L2.upd HB q (.lst [.int (r - 1)])) q = some (.lst [.int (r - 1)]) := upd_same
      generalize L2.upd HB q (.lst [.int (r - 1)]) = HC at sC Xq
      refine ⟨by show 1 ≤ 1000; decide, fun a7 n7 => mk_x n7 fun HD X7 sD a8 n8 => ?_⟩
      have sE : Same HD (L2.upd HD a8 (exo a8 N.c8 none)) := Same.new n8
      have X8 : (L2.upd HD a8 (exo a8 N.c8 none)) a8 = some (exo a8 N.c8 none) := upd_same
      generalize L2.upd HD a8 (exo a8 N.c8 none) = HE at sE X8
      refine ⟨by show 4 ≤ sizeLine; decide, fun m2 hm2 => ?_⟩
      have sF : Same HE (L2.upd HE m2 (.lst [.ref a5, .ref a6, .ref a7, .ref a8])) := Same.new hm2
      have M2 : (L2.upd HE m2 (.lst [.ref a5, .ref a6, .ref a7, .ref a8])) m2 = some (.lst [.ref a5, .ref a6, .ref a7, .ref a8]) := upd_same
      generalize L2.upd HE m2 (.lst [.ref a5, .ref a6, .ref a7, .ref a8]) = HF at sF M2
      have s8F : Same H8 HF := s9.trans (s10.trans (sB.trans (sC.trans (sD.trans (sE.trans sF)))))
      refine ⟨m1, m2, _, _, rfl, rfl, s8F _ _ M1, M2, by show 9 ≤ sizeLine; decide, fun l hl => ?_⟩
      have sG : Same HF (L2.upd HF l (.lst ([.ref a0, .ref a1, .ref a2, .ref a3, .ref a4] ++ [.ref a5, .ref a6, .ref a7, .ref a8]))) := Same.new hl
      have ML : (L2.upd HF l (.lst ([.ref a0, .ref a1, .ref a2, .ref a3, .ref a4] ++ [.ref a5, .ref a6, .ref a7, .ref a8]))) l = some (.lst [.ref a0, .ref a1, .ref a2, .ref a3, .ref a4, .ref a5, .ref a6, .ref a7, .ref a8]) := upd_same
      generalize L2.upd HF l (.lst ([.ref a0, .ref a1, .ref a2, .ref a3, .ref a4] ++ [.ref a5, .ref a6, .ref a7, .ref a8])) = HG at sG ML
      have s8G := s8F.trans sG
      have s7G := s8.trans s8G
      have s6G := s7.trans s7G
      have s5G := s6.trans s6G
      have s4G := s5.trans s5G
      have s3G : Same H3 HG := s4.trans s4G
      have s0G := s03.trans s3G
      have sEG := sF.trans sG
      have sDG := sE.trans sEG
      have sCG := sD.trans sDG
      have sBG := sC.trans sCG
      have sAG := sB.trans sBG
      have s9G := s10.trans sAG
      have EE : Errs N HG l (r - 1) a0 a1 a2 a3 a4 a5 a6 a7 a8 p q := ⟨ML, X0.same s4G, X1.same s5G, X2.same s6G, s7G _ _ X3, s7G _ _ X4, X5.same s9G, X6.same sBG, sAG _ _ Xp, X7.same sDG, sCG _ _ Xq, sEG _ _ X8⟩
      clear X0 X1 X2 X3 X4 X5 X6 X7 X8 Xp Xq M1 M2 s4 s5 s6 s7 s8 s9 s10 sB sC sD sE sF sG s8F s8G s7G s6G s5G s4G s3G sEG sDG sCG sBG sAG s9G
      refine ⟨_, rfl, l, _, rfl, SqL.of ML, for_it (walk_enum (K := K) (a := l) (xs := [.ref a0, .ref a1, .ref a2, .ref a3, .ref a4, .ref a5, .ref a6, .ref a7, .ref a8]))
        (fun j σ H' => ∃ w5 w6, σ = [some (.ref a), some (.int c), some (.ref sp), some (.int (r - 1)), some (.ref l), w5, w6, v7, v8] ∧ Same HG H') ⟨_, _, rfl, Same.refl _⟩ (fun _ _ H' _ ⟨_, _, _, s⟩ => SqL.of (s _ _ ML)) ?_ ?_⟩
      · rintro j x σ J1 J2 hj ⟨w5, w6, rfl, sJ⟩ ⟨tq, x1, y1, rfl, htq, rfl, hx, hy⟩
        obtain rfl : V.int (j : Nat) = x1 := Option.some.inj hx
        have hj9 : j < 9 := hj
        have sJ2 : Same J1 (L2.upd J1 tq (.tup [.int (j : Nat), y1])) := Same.new htq
        have tq2 : (L2.upd J1 tq (.tup [.int (j : Nat), y1])) tq = some (.tup [.int (j : Nat), y1]) := upd_same
        generalize L2.upd J1 tq (.tup [.int (j : Nat), y1]) = J2 at sJ2 tq2
        have sGJ := sJ.trans sJ2
        obtain ⟨t, ty, kt, kp, kv⟩ := (EE.same sGJ).at T U hj9 hy
        refine ⟨tq, _, rfl, SqT.of tq2, rfl, _, _, rfl, _, _, rfl, rfl, ?_⟩
        refine ⟨_, rfl, y1, t, _, _, _, _, _, _, _, _, _, rfl, ty, kt, fun R J3 eR s23 => ?_⟩
        rw [pk_one hj9] at eR
        refine ⟨_, rfl, by show 1 ≤ sizeLine; decide, fun m hm => ?_⟩
        have s34 : Same J3 (L2.upd J3 m (.lst [.int (j : Nat)])) := Same.new hm
        refine ⟨_, _, .lst (SqL.of (s34 _ _ eR)) (.cons (.int _) .nil), .lst (SqL.of upd_same) (.cons (.int _) .nil), shp_i _, shp_i _, _, rfl, ?_⟩
        rw [eqv_i]
        have ty4 := (ty.same s23).same s34
        refine iteF ⟨_, rfl, _, _, t, _, true, rfl, .own _, ty4, kp, _, rfl, iteF ⟨_, rfl, _, _, t, _, true, rfl, .ty _, ty4, kv, _, rfl, iteF ?_⟩⟩
        exact ⟨_, _, rfl, (sGJ.trans s23).trans s34⟩
      · rintro σ J1 ⟨w5, w6, rfl, sJ⟩ ab hab
        have sB1 : Same J1 (L2.upd J1 ab (exo ab B none)) := Same.new hab
        have eB : (L2.upd J1 ab (exo ab B none)) ab = some (exo ab B none) := upd_same
        generalize L2.upd J1 ab (exo ab B none) = J2 at sB1 eB
        have tyB : TyE K J2 (.ref ab) (.ref B) := .plain eB U.xB
        refine ⟨_, rfl, _, _, _, _, _, _, _, _, _, _, _, rfl, tyB, U.rB, fun R J3 eR s23 => ?_⟩
        rw [pk_none] at eR
        refine ⟨by show 0 ≤ sizeLine; decide, fun m hm => ?_⟩
        have s34 : Same J3 (L2.upd J3 m (.lst [])) := Same.new hm
        refine ⟨_, _, .lst (SqL.of (s34 _ _ eR)) .nil, .lst (SqL.of upd_same) .nil, shp_0, shp_0, _, rfl, ?_⟩
        rw [eqv_0]
        generalize L2.upd J3 m (.lst []) = J4 at s34
        refine iteF ⟨_, rfl, _, _, _, _, true, rfl, .ty _, (tyB.same s23).same s34, U.vB, _, rfl, iteF ?_⟩
        intro ax hax
        have s45 : Same J4 (L2.upd J4 ax (bxo ax "ValueError")) := Same.new hax
        refine ⟨_, _, _, _, _, _, _, _, _, _, _, rfl, .blt upd_same, U.rV, fun R2 J6 eR2 s56 => ?_⟩
        rw [pk_none] at eR2
        refine ⟨by show 0 ≤ sizeLine; decide, fun m2 hm2 => ?_⟩
        have s67 : Same J6 (L2.upd J6 m2 (.lst [])) := Same.new hm2
        refine ⟨_, _, .lst (SqL.of (s67 _ _ eR2)) .nil, .lst (SqL.of upd_same) .nil, shp_0, shp_0, _, rfl, ?_⟩
        rw [eqv_0]
        refine iteF ?_
        have sG7 : Same HG (L2.upd J6 m2 (.lst [])) := sJ.trans (sB1.trans (s23.trans (s34.trans (s45.trans (s56.trans s67)))))
        generalize L2.upd J6 m2 (.lst []) = J7 at sG7
        refine ⟨_, rfl, _, rfl, l, (r - 1), a0, a1, a2, a3, a4, a5, a6, a7, a8, p, q, rfl, b1, b2, EE.same sG7, fun J8 s78 => ⟨_, rfl, iteF ?_⟩⟩
        have sG8 := sG7.trans s78
        refine ⟨_, rfl, by show 1 ≤ sizeLine; decide, fun q2 hq2 => ?_⟩
        have s89 : Same J8 (L2.upd J8 q2 (.lst [.int (r - 1)])) := Same.new hq2
        have eq2 : (L2.upd J8 q2 (.lst [.int (r - 1)])) q2 = some (.lst [.int (r - 1)]) := upd_same
        generalize L2.upd J8 q2 (.lst [.int (r - 1)]) = J9 at s89 eq2
        refine ⟨by show 1 ≤ 1000; decide, fun a9 n9 => mk_x n9 fun JA X9 s9A => ?_⟩
        obtain ⟨d9, x9, y9⟩ := X9
        refine ⟨_, rfl, a9, _, d9, _, _, rfl, x9, y9, T.x6, T.f6, rfl, _, rfl, by show 1 ≤ sizeLine; decide, fun m3 hm3 => ?_⟩
        have sAB : Same JA (L2.upd JA m3 (.lst [.int (r - 1)])) := Same.new hm3
        refine ⟨_, _, .lst (SqL.of (sAB _ _ (s9A _ _ eq2))) (.cons (.int _) .nil), .lst (SqL.of upd_same) (.cons (.int _) .nil), shp_i _, shp_i _, _, rfl, ?_⟩
        rw [eqv_i]
        have sGB : Same HG (L2.upd JA m3 (.lst [.int (r - 1)])) := sG8.trans (s89.trans (s9A.trans sAB))
        generalize L2.upd JA m3 (.lst [.int (r - 1)]) = JB at sGB
        have EB := EE.same sGB
        obtain ⟨d6, x6, y6⟩ := EB.e6
        refine iteF ⟨_, rfl, l, _, _, _, rfl, rfl, SqL.of EB.ls, atI_nat (j := 6) rfl, a6, _, d6, _, _, rfl, x6, y6, T.x6, T.f6, rfl, by show 2 ≤ sizeLine; decide, fun m4 hm4 => ?_⟩
        have sBC : Same JB (L2.upd JB m4 (.tup [.str "a", .str "b"])) := Same.new hm4
        refine ⟨_, _, .tup (SqT.of (sBC _ _ EB.ep)) (.cons (.str _) (.cons (.str _) .nil)), .tup (SqT.of upd_same) (.cons (.str _) (.cons (.str _) .nil)), shp_ab, shp_ab, _, rfl, ?_⟩
        rw [eqv_ab]
        exact iteF ⟨⟨_, _, _, _, _, _, _, _, rfl⟩, s0G.trans (sGB.trans sBC)⟩
    · rintro σ H1 ⟨_, _⟩
      exact k H1
end
end CP
namespace CP
open PySem L2
set_option maxHeartbeats 4000000 in
theorem all_mk {l : PySem.W.OpenLaw} {w : World} {K : PySem.W.Frag} {h : Heap} {mg : Str → Option Value} {fa B c0 c1 c2 c3 c4 c5 c6 c7 c8 fCe fSo fNe fKi fFi fLa fI0 fI1 fI2 fI5 fI6 fI7 : Addr} (X : K.In h) (G : h.Ns mainGlobals mg) (hfa : mg "law" = some (.ref fa))
    {odCe anCe odSo anSo odNe anNe odKi anKi odFi anFi odLa anLa odI0 anI0 odI1 anI1 odI2 anI2 odI5 anI5 odI6 anI6 odI7 anI7 : Option Addr} {slCe slSo slNe slKi slFi slLa slI0 slI1 slI2 slI5 slI6 slI7 : Array (Option Value)} {ocCe kVCe dcCe pmCe cdCe ctCe ocSo kVSo dcSo pmSo cdSo ctSo ocNe kVNe dcNe pmNe cdNe ctNe ocKi kVKi dcKi pmKi cdKi ctKi ocFi kVFi dcFi pmFi cdFi ctFi ocLa kVLa dcLa pmLa cdLa ctLa ocI0 kVI0 dcI0 pmI0 cdI0 ctI0 ocI1 kVI1 dcI1 pmI1 cdI1 ctI1 ocI2 kVI2 dcI2 pmI2 cdI2 ctI2 ocI5 kVI5 dcI5 pmI5 cdI5 ctI5 ocI6 kVI6 dcI6 pmI6 cdI6 ctI6 ocI7 kVI7 dcI7 pmI7 cdI7 ctI7 : Value}
    {nm0 q0 nm1 q1 nm2 q2 nm5 q5 nm6 q6 nm7 q7 : Str} {N0 N1 N2 N5 N6 N7 : Addr} {bs0 bm0 sub0 bs1 bm1 sub1 bs2 bm2 sub2 bs5 bm5 sub5 bs6 bm6 sub6 bs7 bm7 sub7 : List Value} {sn0 sn1 sn2 sn5 sn6 sn7 : List Str} {ab0 ab1 ab2 ab5 ab6 ab7 : Bool} {col0 col1 col2 col5 col6 col7 : Option Bool} {dd0 dd1 dd2 dd5 dd6 dd7 : Option Addr} {k0_0 k1_0 k2_0 k3_0 k5_0 k0_1 k1_1 k2_1 k3_1 k5_1 k0_2 k1_2 k2_2 k3_2 k5_2 k0_5 k1_5 k2_5 k3_5 k5_5 k0_6 k1_6 k2_6 k3_6 k5_6 k0_7 k1_7 k2_7 k3_7 k5_7 : Option Value}
    {cdt0 cdt1 cdt2 cdt3 cdt4 cdt5 cdt6 cdt7 cdt8 cdtB : ClassData}
    (ac0 : PySem.W.nsIn K mainGlobals "NoGraph" = some (some (.ref c0)))
    (ac1 : PySem.W.nsIn K mainGlobals "NoRecord" = some (some (.ref c1)))
    (ac2 : PySem.W.nsIn K mainGlobals "NoCarry" = some (some (.ref c2)))
    (ac3 : PySem.W.nsIn K mainGlobals "NoOrder" = some (some (.ref c3)))
    (ac4 : PySem.W.nsIn K mainGlobals "NoWitness" = some (some (.ref c4)))
    (ac5 : PySem.W.nsIn K mainGlobals "NoDrawing" = some (some (.ref c5)))
    (ac6 : PySem.W.nsIn K mainGlobals "NoEdge" = some (some (.ref c6)))
    (ac7 : PySem.W.nsIn K mainGlobals "NotDrawable" = some (some (.ref c7)))
    (ac8 : PySem.W.nsIn K mainGlobals "NoMost" = some (some (.ref c8)))
    (acB : PySem.W.nsIn K mainGlobals "ParityError" = some (some (.ref B)))
    (aCe : PySem.W.nsIn K mainGlobals "_law_cell_at" = some (some (.ref fCe)))
    (lCe : K.lookup fCe = some ⟨ocCe, odCe, .func (PySem.W.fnOf "_law_cell_at" "_law_cell_at" (defArgs sCell) (defBody sCell) (defScope sCell) .none kVCe dcCe pmCe anCe cdCe ctCe), slCe⟩)
    (cCe : PySem.W.codeIn K cdCe "_law_cell_at" = true)
    (kCe : PySem.W.keepIn K (.ref fCe) = true)
    (aSo : PySem.W.nsIn K mainGlobals "_law_source_of" = some (some (.ref fSo)))
    (lSo : K.lookup fSo = some ⟨ocSo, odSo, .func (PySem.W.fnOf "_law_source_of" "_law_source_of" (defArgs sSource) (defBody sSource) (defScope sSource) .none kVSo dcSo pmSo anSo cdSo ctSo), slSo⟩)
    (cSo : PySem.W.codeIn K cdSo "_law_source_of" = true)
    (kSo : PySem.W.keepIn K (.ref fSo) = true)
    (aNe : PySem.W.nsIn K mainGlobals "_law_next" = some (some (.ref fNe)))
    (lNe : K.lookup fNe = some ⟨ocNe, odNe, .func (PySem.W.fnOf "_law_next" "_law_next" (defArgs sNext) (defBody sNext) (defScope sNext) .none kVNe dcNe pmNe anNe cdNe ctNe), slNe⟩)
    (cNe : PySem.W.codeIn K cdNe "_law_next" = true)
    (kNe : PySem.W.keepIn K (.ref fNe) = true)
    (aKi : PySem.W.nsIn K mainGlobals "_law_kinds" = some (some (.ref fKi)))
    (lKi : K.lookup fKi = some ⟨ocKi, odKi, .func (PySem.W.fnOf "_law_kinds" "_law_kinds" (defArgs sKinds) (defBody sKinds) (defScope sKinds) .none kVKi dcKi pmKi anKi cdKi ctKi), slKi⟩)
    (cKi : PySem.W.codeIn K cdKi "_law_kinds" = true)
    (kKi : PySem.W.keepIn K (.ref fKi) = true)
    (aFi : PySem.W.nsIn K mainGlobals "_law_fields_right" = some (some (.ref fFi)))
    (lFi : K.lookup fFi = some ⟨ocFi, odFi, .func (PySem.W.fnOf "_law_fields_right" "_law_fields_right" (defArgs sFields) (defBody sFields) (defScope sFields) .none kVFi dcFi pmFi anFi cdFi ctFi), slFi⟩)
    (cFi : PySem.W.codeIn K cdFi "_law_fields_right" = true)
    (kFi : PySem.W.keepIn K (.ref fFi) = true)
    (aLa : PySem.W.nsIn K mainGlobals "law" = some (some (.ref fLa)))
    (lLa : K.lookup fLa = some ⟨ocLa, odLa, .func (PySem.W.fnOf "law" "law" (defArgs sLaw) (defBody sLaw) (defScope sLaw) .none kVLa dcLa pmLa anLa cdLa ctLa), slLa⟩)
    (cLa : PySem.W.codeIn K cdLa "law" = true)
    (kLa : PySem.W.keepIn K (.ref fLa) = true)
    (aI0 : PySem.W.findIn K (.ref c0) "__init__" = some (some (.ref fI0)))
    (tI0 : PySem.W.typeIn K (.ref fI0) = some (.type "function"))
    (lI0 : K.lookup fI0 = some ⟨ocI0, odI0, .func (PySem.W.fnOf "__init__" "NoGraph.__init__" (defArgs sI0) (defBody sI0) (defScope sI0) .none kVI0 dcI0 pmI0 anI0 cdI0 ctI0), slI0⟩)
    (cI0 : PySem.W.codeIn K cdI0 "NoGraph.__init__" = true)
    (kI0 : PySem.W.keepIn K (.ref fI0) = true)
    (ox0 : K.lookup c0 = some (PySem.excClassObj nm0 q0 c0 N0 bs0 bm0 true sn0 sub0 ab0 col0 dd0 k0_0 k1_0 k2_0 k3_0 k5_0 "ValueError.__new__"))
    (rv0 : PySem.HandSPX.refsVE bm0 = true)
    (sa0 : PySem.W.findIn K (.ref c0) "__setattr__" = some (some (.builtin "object.__setattr__")))
    (ty0 : PySem.W.typeIn K (.ref c0) = some (.type "type"))
    (kp0 : PySem.W.keepIn K (.ref c0) = true)
    (fn0 : PySem.W.findIn K (.ref c0) "why" = some none)
    (aI1 : PySem.W.findIn K (.ref c1) "__init__" = some (some (.ref fI1)))
    (tI1 : PySem.W.typeIn K (.ref fI1) = some (.type "function"))
    (lI1 : K.lookup fI1 = some ⟨ocI1, odI1, .func (PySem.W.fnOf "__init__" "NoRecord.__init__" (defArgs sI1) (defBody sI1) (defScope sI1) .none kVI1 dcI1 pmI1 anI1 cdI1 ctI1), slI1⟩)
    (cI1 : PySem.W.codeIn K cdI1 "NoRecord.__init__" = true)
    (kI1 : PySem.W.keepIn K (.ref fI1) = true)
    (ox1 : K.lookup c1 = some (PySem.excClassObj nm1 q1 c1 N1 bs1 bm1 true sn1 sub1 ab1 col1 dd1 k0_1 k1_1 k2_1 k3_1 k5_1 "ValueError.__new__"))
    (rv1 : PySem.HandSPX.refsVE bm1 = true)
    (sa1 : PySem.W.findIn K (.ref c1) "__setattr__" = some (some (.builtin "object.__setattr__")))
    (ty1 : PySem.W.typeIn K (.ref c1) = some (.type "type"))
    (kp1 : PySem.W.keepIn K (.ref c1) = true)
    (fn1 : PySem.W.findIn K (.ref c1) "at" = some none)
    (aI2 : PySem.W.findIn K (.ref c2) "__init__" = some (some (.ref fI2)))
    (tI2 : PySem.W.typeIn K (.ref fI2) = some (.type "function"))
    (lI2 : K.lookup fI2 = some ⟨ocI2, odI2, .func (PySem.W.fnOf "__init__" "NoCarry.__init__" (defArgs sI2) (defBody sI2) (defScope sI2) .none kVI2 dcI2 pmI2 anI2 cdI2 ctI2), slI2⟩)
    (cI2 : PySem.W.codeIn K cdI2 "NoCarry.__init__" = true)
    (kI2 : PySem.W.keepIn K (.ref fI2) = true)
    (ox2 : K.lookup c2 = some (PySem.excClassObj nm2 q2 c2 N2 bs2 bm2 true sn2 sub2 ab2 col2 dd2 k0_2 k1_2 k2_2 k3_2 k5_2 "ValueError.__new__"))
    (rv2 : PySem.HandSPX.refsVE bm2 = true)
    (sa2 : PySem.W.findIn K (.ref c2) "__setattr__" = some (some (.builtin "object.__setattr__")))
    (ty2 : PySem.W.typeIn K (.ref c2) = some (.type "type"))
    (kp2 : PySem.W.keepIn K (.ref c2) = true)
    (fn2 : PySem.W.findIn K (.ref c2) "at" = some none)
    (aI5 : PySem.W.findIn K (.ref c5) "__init__" = some (some (.ref fI5)))
    (tI5 : PySem.W.typeIn K (.ref fI5) = some (.type "function"))
    (lI5 : K.lookup fI5 = some ⟨ocI5, odI5, .func (PySem.W.fnOf "__init__" "NoDrawing.__init__" (defArgs sI5) (defBody sI5) (defScope sI5) .none kVI5 dcI5 pmI5 anI5 cdI5 ctI5), slI5⟩)
    (cI5 : PySem.W.codeIn K cdI5 "NoDrawing.__init__" = true)
    (kI5 : PySem.W.keepIn K (.ref fI5) = true)
    (ox5 : K.lookup c5 = some (PySem.excClassObj nm5 q5 c5 N5 bs5 bm5 true sn5 sub5 ab5 col5 dd5 k0_5 k1_5 k2_5 k3_5 k5_5 "ValueError.__new__"))
    (rv5 : PySem.HandSPX.refsVE bm5 = true)
    (sa5 : PySem.W.findIn K (.ref c5) "__setattr__" = some (some (.builtin "object.__setattr__")))
    (ty5 : PySem.W.typeIn K (.ref c5) = some (.type "type"))
    (kp5 : PySem.W.keepIn K (.ref c5) = true)
    (fn5 : PySem.W.findIn K (.ref c5) "why" = some none)
    (aI6 : PySem.W.findIn K (.ref c6) "__init__" = some (some (.ref fI6)))
    (tI6 : PySem.W.typeIn K (.ref fI6) = some (.type "function"))
    (lI6 : K.lookup fI6 = some ⟨ocI6, odI6, .func (PySem.W.fnOf "__init__" "NoEdge.__init__" (defArgs sI6) (defBody sI6) (defScope sI6) .none kVI6 dcI6 pmI6 anI6 cdI6 ctI6), slI6⟩)
    (cI6 : PySem.W.codeIn K cdI6 "NoEdge.__init__" = true)
    (kI6 : PySem.W.keepIn K (.ref fI6) = true)
    (ox6 : K.lookup c6 = some (PySem.excClassObj nm6 q6 c6 N6 bs6 bm6 true sn6 sub6 ab6 col6 dd6 k0_6 k1_6 k2_6 k3_6 k5_6 "ValueError.__new__"))
    (rv6 : PySem.HandSPX.refsVE bm6 = true)
    (sa6 : PySem.W.findIn K (.ref c6) "__setattr__" = some (some (.builtin "object.__setattr__")))
    (ty6 : PySem.W.typeIn K (.ref c6) = some (.type "type"))
    (kp6 : PySem.W.keepIn K (.ref c6) = true)
    (fn6 : PySem.W.findIn K (.ref c6) "edge" = some none)
    (aI7 : PySem.W.findIn K (.ref c7) "__init__" = some (some (.ref fI7)))
    (tI7 : PySem.W.typeIn K (.ref fI7) = some (.type "function"))
    (lI7 : K.lookup fI7 = some ⟨ocI7, odI7, .func (PySem.W.fnOf "__init__" "NotDrawable.__init__" (defArgs sI7) (defBody sI7) (defScope sI7) .none kVI7 dcI7 pmI7 anI7 cdI7 ctI7), slI7⟩)
    (cI7 : PySem.W.codeIn K cdI7 "NotDrawable.__init__" = true)
    (kI7 : PySem.W.keepIn K (.ref fI7) = true)
    (ox7 : K.lookup c7 = some (PySem.excClassObj nm7 q7 c7 N7 bs7 bm7 true sn7 sub7 ab7 col7 dd7 k0_7 k1_7 k2_7 k3_7 k5_7 "ValueError.__new__"))
    (rv7 : PySem.HandSPX.refsVE bm7 = true)
    (sa7 : PySem.W.findIn K (.ref c7) "__setattr__" = some (some (.builtin "object.__setattr__")))
    (ty7 : PySem.W.typeIn K (.ref c7) = some (.type "type"))
    (kp7 : PySem.W.keepIn K (.ref c7) = true)
    (fn7 : PySem.W.findIn K (.ref c7) "witness" = some none)
    (sg : PySem.W.specialIn K (.builtin "object.__class__") "__get__" = some (some (.builtin "getset_descriptor.__get__")))
    (tk : PySem.W.takesIn K (.builtin "object.__class__") = some true)
    (xcl0 : PySem.W.clsIn K c0 = some cdt0)
    (xga0 : PySem.W.findIn K (.ref c0) "__getattribute__" = some (some (.builtin "BaseException.__getattribute__")))
    (xgg0 : PySem.W.findIn K (.ref c0) "__getattr__" = some none)
    (xsb0 : PySem.W.subIn K (.ref c0) (.type "BaseException") = some true)
    (xhd0 : PySem.W.hasDictIn K c0 = true)
    (xca0 : PySem.W.findIn K (.ref c0) "__class__" = some (some (.builtin "object.__class__")))
    (xmo0 : PySem.W.mroIn K c0 (.type "object") = some true)
    (xcl1 : PySem.W.clsIn K c1 = some cdt1)
    (xga1 : PySem.W.findIn K (.ref c1) "__getattribute__" = some (some (.builtin "BaseException.__getattribute__")))
    (xgg1 : PySem.W.findIn K (.ref c1) "__getattr__" = some none)
    (xsb1 : PySem.W.subIn K (.ref c1) (.type "BaseException") = some true)
    (xhd1 : PySem.W.hasDictIn K c1 = true)
    (xca1 : PySem.W.findIn K (.ref c1) "__class__" = some (some (.builtin "object.__class__")))
    (xmo1 : PySem.W.mroIn K c1 (.type "object") = some true)
    (xcl2 : PySem.W.clsIn K c2 = some cdt2)
    (xga2 : PySem.W.findIn K (.ref c2) "__getattribute__" = some (some (.builtin "BaseException.__getattribute__")))
    (xgg2 : PySem.W.findIn K (.ref c2) "__getattr__" = some none)
    (xsb2 : PySem.W.subIn K (.ref c2) (.type "BaseException") = some true)
    (xhd2 : PySem.W.hasDictIn K c2 = true)
    (xca2 : PySem.W.findIn K (.ref c2) "__class__" = some (some (.builtin "object.__class__")))
    (xmo2 : PySem.W.mroIn K c2 (.type "object") = some true)
    (xcl3 : PySem.W.clsIn K c3 = some cdt3)
    (xga3 : PySem.W.findIn K (.ref c3) "__getattribute__" = some (some (.builtin "BaseException.__getattribute__")))
    (xgg3 : PySem.W.findIn K (.ref c3) "__getattr__" = some none)
    (xsb3 : PySem.W.subIn K (.ref c3) (.type "BaseException") = some true)
    (xhd3 : PySem.W.hasDictIn K c3 = true)
    (xca3 : PySem.W.findIn K (.ref c3) "__class__" = some (some (.builtin "object.__class__")))
    (xmo3 : PySem.W.mroIn K c3 (.type "object") = some true)
    (xcl4 : PySem.W.clsIn K c4 = some cdt4)
    (xga4 : PySem.W.findIn K (.ref c4) "__getattribute__" = some (some (.builtin "BaseException.__getattribute__")))
    (xgg4 : PySem.W.findIn K (.ref c4) "__getattr__" = some none)
    (xsb4 : PySem.W.subIn K (.ref c4) (.type "BaseException") = some true)
    (xhd4 : PySem.W.hasDictIn K c4 = true)
    (xca4 : PySem.W.findIn K (.ref c4) "__class__" = some (some (.builtin "object.__class__")))
    (xmo4 : PySem.W.mroIn K c4 (.type "object") = some true)
    (xcl5 : PySem.W.clsIn K c5 = some cdt5)
    (xga5 : PySem.W.findIn K (.ref c5) "__getattribute__" = some (some (.builtin "BaseException.__getattribute__")))
    (xgg5 : PySem.W.findIn K (.ref c5) "__getattr__" = some none)
    (xsb5 : PySem.W.subIn K (.ref c5) (.type "BaseException") = some true)
    (xhd5 : PySem.W.hasDictIn K c5 = true)
    (xca5 : PySem.W.findIn K (.ref c5) "__class__" = some (some (.builtin "object.__class__")))
    (xmo5 : PySem.W.mroIn K c5 (.type "object") = some true)
    (xcl6 : PySem.W.clsIn K c6 = some cdt6)
    (xga6 : PySem.W.findIn K (.ref c6) "__getattribute__" = some (some (.builtin "BaseException.__getattribute__")))
    (xgg6 : PySem.W.findIn K (.ref c6) "__getattr__" = some none)
    (xsb6 : PySem.W.subIn K (.ref c6) (.type "BaseException") = some true)
    (xhd6 : PySem.W.hasDictIn K c6 = true)
    (xca6 : PySem.W.findIn K (.ref c6) "__class__" = some (some (.builtin "object.__class__")))
    (xmo6 : PySem.W.mroIn K c6 (.type "object") = some true)
    (xcl7 : PySem.W.clsIn K c7 = some cdt7)
    (xga7 : PySem.W.findIn K (.ref c7) "__getattribute__" = some (some (.builtin "BaseException.__getattribute__")))
    (xgg7 : PySem.W.findIn K (.ref c7) "__getattr__" = some none)
    (xsb7 : PySem.W.subIn K (.ref c7) (.type "BaseException") = some true)
    (xhd7 : PySem.W.hasDictIn K c7 = true)
    (xca7 : PySem.W.findIn K (.ref c7) "__class__" = some (some (.builtin "object.__class__")))
    (xmo7 : PySem.W.mroIn K c7 (.type "object") = some true)
    (xcl8 : PySem.W.clsIn K c8 = some cdt8)
    (xga8 : PySem.W.findIn K (.ref c8) "__getattribute__" = some (some (.builtin "BaseException.__getattribute__")))
    (xgg8 : PySem.W.findIn K (.ref c8) "__getattr__" = some none)
    (xsb8 : PySem.W.subIn K (.ref c8) (.type "BaseException") = some true)
    (xhd8 : PySem.W.hasDictIn K c8 = true)
    (xca8 : PySem.W.findIn K (.ref c8) "__class__" = some (some (.builtin "object.__class__")))
    (xmo8 : PySem.W.mroIn K c8 (.type "object") = some true)
    (xclB : PySem.W.clsIn K B = some cdtB)
    (xgaB : PySem.W.findIn K (.ref B) "__getattribute__" = some (some (.builtin "BaseException.__getattribute__")))
    (xggB : PySem.W.findIn K (.ref B) "__getattr__" = some none)
    (xsbB : PySem.W.subIn K (.ref B) (.type "BaseException") = some true)
    (xhdB : PySem.W.hasDictIn K B = true)
    (xcaB : PySem.W.findIn K (.ref B) "__class__" = some (some (.builtin "object.__class__")))
    (xmoB : PySem.W.mroIn K B (.type "object") = some true)
    (kt0_0 : PySem.W.kitOne K (.ref c0) (.ref c0) = some true)
    (kt0_1 : PySem.W.kitOne K (.ref c0) (.ref c1) = some false)
    (kt0_2 : PySem.W.kitOne K (.ref c0) (.ref c2) = some false)
    (kt0_3 : PySem.W.kitOne K (.ref c0) (.ref c3) = some false)
    (kt0_4 : PySem.W.kitOne K (.ref c0) (.ref c4) = some false)
    (kt0_5 : PySem.W.kitOne K (.ref c0) (.ref c5) = some false)
    (kt0_6 : PySem.W.kitOne K (.ref c0) (.ref c6) = some false)
    (kt0_7 : PySem.W.kitOne K (.ref c0) (.ref c7) = some false)
    (kt0_8 : PySem.W.kitOne K (.ref c0) (.ref c8) = some false)
    (kb0 : PySem.W.kitOne K (.ref c0) (.ref B) = some true)
    (kv0 : PySem.W.kitOne K (.ref c0) (.type "ValueError") = some true)
    (ktB_0 : PySem.W.kitOne K (.ref B) (.ref c0) = some false)
    (ktV_0 : PySem.W.kitOne K (.type "ValueError") (.ref c0) = some false)
    (kt1_0 : PySem.W.kitOne K (.ref c1) (.ref c0) = some false)
    (kt1_1 : PySem.W.kitOne K (.ref c1) (.ref c1) = some true)
    (kt1_2 : PySem.W.kitOne K (.ref c1) (.ref c2) = some false)
    (kt1_3 : PySem.W.kitOne K (.ref c1) (.ref c3) = some false)
    (kt1_4 : PySem.W.kitOne K (.ref c1) (.ref c4) = some false)
    (kt1_5 : PySem.W.kitOne K (.ref c1) (.ref c5) = some false)
    (kt1_6 : PySem.W.kitOne K (.ref c1) (.ref c6) = some false)
    (kt1_7 : PySem.W.kitOne K (.ref c1) (.ref c7) = some false)
    (kt1_8 : PySem.W.kitOne K (.ref c1) (.ref c8) = some false)
    (kb1 : PySem.W.kitOne K (.ref c1) (.ref B) = some true)
    (kv1 : PySem.W.kitOne K (.ref c1) (.type "ValueError") = some true)
    (ktB_1 : PySem.W.kitOne K (.ref B) (.ref c1) = some false)
    (ktV_1 : PySem.W.kitOne K (.type "ValueError") (.ref c1) = some false)
    (kt2_0 : PySem.W.kitOne K (.ref c2) (.ref c0) = some false)
    (kt2_1 : PySem.W.kitOne K (.ref c2) (.ref c1) = some false)
    (kt2_2 : PySem.W.kitOne K (.ref c2) (.ref c2) = some true)
    (kt2_3 : PySem.W.kitOne K (.ref c2) (.ref c3) = some false)
    (kt2_4 : PySem.W.kitOne K (.ref c2) (.ref c4) = some false)
    (kt2_5 : PySem.W.kitOne K (.ref c2) (.ref c5) = some false)
    (kt2_6 : PySem.W.kitOne K (.ref c2) (.ref c6) = some false)
    (kt2_7 : PySem.W.kitOne K (.ref c2) (.ref c7) = some false)
    (kt2_8 : PySem.W.kitOne K (.ref c2) (.ref c8) = some false)
    (kb2 : PySem.W.kitOne K (.ref c2) (.ref B) = some true)
    (kv2 : PySem.W.kitOne K (.ref c2) (.type "ValueError") = some true)
    (ktB_2 : PySem.W.kitOne K (.ref B) (.ref c2) = some false)
    (ktV_2 : PySem.W.kitOne K (.type "ValueError") (.ref c2) = some false)
    (kt3_0 : PySem.W.kitOne K (.ref c3) (.ref c0) = some false)
    (kt3_1 : PySem.W.kitOne K (.ref c3) (.ref c1) = some false)
    (kt3_2 : PySem.W.kitOne K (.ref c3) (.ref c2) = some false)
    (kt3_3 : PySem.W.kitOne K (.ref c3) (.ref c3) = some true)
    (kt3_4 : PySem.W.kitOne K (.ref c3) (.ref c4) = some false)
    (kt3_5 : PySem.W.kitOne K (.ref c3) (.ref c5) = some false)
    (kt3_6 : PySem.W.kitOne K (.ref c3) (.ref c6) = some false)
    (kt3_7 : PySem.W.kitOne K (.ref c3) (.ref c7) = some false)
    (kt3_8 : PySem.W.kitOne K (.ref c3) (.ref c8) = some false)
    (kb3 : PySem.W.kitOne K (.ref c3) (.ref B) = some true)
    (kv3 : PySem.W.kitOne K (.ref c3) (.type "ValueError") = some true)
    (ktB_3 : PySem.W.kitOne K (.ref B) (.ref c3) = some false)
    (ktV_3 : PySem.W.kitOne K (.type "ValueError") (.ref c3) = some false)
    (kt4_0 : PySem.W.kitOne K (.ref c4) (.ref c0) = some false)
    (kt4_1 : PySem.W.kitOne K (.ref c4) (.ref c1) = some false)
    (kt4_2 : PySem.W.kitOne K (.ref c4) (.ref c2) = some false)
    (kt4_3 : PySem.W.kitOne K (.ref c4) (.ref c3) = some false)
    (kt4_4 : PySem.W.kitOne K (.ref c4) (.ref c4) = some true)
    (kt4_5 : PySem.W.kitOne K (.ref c4) (.ref c5) = some false)
    (kt4_6 : PySem.W.kitOne K (.ref c4) (.ref c6) = some false)
    (kt4_7 : PySem.W.kitOne K (.ref c4) (.ref c7) = some false)
    (kt4_8 : PySem.W.kitOne K (.ref c4) (.ref c8) = some false)
    (kb4 : PySem.W.kitOne K (.ref c4) (.ref B) = some true)
    (kv4 : PySem.W.kitOne K (.ref c4) (.type "ValueError") = some true)
    (ktB_4 : PySem.W.kitOne K (.ref B) (.ref c4) = some false)
    (ktV_4 : PySem.W.kitOne K (.type "ValueError") (.ref c4) = some false)
    (kt5_0 : PySem.W.kitOne K (.ref c5) (.ref c0) = some false)
    (kt5_1 : PySem.W.kitOne K (.ref c5) (.ref c1) = some false)
    (kt5_2 : PySem.W.kitOne K (.ref c5) (.ref c2) = some false)
    (kt5_3 : PySem.W.kitOne K (.ref c5) (.ref c3) = some false)
    (kt5_4 : PySem.W.kitOne K (.ref c5) (.ref c4) = some false)
    (kt5_5 : PySem.W.kitOne K (.ref c5) (.ref c5) = some true)
    (kt5_6 : PySem.W.kitOne K (.ref c5) (.ref c6) = some false)
    (kt5_7 : PySem.W.kitOne K (.ref c5) (.ref c7) = some false)
    (kt5_8 : PySem.W.kitOne K (.ref c5) (.ref c8) = some false)
    (kb5 : PySem.W.kitOne K (.ref c5) (.ref B) = some true)
    (kv5 : PySem.W.kitOne K (.ref c5) (.type "ValueError") = some true)
    (ktB_5 : PySem.W.kitOne K (.ref B) (.ref c5) = some false)
    (ktV_5 : PySem.W.kitOne K (.type "ValueError") (.ref c5) = some false)
    (kt6_0 : PySem.W.kitOne K (.ref c6) (.ref c0) = some false)
    (kt6_1 : PySem.W.kitOne K (.ref c6) (.ref c1) = some false)
    (kt6_2 : PySem.W.kitOne K (.ref c6) (.ref c2) = some false)
    (kt6_3 : PySem.W.kitOne K (.ref c6) (.ref c3) = some false)
    (kt6_4 : PySem.W.kitOne K (.ref c6) (.ref c4) = some false)
    (kt6_5 : PySem.W.kitOne K (.ref c6) (.ref c5) = some false)
    (kt6_6 : PySem.W.kitOne K (.ref c6) (.ref c6) = some true)
    (kt6_7 : PySem.W.kitOne K (.ref c6) (.ref c7) = some false)
    (kt6_8 : PySem.W.kitOne K (.ref c6) (.ref c8) = some false)
    (kb6 : PySem.W.kitOne K (.ref c6) (.ref B) = some true)
    (kv6 : PySem.W.kitOne K (.ref c6) (.type "ValueError") = some true)
    (ktB_6 : PySem.W.kitOne K (.ref B) (.ref c6) = some false)
    (ktV_6 : PySem.W.kitOne K (.type "ValueError") (.ref c6) = some false)
    (kt7_0 : PySem.W.kitOne K (.ref c7) (.ref c0) = some false)
    (kt7_1 : PySem.W.kitOne K (.ref c7) (.ref c1) = some false)
    (kt7_2 : PySem.W.kitOne K (.ref c7) (.ref c2) = some false)
    (kt7_3 : PySem.W.kitOne K (.ref c7) (.ref c3) = some false)
    (kt7_4 : PySem.W.kitOne K (.ref c7) (.ref c4) = some false)
    (kt7_5 : PySem.W.kitOne K (.ref c7) (.ref c5) = some false)
    (kt7_6 : PySem.W.kitOne K (.ref c7) (.ref c6) = some false)
    (kt7_7 : PySem.W.kitOne K (.ref c7) (.ref c7) = some true)
    (kt7_8 : PySem.W.kitOne K (.ref c7) (.ref c8) = some false)
    (kb7 : PySem.W.kitOne K (.ref c7) (.ref B) = some true)
    (kv7 : PySem.W.kitOne K (.ref c7) (.type "ValueError") = some true)
    (ktB_7 : PySem.W.kitOne K (.ref B) (.ref c7) = some false)
    (ktV_7 : PySem.W.kitOne K (.type "ValueError") (.ref c7) = some false)
    (kt8_0 : PySem.W.kitOne K (.ref c8) (.ref c0) = some false)
    (kt8_1 : PySem.W.kitOne K (.ref c8) (.ref c1) = some false)
    (kt8_2 : PySem.W.kitOne K (.ref c8) (.ref c2) = some false)
    (kt8_3 : PySem.W.kitOne K (.ref c8) (.ref c3) = some false)
    (kt8_4 : PySem.W.kitOne K (.ref c8) (.ref c4) = some false)
    (kt8_5 : PySem.W.kitOne K (.ref c8) (.ref c5) = some false)
    (kt8_6 : PySem.W.kitOne K (.ref c8) (.ref c6) = some false)
    (kt8_7 : PySem.W.kitOne K (.ref c8) (.ref c7) = some false)
    (kt8_8 : PySem.W.kitOne K (.ref c8) (.ref c8) = some true)
    (kb8 : PySem.W.kitOne K (.ref c8) (.ref B) = some true)
    (kv8 : PySem.W.kitOne K (.ref c8) (.type "ValueError") = some true)
    (ktB_8 : PySem.W.kitOne K (.ref B) (.ref c8) = some false)
    (ktV_8 : PySem.W.kitOne K (.type "ValueError") (.ref c8) = some false)
    (kvB : PySem.W.kitOne K (.ref B) (.type "ValueError") = some true)
    (ex3 : PySem.W.excIn K c3 veB "ValueError.__new__" = true)
    (kw3 : PySem.W.keepIn K (.ref c3) = true)
    (ex4 : PySem.W.excIn K c4 veB "ValueError.__new__" = true)
    (kw4 : PySem.W.keepIn K (.ref c4) = true)
    (ex8 : PySem.W.excIn K c8 veB "ValueError.__new__" = true)
    (kw8 : PySem.W.keepIn K (.ref c8) = true)
    (exB : PySem.W.excIn K B veB "ValueError.__new__" = true)
    (kwB : PySem.W.keepIn K (.ref B) = true)
    (z_len : PySem.W.nsIn K mainGlobals "len" = some none)
    (z_int : PySem.W.nsIn K mainGlobals "int" = some none)
    (z_isinstance : PySem.W.nsIn K mainGlobals "isinstance" = some none)
    (z_enumerate : PySem.W.nsIn K mainGlobals "enumerate" = some none)
    (z_repr : PySem.W.nsIn K mainGlobals "repr" = some none)
    (z_ValueError : PySem.W.nsIn K mainGlobals "ValueError" = some none) :
    ∃ fd : FuncData, (∀ (s : Shared) (v : Value), BindsTo s fd ⟨[v], []⟩ [("_law_script", v)]) ∧ ∀ base : Heap, K.In base → base.Ns mainGlobals mg → FnG l.prog w K mg base 3 fa fd ["_law_script"] (spLaw K) := by
  have e := hfa.symm.trans (PySem.W.mg_of X G aLa)
  cases e
  have FCe := fun_mk (st := sCell) lCe cCe kCe
  have bCe := FCe.binds (ps := ["_law_script", "_law_k"]) fun _ _ _ _ _ _ us hl => match us, hl with | [_, _], _ => rfl
  have mCe := PySem.W.mg_of X G aCe
  have FSo := fun_mk (st := sSource) lSo cSo kSo
  have bSo := FSo.binds (ps := ["_law_cell"]) fun _ _ _ _ _ _ us hl => match us, hl with | [_], _ => rfl
  have mSo := PySem.W.mg_of X G aSo
  have FNe := fun_mk (st := sNext) lNe cNe kNe
  have bNe := FNe.binds (ps := ["_law_source", "_law_many"]) fun _ _ _ _ _ _ us hl => match us, hl with | [_, _], _ => rfl
  have mNe := PySem.W.mg_of X G aNe
  have FKi := fun_mk (st := sKinds) lKi cKi kKi
  have bKi := FKi.binds (ps := ["_law_e"]) fun _ _ _ _ _ _ us hl => match us, hl with | [_], _ => rfl
  have mKi := PySem.W.mg_of X G aKi
  have FFi := fun_mk (st := sFields) lFi cFi kFi
  have bFi := FFi.binds (ps := ["_law_some", "_law_value"]) fun _ _ _ _ _ _ us hl => match us, hl with | [_, _], _ => rfl
  have mFi := PySem.W.mg_of X G aFi
  have FLa := fun_mk (st := sLaw) lLa cLa kLa
  have FI0 := fun_mk (st := sI0) lI0 cI0 kI0
  have bI0 := FI0.binds (ps := ["self", "why"]) fun _ _ _ _ _ _ us hl => match us, hl with | [_, _], _ => rfl
  have O0 : OexC K c0 := ⟨⟨_, _, _, _, _, _, _, _, _, _, _, _, _, _, _, ox0, rv0⟩, sa0, xsb0, ty0, kp0⟩
  have FI1 := fun_mk (st := sI1) lI1 cI1 kI1
  have bI1 := FI1.binds (ps := ["self", "at"]) fun _ _ _ _ _ _ us hl => match us, hl with | [_, _], _ => rfl
  have O1 : OexC K c1 := ⟨⟨_, _, _, _, _, _, _, _, _, _, _, _, _, _, _, ox1, rv1⟩, sa1, xsb1, ty1, kp1⟩
  have FI2 := fun_mk (st := sI2) lI2 cI2 kI2
  have bI2 := FI2.binds (ps := ["self", "at"]) fun _ _ _ _ _ _ us hl => match us, hl with | [_, _], _ => rfl
  have O2 : OexC K c2 := ⟨⟨_, _, _, _, _, _, _, _, _, _, _, _, _, _, _, ox2, rv2⟩, sa2, xsb2, ty2, kp2⟩
  have FI5 := fun_mk (st := sI5) lI5 cI5 kI5
  have bI5 := FI5.binds (ps := ["self", "why"]) fun _ _ _ _ _ _ us hl => match us, hl with | [_, _], _ => rfl
  have O5 : OexC K c5 := ⟨⟨_, _, _, _, _, _, _, _, _, _, _, _, _, _, _, ox5, rv5⟩, sa5, xsb5, ty5, kp5⟩
  have FI6 := fun_mk (st := sI6) lI6 cI6 kI6
  have bI6 := FI6.binds (ps := ["self", "edge"]) fun _ _ _ _ _ _ us hl => match us, hl with | [_, _], _ => rfl
  have O6 : OexC K c6 := ⟨⟨_, _, _, _, _, _, _, _, _, _, _, _, _, _, _, ox6, rv6⟩, sa6, xsb6, ty6, kp6⟩
  have FI7 := fun_mk (st := sI7) lI7 cI7 kI7
  have bI7 := FI7.binds (ps := ["self", "witness"]) fun _ _ _ _ _ _ us hl => match us, hl with | [_, _], _ => rfl
  have O7 : OexC K c7 := ⟨⟨_, _, _, _, _, _, _, _, _, _, _, _, _, _, _, ox7, rv7⟩, sa7, xsb7, ty7, kp7⟩
  have n_len := PySem.W.mg_none_of X G z_len
  have n_int := PySem.W.mg_none_of X G z_int
  have n_isinstance := PySem.W.mg_none_of X G z_isinstance
  have n_enumerate := PySem.W.mg_none_of X G z_enumerate
  have n_repr := PySem.W.mg_none_of X G z_repr
  have n_ValueError := PySem.W.mg_none_of X G z_ValueError
  have X0 : XCls K c0 := ⟨by rw [xcl0]; rfl, xga0, xgg0, xsb0, xhd0, xca0, sg, tk, xmo0⟩
  have X1 : XCls K c1 := ⟨by rw [xcl1]; rfl, xga1, xgg1, xsb1, xhd1, xca1, sg, tk, xmo1⟩
  have X2 : XCls K c2 := ⟨by rw [xcl2]; rfl, xga2, xgg2, xsb2, xhd2, xca2, sg, tk, xmo2⟩
  have X3 : XCls K c3 := ⟨by rw [xcl3]; rfl, xga3, xgg3, xsb3, xhd3, xca3, sg, tk, xmo3⟩
  have X4 : XCls K c4 := ⟨by rw [xcl4]; rfl, xga4, xgg4, xsb4, xhd4, xca4, sg, tk, xmo4⟩
  have X5 : XCls K c5 := ⟨by rw [xcl5]; rfl, xga5, xgg5, xsb5, xhd5, xca5, sg, tk, xmo5⟩
  have X6 : XCls K c6 := ⟨by rw [xcl6]; rfl, xga6, xgg6, xsb6, xhd6, xca6, sg, tk, xmo6⟩
  have X7 : XCls K c7 := ⟨by rw [xcl7]; rfl, xga7, xgg7, xsb7, xhd7, xca7, sg, tk, xmo7⟩
  have X8 : XCls K c8 := ⟨by rw [xcl8]; rfl, xga8, xgg8, xsb8, xhd8, xca8, sg, tk, xmo8⟩
  have XB : XCls K B := ⟨by rw [xclB]; rfl, xgaB, xggB, xsbB, xhdB, xcaB, sg, tk, xmoB⟩
  have T : Tab K ⟨c0, c1, c2, c3, c4, c5, c6, c7, c8⟩ := ⟨X0, X1, X2, X3, X4, X5, X6, X7, X8, fn0, fn1, fn2, fn5, fn6, fn7⟩
  have U : TabK K ⟨c0, c1, c2, c3, c4, c5, c6, c7, c8⟩ B := ⟨⟨kt0_0, kt0_1, kt0_2, kt0_3, kt0_4, kt0_5, kt0_6, kt0_7, kt0_8⟩, ⟨kt1_0, kt1_1, kt1_2, kt1_3, kt1_4, kt1_5, kt1_6, kt1_7, kt1_8⟩, ⟨kt2_0, kt2_1, kt2_2, kt2_3, kt2_4, kt2_5, kt2_6, kt2_7, kt2_8⟩, ⟨kt3_0, kt3_1, kt3_2, kt3_3, kt3_4, kt3_5, kt3_6, kt3_7, kt3_8⟩, ⟨kt4_0, kt4_1, kt4_2, kt4_3, kt4_4, kt4_5, kt4_6, kt4_7, kt4_8⟩, ⟨kt5_0, kt5_1, kt5_2, kt5_3, kt5_4, kt5_5, kt5_6, kt5_7, kt5_8⟩, ⟨kt6_0, kt6_1, kt6_2, kt6_3, kt6_4, kt6_5, kt6_6, kt6_7, kt6_8⟩, ⟨kt7_0, kt7_1, kt7_2, kt7_3, kt7_4, kt7_5, kt7_6, kt7_7, kt7_8⟩, ⟨kt8_0, kt8_1, kt8_2, kt8_3, kt8_4, kt8_5, kt8_6, kt8_7, kt8_8⟩, kb0, kb1, kb2, kb3, kb4, kb5, kb6, kb7, kb8, kv0, kv1, kv2, kv3, kv4, kv5, kv6, kv7, kv8, XB, ⟨ktB_0, ktB_1, ktB_2, ktB_3, ktB_4, ktB_5, ktB_6, ktB_7, ktB_8⟩, kvB, ⟨ktV_0, ktV_1, ktV_2, ktV_3, ktV_4, ktV_5, ktV_6, ktV_7, ktV_8⟩⟩
  have NG : NineG mg ⟨c0, c1, c2, c3, c4, c5, c6, c7, c8⟩ := ⟨PySem.W.mg_of X G ac0, PySem.W.mg_of X G ac1, PySem.W.mg_of X G ac2, PySem.W.mg_of X G ac3, PySem.W.mg_of X G ac4, PySem.W.mg_of X G ac5, PySem.W.mg_of X G ac6, PySem.W.mg_of X G ac7, PySem.W.mg_of X G ac8⟩
  have mB := PySem.W.mg_of X G acB
  refine ⟨PySem.W.fnOf "law" "law" (defArgs sLaw) (defBody sLaw) (defScope sLaw) .none kVLa dcLa pmLa anLa cdLa ctLa, fun s v => .of_eq rfl, fun base _ _ => ?_⟩
  have GNe : FnOk l.prog w K mg base CX0 1 fNe _ ["_law_source", "_law_many"] spNext := ok_next FNe
  have GCe : FnOk l.prog w K mg base CX0 1 fCe _ ["_law_script", "_law_k"] (spCell K) := ok_cell FCe n_len
  have GSo : FnOk l.prog w K mg base CX0 1 fSo _ ["_law_cell"] spSource := ok_source FSo n_int
  have GKi : FnOk l.prog w K mg base CX0 1 fKi _ ["_law_e"] (spKinds K ⟨c0, c1, c2, c3, c4, c5, c6, c7, c8⟩) := ok_kinds FKi n_isinstance n_enumerate NG
  have GFi : FnG l.prog w K mg base 1 fFi _ ["_law_some", "_law_value"] (spFields ⟨c0, c1, c2, c3, c4, c5, c6, c7, c8⟩) := ok_fields FFi n_repr T
  exact ok_law FLa T U NG mB n_ValueError n_isinstance n_enumerate mCe GCe kCe bCe mSo GSo kSo bSo mNe GNe kNe bNe mKi GKi kKi bKi mFi GFi kFi bFi
    ⟨O0, fI0, _, aI0, tI0, ok_I0 FI0 O0 fn0, bI0⟩
    ⟨O1, fI1, _, aI1, tI1, ok_I1 FI1 O1 fn1, bI1⟩
    ⟨O2, fI2, _, aI2, tI2, ok_I2 FI2 O2 fn2, bI2⟩
    ⟨O5, fI5, _, aI5, tI5, ok_I5 FI5 O5 fn5, bI5⟩
    ⟨O6, fI6, _, aI6, tI6, ok_I6 FI6 O6 fn6, bI6⟩
    ⟨O7, fI7, _, aI7, tI7, ok_I7 FI7 O7 fn7, bI7⟩
    ex3 ex4 ex8 exB kw3 kw4 kw8 kwB
theorem walk {l : PySem.W.OpenLaw} {q : Program} {loose : List Str} {XP : (Str → Option Value) → Heap → Prop} {YP : World → Heap → Prop} {d : DefRec} {K : Params → PySem.W.Frag} (hn : l.most = some 63) (hdf : d.params.defaults = [])
    (hY : ∀ (w : World) (h : Heap), YP w h → (K w.params).In h)
    (F : ∀ (w : World) (mg : Str → Option Value) (fa : Addr) (h : Heap), (K w.params).In h → h.Ns mainGlobals mg → mg d.name = some (.ref fa) →
      ∃ fd : FuncData, (∀ (s : Shared) (u : Value), BindsTo s fd ⟨[u], []⟩ [("_law_script", u)]) ∧ ∀ base : Heap, (K w.params).In base → base.Ns mainGlobals mg → FnG l.prog w (K w.params) mg base 3 fa fd ["_law_script"] (spLaw (K w.params))) :
    PySem.W.WalkO q loose XP YP l.row.toRowW d [] (fun f vs => PySem.call f vs) :=
  walkG (n := 63) (k := 3) (x := "_law_script") (sp := spLaw) hn (by decide) hdf ⟨rfl, by decide, by decide⟩ hY F (fun _ _ a ns hl hS => ⟨a, ns, rfl, hS, hl, fun _ => rfl⟩)
end CP
open PySem PySem.W PyProof.Rows
set_option maxRecDepth 100000 in
set_option maxHeartbeats 0 in
theorem PySem.Challenge.cw_crossparity_k05_errors_holds : PySem.Challenge.rw_crossparity_k05_errors.Holds := by
  w_on; o_law; k_head; (case hw => w_witness2)
  k_fill
  refine CP.walk (l := PySem.Challenge.rw_crossparity_k05_errors) rfl rfl (fun w h Y => PySem.W.kIn_of Y) ?F
  case F =>
    intro w mg fa h KX G hmg
    refine' CP.all_mk KX G hmg ?ac0 ?ac1 ?ac2 ?ac3 ?ac4 ?ac5 ?ac6 ?ac7 ?ac8 ?acB ?aCe ?lCe ?cCe ?kCe ?aSo ?lSo ?cSo ?kSo ?aNe ?lNe ?cNe ?kNe ?aKi ?lKi ?cKi ?kKi ?aFi ?lFi ?cFi ?kFi ?aLa ?lLa ?cLa ?kLa ?aI0 ?tI0 ?lI0 ?cI0 ?kI0 ?ox0 ?rv0 ?sa0 ?ty0 ?kp0 ?fn0 ?aI1 ?tI1 ?lI1 ?cI1 ?kI1 ?ox1 ?rv1 ?sa1 ?ty1 ?kp1 ?fn1 ?aI2 ?tI2 ?lI2 ?cI2 ?kI2 ?ox2 ?rv2 ?sa2 ?ty2 ?kp2 ?fn2 ?aI5 ?tI5 ?lI5 ?cI5 ?kI5 ?ox5 ?rv5 ?sa5 ?ty5 ?kp5 ?fn5 ?aI6 ?tI6 ?lI6 ?cI6 ?kI6 ?ox6 ?rv6 ?sa6 ?ty6 ?kp6 ?fn6 ?aI7 ?tI7 ?lI7 ?cI7 ?kI7 ?ox7 ?rv7 ?sa7 ?ty7 ?kp7 ?fn7 ?sg ?tk ?xcl0 ?xga0 ?xgg0 ?xsb0 ?xhd0 ?xca0 ?xmo0 ?xcl1 ?xga1 ?xgg1 ?xsb1 ?xhd1 ?xca1 ?xmo1 ?xcl2 ?xga2 ?xgg2 ?xsb2 ?xhd2 ?xca2 ?xmo2 ?xcl3 ?xga3 ?xgg3 ?xsb3 ?xhd3 ?xca3 ?xmo3 ?xcl4 ?xga4 ?xgg4 ?xsb4 ?xhd4 ?xca4 ?xmo4 ?xcl5 ?xga5 ?xgg5 ?xsb5 ?xhd5 ?xca5 ?xmo5 ?xcl6 ?xga6 ?xgg6 ?xsb6 ?xhd6 ?xca6 ?xmo6 ?xcl7 ?xga7 ?xgg7 ?xsb7 ?xhd7 ?xca7 ?xmo7 ?xcl8 ?xga8 ?xgg8 ?xsb8 ?xhd8 ?xca8 ?xmo8 ?xclB ?xgaB ?xggB ?xsbB ?xhdB ?xcaB ?xmoB ?kt0_0 ?kt0_1 ?kt0_2 ?kt0_3 ?kt0_4 ?kt0_5 ?kt0_6 ?kt0_7 ?kt0_8 ?kb0 ?kv0 ?ktB_0 ?ktV_0 ?kt1_0 ?kt1_1 ?kt1_2 ?kt1_3 ?kt1_4 ?kt1_5 ?kt1_6 ?kt1_7 ?kt1_8 ?kb1 ?kv1 ?ktB_1 ?ktV_1 ?kt2_0 ?kt2_1 ?kt2_2 ?kt2_3 ?kt2_4 ?kt2_5 ?kt2_6 ?kt2_7 ?kt2_8 ?kb2 ?kv2 ?ktB_2 ?ktV_2 ?kt3_0 ?kt3_1 ?kt3_2 ?kt3_3 ?kt3_4 ?kt3_5 ?kt3_6 ?kt3_7 ?kt3_8 ?kb3 ?kv3 ?ktB_3 ?ktV_3 ?kt4_0 ?kt4_1 ?kt4_2 ?kt4_3 ?kt4_4 ?kt4_5 ?kt4_6 ?kt4_7 ?kt4_8 ?kb4 ?kv4 ?ktB_4 ?ktV_4 ?kt5_0 ?kt5_1 ?kt5_2 ?kt5_3 ?kt5_4 ?kt5_5 ?kt5_6 ?kt5_7 ?kt5_8 ?kb5 ?kv5 ?ktB_5 ?ktV_5 ?kt6_0 ?kt6_1 ?kt6_2 ?kt6_3 ?kt6_4 ?kt6_5 ?kt6_6 ?kt6_7 ?kt6_8 ?kb6 ?kv6 ?ktB_6 ?ktV_6 ?kt7_0 ?kt7_1 ?kt7_2 ?kt7_3 ?kt7_4 ?kt7_5 ?kt7_6 ?kt7_7 ?kt7_8 ?kb7 ?kv7 ?ktB_7 ?ktV_7 ?kt8_0 ?kt8_1 ?kt8_2 ?kt8_3 ?kt8_4 ?kt8_5 ?kt8_6 ?kt8_7 ?kt8_8 ?kb8 ?kv8 ?ktB_8 ?ktV_8 ?kvB ?ex3 ?kw3 ?ex4 ?kw4 ?ex8 ?kw8 ?exB ?kwB ?z_len ?z_int ?z_isinstance ?z_enumerate ?z_repr ?z_ValueError
    (case ac0 => k_is)
    (case ac1 => k_is)
    (case ac2 => k_is)
    (case ac3 => k_is)
    (case ac4 => k_is)
    (case ac5 => k_is)
    (case ac6 => k_is)
    (case ac7 => k_is)
    (case ac8 => k_is)
    (case acB => k_is)
    (case aCe => k_is)
    (case lCe => k_is)
    (case cCe => k_is)
    (case kCe => k_is)
    (case aSo => k_is)
    (case lSo => k_is)
    (case cSo => k_is)
    (case kSo => k_is)
    (case aNe => k_is)
    (case lNe => k_is)
    (case cNe => k_is)
    (case kNe => k_is)
    (case aKi => k_is)
    (case lKi => k_is)
    (case cKi => k_is)
    (case kKi => k_is)
    (case aFi => k_is)
    (case lFi => k_is)
    (case cFi => k_is)
    (case kFi => k_is)
    (case aLa => k_is)
    (case lLa => k_is)
    (case cLa => k_is)
    (case kLa => k_is)
    (case aI0 => k_is)
    (case tI0 => k_is)
    (case lI0 => k_is)
    (case cI0 => k_is)
    (case kI0 => k_is)
    (case ox0 => k_is)
    (case rv0 => decide +kernel)
    (case sa0 => k_is)
    (case ty0 => k_is)
    (case kp0 => k_is)
    (case fn0 => k_is)
    (case aI1 => k_is)
    (case tI1 => k_is)
    (case lI1 => k_is)
    (case cI1 => k_is)
    (case kI1 => k_is)
    (case ox1 => k_is)
    (case rv1 => decide +kernel)
    (case sa1 => k_is)
    (case ty1 => k_is)
    (case kp1 => k_is)
    (case fn1 => k_is)
    (case aI2 => k_is)
    (case tI2 => k_is)
    (case lI2 => k_is)
    (case cI2 => k_is)
    (case kI2 => k_is)
    (case ox2 => k_is)
    (case rv2 => decide +kernel)
    (case sa2 => k_is)
    (case ty2 => k_is)
    (case kp2 => k_is)
    (case fn2 => k_is)
    (case aI5 => k_is)
    (case tI5 => k_is)
    (case lI5 => k_is)
    (case cI5 => k_is)
    (case kI5 => k_is)
    (case ox5 => k_is)
    (case rv5 => decide +kernel)
    (case sa5 => k_is)
    (case ty5 => k_is)
    (case kp5 => k_is)
    (case fn5 => k_is)
    (case aI6 => k_is)
    (case tI6 => k_is)
    (case lI6 => k_is)
    (case cI6 => k_is)
    (case kI6 => k_is)
    (case ox6 => k_is)
    (case rv6 => decide +kernel)
    (case sa6 => k_is)
    (case ty6 => k_is)
    (case kp6 => k_is)
    (case fn6 => k_is)
    (case aI7 => k_is)
    (case tI7 => k_is)
    (case lI7 => k_is)
    (case cI7 => k_is)
    (case kI7 => k_is)
    (case ox7 => k_is)
    (case rv7 => decide +kernel)
    (case sa7 => k_is)
    (case ty7 => k_is)
    (case kp7 => k_is)
    (case fn7 => k_is)
    (case sg => k_is)
    (case tk => k_is)
    (case xcl0 => k_is)
    (case xga0 => k_is)
    (case xgg0 => k_is)
    (case xsb0 => k_is)
    (case xhd0 => k_is)
    (case xca0 => k_is)
    (case xmo0 => k_is)
    (case xcl1 => k_is)
    (case xga1 => k_is)
    (case xgg1 => k_is)
    (case xsb1 => k_is)
    (case xhd1 => k_is)
    (case xca1 => k_is)
    (case xmo1 => k_is)
    (case xcl2 => k_is)
    (case xga2 => k_is)
    (case xgg2 => k_is)
    (case xsb2 => k_is)
    (case xhd2 => k_is)
    (case xca2 => k_is)
    (case xmo2 => k_is)
    (case xcl3 => k_is)
    (case xga3 => k_is)
    (case xgg3 => k_is)
    (case xsb3 => k_is)
    (case xhd3 => k_is)
    (case xca3 => k_is)
    (case xmo3 => k_is)
    (case xcl4 => k_is)
    (case xga4 => k_is)
    (case xgg4 => k_is)
    (case xsb4 => k_is)
    (case xhd4 => k_is)
    (case xca4 => k_is)
    (case xmo4 => k_is)
    (case xcl5 => k_is)
    (case xga5 => k_is)
    (case xgg5 => k_is)
    (case xsb5 => k_is)
    (case xhd5 => k_is)
    (case xca5 => k_is)
    (case xmo5 => k_is)
    (case xcl6 => k_is)
    (case xga6 => k_is)
    (case xgg6 => k_is)
    (case xsb6 => k_is)
    (case xhd6 => k_is)
    (case xca6 => k_is)
    (case xmo6 => k_is)
    (case xcl7 => k_is)
    (case xga7 => k_is)
    (case xgg7 => k_is)
    (case xsb7 => k_is)
    (case xhd7 => k_is)
    (case xca7 => k_is)
    (case xmo7 => k_is)
    (case xcl8 => k_is)
    (case xga8 => k_is)
    (case xgg8 => k_is)
    (case xsb8 => k_is)
    (case xhd8 => k_is)
    (case xca8 => k_is)
    (case xmo8 => k_is)
    (case xclB => k_is)
    (case xgaB => k_is)
    (case xggB => k_is)
    (case xsbB => k_is)
    (case xhdB => k_is)
    (case xcaB => k_is)
    (case xmoB => k_is)
    (case kt0_0 => kit_is)
    (case kt0_1 => kit_is)
    (case kt0_2 => kit_is)
    (case kt0_3 => kit_is)
    (case kt0_4 => kit_is)
    (case kt0_5 => kit_is)
    (case kt0_6 => kit_is)
    (case kt0_7 => kit_is)
    (case kt0_8 => kit_is)
    (case kb0 => kit_is)
    (case kv0 => kit_is)
    (case ktB_0 => kit_is)
    (case ktV_0 => kit_is)
    (case kt1_0 => kit_is)
    (case kt1_1 => kit_is)
    (case kt1_2 => kit_is)
    (case kt1_3 => kit_is)
    (case kt1_4 => kit_is)
    (case kt1_5 => kit_is)
    (case kt1_6 => kit_is)
    (case kt1_7 => kit_is)
    (case kt1_8 => kit_is)
    (case kb1 => kit_is)
    (case kv1 => kit_is)
    (case ktB_1 => kit_is)
    (case ktV_1 => kit_is)
    (case kt2_0 => kit_is)
    (case kt2_1 => kit_is)
    (case kt2_2 => kit_is)
    (case kt2_3 => kit_is)
    (case kt2_4 => kit_is)
    (case kt2_5 => kit_is)
    (case kt2_6 => kit_is)
    (case kt2_7 => kit_is)
    (case kt2_8 => kit_is)
    (case kb2 => kit_is)
    (case kv2 => kit_is)
    (case ktB_2 => kit_is)
    (case ktV_2 => kit_is)
    (case kt3_0 => kit_is)
    (case kt3_1 => kit_is)
    (case kt3_2 => kit_is)
    (case kt3_3 => kit_is)
    (case kt3_4 => kit_is)
    (case kt3_5 => kit_is)
    (case kt3_6 => kit_is)
    (case kt3_7 => kit_is)
    (case kt3_8 => kit_is)
    (case kb3 => kit_is)
    (case kv3 => kit_is)
    (case ktB_3 => kit_is)
    (case ktV_3 => kit_is)
    (case kt4_0 => kit_is)
    (case kt4_1 => kit_is)
    (case kt4_2 => kit_is)
    (case kt4_3 => kit_is)
    (case kt4_4 => kit_is)
    (case kt4_5 => kit_is)
    (case kt4_6 => kit_is)
    (case kt4_7 => kit_is)
    (case kt4_8 => kit_is)
    (case kb4 => kit_is)
    (case kv4 => kit_is)
    (case ktB_4 => kit_is)
    (case ktV_4 => kit_is)
    (case kt5_0 => kit_is)
    (case kt5_1 => kit_is)
    (case kt5_2 => kit_is)
    (case kt5_3 => kit_is)
    (case kt5_4 => kit_is)
    (case kt5_5 => kit_is)
    (case kt5_6 => kit_is)
    (case kt5_7 => kit_is)
    (case kt5_8 => kit_is)
    (case kb5 => kit_is)
    (case kv5 => kit_is)
    (case ktB_5 => kit_is)
    (case ktV_5 => kit_is)
    (case kt6_0 => kit_is)
    (case kt6_1 => kit_is)
    (case kt6_2 => kit_is)
    (case kt6_3 => kit_is)
    (case kt6_4 => kit_is)
    (case kt6_5 => kit_is)
    (case kt6_6 => kit_is)
    (case kt6_7 => kit_is)
    (case kt6_8 => kit_is)
    (case kb6 => kit_is)
    (case kv6 => kit_is)
    (case ktB_6 => kit_is)
    (case ktV_6 => kit_is)
    (case kt7_0 => kit_is)
    (case kt7_1 => kit_is)
    (case kt7_2 => kit_is)
    (case kt7_3 => kit_is)
    (case kt7_4 => kit_is)
    (case kt7_5 => kit_is)
    (case kt7_6 => kit_is)
    (case kt7_7 => kit_is)
    (case kt7_8 => kit_is)
    (case kb7 => kit_is)
    (case kv7 => kit_is)
    (case ktB_7 => kit_is)
    (case ktV_7 => kit_is)
    (case kt8_0 => kit_is)
    (case kt8_1 => kit_is)
    (case kt8_2 => kit_is)
    (case kt8_3 => kit_is)
    (case kt8_4 => kit_is)
    (case kt8_5 => kit_is)
    (case kt8_6 => kit_is)
    (case kt8_7 => kit_is)
    (case kt8_8 => kit_is)
    (case kb8 => kit_is)
    (case kv8 => kit_is)
    (case ktB_8 => kit_is)
    (case ktV_8 => kit_is)
    (case kvB => kit_is)
    (case ex3 => k_exc)
    (case kw3 => k_is)
    (case ex4 => k_exc)
    (case kw4 => k_is)
    (case ex8 => k_exc)
    (case kw8 => k_is)
    (case exB => k_exc)
    (case kwB => k_is)
    (case z_len => k_is)
    (case z_int => k_is)
    (case z_isinstance => k_is)
    (case z_enumerate => k_is)
    (case z_repr => k_is)
    (case z_ValueError => k_is)
