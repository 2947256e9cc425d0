import PyProof.Rows.All
import Wide.All
import OpenK.AllK
import Wide.FinOn
import HandS.ForMost
import HandS.TupSets
import HandS.Strs
import HandS.SetKeys
import KE.KeyNested
import KE.KDictKeyed
import HandS.DictComp
import HandS.Walk
import KE.GoesMore
import PyProof.ReprRoads
import HandS.ExcInit
import HandS.ExcOwn
import HandS.ExcBuiltin
import HandS.ExcField
import HandS.IsInst
import KE.KExcIs
import KE.SortData
import KE.DataMinMax
import KE.DataCmp
import HandS.Deep
import HandS.TryOnly
import HandS.WordsList
import HandS.Dict
import HandS.More
import KE.KDictPairs
import HandS.Style
import HandS.TupLen
import HandS.Conv
import KE.KDictSum
import HandS.Set
import HandS.Ends
import KE.RegKIsAll
import HandS.Words
import PySem.Challenge.RW_crossparity_k08_whole_charges_kept
set_option Elab.async false
set_option linter.all false
set_option maxRecDepth 100000
set_option maxHeartbeats 4000000
/-! Tables of sets with up to 512 places -/
namespace CP
open PySem PySem.Spec PyProof.Rows L2
def MaskG (m : Nat) : Prop := m = 7 ∨ m = 31 ∨ m = 127 ∨ m = 511
/-- the numbers met from 0, as bits -/
def met (m : Nat) : Nat → Nat → Nat → Nat
  | 0, _, acc => acc
  | k + 1, c, acc => met m k ((c * 5 + 1) % (m + 1)) (acc ||| 2 ^ c)
theorem met_bit (m : Nat) : ∀ (k a acc j : Nat), (met m k (lcgN m a) acc).testBit j = true → acc.testBit j = true ∨ ∃ b, a ≤ b ∧ b < a + k ∧ lcgN m b = j
  | 0, a, acc, j, h => .inl h
  | k + 1, a, acc, j, h => by
    have h' : (met m k (lcgN m (a + 1)) (acc ||| 2 ^ lcgN m a)).testBit j = true := h
    rcases met_bit m k (a + 1) _ j h' with c | ⟨b, b1, b2, b3⟩
    · rw [Nat.testBit_or, Bool.or_eq_true] at c
      rcases c with c | c
      · exact .inl c
      · rw [Nat.testBit_two_pow] at c
        exact .inr ⟨a, Nat.le_refl _, by omega, of_decide_eq_true c⟩
    · exact .inr ⟨b, by omega, by omega, b3⟩
theorem met_all {m : Nat} (hm : MaskG m) : met m (m + 1) 0 0 = 2 ^ (m + 1) - 1 := by
  rcases hm with rfl | rfl | rfl | rfl <;> decide +kernel
theorem met_back {m : Nat} (hm : MaskG m) : lcgN m (m + 1) = 0 := by
  rcases hm with rfl | rfl | rfl | rfl <;> decide +kernel
theorem odd_mask {m : Nat} (hm : MaskG m) : m % 2 = 1 := by
  rcases hm with rfl | rfl | rfl | rfl <;> rfl
theorem from0 {m : Nat} (hm : MaskG m) {j : Nat} (hj : j ≤ m) : ∃ b, b ≤ m ∧ lcgN m b = j := by
  have e : (met m (m + 1) (lcgN m 0) 0).testBit j = true := by
    show (met m (m + 1) 0 0).testBit j = true
    rw [met_all hm, Nat.testBit_two_pow_sub_one]
    exact decide_eq_true (by omega)
  rcases met_bit m (m + 1) 0 0 j e with c | ⟨b, _, b2, b3⟩
  · simp at c
  · exact ⟨b, by omega, b3⟩
theorem again {m : Nat} (hm : MaskG m) : ∀ k, lcgN m (m + 1 + k) = lcgN m k
  | 0 => met_back hm
  | k + 1 => by
    have ih := again hm k
    show ((lcgN m (m + 1 + k)) * 5 + 1) % (m + 1) = ((lcgN m k) * 5 + 1) % (m + 1)
    rw [ih]
theorem from_any {m : Nat} (hm : MaskG m) {i j : Nat} (hi : i ≤ m) (hj : j ≤ m) : ∃ k, k ≤ m ∧ lcgI m i k = j := by
  obtain ⟨a, ha, rfl⟩ := from0 hm hi
  obtain ⟨b, hb, rfl⟩ := from0 hm hj
  by_cases c : a ≤ b
  · exact ⟨b - a, by omega, by rw [lcgN_add, Nat.add_sub_cancel' c]⟩
  · refine ⟨m + 1 + b - a, by omega, ?_⟩
    rw [lcgN_add, Nat.add_sub_cancel' (by omega), again hm]
theorem runs_meet {m : Nat} (hm : MaskG m) (h : Int) {j : Nat} (hj : j ≤ m) : ∃ n, n ≤ m + 12 ∧ runI m (SetTable.bits h) n = j := by
  obtain ⟨k, hk, rfl⟩ := from_any hm (runI_le m (SetTable.bits h) 12) hj
  refine ⟨12 + k, by omega, runI_tail (bits_lt h) k⟩
theorem way_most (m : Nat) (h : Int) (k : Nat) : way m h k ≤ m := by
  have a : SetTable.bits h % (m + 1) ≤ m := Nat.le_of_lt_succ (Nat.mod_lt _ (Nat.succ_pos _))
  have r := runEnd_bd a
  have q := nth_in (m := m) k (runAt m (SetTable.bits h % (m + 1)) (SetTable.bits h))
  have q := q (by show SetTable.bits h % (m + 1) + (SetTable.runEnd m (SetTable.bits h % (m + 1)) - SetTable.bits h % (m + 1)) ≤ m; omega)
  exact Nat.le_trans (Nat.le_add_right _ _) q
theorem ways_meet {m : Nat} (hm : MaskG m) (h : Int) {j : Nat} (hj : j ≤ m) : ∃ k, k < 10 * SetTable.turns m ∧ way m h k = j := by
  obtain ⟨n, hn, e⟩ := runs_meet hm h hj
  obtain ⟨k, hk, q⟩ := run_nth m (SetTable.bits h) n
  refine ⟨k, by unfold SetTable.turns; omega, ?_⟩
  unfold way; rw [q]; exact e
/-- a table in which each place is met from its hash -/
structure TabG (t : SetTable) (hs : List Int) : Prop where
  ris : Ris t.place.toList
  dm : t.dummies = #[]
  sz : t.place.size = hs.length
  mok : MaskG t.mask
  bd : ∀ x ∈ t.place.toList, x ≤ t.mask
  reach : ∀ (i : Nat) (g : Int) (j : Nat), hs[i]? = some g → t.place.toList[i]? = some j → ∃ k, way t.mask g k = j ∧ ∀ c, c < k → way t.mask g c ∈ t.place.toList
theorem TabG.first {t : SetTable} {hs : List Int} (T : TabG t hs) (hl : hs.length ≤ t.mask) (g : Int) : ∃ K, K < 10 * SetTable.turns t.mask ∧ way t.mask g K ∉ t.place.toList ∧ ∀ c, c < K → way t.mask g c ∈ t.place.toList := by
  obtain ⟨j, hj, free⟩ := st_missing t.place.toList (t.mask + 1) (by have := T.sz; rw [Array.length_toList]; omega)
  obtain ⟨k, hk, e⟩ := ways_meet T.mok g (Nat.le_of_lt_succ hj)
  obtain ⟨K, k1, k2, k3⟩ := st_least (p := fun c => way t.mask g c ∉ t.place.toList) k (by rw [e]; exact free)
  exact ⟨K, by omega, k2, fun c hc => Classical.not_not.mp (k3 c hc)⟩
theorem TabG.before {t : SetTable} {hs : List Int} (T : TabG t hs) {g : Int} {K i j : Nat} (hK : way t.mask g K ∉ t.place.toList) (hi : hs[i]? = some g) (hj : t.place.toList[i]? = some j) : ∃ k, k < K ∧ way t.mask g k = j := by
  obtain ⟨k, e, all⟩ := T.reach i g j hi hj
  by_cases c : k < K
  · exact ⟨k, c, e⟩
  · exfalso
    by_cases d : K = k
    · rw [d, e] at hK; exact hK (List.mem_of_getElem? hj)
    · exact hK (all K (by omega))
theorem TabG.put {t : SetTable} {hs : List Int} (T : TabG t hs) {g : Int} {K : Nat} (hK : way t.mask g K ∉ t.place.toList) (occ : ∀ c, c < K → way t.mask g c ∈ t.place.toList) :
    ∃ n, n = SetTable.below t.place (way t.mask g K) ∧ (t.put (way t.mask g K)).2 = n ∧ n ≤ hs.length ∧ TabG (t.put (way t.mask g K)).1 (hs.take n ++ g :: hs.drop n) ∧ (t.put (way t.mask g K)).1.mask = t.mask ∧ (t.put (way t.mask g K)).1.fill = hs.length + 1 := by
  have top := way_most t.mask g K
  generalize hj : way t.mask g K = j at hK top
  obtain ⟨c1, _, _⟩ := below_cut T.ris j
  have lenp : t.place.toList.length = hs.length := by have := T.sz; rw [Array.length_toList]; exact this
  have nl : SetTable.below t.place j ≤ hs.length := by rw [← T.sz]; exact c1
  have new : t.place[SetTable.below t.place j]? ≠ some j := fun e => hK (List.mem_of_getElem? (i := SetTable.below t.place j) (by rw [Array.getElem?_toList]; exact e))
  have lay := put_place t j
  have size : (t.put j).1.place.size = hs.length + 1 := by rw [← Array.length_toList, lay, len_ins _ (by omega), lenp]
  have stay : ∀ {x : Nat}, x ∈ t.place.toList → x ∈ (t.put j).1.place.toList := fun hx => by rw [lay]; exact mem_ins.mpr (.inr hx)
  refine ⟨SetTable.below t.place j, rfl, rfl, nl, ⟨ris_insert T.ris new, put_dm T.dm j, by rw [len_ins _ nl]; exact size, T.mok, fun x hx => ?_, fun i g' j' h1 h2 => ?_⟩, rfl, ?_⟩
  · rw [lay] at hx
    rcases mem_ins.mp hx with rfl | hx
    · exact top
    · exact T.bd x hx
  · rw [lay, tins_get _ (by omega)] at h2
    rw [tins_get hs nl] at h1
    show ∃ k, way t.mask g' k = j' ∧ ∀ c, c < k → way t.mask g' c ∈ (t.put j).1.place.toList
    by_cases a : i < SetTable.below t.place j
    · rw [if_pos a] at h1 h2
      obtain ⟨k, e, q⟩ := T.reach i g' j' h1 h2
      exact ⟨k, e, fun c hc => stay (q c hc)⟩
    · rw [if_neg a] at h1 h2
      by_cases b : i = SetTable.below t.place j
      · rw [if_pos b] at h1 h2
        obtain rfl : g = g' := Option.some.inj h1
        obtain rfl : j = j' := Option.some.inj h2
        exact ⟨K, hj, fun c hc => stay (occ c hc)⟩
      · rw [if_neg b] at h1 h2
        obtain ⟨k, e, q⟩ := T.reach (i - 1) g' j' h1 h2
        exact ⟨k, e, fun c hc => stay (q c hc)⟩
  · show (t.put j).1.place.size + (t.put j).1.dummies.size = hs.length + 1
    rw [size, put_dm T.dm j]; rfl
/-! ### a table laid anew -/
theorem free_met {m : Nat} (hm : MaskG m) (owner : Array (Option Nat)) (g : Int) {j : Nat} (hj : j ≤ m) (hf : oAt owner j = none) :
    ∃ K, SetTable.layClean.free m owner (SetTable.turns m) (SetTable.bits g % (m + 1)) (SetTable.bits g) = some (way m g K) ∧ oAt owner (way m g K) = none ∧ ∀ c, c < K → oAt owner (way m g c) ≠ none := by
  obtain ⟨n, hn, e⟩ := runs_meet hm g hj
  have there : way m g (off m (SetTable.bits g % (m + 1)) (SetTable.bits g) n) = j := by
    unfold way; rw [nth_off, itL_run]; exact e
  obtain ⟨K, k1, k2, k3⟩ := st_least (p := fun c => oAt owner (way m g c) = none) _ (by rw [there]; exact hf)
  refine ⟨K, free_spec m owner (SetTable.turns m) n _ _ K (by unfold SetTable.turns; omega) k1 (fun c hc => ?_) ?_, k2, k3⟩
  · have q := k3 c hc
    cases z : oAt owner (way m g c) with
    | none => exact absurd z q
    | some x => rfl
  · show (oAt owner (way m g K)).isNone = true
    rw [k2]; rfl
theorem own_step {m : Nat} (hm : MaskG m) {done : List Int} {owner : Array (Option Nat)} (W : Own m done owner) (hl : done.length ≤ m) (g : Int) :
    ∃ j, SetTable.layClean.free m owner (SetTable.turns m) (SetTable.bits g % (m + 1)) (SetTable.bits g) = some j ∧ Own m (done ++ [g]) (owner.setIfInBounds j (some done.length)) := by
  obtain ⟨ps, lps, inps⟩ := W.ps
  obtain ⟨z, z1, z2⟩ := st_missing ps (m + 1) (by omega)
  have zf : oAt owner z = none := by
    cases q : oAt owner z with
    | none => rfl
    | some x => exact absurd (inps z (Nat.le_of_lt_succ z1) (by rw [q]; intro u; cases u)) z2
  obtain ⟨K, e1, e2, e3⟩ := free_met hm owner g (Nat.le_of_lt_succ z1) zf
  have top := way_most m g K
  generalize hj : way m g K = j at e1 e2 top
  have insz : j < owner.size := by rw [W.sz]; omega
  have me := oAt_set_self (some done.length) insz
  have grow : ∀ {i : Nat}, oAt owner i ≠ none → oAt (owner.setIfInBounds j (some done.length)) i ≠ none := fun {i} hi => by
    by_cases c : i = j
    · rw [c, me]; intro u; cases u
    · rw [oAt_set_ne _ c]; exact hi
  refine ⟨j, e1, by rw [Array.size_setIfInBounds]; exact W.sz, fun i k hi e => ?_, fun k hk => ?_, j :: ps, by rw [List.length_cons, List.length_append, lps]; rfl, fun i hi e => ?_⟩
  · by_cases c : i = j
    · rw [c, me] at e
      obtain rfl : done.length = k := Option.some.inj e
      exact ⟨g, K, by rw [List.getElem?_append_right (Nat.le_refl _), Nat.sub_self]; rfl, by rw [c]; exact hj, fun c hc => grow (e3 c hc)⟩
    · rw [oAt_set_ne _ c] at e
      obtain ⟨g', K', a1, a2, a3⟩ := W.at_ i k hi e
      exact ⟨g', K', by rw [List.getElem?_append_left (List.getElem?_eq_some_iff.mp a1).1]; exact a1, a2, fun c hc => grow (a3 c hc)⟩
  · by_cases c : k < done.length
    · obtain ⟨i, hi, e⟩ := W.all k c
      exact ⟨i, hi, by rw [oAt_set_ne _ (fun u => by rw [u, e2] at e; cases e)]; exact e⟩
    · have ek : k = done.length := by rw [List.length_append] at hk; simp at hk; omega
      exact ⟨j, top, by rw [ek]; exact me⟩
  · by_cases c : i = j
    · rw [c]; exact List.mem_cons_self
    · rw [oAt_set_ne _ c] at e
      exact List.mem_cons_of_mem _ (inps i hi e)
theorem own_all {m : Nat} (hm : MaskG m) : ∀ (rest done : List Int) (owner : Array (Option Nat)), Own m done owner → done.length + rest.length ≤ m → ∃ o2, rest.foldl (stepF m) (some (owner, done.length)) = some (o2, done.length + rest.length) ∧ Own m (done ++ rest) o2
  | [], done, owner, W, _ => ⟨owner, rfl, by rw [List.append_nil]; exact W⟩
  | g :: rest, done, owner, W, hl => by
    simp only [List.length_cons] at hl
    obtain ⟨j, e, W2⟩ := own_step hm W (by omega) g
    have l2 : (done ++ [g]).length = done.length + 1 := by simp
    obtain ⟨o2, f, W3⟩ := own_all hm rest (done ++ [g]) _ W2 (by omega)
    refine ⟨o2, ?_, by rw [List.append_assoc] at W3; exact W3⟩
    rw [l2] at f
    rw [List.foldl_cons, stepF_some e, f, List.length_cons]
    congr 2; omega
theorem laid_all {m : Nat} (hm : MaskG m) {hs : Array Int} (hn : hs.size ≤ m) : ∃ owner, SetTable.layClean m hs = some owner ∧ Own m hs.toList owner := by
  obtain ⟨o2, f, W⟩ := own_all hm hs.toList [] _ (Own.init m) (by simp; exact hn)
  refine ⟨o2, ?_, W⟩
  rw [layClean_eq]
  have f' : hs.toList.foldl (stepF m) (some (Array.replicate (m + 1) none, 0)) = _ := f
  rw [f']; rfl
theorem laid_anew (t : SetTable) {hs : Array Int} {wanted M : Nat} (hw : SetTable.sizeAbove wanted - 1 = M) (hM : MaskG M) (hn : hs.size ≤ M) :
    ∃ t' order, t.relaid hs wanted = some (t', order) ∧ order.toList.Perm (List.range hs.size) ∧ TabG t' (order.toList.map fun i => hs.getD i 0) ∧ t'.mask = M := by
  obtain ⟨owner, e, W⟩ := laid_all hM hn
  have r0 : t.relaid hs wanted = some (tabOf t M owner, ((liveOf M owner).map (·.2)).toArray) := by rw [relaid_eq, hw, e]; rfl
  obtain ⟨r1, r2⟩ : Ris ((liveOf M owner).map (·.1)) ∧ ∀ x ∈ (liveOf M owner).map (·.1), x ∈ List.range (M + 1) :=
    ris_live (fun j => owner.getD j none) (List.range (M + 1)) (by unfold Ris; exact List.pairwise_lt_range)
  have live : ∀ {j k : Nat}, (j, k) ∈ liveOf M owner ↔ j ≤ M ∧ oAt owner j = some k := mem_live W.sz
  have numb : ∀ k, k < hs.size → k ∈ (liveOf M owner).map (·.2) := fun k hk => by
    obtain ⟨j, b1, b2⟩ := W.all k (by rw [Array.length_toList]; exact hk)
    exact List.mem_map.mpr ⟨(j, k), live.mpr ⟨b1, b2⟩, rfl⟩
  have len : ((liveOf M owner).map (·.2)).length = hs.size := by
    obtain ⟨ps, p1, p2⟩ := W.ps
    have once : ((liveOf M owner).map (·.1)).Nodup := List.Pairwise.imp (fun h => Nat.ne_of_lt h) r1
    have up := nat_nodup_len ((liveOf M owner).map (·.1)) ps once fun x hx => by
      obtain ⟨⟨y, k⟩, hq, rfl⟩ := List.mem_map.mp hx
      obtain ⟨b1, b2⟩ := live.mp hq
      exact p2 y b1 (by rw [b2]; intro u; cases u)
    have down := nat_nodup_len (List.range hs.size) ((liveOf M owner).map (·.2)) List.nodup_range fun k hk => numb k (List.mem_range.mp hk)
    rw [List.length_range] at down
    rw [List.length_map] at up down ⊢
    have z : hs.toList.length = hs.size := rfl
    omega
  refine ⟨_, _, r0, perm_range hs.size _ len numb, ⟨r1, rfl, ?_, hM, fun x hx => Nat.le_of_lt_succ (List.mem_range.mp (r2 x hx)), fun i g j h1 h2 => ?_⟩, rfl⟩
  · show ((liveOf M owner).map (·.1)).toArray.size = (((liveOf M owner).map (·.2)).map _).length
    simp
  · have h1 : (((liveOf M owner).map (·.2)).map fun i => hs.getD i 0)[i]? = some g := h1
    have h2 : ((liveOf M owner).map (·.1))[i]? = some j := h2
    rw [List.map_map, List.getElem?_map] at h1
    rw [List.getElem?_map] at h2
    cases q : (liveOf M owner)[i]? with
    | none => rw [q] at h2; cases h2
    | some y =>
      obtain ⟨y, k⟩ := y
      rw [q] at h1 h2
      obtain rfl : y = j := Option.some.inj h2
      have eg : hs.getD k 0 = g := Option.some.inj h1
      obtain ⟨b1, b2⟩ := live.mp (List.mem_of_getElem? q)
      obtain ⟨g0, K, a1, a2, a3⟩ := W.at_ y k b1 b2
      have e0 : hs.getD k 0 = g0 := by rw [Array.getD_eq_getD_getElem?, ← Array.getElem?_toList, a1]; rfl
      obtain rfl : g0 = g := e0.symm.trans eg
      refine ⟨K, a2, fun c hc => ?_⟩
      show way M g0 c ∈ (liveOf M owner).map (·.1)
      cases z : oAt owner (way M g0 c) with
      | none => exact absurd z (a3 c hc)
      | some k2 => exact List.mem_map.mpr ⟨(way M g0 c, k2), live.mpr ⟨way_most M g0 c, z⟩, rfl⟩
theorem above_5 : SetTable.sizeAbove (SetTable.grown 5) = 32 := by decide +kernel
theorem above_19 : SetTable.sizeAbove (SetTable.grown 19) = 128 := by decide +kernel
theorem above_77 : SetTable.sizeAbove (SetTable.grown 77) = 512 := by decide +kernel
end CP
/-! Sets whose elements are objects compared by value (tuples of texts, tuples of such tuples): set(xs), s.add(x), x in s, len(s). -/
namespace CP
open PySem PySem.Spec PyProof.Rows L2

/-- how objects serve as keys: key k stands at address a; its hash; == , hash and the two quiet questions -/
structure KF (P : Program) (w : World) (κ : Type) [DecidableEq κ] where
  At : Heap → κ → Addr → Prop
  hs : κ → Int
  eqb : ∀ {A : Around} {E : Value → Shared → Prop} {s : Shared} {x y : κ} {a b : Addr} {Q : Bool → Shared → Prop}, A.units + 8 < cLine → At s.heap x a → At s.heap y b → Q (decide (x = y)) s → wpAny (model P w) A (eqBool (.ref a) (.ref b)) Q E s
  seen : ∀ {A : Around} {E : Value → Shared → Prop} {s : Shared} {x : κ} {b : Addr} {Q : Bool → Shared → Prop} {ys : List Value}, At s.heap x b → (∀ y ∈ ys, ∃ z c, y = Value.ref c ∧ At s.heap z c) → Q false s → wpAny (model P w) A (searchCouldBeSeen (.ref b) ys) Q E s
  hby : ∀ {A : Around} {E : Value → Shared → Prop} {s : Shared} {x : κ} {b : Addr} {Q : Bool → Shared → Prop}, At s.heap x b → (∀ v, Q v s) → wpAny (model P w) A (hashByValue 8 (.ref b)) Q E s
  pyh : ∀ {A : Around} {E : Value → Shared → Prop} {s : Shared} {x : κ} {b : Addr} {Q : Int → Shared → Prop}, A.units + 8 < cLine → At s.heap x b → (∀ n, Q (hs x) { s with toks := s.toks + n }) → wpAny (model P w) A (pyHash (.ref b)) Q E s
  other : ∀ {h h' : Heap} {x : κ} {a b : Addr} {o : Obj} {es : Array (Int × Value)} {ep : Nat} {t : SetTable}, At h x b → h.get? a = some o → o.data = .set es ep t → Heap.SameBut a h h' → At h' x b
  kept : ∀ {h h' : Heap} {x : κ} {b : Addr}, At h x b → (∀ c o, h.get? c = some o → h'.get? c = some o) → At h' x b

variable {P : Program} {w : World} {κ : Type} [DecidableEq κ] {F : KF P w κ} {A : Around} {E : Value → Shared → Prop} {s : Shared}

def rowsK (F : KF P w κ) (L : List (Addr × κ)) : List (Int × Value) := L.map fun p => (F.hs p.2, Value.ref p.1)
def hsK (F : KF P w κ) (L : List (Addr × κ)) : List Int := L.map fun p => F.hs p.2

/-- at a stands a set whose elements are the objects L, no two keys alike -/
structure SK (F : KF P w κ) (h : Heap) (a : Addr) (L : List (Addr × κ)) (es : Array (Int × Value)) (ep : Nat) (t : SetTable) : Prop where
  obj : ∃ o, h.get? a = some o ∧ o.ExactSet ∧ o.data = .set es ep t
  row : es.toList = rowsK F L
  tab : TabG t (hsK F L)
  nod : (L.map (·.2)).Nodup
  ats : ∀ p ∈ L, F.At h p.2 p.1
  roo : L.length * 5 < t.mask * 3
  few : L.length < 250
  led : t.led = true ∨ w.params.followText "set-order" = true

section
variable {a : Addr} {L : List (Addr × κ)} {es : Array (Int × Value)} {ep : Nat} {t : SetTable}
theorem rowsK_len : (rowsK F L).length = L.length := List.length_map ..
theorem hsK_len : (hsK F L).length = L.length := List.length_map ..
theorem size_of_rows (e : es.toList = rowsK F L) : es.size = L.length := by
  rw [← Array.length_toList, e, rowsK_len]
theorem SK.size (R : SK F s.heap a L es ep t) : es.size = L.length := size_of_rows R.row
theorem entry_of_rows (e : es.toList = rowsK F L) {i : Nat} {p : Addr × κ} (hp : L[i]? = some p) : es[i]? = some (F.hs p.2, Value.ref p.1) := by
  rw [← Array.getElem?_toList, e, rowsK, List.getElem?_map, hp]; rfl
theorem fits_by (h1 : t.place.size = es.size) (h2 : t.dummies = #[]) (h3 : es.size ≤ t.mask) : t.fits es.size = true := by
  simp only [SetTable.fits, SetTable.fill, h2, Bool.and_eq_true, beq_iff_eq, decide_eq_true_eq]
  exact ⟨h1, by rw [h1]; exact h3⟩
theorem SK.fit (R : SK F s.heap a L es ep t) : t.fits es.size = true := by
  have q := R.tab.sz; rw [hsK_len] at q
  have r := R.size; have u := R.roo
  exact fits_by (by omega) R.tab.dm (by omega)
theorem SK.odd (R : SK F s.heap a L es ep t) : ¬ t.gaveWay = true := by
  simp only [SetTable.gaveWay, odd_mask R.tab.mok]; decide
theorem nth_dummy (m : Nat) : ∀ (n : Nat) (p : SetTable.Probe), p.dummy = none → (nth m p n).dummy = none
  | 0, _, e => e
  | n + 1, p, e => nth_dummy m n (adv m p) (by unfold adv; split <;> exact e)

/-- the walk's start for a hash -/
abbrev st0 (m : Nat) (h : Int) : SetTable.Probe := runAt m (SetTable.bits h % (m + 1)) (SetTable.bits h)

/-- looking for k, from the c-th place of its way on; K is the first empty place -/
theorem look_from (R : SK F s.heap a L es ep t) {x : Addr} {k : κ} (hx : F.At s.heap k x) (room : A.units + 8 < cLine) {K : Nat} (lim : K < 10 * SetTable.turns t.mask)
    (fre : way t.mask (F.hs k) K ∉ t.place.toList) (occ : ∀ c, c < K → way t.mask (F.hs k) c ∈ t.place.toList) {Q : SetFound → Shared → Prop}
    {ad : Bool} (yes : ∀ r : Option Nat, r.isSome = !ad → k ∈ L.map (·.2) → Q (.there r) s) (no : k ∉ L.map (·.2) → Q (.free (way t.mask (F.hs k) K) false) s) :
    ∀ (f c : Nat) (st : Option SetTable.Probe), st.getD (t.probeStart (F.hs k)) = nth t.mask (st0 t.mask (F.hs k)) c → c ≤ K → K - c < f →
      (∀ (i : Nat) p, L[i]? = some p → p.2 = k → ∃ d, c ≤ d ∧ d < K ∧ t.place.toList[i]? = some (way t.mask (F.hs k) d)) →
      wpAny (model P w) A (setSearchFrom a (.ref x) (F.hs k) ad f st) Q E s
  | 0, _, _, _, _, z, _ => absurd z (Nat.not_lt_zero _)
  | f + 1, c, st, est, hc, hf, rest => by
    obtain ⟨o, ob1, _, ob2⟩ := R.obj
    rw [setSearchFrom_succ]
    refine wpAny_bind (wpAny_setState_of ob1 ob2 R.fit ?_); dsimp only
    refine wp_if_neg R.odd ?_
    try refine wpAny_bind (wpAny_pure ?_)
    have shift : ∀ q, nth t.mask (nth t.mask (st0 t.mask (F.hs k)) c) q = nth t.mask (st0 t.mask (F.hs k)) (c + q) := fun q => (nth_add t.mask c _ q).symm
    have place : ∀ q, (nth t.mask (nth t.mask (st0 t.mask (F.hs k)) c) q).j = way t.mask (F.hs k) (c + q) := fun q => congrArg SetTable.Probe.j (shift q)
    have look := go_spec t R.tab.ris R.tab.dm (fun i => (es[i]?.map (·.1)).getD 0) (F.hs k) (10 * SetTable.turns t.mask) (K - c) _ (nth_dummy t.mask c (st0 t.mask (F.hs k)) rfl) (by omega)
      (fun q hq => by rw [place]; exact occ (c + q) (by omega)) (by rw [place, Nat.add_sub_cancel' hc]; exact fre)
    have hashOf : ∀ (i : Nat) p, L[i]? = some p → (es[i]?.map (·.1)).getD 0 = F.hs p.2 := fun i p hp => by rw [entry_of_rows R.row hp]; rfl
    rcases look with ⟨q, i, hq, hi, _, none_before, ans⟩ | ⟨none_before, ans⟩
    · have ans' : t.probe (fun i => (es[i]?.map (·.1)).getD 0) (F.hs k) (st.getD (t.probeStart (F.hs k))) = some (.candidate (way t.mask (F.hs k) (c + q)) i (nth t.mask (st0 t.mask (F.hs k)) (c + (q + 1)))) := by
        rw [est, ← place, ← shift]; exact ans
      rw [ans']; dsimp only
      rw [place] at hi
      have inL : i < L.length := by
        have u := (List.getElem?_eq_some_iff.mp hi).1
        have v := R.tab.sz; rw [hsK_len] at v; rw [Array.length_toList] at u; omega
      obtain ⟨p, hp⟩ : ∃ p, L[i]? = some p := ⟨_, List.getElem?_eq_getElem inL⟩
      have pL : p ∈ L := List.mem_of_getElem? hp
      have go_on : wpAny (model P w) A (searchRest a (.ref x) (F.hs k) ad f es t (way t.mask (F.hs k) (c + q)) i (nth t.mask (st0 t.mask (F.hs k)) (c + (q + 1)))) Q E s := by
        unfold searchRest
        rw [entry_of_rows R.row hp]; dsimp only
        refine wpAny_bind (wpAny_holding (F.eqb room (R.ats p pL) hx ?_))
        refine wpAny_bind (wpAny_setState_of ob1 ob2 R.fit ?_); dsimp only
        by_cases same : p.2 = k
        · cases ad with
          | true => refine wp_if_pos (by simp [same]) (wpAny_pure (yes none rfl (List.mem_map.mpr ⟨p, pL, same⟩)))
          | false =>
            refine wp_if_neg (by simp) ?_
            try refine wpAny_bind (wpAny_pure ?_)
            rw [sameMem]; dsimp only
            have live := slot_live R.tab.ris hi
            simp only [if_true, live, entry_of_rows R.row hp]
            refine wpAny_bind (wpAny_isSame_ref_self (wpAny_bind (wpAny_pure ?_)))
            simp only [if_true]
            refine wp_if_pos (by simp [same]) (wpAny_pure (yes (some i) rfl (List.mem_map.mpr ⟨p, pL, same⟩)))
        · refine wp_if_neg (by simp [same]) ?_
          try refine wpAny_bind (wpAny_pure ?_)
          rw [sameMem]; dsimp only
          have live := slot_live R.tab.ris hi
          simp only [if_true, live, entry_of_rows R.row hp]
          refine wpAny_bind (wpAny_isSame_ref_self (wpAny_bind (wpAny_pure ?_)))
          simp only [if_true]
          refine wp_if_neg (by simp [same]) (look_from R hx room lim fre occ yes no f (c + (q + 1)) _ rfl (by omega) (by omega) fun j r hj er => ?_)
          obtain ⟨d, d1, d2, d3⟩ := rest j r hj er
          refine ⟨d, ?_, d2, d3⟩
          rcases Nat.lt_trichotomy d (c + q) with lt | eq | gt
          · exact absurd ((hashOf j r hj).trans (congrArg F.hs er)) (none_before (d - c) j (by omega) (by rw [place, Nat.add_sub_cancel' d1]; exact d3))
          · rw [eq] at d3
            have l2 := slot_live R.tab.ris d3
            rw [live] at l2; injection l2 with l2
            rw [← l2, hp] at hj
            exact absurd ((congrArg Prod.snd (Option.some.inj hj)).trans er) same
          · omega
      by_cases led : t.led = true
      · refine wp_if_neg (by simp [led]) ?_
        try refine wpAny_bind (wpAny_pure ?_)
        exact go_on
      · refine wp_if_pos (by simp [led]) (wpAny_bind (F.seen hx (fun y hy => ?_) ?_))
        · obtain ⟨r, hr, rfl⟩ := List.mem_map.mp hy
          have hr1 : r ∈ es.toList := by
            have : r ∈ es ∧ r.1 = F.hs k := by simpa using hr
            simpa using this.1
          rw [R.row] at hr1
          obtain ⟨p2, hp2, rfl⟩ := List.mem_map.mp hr1
          exact ⟨p2.2, p2.1, rfl, R.ats p2 hp2⟩
        · refine wp_if_neg (by decide) ?_
          try refine wpAny_bind (wpAny_pure ?_)
          exact go_on
    · have ans' : t.probe (fun i => (es[i]?.map (·.1)).getD 0) (F.hs k) (st.getD (t.probeStart (F.hs k))) = some (.empty (way t.mask (F.hs k) K) none) := by
        have e2 := place (K - c); rw [Nat.add_sub_cancel' hc] at e2
        rw [est, ← e2]; exact ans
      rw [ans']; dsimp only
      refine wpAny_pure (no fun hm => ?_)
      obtain ⟨r, hr, er⟩ := List.mem_map.mp hm
      obtain ⟨j, hj⟩ := List.getElem?_of_mem hr
      obtain ⟨d, d1, d2, d3⟩ := rest j r hj er
      exact none_before (d - c) j (by omega) (by rw [place, Nat.add_sub_cancel' d1]; exact d3) ((hashOf j r hj).trans (congrArg F.hs er))

theorem look_for (R : SK F s.heap a L es ep t) {x : Addr} {k : κ} (hx : F.At s.heap k x) (room : A.units + 8 < cLine) {Q : SetFound → Shared → Prop} {ad : Bool} (yes : ∀ r : Option Nat, r.isSome = !ad → k ∈ L.map (·.2) → Q (.there r) s)
    (no : ∀ K, k ∉ L.map (·.2) → way t.mask (F.hs k) K ∉ t.place.toList → (∀ c, c < K → way t.mask (F.hs k) c ∈ t.place.toList) → Q (.free (way t.mask (F.hs k) K) false) s) :
    wpAny (model P w) A (setSearch a (.ref x) (F.hs k) ad) Q E s := by
  have u := R.roo
  obtain ⟨K, lim, fre, occ⟩ := R.tab.first (by rw [hsK_len]; omega) (F.hs k)
  have small : 10 * SetTable.turns t.mask ≤ 5260 := by
    unfold SetTable.turns; rcases R.tab.mok with e | e | e | e <;> omega
  unfold setSearch
  refine look_from R hx room lim fre occ yes (fun z => no K z fre occ) 100000 0 none rfl (Nat.zero_le _) (by omega) fun i p hp ek => ?_
  have hh : (hsK F L)[i]? = some (F.hs k) := by rw [hsK, List.getElem?_map, hp, ← ek]; rfl
  have hl : i < t.place.toList.length := by
    have v := R.tab.sz; rw [hsK_len] at v
    have u := (List.getElem?_eq_some_iff.mp hp).1; rw [Array.length_toList]; omega
  obtain ⟨c, c1, c2⟩ := R.tab.before fre hh (List.getElem?_eq_getElem hl)
  exact ⟨c, Nat.zero_le _, c1, by rw [List.getElem?_eq_getElem hl, c2]⟩
end
section
variable {a : Addr} {L : List (Addr × κ)} {es : Array (Int × Value)} {ep : Nat} {t : SetTable}
theorem pick_rows (L : List (Addr × κ)) (e : es.toList = rowsK F L) : ∀ l : List Nat, (∀ i ∈ l, i < L.length) →
    l.filterMap (fun i => es[i]?) = rowsK F (l.filterMap fun i => L[i]?) ∧ hsK F (l.filterMap fun i => L[i]?) = l.map fun i => (es.map (·.1)).getD i 0
  | [], _ => ⟨rfl, rfl⟩
  | i :: l, hl => by
    have hi := hl i List.mem_cons_self
    obtain ⟨p, hp⟩ : ∃ p, L[i]? = some p := ⟨_, List.getElem?_eq_getElem hi⟩
    obtain ⟨e1, e2⟩ := pick_rows L e l fun j hj => hl j (List.mem_cons_of_mem _ hj)
    have q := entry_of_rows e hp
    have q2 : (es.map (·.1)).getD i 0 = F.hs p.2 := by
      rw [Array.getD_eq_getD_getElem?, Array.getElem?_map, q]; rfl
    refine ⟨?_, ?_⟩
    · rw [List.filterMap_cons_some q, List.filterMap_cons_some hp, e1]; rfl
    · rw [List.filterMap_cons_some hp, List.map_cons, q2, ← e2]; rfl
theorem pick_all {α : Type} (L : List α) : ∀ n, n ≤ L.length → (List.range n).filterMap (fun i => L[i]?) = L.take n
  | 0, _ => rfl
  | n + 1, hn => by
    rw [List.range_succ, List.filterMap_append, pick_all L n (Nat.le_of_lt hn), List.take_succ, List.filterMap_cons, List.getElem?_eq_getElem hn]; rfl
theorem pick_perm {α : Type} (L : List α) {l : List Nat} (h : l.Perm (List.range L.length)) : (l.filterMap fun i => L[i]?).Perm L := by
  have q := h.filterMap fun i => L[i]?
  rw [pick_all L _ (Nat.le_refl _), List.take_length] at q
  exact q

/-- is k in it -/
theorem find_in (R : SK F s.heap a L es ep t) {x : Addr} {k : κ} (hx : F.At s.heap k x) (room : A.units + 8 < cLine) {Q : Option Nat → Shared → Prop} (hQ : ∀ r : Option Nat, r.isSome = decide (k ∈ L.map (·.2)) → Q r s) :
    wpAny (model P w) A (setFind a (.ref x) (F.hs k)) Q E s := by
  obtain ⟨o, ob1, obx, ob2⟩ := R.obj
  unfold setFind
  rw [show (100000 : Nat) = 99999 + 1 from rfl]
  unfold setFindIn
  refine wpAny_bind (wpAny_setState_of ob1 ob2 R.fit ?_); dsimp only
  refine wp_if_neg (by simp [byScan, Value.scannable]) ?_
  try refine wpAny_bind (wpAny_pure ?_)
  refine wpAny_bind (look_for R hx room (fun r hr hm => ?_) fun K hm fre occ => ?_)
  · exact wpAny_pure (hQ r (by rw [hr, decide_eq_true hm]; rfl))
  · exact wpAny_pure (hQ none (by rw [decide_eq_false hm]; rfl))

/-- the table laid anew, with more places -/
theorem relaid_led {t t' : SetTable} {hs : Array Int} {n : Nat} {ord : Array Nat} (h : t.relaid hs n = some (t', ord)) : t'.led = t.led := by
  unfold SetTable.relaid SetTable.laid at h
  simp only [Option.bind_eq_bind, Option.pure_def] at h
  cases q : SetTable.layClean (SetTable.sizeAbove n - 1) hs with
  | none => rw [q] at h; simp at h
  | some o => rw [q] at h; simp at h; rw [← h.1]
theorem lay_anew {o : Obj} (ob1 : s.heap.get? a = some o) (obx : o.ExactSet) (ob2 : o.data = .set es ep t) (row : es.toList = rowsK F L) (pz : t.place.size = es.size) (dm : t.dummies = #[]) (le : es.size ≤ t.mask)
    (nod : (L.map (·.2)).Nodup) (ats : ∀ p ∈ L, F.At s.heap p.2 p.1) (few : L.length < 250) (ld : t.led = true ∨ w.params.followText "set-order" = true) {n M : Nat} (hM : SetTable.sizeAbove n - 1 = M) (ok : MaskG M) (most : SetTable.sizeAbove n ≤ 512) (roo : L.length * 5 < M * 3) {Q : Unit → Shared → Prop}
    (hQ : ∀ h' L' es' ep' t', Heap.SameBut a s.heap h' → SK F h' a L' es' ep' t' → L'.Perm L → Q () { s with heap := h' }) : wpAny (model P w) A (setRelay a n) Q E s := by
  have sz := size_of_rows row
  obtain ⟨t', ord, er, pm, T, em⟩ := laid_anew t (hs := es.map (·.1)) (wanted := n) hM ok (by rw [Array.size_map, sz]; omega)
  rw [Array.size_map, sz] at pm
  obtain ⟨r1, r2⟩ := pick_rows L row ord.toList fun i hi => List.mem_range.mp (pm.mem_iff.mp hi)
  have pL := pick_perm L pm
  rw [← r2] at T
  generalize (ord.toList.filterMap fun i => L[i]?) = L2 at r1 r2 pL T
  have r3 : (ord.filterMap (es[·]?)).toList = rowsK F L2 := by rw [← r1]; simp
  have z2 : (ord.filterMap (es[·]?)).size = es.size := by rw [size_of_rows r3, pL.length_eq, sz]
  rw [setRelay_eq]
  refine wpAny_bind (wpAny_setState_of ob1 ob2 (fits_by pz dm le) ?_); dsimp only
  refine wp_if_neg (by rw [sizeLine_eq]; omega) ?_
  try refine wpAny_bind (wpAny_pure ?_)
  rw [er]; dsimp only
  refine wpAny_bind (wp_if_neg (by rw [z2]; simp) ?_)
  try refine wpAny_bind (wpAny_pure ?_)
  refine wpAny_pure ?_; dsimp only
  refine wpAny_storeSet_of ob1 ob2 ?_ (by rw [z2, sz, sizeLine_eq]; omega)
  have sb : Heap.SameBut a s.heap (s.heap.update a (Obj.putSet (ord.filterMap (es[·]?)) t')) := Heap.SameBut.update ..
  exact hQ _ L2 _ _ _ sb ⟨⟨_, store_at ob1 ob2, ⟨obx.1, obx.2.1, obx.2.2⟩, rfl⟩, r3, T, (pL.map (·.2)).nodup_iff.mpr nod, fun p hp => F.other (ats p (pL.mem_iff.mp hp)) ob1 ob2 sb, by rw [pL.length_eq, em]; exact roo, by rw [pL.length_eq]; exact few, by rw [relaid_led er]; exact ld⟩ pL

def marked (v : Bool) (t : SetTable) : SetTable := if v = true then t else { t with plain := false }
theorem plainly (v : Bool) {hs : List Int} (T : TabG t hs) : TabG (marked v t) hs := by
  cases v
  · exact ⟨T.ris, T.dm, T.sz, T.mok, T.bd, T.reach⟩
  · exact T
theorem marked_mask (v : Bool) (t : SetTable) : (marked v t).mask = t.mask := by cases v <;> rfl
theorem marked_led (v : Bool) (t : SetTable) : (marked v t).led = t.led := by cases v <;> rfl
theorem marked_fill (v : Bool) (t : SetTable) : (marked v t).fill = t.fill := by cases v <;> rfl
theorem by_value {β : Type} {x : Addr} {k : κ} (hx : F.At s.heap k x) {f : Bool → Sem β} {Q : β → Shared → Prop} (h : ∀ v, wpAny (model P w) A (f v) Q E s) : wpAny (model P w) A (if t.plain = true then (hashByValue 8 (.ref x) >>= f) else (pure true >>= f)) Q E s := by
  by_cases c : t.plain = true
  · exact wp_if_pos c (wpAny_bind (F.hby hx h))
  · exact wp_if_neg c (wpAny_bind (wpAny_pure (h true)))
/-- one element more -/
theorem put_in (R : SK F s.heap a L es ep t) {x : Addr} {k : κ} (hx : F.At s.heap k x) (room : A.units + 8 < cLine) (fewer : L.length + 1 < 250) {Q : Bool → Shared → Prop}
    (hQ : ∀ b h' L' es' ep' t', Heap.SameBut a s.heap h' → SK F h' a L' es' ep' t' → (k ∈ L.map (·.2) → L' = L) → (k ∉ L.map (·.2) → L'.Perm ((x, k) :: L)) → Q b { s with heap := h' }) :
    wpAny (model P w) A (setAddHashed a (.ref x) (F.hs k)) Q E s := by
  obtain ⟨o, ob1, obx, ob2⟩ := R.obj
  have sz := R.size
  have roo := R.roo
  unfold setAddHashed
  refine wpAny_holding ?_
  rw [show (100000 : Nat) = 99999 + 1 from rfl, setAddHashedIn_succ]
  refine wpAny_bind (wpAny_setState_of ob1 ob2 R.fit ?_); dsimp only
  refine wp_if_neg (by simp [byScan, Value.scannable]) ?_
  try refine wpAny_bind (wpAny_pure ?_)
  refine wpAny_bind (look_for R hx room (fun r hr hm => ?_) fun K hm fre occ => ?_)
  · exact wpAny_pure (hQ false s.heap L es ep t (Heap.SameBut.refl a s.heap) R (fun _ => rfl) fun z => absurd hm z)
  · dsimp only
    refine wpAny_bind (wpAny_setState_of ob1 ob2 R.fit ?_); dsimp only
    obtain ⟨n0, q0, q1, q2, q3, q4, q9⟩ := R.tab.put fre occ
    have q8 : (t.put (way t.mask (F.hs k) K)).1.led = t.led := rfl
    generalize t.put (way t.mask (F.hs k) K) = pt at q1 q3 q4 q8 q9 ⊢
    obtain ⟨t1, n⟩ := pt
    dsimp only at q1 q3 q4 q8 q9 ⊢
    subst q1
    refine by_value hx fun v => ?_
    replace q3 := plainly v q3
    have ld1 : (marked v t1).led = true ∨ w.params.followText "set-order" = true := by
      have e : (marked v t1).led = t.led := by rw [marked_led, q8]
      rw [e]; exact R.led
    replace q4 : (marked v t1).mask = t.mask := (marked_mask v t1).trans q4
    replace q9 : (marked v t1).fill = _ := (marked_fill v t1).trans q9
    show wpAny _ _ (storeSet a _ (marked v t1) >>= fun _ => if (!false && (marked v t1).tooFull) = true then (setRelay a _ >>= fun _ => pure true) else pure true) _ _ _
    generalize marked v t1 = t1 at q3 q4 q9 ld1 ⊢
    clear q0
    have pm := put_perm L n (x, k)
    have row1 : (SetTable.insertAt es n (F.hs k, Value.ref x)).toList = rowsK F (L.take n ++ (x, k) :: L.drop n) := by
      rw [SetTable.toList_insertAt, R.row]
      simp only [rowsK, List.map_append, List.map_cons, List.map_take, List.map_drop]
    have hh1 : hsK F (L.take n ++ (x, k) :: L.drop n) = (hsK F L).take n ++ F.hs k :: (hsK F L).drop n := by
      simp only [hsK, List.map_append, List.map_cons, List.map_take, List.map_drop]
    rw [← hh1] at q3
    have nod1 : ((L.take n ++ (x, k) :: L.drop n).map (·.2)).Nodup := (pm.map (·.2)).nodup_iff.mpr (by rw [List.map_cons]; exact List.nodup_cons.mpr ⟨hm, R.nod⟩)
    generalize SetTable.insertAt es n (F.hs k, Value.ref x) = es1 at row1 ⊢
    generalize L.take n ++ (x, k) :: L.drop n = L1 at pm q3 nod1 row1
    have len1 : L1.length = L.length + 1 := pm.length_eq
    have sz1 : es1.size = L.length + 1 := (size_of_rows row1).trans len1
    refine wpAny_bind (wpAny_storeSet_of ob1 ob2 ?_ (by rw [sz1, sizeLine_eq]; omega))
    have sb : Heap.SameBut a s.heap (s.heap.update a (Obj.putSet es1 t1)) := Heap.SameBut.update ..
    have ob3 := store_at (es' := es1) (t' := t1) ob1 ob2
    generalize s.heap.update a (Obj.putSet es1 t1) = h1 at sb ob3 ⊢
    have ats1 : ∀ p ∈ L1, F.At h1 p.2 p.1 := fun p hp => by
      rcases List.mem_cons.mp (pm.mem_iff.mp hp) with rfl | hp
      · exact F.other hx ob1 ob2 sb
      · exact F.other (R.ats p hp) ob1 ob2 sb
    have full : t1.tooFull = decide ((L.length + 1) * 5 ≥ t1.mask * 3) := by
      unfold SetTable.tooFull; rw [q9, hsK_len]
    by_cases hf : (L.length + 1) * 5 ≥ t1.mask * 3
    · rw [full, decide_eq_true hf]
      first
        | (refine wpAny_bind ?_; refine wp_if_pos (by simp) ?_)
        | (refine wp_if_pos (by simp) ?_; refine wpAny_bind ?_)
      rw [sz]
      have pz1 : t1.place.size = es1.size := by have v := q3.sz; rw [hsK_len, len1] at v; rw [v, sz1]
      have two : (t.mask = 7 ∧ L.length = 4) ∨ (t.mask = 31 ∧ L.length = 18) ∨ (t.mask = 127 ∧ L.length = 76) := by
        rw [q4] at hf
        rcases R.tab.mok with e | e | e | e <;> rw [e] at hf roo
        · exact .inl ⟨e, by omega⟩
        · exact .inr (.inl ⟨e, by omega⟩)
        · exact .inr (.inr ⟨e, by omega⟩)
        · omega
      have more : ∀ M, SetTable.sizeAbove (SetTable.grown (L.length + 1)) - 1 = M → MaskG M → SetTable.sizeAbove (SetTable.grown (L.length + 1)) ≤ 512 → (L.length + 1) * 5 < M * 3 →
          wpAny (model P w) A (setRelay a (SetTable.grown (L.length + 1))) (fun _ s' => wpAny (model P w) A (pure true) Q E s') E { s with heap := h1 } := fun M m1 m2 m3 m4 =>
        lay_anew (s := { s with heap := h1 }) ob3 ⟨obx.1, obx.2.1, obx.2.2⟩ rfl row1 pz1 q3.dm (by rw [sz1, q4]; rcases two with ⟨e, e2⟩ | ⟨e, e2⟩ | ⟨e, e2⟩ <;> omega) nod1 ats1 (by rw [len1]; exact fewer) ld1 m1 m2 m3 (by rw [len1]; exact m4)
          fun h2 L2 es2 ep2 t2 sb2 R2 pm2 => wpAny_pure (hQ true h2 L2 es2 ep2 t2 (sb.trans sb2) R2 (fun z => absurd z hm) fun _ => pm2.trans pm)
      rcases two with ⟨_, e2⟩ | ⟨_, e2⟩ | ⟨_, e2⟩
      · exact more 31 (by rw [e2, above_5]) (.inr (.inl rfl)) (by rw [e2, above_5]; decide) (by omega)
      · exact more 127 (by rw [e2, above_19]) (.inr (.inr (.inl rfl))) (by rw [e2, above_19]; decide) (by omega)
      · exact more 511 (by rw [e2, above_77]) (.inr (.inr (.inr rfl))) (by rw [e2, above_77]; decide) (by omega)
    · rw [full, decide_eq_false hf]
      first
        | refine wp_if_neg (by simp) ?_
        | (refine wpAny_bind ?_; refine wp_if_neg (by simp) ?_; refine wpAny_pure ?_)
      exact wpAny_pure (hQ true h1 L1 es1 (ep + 1) t1 sb ⟨⟨_, ob3, ⟨obx.1, obx.2.1, obx.2.2⟩, rfl⟩, row1, q3, nod1, ats1, by rw [len1]; omega, by rw [len1]; exact fewer, ld1⟩ (fun z => absurd z hm) fun _ => pm)
end
section
/-- what the set has from the first i of ks -/
structure Has (ks : List (Addr × κ)) (i : Nat) (L : List (Addr × κ)) : Prop where
  sub : ∀ p ∈ L, p ∈ ks.take i
  all : ∀ p ∈ ks.take i, p.2 ∈ L.map (·.2)
  len : L.length ≤ i
  full : (ks.map (·.2)).Nodup → L.length = i
  once : L.length = i → ((ks.take i).map (·.2)).Nodup
theorem take_one {α : Type} {l : List α} {i : Nat} {x : α} (h : l[i]? = some x) : l.take (i + 1) = l.take i ++ [x] := by rw [List.take_succ, h]; rfl
theorem Has.none (ks : List (Addr × κ)) : Has ks 0 [] := ⟨(fun _ z => nomatch z), (fun _ z => by simp at z), Nat.le_refl _, fun _ => rfl, fun _ => List.nodup_nil⟩
theorem Has.next {ks L L' : List (Addr × κ)} {i : Nat} {x : Addr × κ} (g : Has ks i L) (hx : ks[i]? = some x) (c1 : x.2 ∈ L.map (·.2) → L' = L) (c2 : x.2 ∉ L.map (·.2) → L'.Perm (x :: L)) : Has ks (i + 1) L' := by
  by_cases c : x.2 ∈ L.map (·.2)
  · rw [c1 c]
    refine ⟨fun p hp => ?_, fun p hp => ?_, Nat.le_succ_of_le g.len, fun nd => ?_, fun z => absurd z (Nat.ne_of_lt (Nat.lt_succ_of_le g.len))⟩
    · rw [take_one hx]; exact List.mem_append_left _ (g.sub p hp)
    · rw [take_one hx] at hp
      rcases List.mem_append.mp hp with z | z
      · exact g.all p z
      · rw [List.mem_singleton.mp z]; exact c
    · exfalso
      obtain ⟨p, hp, e⟩ := List.mem_map.mp c
      obtain ⟨j, hj⟩ := List.getElem?_of_mem (g.sub p hp)
      have hji : j < i := Nat.lt_of_lt_of_le (List.getElem?_eq_some_iff.mp hj).1 (List.length_take_le _ _)
      rw [List.getElem?_take_of_lt hji] at hj
      have a1 : (ks.map (·.2))[j]? = some x.2 := by rw [List.getElem?_map, hj, ← e]; rfl
      have a2 : (ks.map (·.2))[i]? = some x.2 := by rw [List.getElem?_map, hx]; rfl
      obtain ⟨b1, e1⟩ := List.getElem?_eq_some_iff.mp a1
      obtain ⟨b2, e2⟩ := List.getElem?_eq_some_iff.mp a2
      exact (List.pairwise_iff_getElem.mp nd) j i b1 b2 hji (e1.trans e2.symm)
  · have pm := c2 c
    refine ⟨fun p hp => ?_, fun p hp => ?_, by rw [pm.length_eq]; exact Nat.succ_le_succ g.len, fun nd => by rw [pm.length_eq, List.length_cons, g.full nd], fun z => ?_⟩
    · rw [take_one hx]
      rcases List.mem_cons.mp (pm.mem_iff.mp hp) with rfl | z
      · exact List.mem_append_right _ (List.mem_singleton.mpr rfl)
      · exact List.mem_append_left _ (g.sub p z)
    · rw [(pm.map (·.2)).mem_iff, List.map_cons]
      rw [take_one hx] at hp
      rcases List.mem_append.mp hp with z | z
      · exact List.mem_cons_of_mem _ (g.all p z)
      · rw [List.mem_singleton.mp z]; exact List.mem_cons_self
    · rw [pm.length_eq, List.length_cons] at z
      have nd := g.once (by omega)
      rw [take_one hx, List.map_append]
      refine List.nodup_append.mpr ⟨nd, by simp, fun y hy y' hy' e => c ?_⟩
      simp at hy'
      obtain ⟨p, hp, ep⟩ := List.mem_map.mp hy
      rw [← hy', ← e, ← ep]; exact g.all p hp
theorem SK.kept {h h' : Heap} {a : Addr} {L : List (Addr × κ)} {es : Array (Int × Value)} {ep : Nat} {t : SetTable} (R : SK F h a L es ep t) (ha : ∀ o, h.get? a = some o → h'.get? a = some o) (ht : ∀ p ∈ L, F.At h' p.2 p.1) : SK F h' a L es ep t := by
  obtain ⟨o, ob, r⟩ := R.obj
  exact ⟨⟨o, ha o ob, r⟩, R.row, R.tab, R.nod, ht, R.roo, R.few, R.led⟩
theorem SK.new {h : Heap} {a : Addr} (ho : h.get? a = some { cls := .type "set", dict := none, data := .set #[] 0 (.fresh 0 0 (!w.params.followText "set-order")) }) : SK F h a [] #[] 0 (.fresh 0 0 (!w.params.followText "set-order")) :=
  ⟨⟨_, ho, ⟨rfl, rfl, rfl⟩, rfl⟩, rfl, ⟨List.Pairwise.nil, rfl, rfl, .inl rfl, fun _ z => (by cases z), fun _ _ _ z => (by simp [hsK] at z)⟩, List.nodup_nil, fun _ z => (by cases z), (by show 0 * 5 < 7 * 3; decide), (by show 0 < 250; decide), (by show (!w.params.followText "set-order") = true ∨ _; cases w.params.followText "set-order" <;> simp)⟩

end
end CP
namespace CP
open PySem PySem.Spec PyProof.Rows L2
variable {P : Program} {w : World} {A : Around} {E : Value → Shared → Prop} {s : Shared}
section
variable {a : Addr}
/-- what a set filled item by item holds: J i h, «behind i items», S its place, h0 the heap ahead -/
structure Fills (P : Program) (w : World) (u : Nat) (E : Value → Shared → Prop) (S : Addr) (items : Array Value) (h0 : Heap) (J : Nat → Heap → Prop) : Prop where
  zero : ∀ (h : Heap), h.get? S = some { cls := .type "set", dict := none, data := .set #[] 0 (.fresh 0 0 (!w.params.followText "set-order")) } → (∀ c o, h0.get? c = some o → h.get? c = some o) → J 0 h
  keep : ∀ (i : Nat) (h h' : Heap), J i h → (∀ o, h.get? S = some o → h'.get? S = some o) → (∀ c o, h0.get? c = some o → h'.get? c = some o) → J i h'
  step : ∀ (A' : Around) (i : Nat) (v : Value) (s' : Shared), A'.units ≤ u → items[i]? = some v → J i s'.heap → (∀ c o, h0.get? c = some o → s'.heap.get? c = some o) → ∀ Q : Bool → Shared → Prop,
    (∀ (b : Bool) (h' : Heap) (n : Nat), Heap.SameBut S s'.heap h' → J (i + 1) h' → Q b { s' with heap := h', toks := s'.toks + n }) → wpAny (model P w) A' (setAdd S v) Q E s'

theorem fills_loop {I : Addr} {fp wr : List Addr} {G : Array GenState → Array GenState → Prop} {items : Array Value} {St : Nat → Shared → Prop} {R : Result → Shared → Prop} {u : Nat} {h0 : Heap} {J : Nat → Heap → Prop} {S : Addr}
    (W : WalksS P w A.in1 I fp wr G items.size (fun i v => items[i]? = some v) St) (off : S ∉ fp) (freeS : h0.get? S = none) (freeW : ∀ b ∈ wr, h0.get? b = none) (hu : A.in1.units ≤ u)
    (T : ∀ E, Fills P w u E S items h0 J) :
    ∀ (k i : Nat) (s : Shared), items.size - i = k → i ≤ items.size → St i s → (∀ b o, h0.get? b = some o → s.heap.get? b = some o) → J i s.heap →
      (∀ s', Moved (S :: wr) G s s' → J items.size s'.heap → (∀ b o, h0.get? b = some o → s'.heap.get? b = some o) → R (.ok (.ret .none)) s') →
      codeAny (model P w) A (.builtin "set.update.loop" ⟨[.ref S, .ref I], []⟩) R s := by
  have offW : S ∉ wr := fun z => off (W.sub _ z)
  have wider : ∀ b ∈ wr, b ∈ S :: wr := fun b => List.mem_cons_of_mem _
  have still : ∀ {s s' : Shared}, Moved wr G s s' → (∀ b o, h0.get? b = some o → s.heap.get? b = some o) → ∀ b o, h0.get? b = some o → s'.heap.get? b = some o := fun m q b o e =>
    m.heap b o (fun z => by rw [freeW b z] at e; cases e) (q b o e)
  intro k
  induction k with
  | zero =>
    intro i s hk' hi hst hkp hJ hR
    obtain rfl : i = items.size := by omega
    refine codeAny_builtin PyProof.Rows.F.entry_set_update_loop ?_
    rw [Around.under_plainId PyProof.Rows.F.plain_set_update_loop _]
    show wpAny _ A.in1 (pyNext (.ref I) >>= _) _ _ s
    refine wpAny_bind (W.done s _ _ hst fun s' m => ?_)
    show wpAny _ A.in1 (ret Value.none) _ _ s'
    exact wpAny_pure (hR s' (m.mono wider) ((T (fun _ _ => False)).keep _ _ _ hJ (fun o e => m.heap S o offW e) (still m hkp)) (still m hkp))
  | succ k ih =>
    intro i s hk' hi hst hkp hJ hR
    have lt : i < items.size := by omega
    refine codeAny_builtin PyProof.Rows.F.entry_set_update_loop ?_
    rw [Around.under_plainId PyProof.Rows.F.plain_set_update_loop _]
    show wpAny _ A.in1 (pyNext (.ref I) >>= _) _ _ s
    refine wpAny_bind (W.item i s _ _ lt hst fun v s' pv hst' m => ?_)
    have q := still m hkp
    show wpAny _ A.in1 (holding [v] (setAdd S v) >>= _) _ _ s'
    refine wpAny_bind (wpAny_holding ((T _).step A.in1 i v s' hu pv ((T (fun _ _ => False)).keep _ _ _ hJ (fun o e => m.heap S o offW e) q) q _ fun b h' tn sb J' => ?_))
    have q2 : ∀ b o, h0.get? b = some o → h'.get? b = some o := fun b o e => (sb.2 b (fun z => by rw [z, freeS] at e; cases e)).trans (q b o e)
    refine wpAny_pure ⟨plainId_quiet PyProof.Rows.F.plain_set_update_loop _, ih (i + 1) _ (by omega) lt (W.frame _ s' _ _ hst' (Nat.le_add_right _ _) fun b hb o e => ?_) q2 J' fun s'' m'' J'' q'' => ?_⟩
    · rw [sb.2 b (fun z : b = S => off (z ▸ hb))]; exact e
    · refine hR s'' (Moved.trans W.gtrans ((m.mono wider).then_heap (Nat.le_add_right _ _) fun b o hb e => ?_) m'') J'' q''
      rw [sb.2 b (fun z : b = S => hb (by rw [z]; exact List.mem_cons_self))]; exact e

abbrev newSet (w : World) : Obj := { cls := .type "set", dict := none, data := .set #[] 0 (.fresh 0 0 (!w.params.followText "set-order")) }
theorem free_above {h : Heap} {b : Addr} (hb : h.objs.size ≤ b) : h.get? b = none := by
  cases q : h.get? b with
  | none => rfl
  | some o => exact absurd (Nat.lt_of_lt_of_le (Heap.lt_size q) hb) (Nat.lt_irrefl _)
/-- set(xs), xs a list or a tuple -/
theorem set_of_seq {l : Addr} {items : Array Value} {Q : Value → Shared → Prop} {J : Nat → Heap → Prop} {ty it : String} {od : Option Addr} {nl : Nat} {os : Array (Option Value)} {St : Addr → Nat → Heap → Prop}
    (hol : s.heap.get? l = some { cls := .type ty, dict := od, data := .seq items nl, slots := os }) (n1 : isSubtype (.type ty) (.type "set") = pure false) (n2 : isSubtype (.type ty) (.type "frozenset") = pure false) (n3 : (Value.type ty == Value.type "dict") = false)
    (beg : ∀ {A : Around} {E : Value → Shared → Prop} {s1 : Shared} {Q : Value → Shared → Prop}, s1.heap.get? l = some { cls := .type ty, dict := od, data := .seq items nl, slots := os } → Q (.ref s1.heap.objs.size) { s1 with heap := s1.heap.push { cls := .type it, data := .fields #[.ref l, .int 0 0] } } → wpAny (model P w) A (pyIter (.ref l)) Q E s1)
    (W : ∀ I, l ≠ I → Walks P w A.in1.in1.in1 I [I, l] [I] items.size (fun i v => items[i]? = some v) (St I))
    (St0 : ∀ h : Heap, h.get? l = some { cls := .type ty, dict := od, data := .seq items nl, slots := os } → St h.objs.size 0 (h.push { cls := .type it, data := .fields #[.ref l, .int 0 0] })) (T : ∀ E, Fills P w (A.units + 3) E s.heap.objs.size items s.heap J)
    (h : ∀ (h' : Heap) (tk : Nat), J items.size h' → (∀ b o, s.heap.get? b = some o → h'.get? b = some o) → Q (.ref s.heap.objs.size) { s with heap := h', toks := tk }) :
    wpAny (model P w) A (call (.type "set") [.ref l]) Q E s := by
  obtain ⟨c, tl, m1⟩ := PySem.F.called_set.mro
  have m2 := PySem.F.called_set.made
  have m3 := PySem.F.called_set.sub
  refine wpAny_call (codeAny_of_tree ?_); show wpAny _ _ (callAny (.type "set") _) _ _ _
  refine wpAny_pure ⟨Code.quiet_builtin _ (by decide +kernel), codeAny_builtin PySem.F.entry_type_call ?_⟩
  rw [Around.under_plain (weight_type_call_type "set" [.ref l] []) rfl]
  have m4 := PySem.F.called_set.notType
  have m5 := PySem.F.called_set.canCreate
  have m6 := PySem.F.typeCall_set_1 (.ref l)
  repeat (any_goals (first | assumption | wp_step))
  refine codeAny_mono (code_set_led1 (.ref l) (E := E) (Q₁ := fun v s₁ => v = .ref s.heap.objs.size ∧ s₁ = { s with heap := s.heap.push (newSet w) }) ⟨rfl, rfl⟩) fun r s₁ hr => ?_
  cases r with
  | error e => exact hr
  | ok fl =>
    cases fl with
    | ret obj =>
      obtain ⟨rfl, rfl⟩ := hr
      have atS : (s.heap.push (newSet w)).get? s.heap.objs.size = some (newSet w) := Heap.get?_push_size _ rfl
      have tyS : Shared.TypeIs { s with heap := s.heap.push (newSet w) } (.ref s.heap.objs.size) "set" := ⟨_, atS, rfl⟩
      have m7 := PySem.F.called_set.init.lookup
      have m8 := PySem.F.called_set.init.bind (.ref s.heap.objs.size)
      repeat (any_goals (first | assumption | wp_step))
      refine codeAny_mono (codeAny_call_builtin (R := wants (fun r s₂ => r = .none ∧ ∃ h' tk, s₂ = { s with heap := h', toks := tk } ∧ J items.size h' ∧ (∀ b o, s.heap.get? b = some o → h'.get? b = some o)) E)
        PySem.F.called_set.init.plain PySem.F.entry_set_init (check_set_init_1 tyS ?_)) fun r₂ s₂ hr₂ => ?_
      · have hol' : (s.heap.push (newSet w)).get? l = some { cls := .type ty, dict := od, data := .seq items nl, slots := os } := Heap.get?_push_of_some _ hol
        unfold Builtin.«set.__init__» noKeywords Builtin.Frozenset.updateFrom
        generalize hPI : pyIter = PI
        wp_walk
        subst hPI
        refine beg hol' (wpAny_bind (wpAny_runValue ?_))
        have ll : l < s.heap.objs.size := Heap.lt_size hol
        have nI : l ≠ (s.heap.push (newSet w)).objs.size := by rw [Heap.size_push]; exact Nat.ne_of_lt (Nat.lt_succ_of_lt ll)
        have off : s.heap.objs.size ∉ [(s.heap.push (newSet w)).objs.size, l] := by
          rw [Heap.size_push]; simp only [List.mem_cons, List.not_mem_nil, or_false, not_or]
          exact ⟨Nat.ne_of_lt (Nat.lt_succ_self _), Nat.ne_of_gt ll⟩
        have up : ∀ b o, s.heap.get? b = some o → ((s.heap.push (newSet w)).push { cls := .type it, data := .fields #[.ref l, .int 0 0] }).get? b = some o := fun b o e => Heap.get?_push_of_some _ (Heap.get?_push_of_some _ e)
        refine fills_loop ((W _ nI).toS) off (free_above (Nat.le_refl _)) (fun b hb => free_above (by rw [List.mem_singleton.mp hb, Heap.size_push]; exact Nat.le_succ _)) (by simp) T (items.size - 0) 0 _ (by omega) (Nat.zero_le _)
          (St0 _ hol') up ((T (fun _ _ => False)).zero _ (Heap.get?_push_of_some _ atS) up) ?_
        intro s' m J' q'
        obtain ⟨h', g2, d', tk', os'⟩ := s'
        have eg : g2 = s.gens := m.gens
        have ed : d' = s.drawn := m.drawn
        have eo : os' = s.os := m.os
        subst eg; subst ed; subst eo
        show wpAny _ _ _ _ _ _
        refine wpAny_pure ?_; show wpAny _ _ (ret Value.none) _ _ _
        exact wpAny_pure ⟨rfl, h', tk', rfl, J', q'⟩
      · cases r₂ with
        | error e => exact hr₂
        | ok fl₂ =>
          cases fl₂ with
          | ret r =>
            obtain ⟨rfl, h', tk, rfl, J', q'⟩ := hr₂
            repeat (any_goals (first | assumption | wp_step))
            exact h _ _ J' q'
          | _ => exact hr₂.elim
    | _ => exact hr.elim
theorem set_of_list {l : Addr} {items : Array Value} {Q : Value → Shared → Prop} {J : Nat → Heap → Prop} (hh : A.handled = none) (hl : s.heap.IsList l items) (T : ∀ E, Fills P w (A.units + 3) E s.heap.objs.size items s.heap J)
    (h : ∀ (h' : Heap) (tk : Nat), J items.size h' → (∀ b o, s.heap.get? b = some o → h'.get? b = some o) → Q (.ref s.heap.objs.size) { s with heap := h', toks := tk }) :
    wpAny (model P w) A (call (.type "set") [.ref l]) Q E s := by
  obtain ⟨⟨oc, od, odata, os⟩, hol, hcl, nl, hdl⟩ := hl
  simp only at hcl hdl
  subst hcl; subst hdl
  exact set_of_seq hol PySem.F.sub_list_set PySem.F.sub_list_frozenset (by decide) (fun e q => wpAny_pyIter_list ⟨_, e, rfl, nl, rfl⟩ q) (fun I nI => Walks.list (by simp [hh]) I l nI items)
    (fun h e => ⟨⟨_, Heap.get?_push_size _ rfl, rfl, rfl⟩, ⟨_, Heap.get?_push_of_some _ e, rfl, nl, rfl⟩⟩) T h
theorem set_of_tuple {l : Addr} {items : Array Value} {Q : Value → Shared → Prop} {J : Nat → Heap → Prop} (hh : A.handled = none) (hl : s.heap.IsTuple l items) (T : ∀ E, Fills P w (A.units + 3) E s.heap.objs.size items s.heap J)
    (h : ∀ (h' : Heap) (tk : Nat), J items.size h' → (∀ b o, s.heap.get? b = some o → h'.get? b = some o) → Q (.ref s.heap.objs.size) { s with heap := h', toks := tk }) :
    wpAny (model P w) A (call (.type "set") [.ref l]) Q E s := by
  obtain ⟨⟨oc, od, odata, os⟩, hol, hcl, nl, hdl⟩ := hl
  simp only at hcl hdl
  subst hcl; subst hdl
  exact set_of_seq hol PySem.F.sub_tuple_set PySem.F.sub_tuple_frozenset (by decide) (fun e q => wpAny_pyIter_tuple ⟨_, e, rfl, nl, rfl⟩ q) (fun I nI => Walks.tuple (by simp [hh]) I l nI items)
    (fun h e => ⟨⟨_, Heap.get?_push_size _ rfl, rfl, rfl⟩, ⟨_, Heap.get?_push_of_some _ e, rfl, nl, rfl⟩⟩) T h
end
end CP
namespace CP
open PySem PySem.Spec PyProof.Rows L2
section
variable {P : Program} {w : World} {A : Around} {E : Value → Shared → Prop} {s : Shared}
/-- the tuple at b holds the texts k -/
abbrev TxtAt (P : Program) (w : World) (h : Heap) (k : List Str) (b : Addr) : Prop := IsTupleKey (strKind P w) h k b
theorem items_txt {k : List Str} {vs : List Value} (h : ItemsAre (strKind P w) k vs) : ∀ v ∈ vs, ∃ x u, v = Value.str x u := by
  induction h with
  | nil => intro v z; cases z
  | @cons k0 v0 ks vs h1 _ ih =>
    intro v z
    rcases List.mem_cons.mp z with rfl | z
    · obtain ⟨u, e⟩ := Value.isStrOf_shape h1
      exact ⟨k0, u, e⟩
    · exact ih v z
theorem cls_txt (n : Nat) (x : Str) (u : Tok) : ofAClassStatement n (.str x u) = pure false := by cases n <;> rfl
theorem hsh_txt (n : Nat) (x : Str) (u : Tok) : hashByValue n (.str x u) = pure false := by cases n <;> rfl
theorem cls_tup {k : List Str} {b : Addr} {Q : Bool → Shared → Prop} (hk : TxtAt P w s.heap k b) (h : Q false s) : wpAny (model P w) A (ofAClassStatement 8 (.ref b)) Q E s := by
  have ty := hk.typeIs
  obtain ⟨o, items, n, ho, _, hd, hi⟩ := hk
  unfold ofAClassStatement
  refine wpAny_bind (wpAny_typeOf ty ?_); dsimp only
  have e : (("tuple" : String) == "tuple") = true := by decide
  simp only [e, if_true, Bool.not_true, Bool.false_eq_true, if_false]
  try refine wpAny_bind (wpAny_pure ?_)
  try simp only [Bool.not_true, Bool.false_eq_true, if_false]
  show wpAny _ _ (seqItems? (.ref b) >>= _) _ _ s
  refine wpAny_bind (wpAny_seqItems ho hd ?_); dsimp only
  refine wpAny_bind ?_; show wpAny _ _ (forIn items _ _) _ _ s
  rw [← Array.forIn_toList]
  refine wpAny_forIn_list _ (fun rest r s' => r.1 = none ∧ s' = s ∧ ∀ v ∈ rest, ∃ x u, v = Value.str x u) _ ?_ ?_ _ _ ⟨rfl, rfl, items_txt hi⟩
  · rintro v rest r s' ⟨hr, rfl, each⟩
    obtain ⟨x, u, rfl⟩ := each v List.mem_cons_self
    rw [cls_txt]
    refine wpAny_bind (wpAny_pure ?_); simp only [Bool.false_eq_true, if_false]
    exact wpAny_pure ⟨rfl, rfl, fun y hy => each y (List.mem_cons_of_mem _ hy)⟩
  · rintro ⟨r1, r2⟩ s' ⟨hr, rfl, _⟩
    simp only at hr; subst hr
    exact wpAny_pure h
theorem hsh_tup {k : List Str} {b : Addr} {Q : Bool → Shared → Prop} (hk : TxtAt P w s.heap k b) (h : ∀ v, Q v s) : wpAny (model P w) A (hashByValue 8 (.ref b)) Q E s := by
  have ty := hk.typeIs
  obtain ⟨o, items, n, ho, _, hd, hi⟩ := hk
  unfold hashByValue
  refine wpAny_bind (wpAny_specialOf ty PySem.F.slot_tuple_hash.lookup ?_)
  show wpAny _ _ (seqItems? (.ref b) >>= _) _ _ s
  refine wpAny_bind (wpAny_seqItems ho hd (wpAny_bind ?_)); show wpAny _ _ (forIn items _ _) _ _ s
  rw [← Array.forIn_toList]
  refine wpAny_forIn_list _ (fun rest r s' => (r.1 = none ∨ r.1 = some false) ∧ s' = s ∧ ∀ v ∈ rest, ∃ x u, v = Value.str x u) _ ?_ ?_ _ _ ⟨.inl rfl, rfl, items_txt hi⟩
  · rintro v rest r s' ⟨hr, rfl, each⟩
    obtain ⟨x, u, rfl⟩ := each v List.mem_cons_self
    rw [hsh_txt]
    refine wpAny_bind (wpAny_pure ?_); simp only [Bool.not_false, if_true]
    exact wpAny_pure (wpAny_pure (h _))
  · rintro ⟨r1, r2⟩ s' ⟨hr, rfl, _⟩
    simp only at hr
    rcases hr with rfl | rfl
    · exact wpAny_pure (h _)
    · exact wpAny_pure (h _)
theorem seen_tup2 {k : List Str} {b : Addr} {Q : Bool → Shared → Prop} {ys : List Value} (hk : TxtAt P w s.heap k b) (hy : ∀ y ∈ ys, ∃ z c, y = Value.ref c ∧ TxtAt P w s.heap z c) (h : Q false s) : wpAny (model P w) A (searchCouldBeSeen (.ref b) ys) Q E s := by
  unfold searchCouldBeSeen
  refine wpAny_bind ?_
  refine wpAny_forIn_list _ (fun rest r s' => r.1 = none ∧ s' = s ∧ ∀ y ∈ rest, ∃ z c, y = Value.ref c ∧ TxtAt P w s.heap z c) _ ?_ ?_ _ _ ⟨rfl, rfl, hy⟩
  · rintro v rest r s' ⟨hr, rfl, each⟩
    obtain ⟨z, c, rfl, hc⟩ := each v List.mem_cons_self
    have each' : ∀ y ∈ rest, ∃ z c, y = Value.ref c ∧ TxtAt P w s'.heap z c := fun y z => each y (List.mem_cons_of_mem _ z)
    dsimp only
    by_cases hv : (b == c || (carriedByValue (.ref b) && carriedByValue (.ref c))) = true
    · exact wp_if_pos hv (wpAny_pure ⟨rfl, rfl, each'⟩)
    · refine wp_if_neg hv (wpAny_bind (wpAny_eqIsQuiet_tuple hk ?_)); simp only [Bool.not_true, Bool.false_eq_true, if_false]
      refine wpAny_bind (wpAny_eqIsQuiet_tuple hc ?_); simp only [Bool.not_true, Bool.false_eq_true, if_false]
      refine wpAny_bind (cls_tup hk ?_); simp only [Bool.false_eq_true, if_false]
      refine wpAny_bind (cls_tup hc ?_); simp only [Bool.false_eq_true, if_false]
      exact wpAny_pure ⟨rfl, rfl, each'⟩
  · rintro ⟨r1, r2⟩ s' ⟨hr, rfl, _⟩
    simp only at hr; subst hr
    exact wpAny_pure h
end
/-- tuples of texts as keys -/
def txtK (P : Program) (w : World) : KF P w (List Str) where
  At := fun h k b => TxtAt P w h k b
  hs := tupleKeyHash (strKind P w)
  eqb := fun hu hx hy h => wpAny_eqBool_tuple (by omega) hx hy h
  seen := fun hx hy h => seen_tup2 hx hy h
  hby := fun hx h => hsh_tup hx h
  pyh := fun hu hx h => wpAny_pyHash_tuple (by omega) hx (h _)
  other := fun hb ho hd hs => by
    obtain ⟨o2, items, n, ho2, hc, hd2, hi⟩ := hb
    refine ⟨o2, items, n, (hs.2 _ fun z => ?_).trans ho2, hc, hd2, hi⟩
    rw [z, ho] at ho2; cases ho2; rw [hd] at hd2; cases hd2
  kept := fun hb hk => by
    obtain ⟨o2, items, n, ho2, r⟩ := hb
    exact ⟨o2, items, n, hk _ _ ho2, r⟩

section
variable {P : Program} {w : World} {κ : Type} [DecidableEq κ] (F : KF P w κ)
/-- a set filled with the objects ks, item by item -/
theorem fills_keys {S : Addr} {items : Array Value} {h0 : Heap} {ks : List (Addr × κ)} {u : Nat} {E : Value → Shared → Prop} (hu : u + 8 < cLine) (hit : items.toList = ks.map fun p => Value.ref p.1) (few : ks.length < 250) (hk : ∀ p ∈ ks, F.At h0 p.2 p.1) :
    Fills P w u E S items h0 (fun i h => (∃ L es ep t, SK F h S L es ep t ∧ Has ks i L)) := by
  have sub : ∀ {i : Nat} {L : List (Addr × κ)} {p : Addr × κ}, Has ks i L → p ∈ L → p ∈ ks := fun g hp => List.mem_of_mem_take (g.sub _ hp)
  refine ⟨fun h e _ => ⟨[], #[], 0, _, SK.new e, Has.none ks⟩, fun i h h' ⟨L, es, ep, t, R, g⟩ q1 q2 => ⟨L, es, ep, t, R.kept q1 fun p hp => F.kept (hk p (sub g hp)) q2, g⟩, ?_⟩
  intro A' i v s' hA hv ⟨L, es, ep, t, R, g⟩ q2 Q hQ
  obtain ⟨p, hp, rfl⟩ : ∃ p, ks[i]? = some p ∧ v = .ref p.1 := by
    have e : items.toList[i]? = some v := by rw [Array.getElem?_toList]; exact hv
    rw [hit, List.getElem?_map] at e
    cases hq : ks[i]? with
    | none => rw [hq] at e; cases e
    | some p => rw [hq] at e; exact ⟨p, rfl, (Option.some.inj e).symm⟩
  have hx : F.At s'.heap p.2 p.1 := F.kept (hk p (List.mem_of_getElem? hp)) q2
  unfold setAdd
  refine wpAny_holding (wpAny_bind (F.pyh (by omega) hx fun tn => ?_))
  have li : i < ks.length := (List.getElem?_eq_some_iff.mp hp).1
  refine put_in (s := { s' with toks := s'.toks + tn }) R hx (by omega) (by have := g.len; omega) fun b h' L' es' ep' t' sb R' c1 c2 => ?_
  exact hQ b h' tn sb ⟨L', es', ep', t', R', g.next hp c1 c2⟩
end
section
variable {P : Program} {w : World}
theorem txts_get {us : List Value} {xs : List Str} (r : Vals (xs.map V.str) us) (i : Nat) (v : Value) (e : us[i]? = some v) : ∃ x u, xs[i]? = some x ∧ v = .str x u := by
  have li : i < xs.length := by have := (List.getElem?_eq_some_iff.mp e).1; rw [← r.length, List.length_map] at this; exact this
  have hx : xs[i]? = some xs[i] := List.getElem?_eq_getElem li
  obtain ⟨u, e2, rv⟩ := r.get (i := i) (x := V.str xs[i]) (by rw [List.getElem?_map, hx]; rfl)
  rw [e] at e2; cases e2
  obtain ⟨t, rfl⟩ := rv
  exact ⟨_, t, hx, rfl⟩
/-- a set filled with texts -/
theorem fills_txts {S : Addr} {items : Array Value} {h0 : Heap} {xs : List Str} {u : Nat} {E : Value → Shared → Prop} (hi : Vals (xs.map V.str) items.toList) (few : xs.length + 1 < scanBound) :
    Fills P w u E S items h0 (fun i h => ∃ n, h.SetOf (strKind P w) S (fun k => decide (k ∈ xs.take i)) n ∧ n ≤ i ∧ (xs.Nodup → n = i) ∧ (n = i → (xs.take i).Nodup)) := by
  refine ⟨fun h e _ => ⟨0, ?_, Nat.le_refl _, fun _ => rfl, fun _ => List.nodup_nil⟩, fun i h h' ⟨n, R, c⟩ q1 _ => ⟨n, ?_, c⟩, ?_⟩
  · exact SetOf_congr ((setObjOf_fresh (knd := strKind P w) _).setOf e (by unfold scanBound; omega)) (fun k => by simp) rfl
  · obtain ⟨o, es, ep, tb, ho, rest⟩ := R
    exact ⟨o, es, ep, tb, q1 o ho, rest⟩
  · intro A' i v s' _ hv ⟨n, R, c1, c2, c3⟩ _ Q hQ
    obtain ⟨x, u, hx, rfl⟩ := txts_get hi i v (by rw [Array.getElem?_toList]; exact hv)
    have li : i < xs.length := (List.getElem?_eq_some_iff.mp hx).1
    unfold setAdd
    refine wpAny_holding (wpAny_bind ((strKind P w).pyHash (k := x) (strKind_is _ _ _ _) ?_))
    refine wpAny_setAddHashed_of (knd := strKind P w) (s := { s' with toks := s'.toks + 1 }) (strKind_is _ _ _ _) rfl R (by omega) fun h' sb R' => ?_
    refine hQ _ h' 1 sb ⟨_, SetOf_congr R' (fun k => ?_) rfl, ?_, fun nd => ?_, fun z => ?_⟩
    · rw [take_one hx]; simp [Bool.decide_or]
    · split <;> omega
    · have : x ∉ xs.take i := fun z => by
        obtain ⟨j, hj⟩ := List.getElem?_of_mem z
        have hji : j < i := Nat.lt_of_lt_of_le (List.getElem?_eq_some_iff.mp hj).1 (List.length_take_le _ _)
        rw [List.getElem?_take_of_lt hji] at hj
        obtain ⟨b1, e1⟩ := List.getElem?_eq_some_iff.mp hj
        obtain ⟨b2, e2⟩ := List.getElem?_eq_some_iff.mp hx
        exact (List.pairwise_iff_getElem.mp nd) j i b1 b2 hji (e1.trans e2.symm)
      rw [decide_eq_false this]; simp [c2 nd]
    · by_cases c : x ∈ xs.take i
      · rw [decide_eq_true c, if_pos rfl] at z; omega
      · rw [decide_eq_false c, if_neg (by decide)] at z
        rw [take_one hx]
        refine List.nodup_append.mpr ⟨c3 (by omega), by simp, fun y hy y' hy' e => c ?_⟩
        simp at hy'
        rw [← hy', ← e]; exact hy
end
/-! ### len(set(xs)) -/
section
variable {X : Cx} {e : Expr} {te : TE} {p p2 q pos : Pos}
/-- xs a row of texts -/
def tLenSetX (K : PySem.W.Frag) (te : TE) : TE := fun σ H Q => te σ H fun x H1 => ∃ (l : Addr) (xs : List Str), x = V.ref l ∧ (SqL K H1 l (xs.map V.str) ∨ SqT K H1 l (xs.map V.str)) ∧ xs.length < 1000 ∧
  ∀ n : Nat, n ≤ xs.length → (n = xs.length ↔ xs.Nodup) → Q (.int (n : Int)) H1
theorem pe_lenSetX (hc : X.calm = true) (hg : Gl X "len") (hm : X.mg "len" = none) (hg2 : Gl X "set") (hm2 : X.mg "set" = none) (he : PE X e te)
    (na : starEach [e] X.env = (false, eval e X.env) :: starEach [] X.env := by rfl) : PE X (.Call (.Name "len" p) [.Call (.Name "set" p2) [e] [] q] [] pos) (tLenSetX X.K te) := by
  refine ⟨fun pins s σ H Q I h => Call_ (ld_blt I hg hm PySem.boot_len ?_)⟩
  refine PyProof.Rows.callWith_builtin1 (PyProof.Rows.args_cons ?_ rfl) rfl rfl
  refine Call_ (ld_blt I hg2 hm2 PyProof.Rows.boot_set ?_)
  refine PyProof.Rows.callWith_type1 (PyProof.Rows.args_cons (thn (he.run pins s σ H _ I h) fun v s1 ⟨x, H1, I1, r1, l, xs, ex, hq, few, k⟩ => PyProof.Rows.args_nil ?_) na) na rfl
  subst ex; cases r1
  rcases hq with hq | hq
  · obtain ⟨its, r, pl, _⟩ := I1.list hq
    refine set_of_list (I1.ok.hd hc) pl.isList (fun E => fills_txts (xs := xs) (by simpa using r) (by unfold scanBound; omega)) fun h' tk ⟨n, ⟨o, es, ep, t, ho, hex, hd, _, _, _, hf, hn⟩, c1, c2, c3⟩ keep => ?_
    have sz : its.toArray.size = xs.length := by rw [List.size_toArray, ← r.length, List.length_map]
    rw [sz] at c1 c2 c3; rw [List.take_length] at c3
    exact PyProof.Rows.args_nil (call_len_set ho hex hd hf (by rw [hn]; omega) ⟨.int n, H1, (I1.kept (t' := tk) keep).tok _, ⟨_, by rw [hn]⟩, k n c1 ⟨c3, c2⟩⟩)
  · obtain ⟨its, r, pl, _⟩ := I1.tuple hq
    refine set_of_tuple (I1.ok.hd hc) pl (fun E => fills_txts (xs := xs) (by simpa using r) (by unfold scanBound; omega)) fun h' tk ⟨n, ⟨o, es, ep, t, ho, hex, hd, _, _, _, hf, hn⟩, c1, c2, c3⟩ keep => ?_
    have sz : its.toArray.size = xs.length := by rw [List.size_toArray, ← r.length, List.length_map]
    rw [sz] at c1 c2 c3; rw [List.take_length] at c3
    exact PyProof.Rows.args_nil (call_len_set ho hex hd hf (by rw [hn]; omega) ⟨.int n, H1, (I1.kept (t' := tk) keep).tok _, ⟨_, by rw [hn]⟩, k n c1 ⟨c3, c2⟩⟩)
/-- xs a row of tuples of texts -/
def tLenSetP (K : PySem.W.Frag) (te : TE) : TE := fun σ H Q => te σ H fun x H1 => ∃ (l : Addr) (ks : List (Addr × List Str)), x = V.ref l ∧ (SqL K H1 l (ks.map fun p => V.ref p.1) ∨ SqT K H1 l (ks.map fun p => V.ref p.1)) ∧ (∀ p ∈ ks, SqT K H1 p.1 (p.2.map V.str)) ∧ ks.length < 250 ∧
  ∀ n : Nat, n ≤ ks.length → (n = ks.length ↔ (ks.map (·.2)).Nodup) → Q (.int (n : Int)) H1
theorem txt_items {P : Program} {w : World} : ∀ {k : List Str} {us : List Value}, Vals (k.map V.str) us → ItemsAre (strKind P w) k us
  | [], us, r => by cases r; exact .nil
  | x :: k, us, r => by
    cases r with
    | @cons _ u _ us h1 h2 =>
      obtain ⟨t, rfl⟩ := h1
      exact .cons (strKind_is _ _ _ _) (txt_items h2)
theorem txt_at {pins : List (Addr × Obj)} {σ : L2.St} {H : Hp} {s : Shared} {b : Addr} {k : List Str} (I : L2.Inv X pins σ H s) (h : SqT X.K H b (k.map V.str)) : TxtAt X.prog X.w s.heap k b := by
  obtain ⟨its, r, ⟨o, ho, hc, n, hd⟩, _⟩ := I.tuple h
  exact ⟨o, its.toArray, n, ho, hc, hd, by simpa using txt_items r⟩
theorem refs_only : ∀ {κ : Type} {ks : List (Addr × κ)} {us : List Value}, Vals (ks.map fun p => V.ref p.1) us → us = ks.map fun p => Value.ref p.1
  | _, [], us, r => by cases r; rfl
  | _, p :: ks, us, r => by
    cases r with
    | @cons _ u _ us h1 h2 =>
      obtain rfl : u = Value.ref p.1 := h1
      rw [refs_only h2]; rfl
theorem pe_lenSetP (hc : X.calm = true) (hg : Gl X "len") (hm : X.mg "len" = none) (hg2 : Gl X "set") (hm2 : X.mg "set" = none) (hu : X.A.units + 64 < cLine) (he : PE X e te)
    (na : starEach [e] X.env = (false, eval e X.env) :: starEach [] X.env := by rfl) : PE X (.Call (.Name "len" p) [.Call (.Name "set" p2) [e] [] q] [] pos) (tLenSetP X.K te) := by
  refine ⟨fun pins s σ H Q I h => Call_ (ld_blt I hg hm PySem.boot_len ?_)⟩
  refine PyProof.Rows.callWith_builtin1 (PyProof.Rows.args_cons ?_ rfl) rfl rfl
  refine Call_ (ld_blt I hg2 hm2 PyProof.Rows.boot_set ?_)
  refine PyProof.Rows.callWith_type1 (PyProof.Rows.args_cons (thn (he.run pins s σ H _ I h) fun v s1 ⟨x, H1, I1, r1, l, ks, ex, hq, hks, few, k⟩ => PyProof.Rows.args_nil ?_) na) na rfl
  subst ex; cases r1
  have ats : ∀ p ∈ ks, (txtK X.prog X.w).At s1.heap p.2 p.1 := fun p hp => txt_at I1 (hks p hp)
  rcases hq with hq | hq
  · obtain ⟨its, r, pl, _⟩ := I1.list hq
    have sz : its.toArray.size = ks.length := by rw [List.size_toArray, ← r.length, List.length_map]
    refine set_of_list (I1.ok.hd hc) pl.isList (fun E => fills_keys (txtK X.prog X.w) (ks := ks) (by omega) (by simpa using refs_only r) few ats) fun h' tk ⟨L, es, ep, t, R, g⟩ keep => ?_
    rw [sz] at g
    obtain ⟨o, ho, hex, hd⟩ := R.obj
    have cz := size_of_rows R.row
    have c3 := g.once; rw [List.take_length] at c3
    exact PyProof.Rows.args_nil (call_len_set ho hex hd (R.fit (s := { s1 with heap := h' })) (by have := R.few; omega) ⟨.int L.length, H1, (I1.kept (t' := tk) keep).tok _, ⟨_, by rw [cz]⟩, k L.length g.len ⟨c3, g.full⟩⟩)
  · obtain ⟨its, r, pl, _⟩ := I1.tuple hq
    have sz : its.toArray.size = ks.length := by rw [List.size_toArray, ← r.length, List.length_map]
    refine set_of_tuple (I1.ok.hd hc) pl (fun E => fills_keys (txtK X.prog X.w) (ks := ks) (by omega) (by simpa using refs_only r) few ats) fun h' tk ⟨L, es, ep, t, R, g⟩ keep => ?_
    rw [sz] at g
    obtain ⟨o, ho, hex, hd⟩ := R.obj
    have cz := size_of_rows R.row
    have c3 := g.once; rw [List.take_length] at c3
    exact PyProof.Rows.args_nil (call_len_set ho hex hd (R.fit (s := { s1 with heap := h' })) (by have := R.few; omega) ⟨.int L.length, H1, (I1.kept (t' := tk) keep).tok _, ⟨_, by rw [cz]⟩, k L.length g.len ⟨c3, g.full⟩⟩)
end
end CP
/-! Pairs of pairs of texts as keys: sets of them -/
namespace CP
open PySem PySem.Spec PyProof.Rows L2
abbrev PP := (Str × Str) × (Str × Str)
def nk (p : PP) : NestedKey := .tup [.tup [.text p.1.1, .text p.1.2], .tup [.text p.2.1, .text p.2.2]]
theorem nk_inj {p q : PP} (h : nk p = nk q) : p = q := by
  obtain ⟨⟨a, b⟩, ⟨c, d⟩⟩ := p
  obtain ⟨⟨a', b'⟩, ⟨c', d'⟩⟩ := q
  simp only [nk, NestedKey.tup.injEq, List.cons.injEq, NestedKey.text.injEq, and_true] at h
  obtain ⟨⟨rfl, rfl⟩, rfl, rfl⟩ := h
  rfl
theorem nk_depth (p : PP) : (nk p).depth = 2 := by simp [nk, NestedKey.depth, NestedKey.depthAll]
section
variable {P : Program} {w : World}
def ClsAt (P : Program) (w : World) (n : Nat) (s : Shared) (v : Value) : Prop := ∀ (A : Around) (E : Value → Shared → Prop) (Q : Bool → Shared → Prop), Q false s → wpAny (model P w) A (ofAClassStatement n v) Q E s
def HbyAt (P : Program) (w : World) (n : Nat) (s : Shared) (v : Value) : Prop := ∀ (A : Around) (E : Value → Shared → Prop) (Q : Bool → Shared → Prop), (∀ b, Q b s) → wpAny (model P w) A (hashByValue n v) Q E s
theorem ClsAt.txt {n : Nat} {s : Shared} (x : Str) (u : Tok) : ClsAt P w n s (.str x u) := fun A E Q h => by rw [cls_txt]; exact wpAny_pure h
theorem HbyAt.txt {n : Nat} {s : Shared} (x : Str) (u : Tok) : HbyAt P w n s (.str x u) := fun A E Q h => by rw [hsh_txt]; exact wpAny_pure (h false)
theorem ClsAt.tup {n : Nat} {s : Shared} {b : Addr} {o : Obj} {vs : Array Value} {m : Nat} (ho : s.heap.get? b = some o) (hc : o.cls = .type "tuple") (hd : o.data = .seq vs m) (each : ∀ v ∈ vs.toList, ClsAt P w n s v) : ClsAt P w (n + 1) s (.ref b) := fun A E Q h => by
  have ty : s.TypeIs (.ref b) "tuple" := ⟨o, ho, hc⟩
  unfold ofAClassStatement
  refine wpAny_bind (wpAny_typeOf ty ?_); dsimp only
  have e : (("tuple" : String) == "tuple") = true := by decide
  simp only [e, if_true, Bool.not_true, Bool.false_eq_true, if_false]
  try refine wpAny_bind (wpAny_pure ?_)
  try simp only [Bool.not_true, Bool.false_eq_true, if_false]
  refine wpAny_bind (m := seqItems? (.ref b)) (wpAny_seqItems ho hd ?_); dsimp only
  refine wpAny_bind ?_; show wpAny _ _ (forIn vs _ _) _ _ s
  rw [← Array.forIn_toList]
  refine wpAny_forIn_list _ (fun rest r s' => r.1 = none ∧ s' = s ∧ ∀ v ∈ rest, ClsAt P w n s v) _ ?_ ?_ _ _ ⟨rfl, rfl, each⟩
  · rintro v rest r s' ⟨hr, rfl, all⟩
    refine wpAny_bind (all v List.mem_cons_self _ _ _ ?_); simp only [Bool.false_eq_true, if_false]
    exact wpAny_pure ⟨rfl, rfl, fun y hy => all y (List.mem_cons_of_mem _ hy)⟩
  · rintro ⟨r1, r2⟩ s' ⟨hr, rfl, _⟩
    simp only at hr; subst hr
    exact wpAny_pure h
theorem HbyAt.tup {n : Nat} {s : Shared} {b : Addr} {o : Obj} {vs : Array Value} {m : Nat} (ho : s.heap.get? b = some o) (hc : o.cls = .type "tuple") (hd : o.data = .seq vs m) (each : ∀ v ∈ vs.toList, HbyAt P w n s v) : HbyAt P w (n + 1) s (.ref b) := fun A E Q h => by
  have ty : s.TypeIs (.ref b) "tuple" := ⟨o, ho, hc⟩
  unfold hashByValue
  refine wpAny_bind (wpAny_specialOf ty PySem.F.slot_tuple_hash.lookup ?_)
  refine wpAny_bind (m := seqItems? (.ref b)) (wpAny_seqItems ho hd (wpAny_bind ?_)); show wpAny _ _ (forIn vs _ _) _ _ s
  rw [← Array.forIn_toList]
  refine wpAny_forIn_list _ (fun rest r s' => (r.1 = none ∨ r.1 = some false) ∧ s' = s ∧ ∀ v ∈ rest, HbyAt P w n s v) _ ?_ ?_ _ _ ⟨.inl rfl, rfl, each⟩
  · rintro v rest r s' ⟨hr, rfl, all⟩
    refine wpAny_bind (all v List.mem_cons_self _ _ _ fun c => ?_)
    cases c
    · simp only [Bool.not_false, if_true]
      exact wpAny_pure (wpAny_pure (h _))
    · simp only [Bool.not_true, Bool.false_eq_true, if_false]
      exact wpAny_pure ⟨.inl rfl, rfl, fun y hy => all y (List.mem_cons_of_mem _ hy)⟩
  · rintro ⟨r1, r2⟩ s' ⟨hr, rfl, _⟩
    simp only at hr
    rcases hr with rfl | rfl
    · exact wpAny_pure (h _)
    · exact wpAny_pure (h _)
abbrev PpAt (h : Heap) (k : PP) (b : Addr) : Prop := NestedIs h (nk k) (.ref b)
/-- what stands behind such a key -/
theorem pp_open {h : Heap} {k : PP} {b : Addr} (x : PpAt h k b) {T : Nat → Value → Prop} (text : ∀ n y u, T n (.str y u)) (tup : ∀ n a o vs m, h.get? a = some o → o.cls = .type "tuple" → o.data = .seq vs m → (∀ v ∈ vs.toList, T n v) → T (n + 1) (.ref a)) (n : Nat) : T (n + 1 + 1) (.ref b) := by
  have inner : ∀ {u v : Str} {z : Value}, NestedIs h (.tup [.text u, .text v]) z → T (n + 1) z := fun {u v z} q => by
    cases q with
    | tup h1 h2 h3 h4 =>
      refine tup n _ _ _ _ h1 h2 h3 fun y hy => ?_
      generalize hl : Array.toList _ = l at h4 hy
      cases h4 with
      | cons a1 a2 =>
        cases a2 with
        | cons b1 b2 =>
          cases b2
          cases a1; cases b1
          simp only [List.mem_cons, List.not_mem_nil, or_false] at hy
          rcases hy with rfl | rfl <;> exact text _ _ _
  cases x with
  | tup h1 h2 h3 h4 =>
    refine tup (n + 1) _ _ _ _ h1 h2 h3 fun y hy => ?_
    generalize hl : Array.toList _ = l at h4 hy
    cases h4 with
    | cons a1 a2 =>
      cases a2 with
      | cons b1 b2 =>
        cases b2
        simp only [List.mem_cons, List.not_mem_nil, or_false] at hy
        rcases hy with rfl | rfl
        · exact inner a1
        · exact inner b1
theorem pp_cls {s : Shared} {k : PP} {b : Addr} (x : PpAt s.heap k b) : ClsAt P w 8 s (.ref b) := pp_open x (T := fun n v => ClsAt P w n s v) (fun _ _ _ => .txt _ _) (fun _ _ _ _ _ h1 h2 h3 h4 => .tup h1 h2 h3 h4) 6
theorem pp_hby {s : Shared} {k : PP} {b : Addr} (x : PpAt s.heap k b) : HbyAt P w 8 s (.ref b) := pp_open x (T := fun n v => HbyAt P w n s v) (fun _ _ _ => .txt _ _) (fun _ _ _ _ _ h1 h2 h3 h4 => .tup h1 h2 h3 h4) 6
theorem pp_seen {A : Around} {E : Value → Shared → Prop} {s : Shared} {k : PP} {b : Addr} {Q : Bool → Shared → Prop} {ys : List Value} (hk : PpAt s.heap k b) (hy : ∀ y ∈ ys, ∃ z c, y = Value.ref c ∧ PpAt s.heap z c) (h : Q false s) : wpAny (model P w) A (searchCouldBeSeen (.ref b) ys) Q E s := by
  unfold searchCouldBeSeen
  refine wpAny_bind ?_
  refine wpAny_forIn_list _ (fun rest r s' => r.1 = none ∧ s' = s ∧ ∀ y ∈ rest, ∃ z c, y = Value.ref c ∧ PpAt s.heap z c) _ ?_ ?_ _ _ ⟨rfl, rfl, hy⟩
  · rintro v rest r s' ⟨hr, rfl, each⟩
    obtain ⟨z, c, rfl, hc⟩ := each v List.mem_cons_self
    have more : ∀ y ∈ rest, ∃ z c, y = Value.ref c ∧ PpAt s'.heap z c := fun y z => each y (List.mem_cons_of_mem _ z)
    dsimp only
    by_cases hv : (b == c || (carriedByValue (.ref b) && carriedByValue (.ref c))) = true
    · exact wp_if_pos hv (wpAny_pure ⟨rfl, rfl, more⟩)
    · refine wp_if_neg hv (wpAny_bind (quiet_key _ _ 8 s' hk (by rw [nk_depth]; omega) _ _ _ ?_)); simp only [Bool.not_true, Bool.false_eq_true, if_false]
      refine wpAny_bind (quiet_key _ _ 8 s' hc (by rw [nk_depth]; omega) _ _ _ ?_); simp only [Bool.not_true, Bool.false_eq_true, if_false]
      refine wpAny_bind (pp_cls hk _ _ _ ?_); simp only [Bool.false_eq_true, if_false]
      refine wpAny_bind (pp_cls hc _ _ _ ?_); simp only [Bool.false_eq_true, if_false]
      exact wpAny_pure ⟨rfl, rfl, more⟩
  · rintro ⟨r1, r2⟩ s' ⟨hr, rfl, _⟩
    simp only at hr; subst hr
    exact wpAny_pure h
end
/-- pairs as keys -/
def ppK (P : Program) (w : World) : KF P w PP where
  At := fun h k b => PpAt h k b
  hs := fun k => (nk k).hash w
  eqb := fun {A E s x y a b Q} hu hx hy h => (nestedKind P w).eqBool hu ⟨hx, by rw [nk_depth]; omega⟩ ⟨hy, by rw [nk_depth]; omega⟩ (by
    have e : decide (nk x = nk y) = decide (x = y) := decide_eq_decide.mpr ⟨nk_inj, fun z => by rw [z]⟩
    rw [e]; exact h)
  seen := fun hx hy h => pp_seen hx hy h
  hby := fun hx h => pp_hby hx _ _ _ h
  pyh := fun {A E s x b Q} hu hx h => pyHash_key _ _ _ _ _ hx (by rw [nk_depth]; omega) (h _)
  other := fun hb ho hd hs => NestedIs.at (fun c oc vs n hc hv => by
    refine (hs.2 c fun z => ?_).trans hc
    rw [z, ho] at hc; cases hc; rw [hd] at hv; cases hv) _ _ hb
  kept := fun hb hk => NestedIs.at (fun c oc vs n hc _ => hk c oc hc) _ _ hb
/-! ### over the layer -/
/-- at b a tuple of two edges worth k -/
def PpH (H : Hp) (b : Addr) (k : PP) : Prop := ∃ e f, H b = some (.tup [.ref e, .ref f]) ∧ H e = some (.tup [.str k.1.1, .str k.1.2]) ∧ H f = some (.tup [.str k.2.1, .str k.2.2])
theorem PpH.same {H H' : Hp} {b : Addr} {k : PP} (h : PpH H b k) (s : Same H H') : PpH H' b k := let ⟨e, f, x, y, z⟩ := h; ⟨e, f, s _ _ x, s _ _ y, s _ _ z⟩
/-- what is no tuple may change -/
theorem PpH.upd {H : Hp} {a b : Addr} {k : PP} {o o' : HO} (h : PpH H b k) (ha : H a = some o) (n : ∀ xs, o ≠ .tup xs) : PpH (L2.upd H a o') b k := by
  obtain ⟨e, f, x, y, z⟩ := h
  have ne : ∀ {c : Addr} {xs : List V}, H c = some (.tup xs) → c ≠ a := fun hc q => by rw [q, ha] at hc; exact n _ (Option.some.inj hc)
  exact ⟨e, f, by rw [upd_ne (ne x)]; exact x, by rw [upd_ne (ne y)]; exact y, by rw [upd_ne (ne z)]; exact z⟩
section
variable {X : Cx} {pins : List (Addr × Obj)} {σ : L2.St} {H : Hp} {s : Shared}
theorem edge_is {e : Addr} {u v : Str} (I : L2.Inv X pins σ H s) (h : H e = some (.tup [.str u, .str v])) : NestedIs s.heap (.tup [.text u, .text v]) (.ref e) := by
  obtain ⟨its, r, ⟨o, ho, hc, n, hd⟩, _⟩ := I.tuple (SqT.of h)
  obtain ⟨v1, v2, rfl, ⟨t1, rfl⟩, ⟨t2, rfl⟩⟩ := vals2 r
  exact .tup ho hc hd (.cons (.text _ _) (.cons (.text _ _) .nil))
theorem pp_is {b : Addr} {k : PP} (I : L2.Inv X pins σ H s) (h : PpH H b k) : PpAt s.heap k b := by
  obtain ⟨e, f, hb, he, hf⟩ := h
  obtain ⟨its, r, ⟨o, ho, hc, n, hd⟩, _⟩ := I.tuple (SqT.of hb)
  obtain ⟨v1, v2, rfl, r1, r2⟩ := vals2 r
  cases (show v1 = Value.ref e from r1)
  cases (show v2 = Value.ref f from r2)
  exact .tup ho hc hd (.cons (edge_is I he) (.cons (edge_is I hf) .nil))
/-- the set at a, but for the keys' own tuples -/
def SetIn (P : Program) (w : World) (a : Addr) (L : List (Addr × PP)) (h : Heap) : Prop :=
  ∃ es ep t, (∃ o, h.get? a = some o ∧ o.ExactSet ∧ o.data = .set es ep t) ∧ es.toList = rowsK (ppK P w) L ∧ TabG t (hsK (ppK P w) L) ∧ (L.map (·.2)).Nodup ∧ L.length * 5 < t.mask * 3 ∧ L.length < 250 ∧ (t.led = true ∨ w.params.followText "set-order" = true)
def SetN (P : Program) (w : World) (a : Addr) (L : List (Addr × PP)) : HO := .ext (SetIn P w a L)
theorem setN_ok {P : Program} {w : World} {H : Hp} {h : Heap} {a : Addr} {L : List (Addr × PP)} (R : SetIn P w a L h) : ObjOk P w H h a (SetN P w a L) := by
  have ⟨es, ep, t, ⟨o, ho, _⟩, _⟩ := R
  exact ⟨R, ⟨o, ho⟩, fun h1 h2 ⟨es', ep', t', ⟨o', ho', r'⟩, q'⟩ k => ⟨es', ep', t', ⟨o', k o' ho', r'⟩, q'⟩⟩
theorem SK.isIn {P : Program} {w : World} {h : Heap} {a : Addr} {L : List (Addr × PP)} {es : Array (Int × Value)} {ep : Nat} {t : SetTable} (R : SK (ppK P w) h a L es ep t) : SetIn P w a L h := ⟨es, ep, t, R.obj, R.row, R.tab, R.nod, R.roo, R.few, R.led⟩
theorem setN_get {a : Addr} {L : List (Addr × PP)} (I : L2.Inv X pins σ H s) (ha : H a = some (SetN X.prog X.w a L)) (hk : ∀ p ∈ L, PpH H p.1 p.2) : ∃ es ep t, SK (ppK X.prog X.w) s.heap a L es ep t := by
  obtain ⟨es, ep, t, h1, h2, h3, h4, h5, h6, h7⟩ := (I.hok a _ ha).1
  exact ⟨es, ep, t, h1, h2, h3, h4, fun p hp => pp_is I (hk p hp), h5, h6, h7⟩
/-- set() -/
def rSet0N (P : Program) (w : World) : List V → Hp → VK → Prop := fun xs H Q => xs = [] ∧ ∀ p, H p = none → Q (.ref p) (L2.upd H p (SetN P w p []))
theorem cr_set0N : CallR X (.type "set") (rSet0N X.prog X.w) := by
  intro pins s σ H xs us Q I r h
  obtain ⟨rfl, q⟩ := h
  cases r
  refine setR_new fun _ => ?_
  have new := SK.new (F := ppK X.prog X.w) (h := s.heap.push (newSet X.w)) (a := s.heap.objs.size) (Heap.get?_push_size _ rfl)
  exact ⟨.ref _, L2.upd H s.heap.objs.size (SetN X.prog X.w s.heap.objs.size []), I.laid (t' := s.toks) (fun b u e => Heap.get?_push_of_some _ e) (Nat.le_refl _) (setN_ok new.isIn), rfl, q _ (I.hok.fresh (Nat.le_refl _))⟩
/-- seen.add(pair) -/
def rSAddN (P : Program) (w : World) : V → List V → Hp → VK → Prop := fun x xs H Q => ∃ (a b : Addr) (k : PP) (L : List (Addr × PP)), x = V.ref a ∧ xs = [.ref b] ∧ H a = some (SetN P w a L) ∧ (∀ p ∈ L, PpH H p.1 p.2) ∧ PpH H b k ∧ L.length + 1 < 250 ∧
  ∀ L', (k ∈ L.map (·.2) → L' = L) → (k ∉ L.map (·.2) → L'.Perm ((b, k) :: L)) → Q .non (L2.upd H a (SetN P w a L'))
theorem mt_saddN (hu : X.A.units + 64 < cLine) : MtR X "set.add" (rSAddN X.prog X.w) := by
  intro pins s σ H x xs v us Q I rx rxs h
  obtain ⟨a, b, k, L, rfl, rfl, ha, hk, hb, few, q⟩ := h
  cases rx
  rw [Vals.ref1 rxs]
  obtain ⟨es, ep, t, R⟩ := setN_get I ha hk
  obtain ⟨o, ho, hex, hd⟩ := R.obj
  have ty : s.TypeIs (.ref a) "set" := ⟨o, ho, hex.1⟩
  refine wpAny_call_entry PySem.F.slot_set_add ty PySem.F.entry_set_add ?_ (PySem.F.args_set_add_2 _ _)
  unfold Builtin.«set.add» Builtin.Frozenset.oneOther
  simp only [List.isEmpty_nil, bind_assoc]
  unfold Builtin.Frozenset.addrOf setAdd
  refine wpAny_bind (wpAny_pure ?_)
  try dsimp only
  refine wpAny_bind (wpAny_pure ?_)
  try dsimp only
  refine wpAny_bind (wpAny_holding (wpAny_bind ((ppK X.prog X.w).pyh (by simp; omega) (pp_is I hb) fun tn => ?_)))
  refine put_in (s := { s with toks := s.toks + tn }) R (show (ppK X.prog X.w).At s.heap k b from pp_is I hb) (by simp; omega) few fun c h' L' es' ep' t' sb R' c1 c2 => ?_
  show wpAny _ _ (ret Value.none) _ _ _
  obtain ⟨o', ho', _⟩ := R'.obj
  exact wpAny_pure ⟨_, rfl, .non, L2.upd H a (SetN X.prog X.w a L'), I.write (e := a) (t' := s.toks + tn) (by rw [ha]; trivial) (.inl rfl) (fun b u hb hu => (sb.2 b hb).trans hu) ⟨o', ho'⟩ (setN_ok R'.isIn), rfl, q L' c1 c2⟩
/-- pair in seen -/
def rSInN (P : Program) (w : World) : V → V → Hp → VK → Prop := fun x y H Q => ∃ (b a : Addr) (k : PP) (L : List (Addr × PP)), x = .ref b ∧ y = V.ref a ∧ H a = some (SetN P w a L) ∧ (∀ p ∈ L, PpH H p.1 p.2) ∧ PpH H b k ∧ Q (.bl (decide (k ∈ L.map (·.2)))) H
theorem or_sinN (hu : X.A.units + 64 < cLine) : OpR X (compareOp .In) (rSInN X.prog X.w) := by
  intro pins s σ H x y v u Q I rx ry h
  obtain ⟨b, a, k, L, rfl, rfl, ha, hk, hb, q⟩ := h
  cases rx
  cases ry
  obtain ⟨es, ep, t, R⟩ := setN_get I ha hk
  obtain ⟨o, ho, hex, hd⟩ := R.obj
  have ty : s.TypeIs (.ref a) "set" := ⟨o, ho, hex.1⟩
  show wpAny _ _ (do return Value.bool (← contains (.ref a) (.ref b))) _ _ s
  refine wpAny_bind ?_
  unfold contains
  try with_reducible refine wpAny_holding ?_
  refine wpAny_bind (wpAny_specialOf ty PySem.F.slot_set_contains.lookup ?_)
  rw [if_neg (by rw [beq_builtin_none]; exact Bool.false_ne_true)]
  refine wpAny_bind (wpAny_callSpecialUnlessNone?_slot (name := Str.ofString "__contains__") ty PySem.F.slot_set_contains (wpAny_call_entry PySem.F.slot_set_contains ty PySem.entry_set_contains ?_ (PySem.F.args_set_contains_2 _ _)))
  unfold Builtin.«frozenset.__contains__» Builtin.Frozenset.oneOther
  simp only [List.isEmpty_nil, bind_assoc]
  unfold Builtin.Frozenset.addrOf Builtin.Frozenset.withSetAsKey setContains
  refine wpAny_bind (wpAny_pure ?_)
  try dsimp only
  refine wpAny_bind (wpAny_pure ?_)
  try dsimp only
  refine wpAny_bind (wpAny_tryCatch (wpAny_holding (wpAny_bind ((ppK X.prog X.w).pyh (by simp; omega) (pp_is I hb) fun tn => ?_))))
  refine wpAny_bind (find_in (s := { s with toks := s.toks + tn }) R (show (ppK X.prog X.w).At s.heap k b from pp_is I hb) (by simp; omega) fun r hr => wpAny_pure ?_)
  show wpAny _ _ (ret (Value.bool r.isSome)) _ _ _
  have hr2 : r.isSome = decide (k ∈ L.map (·.2)) := hr.trans (decide_eq_decide.mpr Iff.rfl)
  rw [hr2]
  exact wpAny_pure ⟨_, rfl, wpAny_truthy_bool (wpAny_pure ⟨.bl _, H, I.tok _, rfl, q⟩)⟩
end
end CP
namespace CP
open PySem PySem.Spec PyProof.Rows L2
section
variable {X : Cx} {o e : Expr} {es : List Expr} {to : TE} {t : TA} {apos cpos : Pos}
def tSAddN (P : Program) (w : World) (to : TE) (t : TA) : TE := fun σ H Q => to σ H fun x H1 => (∃ a L, x = V.ref a ∧ H1 a = some (SetN P w a L)) ∧ t σ H1 fun xs H2 => rSAddN P w x xs H2 Q
/-- seen.add(pair), as it is written -/
theorem pe_saddNN (hu : X.A.units + 64 < cLine) (ho : PE X o to) (ha : PA X (e :: es) t) (hbase : attributeBase o "add" X.env (eval o X.env) = eval o X.env := by rfl)
    (hfew : ((backTo cpos (starEach (e :: es) X.env)).all (fun x => !x.1) && (backToKw cpos (keywordEach [] X.env)).all (fun x => x.1.isSome) && decide ((e :: es).length + ([] : List Keyword).length + (if ([] : List Keyword).isEmpty then 0 else 1) < 30)) = true := by rfl)
    (hline : (apos.endLine == cpos.line) = true := by rfl) (hs : starEach (e :: es) X.env = (false, eval e X.env) :: starEach es X.env := by rfl) (hplain : (backTo cpos (starEach es X.env)).any (·.1) = false := by rfl) :
    PE X (.Call (.Attribute o "add" apos) (e :: es) [] cpos) (tSAddN X.prog X.w to t) := by
  refine ⟨fun pins s σ H Q I h => wpAny_Call_method_late hbase hfew hline rfl (thn (ho.run pins s σ H _ I h) fun v s1 ⟨x, H1, I1, r1, ⟨a, L, ex, hS⟩, q1⟩ => ?_)⟩
  subst ex
  cases r1
  obtain ⟨es', ep, tb, ⟨ob, h1, h2, h3⟩, _⟩ := (I1.hok a _ hS).1
  have nd : ∀ b, Value.ref a = .ref b → ∃ o', s1.heap.get? b = some o' ∧ o'.dict = none := fun b z => by cases z; exact ⟨ob, h1, h2.2.1⟩
  refine ⟨"set", "set.add", F.plainAttrs_set, F.slot_set_add, F.type_set_add, ⟨ob, h1, h2.1⟩, nd, ?_⟩
  have hA := ha.run cpos pins s1 σ H1 _ I1 q1
  rw [hs] at hA ⊢
  refine Calls.callWith_builtin (by show (false || (backTo cpos (starEach es X.env)).any (·.1)) = false; rw [hplain]; rfl) (Calls.evalArgs_plain (thn hA fun us s2 ⟨vs, H2, I2, r2, q2⟩ => ?_))
  exact mt_saddN hu pins s2 σ H2 (.ref a) vs (.ref a) us Q I2 rfl r2 q2
end
end CP
/-! Dicts whose keys are pairs of pairs of texts -/
namespace CP
open PySem PySem.Spec PyProof.Rows L2
/-! ### the content: keys, the places of the keys' tuples, values -/
abbrev Cn := List (PP × Addr × V)
def valN (xs : Cn) (k : PP) : Option V := (xs.find? fun x => decide (x.1 = k)).map (·.2.2)
def putN (xs : Cn) (k : PP) (b : Addr) (v : V) : Cn := if (valN xs k).isSome = true then xs.map (fun x => if x.1 = k then (x.1, x.2.1, v) else x) else xs ++ [(k, b, v)]
def LikeN (x : PP × Addr × V) (u : NestedKey × Addr × Value) : Prop := u.1 = nk x.1 ∧ u.2.1 = x.2.1 ∧ RelV x.2.2 u.2.2
theorem valN_cons (x : PP × Addr × V) (xs : Cn) (k : PP) : valN (x :: xs) k = if x.1 = k then some x.2.2 else valN xs k := by
  unfold valN
  by_cases c : x.1 = k <;> simp [List.find?_cons, c]
theorem atKey_cons (u : NestedKey × Addr × Value) (us : List (NestedKey × Addr × Value)) (k : NestedKey) : atKey (u :: us) k = if u.1 = k then some u.2 else atKey us k := by
  unfold atKey
  by_cases c : u.1 = k <;> simp [List.find?_cons, c]
theorem like_at {k : PP} : ∀ {xs : Cn} {us : List (NestedKey × Addr × Value)}, Paired LikeN xs us → (valN xs k = none ∧ atKey us (nk k) = none) ∨ ∃ v p, valN xs k = some v ∧ atKey us (nk k) = some p ∧ RelV v p.2
  | _, _, .nil => .inl ⟨rfl, rfl⟩
  | _, _, .cons (a := x) (b := u) h t => by
    rw [valN_cons, atKey_cons]
    by_cases c : x.1 = k
    · rw [if_pos c, if_pos (by rw [h.1, c])]
      exact .inr ⟨_, _, rfl, rfl, h.2.2⟩
    · rw [if_neg c, if_neg (fun z => c (nk_inj (h.1.symm.trans z)))]
      exact like_at t
theorem like_map {k : PP} {v : V} {u : Value} (rv : RelV v u) : ∀ {xs : Cn} {us : List (NestedKey × Addr × Value)}, Paired LikeN xs us → Paired LikeN (xs.map fun x => if x.1 = k then (x.1, x.2.1, v) else x) (us.map (putAt (nk k) u))
  | _, _, .nil => .nil
  | _, _, .cons (a := x) (b := y) h t => by
    refine .cons ?_ (like_map rv t)
    show LikeN (if x.1 = k then (x.1, x.2.1, v) else x) (if y.1 = nk k then (y.1, y.2.1, u) else y)
    by_cases c : x.1 = k
    · rw [if_pos c, if_pos (by rw [h.1, c])]; exact ⟨h.1, h.2.1, rv⟩
    · rw [if_neg c, if_neg (fun z => c (nk_inj (h.1.symm.trans z)))]; exact h
theorem like_put {k : PP} {b : Addr} {v : V} {u : Value} (rv : RelV v u) {xs : Cn} {us : List (NestedKey × Addr × Value)} (h : Paired LikeN xs us) : Paired LikeN (putN xs k b v) (storedH us (nk k) b u) := by
  unfold putN
  rcases like_at (k := k) h with ⟨e1, e2⟩ | ⟨v0, p, e1, e2, _⟩
  · rw [e1, storedH_new e2, if_neg (by decide)]
    exact h.snoc ⟨rfl, rfl, rv⟩
  · rw [e1, storedH_old e2, if_pos (by rfl)]
    exact like_map rv h
theorem valN_map (k j : PP) (v : V) : ∀ xs : Cn, valN (xs.map fun x => if x.1 = k then (x.1, x.2.1, v) else x) j = if j = k then (valN xs k).map (fun _ => v) else valN xs j
  | [] => by by_cases c : j = k <;> simp [valN, c]
  | x :: xs => by
    rw [List.map_cons, valN_cons, valN_map k j v xs, valN_cons, valN_cons]
    by_cases c : x.1 = k
    · by_cases d : j = k
      · subst d; simp [c]
      · have : ¬ k = j := fun z => d z.symm
        simp [c, d, this]
    · by_cases d : j = k
      · subst d; simp [c]
      · simp [c, d]
theorem valN_snoc (k j : PP) (b : Addr) (v : V) : ∀ xs : Cn, valN xs k = none → valN (xs ++ [(k, b, v)]) j = if j = k then some v else valN xs j
  | [], _ => by
    show valN [(k, b, v)] j = _
    rw [valN_cons]
    by_cases c : j = k
    · subst c; simp
    · have : ¬ k = j := fun z => c z.symm
      simp [this, c]
  | x :: xs, h => by
    rw [valN_cons] at h
    by_cases c : x.1 = k
    · rw [if_pos c] at h; cases h
    · rw [if_neg c] at h
      rw [List.cons_append, valN_cons, valN_snoc k j b v xs h, valN_cons]
      by_cases d : j = k
      · subst d; simp [c]
      · simp [d]
theorem valN_put (xs : Cn) (k j : PP) (b : Addr) (v : V) : valN (putN xs k b v) j = if j = k then some v else valN xs j := by
  unfold putN
  cases e : valN xs k with
  | none => rw [if_neg (by decide)]; exact valN_snoc k j b v xs e
  | some v0 => rw [if_pos (by rfl), valN_map, e]; rfl
theorem putN_len (xs : Cn) (k : PP) (b : Addr) (v : V) : (putN xs k b v).length ≤ xs.length + 1 := by
  unfold putN; split
  · rw [List.length_map]; omega
  · rw [List.length_append]; simp
theorem putN_old {xs : Cn} {k : PP} (h : (valN xs k).isSome = true) (b : Addr) (v : V) : (putN xs k b v).length = xs.length := by
  unfold putN; rw [if_pos h, List.length_map]
theorem putN_mem {xs : Cn} {k : PP} {b : Addr} {v : V} {x : PP × Addr × V} (h : x ∈ putN xs k b v) : (x.1 = k ∧ x.2.1 = b) ∨ ∃ y ∈ xs, x.1 = y.1 ∧ x.2.1 = y.2.1 := by
  unfold putN at h; split at h
  · obtain ⟨y, hy, rfl⟩ := List.mem_map.mp h
    refine .inr ⟨y, hy, ?_⟩
    split <;> exact ⟨rfl, rfl⟩
  · rcases List.mem_append.mp h with h | h
    · exact .inr ⟨x, h, rfl, rfl⟩
    · rw [List.mem_singleton.mp h]; exact .inl ⟨rfl, rfl⟩
/-- the dict at a, but for the keys' own tuples -/
def DctIn (P : Program) (w : World) (a : Addr) (xs : Cn) (h : Heap) : Prop :=
  ∃ o es ep us, h.get? a = some o ∧ o.ExactDict ∧ o.data = .dict es ep ∧ es.toList = us.map (entryOfKey (nestedKind P w)) ∧ (us.map (·.1)).Nodup ∧ Paired LikeN xs us
def DctN (P : Program) (w : World) (a : Addr) (xs : Cn) : HO := .ext (DctIn P w a xs)
theorem dctN_ok {P : Program} {w : World} {H : Hp} {h : Heap} {a : Addr} {xs : Cn} (R : DctIn P w a xs h) : ObjOk P w H h a (DctN P w a xs) := by
  have ⟨o, es, ep, us, ho, _⟩ := R
  exact ⟨R, ⟨o, ho⟩, fun h1 h2 ⟨o', es', ep', us', ho', r⟩ k => ⟨o', es', ep', us', k o' ho', r⟩⟩
theorem dctN_new (P : Program) (w : World) (h : Heap) : DctIn P w h.objs.size [] (h.push { cls := .type "dict", data := .dict #[] }) :=
  ⟨_, #[], 0, [], Heap.get?_push_size _ rfl, ⟨rfl, rfl, rfl⟩, rfl, rfl, List.nodup_nil, .nil⟩
/-- at d a dict that answers g, of at most n keys -/
def DN (P : Program) (w : World) (H : Hp) (d : Addr) (g : PP → Option V) (n : Nat) : Prop := ∃ xs, H d = some (DctN P w d xs) ∧ (∀ x ∈ xs, PpH H x.2.1 x.1) ∧ (∀ k, valN xs k = g k) ∧ xs.length ≤ n
theorem DN.same {P : Program} {w : World} {H H' : Hp} {d : Addr} {g : PP → Option V} {n : Nat} (h : DN P w H d g n) (s : Same H H') : DN P w H' d g n := by
  obtain ⟨xs, a, b, c, e⟩ := h
  exact ⟨xs, s _ _ a, fun x hx => (b x hx).same s, c, e⟩
theorem DN.new {P : Program} {w : World} {H : Hp} {d : Addr} : DN P w (L2.upd H d (DctN P w d [])) d (fun _ => none) 0 := ⟨[], upd_same, (fun _ z => nomatch z), fun _ => rfl, Nat.le_refl _⟩
theorem no_tup {f : Heap → Prop} : ∀ xs : List V, (HO.ext f) ≠ .tup xs := fun xs z => by cases z
theorem PpH.new {H : Hp} {d b : Addr} {k : PP} {o : HO} (h : PpH H b k) (hd : H d = none) : PpH (L2.upd H d o) b k := h.same fun c u e => by rw [upd_ne (ne_of_none e hd)]; exact e
section
variable {X : Cx} {pins : List (Addr × Obj)} {σ : L2.St} {H : Hp} {s : Shared}
theorem dctN_get {d : Addr} {xs : Cn} (I : L2.Inv X pins σ H s) (hd : H d = some (DctN X.prog X.w d xs)) (hk : ∀ x ∈ xs, PpH H x.2.1 x.1) : ∃ us, s.heap.DictOfH (nestedKind X.prog X.w) d us ∧ Paired LikeN xs us ∧ us.length = xs.length := by
  obtain ⟨o, es, ep, us, h1, h2, h3, h4, h5, h6⟩ := (I.hok d _ hd).1
  have all : ∀ {xs : Cn} {us : List (NestedKey × Addr × Value)}, Paired LikeN xs us → (∀ x ∈ xs, PpH H x.2.1 x.1) → ∀ u ∈ us, (nestedKind X.prog X.w).is s.heap u.1 u.2.1 := by
    intro xs us p
    induction p with
    | nil => intro _ u hu; cases hu
    | @cons x u xs us l _ ih =>
      intro h y hy
      rcases List.mem_cons.mp hy with rfl | hy
      · have q := pp_is I (h x List.mem_cons_self)
        rw [l.1, l.2.1]
        exact ⟨q, by rw [nk_depth]; omega⟩
      · exact ih (fun z hz => h z (List.mem_cons_of_mem _ hz)) y hy
  exact ⟨us, ⟨o, es, ep, h1, h2, h3, h4, all h6 hk, h5⟩, h6, (Paired.length h6).symm⟩
/-- d[k] -/
def rGetN (P : Program) (w : World) : R2 := fun x y H Q => ∃ (d b : Addr) (k : PP) (g : PP → Option V) (n : Nat) (v : V), x = .ref d ∧ y = .ref b ∧ DN P w H d g n ∧ PpH H b k ∧ g k = some v ∧ Q v H
def tGetN (P : Program) (w : World) (td ty : TE) : TE := fun σ H Q => td σ H fun x H1 => ty σ H1 fun y H2 => rGetN P w x y H2 Q
theorem pe_getN {o i : Expr} {td ty : TE} {pos : Pos} (hu : X.A.units + 64 < cLine) (ho : PE X o td) (hi : PE X i ty) (hs : NoSl i) : PE X (.Subscript o i pos) (tGetN X.prog X.w td ty) := by
  refine ⟨fun pins s σ H Q I h => ?_⟩
  refine subD_of PySem.F.slot_dict_getitem.lookup hs (thn (ho.run pins s σ H _ I h) fun u s1 ⟨x, H1, I1, rx, q1⟩ => thn (hi.run pins s1 σ H1 _ I1 q1) fun iv s2 ⟨y, H2, I2, ry, d, b, k, g, n, v, ex, ey, ⟨xs, h1, h2, h3, h4⟩, hb, hg, q⟩ => ?_)
  subst ex ey
  cases rx
  cases ry
  obtain ⟨us, D, l, _⟩ := dctN_get I2 h1 h2
  refine ⟨D.typeIs, ?_⟩
  rcases like_at (k := k) l with ⟨e1, _⟩ | ⟨v0, p, e1, e2, rv⟩
  · rw [h3 k, hg] at e1; cases e1
  · rw [h3 k, hg] at e1
    obtain rfl : v = v0 := Option.some.inj e1
    refine wpAny_getItem_heap (knd := nestedKind X.prog X.w) (by show _ + 8 < cLine; simp; omega) ⟨pp_is I2 hb, by rw [nk_depth]; omega⟩ D e2 ?_
    exact ⟨v, H2, I2.tok _, rv, q⟩
/-- d[k] = v -/
def rPutN (P : Program) (w : World) : TSet := fun o i v H Q => ∃ (d b : Addr) (k : PP) (g : PP → Option V) (n : Nat), o = .ref d ∧ i = .ref b ∧ DN P w H d g n ∧ PpH H b k ∧ n ≤ 1000 ∧
  ∀ u, DN P w (L2.upd H d u) d (fun j => if j = k then some v else g j) (if (g k).isSome = true then n else n + 1) → (∀ c x, PpH H c x → PpH (L2.upd H d u) c x) → Q (L2.upd H d u)
theorem DN.put {P : Program} {w : World} {d b : Addr} {k : PP} {g : PP → Option V} {n : Nat} {v : V} {xs : Cn} (h1 : H d = some (DctN P w d xs)) (h2 : ∀ x ∈ xs, PpH H x.2.1 x.1) (h3 : ∀ k, valN xs k = g k) (h4 : xs.length ≤ n) (hb : PpH H b k) :
    DN P w (L2.upd H d (DctN P w d (putN xs k b v))) d (fun j => if j = k then some v else g j) (if (g k).isSome = true then n else n + 1) := by
  refine ⟨_, upd_same, fun x hx => ?_, fun j => by rw [valN_put, h3], ?_⟩
  · rcases putN_mem hx with ⟨e1, e2⟩ | ⟨y, hy, e1, e2⟩
    · rw [e1, e2]; exact hb.upd h1 no_tup
    · rw [e1, e2]; exact (h2 y hy).upd h1 no_tup
  · by_cases c : (g k).isSome = true
    · rw [if_pos c, putN_old (by rw [h3]; exact c)]; exact h4
    · rw [if_neg c]; exact Nat.le_trans (putN_len _ _ _ _) (by omega)
theorem set_dictN (hu : X.A.units + 64 < cLine) : PSet X (rPutN X.prog X.w) := by
  intro pins s σ H o i v ov iv u Q I ro ri rv h
  obtain ⟨d, b, k, g, n, rfl, rfl, ⟨xs, h1, h2, h3, h4⟩, hb, few, q⟩ := h
  cases ro
  cases ri
  obtain ⟨us, D, l, le⟩ := dctN_get I h1 h2
  refine wpAny_setItem_heap (knd := nestedKind X.prog X.w) (hsz := by rw [le, sizeLine_eq]; omega) (by show _ + 8 < cLine; simp; omega) ⟨pp_is I hb, by rw [nk_depth]; omega⟩ D fun h' D' sb => ?_
  obtain ⟨o', es', ep', g1, g2, g3, g4, _, g6⟩ := D'
  have R : DctIn X.prog X.w d (putN xs k b v) h' := ⟨o', es', ep', _, g1, g2, g3, g4, g6, like_put rv l⟩
  exact ⟨_, I.write (e := d) (t' := s.toks + (nestedKind X.prog X.w).draws (nk k)) (by rw [h1]; trivial) (.inl rfl) (fun c u hc hu => (sb.2 c hc).trans hu) ⟨o', g1⟩ (dctN_ok R), q _ (DN.put h1 h2 h3 h4 hb) fun c x p => p.upd h1 no_tup⟩
end
end CP
/-! Dict comprehensions whose keys are pairs of pairs of texts -/
namespace CP
open PySem PySem.Spec PyProof.Rows L2
/-- D[k] = v by the comprehension -/
def sPutN (P : Program) (w : World) (D : Addr) (y z : V) (H : Hp) (Nx : Hp → Prop) : Prop := ∃ (b : Addr) (k : PP) (g : PP → Option V) (n : Nat), y = .ref b ∧ DN P w H D g n ∧ PpH H b k ∧ n ≤ 1000 ∧
  ∀ u, DN P w (L2.upd H D u) D (fun j => if j = k then some z else g j) (if (g k).isSome = true then n else n + 1) → (∀ c x, PpH H c x → PpH (L2.upd H D u) c x) → Nx (L2.upd H D u)
def tDcN (P : Program) (w : World) (wi : TI) (g : TG) (tt : TT) (tk tv : TE) (vs : List Nat) : TE := fun σ H Q => wi σ H fun J H1 => ∀ D, H1 D = none → ∃ W : Nat → Nat → Hp → Prop, (∃ m, W 0 m (L2.upd H1 D (DctN P w D []))) ∧ ∀ i m H, W i m H →
  (J.stop i H ∧ Q (.ref D) H) ∨ (J.go i H ∧ ∃ Nx : Hp → Prop, (∀ H', Nx H' → ∃ m', m' < m ∧ W (i + 1) m' H') ∧ ∀ x H', J.yld i H x H' → g x (wipe σ vs) H' fun σ2 H2 => wipe σ2 vs = wipe σ vs ∧ tt σ2 H2 fun b H3 =>
    if b = true then tk σ2 H3 fun y H4 => tv σ2 H4 fun z H5 => sPutN P w D y z H5 Nx else Nx H3)
section
variable {X : Cx}
theorem dictSet_N {pins : List (Addr × Obj)} {σ : L2.St} {H : Hp} {s : Shared} {E : Value → Shared → Prop} {D : Addr} {y z : V} {uy uz : Value} {Nx : Hp → Prop} {Q : Unit → Shared → Prop} (room : X.A.units + 64 < cLine) (V0 : L2.Inv X pins σ H s) (ry : RelV y uy) (rz : RelV z uz) (h : sPutN X.prog X.w D y z H Nx)
    (fin : ∀ s' H', L2.Inv X pins σ H' s' → Nx H' → Q () s') : wpAny (model X.prog X.w) X.A (dictSet D uy uz) Q E s := by
  obtain ⟨b, k, g, n, rfl, ⟨xs, h1, h2, h3, h4⟩, hb, few, q⟩ := h
  cases ry
  obtain ⟨us, M, l, le⟩ := dctN_get V0 h1 h2
  refine wpAny_dictSet_heap (knd := nestedKind X.prog X.w) (hsz := by rw [le, sizeLine_eq]; omega) (by show _ + 8 < cLine; omega) ⟨pp_is V0 hb, by rw [nk_depth]; omega⟩ M fun h' M' sb => ?_
  obtain ⟨o', es', ep', g1, g2, g3, g4, _, g6⟩ := M'
  have R : DctIn X.prog X.w D (putN xs k b z) h' := ⟨o', es', ep', _, g1, g2, g3, g4, g6, like_put rz l⟩
  refine fin _ _ (V0.write (e := D) (t' := s.toks + (nestedKind X.prog X.w).draws (nk k)) (by rw [h1]; trivial) (.inl rfl) (fun c u hc hu => (sb.2 c hc).trans hu) ⟨o', g1⟩ (dctN_ok R)) ?_
  exact q _ (DN.put h1 h2 h3 h4 hb) fun c x p => p.upd h1 no_tup
theorem pe_dcN {kx vx tg iter : Expr} {ifs : List Expr} {scope : Scope} {own : List (Str × Nat)} {pos : Pos} {wi : TI} {g : TG} {tt : TT} {tk tv : TE} (calm : X.calm = true) (once : X.N.Nodup) (room : X.A.units + 64 < cLine) (ri : PI X tg iter wi) (blk : BlkOk X.N X.env.scope scope own)
    (rg : ∀ s H C cl fp, PG (X.blk s H scope (compEnvC scope cl C X.env) fp) tg g) (rt : ∀ s H C cl fp, PTs (X.blk s H scope (compEnvC scope cl C X.env) fp) ifs tt)
    (rk : ∀ s H C cl fp, PE (X.blk s H scope (compEnvC scope cl C X.env) fp) kx tk) (rv : ∀ s H C cl fp, PE (X.blk s H scope (compEnvC scope cl C X.env) fp) vx tv) (plain : ∀ x, foldedSetIterable iter X.env x = pure x := by intro _; rfl) :
    PE X (.DictComp kx vx [⟨tg, iter, ifs, 0⟩] scope pos) (tDcN X.prog X.w wi g tt tk tv (own.map (·.2))) := by
  refine ⟨fun pins s σ H Q V0 want => ?_⟩
  rw [arm_eval_DictComp]
  have cells : ∀ y ∈ scope.names, y.2 = .free → ∃ c, X.env.cells.lookup y.1 = some c := fun y hy e => (blk.free y hy e).elim (fun q => V0.ok.has _ (.inl q)) fun q => V0.ok.has _ (.inr q)
  refine wpAny_comprehension_free rfl plain (closure_ok cells) blk.kind (fun y hy e => by rw [blk.uniq y hy, e]) (thn (ri.run pins s σ H _ V0 want) fun xv s1 hx => thn hx fun itv s2 ⟨it, fp, tn, J, H2, e, V2, T, w2, p2, q⟩ => ?_)
  subst e
  refine wpAny_newObj_type (newEnv_comp ?_)
  have big := V2.big
  -- the new dict at D, and the block's own names behind it
  generalize eD : s2.heap.objs.size = D
  have nD : H2 D = none := V2.hok.fresh (Nat.le_of_eq eD)
  obtain ⟨W, ⟨m0, w0⟩, turn⟩ := q D nD
  generalize e3 : ({ s2 with heap := s2.heap.push { cls := .type "dict", data := .dict #[] } } : Shared) = s3
  have hp3 : s3.heap = s2.heap.push { cls := .type "dict", data := .dict #[] } := by rw [← e3]
  have V3 : L2.Inv X pins σ (L2.upd H2 D (DctN X.prog X.w D [])) s3 := by
    subst e3
    refine V2.laid (t' := s2.toks) (fun b o e => Heap.get?_push_of_some _ e) (Nat.le_of_eq eD) ?_
    subst eD
    exact dctN_ok (dctN_new X.prog X.w s2.heap)
  have old : ∀ b ∈ fp, b < s2.heap.objs.size := fun b hb => let ⟨_, e, _⟩ := T.obj _ _ w2 b hb; Heap.lt_size e
  have p3 : ∀ b ∈ fp, FpOk X pins (L2.upd H2 D (DctN X.prog X.w D [])) b ∧ b < s3.heap.objs.size := fun b hb => by
    have lt := old b hb
    refine ⟨⟨by rw [upd_ne (by rw [← eD]; exact Nat.ne_of_lt lt)]; exact (p2 b hb).1, (p2 b hb).2⟩, ?_⟩
    rw [hp3, Heap.size_push]; exact Nat.lt_succ_of_lt lt
  have w3 : tn 0 s3.heap := T.keep _ _ _ w2 fun b _ o e => hp3 ▸ Heap.get?_push_of_some _ e
  have V4 := block_start V3 blk once p3
  have free3 : ∀ b ∈ fp, (L2.upd H2 D (DctN X.prog X.w D [])) b = none := fun b hb => (p3 b hb).1.1
  generalize hcl : cellsFrom (s3.heap.objs.size + 1) scope.names (cloFrom X.env.cells scope.names []) = cl at V4
  have rg := rg s3 (L2.upd H2 D (DctN X.prog X.w D [])) s3.heap.objs.size cl fp
  have rt := rt s3 (L2.upd H2 D (DctN X.prog X.w D [])) s3.heap.objs.size cl fp
  have rk := rk s3 (L2.upd H2 D (DctN X.prog X.w D [])) s3.heap.objs.size cl fp
  have rv := rv s3 (L2.upd H2 D (DctN X.prog X.w D [])) s3.heap.objs.size cl fp
  show codeAny _ _ (.compStart _ 0 (.ref it) (.ref D) (compEnvC scope cl s3.heap.objs.size X.env)) _ { s3 with heap := pushCells (s3.heap.push { cls := .type "dict", data := .dict #[] }) scope.names }
  generalize hce : compEnvC scope cl s3.heap.objs.size X.env = ce at V4 rg rt rk rv ⊢
  have loc : ce.locals = s3.heap.objs.size := by subst hce; rfl
  generalize L2.upd H2 D (DctN X.prog X.w D []) = H3 at V3 V4 rg rt rk rv w0 free3 p3
  generalize e4 : ({ s3 with heap := pushCells (s3.heap.push { cls := .type "dict", data := .dict #[] }) scope.names } : Shared) = s4 at V4 ⊢
  have w4 : tn 0 s4.heap := T.keep _ _ _ w3 fun b _ o e => by subst e4; exact pushCells_keeps _ _ _ _ (Heap.get?_push_of_some _ e)
  have aside : ∀ {σ' : L2.St} {H' : Hp} {s' : Shared}, L2.Inv (X.blk s3 H3 scope ce fp) [] σ' H' s' → (∀ b ∈ fp, H' b = none) → ∀ b ∈ fp, FpOk (X.blk s3 H3 scope ce fp) [] H' b := fun V' nn b hb =>
    ⟨nn b hb, (V'.ok.exf b hb).1, V'.ok.exfs b hb, .inl hb, fun x c e => (V'.ok.exf b hb).2 x c e, fun p hp => absurd hp (by simp)⟩
  have loop : codeAny (model X.prog X.w) X.A (.compLoop (.DictComp kx vx [⟨tg, iter, ifs, 0⟩] scope pos) 0 (.ref it) (.ref D) ce) (compPost (model X.prog X.w) X.A X.xe none (EP X pins σ Q) (.ref D) s3.heap.objs.size) s4 := by
    refine compLoop_anyD (fun n s' => ∃ i H', L2.Inv (X.blk s3 H3 scope ce fp) [] (wipe σ (own.map (·.2))) H' s' ∧ tn i s'.heap ∧ (∀ b ∈ fp, H' b = none) ∧ W i n H') ?_ m0 ⟨0, H3, V4, w4, free3, w0⟩
    rintro n s5 ⟨i, H5, V5, w5, n5, u5⟩
    rcases turn i n H5 u5 with ⟨halt, got⟩ | ⟨go, Nx, down, step⟩
    · refine thnF (T.done (X.blk s3 H3 scope ce fp) rfl rfl rfl calm i [] s5 _ H5 (fun _ _ => False) V5 (aside V5 n5) w5 halt) fun r s6 ⟨er, V6⟩ => ?_
      subst er
      -- back among the def's own names
      have V7 : L2.Inv X pins σ H5 s6 := V3.call' (ch := fp) V6.os V6.base V6.hok V6.bare fun b hb => let z := (p3 b hb).1.2; ⟨z.2.2.1, z.1, z.2.2.2.1, z.2.2.2.2⟩
      have nC : H5 s3.heap.objs.size = none := loc ▸ V6.free
      obtain ⟨m, ns, _⟩ := V6.loc
      have ns : s6.heap.Ns s3.heap.objs.size m := loc ▸ ns
      obtain ⟨f0, f1, f2, f3, f4, f5⟩ := V3.fpOk (Nat.le_refl _) nC
      exact ⟨m, ns, fun h2 sb => ⟨.ref D, H5, V7.turned (t' := s6.toks) (fun b o hb e => (sb.2 b hb).trans e) f0 f1 f3 f4 f5, rfl, got⟩⟩
    · refine thnF (T.item (X.blk s3 H3 scope ce fp) rfl rfl rfl calm i [] s5 _ H5 (fun _ _ => False) V5 (aside V5 n5) w5 go) fun r s6 ⟨u, er, h6⟩ => ?_
      subst er
      refine thnF h6 fun _ s7 ⟨x, H7, V7, r7, y7, w7, n7⟩ => ?_
      have P7 := V7.pinned (aside V7 n7) (T.obj _ _ w7)
      refine thnF (rg.run _ s7 _ H7 x u _ P7 r7 (step x H7 y7)) fun _ s8 ⟨σ8, H8, V8, same8, q8⟩ => ?_
      refine thnF (rt.run _ s8 σ8 H8 _ V8 q8) fun b s9 ⟨H9, V9, q9⟩ => ?_
      have next : ∀ {s' : Shared} {H' : Hp}, L2.Inv (X.blk s3 H3 scope ce fp) ([] ++ pinsAt fp s7.heap) σ8 H' s' → Nx H' → ∃ m, m < n ∧ ∃ i H', L2.Inv (X.blk s3 H3 scope ce fp) [] (wipe σ (own.map (·.2))) H' s' ∧ tn i s'.heap ∧ (∀ b ∈ fp, H' b = none) ∧ W i m H' := fun {s' H'} V' nx => by
        obtain ⟨m', lt, u'⟩ := down H' nx
        have fixed : ∀ b ∈ fp, ∀ o, s7.heap.get? b = some o → s'.heap.get? b = some o ∧ H' b = none := fun b hb o e =>
          let z := V'.pin (b, o) (List.mem_append_right _ (List.mem_append_right _ (mem_pinsAt hb e))); ⟨z.1, z.2.1⟩
        refine ⟨m', lt, i + 1, H', (V'.unpinned (pins := [])).weak (by rw [← same8, wipe_length]) (fun j v e => (wipe_some (same8 ▸ e)).1), T.keep _ _ _ w7 fun b hb o e => (fixed b hb o e).1, fun b hb => ?_, u'⟩
        obtain ⟨o, e, _⟩ := T.obj _ _ w7 b hb
        exact (fixed b hb o e).2
      cases b with
      | false =>
        simp only [Bool.false_eq_true, if_false] at q9 ⊢
        exact next V9 q9
      | true =>
        simp only [if_true] at q9 ⊢
        refine thnF (rk.run _ s9 σ8 H9 _ V9 q9) fun z1 s10 ⟨yk, H10, V10, r10, q10⟩ => thnF (rv.run _ s10 σ8 H10 _ V10 q10) fun z2 s11 ⟨yv, H11, V11, r11, q11⟩ => ?_
        exact dictSet_N (X := X.blk s3 H3 scope ce fp) room V11 r10 r11 q11 fun s12 H12 V12 nx => next V12 nx
  exact codeAny_compStart_dict loop (T.self X.A 0 _ _ _ w4 loop)
/-- over any walk -/
theorem dcN_it {P : Program} {w : World} {J : It} {n : Nat} {G : Hp → Prop} {Y : Nat → Hp → V → Hp → Prop} (wk : Walk J n G Y) {g : TG} {tt : TT} {tk tv : TE} {vs : List Nat} {σ : L2.St} {H1 : Hp} {D : Addr} {Qd : Hp → Prop} (Pv : Nat → Hp → Prop) (h0 : Pv 0 (L2.upd H1 D (DctN P w D []))) (hG : ∀ i H, i ≤ n → Pv i H → G H)
    (hs : ∀ i x H H', i < n → Pv i H → Y i H x H' → g x (wipe σ vs) H' fun σ2 H2 => wipe σ2 vs = wipe σ vs ∧ tt σ2 H2 fun b H3 => if b = true then tk σ2 H3 fun y H4 => tv σ2 H4 fun z H5 => sPutN P w D y z H5 (Pv (i + 1)) else Pv (i + 1) H3) (hd : ∀ H, Pv n H → Qd H) :
    ∃ W : Nat → Nat → Hp → Prop, (∃ m, W 0 m (L2.upd H1 D (DctN P w D []))) ∧ ∀ i m H, W i m H →
      (J.stop i H ∧ Qd H) ∨ (J.go i H ∧ ∃ Nx : Hp → Prop, (∀ H', Nx H' → ∃ m', m' < m ∧ W (i + 1) m' H') ∧ ∀ x H', J.yld i H x H' → g x (wipe σ vs) H' fun σ2 H2 => wipe σ2 vs = wipe σ vs ∧ tt σ2 H2 fun b H3 =>
        if b = true then tk σ2 H3 fun y H4 => tv σ2 H4 fun z H5 => sPutN P w D y z H5 Nx else Nx H3) := by
  refine ⟨fun i m H => m = n - i ∧ i ≤ n ∧ Pv i H, ⟨n, by simp, Nat.zero_le _, h0⟩, fun i m H ⟨em, hi, p⟩ => ?_⟩
  by_cases lt : i < n
  · exact .inr ⟨wk.goes i H lt (hG i H hi p), Pv (i + 1), fun H' p' => ⟨n - (i + 1), by omega, rfl, lt, p'⟩, fun x H' y => hs i x H H' lt p (wk.yields i H x H' lt (hG i H hi p) y)⟩
  · obtain rfl : i = n := by omega
    exact .inl ⟨wk.stops H (hG _ H hi p), hd H p⟩
end
end CP
/-! the rules of CpPairK, CpDict, CpDictC with the program and the world named outright -/
namespace CP
open PySem PySem.Spec PyProof.Rows L2
section
variable {X : Cx} (P : Program) (w : World)
theorem cr_set0P (h1 : X.prog = P) (h2 : X.w = w) : CallR X (.type "set") (rSet0N P w) := by subst h1; subst h2; exact cr_set0N
theorem or_sinP (h1 : X.prog = P) (h2 : X.w = w) (hu : X.A.units + 64 < cLine) : OpR X (compareOp .In) (rSInN P w) := by subst h1; subst h2; exact or_sinN hu
theorem pe_saddP (h1 : X.prog = P) (h2 : X.w = w) {o e : Expr} {es : List Expr} {to : TE} {t : TA} {apos cpos : Pos} (hu : X.A.units + 64 < cLine) (ho : PE X o to) (ha : PA X (e :: es) t) (hbase : attributeBase o "add" X.env (eval o X.env) = eval o X.env := by rfl)
    (hfew : ((backTo cpos (starEach (e :: es) X.env)).all (fun x => !x.1) && (backToKw cpos (keywordEach [] X.env)).all (fun x => x.1.isSome) && decide ((e :: es).length + ([] : List Keyword).length + (if ([] : List Keyword).isEmpty then 0 else 1) < 30)) = true := by rfl)
    (hl : (apos.endLine == cpos.line) = true := by rfl) (hs : starEach (e :: es) X.env = (false, eval e X.env) :: starEach es X.env := by rfl) (hp : (backTo cpos (starEach es X.env)).any (·.1) = false := by rfl) :
    PE X (.Call (.Attribute o "add" apos) (e :: es) [] cpos) (tSAddN P w to t) := by subst h1; subst h2; exact pe_saddNN hu ho ha hbase hfew hl hs hp
theorem pe_getP (h1 : X.prog = P) (h2 : X.w = w) {o i : Expr} {td ty : TE} {pos : Pos} (hu : X.A.units + 64 < cLine) (ho : PE X o td) (hi : PE X i ty) (hs : NoSl i) : PE X (.Subscript o i pos) (tGetN P w td ty) := by subst h1; subst h2; exact pe_getN hu ho hi hs
theorem set_dictP (h1 : X.prog = P) (h2 : X.w = w) (hu : X.A.units + 64 < cLine) : PSet X (rPutN P w) := by subst h1; subst h2; exact set_dictN hu
theorem pe_dcP (h1 : X.prog = P) (h2 : X.w = w) {kx vx tg iter : Expr} {ifs : List Expr} {scope : Scope} {own : List (Str × Nat)} {pos : Pos} {wi : TI} {g : TG} {tt : TT} {tk tv : TE} (calm : X.calm = true) (once : X.N.Nodup) (room : X.A.units + 64 < cLine) (ri : PI X tg iter wi) (blk : BlkOk X.N X.env.scope scope own)
    (rg : ∀ s H C cl fp, PG (X.blk s H scope (compEnvC scope cl C X.env) fp) tg g) (rt : ∀ s H C cl fp, PTs (X.blk s H scope (compEnvC scope cl C X.env) fp) ifs tt)
    (rk : ∀ s H C cl fp, PE (X.blk s H scope (compEnvC scope cl C X.env) fp) kx tk) (rv : ∀ s H C cl fp, PE (X.blk s H scope (compEnvC scope cl C X.env) fp) vx tv) (plain : ∀ x, foldedSetIterable iter X.env x = pure x := by intro _; rfl) :
    PE X (.DictComp kx vx [⟨tg, iter, ifs, 0⟩] scope pos) (tDcN P w wi g tt tk tv (own.map (·.2))) := by subst h1; subst h2; exact pe_dcN calm once room ri blk rg rt rk rv plain
end
end CP
/-! sets of tuples of texts: set(), add, in -/
namespace CP
open PySem PySem.Spec PyProof.Rows L2
/-- at b a tuple of the texts k -/
def TkH (H : Hp) (b : Addr) (k : List Str) : Prop := H b = some (.tup (k.map V.str))
theorem TkH.same {H H' : Hp} {b : Addr} {k : List Str} (h : TkH H b k) (s : Same H H') : TkH H' b k := s _ _ h
theorem TkH.upd {H : Hp} {a b : Addr} {k : List Str} {o o' : HO} (h : TkH H b k) (ha : H a = some o) (n : ∀ xs, o ≠ .tup xs) : TkH (L2.upd H a o') b k := by
  unfold TkH; rw [upd_ne (fun q => by have h' : H b = _ := h; rw [q, ha] at h'; exact n _ (Option.some.inj h'))]; exact h
section
variable {X : Cx} {pins : List (Addr × Obj)} {σ : L2.St} {H : Hp} {s : Shared}
theorem tk_is {b : Addr} {k : List Str} (I : L2.Inv X pins σ H s) (h : TkH H b k) : TxtAt X.prog X.w s.heap k b := txt_at I (SqT.of h)
/-- the set at a, but for the keys' own tuples -/
def SetInE (P : Program) (w : World) (a : Addr) (L : List (Addr × List Str)) (h : Heap) : Prop :=
  ∃ es ep t, (∃ o, h.get? a = some o ∧ o.ExactSet ∧ o.data = .set es ep t) ∧ es.toList = rowsK (txtK P w) L ∧ TabG t (hsK (txtK P w) L) ∧ (L.map (·.2)).Nodup ∧ L.length * 5 < t.mask * 3 ∧ L.length < 250 ∧ (t.led = true ∨ w.params.followText "set-order" = true)
def SetNE (P : Program) (w : World) (a : Addr) (L : List (Addr × List Str)) : HO := .ext (SetInE P w a L)
theorem setNE_ok {P : Program} {w : World} {H : Hp} {h : Heap} {a : Addr} {L : List (Addr × List Str)} (R : SetInE P w a L h) : ObjOk P w H h a (SetNE P w a L) := by
  have ⟨es, ep, t, ⟨o, ho, _⟩, _⟩ := R
  exact ⟨R, ⟨o, ho⟩, fun h1 h2 ⟨es', ep', t', ⟨o', ho', r'⟩, q'⟩ k => ⟨es', ep', t', ⟨o', k o' ho', r'⟩, q'⟩⟩
theorem SK.isInE {P : Program} {w : World} {h : Heap} {a : Addr} {L : List (Addr × List Str)} {es : Array (Int × Value)} {ep : Nat} {t : SetTable} (R : SK (txtK P w) h a L es ep t) : SetInE P w a L h := ⟨es, ep, t, R.obj, R.row, R.tab, R.nod, R.roo, R.few, R.led⟩
theorem setNE_get {a : Addr} {L : List (Addr × List Str)} (I : L2.Inv X pins σ H s) (ha : H a = some (SetNE X.prog X.w a L)) (hk : ∀ p ∈ L, TkH H p.1 p.2) : ∃ es ep t, SK (txtK X.prog X.w) s.heap a L es ep t := by
  obtain ⟨es, ep, t, h1, h2, h3, h4, h5, h6, h7⟩ := (I.hok a _ ha).1
  exact ⟨es, ep, t, h1, h2, h3, h4, fun p hp => tk_is I (hk p hp), h5, h6, h7⟩
/-- set() -/
def rSet0E (P : Program) (w : World) : List V → Hp → VK → Prop := fun xs H Q => xs = [] ∧ ∀ p, H p = none → Q (.ref p) (L2.upd H p (SetNE P w p []))
theorem cr_set0E0 : CallR X (.type "set") (rSet0E X.prog X.w) := by
  intro pins s σ H xs us Q I r h
  obtain ⟨rfl, q⟩ := h
  cases r
  refine setR_new fun _ => ?_
  have new := SK.new (F := txtK X.prog X.w) (h := s.heap.push (newSet X.w)) (a := s.heap.objs.size) (Heap.get?_push_size _ rfl)
  exact ⟨.ref _, L2.upd H s.heap.objs.size (SetNE X.prog X.w s.heap.objs.size []), I.laid (t' := s.toks) (fun b u e => Heap.get?_push_of_some _ e) (Nat.le_refl _) (setNE_ok new.isInE), rfl, q _ (I.hok.fresh (Nat.le_refl _))⟩
/-- seen.add(pair) -/
def rSAddE (P : Program) (w : World) : V → List V → Hp → VK → Prop := fun x xs H Q => ∃ (a b : Addr) (k : List Str) (L : List (Addr × List Str)), x = V.ref a ∧ xs = [.ref b] ∧ H a = some (SetNE P w a L) ∧ (∀ p ∈ L, TkH H p.1 p.2) ∧ TkH H b k ∧ L.length + 1 < 250 ∧
  ∀ L', (k ∈ L.map (·.2) → L' = L) → (k ∉ L.map (·.2) → L'.Perm ((b, k) :: L)) → Q .non (L2.upd H a (SetNE P w a L'))
theorem mt_saddE (hu : X.A.units + 64 < cLine) : MtR X "set.add" (rSAddE X.prog X.w) := by
  intro pins s σ H x xs v us Q I rx rxs h
  obtain ⟨a, b, k, L, rfl, rfl, ha, hk, hb, few, q⟩ := h
  cases rx
  rw [Vals.ref1 rxs]
  obtain ⟨es, ep, t, R⟩ := setNE_get I ha hk
  obtain ⟨o, ho, hex, hd⟩ := R.obj
  have ty : s.TypeIs (.ref a) "set" := ⟨o, ho, hex.1⟩
  refine wpAny_call_entry PySem.F.slot_set_add ty PySem.F.entry_set_add ?_ (PySem.F.args_set_add_2 _ _)
  unfold Builtin.«set.add» Builtin.Frozenset.oneOther
  simp only [List.isEmpty_nil, bind_assoc]
  unfold Builtin.Frozenset.addrOf setAdd
  refine wpAny_bind (wpAny_pure ?_)
  try dsimp only
  refine wpAny_bind (wpAny_pure ?_)
  try dsimp only
  refine wpAny_bind (wpAny_holding (wpAny_bind ((txtK X.prog X.w).pyh (by simp; omega) (tk_is I hb) fun tn => ?_)))
  refine put_in (s := { s with toks := s.toks + tn }) R (show (txtK X.prog X.w).At s.heap k b from tk_is I hb) (by simp; omega) few fun c h' L' es' ep' t' sb R' c1 c2 => ?_
  show wpAny _ _ (ret Value.none) _ _ _
  obtain ⟨o', ho', _⟩ := R'.obj
  exact wpAny_pure ⟨_, rfl, .non, L2.upd H a (SetNE X.prog X.w a L'), I.write (e := a) (t' := s.toks + tn) (by rw [ha]; trivial) (.inl rfl) (fun b u hb hu => (sb.2 b hb).trans hu) ⟨o', ho'⟩ (setNE_ok R'.isInE), rfl, q L' c1 c2⟩
/-- pair in seen -/
def rSInSE (P : Program) (w : World) : V → V → Hp → VK → Prop := fun x y H Q => ∃ (b a : Addr) (k : List Str) (L : List (Addr × List Str)), x = .ref b ∧ y = V.ref a ∧ H a = some (SetNE P w a L) ∧ (∀ p ∈ L, TkH H p.1 p.2) ∧ TkH H b k ∧ Q (.bl (decide (k ∈ L.map (·.2)))) H
theorem or_sinE0 (hu : X.A.units + 64 < cLine) : OpR X (compareOp .In) (rSInSE X.prog X.w) := by
  intro pins s σ H x y v u Q I rx ry h
  obtain ⟨b, a, k, L, rfl, rfl, ha, hk, hb, q⟩ := h
  cases rx
  cases ry
  obtain ⟨es, ep, t, R⟩ := setNE_get I ha hk
  obtain ⟨o, ho, hex, hd⟩ := R.obj
  have ty : s.TypeIs (.ref a) "set" := ⟨o, ho, hex.1⟩
  show wpAny _ _ (do return Value.bool (← contains (.ref a) (.ref b))) _ _ s
  refine wpAny_bind ?_
  unfold contains
  try with_reducible refine wpAny_holding ?_
  refine wpAny_bind (wpAny_specialOf ty PySem.F.slot_set_contains.lookup ?_)
  rw [if_neg (by rw [beq_builtin_none]; exact Bool.false_ne_true)]
  refine wpAny_bind (wpAny_callSpecialUnlessNone?_slot (name := Str.ofString "__contains__") ty PySem.F.slot_set_contains (wpAny_call_entry PySem.F.slot_set_contains ty PySem.entry_set_contains ?_ (PySem.F.args_set_contains_2 _ _)))
  unfold Builtin.«frozenset.__contains__» Builtin.Frozenset.oneOther
  simp only [List.isEmpty_nil, bind_assoc]
  unfold Builtin.Frozenset.addrOf Builtin.Frozenset.withSetAsKey setContains
  refine wpAny_bind (wpAny_pure ?_)
  try dsimp only
  refine wpAny_bind (wpAny_pure ?_)
  try dsimp only
  refine wpAny_bind (wpAny_tryCatch (wpAny_holding (wpAny_bind ((txtK X.prog X.w).pyh (by simp; omega) (tk_is I hb) fun tn => ?_))))
  refine wpAny_bind (find_in (s := { s with toks := s.toks + tn }) R (show (txtK X.prog X.w).At s.heap k b from tk_is I hb) (by simp; omega) fun r hr => wpAny_pure ?_)
  show wpAny _ _ (ret (Value.bool r.isSome)) _ _ _
  have hr2 : r.isSome = decide (k ∈ L.map (·.2)) := hr.trans (decide_eq_decide.mpr Iff.rfl)
  rw [hr2]
  exact wpAny_pure ⟨_, rfl, wpAny_truthy_bool (wpAny_pure ⟨.bl _, H, I.tok _, rfl, q⟩)⟩
end
end CP
namespace CP
open PySem PySem.Spec PyProof.Rows L2
section
variable {X : Cx} {o e : Expr} {es : List Expr} {to : TE} {t : TA} {apos cpos : Pos}
def tSAddE (P : Program) (w : World) (to : TE) (t : TA) : TE := fun σ H Q => to σ H fun x H1 => (∃ a L, x = V.ref a ∧ H1 a = some (SetNE P w a L)) ∧ t σ H1 fun xs H2 => rSAddE P w x xs H2 Q
/-- seen.add(pair), as it is written -/
theorem pe_saddE0 (hu : X.A.units + 64 < cLine) (ho : PE X o to) (ha : PA X (e :: es) t) (hbase : attributeBase o "add" X.env (eval o X.env) = eval o X.env := by rfl)
    (hfew : ((backTo cpos (starEach (e :: es) X.env)).all (fun x => !x.1) && (backToKw cpos (keywordEach [] X.env)).all (fun x => x.1.isSome) && decide ((e :: es).length + ([] : List Keyword).length + (if ([] : List Keyword).isEmpty then 0 else 1) < 30)) = true := by rfl)
    (hline : (apos.endLine == cpos.line) = true := by rfl) (hs : starEach (e :: es) X.env = (false, eval e X.env) :: starEach es X.env := by rfl) (hplain : (backTo cpos (starEach es X.env)).any (·.1) = false := by rfl) :
    PE X (.Call (.Attribute o "add" apos) (e :: es) [] cpos) (tSAddE X.prog X.w to t) := by
  refine ⟨fun pins s σ H Q I h => wpAny_Call_method_late hbase hfew hline rfl (thn (ho.run pins s σ H _ I h) fun v s1 ⟨x, H1, I1, r1, ⟨a, L, ex, hS⟩, q1⟩ => ?_)⟩
  subst ex
  cases r1
  obtain ⟨es', ep, tb, ⟨ob, h1, h2, h3⟩, _⟩ := (I1.hok a _ hS).1
  have nd : ∀ b, Value.ref a = .ref b → ∃ o', s1.heap.get? b = some o' ∧ o'.dict = none := fun b z => by cases z; exact ⟨ob, h1, h2.2.1⟩
  refine ⟨"set", "set.add", F.plainAttrs_set, F.slot_set_add, F.type_set_add, ⟨ob, h1, h2.1⟩, nd, ?_⟩
  have hA := ha.run cpos pins s1 σ H1 _ I1 q1
  rw [hs] at hA ⊢
  refine Calls.callWith_builtin (by show (false || (backTo cpos (starEach es X.env)).any (·.1)) = false; rw [hplain]; rfl) (Calls.evalArgs_plain (thn hA fun us s2 ⟨vs, H2, I2, r2, q2⟩ => ?_))
  exact mt_saddE hu pins s2 σ H2 (.ref a) vs (.ref a) us Q I2 rfl r2 q2
end
end CP
namespace CP
open PySem PySem.Spec PyProof.Rows L2
section
variable {X : Cx} (P : Program) (w : World)
theorem cr_set0E (h1 : X.prog = P) (h2 : X.w = w) : CallR X (.type "set") (rSet0E P w) := by subst h1; subst h2; exact cr_set0E0
theorem or_sinE (h1 : X.prog = P) (h2 : X.w = w) (hu : X.A.units + 64 < cLine) : OpR X (compareOp .In) (rSInSE P w) := by subst h1; subst h2; exact or_sinE0 hu
theorem pe_saddE (h1 : X.prog = P) (h2 : X.w = w) {o e : Expr} {es : List Expr} {to : TE} {t : TA} {apos cpos : Pos} (hu : X.A.units + 64 < cLine) (ho : PE X o to) (ha : PA X (e :: es) t) (hbase : attributeBase o "add" X.env (eval o X.env) = eval o X.env := by rfl)
    (hfew : ((backTo cpos (starEach (e :: es) X.env)).all (fun x => !x.1) && (backToKw cpos (keywordEach [] X.env)).all (fun x => x.1.isSome) && decide ((e :: es).length + ([] : List Keyword).length + (if ([] : List Keyword).isEmpty then 0 else 1) < 30)) = true := by rfl)
    (hl : (apos.endLine == cpos.line) = true := by rfl) (hs : starEach (e :: es) X.env = (false, eval e X.env) :: starEach es X.env := by rfl) (hp : (backTo cpos (starEach es X.env)).any (·.1) = false := by rfl) :
    PE X (.Call (.Attribute o "add" apos) (e :: es) [] cpos) (tSAddE P w to t) := by subst h1; subst h2; exact pe_saddE0 hu ho ha hbase hfew hl hs hp
end
end CP
namespace CP
open PySem L2
open AutoSeq1 (wpAny_loadPart')
/-! ### enumerate(t), t a tuple -/
theorem new_enumT (l : Addr) (items : Array Value) (n : Nat) (dct : Option Addr) (sl : Array (Option Value)) :
    Meets (Builtin.«enumerate.__new__» ⟨[.type "enumerate", .ref l], []⟩) (fun _ R s => s.heap.get? l = some { cls := .type "tuple", dict := dct, data := .seq items n, slots := sl } ∧
      R (.ok (.ret (.ref (s.heap.push { cls := .type "tuple_iterator", data := .fields #[.ref l, .int 0 0] }).objs.size)))
        { s with heap := (s.heap.push { cls := .type "tuple_iterator", data := .fields #[.ref l, .int 0 0] }).push { cls := .type "enumerate", data := .fields #[.none, .bool false, .ref s.heap.objs.size, rawInt 0, .none, .none] } }) :=
  .of_wp fun prog w A R s h => by
    obtain ⟨hp, g, d, tk, os⟩ := s; obtain ⟨hl, h⟩ := h
    have m1 := sub_enumerate
    have hT : Heap.IsTuple (Shared.heap ⟨hp, g, d, tk, os⟩) l items := ⟨_, hl, rfl, n, rfl⟩
    wp_walk using wpAny_loadPart' hl
    refine wpAny_stack_any fun st => wpAny_pure ?_
    split
    · rename_i c _ _ _ _ _
      cases (c == Value.type "enumerate") <;> (wp_walk using wpAny_loadPart' hl, wpAny_pyIter_tuple hT; exact ⟨_, rfl, h⟩)
    · wp_walk using wpAny_loadPart' hl, wpAny_pyIter_tuple hT
      exact ⟨_, rfl, h⟩
section
variable {prog : Program} {w : World} {A : Around} {E : Value → Shared → Prop} {s : Shared}
abbrev tupIt (l : Addr) : Obj := { cls := .type "tuple_iterator", data := .fields #[.ref l, .int 0 0] }
abbrev enumOb (it : Addr) : Obj := { cls := .type "enumerate", data := .fields #[.none, .bool false, .ref it, rawInt 0, .none, .none] }
theorem call_enumT {l : Addr} {items : Array Value} {Q : Value → Shared → Prop} (hT : s.heap.IsTuple l items)
    (h : ∀ h', IsEnum h' (s.heap.objs.size + 1) s.heap.objs.size 0 .none → h'.IsTupleIter s.heap.objs.size l 0 → (∀ b o, s.heap.get? b = some o → h'.get? b = some o) → Q (.ref (s.heap.objs.size + 1)) { s with heap := h' }) :
    wpAny (model prog w) A (call (.type "enumerate") [.ref l]) Q E s := by
  obtain ⟨⟨c, dct, dt, sl⟩, hl, hc, n, hd⟩ := hT
  simp only at hc hd
  subst hc hd
  refine callType_new F.called_enumerate (by decide) (F.typeCall_enumerate_1 _) (F.newCall_enumerate_1 _) (fun obj => F.args_object_init_2 obj _) F.entry_enumerate_new (new_enumT l items n dct sl) ⟨hl, ?_⟩
  have hz : (s.heap.push (tupIt l)).objs.size = s.heap.objs.size + 1 := Heap.size_push ..
  show _ ∧ _
  rw [hz]
  have he : IsEnum ((s.heap.push (tupIt l)).push (enumOb s.heap.objs.size)) (s.heap.objs.size + 1) s.heap.objs.size 0 .none := by
    have q := Heap.get?_push_size (s.heap.push (tupIt l)) (o := enumOb s.heap.objs.size) rfl
    rw [hz] at q; exact q
  exact ⟨⟨_, he, rfl⟩, h _ he ⟨_, Heap.get?_push_of_some _ (Heap.get?_push_size _ rfl), rfl, rfl⟩ fun b o x => Heap.get?_push_of_some _ (Heap.get?_push_of_some _ x)⟩
end
def ItT (K : PySem.W.Frag) (a : Addr) : It :=
  ⟨fun i H => ∃ (xs : List V) (x : V), SqT K H a xs ∧ xs[i]? = some x, fun i H v H' => ∃ T x, v = .ref T ∧ H T = none ∧ H' = L2.upd H T (.tup [.int (i : Nat), x]) ∧ ∀ xs, SqT K H a xs → xs[i]? = some x, fun i H => ∃ xs : List V, SqT K H a xs ∧ xs.length = i⟩
theorem walk_enumT {K : PySem.W.Frag} {a : Addr} {xs : List V} : Walk (ItT K a) xs.length (fun H => SqT K H a xs) (YPair (fun i => some (.int (i : Nat))) (fun i => xs[i]?)) := by
  refine ⟨fun i _ hi q => ⟨xs, xs[i], q, by simp [hi]⟩, fun _ q => ⟨xs, q, rfl⟩, fun i H v H' _ q y => ?_⟩
  obtain ⟨T, x, h1, h2, h3, h4⟩ := y
  exact ⟨T, _, x, h1, h2, h3, rfl, h4 xs q⟩
theorem turn_enumT {P : Program} {w : World} {K : PySem.W.Frag} {elts : List Expr} {kk : Nat} {tpos : Pos} (a e it : Addr) :
    Turn P w K (.Tuple elts kk tpos) (ItT K a) [e, it] e (fun i h => (∃ old, IsEnum h e it ((i : Nat) : Int) old) ∧ h.IsTupleIter it a i ∧ e ≠ it) where
  mem := by simp
  obj := fun i h ⟨⟨old, he⟩, ⟨o, ho, hc, hd⟩, _⟩ b hb => by
    rcases (show b = e ∨ b = it by simpa using hb) with rfl | rfl
    · exact ⟨_, he, fun v q => nomatch q⟩
    · exact ⟨o, ho, fun v q => by rw [hd] at q; cases q⟩
  keep := fun i h h' ⟨⟨old, he⟩, hi, hne⟩ k => ⟨⟨old, k e (by simp) _ he⟩, hi.at fun o q => k it (by simp) o q, hne⟩
  item := by
    intro X hP hw hK hc i pins s σ H E I hf ⟨⟨old, he⟩, hit, hne⟩ ⟨xs, x, hq, hx⟩
    subst hP hw hK
    obtain ⟨its, rv, p, hz⟩ := I.tuple hq
    obtain ⟨u, hu, ru⟩ := rv.get hx
    have hel : e < s.heap.objs.size := Heap.lt_size he
    have hil : it < s.heap.objs.size := by obtain ⟨_, q, _⟩ := hit; exact Heap.lt_size q
    have ea : e ≠ a := fun z => by
      obtain ⟨o, ho, hc2, _⟩ := p
      rw [← z, he] at ho; cases ho; injection hc2 with hc2; exact absurd hc2 (by decide)
    have ia : a ≠ it := fun z => by
      obtain ⟨o, ho, hc2, _⟩ := p
      obtain ⟨o2, ho2, hc3, _⟩ := hit
      rw [z, ho2] at ho; cases ho; rw [hc3] at hc2; injection hc2 with hc2; exact absurd hc2 (by decide)
    have hiu : its.toArray[i]? = some u := by simpa using hu
    have li : i < its.toArray.size := (Array.getElem?_eq_some_iff.mp hiu).1
    refine wpAny_pyNext_enum_itemD (Draws.tuple (A := X.A.in1) (by simp [I.ok.hd hc]) it a ia its.toArray) he ⟨hit, p⟩ li hne (by simp [hne, ea]) fun x' h' tk px ho st' hT hsz hk => ?_
    obtain rfl : x' = u := Option.some.inj (px.symm.trans hiu)
    refine ⟨_, rfl, wpAny_letOwnedTupleGo_enum (s := { s with heap := h', toks := tk + 1 }) ho fun h'' he' sb => ?_⟩
    have hT2 : h''.get? s.heap.objs.size = some { cls := .type "tuple", data := .seq #[.int i tk, x'] } := (sb.2 _ (Nat.ne_of_gt hel)).trans hT
    have new : ObjOk X.prog X.w (L2.upd H s.heap.objs.size (.tup [.int (i : Nat), x])) h'' s.heap.objs.size (.tup [.int (i : Nat), x]) :=
      ⟨by show 2 ≤ sizeLine; decide, [.int i tk, x'], .cons ⟨_, rfl⟩ (.cons ru .nil), ⟨_, hT2, rfl, _, rfl⟩⟩
    have I1 : L2.Inv X pins σ (L2.upd H s.heap.objs.size (.tup [.int (i : Nat), x])) { s with heap := h'', toks := tk + 1 } :=
      I.turnedNew (ch := [e, it]) (fun b ob hb q => (sb.2 b (fun z => hb (by simp [z]))).trans (hk b ob (fun z => hb (by simp [z])) (fun z => hb (by simp [z])) q)) hf (Nat.le_refl _) new
    refine ⟨.ref s.heap.objs.size, _, I1, rfl, ⟨_, x, rfl, I.hok.fresh (Nat.le_refl _), rfl, fun ys hy => by rw [I.tuple_inj hy hq]; exact hx⟩, ⟨⟨x', ?_⟩, st'.1.at fun o q => (sb.2 it (Ne.symm hne)).trans q, hne⟩, fun b hb => ?_⟩
    · rw [show ((i + 1 : Nat) : Int) = (i : Int) + 1 by omega]; exact he'
    · have hb' : b < s.heap.objs.size := by
        rcases (show b = e ∨ b = it by simpa using hb) with rfl | rfl
        · exact hel
        · exact hil
      rw [upd_ne (Nat.ne_of_lt hb')]
      exact (hf b hb).1
  done := by
    intro X hP hw hK hc i pins s σ H E I hf ⟨⟨old, he⟩, hit, hne⟩ ⟨xs, hq, hx⟩
    subst hP hw hK
    obtain ⟨its, rv, p, hz⟩ := I.tuple hq
    obtain ⟨f0, f1, f2, f3, f4, f5⟩ := hf it (by simp)
    have hl := rv.length
    have ia : a ≠ it := fun z => by
      obtain ⟨o, ho, hc2, _⟩ := p
      obtain ⟨o2, ho2, hc3, _⟩ := hit
      rw [z, ho2] at ho; cases ho; rw [hc3] at hc2; injection hc2 with hc2; exact absurd hc2 (by decide)
    have ei : i = its.toArray.size := by rw [List.size_toArray]; omega
    rw [ei] at hit
    exact wpAny_pyNext_enum_endD (Draws.tuple (A := X.A.in1) (by simp [I.ok.hd hc]) it a ia its.toArray) he ⟨hit, p⟩ fun h' eb => ⟨rfl, I.turned (t' := s.toks) (fun b o hb q => eb b o hb q) f0 f1 f3 f4 f5⟩
  self := fun A i s Q E ⟨⟨_, he⟩, _⟩ h => wpAny_pyIter_enum he h
def iEnumT (K : PySem.W.Frag) (ta : TA) : TI := fun σ H R => ta σ H fun vs H1 => ∃ a xs, vs = [.ref a] ∧ SqT K H1 a xs ∧ R (ItT K a) H1
theorem pi_enumT {X : Cx} {e : Expr} {ta : TA} {p pos tpos : Pos} {elts : List Expr} {kk : Nat} (hg : Gl X "enumerate") (hm : X.mg "enumerate" = none) (ha : PA X [e] ta) (hs : starEach [e] X.env = [(false, eval e X.env)] := by rfl) :
    PI X (.Tuple elts kk tpos) (.Call (.Name "enumerate" p) [e] [] pos) (iEnumT X.K ta) := by
  refine ⟨fun pins s σ H R I h => ?_⟩
  refine PyProof.Rows.Call_ (ld_blt I hg hm PyProof.Rows.boot_enumerate (PyProof.Rows.callWith_type1 (thn (ha.run pos pins s σ H _ I h) fun us s1 ⟨vs, H1, I1, r1, a, xs, ex, hq, q⟩ => ?_) hs rfl))
  subst ex
  rw [Vals.ref1 r1]
  obtain ⟨its, rv, p', hz⟩ := I1.tuple hq
  refine call_enumT (items := its.toArray) p' fun h' he hit hk => wpAny_pyIter_enum he ?_
  have I2 : L2.Inv X pins σ H1 { s1 with heap := h' } := I1.kept (t' := s1.toks) hk
  refine ⟨s1.heap.objs.size + 1, [s1.heap.objs.size + 1, s1.heap.objs.size], _, _, H1, rfl, I2, turn_enumT a (s1.heap.objs.size + 1) s1.heap.objs.size, ⟨⟨.none, he⟩, hit, Nat.succ_ne_self _⟩, fun b hb => ?_, q⟩
  have hle : s1.heap.objs.size ≤ b := by
    rcases (show b = s1.heap.objs.size + 1 ∨ b = s1.heap.objs.size by simpa using hb) with z | z
    · rw [z]; exact Nat.le_add_right _ _
    · rw [z]; exact Nat.le_refl _
  exact I1.fpOk hle (I1.hok.fresh hle)
end CP
/-! Defs that show data (repr): the promise holds where no repr is running around the call. -/
namespace CP
open PySem PySem.Spec PyProof.Rows L2
structure FnG (P : Program) (w : World) (K : PySem.W.Frag) (mg : Str → Option Value) (base : Heap) (k : Nat) (f : Addr) (fd : FuncData) (ps : List Str) (sp : Sp) : Prop where
  len : ∀ vs H Q E, sp vs H Q E → vs.length = ps.length
  run : ∀ (A : Around) (outer : List Env) (s : Shared) (H : Hp) (args : Args) (us : List Value) (vs : List V) (Q : VK) (E : XK), Room k A → A.guards = some [] → Env0 P w K mg base A outer s H → BindsTo s fd args (ps.zip us) → Vals vs us → sp vs H Q E →
    codeAny (model P w) A (.call (.ref f) args) (CR CX0 outer P w H s Q E) s
section
variable {P : Program} {w : World} {K : PySem.W.Frag} {mg : Str → Option Value} {base : Heap}
theorem okG {x qual : Str} {st : Stmt} {f : Addr} {fd : FuncData} {N ps : List Str} {k : Nat} {sp : Sp} (F : Fun K x qual st f fd) (S : FnScope N ps (defScope st)) (len : ∀ vs H Q E, sp vs H Q E → vs.length = ps.length)
    (body : ∀ (cdv : Value) (A : Around) (outer : List Env) (s : Shared) (H : Hp) (vs : List V) (Q : VK) (E : XK), Room k (A.deeper (envOfC qual (defScope st) s.heap.objs.size f cdv)) → (A.deeper (envOfC qual (defScope st) s.heap.objs.size f cdv)).guards = some [] → sp vs H Q E →
      ∃ t, PSs (cxOf CX0 P w K mg base N qual (defScope st) f cdv A outer s H E).nox (defBody st) t ∧ t { nx := fun _ H' => Q .non H', rt := Q } (start N vs) H) : FnG P w K mg base (k + 1) f fd ps sp := by
  obtain ⟨oc, od, kV, doc, pm, an, cdv, ct, osl, rfl, lk, hcd⟩ := F.ex
  refine ⟨len, fun A outer s H args us vs Q E room gds env0 hb vals hsp => ?_⟩
  have up : ∀ b o, base.get? b = some o → s.heap.get? b = some o := fun b o e => (env0.bs b o e).1
  have KIn : K.In s.heap := env0.mod.kin.keeps up
  have kinds : ∀ y ∈ ps.zip us, (defScope st).names.lookup y.1 = some .local ∨ ((defScope st).names.lookup y.1 = some .cell ∧ ((cellsFrom (s.heap.objs.size + 1) (defScope st).names []).lookup y.1).isSome = true) := fun ⟨n, v⟩ hy =>
    (S.par n (List.of_mem_zip hy).1).elim .inl fun q => .inr ⟨q, PySem.W.cellsFrom_some _ _ _ (.inl q)⟩
  refine codeAny_call_function room.depth (KIn _ _ lk) rfl S.co S.gen rfl (PySem.W.codeRec_of KIn hcd) (hb _ _ _ _ (wpAny_newFunctionEnv_cells S.kind kinds fun env he s1 x => ?_))
  subst he
  refine ⟨(env0.mod.nolimit.keeps up).keeps x.toInCall.keep, codeAny_func ?_⟩
  obtain ⟨t, ht, hq⟩ := body cdv A outer s H vs Q E (room.deeper _) gds hsp
  have I : L2.Inv (cxOf CX0 P w K mg base N qual (defScope st) f cdv A outer s H E) [] (start N vs) H s1 := inv_start S room.hd env0 (len _ _ _ _ hsp) vals x
  refine wpAny_mono (ht.nox.run [] s1 (start N vs) H _ I hq) (fun fl s' hs => ?_) fun e s' hs => hs
  have done : ∀ {σ' : L2.St} {H' : Hp} {v : V} {u : Value}, L2.Inv (cxOf CX0 P w K mg base N qual (defScope st) f cdv A outer s H E) [] σ' H' s' → RelV v u → Q v H' → CE outer P w H s Q u s' := fun J rv q => ⟨_, _, J.os, J.bare, J.base, J.hok, rv, q⟩
  match fl, hs with
  | .ret u, ⟨v, σ', H', J, rv, q⟩ => exact done J rv q
  | .next, ⟨σ', H', J, q⟩ => exact done (v := V.non) (u := Value.none) J rfl q
  | .brk, ⟨_, _, _, q⟩ => exact q.elim
  | .cont, ⟨_, _, _, q⟩ => exact q.elim
end
section
variable {X : Cx} {x : Str} {p pos : Pos} {e : Expr} {es : List Expr} {t : TA} {k : Nat} {f : Addr} {fd : FuncData} {ps : List Str} {sp : Sp}
theorem pe_callG (F : FnG X.prog X.w X.K X.mg X.base k f fd ps sp) (hr : Room k X.A) (gds : X.A.guards = some []) (hg : Gl X x) (hm : X.mg x = some (.ref f)) (hk : PySem.W.keepIn X.K (.ref f) = true) (hb : Binds X.K fd ps []) (ha : PA X (e :: es) t)
    (hdb : (x == ("__debug__" : Str)) = false := by decide) (he : starEach (e :: es) X.env = (false, eval e X.env) :: starEach es X.env := by rfl) (hpl : (backTo pos (starEach es X.env)).any (·.1) = false := by rfl) : PE X (.Call (.Name x p) (e :: es) [] pos) (tCall sp [] E0 t) := by
  refine ⟨fun pins s σ H Q I h => wpAny_Call_Name_kw (ld_glob I hg hm ?_ hdb)⟩
  refine PySem.W.callWith_K (h₀ := X.base) I.ok.mod.kin hk (thn (ha.run pos pins s σ H _ I h) fun us s1 ⟨vs, H1, I1, r, q⟩ => ⟨I1.kIn, ?_⟩) he hpl
  have r2 : Vals (vs ++ []) (us ++ []) := r.append .nil
  have hl : (us ++ []).length = ps.length := by rw [← r2.length]; exact F.len _ _ _ _ q
  refine wpAny_call (codeAny_mono (F.run X.A X.stack s1 H1 ⟨us, []⟩ (us ++ []) (vs ++ []) Q E0 hr gds I1.env0 (hb s1 us I1.kIn hl) r2 q) fun res s' hq => ?_)
  match res, hq with
  | .error err, hq => exact (hq : False).elim
  | .ok (.ret u), hq => exact I1.after hq
  | .ok .next, hq => exact False.elim hq
  | .ok .brk, hq => exact False.elim hq
  | .ok .cont, hq => exact False.elim hq
/-- repr(x) of data that can be shown -/
def rReprD (K : PySem.W.Frag) : List V → Hp → VK → Prop := fun xs H Q => ∃ (a : Addr) (d : PyData), xs = [.ref a] ∧ Dp K H (.ref a) d ∧ d.showable = true ∧ d.hasDict = false ∧ d.depth ≤ 60 ∧ d.shown.length ≤ sizeLine ∧ Q (.str d.shown) H
theorem call_reprD (gds : X.A.guards = some []) (hu : X.A.units + 64 < cLine) : CallR X (.builtin "repr") (rReprD X.K) := by
  intro pins s σ H xs us Q I r h
  obtain ⟨a, d, rfl, hd, h1, h2, h3, h4, q⟩ := h
  rw [Vals.ref1 r]
  obtain ⟨as, rd⟩ := Dp.reads I d _ (Value.ref a) hd rfl
  exact repr_of_reads' rd h1 (fun z => by rw [h2] at z; cases z) gds (by omega) (fun _ _ z => z) (fun h' u tk hk => ⟨.str d.shown, H, I.kept (t' := tk) hk, ⟨_, rfl⟩, q⟩) h4
end
end CP
namespace CP
open PySem PySem.Spec PyProof.Rows L2
theorem callG {P : Program} {w : World} {K : PySem.W.Frag} {mg mb : Str → Option Value} {k : Nat} {fa a : Addr} {fd : FuncData} {x : Str} {sp : Sp} {s0 : Shared} {vs : List Value} {ns : List Int}
    (KX : K.In s0.heap) (n1 : s0.heap.Ns mainGlobals mg) (n2 : s0.heap.Ns builtinsNs mb) (n3 : ∀ x : Str, x ≠ "__name__" → mb x = bootBuiltins x) (lim : s0.heap.NoLimit) (gens : s0.gens = #[])
    (obj : s0.heap.get? a = some { cls := .type "list", data := .seq vs.toArray }) (hints : IntsAre vs ns) (few : ns.length ≤ sizeLine) (room : Room k callerA)
    (F : ∀ base : Heap, K.In base → base.Ns mainGlobals mg → FnG P w K mg base k fa fd [x] sp) (bind : ∀ (s : Shared) (u : Value), BindsTo s fd ⟨[u], []⟩ [(x, u)])
    (hsp : ∀ H : Hp, SqL K H a (ns.map V.int) → sp [.ref a] H (fun v _ => v = .bl true) fun _ _ _ => False) :
    codeAny (model P w) callerA (.call (.ref fa) ⟨[.ref a], []⟩) (fun r s' => r = .ok (.ret (.bool true)) ∧ OldK s0.heap s'.heap ∧ s'.os = s0.os ∧ AllBare s'.gens) s0 := by
  have rv := vals_ints hints
  have lenV := hints.length
  have core : ∀ H : Hp, (∀ b, H b = none ∨ ∃ ob xs, H b = some (.frz ob (.lst xs))) → SqL K H a (ns.map V.int) → HOk P w H s0.heap → (∀ b, H b ≠ none → b = a) → (H a ≠ none → K.lookup a = none) →
      codeAny (model P w) callerA (.call (.ref fa) ⟨[.ref a], []⟩) (fun r s' => r = .ok (.ret (.bool true)) ∧ OldK s0.heap s'.heap ∧ s'.os = s0.os ∧ AllBare s'.gens) s0 := by
    intro H only sq ok onlyA unk
    have noD : ∀ {b : Addr} {o : Obj} {es : Array DictEntry} {ep : Nat}, s0.heap.get? b = some o → o.data = .dict es ep → H b = none := fun {b o es ep} e d => by
      cases q : H b with
      | none => rfl
      | some u =>
        obtain rfl : b = a := onlyA b (by rw [q]; simp)
        rw [obj] at e; cases e; cases (show Data.seq vs.toArray _ = Data.dict es ep from d)
    have nsH : ∀ {b : Addr} {m : Str → Option Value}, s0.heap.Ns b m → (hidT s0.heap H).Ns b m := fun ⟨o, es, ep, e, d, r⟩ => ⟨o, es, ep, hidT_get e (noD e d), d, r⟩
    have kH : K.In (hidT s0.heap H) := fun b o e => hidT_get (KX b o e) (by
      cases q : H b with
      | none => rfl
      | some u =>
        obtain rfl : b = a := onlyA b (by rw [q]; simp)
        rw [unk (by rw [q]; simp)] at e; cases e)
    have md : Mod K mg (hidT s0.heap H) := ⟨kH, nsH n1, ⟨mb, nsH n2, n3⟩, let ⟨mc, h1, h2⟩ := lim; ⟨mc, nsH h1, h2⟩⟩
    have env0 : Env0 P w K mg (hidT s0.heap H) callerA [] s0 H := ⟨rfl, md, fun b o e => of_hidT e, Nat.le_of_eq (hidT_size _ _), trivial, fun b hb => absurd (show b ∈ ([] : List Addr) from hb) (by simp), ok, .of_eq gens⟩
    refine codeAny_mono ((F _ kH (nsH n1)).run callerA [] s0 H ⟨[.ref a], []⟩ [.ref a] [.ref a] _ _ room rfl env0 (bind s0 (.ref a)) (.cons rfl .nil) (hsp H sq)) fun r s' h => ?_
    match r, h with
    | .error e, h => exact (h : False).elim
    | .ok .next, h => exact False.elim h
    | .ok .brk, h => exact False.elim h
    | .ok .cont, h => exact False.elim h
    | .ok (.ret u), ⟨v, H', os, bare, un, ok', r', q⟩ =>
      obtain rfl : v = .bl true := q
      obtain rfl : u = Value.bool true := r'
      refine ⟨rfl, OldK.of_keep fun b o e => ?_, os, bare⟩
      rcases only b with q | ⟨ob, xs, q⟩
      · exact un.keep b o e q (fun z => absurd (show b ∈ ([] : List Addr) from z) (by simp)) (by simp)
      · obtain ⟨e1, _⟩ := ok b _ q
        obtain ⟨e2, _⟩ := ok' b _ (un.frzs b ob _ q)
        rw [e] at e1; cases e1; exact e2
  cases hk : K.lookup a with
  | some o =>
    have e := KX a o hk
    rw [obj] at e
    cases e
    exact core (fun _ => none) (fun _ => .inl rfl) (.inr ⟨_, vs.toArray, _, hk, rfl, rfl, rfl, by rw [List.size_toArray, lenV]; exact few, by simpa using rv⟩) (fun b u z => by cases (show (none : Option HO) = some u from z)) (fun b z => absurd rfl z) fun z => absurd rfl z
  | none =>
    refine core (fun b => if b = a then some (.frz { cls := .type "list", data := .seq vs.toArray } (.lst (ns.map V.int))) else none) (fun b => ?_) (.inl (.inr ⟨{ cls := .type "list", data := .seq vs.toArray }, if_pos rfl⟩)) (fun b u z => ?_) (fun b z => ?_) fun _ => hk
    all_goals by_cases hb : b = a
    · exact .inr ⟨_, _, if_pos hb⟩
    · exact .inl (if_neg hb)
    · have z' := (if_pos hb).symm.trans z
      cases z'; subst hb
      exact ⟨obj, by rw [List.length_map]; exact few, vs, _, rv, obj⟩
    · cases (if_neg hb).symm.trans z
    · exact hb
    · exact absurd (if_neg hb) z
theorem walkG {l : PySem.W.OpenLaw} {n k : Nat} {q : Program} {loose : List Str} {XP : (Str → Option Value) → Heap → Prop} {YP : World → Heap → Prop} {d : DefRec} {K : Params → PySem.W.Frag} {sp : PySem.W.Frag → Sp} {x : Str}
    (hn : l.most = some n) (hn2 : n ≤ sizeLine) (hdf : d.params.defaults = []) (room : Room k callerA) (hY : ∀ (w : World) (h : Heap), YP w h → (K w.params).In h)
    (F : ∀ (w : World) (mg : Str → Option Value) (fa : Addr) (h : Heap), (K w.params).In h → h.Ns mainGlobals mg → mg d.name = some (.ref fa) → ∃ fd : FuncData, (∀ (s : Shared) (u : Value), BindsTo s fd ⟨[u], []⟩ [(x, u)]) ∧
        ∀ base : Heap, (K w.params).In base → base.Ns mainGlobals mg → FnG l.prog w (K w.params) mg base k fa fd [x] (sp (K w.params)))
    (hsp : ∀ (K : PySem.W.Frag) (H : Hp) (a : Addr) (ns : List Int), ns.length ≤ n → SqL K H a (ns.map V.int) → sp K [.ref a] H (fun v _ => v = .bl true) fun _ _ _ => False) :
    PySem.W.WalkO q loose XP YP l.row.toRowW d [] (fun f vs => PySem.call f vs) := by
  refine Att.attach_call hn hdf fun w s0 s1 mg mb fa o pm cd doc a vs ns G Y ho hd hcd hmg hobj hints hlen hg => ?_
  have KX := hY w _ Y
  obtain ⟨fd, hb, hF⟩ := F w mg fa _ KX G.T.g hmg
  exact callG KX G.T.g G.T.b G.T.builtins G.T.nolimit hg hobj hints (Nat.le_trans hlen hn2) room hF hb fun H hS => hsp _ H a ns hlen hS
end CP
/-! Exceptions as values: made, kept, asked for their class, their fields read. -/
namespace CP
open PySem PySem.Spec PyProof.Rows L2
/-- an exception of a built-in class at a -/
def bxo (a : Addr) (T : String) : HO := .ext fun h => ∃ o, h.get? a = some o ∧ o.cls = .type T
theorem bxo_ok {P : Program} {w : World} {H : Hp} {h : Heap} {a : Addr} {T : String} {o : Obj} (e : h.get? a = some o) (c : o.cls = .type T) : ObjOk P w H h a (bxo a T) :=
  ⟨⟨o, e, c⟩, ⟨o, e⟩, fun _ _ ⟨o, q, r⟩ k => ⟨o, k o q, r⟩⟩
/-- what isinstance and the fields' reading want of the class -/
structure XCls (K : PySem.W.Frag) (C : Addr) : Prop where
  cl : (PySem.W.clsIn K C).isSome = true
  ga : PySem.W.findIn K (.ref C) "__getattribute__" = some (some (.builtin "BaseException.__getattribute__"))
  gg : PySem.W.findIn K (.ref C) "__getattr__" = some none
  sb : PySem.W.subIn K (.ref C) (.type "BaseException") = some true
  hd : PySem.W.hasDictIn K C = true
  ca : PySem.W.findIn K (.ref C) "__class__" = some (some (.builtin "object.__class__"))
  sg : PySem.W.specialIn K (.builtin "object.__class__") "__get__" = some (some (.builtin "getset_descriptor.__get__"))
  tk : PySem.W.takesIn K (.builtin "object.__class__") = some true
  mo : PySem.W.mroIn K C (.type "object") = some true
/-- an exception value: of an own class (with a field or without), or a ValueError -/
inductive TyE (K : PySem.W.Frag) (H : Hp) : V → Value → Prop where
  | plain {a C : Addr} (h : H a = some (exo a C none)) (T : XCls K C) : TyE K H (.ref a) (.ref C)
  | field {a C d : Addr} {fs : List (Str × V)} (h : H a = some (exo a C (some d))) (hd : H d = some (exd d fs)) (T : XCls K C) : TyE K H (.ref a) (.ref C)
  | blt {a : Addr} (h : H a = some (bxo a "ValueError")) : TyE K H (.ref a) (.type "ValueError")
section
variable {X : Cx} {pins : List (Addr × Obj)} {σ : L2.St} {H : Hp} {s : Shared}
theorem exd_get {P : Program} {w : World} {h : Heap} {dx : Addr} {fs : List (Str × V)} (ok : HOk P w H h) (he : H dx = some (exd dx fs)) : ∃ o, h.get? dx = some o := by
  obtain ⟨mA, ⟨o, _, _, e, _⟩, _⟩ := exd_at ok he
  exact ⟨o, e⟩
def rIsiE (K : PySem.W.Frag) : List V → Hp → VK → Prop := fun xs H Q => ∃ (x c : V) (t u : Value) (b : Bool), xs = [x, c] ∧ ClsV c u ∧ TyE K H x t ∧ PySem.W.kitOne K t u = some b ∧ Q (.bl b) H
theorem call_isiE : CallR X (.builtin "isinstance") (rIsiE X.K) := by
  intro pins s σ H xs us Q I r h
  obtain ⟨x, c, t, u, b, rfl, k, ty, e, q⟩ := h
  obtain ⟨u1, u2, rfl, r1, r2⟩ := vals2 r
  have e2 := k.eq r2
  subst e2
  cases ty with
  | @plain a C h T =>
    cases (show u1 = Value.ref a from r1)
    obtain ⟨t1, ho⟩ := exo_at I.hok h
    exact PySem.W.kia_one (PySem.W.kitx_exc (od := none) T.cl T.ga T.gg T.sb T.ca T.sg T.tk T.mo) I.kIn ⟨ho, rfl, rfl, trivial⟩ e (fun z => nomatch z) fun tk => ⟨.bl b, H, I.tok tk, rfl, q⟩
  | @field a C d fs h hd T =>
    cases (show u1 = Value.ref a from r1)
    obtain ⟨t1, ho⟩ := exo_at I.hok h
    obtain ⟨oD, hoD⟩ := exd_get I.hok hd
    exact PySem.W.kia_one (PySem.W.kitx_exc (od := some oD) T.cl T.ga T.gg T.sb T.ca T.sg T.tk T.mo) I.kIn ⟨ho, rfl, rfl, hoD⟩ e (fun z => nomatch z) fun tk => ⟨.bl b, H, I.tok tk, rfl, q⟩
  | @blt a h =>
    cases (show u1 = Value.ref a from r1)
    obtain ⟨o, ho, hc⟩ := (I.hok a _ h).1
    exact PySem.W.kia_one (PySem.W.kitx_bexc PySem.F.excAttr_ValueError PySem.F.lkClass_ValueError PySem.F.soClass_ValueError (by decide)) I.kIn ⟨o, ho, hc⟩ e (fun z => nomatch z) fun tk => ⟨.bl b, H, I.tok tk, rfl, q⟩
/-- e.f, e such a value -/
def tFldE (K : PySem.W.Frag) (f : Str) (te : TE) : TE := fun σ H Q => te σ H fun x H1 => ∃ (a C d : Addr) (fs : List (Str × V)) (v : V), x = .ref a ∧ H1 a = some (exo a C (some d)) ∧ H1 d = some (exd d fs) ∧ XCls K C ∧ PySem.W.findIn K (.ref C) f = some none ∧ fs.lookup f = some v ∧ Q v H1
theorem pe_fldE {e : Expr} {te : TE} {pos : Pos} {n : Str} (he : PE X e te) (hb : attributeBase e n X.env (eval e X.env) = eval e X.env := by rfl) : PE X (.Attribute e n pos) (tFldE X.K n te) := by
  refine ⟨fun pins s σ H Q I h => attr_of hb (thn (he.run pins s σ H _ I h) fun u s1 ⟨x, H1, I1, rx, a, C, d, fs, v, ex, ha, hd, T, no, l, q⟩ => ?_)⟩
  subst ex
  obtain rfl : u = Value.ref a := rx
  obtain ⟨t1, ho⟩ := exo_at I1.hok ha
  obtain ⟨mA, hns, hr⟩ := exd_at I1.hok hd
  obtain ⟨od, ho2, hl⟩ := lookIn_ns hns
  obtain ⟨u, hu, ru⟩ := RelO.some_of (v := v) (o := mA n) (by rw [← l]; exact hr n)
  exact HandSPX.exc_get I1.kIn ⟨ho, rfl, rfl, ho2⟩ T.ga T.gg T.sb (PySem.W.findObj_own T.hd no rfl (by rw [hl, hu])) (handed_of ru) ⟨v, H1, I1.tok _, ru, q⟩
/-- a new object at an address that the heap has not -/
theorem laid_new {h' : Heap} {a : Addr} {o : HO} {t' : Nat} (I : L2.Inv X pins σ H s) (k : ∀ b u, s.heap.get? b = some u → h'.get? b = some u) (new : s.heap.get? a = none) (hn : H a = none) (ok : ObjOk X.prog X.w (L2.upd H a o) h' a o) : L2.Inv X pins σ (L2.upd H a o) { s with heap := h', toks := t' } := by
  refine I.un ⟨fun b u q _ _ _ => k b u q, fun b u q _ _ _ => ⟨u.slots, k b u q⟩, fun b u q n _ => ?_, fun b u q _ => ⟨u, k b u q⟩, fun b xs q => ?_, fun b u xs q => ?_, fun b ps q => ⟨#[], ?_⟩⟩ fun b u e => ?_
  · rw [upd_ne (fun z => by rw [z, new] at q; cases q)]; exact n
  · rw [upd_ne (ne_of_none q hn)]; exact q
  · rw [upd_ne (ne_of_none q hn)]; exact q
  · rw [upd_ne (ne_of_none q hn), q]; simp
  · by_cases hb : b = a
    · subst hb; rw [upd_same] at e; cases e; exact ok
    · rw [upd_ne hb] at e
      exact (I.hok b u e).stay (fun c v _ q => k c v q) (fun c q => by rw [upd_ne (ne_of_none q hn)]; exact q) fun c xs q => by rw [upd_ne (ne_of_none q hn)]; exact q
/-- ValueError('x') -/
theorem pe_bexc {m : Str} {j : Nat} {p p2 pos : Pos} (hg : Gl X "ValueError") (hm : X.mg "ValueError" = none) : PE X (.Call (.Name "ValueError" p) [.Constant (.str m) j p2] [] pos) (fun _ H Q => ∀ a, H a = none → Q (.ref a) (L2.upd H a (bxo a "ValueError"))) := by
  refine ⟨fun pins s σ H Q I h => wpAny_Call_Name_kw (ld_blt I hg hm boot_ValueError ?_ (by decide) (by decide))⟩
  refine PyProof.Rows.callWith_type1 (thn ((pa_cons (pe_str (x := m) (j := j) (pos := p2)) pa_nil).run pos pins s σ H (fun vs H1 => H1 = H ∧ vs.length = 1) I ⟨rfl, rfl⟩) fun us s1 ⟨vs, H1, I1, r1, eH, l1⟩ => ?_) rfl rfl
  subst eH
  obtain ⟨hp1, g1, d1, tk1, os1⟩ := s1
  refine wpAny_call_exc exb_ValueError.call (fun h' a mk => ?_) (by rw [← r1.length, l1, sizeLine_eq]; omega)
  have hn := I1.hok.gone mk.new
  obtain ⟨t, ht, _⟩ := mk.there
  exact ⟨.ref a, _, laid_new (t' := tk1) I1 mk.keeps mk.new hn (bxo_ok ht rfl), rfl, h a hn⟩
/-- C(), an own class without own __init__ -/
theorem pe_exc0 {C : Addr} {bmB : List Value} {B newId initId : String} {x : Str} {p pos : Pos} (F : ExcBaseFacts B newId initId bmB) (q : PySem.W.excIn X.K C bmB newId = true) (gC : X.mg x = some (.ref C)) (kC : PySem.W.keepIn X.K (.ref C) = true) (hg : Gl X x)
    (hdb : (x == ("__debug__" : Str)) = false := by decide) : PE X (.Call (.Name x p) [] [] pos) (fun _ H Q => ∀ a, H a = none → Q (.ref a) (L2.upd H a (exo a C none))) := by
  refine ⟨fun pins s σ H Q I h => wpAny_Call_Name_kw (ld_glob I hg gC (PySem.W.callWith_K0 I.kIn kC ?_) hdb)⟩
  obtain ⟨bm, N, nm, qn, bs, hdct, sn, sub, ab, col, dd, k0, k1, k2, k3, k5, mN, hC, hN, hni, T⟩ := exc_obj I.kIn q
  refine wpAny_call_exc_subT F T hC hN hni (fun h' a mk => ?_) (Nat.zero_le _)
  have hn := I.hok.gone mk.new
  obtain ⟨t, ht, _⟩ := mk.there
  exact ⟨.ref a, _, laid_new (t' := s.toks) I mk.keeps mk.new hn (exo_ok ht), rfl, h a hn⟩
/-- C(e), C's own __init__ keeping sp, as a value -/
def tMkV (C : Addr) (sp : Sp) (ta : TA) : TE := fun σ H Q => ta σ H fun vs H1 => vs.length ≤ 1000 ∧ ∀ a, H1 a = none → sp (.ref a :: vs) (L2.upd H1 a (exo a C none)) (fun v H2 => v = .non ∧ Q (.ref a) H2) E0
theorem pe_excI {e : Expr} {es : List Expr} {ta : TA} {x : Str} {C fI : Addr} {k : Nat} {fd : FuncData} {ps : List Str} {sp : Sp} {p pos : Pos} (T : OexC X.K C) (iC : PySem.W.findIn X.K (.ref C) "__init__" = some (some (.ref fI))) (tI : PySem.W.typeIn X.K (.ref fI) = some (.type "function"))
    (F1 : FnOk X.prog X.w X.K X.mg X.base CX0 k fI fd ps sp) (hr : Room (k + 1) X.A) (hb : Binds X.K fd ps []) (hg : Gl X x) (hm : X.mg x = some (.ref C)) (ha : PA X (e :: es) ta)
    (hdb : (x == ("__debug__" : Str)) = false := by decide) (he : starEach (e :: es) X.env = (false, eval e X.env) :: starEach es X.env := by rfl) (hpl : (backTo pos (starEach es X.env)).any (·.1) = false := by rfl) : PE X (.Call (.Name x p) (e :: es) [] pos) (tMkV C sp ta) := by
  obtain ⟨nm, q, N, bs, bm, sn, sub, ab, col, dd, k0, k1, k2, k3, k5, hC, hbm⟩ := T.cls
  refine ⟨fun pins s σ H Q I h => wpAny_Call_Name_kw (ld_glob I hg hm ?_ hdb)⟩
  refine PySem.W.callWith_K (h₀ := X.base) I.ok.mod.kin T.kC (thn (ha.run pos pins s σ H _ I h) fun us s1 ⟨vs, H1, I1, r1, hz, q1⟩ => ⟨I1.kIn, ?_⟩) he hpl
  show wpAny _ _ (call (.ref C) us) _ _ _
  obtain ⟨hp, g, dr, tk, os⟩ := s1
  have below : hp.objs.size ≤ hp.objs.size + 1 := Nat.le_succ _
  have fresh : H1 (hp.objs.size + 1) = none := I1.hok.fresh below
  have want := q1 (hp.objs.size + 1) fresh
  generalize hh2 : (hp.push (PySem.W.kdv_tup us)).push (PySem.HandSPX.excO C hp.objs.size) = hp2
  have keep : ∀ b o, hp.get? b = some o → hp2.get? b = some o := fun b o e => by rw [← hh2]; exact Heap.get?_push_of_some _ (Heap.get?_push_of_some _ e)
  have got : hp2.get? (hp.objs.size + 1) = some (PySem.HandSPX.excO C hp.objs.size) := by rw [← hh2]; heap_get
  have I2 : L2.Inv X pins σ (L2.upd H1 (hp.objs.size + 1) (exo (hp.objs.size + 1) C none)) ⟨hp2, g, dr, tk, os⟩ := I1.laid (t' := tk) (h' := hp2) keep below (exo_ok got)
  have r2 : Vals (V.ref (hp.objs.size + 1) :: vs) (Value.ref (hp.objs.size + 1) :: us) := .cons rfl r1
  have hl : (Value.ref (hp.objs.size + 1) :: us ++ []).length = ps.length := by
    rw [List.append_nil, ← r2.length]; exact F1.len _ _ _ _ want
  have few : us.length ≤ sizeLine := by rw [← Paired.length r1, sizeLine_eq]; omega
  have bnd := hb ⟨hp2, g, dr, tk, os⟩ (Value.ref (hp.objs.size + 1) :: us) I2.kIn hl
  rw [List.append_nil] at bnd
  refine wpAny_call (PySem.HandSPX.call_own F.excBase_ValueError (fun Y => PySem.HandSPX.refsVE_contains Y bm hbm) (I1.kIn _ _ hC) (PySem.W.looks_findIn I1.kIn iC) (fun self => PySem.W.bind_fn I1.kIn self tI) few ?_)
  rw [hh2]
  refine codeAny_mono (F1.run _ X.stack _ _ ⟨Value.ref (hp.objs.size + 1) :: us, []⟩ (Value.ref (hp.objs.size + 1) :: us) _ _ E0 (hr.make C us []) (I2.env0.make C us []) bnd r2 want) fun r s' hq => ?_
  match r, hq with
  | .error er, hq => exact (hq : False).elim
  | .ok .next, hq => exact False.elim hq
  | .ok .brk, hq => exact False.elim hq
  | .ok .cont, hq => exact False.elim hq
  | .ok (.ret u), ⟨v, H2, os2, bare2, un2, hok2, rv, ev, q2⟩ =>
    subst ev
    exact ⟨rv, .ref (hp.objs.size + 1), H2, I2.call' (ch := []) os2 un2 hok2 bare2 (fun b z => absurd z (by simp)), rfl, q2⟩
end
end CP
/-! sorted(t), t a tuple: what is collected first, then as for a list -/
namespace CP
open PySem PySem.W PyProof.Rows L2
section
variable {prog : Program} {w : World} {A : Around} {E : Value → Shared → Prop} {s : Shared}
abbrev lst0 : Obj := seqObj "list" #[] 0
theorem gather_tup {t : Addr} {us : List Value} {R : List Value → Shared → Prop} (ht : s.heap.IsTuple t us.toArray) (few : us.length ≤ sizeLine)
    (k : R us { s with heap := (s.heap.push lst0).update s.heap.objs.size (Obj.mapSeq (· ++ us.toArray)) }) : wpAny (model prog w) A (collect (.ref t)) R E s := by
  obtain ⟨ot, g1, g2, m, g3⟩ := id ht
  unfold collect
  refine wpAny_bind (wpAny_runValue (codeAny_builtin entry_proto_collect' ?_))
  show wpAny _ _ (do PySem.again (.builtin "list.__iadd__" ⟨[← newList [], .ref t], []⟩)) _ _ s
  refine wpAny_bind (wpAny_newList (wpAny_pure ⟨Code.quiet_builtin _ (by decide +kernel), codeAny_builtin entry_list_iadd' ?_⟩))
  show wpAny _ _ (Builtin.List.listExtendWith (.ref s.heap.objs.size) (.ref t) (.ref s.heap.objs.size)) _ _ { s with heap := s.heap.push lst0 }
  unfold Builtin.List.listExtendWith
  have g1' : (s.heap.push lst0).get? t = some ot := Heap.get?_push_of_some _ g1
  refine wpAny_bind (wpAny_typeOf (T := "tuple") ⟨ot, g1', g2⟩ ?_)
  have tt : (Value.type "tuple" == Value.type "tuple") = true := by rfl
  rw [if_pos (by rw [tt]; simp)]
  refine wpAny_bind (listItems_at g1' g3 ?_)
  refine wpAny_bind (listItems_at (xs := #[]) (n := 0) (Heap.get?_push_size _ rfl) rfl ?_)
  rw [if_neg (by simp)]
  refine wpAny_bind (listUpdate_at (xs := #[]) (n := 0) (Heap.get?_push_size _ rfl) rfl ?_ (Nat.zero_le _) (by
    show (#[] ++ us.toArray).size ≤ sizeLine + 1
    simp only [Array.size_append, List.size_toArray, List.length_nil]; omega))
  refine wpAny_pure ?_
  refine wpAny_bind (wpAny_load (get?_update_seq (Heap.get?_push_size _ rfl) _) ?_)
  show wpAny _ _ (pure ((#[] : Array Value) ++ us.toArray).toList) R E _
  have e : ((#[] : Array Value) ++ us.toArray).toList = us := by simp
  rw [e]
  exact wpAny_pure k
end
section
variable {prog : Program} {w : World} {A : Around} {E : Value → Shared → Prop} {s : Shared} {β : Type} {enc : β → PyData} {R : Value → β → Prop} {vs : List Value} {bs : List β}
/-- sorted(t) of data -/
theorem sorted_dataT {l : Addr} {Q : Value → Shared → Prop} (hl : s.heap.IsTuple l vs.toArray) (e : EachIs R vs bs) (er : EachIs (fun v b => ∃ as, Reads s.heap v (enc b) as) vs bs) (hal : AllAlike (bs.map enc)) (hk : Sortable (bs.map enc)) (hL : bs.length ≤ sizeLine)
    (hu : ∀ b, b ∈ bs → A.units + 2 + (enc b).depth < cLine) (h : ∀ out, out.length = bs.length → EachIs R out (bs.mergeSort (dataLe false enc)) → Q (.ref (s.heap.objs.size + 1)) { s with heap := sortedAll s.heap vs (List.toArray out) }) : wpAny (model prog w) A (call (.builtin "sorted") [.ref l]) Q E s := by
  have er' : EachIs (fun v b => ∃ as, Reads (sortingHeap (copyHeap s.heap vs) (s.heap.objs.size + 1) vs) v (enc b) as) vs bs := er.mono fun _ _ ⟨as, r⟩ => ⟨as, Reads.keeps (fun _ _ => sorting_copy_old) r⟩
  have hV : vs.length ≤ sizeLine := by rw [e.length]; exact hL
  refine call_function_entry_kw kind_sorted plain_sorted entry_sorted (args_sorted1 _) ?_
  unfold Builtin.«sorted»
  refine wpAny_bind (m := checkCount "sorted" 1 1 _) (wpAny_pure ?_)
  refine wpAny_bind (gather_tup hl hV ?_)
  refine wpAny_bind (wpAny_newList ?_ hV)
  have z : ((s.heap.push lst0).update s.heap.objs.size (Obj.mapSeq (· ++ vs.toArray))).objs.size = s.heap.objs.size + 1 := by
    rw [Heap.size_update, size_push']
  show wpAny _ _ _ _ _ { s with heap := copyHeap s.heap vs }
  rw [z]
  have S := SortsAt.data (prog := prog) (w := w) (A := A.in1.in1) (s := { s with heap := sortingHeap (copyHeap s.heap vs) (s.heap.objs.size + 1) vs }) (each_map (R := fun v d => ∃ as, Reads (sortingHeap (copyHeap s.heap vs) (s.heap.objs.size + 1) vs) v d as) enc er') hal hk (bound_map hu)
  refine wpAny_bind (wpAny_holding (wpAny_call_entry_kw slot_list_sort ⟨_, copyHeap_at s.heap vs, rfl⟩ entry_list_sort (list_sort_vals (s := { s with heap := copyHeap s.heap vs }) (copyHeap_at s.heap vs) S hV ?_) (args_list_sort _)))
  exact ⟨_, rfl, wpAny_pure ⟨_, rfl, h _ (by rw [sortVals_length false rfl]; exact e.length) (sortVals_data false e er' hal)⟩⟩
end
end CP
/-! min(x, y), max(x, y) of data -/
namespace CP
open PySem PySem.W PySem.Spec PyProof.Rows
section
variable {prog : Program} {w : World} {A : Around} {E : Value → Shared → Prop} {s : Shared}
abbrev pairO (x y : Value) : Obj := { cls := .type "tuple", data := .seq [x, y].toArray }
theorem min2_data {x y : Value} {dx dy : PyData} {ax ay : List Addr} {Q : Value → Shared → Prop} (hh : A.handled = none) (rx : Reads s.heap x dx ax) (ry : Reads s.heap y dy ay) (al : AlikeAll [dx, dy]) (hu : A.units + 1 + PyData.depthAll [dx, dy] < cLine)
    (h : ∀ h' tk, (∀ b o, s.heap.get? b = some o → h'.get? b = some o) → Q (if dataLt dy dx = true then y else x) { s with heap := h', toks := tk }) : wpAny (model prog w) A (call (.builtin "min") [x, y]) Q E s := by
  have nameL : (toString "min" ++ toString ".loop" : String) = "min.loop" := by decide
  have up : ∀ b o, s.heap.get? b = some o → (s.heap.push (pairO x y)).get? b = some o := fun b o e => Heap.get?_push_of_some _ e
  have rs : ReadsAll (s.heap.push (pairO x y)) (#[x, y] : Array Value).toList [dx, dy] _ := .cons (PyProof.Rows.Reads.keeps up rx) (.cons (PyProof.Rows.Reads.keeps up ry) .nil)
  have tup : (s.heap.push (pairO x y)).IsTuple s.heap.objs.size #[x, y] := ⟨_, Heap.get?_push_size _ rfl, rfl, 0, rfl⟩
  refine call_function_tree F.kind_min F.plain_min F.entry_min (F.args_min2 _ _) ?_
  show wpAny _ A.in1 (Builtin.Builtins.bindParams "min" _ 0 ⟨[], []⟩ >>= _) _ _ s
  refine wpAny_bind (wpAny_of_eq (a := [none, none]) rfl ?_)
  show wpAny _ A.in1 (newTuple [x, y] >>= _) _ _ s
  refine wpAny_bind (wpAny_newObj_type (wpAny_bind ?_))
  refine iter_tupleW (s := { s with heap := s.heap.push (pairO x y) }) (A := A.in1) hh tup fun s2 e W st fp wr kp => ?_
  refine wpAny_bind (wpAny_newObj_type ?_)
  rw [nameL]
  refine wpAny_pure ⟨plainId_quiet F.plain_min_loop _, codeAny_min_loop_firstH W (s.heap.push (pairO x y)) wr _ (cmpIn_lt (s := { s with heap := s.heap.push (pairO x y) }) (A := A.in1) rs al (by show A.units + 1 + _ < _; exact hu)) s2.heap.objs.size (fun z => Nat.lt_irrefl _ (fp _ z)) (fresh_in kp) _ (by show 0 < 2; decide) (fun b o z => Heap.get?_push_of_some _ (kp b o z)) (W.frame 0 s2 _ s2.toks st (Nat.le_refl _) fun b _ o z => Heap.get?_push_of_some _ z) (Heap.get?_push_size _ rfl) fun v s3 hv mv => ?_⟩
  obtain ⟨h3, tk, rfl, k3⟩ := moved_old e rfl (Moved.drop_new (tk := s2.toks) mv (Nat.le_refl _))
  have ev : v = if dataLt dy dx = true then y else x := by
    by_cases c : dataLt dy dx = true
    · rw [if_pos c]
      have hv' : (#[x, y] : Array Value)[if dataLt dy dx = true then 1 else 0]? = some v := hv
      rw [if_pos c] at hv'; exact (Option.some.inj hv').symm
    · rw [if_neg c]
      have hv' : (#[x, y] : Array Value)[if dataLt dy dx = true then 1 else 0]? = some v := hv
      rw [if_neg c] at hv'; exact (Option.some.inj hv').symm
  rw [ev]
  exact h h3 tk fun b o z => k3 b o (up b o z)
theorem max2_data {x y : Value} {dx dy : PyData} {ax ay : List Addr} {Q : Value → Shared → Prop} (hh : A.handled = none) (rx : Reads s.heap x dx ax) (ry : Reads s.heap y dy ay) (al : AlikeAll [dx, dy]) (hu : A.units + 1 + PyData.depthAll [dx, dy] < cLine)
    (h : ∀ h' tk, (∀ b o, s.heap.get? b = some o → h'.get? b = some o) → Q (if dataLt dx dy = true then y else x) { s with heap := h', toks := tk }) : wpAny (model prog w) A (call (.builtin "max") [x, y]) Q E s := by
  have nameL : (toString "max" ++ toString ".loop" : String) = "max.loop" := by decide
  have up : ∀ b o, s.heap.get? b = some o → (s.heap.push (pairO x y)).get? b = some o := fun b o e => Heap.get?_push_of_some _ e
  have rs : ReadsAll (s.heap.push (pairO x y)) (#[x, y] : Array Value).toList [dx, dy] _ := .cons (PyProof.Rows.Reads.keeps up rx) (.cons (PyProof.Rows.Reads.keeps up ry) .nil)
  have tup : (s.heap.push (pairO x y)).IsTuple s.heap.objs.size #[x, y] := ⟨_, Heap.get?_push_size _ rfl, rfl, 0, rfl⟩
  refine call_function_tree F.kind_max F.plain_max F.entry_max (F.args_max2 _ _) ?_
  show wpAny _ A.in1 (Builtin.Builtins.bindParams "max" _ 0 ⟨[], []⟩ >>= _) _ _ s
  refine wpAny_bind (wpAny_of_eq (a := [none, none]) rfl ?_)
  show wpAny _ A.in1 (newTuple [x, y] >>= _) _ _ s
  refine wpAny_bind (wpAny_newObj_type (wpAny_bind ?_))
  refine iter_tupleW (s := { s with heap := s.heap.push (pairO x y) }) (A := A.in1) hh tup fun s2 e W st fp wr kp => ?_
  refine wpAny_bind (wpAny_newObj_type ?_)
  rw [nameL]
  refine wpAny_pure ⟨plainId_quiet F.plain_max_loop _, codeAny_max_loop_firstH W (s.heap.push (pairO x y)) wr _ (cmpIn_gt (s := { s with heap := s.heap.push (pairO x y) }) (A := A.in1) rs al (by show A.units + 1 + _ < _; exact hu)) s2.heap.objs.size (fun z => Nat.lt_irrefl _ (fp _ z)) (fresh_in kp) _ (by show 0 < 2; decide) (fun b o z => Heap.get?_push_of_some _ (kp b o z)) (W.frame 0 s2 _ s2.toks st (Nat.le_refl _) fun b _ o z => Heap.get?_push_of_some _ z) (Heap.get?_push_size _ rfl) fun v s3 hv mv => ?_⟩
  obtain ⟨h3, tk, rfl, k3⟩ := moved_old e rfl (Moved.drop_new (tk := s2.toks) mv (Nat.le_refl _))
  have ev : v = if dataLt dx dy = true then y else x := by
    by_cases c : dataLt dx dy = true
    · rw [if_pos c]
      have hv' : (#[x, y] : Array Value)[if dataLt dx dy = true then 1 else 0]? = some v := hv
      rw [if_pos c] at hv'; exact (Option.some.inj hv').symm
    · rw [if_neg c]
      have hv' : (#[x, y] : Array Value)[if dataLt dx dy = true then 1 else 0]? = some v := hv
      rw [if_neg c] at hv'; exact (Option.some.inj hv').symm
  rw [ev]
  exact h h3 tk fun b o z => k3 b o (up b o z)
end
end CP
/-! Sets of tuples of any depth. -/
namespace CP
open PySem PySem.Spec PyProof.Rows L2
section
variable {P : Program} {w : World}
theorem ClsAt.flat {n : Nat} {s : Shared} {v : Value} (h : ∀ n, ofAClassStatement n v = pure false) : ClsAt P w n s v := fun A E Q q => by rw [h]; exact wpAny_pure q
mutual
theorem nk_cls {s : Shared} : ∀ {k : NestedKey} {v : Value} {n : Nat}, NestedIs s.heap k v → k.depth ≤ n → ClsAt P w n s v
  | _, _, _, .none, _ => .flat fun n => by cases n <;> rfl
  | _, _, _, .bool _, _ => .flat fun n => by cases n <;> rfl
  | _, _, _, .int _ _, _ => .flat fun n => by cases n <;> rfl
  | _, _, _, .text _ _, _ => .flat fun n => by cases n <;> rfl
  | _, _, 0, .tup _ _ _ _, d => absurd d (by simp [NestedKey.depth])
  | _, _, n + 1, .tup h1 h2 h3 h4, d => .tup h1 h2 h3 (nk_clss h4 (by simp only [NestedKey.depth] at d; omega))
theorem nk_clss {s : Shared} : ∀ {ks : List NestedKey} {vs : List Value} {n : Nat}, NestedAll s.heap ks vs → NestedKey.depthAll ks ≤ n → ∀ v ∈ vs, ClsAt P w n s v
  | _, _, _, .nil, _ => fun v hv => nomatch hv
  | _, _, _, .cons h t, d => fun v hv => by
    simp only [NestedKey.depthAll] at d
    rcases List.mem_cons.mp hv with rfl | hv
    · exact nk_cls h (by omega)
    · exact nk_clss t (by omega) v hv
end
theorem HbyAt.flat {n : Nat} {s : Shared} {v : Value} {b : Bool} (h : ∀ n, hashByValue n v = pure b) : HbyAt P w n s v := fun A E Q q => by rw [h]; exact wpAny_pure (q b)
mutual
theorem nk_hby {s : Shared} : ∀ {k : NestedKey} {v : Value} {n : Nat}, NestedIs s.heap k v → k.depth ≤ n → HbyAt P w n s v
  | _, _, _, .none, _ => .flat (b := true) fun n => by cases n <;> rfl
  | _, _, _, .bool _, _ => .flat (b := true) fun n => by cases n <;> rfl
  | _, _, _, .int _ _, _ => .flat (b := true) fun n => by cases n <;> rfl
  | _, _, _, .text _ _, _ => .flat (b := false) fun n => by cases n <;> rfl
  | _, _, 0, .tup _ _ _ _, d => absurd d (by simp [NestedKey.depth])
  | _, _, n + 1, .tup h1 h2 h3 h4, d => .tup h1 h2 h3 (nk_hbys h4 (by simp only [NestedKey.depth] at d; omega))
theorem nk_hbys {s : Shared} : ∀ {ks : List NestedKey} {vs : List Value} {n : Nat}, NestedAll s.heap ks vs → NestedKey.depthAll ks ≤ n → ∀ v ∈ vs, HbyAt P w n s v
  | _, _, _, .nil, _ => fun v hv => nomatch hv
  | _, _, _, .cons h t, d => fun v hv => by
    simp only [NestedKey.depthAll] at d
    rcases List.mem_cons.mp hv with rfl | hv
    · exact nk_hby h (by omega)
    · exact nk_hbys t (by omega) v hv
end
/-- keys to the depth that the model follows -/
abbrev KN := { k : NestedKey // k.depth ≤ 8 }
abbrev KnAt (h : Heap) (k : KN) (b : Addr) : Prop := NestedIs h k.1 (.ref b)
theorem kn_seen {A : Around} {E : Value → Shared → Prop} {s : Shared} {k : KN} {b : Addr} {Q : Bool → Shared → Prop} {ys : List Value} (hk : KnAt s.heap k b) (hy : ∀ y ∈ ys, ∃ z c, y = Value.ref c ∧ KnAt s.heap z c) (h : Q false s) : wpAny (model P w) A (searchCouldBeSeen (.ref b) ys) Q E s := by
  unfold searchCouldBeSeen
  refine wpAny_bind ?_
  refine wpAny_forIn_list _ (fun rest r s' => r.1 = none ∧ s' = s ∧ ∀ y ∈ rest, ∃ z c, y = Value.ref c ∧ KnAt s.heap z c) _ ?_ ?_ _ _ ⟨rfl, rfl, hy⟩
  · rintro v rest r s' ⟨hr, rfl, each⟩
    obtain ⟨z, c, rfl, hc⟩ := each v List.mem_cons_self
    have more : ∀ y ∈ rest, ∃ z c, y = Value.ref c ∧ KnAt s'.heap z c := fun y z => each y (List.mem_cons_of_mem _ z)
    dsimp only
    by_cases hv : (b == c || (carriedByValue (.ref b) && carriedByValue (.ref c))) = true
    · exact wp_if_pos hv (wpAny_pure ⟨rfl, rfl, more⟩)
    · refine wp_if_neg hv (wpAny_bind (quiet_key _ _ 8 s' hk k.2 _ _ _ ?_)); simp only [Bool.not_true, Bool.false_eq_true, if_false]
      refine wpAny_bind (quiet_key _ _ 8 s' hc z.2 _ _ _ ?_); simp only [Bool.not_true, Bool.false_eq_true, if_false]
      refine wpAny_bind (nk_cls hk k.2 _ _ _ ?_); simp only [Bool.false_eq_true, if_false]
      refine wpAny_bind (nk_cls hc z.2 _ _ _ ?_); simp only [Bool.false_eq_true, if_false]
      exact wpAny_pure ⟨rfl, rfl, more⟩
  · rintro ⟨r1, r2⟩ s' ⟨hr, rfl, _⟩
    simp only at hr; subst hr
    exact wpAny_pure h
end
/-- .. as keys -/
def nkF (P : Program) (w : World) : KF P w KN where
  At := fun h k b => KnAt h k b
  hs := fun k => k.1.hash w
  eqb := fun {A E s x y a b Q} hu hx hy h => (nestedKind P w).eqBool hu ⟨hx, x.2⟩ ⟨hy, y.2⟩ (by
    have e : decide (x.1 = y.1) = decide (x = y) := decide_eq_decide.mpr ⟨Subtype.ext, fun z => by rw [z]⟩
    rw [e]; exact h)
  seen := fun hx hy h => kn_seen hx hy h
  hby := fun {A E s x b Q} hx h => nk_hby hx x.2 _ _ _ h
  pyh := fun {A E s x b Q} hu hx h => pyHash_key _ _ _ _ _ hx (by have := x.2; omega) (h _)
  other := fun hb ho hd hs => NestedIs.at (fun c oc vs n hc hv => by
    refine (hs.2 c fun z => ?_).trans hc
    rw [z, ho] at hc; cases hc; rw [hd] at hv; cases hv) _ _ hb
  kept := fun hb hk => NestedIs.at (fun c oc vs n hc _ => hk c oc hc) _ _ hb
/-- the set at a, but for the keys' own tuples -/
def SetGI (P : Program) (w : World) (a : Addr) (L : List (Addr × KN)) (h : Heap) : Prop :=
  ∃ es ep t, (∃ o, h.get? a = some o ∧ o.ExactSet ∧ o.data = .set es ep t) ∧ es.toList = rowsK (nkF P w) L ∧ TabG t (hsK (nkF P w) L) ∧ (L.map (·.2)).Nodup ∧ L.length * 5 < t.mask * 3 ∧ L.length < 250 ∧ (t.led = true ∨ w.params.followText "set-order" = true)
def SetG (P : Program) (w : World) (a : Addr) (L : List (Addr × KN)) : HO := .ext (SetGI P w a L)
theorem setG_ok {P : Program} {w : World} {H : Hp} {h : Heap} {a : Addr} {L : List (Addr × KN)} (R : SetGI P w a L h) : ObjOk P w H h a (SetG P w a L) := by
  have ⟨es, ep, t, ⟨o, ho, _⟩, _⟩ := R
  exact ⟨R, ⟨o, ho⟩, fun h1 h2 ⟨es', ep', t', ⟨o', ho', r'⟩, q'⟩ k => ⟨es', ep', t', ⟨o', k o' ho', r'⟩, q'⟩⟩
theorem SK.isGI {P : Program} {w : World} {h : Heap} {a : Addr} {L : List (Addr × KN)} {es : Array (Int × Value)} {ep : Nat} {t : SetTable} (R : SK (nkF P w) h a L es ep t) : SetGI P w a L h := ⟨es, ep, t, R.obj, R.row, R.tab, R.nod, R.roo, R.few, R.led⟩
end CP
/-! Values without a heap, and what it means that a value of the heap is one of them. M: the addresses that may still change. -/
namespace CP
open PySem PySem.Spec PyProof.Rows L2
inductive PV where
  | non | bl (b : Bool) | int (i : Int) | str (x : Str)
  | lst (xs : List PV) | tup (xs : List PV)
  | dic (kvs : List (PV × PV)) | set (ks : List PV)
  | ins (C : Addr) (ns : List Str) (vs : List PV)
  | ty (n : String) | cls (C : Addr)
  /-- the law's script -/
  | scr (xs : List PV)

mutual
/-- a tuple's key, as a dict holds it -/
def PV.nk : PV → NestedKey
  | .non => .none
  | .bl b => .num (if b = true then 1 else 0)
  | .int i => .num i
  | .str x => .text x
  | .tup xs => .tup (PV.nks xs)
  | .lst _ => .none
  | .dic _ => .none
  | .set _ => .none
  | .ins _ _ _ => .none
  | .ty _ => .none
  | .cls _ => .none
  | .scr _ => .none
def PV.nks : List PV → List NestedKey
  | [] => []
  | x :: xs => PV.nk x :: PV.nks xs
end
mutual
/-- it may be a key -/
def PV.kOk : PV → Bool
  | .non => true
  | .bl _ => true
  | .int _ => true
  | .str _ => true
  | .tup xs => PV.kOks xs
  | .lst _ => false
  | .dic _ => false
  | .set _ => false
  | .ins _ _ _ => false
  | .ty _ => false
  | .cls _ => false
  | .scr _ => false
def PV.kOks : List PV → Bool
  | [] => true
  | x :: xs => PV.kOk x && PV.kOks xs
end
mutual
def PV.toD : PV → PyData
  | .non => .none
  | .bl b => .bool b
  | .int i => .int i
  | .str x => .str x
  | .lst xs => .list (PV.toDs xs)
  | .tup xs => .tuple (PV.toDs xs)
  | .dic _ => .none
  | .set _ => .none
  | .ins _ _ _ => .none
  | .ty _ => .none
  | .cls _ => .none
  | .scr _ => .none
def PV.toDs : List PV → List PyData
  | [] => []
  | x :: xs => PV.toD x :: PV.toDs xs
end
mutual
/-- plain data: no dicts, sets, instances -/
def PV.isD : PV → Bool
  | .non => true
  | .bl _ => true
  | .int _ => true
  | .str _ => true
  | .lst xs => PV.isDs xs
  | .tup xs => PV.isDs xs
  | .dic _ => false
  | .set _ => false
  | .ins _ _ _ => false
  | .ty _ => false
  | .cls _ => false
  | .scr _ => false
def PV.isDs : List PV → Bool
  | [] => true
  | x :: xs => PV.isD x && PV.isDs xs
end

/-! ### dicts whose keys are tuples -/
abbrev CnG := List (NestedKey × Addr × V)
def LikeG (x : NestedKey × Addr × V) (u : NestedKey × Addr × Value) : Prop := u.1 = x.1 ∧ u.2.1 = x.2.1 ∧ RelV x.2.2 u.2.2
def DctGI (P : Program) (w : World) (a : Addr) (xs : CnG) (h : Heap) : Prop :=
  (a == sysModules) = false ∧ ∃ o es ep us, h.get? a = some o ∧ o.ExactDict ∧ o.data = .dict es ep ∧ es.toList = us.map (entryOfKey (nestedKind P w)) ∧ (us.map (·.1)).Nodup ∧ Paired LikeG xs us
def DctG (P : Program) (w : World) (a : Addr) (xs : CnG) : HO := .ext (DctGI P w a xs)
theorem dctG_ok {P : Program} {w : World} {H : Hp} {h : Heap} {a : Addr} {xs : CnG} (R : DctGI P w a xs h) : ObjOk P w H h a (DctG P w a xs) := by
  have ⟨_, o, es, ep, us, ho, _⟩ := R
  exact ⟨R, ⟨o, ho⟩, fun h1 h2 ⟨sy, o', es', ep', us', ho', r⟩ k => ⟨sy, o', es', ep', us', k o' ho', r⟩⟩

/-! ### the fixed surroundings -/
structure En where
  P : Program
  w : World
  K : PySem.W.Frag

def keyP : Key → PV
  | .inl i => .int i
  | .inr x => .str x
/-- a list, a tuple that stays -/
def StayL (H : Hp) (M : Addr → Prop) (a : Addr) (vs : List V) : Prop := Rd H a (.lst vs) ∧ ¬ M a
def StayS (K : PySem.W.Frag) (H : Hp) (M : Addr → Prop) (a : Addr) (vs : List V) : Prop :=
  (Rd H a (.lst vs) ∧ ¬ M a) ∨ ∃ (o : Obj) (its : Array Value) (n : Nat), K.lookup a = some o ∧ o.cls = .type "list" ∧ o.dict = none ∧ o.data = .seq its n ∧ its.size ≤ sizeLine ∧ Vals vs its.toList
def StayT (H : Hp) (M : Addr → Prop) (a : Addr) (vs : List V) : Prop := H a = some (.tup vs) ∧ ¬ M a
/-- it may be a key of such a dict -/
def PV.keyB (p : PV) : Bool := PV.kOk p && decide ((PV.nk p).depth ≤ 8) && (match p with | .tup _ => true | _ => false)
theorem StayL.sq {K : PySem.W.Frag} {H : Hp} {M : Addr → Prop} {a : Addr} {vs : List V} (h : StayL H M a vs) : SqL K H a vs := .inl h.1
theorem StayS.sq {K : PySem.W.Frag} {H : Hp} {M : Addr → Prop} {a : Addr} {vs : List V} (h : StayS K H M a vs) : SqL K H a vs := h.elim (fun q => .inl q.1) .inr
theorem StayT.sq {K : PySem.W.Frag} {H : Hp} {M : Addr → Prop} {a : Addr} {vs : List V} (h : StayT H M a vs) : SqT K H a vs := SqT.of h.1

mutual
inductive Rep (G : En) (H : Hp) (M : Addr → Prop) : V → PV → Prop
  | non : Rep G H M .non .non
  | bl (b : Bool) : Rep G H M (.bl b) (.bl b)
  | int (i : Int) : Rep G H M (.int i) (.int i)
  | str (x : Str) : Rep G H M (.str x) (.str x)
  | ty (n : String) : Rep G H M (.ty n) (.ty n)
  | cls (C : Addr) : Rep G H M (.ref C) (.cls C)
  | scr {a : Addr} {vs : List V} {xs : List PV} : StayS G.K H M a vs → RepAll G H M vs xs → Rep G H M (.ref a) (.scr xs)
  | lst {a : Addr} {vs : List V} {xs : List PV} : StayL H M a vs → RepAll G H M vs xs → Rep G H M (.ref a) (.lst xs)
  | tup {a : Addr} {vs : List V} {xs : List PV} : StayT H M a vs → RepAll G H M vs xs → Rep G H M (.ref a) (.tup xs)
  | dicK {a : Addr} {ob : PySem.Obj} {kvs : List (Key × V)} {ps : List (PV × PV)} : H a = some (.frz ob (.dK kvs)) → ¬ M a → ps.map (·.1) = kvs.map (fun p => keyP p.1) → RepAll G H M (kvs.map (·.2)) (ps.map (·.2)) → Rep G H M (.ref a) (.dic ps)
  | dicG {a : Addr} {ob : PySem.Obj} {c : CnG} {ps : List (PV × PV)} : H a = some (.frz ob (DctG G.P G.w a c)) → ¬ M a → RepAll G H M (c.map fun x => .ref x.2.1) (ps.map (·.1)) → (ps.all fun p => PV.keyB p.1) = true → c.map (·.1) = ps.map (fun p => PV.nk p.1) → RepAll G H M (c.map (·.2.2)) (ps.map (·.2)) → Rep G H M (.ref a) (.dic ps)
  | ins {a C dx : Addr} {fs : List (Str × V)} {ns : List Str} {vs : List PV} : H a = some (.ins C dx fs) → ¬ M a → fs.map (·.1) = ns → RepAll G H M (fs.map (·.2)) vs → Rep G H M (.ref a) (.ins C ns vs)
inductive RepAll (G : En) (H : Hp) (M : Addr → Prop) : List V → List PV → Prop
  | nil : RepAll G H M [] []
  | cons {v : V} {vs : List V} {x : PV} {xs : List PV} : Rep G H M v x → RepAll G H M vs xs → RepAll G H M (v :: vs) (x :: xs)
end

/-- what stands at the address of a thing that may be changed -/
def Obj (G : En) (H : Hp) (M : Addr → Prop) (a : Addr) : PV → Prop
  | .lst xs => ∃ vs, H a = some (.lst vs) ∧ RepAll G H M vs xs
  | .dic ps => (∃ kvs : List (Key × V), H a = some (.dK kvs) ∧ ps.map (·.1) = kvs.map (fun p => keyP p.1) ∧ RepAll G H M (kvs.map (·.2)) (ps.map (·.2))) ∨
      ∃ c, H a = some (DctG G.P G.w a c) ∧ RepAll G H M (c.map fun x => .ref x.2.1) (ps.map (·.1)) ∧ (ps.all fun p => PV.keyB p.1) = true ∧ c.map (·.1) = ps.map (fun p => PV.nk p.1) ∧ RepAll G H M (c.map (·.2.2)) (ps.map (·.2))
  | .set ks => ∃ (L : List (Addr × KN)) (xs : List PV), H a = some (SetG G.P G.w a L) ∧ RepAll G H M (L.map fun x => .ref x.1) xs ∧ (xs.all PV.keyB) = true ∧ L.map (fun x => x.2.1) = xs.map PV.nk ∧ xs.Perm ks
  | .ins C ns vs => ∃ (dx : Addr) (fs : List (Str × V)), H a = some (.ins C dx fs) ∧ fs.map (·.1) = ns ∧ RepAll G H M (fs.map (·.2)) vs
  | _ => False

/-- from H, M to H', M': what may not change is as it was; nothing old is open to change that was not -/
structure Step (H : Hp) (M : Addr → Prop) (H' : Hp) (M' : Addr → Prop) : Prop where
  keep : ∀ b o, H b = some o → ¬ M b → H' b = some o
  old : ∀ b, H b ≠ none → M' b → M b
  there : ∀ b, H b ≠ none → H' b ≠ none
theorem Step.refl {H : Hp} {M : Addr → Prop} : Step H M H M := ⟨fun _ _ h _ => h, fun _ _ h => h, fun _ h => h⟩
theorem Step.trans {H H1 H2 : Hp} {M M1 M2 : Addr → Prop} (a : Step H M H1 M1) (b : Step H1 M1 H2 M2) : Step H M H2 M2 :=
  ⟨fun c o h n => b.keep c o (a.keep c o h n) fun z => n (a.old c (by rw [h]; simp) z), fun c h m => a.old c h (b.old c (a.there c h) m), fun c h => b.there c (a.there c h)⟩
section
variable {G : En} {H H' : Hp} {M M' : Addr → Prop}
theorem Step.stayL (s : Step H M H' M') {a : Addr} {vs : List V} (h : StayL H M a vs) : StayL H' M' a vs := by
  rcases h with ⟨h | ⟨o, h⟩, n⟩
  · exact ⟨.inl (s.keep a _ h n), fun z => n (s.old a (by rw [h]; simp) z)⟩
  · exact ⟨.inr ⟨o, s.keep a _ h n⟩, fun z => n (s.old a (by rw [h]; simp) z)⟩
theorem Step.stayS (s : Step H M H' M') {a : Addr} {vs : List V} (h : StayS G.K H M a vs) : StayS G.K H' M' a vs := by
  rcases h with h | h
  · exact .inl (s.stayL h)
  · exact .inr h
theorem Step.stayT (s : Step H M H' M') {a : Addr} {vs : List V} (h : StayT H M a vs) : StayT H' M' a vs := ⟨s.keep a _ h.1 h.2, fun z => h.2 (s.old a (by rw [h.1]; simp) z)⟩
theorem Step.nm (s : Step H M H' M') {a : Addr} {o : HO} (h : H a = some o) (n : ¬ M a) : ¬ M' a := fun z => n (s.old a (by rw [h]; simp) z)
mutual
theorem Rep.step (s : Step H M H' M') : ∀ {v : V} {p : PV}, Rep G H M v p → Rep G H' M' v p
  | _, _, .non => .non
  | _, _, .bl b => .bl b
  | _, _, .int i => .int i
  | _, _, .str x => .str x
  | _, _, .ty x => .ty x
  | _, _, .cls x => .cls x
  | _, _, .scr h r => .scr (s.stayS h) (RepAll.step s r)
  | _, _, .lst h r => .lst (s.stayL h) (RepAll.step s r)
  | _, _, .tup h r => .tup (s.stayT h) (RepAll.step s r)
  | _, _, .dicK h n e r => .dicK (s.keep _ _ h n) (s.nm h n) e (RepAll.step s r)
  | _, _, .dicG h n k o e r => .dicG (s.keep _ _ h n) (s.nm h n) (RepAll.step s k) o e (RepAll.step s r)
  | _, _, .ins h n e r => .ins (s.keep _ _ h n) (s.nm h n) e (RepAll.step s r)
theorem RepAll.step (s : Step H M H' M') : ∀ {vs : List V} {xs : List PV}, RepAll G H M vs xs → RepAll G H' M' vs xs
  | _, _, .nil => .nil
  | _, _, .cons h r => .cons (Rep.step s h) (RepAll.step s r)
end
theorem Obj.step (s : Step H M H' M') {a : Addr} {p : PV} (h : Obj G H M a p) (e : H' a = H a) : Obj G H' M' a p := by
  cases p with
  | lst xs => obtain ⟨vs, h1, h2⟩ := h; exact ⟨vs, e.trans h1, h2.step s⟩
  | dic ps =>
    rcases h with ⟨kvs, h1, h2, h3⟩ | ⟨c, h1, h2, h3, h4, h5⟩
    · exact .inl ⟨kvs, e.trans h1, h2, h3.step s⟩
    · exact .inr ⟨c, e.trans h1, h2.step s, h3, h4, h5.step s⟩
  | set ks => obtain ⟨L, xs, h1, h2, h3⟩ := h; exact ⟨L, xs, e.trans h1, h2.step s, h3⟩
  | ins C ns vs => obtain ⟨dx, fs, h1, h2, h3⟩ := h; exact ⟨dx, fs, e.trans h1, h2, h3.step s⟩
  | _ => exact h.elim
theorem Obj.there {a : Addr} {p : PV} (h : Obj G H M a p) : H a ≠ none := by
  cases p with
  | lst xs => obtain ⟨vs, h1, h2⟩ := h; rw [h1]; simp
  | dic ps => rcases h with ⟨kvs, h1, _⟩ | ⟨c, h1, _⟩ <;> (rw [h1]; simp)
  | set ks => obtain ⟨L, xs, h1, _⟩ := h; rw [h1]; simp
  | ins C ns vs => obtain ⟨dx, fs, h1, _⟩ := h; rw [h1]; simp
  | _ => exact h.elim
/-- what comes to stay without more ado: a dict must be locked first -/
def PV.plainB : PV → Bool
  | .dic _ => false
  | .set _ => false
  | _ => true
/-- it may be changed no more -/
theorem Obj.frozen {a : Addr} {p : PV} (h : Obj G H M a p) (b : PV.plainB p = true) (n : ¬ M a) : Rep G H M (.ref a) p := by
  cases p with
  | lst xs => obtain ⟨vs, h1, h2⟩ := h; exact .lst ⟨.inl h1, n⟩ h2
  | dic ps => cases b
  | set ks => cases b
  | ins C ns vs => obtain ⟨dx, fs, h1, h2, h3⟩ := h; exact .ins h1 n h2 h3
  | _ => exact h.elim
theorem RepAll.length : ∀ {vs : List V} {xs : List PV}, RepAll G H M vs xs → vs.length = xs.length
  | _, _, .nil => rfl
  | _, _, .cons _ r => by rw [List.length_cons, List.length_cons, RepAll.length r]
theorem RepAll.get : ∀ {vs : List V} {xs : List PV} {i : Nat} {v : V}, RepAll G H M vs xs → vs[i]? = some v → ∃ x, xs[i]? = some x ∧ Rep G H M v x
  | _, _, _, _, .nil, e => by simp at e
  | _, _, 0, _, .cons h _, e => by simp at e; subst e; exact ⟨_, rfl, h⟩
  | _, _, i + 1, v, .cons _ r, e => by
    obtain ⟨x, e1, h⟩ := RepAll.get (i := i) (v := v) r (by simpa using e)
    exact ⟨x, by simpa using e1, h⟩
theorem RepAll.get' : ∀ {vs : List V} {xs : List PV} {i : Nat} {x : PV}, RepAll G H M vs xs → xs[i]? = some x → ∃ v, vs[i]? = some v ∧ Rep G H M v x
  | _, _, _, _, .nil, e => by simp at e
  | _, _, 0, _, .cons h _, e => by simp at e; subst e; exact ⟨_, rfl, h⟩
  | _, _, i + 1, x, .cons _ r, e => by
    obtain ⟨v, e1, h⟩ := RepAll.get' (i := i) (x := x) r (by simpa using e)
    exact ⟨v, by simpa using e1, h⟩
theorem RepAll.append : ∀ {vs ws : List V} {xs ys : List PV}, RepAll G H M vs xs → RepAll G H M ws ys → RepAll G H M (vs ++ ws) (xs ++ ys)
  | _, _, _, _, .nil, s => s
  | _, _, _, _, .cons h r, s => .cons h (RepAll.append r s)
theorem RepAll.take : ∀ {vs : List V} {xs : List PV} (n : Nat), RepAll G H M vs xs → RepAll G H M (vs.take n) (xs.take n)
  | _, _, 0, _ => .nil
  | _, _, _ + 1, .nil => .nil
  | _, _, n + 1, .cons h r => .cons h (RepAll.take n r)
theorem RepAll.drop : ∀ {vs : List V} {xs : List PV} (n : Nat), RepAll G H M vs xs → RepAll G H M (vs.drop n) (xs.drop n)
  | _, _, 0, r => r
  | _, _, _ + 1, .nil => .nil
  | _, _, n + 1, .cons _ r => RepAll.drop n r
theorem RepAll.set {v : V} {x : PV} (h : Rep G H M v x) : ∀ {vs : List V} {xs : List PV} (i : Nat), RepAll G H M vs xs → RepAll G H M (vs.set i v) (xs.set i x)
  | _, _, _, .nil => .nil
  | _, _, 0, .cons _ r => .cons h r
  | _, _, i + 1, .cons q r => .cons q (RepAll.set h i r)
theorem RepAll.erase : ∀ {vs : List V} {xs : List PV} (i : Nat), RepAll G H M vs xs → RepAll G H M (vs.eraseIdx i) (xs.eraseIdx i)
  | _, _, _, .nil => .nil
  | _, _, 0, .cons _ r => r
  | _, _, i + 1, .cons q r => .cons q (RepAll.erase i r)
theorem RepAll.reverse : ∀ {vs : List V} {xs : List PV}, RepAll G H M vs xs → RepAll G H M vs.reverse xs.reverse
  | _, _, .nil => .nil
  | _, _, .cons h r => by rw [List.reverse_cons, List.reverse_cons]; exact (RepAll.reverse r).append (.cons h .nil)
theorem RepAll.mem : ∀ {vs : List V} {xs : List PV} {v : V}, RepAll G H M vs xs → v ∈ vs → ∃ x ∈ xs, Rep G H M v x
  | _, _, v, r, hv => by
    obtain ⟨i, hi⟩ := List.getElem?_of_mem hv
    obtain ⟨x, e, h⟩ := r.get hi
    exact ⟨x, List.mem_of_getElem? e, h⟩

/-! ### what can be read: it stays, or it is open to change just now -/
def Acc (G : En) (H : Hp) (M : Addr → Prop) (v : V) (p : PV) : Prop := Rep G H M v p ∨ ∃ a, v = .ref a ∧ Obj G H M a p
theorem Acc.lst {v : V} {xs : List PV} (h : Acc G H M v (.lst xs)) : ∃ a vs, v = .ref a ∧ SqL G.K H a vs ∧ RepAll G H M vs xs := by
  rcases h with h | ⟨a, rfl, vs, h1, h2⟩
  · cases h with
    | lst s r => exact ⟨_, _, rfl, s.sq, r⟩
  · exact ⟨a, vs, rfl, SqL.of h1, h2⟩
theorem Acc.tup {v : V} {xs : List PV} (h : Acc G H M v (.tup xs)) : ∃ a vs, v = .ref a ∧ SqT G.K H a vs ∧ RepAll G H M vs xs := by
  rcases h with h | ⟨a, rfl, h⟩
  · cases h with
    | tup s r => exact ⟨_, _, rfl, s.sq, r⟩
  · exact h.elim
theorem Acc.tupH {v : V} {xs : List PV} (h : Acc G H M v (.tup xs)) : ∃ a vs, v = .ref a ∧ H a = some (.tup vs) ∧ RepAll G H M vs xs := by
  rcases h with h | ⟨a, rfl, h⟩
  · cases h with
    | tup s r => exact ⟨_, _, rfl, s.1, r⟩
  · exact h.elim
theorem Acc.tupR {v : V} {xs : List PV} (h : Acc G H M v (.tup xs)) : Rep G H M v (.tup xs) := by
  rcases h with h | ⟨a, rfl, h⟩
  · exact h
  · exact h.elim
theorem Acc.scr {v : V} {xs : List PV} (h : Acc G H M v (.scr xs)) : ∃ a vs, v = .ref a ∧ SqL G.K H a vs ∧ RepAll G H M vs xs := by
  rcases h with h | ⟨a, rfl, h⟩
  · cases h with
    | scr s r => exact ⟨_, _, rfl, s.sq, r⟩
  · exact h.elim
theorem Acc.int {v : V} {i : Int} (h : Acc G H M v (.int i)) : v = .int i := by
  rcases h with h | ⟨a, rfl, h⟩
  · cases h; rfl
  · exact h.elim
theorem Acc.str {v : V} {i : Str} (h : Acc G H M v (.str i)) : v = .str i := by
  rcases h with h | ⟨a, rfl, h⟩
  · cases h; rfl
  · exact h.elim
theorem Acc.bl {v : V} {i : Bool} (h : Acc G H M v (.bl i)) : v = .bl i := by
  rcases h with h | ⟨a, rfl, h⟩
  · cases h; rfl
  · exact h.elim
theorem Acc.non {v : V} (h : Acc G H M v .non) : v = .non := by
  rcases h with h | ⟨a, rfl, h⟩
  · cases h; rfl
  · exact h.elim
theorem Acc.ins {v : V} {C : Addr} {ns : List Str} {ps : List PV} (h : Acc G H M v (.ins C ns ps)) : ∃ a dx fs, v = .ref a ∧ H a = some (.ins C dx fs) ∧ fs.map (·.1) = ns ∧ RepAll G H M (fs.map (·.2)) ps := by
  rcases h with h | ⟨a, rfl, h⟩
  · cases h with
    | ins h n e r => exact ⟨_, _, _, rfl, h, e, r⟩
  · obtain ⟨dx, fs, h1, h2, h3⟩ := h; exact ⟨a, dx, fs, rfl, h1, h2, h3⟩
/-! ### as data -/
mutual
theorem Rep.dp : ∀ {v : V} {p : PV}, Rep G H M v p → PV.isD p = true → Dp G.K H v (PV.toD p)
  | _, _, .non, _ => by rw [PV.toD]; exact .non
  | _, _, .bl b, _ => by rw [PV.toD]; exact .bl b
  | _, _, .int i, _ => by rw [PV.toD]; exact .int i
  | _, _, .str x, _ => by rw [PV.toD]; exact .str x
  | _, _, .ty _, d => by rw [PV.isD] at d; cases d
  | _, _, .cls _, d => by rw [PV.isD] at d; cases d
  | _, _, .scr _ _, d => by rw [PV.isD] at d; cases d
  | _, _, .lst h r, d => by rw [PV.toD]; rw [PV.isD] at d; exact .lst h.sq (RepAll.dp r d)
  | _, _, .tup h r, d => by rw [PV.toD]; rw [PV.isD] at d; exact .tup h.sq (RepAll.dp r d)
  | _, _, .dicK _ _ _ _, d => by rw [PV.isD] at d; cases d
  | _, _, .dicG _ _ _ _ _ _, d => by rw [PV.isD] at d; cases d
  | _, _, .ins _ _ _ _, d => by rw [PV.isD] at d; cases d
theorem RepAll.dp : ∀ {vs : List V} {xs : List PV}, RepAll G H M vs xs → PV.isDs xs = true → DpAll G.K H vs (PV.toDs xs)
  | _, _, .nil, _ => by rw [PV.toDs]; exact .nil
  | _, _, .cons h r, d => by
    rw [PV.toDs]; rw [PV.isDs, Bool.and_eq_true] at d
    exact .cons (Rep.dp h d.1) (RepAll.dp r d.2)
end
theorem Acc.dp {v : V} {p : PV} (h : Acc G H M v p) (d : PV.isD p = true) : Dp G.K H v (PV.toD p) := by
  rcases h with h | ⟨a, rfl, h⟩
  · exact h.dp d
  · cases p with
    | lst xs =>
      obtain ⟨vs, h1, h2⟩ := h
      rw [PV.toD]; rw [PV.isD] at d
      exact .lst (SqL.of h1) (h2.dp d)
    | dic ps => rw [PV.isD] at d; cases d
    | set ks => rw [PV.isD] at d; cases d
    | ins C ns vs => rw [PV.isD] at d; cases d
    | _ => exact h.elim
theorem toDs_map (xs : List PV) : PV.toDs xs = xs.map PV.toD := by
  induction xs with
  | nil => rw [PV.toDs]; rfl
  | cons x xs ih => rw [PV.toDs, ih]; rfl
theorem isDs_all (xs : List PV) : PV.isDs xs = xs.all PV.isD := by
  induction xs with
  | nil => rw [PV.isDs]; rfl
  | cons x xs ih => rw [PV.isDs, ih]; rfl
theorem nks_map (xs : List PV) : PV.nks xs = xs.map PV.nk := by
  induction xs with
  | nil => rw [PV.nks]; rfl
  | cons x xs ih => rw [PV.nks, ih]; rfl
theorem kOks_all (xs : List PV) : PV.kOks xs = xs.all PV.kOk := by
  induction xs with
  | nil => rw [PV.kOks]; rfl
  | cons x xs ih => rw [PV.kOks, ih]; rfl
end
end CP
/-! The slots of a def without the heap, and readings over them. -/
namespace CP
open PySem PySem.Spec PyProof.Rows L2
/-- a slot: not known; a value that stays; a thing that only this slot holds; a thing that a caller lent, to be changed -/
inductive Sl where
  | no | val (p : PV) | own (p : PV) | io (p : PV)
abbrev PEnv := List Sl
/-- an expression's value: one that stays; a new thing that nobody holds; what stands in slot i -/
inductive QV where
  | sh (p : PV) | fr (p : PV) | bor (i : Nat)
structure Gh extends En where
  H0 : Hp
  M0 : Addr → Prop
  iol : List (Nat × Addr)
  /-- things under way, not to be touched -/
  tmp : List (Addr × HO)
def Mu (e : PEnv) (i : Nat) : Prop := ∃ p : PV, e[i]? = some (Sl.own p) ∨ e[i]? = some (Sl.io p)
structure StOk (G : Gh) (e : PEnv) (M : Addr → Prop) (σ : L2.St) (H : Hp) : Prop where
  len : e.length = σ.length
  val : ∀ (i : Nat) (p : PV), e[i]? = some (Sl.val p) → ∃ v, σ[i]? = some (some v) ∧ Rep G.toEn H M v p
  own : ∀ (i : Nat) (p : PV), e[i]? = some (Sl.own p) → ∃ a, σ[i]? = some (some (.ref a)) ∧ Obj G.toEn H M a p ∧ M a ∧ ¬ G.M0 a ∧ G.H0 a = none
  io : ∀ (i : Nat) (p : PV), e[i]? = some (Sl.io p) → ∃ a, (i, a) ∈ G.iol ∧ σ[i]? = some (some (.ref a)) ∧ Obj G.toEn H M a p ∧ M a ∧ ¬ G.M0 a
  inj : ∀ (i j : Nat) (a : Addr), Mu e i → Mu e j → σ[i]? = some (some (.ref a)) → σ[j]? = some (some (.ref a)) → i = j
  iol : ∀ (i : Nat) (a : Addr), (i, a) ∈ G.iol → σ[i]? = some (some (.ref a)) ∧ ∃ p, e[i]? = some (Sl.io p)
  m0 : ∀ a, G.M0 a → M a
  trk : ∀ a, M a → H a ≠ none
  prs : ∀ b o, G.H0 b = some o → (∀ i, (i, b) ∉ G.iol) → H b = some o
  tmp : ∀ a o, (a, o) ∈ G.tmp → G.M0 a ∧ H a = some o
section
variable {G : Gh} {e e' : PEnv} {M M' : Addr → Prop} {σ : L2.St} {H H' : Hp}
theorem StOk.mu (S : StOk G e M σ H) {i : Nat} (m : Mu e i) : ∃ a p, σ[i]? = some (some (.ref a)) ∧ (e[i]? = some (Sl.own p) ∨ e[i]? = some (Sl.io p)) ∧ Obj G.toEn H M a p ∧ M a ∧ ¬ G.M0 a ∧ (G.H0 a = none ∨ (i, a) ∈ G.iol) := by
  obtain ⟨p, h | h⟩ := m
  · obtain ⟨a, h1, h2, h3, h4, h5⟩ := S.own i p h
    exact ⟨a, p, h1, .inl h, h2, h3, h4, .inl h5⟩
  · obtain ⟨a, h0, h1, h2, h3, h4⟩ := S.io i p h
    exact ⟨a, p, h1, .inr h, h2, h3, h4, .inr h0⟩
theorem StOk.h0 (S : StOk G e M σ H) {p : Addr} (hp : H p = none) : G.H0 p = none := by
  cases q : G.H0 p with
  | none => rfl
  | some o =>
    by_cases c : ∃ i, (i, p) ∈ G.iol
    · obtain ⟨i, hi⟩ := c
      obtain ⟨h1, pp, h2⟩ := S.iol i p hi
      obtain ⟨a, _, h3, h4, _⟩ := S.io i pp h2
      rw [h1] at h3
      cases h3
      exact absurd hp h4.there
    · have := S.prs p o q fun i hi => c ⟨i, hi⟩
      rw [hp] at this; cases this
/-- the heap goes on, the slots stay -/
theorem StOk.go (S : StOk G e M σ H) (s : Step H M H' M') (sub : ∀ a, M a → M' a) (trk : ∀ a, M' a → H' a ≠ none) (eq : ∀ a, M a → H' a = H a) : StOk G e M' σ H' where
  len := S.len
  val := fun i p h => let ⟨v, h1, h2⟩ := S.val i p h; ⟨v, h1, h2.step s⟩
  own := fun i p h => let ⟨a, h1, h2, h3, h4, h5⟩ := S.own i p h; ⟨a, h1, h2.step s (eq a h3), sub a h3, h4, h5⟩
  io := fun i p h => let ⟨a, h0, h1, h2, h3, h4⟩ := S.io i p h; ⟨a, h0, h1, h2.step s (eq a h3), sub a h3, h4⟩
  inj := S.inj
  iol := S.iol
  m0 := fun a h => sub a (S.m0 a h)
  trk := trk
  prs := fun b o h n => by
    have q := S.prs b o h n
    by_cases c : M b
    · rw [eq b c]; exact q
    · exact s.keep b o q c
  tmp := fun a o h => let ⟨q1, q2⟩ := S.tmp a o h; ⟨q1, (eq a (S.m0 a q1)).trans q2⟩
theorem step_new {p : Addr} {o : HO} (hp : H p = none) : Step H M (L2.upd H p o) M :=
  ⟨fun b u h _ => by rw [upd_ne (ne_of_none h hp)]; exact h, fun _ _ h => h, fun b h => by
    by_cases c : b = p
    · rw [c, upd_same]; simp
    · rw [upd_ne c]; exact h⟩
theorem StOk.new (S : StOk G e M σ H) {p : Addr} {o : HO} (hp : H p = none) : StOk G e M σ (L2.upd H p o) :=
  S.go (step_new hp) (fun _ h => h) (fun a h => by
    by_cases c : a = p
    · rw [c, upd_same]; simp
    · rw [upd_ne c]; exact S.trk a h) (fun a h => by rw [upd_ne (fun c => by rw [c] at h; exact S.trk p h hp)])
/-- .. and what is new may change -/
theorem StOk.newM (S : StOk G e M σ H) {p : Addr} {o : HO} (hp : H p = none) : StOk G e (fun a => a = p ∨ M a) σ (L2.upd H p o) ∧ Step H M (L2.upd H p o) (fun a => a = p ∨ M a) := by
  have s : Step H M (L2.upd H p o) (fun a => a = p ∨ M a) := ⟨fun b u h _ => by rw [upd_ne (ne_of_none h hp)]; exact h, fun b h m => m.elim (fun c => by rw [c] at h; exact absurd hp h) id, (step_new (M := M) hp).there⟩
  refine ⟨S.go s (fun _ h => .inr h) (fun a h => ?_) (fun a h => by rw [upd_ne (fun c => by rw [c] at h; exact S.trk p h hp)]), s⟩
  rcases h with rfl | h
  · rw [upd_same]; simp
  · by_cases c : a = p
    · rw [c, upd_same]; simp
    · rw [upd_ne c]; exact S.trk a h
/-- fewer may change -/
theorem step_less {A : Addr} : Step H M H (fun a => M a ∧ a ≠ A) := ⟨fun _ _ h _ => h, fun _ _ h => h.1, fun _ h => h⟩

/-! ### values of expressions -/
def Res (G : Gh) (e : PEnv) (M : Addr → Prop) (σ : L2.St) (H : Hp) (v : V) : QV → Prop
  | .sh p => Rep G.toEn H M v p
  | .fr p => ∃ a, v = .ref a ∧ Obj G.toEn H M a p ∧ M a ∧ ¬ G.M0 a ∧ G.H0 a = none ∧ ∀ j, Mu e j → σ[j]? ≠ some (some (.ref a))
  | .bor i => σ[i]? = some (some v)
/-- what a slot holds -/
def Sl.get : Sl → Option PV
  | .no => none
  | .val p => some p
  | .own p => some p
  | .io p => some p
def acc (e : PEnv) : QV → Option PV
  | .sh p => some p
  | .fr p => some p
  | .bor i => (e[i]?).bind Sl.get
theorem Res.acc (S : StOk G e M σ H) {v : V} {r : QV} {p : PV} (h : Res G e M σ H v r) (e1 : CP.acc e r = some p) : Acc G.toEn H M v p := by
  cases r with
  | sh q => cases e1; exact .inl h
  | fr q => cases e1; obtain ⟨a, rfl, o, _⟩ := h; exact .inr ⟨a, rfl, o⟩
  | bor i =>
    have h : σ[i]? = some (some v) := h
    have e1 : (e[i]?).bind Sl.get = some p := e1
    cases c : e[i]? with
    | none => rw [c] at e1; cases e1
    | some s =>
      rw [c] at e1
      cases s with
      | no => cases e1
      | val q =>
        cases e1
        obtain ⟨w, h1, h2⟩ := S.val i _ c
        rw [h] at h1; cases h1
        exact .inl h2
      | own q =>
        cases e1
        obtain ⟨a, h1, h2, _⟩ := S.own i _ c
        rw [h] at h1; cases h1
        exact .inr ⟨a, rfl, h2⟩
      | io q =>
        cases e1
        obtain ⟨a, _, h1, h2, _⟩ := S.io i _ c
        rw [h] at h1; cases h1
        exact .inr ⟨a, rfl, h2⟩
/-- new things nobody holds come to stay -/
def settle : QV → QV
  | .fr p => .sh p
  | r => r
/-- .. which a dict does not by itself -/
def stl (r : QV) (k : Prop) : Prop := match r with
  | .fr p => PV.plainB p = true ∧ k
  | _ => k
theorem stl_of {r : QV} {k : Prop} (h : stl r k) : (∀ p, r = .fr p → PV.plainB p = true) ∧ k := by
  cases r with
  | sh p => exact ⟨(fun _ z => by cases z), h⟩
  | bor i => exact ⟨(fun _ z => by cases z), h⟩
  | fr p => exact ⟨(fun _ z => by cases z; exact h.1), h.2⟩
theorem Res.settle (S : StOk G e M σ H) {v : V} {r : QV} (h : Res G e M σ H v r) (b : ∀ p, r = .fr p → PV.plainB p = true) : ∃ M', StOk G e M' σ H ∧ Step H M H M' ∧ Res G e M' σ H v (settle r) := by
  cases r with
  | sh p => exact ⟨M, S, .refl, h⟩
  | bor i => exact ⟨M, S, .refl, h⟩
  | fr p =>
    obtain ⟨a, rfl, o, ma, m0, h0, nj⟩ := h
    have s : Step H M H (fun b => M b ∧ b ≠ a) := step_less
    refine ⟨_, ⟨S.len, fun i p h => let ⟨v, h1, h2⟩ := S.val i p h; ⟨v, h1, h2.step s⟩, fun i p h => ?_, fun i p h => ?_, S.inj, S.iol, fun b h => ⟨S.m0 b h, fun z => m0 (z ▸ h)⟩, fun b h => S.trk b h.1, S.prs, S.tmp⟩, s, ?_⟩
    · obtain ⟨b, h1, h2, h3, h4, h5⟩ := S.own i p h
      exact ⟨b, h1, h2.step s rfl, ⟨h3, fun z => nj i ⟨p, .inl h⟩ (z ▸ h1)⟩, h4, h5⟩
    · obtain ⟨b, h0, h1, h2, h3, h4⟩ := S.io i p h
      exact ⟨b, h0, h1, h2.step s rfl, ⟨h3, fun z => nj i ⟨p, .inr h⟩ (z ▸ h1)⟩, h4⟩
    · exact (o.step s rfl).frozen (b p rfl) fun z => z.2 rfl
/-- behind further evaluation -/
theorem Res.later (s : Step H M H' M') {v : V} {r : QV} (h : Res G e M σ H v (CP.settle r)) : Res G e' M' σ H' v (CP.settle r) := by
  cases r with
  | sh p => exact Rep.step s h
  | bor i => exact h
  | fr p => exact Rep.step s h
/-- it goes into something that stays -/
def keep (r : QV) (e : PEnv) (k : PV → PEnv → Prop) : Prop :=
  match r with
  | .sh p => k p e
  | .fr p => PV.plainB p = true ∧ k p e
  | .bor i => match e[i]? with
    | some (Sl.val p) => k p e
    | some (Sl.own p) => PV.plainB p = true ∧ k p (e.set i (.val p))
    | _ => False
theorem get_lt {e : PEnv} {i : Nat} {s : Sl} (h : e[i]? = some s) : i < e.length := (List.getElem?_eq_some_iff.mp h).1
theorem mu_set {e : PEnv} {i : Nat} {p : PV} (hi : i < e.length) {j : Nat} (m : Mu (e.set i (.val p)) j) : j ≠ i ∧ Mu e j := by
  obtain ⟨q, h⟩ := m
  by_cases c : j = i
  · subst c
    rw [List.getElem?_set_self hi] at h
    rcases h with h | h <;> cases h
  · rw [List.getElem?_set_ne (Ne.symm c)] at h
    exact ⟨c, q, h⟩
/-- a slot's own thing comes to stay -/
theorem StOk.freeze (S : StOk G e M σ H) {i : Nat} {p : PV} {a : Addr} (pb : PV.plainB p = true) (hi : e[i]? = some (Sl.own p)) (ha : σ[i]? = some (some (.ref a))) :
    StOk G (e.set i (.val p)) (fun b => M b ∧ b ≠ a) σ H ∧ Step H M H (fun b => M b ∧ b ≠ a) ∧ Rep G.toEn H (fun b => M b ∧ b ≠ a) (.ref a) p := by
  have s : Step H M H (fun b => M b ∧ b ≠ a) := step_less
  obtain ⟨a', h1, h2, h3, h4, h5⟩ := S.own i p hi
  rw [ha] at h1; cases h1
  have rp : Rep G.toEn H (fun b => M b ∧ b ≠ a) (.ref a) p := (h2.step s rfl).frozen pb fun z => z.2 rfl
  have li := get_lt hi
  have other : ∀ j, j ≠ i → (e.set i (.val p))[j]? = e[j]? := fun j c => List.getElem?_set_ne (Ne.symm c)
  refine ⟨⟨by rw [List.length_set]; exact S.len, fun j q h => ?_, fun j q h => ?_, fun j q h => ?_, fun j k b mj mk => S.inj j k b (mu_set li mj).2 (mu_set li mk).2, fun j b h => ?_, fun b h => ⟨S.m0 b h, fun z => h4 (z ▸ h)⟩, fun b h => S.trk b h.1, S.prs, S.tmp⟩, s, rp⟩
  · by_cases c : j = i
    · subst c
      rw [List.getElem?_set_self li] at h; cases h
      exact ⟨_, ha, rp⟩
    · rw [other j c] at h
      obtain ⟨v, q1, q2⟩ := S.val j q h
      exact ⟨v, q1, q2.step s⟩
  · have ⟨c, m⟩ := mu_set li ⟨q, .inl h⟩
    rw [other j c] at h
    obtain ⟨b, q1, q2, q3, q4, q5⟩ := S.own j q h
    exact ⟨b, q1, q2.step s rfl, ⟨q3, fun z => c (S.inj j i a m ⟨p, .inl hi⟩ (z ▸ q1) ha)⟩, q4, q5⟩
  · have ⟨c, m⟩ := mu_set li ⟨q, .inr h⟩
    rw [other j c] at h
    obtain ⟨b, q0, q1, q2, q3, q4⟩ := S.io j q h
    exact ⟨b, q0, q1, q2.step s rfl, ⟨q3, fun z => c (S.inj j i a m ⟨p, .inl hi⟩ (z ▸ q1) ha)⟩, q4⟩
  · obtain ⟨q1, q, q2⟩ := S.iol j b h
    have c : j ≠ i := fun c => by rw [c, hi] at q2; cases q2
    exact ⟨q1, q, by rw [other j c]; exact q2⟩
theorem keep_ok (S : StOk G e M σ H) {v : V} {r : QV} {k : PV → PEnv → Prop} (h : Res G e M σ H v r) (hk : keep r e k) : ∃ p e' M', k p e' ∧ StOk G e' M' σ H ∧ Step H M H M' ∧ Rep G.toEn H M' v p := by
  cases r with
  | sh p => exact ⟨p, e, M, hk, S, .refl, h⟩
  | fr p =>
    obtain ⟨M', S', s, h'⟩ := Res.settle S h (fun q z => by cases z; exact hk.1)
    exact ⟨p, e, M', hk.2, S', s, h'⟩
  | bor i =>
    have h : σ[i]? = some (some v) := h
    unfold keep at hk
    dsimp only at hk
    cases c : e[i]? with
    | none => rw [c] at hk; exact hk.elim
    | some s =>
      rw [c] at hk
      cases s with
      | no => exact hk.elim
      | io q => exact hk.elim
      | val q =>
        obtain ⟨w, h1, h2⟩ := S.val i _ c
        rw [h] at h1; cases h1
        exact ⟨q, e, M, hk, S, .refl, h2⟩
      | own q =>
        obtain ⟨a, h1, h2, _⟩ := S.own i _ c
        rw [h] at h1; cases h1
        obtain ⟨S', s, rp⟩ := S.freeze hk.1 c h
        exact ⟨q, _, _, hk.2, S', s, rp⟩
/-- a mutable thing's new content -/
def Sl.put : Sl → PV → Sl
  | .own _, p => .own p
  | .io _, p => .io p
  | s, _ => s
def putC : PEnv → Nat → PV → PEnv
  | [], _, _ => []
  | s :: e, 0, p => s.put p :: e
  | s :: e, i + 1, p => s :: putC e i p
def Sl.mget : Sl → Option PV
  | .own p => some p
  | .io p => some p
  | _ => none
/-- what stands in a slot, to be changed -/
def getC (e : PEnv) (i : Nat) : Option PV := (e[i]?).bind Sl.mget
theorem putC_len : ∀ (e : PEnv) (i : Nat) (p : PV), (putC e i p).length = e.length
  | [], _, _ => rfl
  | s :: e, 0, p => rfl
  | s :: e, i + 1, p => by rw [putC, List.length_cons, List.length_cons, putC_len e i p]
theorem putC_same : ∀ {e : PEnv} {i : Nat} (p : PV) {s : Sl}, e[i]? = some s → (putC e i p)[i]? = some (s.put p)
  | [], _, _, _, h => by simp at h
  | s :: e, 0, p, s', h => by simp at h; subst h; rfl
  | s :: e, i + 1, p, s', h => by rw [putC]; simpa using putC_same (i := i) p (by simpa using h)
theorem putC_ne : ∀ {e : PEnv} {i j : Nat} {p : PV}, j ≠ i → (putC e i p)[j]? = e[j]?
  | [], _, _, _, _ => rfl
  | s :: e, 0, 0, p, h => absurd rfl h
  | s :: e, 0, j + 1, p, _ => by rw [putC]; rfl
  | s :: e, i + 1, 0, p, _ => by rw [putC]; rfl
  | s :: e, i + 1, j + 1, p, h => by rw [putC]; simpa using putC_ne (e := e) (i := i) (j := j) (fun c => h (by rw [c]))
theorem mu_putC {e : PEnv} {i : Nat} {p : PV} {j : Nat} : Mu (putC e i p) j ↔ Mu e j := by
  by_cases c : j = i
  · subst c
    unfold Mu
    cases h : e[j]? with
    | none =>
      have : (putC e j p)[j]? = none := by
        refine List.getElem?_eq_none_iff.mpr ?_
        rw [putC_len]; exact List.getElem?_eq_none_iff.mp h
      rw [this]
    | some s =>
      rw [putC_same p h]
      cases s with
      | no => constructor <;> (rintro ⟨q, z | z⟩ <;> cases z)
      | val r => constructor <;> (rintro ⟨q, z | z⟩ <;> cases z)
      | own r => exact ⟨fun _ => ⟨r, .inl rfl⟩, fun _ => ⟨p, .inl rfl⟩⟩
      | io r => exact ⟨fun _ => ⟨r, .inr rfl⟩, fun _ => ⟨p, .inr rfl⟩⟩
  · unfold Mu; rw [putC_ne c]
theorem getC_mu {e : PEnv} {i : Nat} {p : PV} (h : getC e i = some p) : Mu e i ∧ (e[i]? = some (Sl.own p) ∨ e[i]? = some (Sl.io p)) := by
  unfold getC at h
  cases c : e[i]? with
  | none => rw [c] at h; cases h
  | some s =>
    rw [c] at h
    cases s with
    | no => cases h
    | val q => cases h
    | own q => cases h; exact ⟨⟨p, .inl c⟩, .inl rfl⟩
    | io q => cases h; exact ⟨⟨p, .inr c⟩, .inr rfl⟩
/-- a slot's thing is changed -/
theorem StOk.change (S : StOk G e M σ H) {i : Nat} {p p' : PV} {a : Addr} {o : HO} (hi : getC e i = some p) (ha : σ[i]? = some (some (.ref a)))
    (ob : Step H M (L2.upd H a o) M → Obj G.toEn (L2.upd H a o) M a p') : StOk G (putC e i p') M σ (L2.upd H a o) ∧ Step H M (L2.upd H a o) M := by
  obtain ⟨mi, hs⟩ := getC_mu hi
  obtain ⟨a', q, h1, h2, h3, h4, h5, h6⟩ := S.mu mi
  rw [ha] at h1; cases h1
  have s : Step H M (L2.upd H a o) M := ⟨fun b u h n => by rw [upd_ne (fun c : b = a => n (by rw [c]; exact h4))]; exact h, fun _ _ h => h, fun b h => by
    by_cases c : b = a
    · rw [c, upd_same]; simp
    · rw [upd_ne c]; exact h⟩
  have obj := ob s
  have away : ∀ {j b}, j ≠ i → Mu e j → σ[j]? = some (some (.ref b)) → b ≠ a := fun {j b} c m hb z => c (S.inj j i a m mi (z ▸ hb) ha)
  have same : ∀ {x : Sl}, e[i]? = some x → (putC e i p')[i]? = some (x.put p') := fun h => putC_same p' h
  refine ⟨⟨by rw [putC_len]; exact S.len, fun j q h => ?_, fun j q h => ?_, fun j q h => ?_, fun j k b mj mk => S.inj j k b (mu_putC.mp mj) (mu_putC.mp mk), fun j b h => ?_, S.m0, fun b h => s.there b (S.trk b h), fun b u h n => ?_, fun b u h => ?_⟩, s⟩
  · by_cases c : j = i
    · subst c
      rcases hs with hs | hs <;> (rw [same hs] at h; cases h)
    · rw [putC_ne c] at h
      obtain ⟨v, q1, q2⟩ := S.val j q h
      exact ⟨v, q1, q2.step s⟩
  · by_cases c : j = i
    · subst c
      rcases hs with hs | hs
      · rw [same hs] at h; cases h
        obtain ⟨b, q1, q2, q3, q4, q5⟩ := S.own j _ hs
        rw [ha] at q1; cases q1
        exact ⟨a, ha, obj, q3, q4, q5⟩
      · rw [same hs] at h; cases h
    · rw [putC_ne c] at h
      obtain ⟨b, q1, q2, q3, q4, q5⟩ := S.own j q h
      exact ⟨b, q1, q2.step s (by rw [upd_ne (away c ⟨q, .inl h⟩ q1)]), q3, q4, q5⟩
  · by_cases c : j = i
    · subst c
      rcases hs with hs | hs
      · rw [same hs] at h; cases h
      · rw [same hs] at h; cases h
        obtain ⟨b, q0, q1, q2, q3, q4⟩ := S.io j _ hs
        rw [ha] at q1; cases q1
        exact ⟨a, q0, ha, obj, q3, q4⟩
    · rw [putC_ne c] at h
      obtain ⟨b, q0, q1, q2, q3, q4⟩ := S.io j q h
      exact ⟨b, q0, q1, q2.step s (by rw [upd_ne (away c ⟨q, .inr h⟩ q1)]), q3, q4⟩
  · obtain ⟨q1, q, q2⟩ := S.iol j b h
    refine ⟨q1, ?_⟩
    by_cases c : j = i
    · subst c
      exact ⟨p', by rw [same q2]; rfl⟩
    · exact ⟨q, by rw [putC_ne c]; exact q2⟩
  · have q := S.prs b u h n
    have c : b ≠ a := fun c => by
      rcases h6 with z | z
      · rw [c, z] at h; cases h
      · exact n i (c ▸ z)
    rw [upd_ne c]; exact q
  · obtain ⟨q1, q2⟩ := S.tmp b u h
    exact ⟨q1, by rw [upd_ne (fun c : b = a => h5 (by rw [← c]; exact q1))]; exact q2⟩
/-- a new thing -/
theorem StOk.newLst (S : StOk G e M σ H) {p : Addr} {vs : List V} {xs : List PV} (hp : H p = none) (r : RepAll G.toEn H M vs xs) :
    StOk G e (fun a => a = p ∨ M a) σ (L2.upd H p (.lst vs)) ∧ Step H M (L2.upd H p (.lst vs)) (fun a => a = p ∨ M a) ∧ Res G e (fun a => a = p ∨ M a) σ (L2.upd H p (.lst vs)) (.ref p) (.fr (.lst xs)) := by
  obtain ⟨S', s⟩ := S.newM (o := .lst vs) hp
  refine ⟨S', s, p, rfl, ⟨vs, upd_same, r.step s⟩, .inl rfl, fun z => ?_, S.h0 hp, fun j m z => ?_⟩
  · exact S.trk p (S.m0 p z) hp
  · obtain ⟨a, q, h1, _, h2, _⟩ := S.mu m
    rw [z] at h1; cases h1
    exact h2.there hp
theorem StOk.newTup (S : StOk G e M σ H) {p : Addr} {vs : List V} {xs : List PV} (hp : H p = none) (r : RepAll G.toEn H M vs xs) :
    StOk G e M σ (L2.upd H p (.tup vs)) ∧ Step H M (L2.upd H p (.tup vs)) M ∧ Res G e M σ (L2.upd H p (.tup vs)) (.ref p) (.sh (.tup xs)) := by
  have s : Step H M (L2.upd H p (.tup vs)) M := step_new hp
  exact ⟨S.new hp, s, .tup ⟨upd_same, fun z => S.trk p z hp⟩ (r.step s)⟩
end
/-! ### readings -/
abbrev QE := PEnv → (QV → PEnv → Prop) → Prop
abbrev QT := PEnv → (Bool → PEnv → Prop) → Prop
/-- arguments that are kept; arguments that are only looked at -/
abbrev QAs := PEnv → (List PV → PEnv → Prop) → Prop
abbrev QBs := PEnv → (List QV → PEnv → Prop) → Prop
/-- behind an expression -/
def Aft (G : Gh) (σ : L2.St) (H : Hp) (M : Addr → Prop) (Q : VK) (r : QV) (e : PEnv) : Prop := ∀ v H' M', StOk G e M' σ H' → Step H M H' M' → Res G e M' σ H' v r → Q v H'
/-- K: any end from which one comes on -/
def LE (G : Gh) (q : QE) : TE := fun σ H Q => ∃ e M K, StOk G e M σ H ∧ q e K ∧ ∀ r e', K r e' → Aft G σ H M Q r e'
def LT (G : Gh) (q : QT) : TT := fun σ H Q => ∃ e M K, StOk G e M σ H ∧ q e K ∧ ∀ b e', K b e' → ∀ H' M', StOk G e' M' σ H' → Step H M H' M' → Q b H'
inductive ResAll (G : Gh) (e : PEnv) (M : Addr → Prop) (σ : L2.St) (H : Hp) : List V → List QV → Prop
  | nil : ResAll G e M σ H [] []
  | cons {v vs r rs} : Res G e M σ H v (settle r) → ResAll G e M σ H vs rs → ResAll G e M σ H (v :: vs) (settle r :: rs)
def LA (G : Gh) (q : QAs) : TA := fun σ H Q => ∃ e M K, StOk G e M σ H ∧ q e K ∧ ∀ ps e', K ps e' → ∀ vs H' M', StOk G e' M' σ H' → Step H M H' M' → RepAll G.toEn H' M' vs ps → Q vs H'
def LB (G : Gh) (q : QBs) : TA := fun σ H Q => ∃ e M K, StOk G e M σ H ∧ q e K ∧ ∀ rs e', K rs e' → ∀ vs H' M', StOk G e' M' σ H' → Step H M H' M' → ResAll G e' M' σ H' vs rs → Q vs H'
/-- a weaker reading -/
theorem PE.imp {X : Cx} {e : Expr} {t t' : TE} (h : PE X e t) (f : ∀ σ H Q, t' σ H Q → t σ H Q) : PE X e t' := ⟨fun pins s σ H Q I q => h.run pins s σ H Q I (f σ H Q q)⟩
theorem PT.imp {X : Cx} {e : Expr} {t t' : TT} (h : PT X e t) (f : ∀ σ H Q, t' σ H Q → t σ H Q) : PT X e t' := ⟨fun pins s σ H Q I q => h.run pins s σ H Q I (f σ H Q q)⟩
theorem PA.imp {X : Cx} {e : List Expr} {t t' : TA} (h : PA X e t) (f : ∀ σ H Q, t' σ H Q → t σ H Q) : PA X e t' := ⟨fun pos pins s σ H Q I q => h.run pos pins s σ H Q I (f σ H Q q)⟩
theorem PS.imp {X : Cx} {e : Stmt} {t t' : TS} (h : PS X e t) (f : ∀ D σ H, t' D σ H → t D σ H) : PS X e t' := ⟨fun pins s σ H D I q => h.run pins s σ H D I (f D σ H q)⟩
theorem PSs.imp {X : Cx} {e : List Stmt} {t t' : TS} (h : PSs X e t) (f : ∀ D σ H, t' D σ H → t D σ H) : PSs X e t' := ⟨fun pins s σ H D I q => h.run pins s σ H D I (f D σ H q)⟩
/-- what every context of ours has -/
structure Good (G : Gh) (lv : Nat) (X : Cx) : Prop where
  P : X.prog = G.P
  w : X.w = G.w
  K : X.K = G.K
  calm : X.calm = true
  nd : X.N.Nodup
  room : Room lv X.A
section
variable {G : Gh} {lv : Nat} {X : Cx}
theorem Good.units (g : Good G lv X) : X.A.units + 64 < cLine := g.room.units

def qVar (i : Nat) : QE := fun e Q => match e[i]? with
  | some (Sl.val p) => Q (.sh p) e
  | some (Sl.own _) => Q (.bor i) e
  | some (Sl.io _) => Q (.bor i) e
  | _ => False
theorem q_var {i : Nat} {x : Expr} (h : PE X x (tVar i)) : PE X x (LE G (qVar i)) := by
  refine PE.imp h fun σ H Q ⟨e, M, K, S, q, f⟩ => ?_
  unfold qVar at q
  cases c : e[i]? with
  | none => rw [c] at q; exact q.elim
  | some s =>
    rw [c] at q
    cases s with
    | no => exact q.elim
    | val p =>
      obtain ⟨v, h1, h2⟩ := S.val i p c
      exact ⟨v, h1, f _ _ q v H M S .refl h2⟩
    | own p =>
      obtain ⟨a, h1, _⟩ := S.own i p c
      exact ⟨_, h1, f _ _ q _ H M S .refl h1⟩
    | io p =>
      obtain ⟨a, _, h1, _⟩ := S.io i p c
      exact ⟨_, h1, f _ _ q _ H M S .refl h1⟩
def qC (p : PV) : QE := fun e Q => Q (.sh p) e
theorem c_ok {v : V} {p : PV} (r : ∀ H M, Rep G.toEn H M v p) {σ : L2.St} {H : Hp} {Q : VK} (h : LE G (qC p) σ H Q) : Q v H := by
  obtain ⟨e, M, K, S, q, f⟩ := h
  exact f _ _ q _ _ _ S .refl (r H M)
theorem q_int {i j pos} : PE X (.Constant (.int i) j pos) (LE G (qC (.int i))) := PE.imp pe_int fun _ _ _ h => c_ok (fun _ _ => .int i) h
theorem q_bl {i j pos} : PE X (.Constant (.bool i) j pos) (LE G (qC (.bl i))) := PE.imp pe_bl fun _ _ _ h => c_ok (fun _ _ => .bl i) h
theorem q_non {j pos} : PE X (.Constant .none j pos) (LE G (qC .non)) := PE.imp pe_non fun _ _ _ h => c_ok (fun _ _ => .non) h
theorem q_str {i j pos} : PE X (.Constant (.str i) j pos) (LE G (qC (.str i))) := PE.imp pe_str fun _ _ _ h => c_ok (fun _ _ => .str i) h
/-- a constant of the module: a number, a text -/
theorem q_globI {x : Str} {u : Value} {i : Int} {pos : Pos} (hg : Gl X x) (hm : X.mg x = some u) (r : RelV (.int i) u) (hd : (x == ("__debug__" : Str)) = false := by decide) : PE X (.Name x pos) (LE G (qC (.int i))) := PE.imp (pe_glob hg hm r hd) fun _ _ _ h => c_ok (fun _ _ => .int i) h
theorem q_globS {x : Str} {u : Value} {i : Str} {pos : Pos} (hg : Gl X x) (hm : X.mg x = some u) (r : RelV (.str i) u) (hd : (x == ("__debug__" : Str)) = false := by decide) : PE X (.Name x pos) (LE G (qC (.str i))) := PE.imp (pe_glob hg hm r hd) fun _ _ _ h => c_ok (fun _ _ => .str i) h

/-! ### two operands -/
/-- g speaks of a two-place operation as r does -/
def Lift2 (G : Gh) (r : R2) (g : PV → PV → (QV → Prop) → Prop) : Prop := ∀ (e : PEnv) (M : Addr → Prop) (σ : L2.St) (H : Hp) (v w : V) (p q : PV) (Q : VK) (k : QV → Prop),
  StOk G e M σ H → Acc G.toEn H M v p → Acc G.toEn H M w q → g p q k → (∀ r, k r → Aft G σ H M Q r e) → r v w H Q
def withP (o : Option PV) (k : PV → Prop) : Prop := match o with
  | some p => k p
  | none => False
theorem withP_some {p : PV} {k : PV → Prop} : withP (some p) k = k p := rfl
theorem withP_of {o : Option PV} {k : PV → Prop} (h : withP o k) : ∃ p, o = some p ∧ k p := by
  cases o with
  | none => exact h.elim
  | some p => exact ⟨p, rfl, h⟩
def qOp (g : PV → PV → (QV → Prop) → Prop) (qa qb : QE) : QE := fun e Q => qa e fun r1 e1 => stl r1 <| qb e1 fun r2 e2 => withP (acc e2 r1) fun p1 => withP (acc e2 r2) fun p2 => g p1 p2 fun r => Q r e2
theorem acc_settle {e : PEnv} {r : QV} : acc e (settle r) = acc e r := by cases r <;> rfl
theorem Aft.from {σ : L2.St} {H H1 : Hp} {M M1 : Addr → Prop} {Q : VK} {r : QV} {e : PEnv} (h : Aft G σ H M Q r e) (s : Step H M H1 M1) : Aft G σ H1 M1 Q r e := fun v H' M' S' s' R => h v H' M' S' (s.trans s') R
theorem two_ok {qa qb : QE} {R : V → V → Hp → Prop} {e : PEnv} {M : Addr → Prop} {σ : L2.St} {H : Hp} {K : QV → QV → PEnv → Prop} (S : StOk G e M σ H)
    (h : qa e fun r1 e1 => stl r1 <| qb e1 fun r2 e2 => K r1 r2 e2)
    (f : ∀ r1 r2 e2, K r1 r2 e2 → ∀ v w H' M', StOk G e2 M' σ H' → Step H M H' M' → Res G e2 M' σ H' v (settle r1) → Res G e2 M' σ H' w r2 → R v w H') : LE G qa σ H fun x H1 => LE G qb σ H1 fun y H2 => R x y H2 := by
  refine ⟨e, M, _, S, h, fun r1 e1 k1 v H1 M1 S1 s1 R1 => ?_⟩
  obtain ⟨pb, k1⟩ := stl_of k1
  obtain ⟨M2, S2, s2, R2⟩ := Res.settle S1 R1 pb
  refine ⟨e1, M2, _, S2, k1, fun r2 e2 k2 w H3 M3 S3 s3 R3 => ?_⟩
  exact f r1 r2 e2 k2 v w H3 M3 S3 ((s1.trans s2).trans s3) (Res.later s3 R2) R3
theorem q_op {op : Operator} {r : R2} {g : PV → PV → (QV → Prop) → Prop} {a b : Expr} {qa qb : QE} {pos : Pos} (ho : OpR X (binaryOp op) r) (l : Lift2 G r g) (ha : PE X a (LE G qa)) (hb : PE X b (LE G qb)) : PE X (.BinOp a op b pos) (LE G (qOp g qa qb)) :=
  PE.imp (pe_op ho ha hb) fun σ H Q ⟨e, M, K, S, q, f⟩ => two_ok (R := fun x y H2 => r x y H2 Q) S q fun r1 r2 e2 z v w H' M' S' s' R1 R2 =>
    let ⟨p1, a1, z⟩ := withP_of z
    let ⟨p2, a2, gk⟩ := withP_of z
    l e2 M' σ H' v w p1 p2 Q _ S' (Res.acc S' R1 (acc_settle.trans a1)) (Res.acc S' R2 a2) gk fun r k => (f r e2 k).from s'
theorem q_cmp {op : CmpOp} {r : R2} {g : PV → PV → (QV → Prop) → Prop} {a b : Expr} {qa qb : QE} {pos : Pos} (ho : OpR X (compareOp op) r) (l : Lift2 G r g) (ha : PE X a (LE G qa)) (hb : PE X b (LE G qb)) (hm : behindInMarks op b = false) : PE X (.Compare a [op] [b] pos) (LE G (qOp g qa qb)) :=
  PE.imp (pe_cmpR ho ha hb hm) fun σ H Q ⟨e, M, K, S, q, f⟩ => two_ok (R := fun x y H2 => r x y H2 Q) S q fun r1 r2 e2 z v w H' M' S' s' R1 R2 =>
    let ⟨p1, a1, z⟩ := withP_of z
    let ⟨p2, a2, gk⟩ := withP_of z
    l e2 M' σ H' v w p1 p2 Q _ S' (Res.acc S' R1 (acc_settle.trans a1)) (Res.acc S' R2 a2) gk fun r k => (f r e2 k).from s'
/-- .. as a test: the answer is a bool -/
def qTst (g : PV → PV → (Bool → Prop) → Prop) (qa qb : QE) : QT := fun e Q => qa e fun r1 e1 => stl r1 <| qb e1 fun r2 e2 => withP (acc e2 r1) fun p1 => withP (acc e2 r2) fun p2 => g p1 p2 fun b => Q b e2
def gB (g : PV → PV → (Bool → Prop) → Prop) : PV → PV → (QV → Prop) → Prop := fun p q k => g p q fun b => k (.sh (.bl b))
theorem t_cmp {op : CmpOp} {r : R2} {g : PV → PV → (Bool → Prop) → Prop} {a b : Expr} {qa qb : QE} {pos : Pos} (ho : OpR X (compareOp op) r) (l : Lift2 G r (gB g)) (mono : ∀ p q (k k' : Bool → Prop), (∀ b, k b → k' b) → g p q k → g p q k') (ha : PE X a (LE G qa)) (hb : PE X b (LE G qb)) (hm : behindInMarks op b = false) : PT X (.Compare a [op] [b] pos) (LT G (qTst g qa qb)) :=
  PT.imp (pt_cmpR ho ha hb hm) fun σ H Q ⟨e, M, K, S, q, f⟩ => two_ok (R := fun x y H2 => r x y H2 fun z H3 => ∃ k, z = .bl k ∧ Q k H3) S q fun r1 r2 e2 z v w H' M' S' s' R1 R2 =>
    let ⟨p1, a1, z⟩ := withP_of z
    let ⟨p2, a2, gk⟩ := withP_of z
    l e2 M' σ H' v w p1 p2 _ (fun r => ∃ b, r = .sh (.bl b) ∧ K b e2) S' (Res.acc S' R1 (acc_settle.trans a1)) (Res.acc S' R2 a2) (mono _ _ _ _ (fun b k => ⟨b, rfl, k⟩) gk) fun r ⟨b, hr, k⟩ => by
      subst hr
      intro v H3 M3 S3 s3 R3
      cases (show Rep G.toEn H3 M3 v (.bl b) from R3)
      exact ⟨b, rfl, f b e2 k H3 M3 S3 (s'.trans s3)⟩
/-- an expression whose value is a bool, as a test -/
def withB (p : PV) (k : Bool → Prop) : Prop := match p with
  | .bl b => k b
  | _ => False
theorem withB_of {p : PV} {k : Bool → Prop} (h : withB p k) : ∃ b, p = .bl b ∧ k b := by
  cases p with
  | bl b => exact ⟨b, rfl, h⟩
  | _ => exact h.elim
def qTb (q : QE) : QT := fun e Q => q e fun r e1 => withP (acc e1 r) fun p => withB p fun b => Q b e1
theorem t_val {a : Expr} {q : QE} (h : PE X a (LE G q)) (he : ∀ whole, isTrue a X.env whole = (do let v ← whole; standAt a.pos; holding [v] (truthy v)) := by intro _; rfl) : PT X a (LT G (qTb q)) :=
  PT.imp (pt_val h he) fun σ H Q ⟨e, M, K, S, q, f⟩ => ⟨e, M, _, S, q, fun r e1 z v H' M' S' s' R => by
    obtain ⟨p, a1, z⟩ := withP_of z
    obtain ⟨b, rfl, k⟩ := withB_of z
    have := (Res.acc S' R a1).bl
    subst this
    exact ⟨b, rfl, f b e1 k H' M' S' s'⟩⟩
end
end CP
/-! Operators, comparisons, subscripts, slices. -/
namespace CP
open PySem PySem.Spec PyProof.Rows L2
/-- lengths that always fit -/
abbrev SZ : Nat := 1000000
theorem sz_fits {n : Nat} (h : n ≤ SZ) : n ≤ sizeLine := by rw [sizeLine_eq]; unfold SZ at h; omega
theorem sz_fits1 {n : Nat} (h : n < SZ) : n < sizeLine := by rw [sizeLine_eq]; unfold SZ at h; omega
section
variable {G : Gh} {lv : Nat} {X : Cx}
/-! ### numbers -/
def gInt (C : Int → Int → Prop) (f : Int → Int → Int) (p q : PV) (k : QV → Prop) : Prop := match p, q with
  | .int i, .int j => C i j ∧ k (.sh (.int (f i j)))
  | _, _ => False
theorem gInt_of {C : Int → Int → Prop} {f : Int → Int → Int} {p q : PV} {k : QV → Prop} (h : gInt C f p q k) : ∃ i j, p = .int i ∧ q = .int j ∧ C i j ∧ k (.sh (.int (f i j))) := by
  unfold gInt at h
  split at h
  · exact ⟨_, _, rfl, rfl, h⟩
  · exact h.elim
theorem aft_sh {e : PEnv} {M : Addr → Prop} {σ : L2.St} {H : Hp} {Q : VK} {v : V} {p : PV} (S : StOk G e M σ H) (h : Aft G σ H M Q (.sh p) e) (r : Rep G.toEn H M v p) : Q v H := h v H M S .refl r
theorem l_int {C : Int → Int → Prop} {f : Int → Int → Int} : Lift2 G (rI C fun i j => .int (f i j)) (gInt C f) := fun e M σ H v w p q Q k S a b g f => by
  obtain ⟨i, j, rfl, rfl, c, kk⟩ := gInt_of g
  rw [a.int, b.int]
  exact ⟨i, j, rfl, rfl, c, aft_sh S (f _ kk) (.int _)⟩
theorem l_int0 {f : Int → Int → Int} : Lift2 G (rI0 fun i j => .int (f i j)) (gInt (fun _ _ => True) f) := fun e M σ H v w p q Q k S a b g f => by
  obtain ⟨i, j, rfl, rfl, c, kk⟩ := gInt_of g
  rw [a.int, b.int]
  exact ⟨i, j, rfl, rfl, aft_sh S (f _ kk) (.int _)⟩
variable {a b : Expr} {qa qb : QE} {pos : Pos}
abbrev qSub := qOp (gInt (fun _ _ => True) fun i j => i - j)
abbrev qMul := qOp (gInt CMul fun i j => i * j)
abbrev qMod := qOp (gInt (fun _ j => 0 < j) fun i j => i % j)
abbrev qDiv := qOp (gInt CDiv fun i j => i / j)
abbrev qPow := qOp (gInt CPow fun i j => i ^ j.toNat)
abbrev qShl := qOp (gInt CPow fun i j => i * 2 ^ j.toNat)
abbrev qShr := qOp (gInt (fun _ j => 0 ≤ j) fun i j => i / 2 ^ j.toNat)
abbrev qBor := qOp (gInt (fun _ _ => True) Builtin.bitOr)
abbrev qXor := qOp (gInt (fun _ _ => True) Builtin.bitXor)
theorem q_sub (ha : PE X a (LE G qa)) (hb : PE X b (LE G qb)) : PE X (.BinOp a .Sub b pos) (LE G (qSub qa qb)) := q_op op_sub l_int0 ha hb
theorem q_mul (ha : PE X a (LE G qa)) (hb : PE X b (LE G qb)) : PE X (.BinOp a .Mult b pos) (LE G (qMul qa qb)) := q_op op_mul l_int ha hb
theorem q_mod (ha : PE X a (LE G qa)) (hb : PE X b (LE G qb)) : PE X (.BinOp a .Mod b pos) (LE G (qMod qa qb)) := q_op op_mod l_int ha hb
theorem q_div (ha : PE X a (LE G qa)) (hb : PE X b (LE G qb)) : PE X (.BinOp a .FloorDiv b pos) (LE G (qDiv qa qb)) := q_op op_fdiv l_int ha hb
theorem q_pow (ha : PE X a (LE G qa)) (hb : PE X b (LE G qb)) : PE X (.BinOp a .Pow b pos) (LE G (qPow qa qb)) := q_op op_pow l_int ha hb
theorem q_shl (ha : PE X a (LE G qa)) (hb : PE X b (LE G qb)) : PE X (.BinOp a .LShift b pos) (LE G (qShl qa qb)) := q_op op_shl l_int ha hb
theorem q_shr (ha : PE X a (LE G qa)) (hb : PE X b (LE G qb)) : PE X (.BinOp a .RShift b pos) (LE G (qShr qa qb)) := q_op op_shr l_int ha hb
theorem q_bor (ha : PE X a (LE G qa)) (hb : PE X b (LE G qb)) : PE X (.BinOp a .BitOr b pos) (LE G (qBor qa qb)) := q_op op_or l_int0 ha hb
theorem q_xor (ha : PE X a (LE G qa)) (hb : PE X b (LE G qb)) : PE X (.BinOp a .BitXor b pos) (LE G (qXor qa qb)) := q_op op_xor l_int0 ha hb
abbrev qBand := qOp (gInt (fun _ _ => True) Builtin.bitAnd)
theorem q_band (ha : PE X a (LE G qa)) (hb : PE X b (LE G qb)) : PE X (.BinOp a .BitAnd b pos) (LE G (qBand qa qb)) := q_op op_and l_int0 ha hb

/-! ### a + b -/
/-- list + list, either may be of any making -/
def rCatQ (K : PySem.W.Frag) : R2 := fun x y H Q => ∃ l b xs zs, x = .ref l ∧ y = .ref b ∧ SqL K H l xs ∧ SqL K H b zs ∧ xs.length + zs.length ≤ sizeLine ∧ ∀ p, H p = none → Q (.ref p) (L2.upd H p (.lst (xs ++ zs)))
theorem op_catQ : OpR X (binaryOp .Add) (rCatQ X.K) := by
  intro pins s σ H x y v u Q I rx ry h
  obtain ⟨l, b, xs, zs, rfl, rfl, hl, hb, hz, q⟩ := h
  cases rx
  cases ry
  obtain ⟨vs, r, ⟨⟨c1, d1, da1, s1⟩, n1, g1, hc1, hd1, hda1⟩, z1⟩ := I.list hl
  obtain ⟨ws, r2, ⟨⟨c2, d2, da2, s2⟩, n2, g2, hc2, hd2, hda2⟩, z2⟩ := I.list hb
  simp only at hc1 hda1 hc2 hda2
  subst hc1 hda1 hc2 hda2
  have lv := r.length
  have lw := r2.length
  refine concat_meets ⟨_, g1, rfl⟩ ⟨_, g2, rfl⟩ noFill_list_add seq_list_add PySem.F.slot_list_add PySem.F.entry_list_add (PySem.F.args_list_add_2 _ _)
    (list_addW l b vs.toArray ws.toArray n1 n2 d1 d2 s1 s2 (by rw [List.size_toArray, List.size_toArray]; omega)) ⟨g1, g2, ?_⟩
  have e : vs.toArray ++ ws.toArray = (vs ++ ws).toArray := by simp
  rw [e]
  exact ⟨.ref _, _, I.lnew (t' := s.toks) (r.append r2) (by rw [List.length_append]; omega), rfl, q _ I.fresh⟩
def rAddS : R2 := fun x y H Q => ∃ i j, x = .str i ∧ y = .str j ∧ i.length + j.length ≤ sizeLine ∧ Q (.str (i ++ j)) H
def gAdd (p q : PV) (k : QV → Prop) : Prop := match p, q with
  | .int i, .int j => k (.sh (.int (i + j)))
  | .str x, .str y => x.length + y.length ≤ SZ ∧ k (.sh (.str (x ++ y)))
  | .lst xs, .lst ys => xs.length + ys.length ≤ SZ ∧ k (.fr (.lst (xs ++ ys)))
  | .scr xs, .lst ys => xs.length + ys.length ≤ SZ ∧ k (.fr (.lst (xs ++ ys)))
  | .tup xs, .tup ys => xs ≠ [] ∧ xs.length + ys.length ≤ SZ ∧ k (.sh (.tup (xs ++ ys)))
  | _, _ => False
abbrev rAddQ (K : PySem.W.Frag) : R2 := fun x y H Q => rI0 (fun i j => .int (i + j)) x y H Q ∨ (rAddS x y H Q ∨ (rCatQ K x y H Q ∨ rCatT K x y H Q))
theorem l_add : Lift2 G (rAddQ G.K) gAdd := fun e M σ H v w p q Q k S a b g f => by
  unfold gAdd at g
  split at g
  · rename_i i j
    rw [a.int, b.int]
    exact .inl ⟨i, j, rfl, rfl, aft_sh S (f _ g) (.int _)⟩
  · rename_i i j
    rw [a.str, b.str]
    exact .inr (.inl ⟨i, j, rfl, rfl, sz_fits g.1, aft_sh S (f _ g.2) (.str _)⟩)
  · rename_i xs ys
    obtain ⟨a1, vs, rfl, s1, r1⟩ := a.lst
    obtain ⟨a2, ws, rfl, s2, r2⟩ := b.lst
    refine .inr (.inr (.inl ⟨a1, a2, vs, ws, rfl, rfl, s1, s2, by rw [r1.length, r2.length]; exact sz_fits g.1, fun p hp => ?_⟩))
    obtain ⟨S', st, rs⟩ := S.newLst hp (r1.append r2)
    exact f _ g.2 _ _ _ S' st rs
  · rename_i xs ys
    obtain ⟨a1, vs, rfl, s1, r1⟩ := a.scr
    obtain ⟨a2, ws, rfl, s2, r2⟩ := b.lst
    refine .inr (.inr (.inl ⟨a1, a2, vs, ws, rfl, rfl, s1, s2, by rw [r1.length, r2.length]; exact sz_fits g.1, fun p hp => ?_⟩))
    obtain ⟨S', st, rs⟩ := S.newLst hp (r1.append r2)
    exact f _ g.2 _ _ _ S' st rs
  · rename_i xs ys
    have a' := a
    obtain ⟨a1, vs, rfl, s1, r1⟩ := a.tup
    obtain ⟨a2, ws, rfl, s2, r2⟩ := b.tup
    refine .inr (.inr (.inr ⟨a1, a2, vs, ws, rfl, rfl, s1, s2, fun z => g.1 ?_, by rw [r1.length, r2.length]; exact sz_fits g.2.1, fun z => ?_, fun _ p hp => ?_⟩))
    · have := r1.length; rw [z] at this
      exact List.length_eq_zero_iff.mp this.symm
    · have := r2.length; rw [z] at this
      have : ys = [] := List.length_eq_zero_iff.mp this.symm
      rw [this, List.append_nil] at g
      exact aft_sh S (f _ g.2.2) a'.tupR
    · obtain ⟨S', st, rs⟩ := S.newTup hp (r1.append r2)
      exact f _ g.2.2 _ _ _ S' st rs
  · exact g.elim
theorem op_addQ (hK : X.K = G.K) : OpR X (binaryOp .Add) (rAddQ G.K) := hK ▸ OpR.or op_add (OpR.or op_add_str (OpR.or op_catQ op_catT))
abbrev qAdd := qOp gAdd
theorem q_add (g : Good G lv X) (ha : PE X a (LE G qa)) (hb : PE X b (LE G qb)) : PE X (.BinOp a .Add b pos) (LE G (qAdd qa qb)) := q_op (op_addQ g.K) l_add ha hb
/-- -a -/
def gNeg (p : PV) (k : QV → Prop) : Prop := match p with
  | .int i => k (.sh (.int (-i)))
  | _ => False
def qUn (g : PV → (QV → Prop) → Prop) (qa : QE) : QE := fun e Q => qa e fun r e1 => withP (acc e1 r) fun p => g p fun r => Q r e1
theorem q_neg (ha : PE X a (LE G qa)) : PE X (.UnaryOp .USub a pos) (LE G (qUn gNeg qa)) := PE.imp (pe_un un_neg ha) fun σ H Q ⟨e, M, K, S, q, f⟩ => ⟨e, M, _, S, q, fun r e1 z v H' M' S' s' R => by
  obtain ⟨p, a1, z⟩ := withP_of z
  unfold gNeg at z
  split at z
  · rename_i i
    rw [(Res.acc S' R a1).int]
    exact ⟨i, rfl, aft_sh S' ((f _ _ z).from s') (.int _)⟩
  · exact z.elim⟩

/-! ### comparisons -/
def Shp (p : PV) : Prop := PV.isD p = true ∧ SeqAt.shaped (PV.toD p) = true
def gEq (p q : PV) (k : Bool → Prop) : Prop := match p, q with
  | .int i, .int j => k (decide (i = j))
  | .str i, .str j => k (decide (i = j))
  | .bl i, .bl j => k (decide (i = j))
  | p, q => Shp p ∧ Shp q ∧ k (PyData.eqv (PV.toD p) (PV.toD q))
theorem gEq_of {p q : PV} {k : Bool → Prop} (h : gEq p q k) : (∃ i j, p = .int i ∧ q = .int j ∧ k (decide (i = j))) ∨ (∃ i j, p = .str i ∧ q = .str j ∧ k (decide (i = j))) ∨ (∃ i j, p = .bl i ∧ q = .bl j ∧ k (decide (i = j))) ∨ (Shp p ∧ Shp q ∧ k (PyData.eqv (PV.toD p) (PV.toD q))) := by
  unfold gEq at h
  split at h
  · exact .inl ⟨_, _, rfl, rfl, h⟩
  · exact .inr (.inl ⟨_, _, rfl, rfl, h⟩)
  · exact .inr (.inr (.inl ⟨_, _, rfl, rfl, h⟩))
  · exact .inr (.inr (.inr h))
theorem gEq_mono (p q : PV) (k k' : Bool → Prop) (f : ∀ b, k b → k' b) (h : gEq p q k) : gEq p q k' := by
  unfold gEq at h ⊢
  split at h <;> first | exact f _ h | exact ⟨h.1, h.2.1, f _ h.2.2⟩
def gNe (p q : PV) (k : Bool → Prop) : Prop := gEq p q fun b => k (!b)
theorem gNe_mono (p q : PV) (k k' : Bool → Prop) (f : ∀ b, k b → k' b) (h : gNe p q k) : gNe p q k' := gEq_mono _ _ _ _ (fun b => f _) h
theorem dec_V {α : Type} [DecidableEq α] {c : α → V} (inj : ∀ i j, c i = c j → i = j) (i j : α) : decide (c i = c j) = decide (i = j) := decide_eq_decide.mpr ⟨inj i j, fun z => by rw [z]⟩
theorem l_eq : Lift2 G (fun x y H Q => rEq x y H Q ∨ rEqD G.K x y H Q) (gB gEq) := fun e M σ H v w p q Q k S a b g f => by
  have fin : ∀ c, k (.sh (.bl c)) → Q (.bl c) H := fun c kk => aft_sh S (f _ kk) (.bl c)
  rcases gEq_of g with ⟨i, j, rfl, rfl, h⟩ | ⟨i, j, rfl, rfl, h⟩ | ⟨i, j, rfl, rfl, h⟩ | ⟨h1, h2, h⟩
  · rw [a.int, b.int]; exact .inl ⟨rfl, by rw [dec_V (c := V.int) (fun _ _ z => V.int.inj z)]; exact fin _ h⟩
  · rw [a.str, b.str]; exact .inl ⟨rfl, by rw [dec_V (c := V.str) (fun _ _ z => V.str.inj z)]; exact fin _ h⟩
  · rw [a.bl, b.bl]; exact .inl ⟨rfl, by rw [dec_V (c := V.bl) (fun _ _ z => V.bl.inj z)]; exact fin _ h⟩
  · exact .inr ⟨_, _, a.dp h1.1, b.dp h2.1, h1.2, h2.2, fin _ h⟩
theorem l_ne : Lift2 G (fun x y H Q => rNe x y H Q ∨ rNeD G.K x y H Q) (gB gNe) := fun e M σ H v w p q Q k S a b g f => by
  have fin : ∀ c, k (.sh (.bl c)) → Q (.bl c) H := fun c kk => aft_sh S (f _ kk) (.bl c)
  rcases gEq_of (show gEq p q (fun b => k (.sh (.bl (!b)))) from g) with ⟨i, j, rfl, rfl, h⟩ | ⟨i, j, rfl, rfl, h⟩ | ⟨i, j, rfl, rfl, h⟩ | ⟨h1, h2, h⟩
  · rw [a.int, b.int]; exact .inl ⟨rfl, by rw [dec_V (c := V.int) (fun _ _ z => V.int.inj z)]; exact fin _ h⟩
  · rw [a.str, b.str]; exact .inl ⟨rfl, by rw [dec_V (c := V.str) (fun _ _ z => V.str.inj z)]; exact fin _ h⟩
  · rw [a.bl, b.bl]; exact .inl ⟨rfl, by rw [dec_V (c := V.bl) (fun _ _ z => V.bl.inj z)]; exact fin _ h⟩
  · exact .inr ⟨_, _, a.dp h1.1, b.dp h2.1, h1.2, h2.2, fin _ h⟩
theorem op_eqQ (g : Good G lv X) : OpR X (compareOp .Eq) (fun x y H Q => rEq x y H Q ∨ rEqD G.K x y H Q) := g.K ▸ OpR.or op_eq (op_eqD g.units)
theorem op_neQ (g : Good G lv X) : OpR X (compareOp .NotEq) (fun x y H Q => rNe x y H Q ∨ rNeD G.K x y H Q) := g.K ▸ OpR.or op_ne (op_neD g.units)
/-- two that may be ordered -/
def Ordd (p q : PV) : Prop := PV.isD p = true ∧ PV.isD q = true ∧ PySem.W.alike (PV.toD p) (PV.toD q) = true ∧ PV.toD p ≠ .none ∧ (PV.toD p).depth ≤ 60
def gRel (f : Int → Int → Bool) (d : PyData → PyData → Bool) (p q : PV) (k : Bool → Prop) : Prop := match p, q with
  | .int i, .int j => k (f i j)
  | p, q => Ordd p q ∧ k (d (PV.toD p) (PV.toD q))
theorem gRel_of {f : Int → Int → Bool} {d : PyData → PyData → Bool} {p q : PV} {k : Bool → Prop} (h : gRel f d p q k) : (∃ i j, p = .int i ∧ q = .int j ∧ k (f i j)) ∨ (Ordd p q ∧ k (d (PV.toD p) (PV.toD q))) := by
  unfold gRel at h
  split at h
  · exact .inl ⟨_, _, rfl, rfl, h⟩
  · exact .inr h
theorem gRel_mono {f : Int → Int → Bool} {d : PyData → PyData → Bool} (p q : PV) (k k' : Bool → Prop) (g : ∀ b, k b → k' b) (h : gRel f d p q k) : gRel f d p q k' := by
  unfold gRel at h ⊢
  split at h <;> first | exact g _ h | exact ⟨h.1, g _ h.2⟩
def rRelD (K : PySem.W.Frag) (d : PyData → PyData → Bool) : R2 := fun x y H Q => ∃ a b, Dp K H x a ∧ Dp K H y b ∧ PySem.W.alike a b = true ∧ a ≠ .none ∧ a.depth ≤ 60 ∧ Q (.bl (d a b)) H
theorem l_rel {f : Int → Int → Bool} {d : PyData → PyData → Bool} : Lift2 G (fun x y H Q => rI0 (fun i j => .bl (f i j)) x y H Q ∨ rRelD G.K d x y H Q) (gB (gRel f d)) := fun e M σ H v w p q Q k S a b g f => by
  have fin : ∀ c, k (.sh (.bl c)) → Q (.bl c) H := fun c kk => aft_sh S (f _ kk) (.bl c)
  rcases gRel_of g with ⟨i, j, rfl, rfl, h⟩ | ⟨⟨h1, h2, h3, h4, h5⟩, h⟩
  · rw [a.int, b.int]; exact .inl ⟨i, j, rfl, rfl, fin _ h⟩
  · exact .inr ⟨_, _, a.dp h1, b.dp h2, h3, h4, h5, fin _ h⟩
abbrev dLt : PyData → PyData → Bool := fun a b => PySem.W.dataLt a b
abbrev dGt : PyData → PyData → Bool := fun a b => PySem.W.dataLt b a
abbrev dLe : PyData → PyData → Bool := fun a b => !PySem.W.dataLt b a
abbrev dGe : PyData → PyData → Bool := fun a b => !PySem.W.dataLt a b
theorem op_ltDq (hu : X.A.units + 64 < cLine) : OpR X (compareOp .Lt) (rRelD X.K dLt) := fun pins s σ H x y v u Q I rx ry ⟨a, b, ha, hb, al, nn, dp, q⟩ => by
  obtain ⟨as, r1⟩ := Dp.reads I a x v ha rx
  obtain ⟨bs, r2⟩ := Dp.reads I b y u hb ry
  exact PySem.W.lt_data r1 r2 al nn (by omega) ⟨.bl _, H, I, rfl, q⟩
theorem op_gtDq (hu : X.A.units + 64 < cLine) : OpR X (compareOp .Gt) (rRelD X.K dGt) := fun pins s σ H x y v u Q I rx ry ⟨a, b, ha, hb, al, nn, dp, q⟩ => by
  obtain ⟨as, r1⟩ := Dp.reads I a x v ha rx
  obtain ⟨bs, r2⟩ := Dp.reads I b y u hb ry
  exact PySem.W.gt_data r1 r2 al nn (by omega) ⟨.bl _, H, I, rfl, q⟩
theorem op_leDq (hu : X.A.units + 64 < cLine) : OpR X (compareOp .LtE) (rRelD X.K dLe) := fun pins s σ H x y v u Q I rx ry ⟨a, b, ha, hb, al, nn, dp, q⟩ => by
  obtain ⟨as, r1⟩ := Dp.reads I a x v ha rx
  obtain ⟨bs, r2⟩ := Dp.reads I b y u hb ry
  exact PySem.W.le_data r1 r2 al nn (by omega) ⟨.bl _, H, I, rfl, q⟩
theorem op_geDq (hu : X.A.units + 64 < cLine) : OpR X (compareOp .GtE) (rRelD X.K dGe) := fun pins s σ H x y v u Q I rx ry ⟨a, b, ha, hb, al, nn, dp, q⟩ => by
  obtain ⟨as, r1⟩ := Dp.reads I a x v ha rx
  obtain ⟨bs, r2⟩ := Dp.reads I b y u hb ry
  exact PySem.W.ge_data r1 r2 al nn (by omega) ⟨.bl _, H, I, rfl, q⟩
abbrev gLt := gRel (fun i j => decide (i < j)) dLt
abbrev gLe := gRel (fun i j => decide (i ≤ j)) dLe
abbrev gGt := gRel (fun i j => decide (j < i)) dGt
abbrev gGe := gRel (fun i j => decide (j ≤ i)) dGe
theorem op_ltQ (g : Good G lv X) : OpR X (compareOp .Lt) (fun x y H Q => rI0 (fun i j => .bl (decide (i < j))) x y H Q ∨ rRelD G.K dLt x y H Q) := g.K ▸ OpR.or op_lt (op_ltDq g.units)
theorem op_leQ (g : Good G lv X) : OpR X (compareOp .LtE) (fun x y H Q => rI0 (fun i j => .bl (decide (i ≤ j))) x y H Q ∨ rRelD G.K dLe x y H Q) := g.K ▸ OpR.or op_le (op_leDq g.units)
theorem op_gtQ (g : Good G lv X) : OpR X (compareOp .Gt) (fun x y H Q => rI0 (fun i j => .bl (decide (j < i))) x y H Q ∨ rRelD G.K dGt x y H Q) := g.K ▸ OpR.or op_gt (op_gtDq g.units)
theorem op_geQ (g : Good G lv X) : OpR X (compareOp .GtE) (fun x y H Q => rI0 (fun i j => .bl (decide (j ≤ i))) x y H Q ∨ rRelD G.K dGe x y H Q) := g.K ▸ OpR.or op_ge (op_geDq g.units)
/-- one rule for a comparison: as a value, as a test -/
structure CmpQ (G : Gh) (X : Cx) (op : CmpOp) (g : PV → PV → (Bool → Prop) → Prop) : Prop where
  ex : ∃ r, OpR X (compareOp op) r ∧ Lift2 G r (gB g)
  mono : ∀ p q (k k' : Bool → Prop), (∀ b, k b → k' b) → g p q k → g p q k'
theorem c_eq (g : Good G lv X) : CmpQ G X .Eq gEq := ⟨⟨_, op_eqQ g, l_eq⟩, gEq_mono⟩
theorem c_ne (g : Good G lv X) : CmpQ G X .NotEq gNe := ⟨⟨_, op_neQ g, l_ne⟩, gNe_mono⟩
theorem c_lt (g : Good G lv X) : CmpQ G X .Lt gLt := ⟨⟨_, op_ltQ g, l_rel⟩, gRel_mono⟩
theorem c_le (g : Good G lv X) : CmpQ G X .LtE gLe := ⟨⟨_, op_leQ g, l_rel⟩, gRel_mono⟩
theorem c_gt (g : Good G lv X) : CmpQ G X .Gt gGt := ⟨⟨_, op_gtQ g, l_rel⟩, gRel_mono⟩
theorem c_ge (g : Good G lv X) : CmpQ G X .GtE gGe := ⟨⟨_, op_geQ g, l_rel⟩, gRel_mono⟩
abbrev qCmp (g : PV → PV → (Bool → Prop) → Prop) := qOp (gB g)
theorem v_cmp {op : CmpOp} {g : PV → PV → (Bool → Prop) → Prop} (c : CmpQ G X op g) (ha : PE X a (LE G qa)) (hb : PE X b (LE G qb)) (hm : behindInMarks op b = false := by first | exact nomark _ | rfl) : PE X (.Compare a [op] [b] pos) (LE G (qCmp g qa qb)) := by
  obtain ⟨r, h1, h2⟩ := c.ex
  exact q_cmp h1 h2 ha hb hm
theorem t_cmpQ {op : CmpOp} {g : PV → PV → (Bool → Prop) → Prop} (c : CmpQ G X op g) (ha : PE X a (LE G qa)) (hb : PE X b (LE G qb)) (hm : behindInMarks op b = false := by first | exact nomark _ | rfl) : PT X (.Compare a [op] [b] pos) (LT G (qTst g qa qb)) := by
  obtain ⟨r, h1, h2⟩ := c.ex
  exact t_cmp h1 h2 c.mono ha hb hm
end
end CP
/-! Tests, conditional values, subscripts, arguments, displays, built-in calls, statements. -/
namespace CP
open PySem PySem.Spec PyProof.Rows L2
section
variable {G : Gh} {lv : Nat} {X : Cx}
/-! ### tests -/
def qAnd (a b : QT) : QT := fun e Q => a e fun c e1 => if c = true then b e1 Q else Q false e1
def qOr (a b : QT) : QT := fun e Q => a e fun c e1 => if c = true then Q true e1 else b e1 Q
def qNot (a : QT) : QT := fun e Q => a e fun c e1 => Q (!c) e1
theorem PW.imp {X : Cx} {e : Expr} {t t' : TT} (h : PW X e t) (f : ∀ σ H Q, t' σ H Q → t σ H Q) : PW X e t' := ⟨fun wh pins s σ H Q I q => h.run wh pins s σ H Q I (f σ H Q q)⟩
variable {a b c : Expr} {ta tb : QT} {qa qb : QE} {rest : List Expr} {pos : Pos}
theorem lt_and {σ : L2.St} {H : Hp} {Q : Bool → Hp → Prop} (h : LT G (qAnd ta tb) σ H Q) : tAnd (LT G ta) (LT G tb) σ H Q := by
  obtain ⟨e, M, K, S, q, f⟩ := h
  refine ⟨e, M, _, S, q, fun c e1 k H1 M1 S1 s1 => ?_⟩
  cases c with
  | true => exact ⟨e1, M1, K, S1, k, fun b e2 kb H2 M2 S2 s2 => f b e2 kb H2 M2 S2 (s1.trans s2)⟩
  | false => exact f false e1 k H1 M1 S1 s1
theorem lt_or {σ : L2.St} {H : Hp} {Q : Bool → Hp → Prop} (h : LT G (qOr ta tb) σ H Q) : tOr (LT G ta) (LT G tb) σ H Q := by
  obtain ⟨e, M, K, S, q, f⟩ := h
  refine ⟨e, M, _, S, q, fun c e1 k H1 M1 S1 s1 => ?_⟩
  cases c with
  | false => exact ⟨e1, M1, K, S1, k, fun b e2 kb H2 M2 S2 s2 => f b e2 kb H2 M2 S2 (s1.trans s2)⟩
  | true => exact f true e1 k H1 M1 S1 s1
theorem t_and1 (ha : PT X a (LT G ta)) : PW X (.BoolOp .And [a] pos) (LT G ta) := pw_and1 ha
theorem t_or1 (ha : PT X a (LT G ta)) : PW X (.BoolOp .Or [a] pos) (LT G ta) := pw_or1 ha
theorem t_and (ha : PT X a (LT G ta)) (hb : PW X (.BoolOp .And (b :: rest) pos) (LT G tb)) : PW X (.BoolOp .And (a :: b :: rest) pos) (LT G (qAnd ta tb)) := PW.imp (pw_and ha hb) fun _ _ _ => lt_and
theorem t_or (ha : PT X a (LT G ta)) (hb : PW X (.BoolOp .Or (b :: rest) pos) (LT G tb)) : PW X (.BoolOp .Or (a :: b :: rest) pos) (LT G (qOr ta tb)) := PW.imp (pw_or ha hb) fun _ _ _ => lt_or
theorem t_not (ha : PT X a (LT G ta)) : PT X (.UnaryOp .Not a pos) (LT G (qNot ta)) := PT.imp (pt_not ha) fun σ H Q ⟨e, M, K, S, q, f⟩ => ⟨e, M, _, S, q, fun c e1 k H1 M1 S1 s1 => f (!c) e1 k H1 M1 S1 s1⟩
/-- .. as values -/
def qAndV (a b : QE) : QE := fun e Q => a e fun r e1 => withP (acc e1 r) fun p => withB p fun c => if c = true then b e1 Q else Q (.sh (.bl false)) e1
def qOrV (a b : QE) : QE := fun e Q => a e fun r e1 => withP (acc e1 r) fun p => withB p fun c => if c = true then Q (.sh (.bl true)) e1 else b e1 Q
def qNotV (a : QE) : QE := fun e Q => a e fun r e1 => withP (acc e1 r) fun p => withB p fun c => Q (.sh (.bl (!c))) e1
theorem v_and (ha : PE X a (LE G qa)) (hb : PE X (.BoolOp .And (b :: rest) pos) (LE G qb)) : PE X (.BoolOp .And (a :: b :: rest) pos) (LE G (qAndV qa qb)) := PE.imp (pe_and ha hb) fun σ H Q ⟨e, M, K, S, q, f⟩ =>
  ⟨e, M, _, S, q, fun r e1 z v H1 M1 S1 s1 R => by
    obtain ⟨p, a1, z⟩ := withP_of z
    obtain ⟨c, rfl, z⟩ := withB_of z
    rw [(Res.acc S1 R a1).bl]
    refine ⟨c, rfl, ?_⟩
    cases c with
    | true => exact ⟨e1, M1, K, S1, z, fun r e2 k => (f r e2 k).from s1⟩
    | false => exact aft_sh S1 ((f _ e1 z).from s1) (.bl false)⟩
theorem v_or (ha : PE X a (LE G qa)) (hb : PE X (.BoolOp .Or (b :: rest) pos) (LE G qb)) : PE X (.BoolOp .Or (a :: b :: rest) pos) (LE G (qOrV qa qb)) := PE.imp (pe_or ha hb) fun σ H Q ⟨e, M, K, S, q, f⟩ =>
  ⟨e, M, _, S, q, fun r e1 z v H1 M1 S1 s1 R => by
    obtain ⟨p, a1, z⟩ := withP_of z
    obtain ⟨c, rfl, z⟩ := withB_of z
    rw [(Res.acc S1 R a1).bl]
    refine ⟨c, rfl, ?_⟩
    cases c with
    | false => exact ⟨e1, M1, K, S1, z, fun r e2 k => (f r e2 k).from s1⟩
    | true => exact aft_sh S1 ((f _ e1 z).from s1) (.bl true)⟩
theorem v_one {op} (ha : PE X a (LE G qa)) : PE X (.BoolOp op [a] pos) (LE G qa) := pe_one ha
theorem v_not (ha : PE X a (LE G qa)) : PE X (.UnaryOp .Not a pos) (LE G (qNotV qa)) := PE.imp (pe_not ha) fun σ H Q ⟨e, M, K, S, q, f⟩ =>
  ⟨e, M, _, S, q, fun r e1 z v H1 M1 S1 s1 R => by
    obtain ⟨p, a1, z⟩ := withP_of z
    obtain ⟨c, rfl, z⟩ := withB_of z
    rw [(Res.acc S1 R a1).bl]
    exact ⟨c, rfl, aft_sh S1 ((f _ e1 z).from s1) (.bl _)⟩⟩
def qIf (t : QT) (a b : QE) : QE := fun e Q => t e fun c e1 => if c = true then a e1 Q else b e1 Q
theorem v_if (hc : PT X c (LT G ta)) (ha : PE X a (LE G qa)) (hb : PE X b (LE G qb)) : PE X (.IfExp c a b pos) (LE G (qIf ta qa qb)) := PE.imp (pe_ifExp hc ha hb) fun σ H Q ⟨e, M, K, S, q, f⟩ =>
  ⟨e, M, _, S, q, fun c e1 k H1 M1 S1 s1 => by
    cases c with
    | true => exact ⟨e1, M1, K, S1, k, fun r e2 k2 => (f r e2 k2).from s1⟩
    | false => exact ⟨e1, M1, K, S1, k, fun r e2 k2 => (f r e2 k2).from s1⟩⟩

/-! ### subscripts -/
theorem atI_rep {H : Hp} {M : Addr → Prop} {vs : List V} {xs : List PV} {i : Int} {x : PV} (r : RepAll G.toEn H M vs xs) (h : atI xs i = some x) : ∃ v, atI vs i = some v ∧ Rep G.toEn H M v x := by
  unfold atI at h ⊢
  rw [← r.length] at h
  cases c : ixN vs.length i with
  | none => rw [c] at h; cases h
  | some j =>
    rw [c] at h
    exact r.get' (i := j) h
/-- what a subscript gives; a dict's is told apart -/
def gIx (p q : PV) (k : QV → Prop) : Prop := match p, q with
  | .lst xs, .int i => withP (atI xs i) fun x => k (.sh x)
  | .scr xs, .int i => withP (atI xs i) fun x => k (.sh x)
  | .tup xs, .int i => withP (atI xs i) fun x => k (.sh x)
  | .str z, .int i => z.length ≤ SZ ∧ ∃ c, atI z.cps.toList i = some c ∧ k (.sh (.str ⟨#[c]⟩))
  | _, _ => False
theorem l_ix : Lift2 G (rIx G.K) gIx := fun e M σ H v w p q Q k S a b g f => by
  unfold gIx at g
  split at g
  · rename_i xs i
    obtain ⟨x, hx, kx⟩ := withP_of g
    obtain ⟨a1, vs, rfl, s1, r1⟩ := a.lst
    rw [b.int]
    obtain ⟨u, hu, ru⟩ := atI_rep r1 hx
    exact .inl ⟨a1, vs, i, u, rfl, rfl, s1, hu, aft_sh S (f _ kx) ru⟩
  · rename_i xs i
    obtain ⟨x, hx, kx⟩ := withP_of g
    obtain ⟨a1, vs, rfl, s1, r1⟩ := a.scr
    rw [b.int]
    obtain ⟨u, hu, ru⟩ := atI_rep r1 hx
    exact .inl ⟨a1, vs, i, u, rfl, rfl, s1, hu, aft_sh S (f _ kx) ru⟩
  · rename_i xs i
    obtain ⟨x, hx, kx⟩ := withP_of g
    obtain ⟨a1, vs, rfl, s1, r1⟩ := a.tup
    rw [b.int]
    obtain ⟨u, hu, ru⟩ := atI_rep r1 hx
    exact .inr (.inl ⟨a1, vs, i, u, rfl, rfl, s1, hu, aft_sh S (f _ kx) ru⟩)
  · rename_i z i
    rw [a.str, b.int]
    obtain ⟨h1, c, h2, h3⟩ := g
    exact .inr (.inr ⟨z, i, c, rfl, rfl, sz_fits h1, h2, aft_sh S (f _ h3) (.str _)⟩)
  · exact g.elim
theorem q_ixr {r : R2} {g : PV → PV → (QV → Prop) → Prop} (hr : IxR X r) (l : Lift2 G r g) (ha : PE X a (LE G qa)) (hb : PE X b (LE G qb)) (hs : PlainIx b) : PE X (.Subscript a b pos) (LE G (qOp g qa qb)) :=
  PE.imp (pe_ix hr ha hb hs) fun σ H Q ⟨e, M, K, S, q, f⟩ => two_ok (R := fun x y H2 => r x y H2 Q) S q fun r1 r2 e2 z v w H' M' S' s' R1 R2 =>
    let ⟨p1, a1, z⟩ := withP_of z
    let ⟨p2, a2, gk⟩ := withP_of z
    l e2 M' σ H' v w p1 p2 Q _ S' (Res.acc S' R1 (acc_settle.trans a1)) (Res.acc S' R2 a2) gk fun r k => (f r e2 k).from s'
abbrev qIx := qOp gIx
theorem ix_seqQ (hK : X.K = G.K) : IxR X (rIx G.K) := hK ▸ ix_seq
theorem q_ix (g : Good G lv X) (ha : PE X a (LE G qa)) (hb : PE X b (LE G qb)) (hs : PlainIx b := by exact fun _ _ => rfl) : PE X (.Subscript a b pos) (LE G (qIx qa qb)) := q_ixr (ix_seqQ g.K) l_ix ha hb hs
/-! ### slices -/
abbrev QO := PEnv → (Option Int → PEnv → Prop) → Prop
def LO (G : Gh) (q : QO) : TO := fun σ H Q => ∃ e M K, StOk G e M σ H ∧ q e K ∧ ∀ o e', K o e' → ∀ H' M', StOk G e' M' σ H' → Step H M H' M' → Q o H'
def oNone : QO := fun e Q => Q none e
def withI (p : PV) (k : Int → Prop) : Prop := match p with
  | .int i => k i
  | _ => False
theorem withI_of {p : PV} {k : Int → Prop} (h : withI p k) : ∃ i, p = .int i ∧ k i := by
  cases p with
  | int i => exact ⟨i, rfl, h⟩
  | _ => exact h.elim
def oSome (q : QE) : QO := fun e Q => q e fun r e1 => withP (acc e1 r) fun p => withI p fun i => Q (some i) e1
theorem PO.imp {e : Option Expr} {t t' : TO} (h : PO X e t) (f : ∀ σ H Q, t' σ H Q → t σ H Q) : PO X e t' := by
  constructor
  intro pins s σ H Q I q
  exact h.run pins s σ H Q I (f σ H Q q)
theorem o_none : PO X none (LO G oNone) := PO.imp po_none fun σ H Q ⟨e, M, K, S, q, f⟩ => f none e q H M S .refl
theorem o_some (h : PE X a (LE G qa)) : PO X (some a) (LO G (oSome qa)) := PO.imp (po_some h) fun σ H Q ⟨e, M, K, S, q, f⟩ => ⟨e, M, _, S, q, fun r e1 z v H1 M1 S1 s1 R => by
  obtain ⟨p, a1, z⟩ := withP_of z
  obtain ⟨i, rfl, z⟩ := withI_of z
  rw [(Res.acc S1 R a1).int]
  exact ⟨i, rfl, f _ e1 z H1 M1 S1 s1⟩⟩
/-- xs[lo:hi] -/
def cutP (xs : List PV) (lo hi : Option Int) : List PV := (xs.drop (HT.sIx xs.length 0 lo)).take (HT.sIx xs.length xs.length hi - HT.sIx xs.length 0 lo)
theorem cut_rep {H : Hp} {M : Addr → Prop} {vs : List V} {xs : List PV} {lo hi : Option Int} (r : RepAll G.toEn H M vs xs) : RepAll G.toEn H M (cutV vs lo hi) (cutP xs lo hi) := by
  unfold cutV cutP
  rw [r.length]
  exact (r.drop _).take _
def gSl (p : PV) (lo hi : Option Int) (k : QV → Prop) : Prop := match p with
  | .lst xs => k (.fr (.lst (cutP xs lo hi)))
  | .scr xs => k (.fr (.lst (cutP xs lo hi)))
  | .tup xs => ¬ (HT.sIx xs.length 0 lo = 0 ∧ HT.sIx xs.length xs.length hi = xs.length) ∧ k (.sh (.tup (cutP xs lo hi)))
  | .str z => z.length ≤ SZ ∧ k (.sh (.str (cutS z lo hi)))
  | _ => False
def qSl (qa : QE) (ql qh : QO) : QE := fun e Q => qa e fun r e1 => stl r <| ql e1 fun lo e2 => qh e2 fun hi e3 => withP (acc e3 r) fun p => gSl p lo hi fun r => Q r e3
theorem q_sl {lo hi : Option Expr} {p2 : Pos} {ql qh : QO} (g : Good G lv X) (ha : PE X a (LE G qa)) (hl : PO X lo (LO G ql)) (hh : PO X hi (LO G qh)) : PE X (.Subscript a (.Slice lo hi none p2) pos) (LE G (qSl qa ql qh)) := by
  have sl : SlR X (fun x lo hi H Q => rSlL G.K x lo hi H Q ∨ (rSlT G.K x lo hi H Q ∨ rSlS x lo hi H Q)) := g.K ▸ SlR.or sl_list (SlR.or sl_tup sl_str)
  refine PE.imp (pe_slice sl ha hl hh) fun σ H Q ⟨e, M, K, S, q, f⟩ => ?_
  refine ⟨e, M, _, S, q, fun r e1 k1 v H1 M1 S1 s1 R => ?_⟩
  obtain ⟨pb, k1⟩ := stl_of k1
  obtain ⟨M1', S1', s1', R'⟩ := Res.settle S1 R pb
  refine ⟨e1, M1', _, S1', k1, fun lo e2 k2 H2 M2 S2 s2 => ?_⟩
  refine ⟨e2, M2, _, S2, k2, fun hi e3 k3 H3 M3 S3 s3 => ?_⟩
  obtain ⟨p, ap, z⟩ := withP_of k3
  have R3 : Res G e3 M3 σ H3 v (settle r) := Res.later (s2.trans s3) R'
  have A := Res.acc S3 R3 (acc_settle.trans ap)
  have st := ((s1.trans s1').trans s2).trans s3
  unfold gSl at z
  split at z
  · rename_i xs
    obtain ⟨a1, vs, rfl, q1, r1⟩ := A.lst
    refine .inl ⟨a1, vs, rfl, q1, fun p hp => ?_⟩
    obtain ⟨S', st', rs⟩ := S3.newLst hp (cut_rep (lo := lo) (hi := hi) r1)
    exact (f _ e3 z).from st _ _ _ S' st' rs
  · rename_i xs
    obtain ⟨a1, vs, rfl, q1, r1⟩ := A.scr
    refine .inl ⟨a1, vs, rfl, q1, fun p hp => ?_⟩
    obtain ⟨S', st', rs⟩ := S3.newLst hp (cut_rep (lo := lo) (hi := hi) r1)
    exact (f _ e3 z).from st _ _ _ S' st' rs
  · rename_i xs
    obtain ⟨a1, vs, rfl, q1, r1⟩ := A.tup
    refine .inr (.inl ⟨a1, vs, rfl, q1, by rw [r1.length]; exact z.1, fun p hp => ?_⟩)
    obtain ⟨S', st', rs⟩ := S3.newTup hp (cut_rep (lo := lo) (hi := hi) r1)
    exact (f _ e3 z.2).from st _ _ _ S' st' rs
  · rename_i y
    rw [A.str]
    exact .inr (.inr ⟨y, rfl, sz_fits z.1, aft_sh S3 ((f _ e3 z.2).from st) (.str _)⟩)
  · exact z.elim

/-! ### arguments -/
def aNil : QAs := fun e Q => Q [] e
def aCons (qa : QE) (qr : QAs) : QAs := fun e Q => qa e fun r e1 => keep r e1 fun p e2 => qr e2 fun ps e3 => Q (p :: ps) e3
def bNil : QBs := fun e Q => Q [] e
def bCons (qa : QE) (qr : QBs) : QBs := fun e Q => qa e fun r e1 => stl r <| qr e1 fun rs e2 => Q (settle r :: rs) e2
variable {es : List Expr} {qA : QAs} {qB : QBs}
theorem a_nil : PA X [] (LA G aNil) := PA.imp pa_nil fun σ H Q ⟨e, M, K, S, q, f⟩ => f [] e q [] H M S .refl .nil
theorem a_cons (ha : PE X a (LE G qa)) (hr : PA X es (LA G qA)) (hs : starEach (a :: es) X.env = (false, eval a X.env) :: starEach es X.env := by rfl) : PA X (a :: es) (LA G (aCons qa qA)) :=
  PA.imp (pa_cons ha hr hs) fun σ H Q ⟨e, M, K, S, q, f⟩ => ⟨e, M, _, S, q, fun r e1 k1 v H1 M1 S1 s1 R => by
    obtain ⟨p, e2, M2, k2, S2, s2, R2⟩ := keep_ok S1 R k1
    exact ⟨e2, M2, _, S2, k2, fun ps e3 k3 vs H3 M3 S3 s3 R3 => f _ e3 k3 _ H3 M3 S3 ((s1.trans s2).trans s3) (.cons (R2.step s3) R3)⟩⟩
theorem b_nil : PA X [] (LB G bNil) := PA.imp pa_nil fun σ H Q ⟨e, M, K, S, q, f⟩ => f [] e q [] H M S .refl .nil
theorem b_cons (ha : PE X a (LE G qa)) (hr : PA X es (LB G qB)) (hs : starEach (a :: es) X.env = (false, eval a X.env) :: starEach es X.env := by rfl) : PA X (a :: es) (LB G (bCons qa qB)) :=
  PA.imp (pa_cons ha hr hs) fun σ H Q ⟨e, M, K, S, q, f⟩ => ⟨e, M, _, S, q, fun r e1 k1 v H1 M1 S1 s1 R => by
    obtain ⟨pb, k1⟩ := stl_of k1
    obtain ⟨M2, S2, s2, R2⟩ := Res.settle S1 R pb
    exact ⟨e1, M2, _, S2, k1, fun ps e3 k3 vs H3 M3 S3 s3 R3 => f _ e3 k3 _ H3 M3 S3 ((s1.trans s2).trans s3) (.cons (Res.later s3 R2) R3)⟩⟩
/-! ### displays -/
def qTup (q : QAs) : QE := fun e Q => q e fun ps e1 => ps.length ≤ SZ ∧ Q (.sh (.tup ps)) e1
def qLst (q : QAs) : QE := fun e Q => q e fun ps e1 => ps.length ≤ SZ ∧ Q (.fr (.lst ps)) e1
theorem q_tup {x1} (h : PA X es (LA G qA)) : PE X (.Tuple es x1 pos) (LE G (qTup qA)) := PE.imp (pe_tup h) fun σ H Q ⟨e, M, K, S, q, f⟩ => ⟨e, M, _, S, q, fun ps e1 k vs H1 M1 S1 s1 R => ⟨by rw [R.length]; exact sz_fits k.1, fun p hp => by
  obtain ⟨S', st, rs⟩ := S1.newTup hp R
  exact (f _ e1 k.2).from s1 _ _ _ S' st rs⟩⟩
theorem q_lst (h : PA X es (LA G qA)) : PE X (.List es pos) (LE G (qLst qA)) := PE.imp (pe_lst h) fun σ H Q ⟨e, M, K, S, q, f⟩ => ⟨e, M, _, S, q, fun ps e1 k vs H1 M1 S1 s1 R => ⟨by rw [R.length]; exact sz_fits k.1, fun p hp => by
  obtain ⟨S', st, rs⟩ := S1.newLst hp R
  exact (f _ e1 k.2).from s1 _ _ _ S' st rs⟩⟩
/-! ### built-in functions -/
inductive AccAll (G : En) (H : Hp) (M : Addr → Prop) : List V → List PV → Prop
  | nil : AccAll G H M [] []
  | cons {v vs p ps} : Acc G H M v p → AccAll G H M vs ps → AccAll G H M (v :: vs) (p :: ps)
def accs (e : PEnv) : List QV → Option (List PV)
  | [] => some []
  | r :: rs => match acc e r, accs e rs with
    | some p, some ps => some (p :: ps)
    | _, _ => none
theorem ResAll.acc {e : PEnv} {M : Addr → Prop} {σ : L2.St} {H : Hp} (S : StOk G e M σ H) : ∀ {vs : List V} {rs : List QV} {ps : List PV}, ResAll G e M σ H vs rs → accs e rs = some ps → AccAll G.toEn H M vs ps
  | _, _, ps, .nil, h => by cases h; exact .nil
  | _, _, ps, .cons (r := r) (rs := rs) h t, hp => by
    unfold accs at hp
    cases c : CP.acc e (settle r) with
    | none => rw [c] at hp; cases hp
    | some p =>
      rw [c] at hp
      cases d : accs e rs with
      | none => rw [d] at hp; cases hp
      | some qs =>
        rw [d] at hp; cases hp
        exact .cons (Res.acc S h c) (ResAll.acc S t d)
def withPs (o : Option (List PV)) (k : List PV → Prop) : Prop := match o with
  | some p => k p
  | none => False
theorem withPs_of {o : Option (List PV)} {k : List PV → Prop} (h : withPs o k) : ∃ p, o = some p ∧ k p := by
  cases o with
  | none => exact h.elim
  | some p => exact ⟨p, rfl, h⟩
def qCB (g : List PV → (QV → Prop) → Prop) (q : QBs) : QE := fun e Q => q e fun rs e1 => withPs (accs e1 rs) fun ps => g ps fun r => Q r e1
def LiftC (G : Gh) (r : List V → Hp → VK → Prop) (g : List PV → (QV → Prop) → Prop) : Prop := ∀ (e : PEnv) (M : Addr → Prop) (σ : L2.St) (H : Hp) (vs : List V) (ps : List PV) (Q : VK) (k : QV → Prop),
  StOk G e M σ H → AccAll G.toEn H M vs ps → g ps k → (∀ r, k r → Aft G σ H M Q r e) → r vs H Q
variable {x : Str} {p : Pos} {id T : String} {r : List V → Hp → VK → Prop} {gg : List PV → (QV → Prop) → Prop}
theorem cb_ok (l : LiftC G r gg) {σ : L2.St} {H : Hp} {Q : VK} (h : LE G (qCB gg qB) σ H Q) : tCB r (LB G qB) σ H Q := by
  obtain ⟨e, M, K, S, q, f⟩ := h
  refine ⟨e, M, _, S, q, fun rs e1 k vs H1 M1 S1 s1 R => ?_⟩
  obtain ⟨ps, a1, z⟩ := withPs_of k
  exact l e1 M1 σ H1 vs ps Q _ S1 (ResAll.acc S1 R a1) z fun r kr => (f r e1 kr).from s1
theorem q_cb (hc : CallR X (.builtin id) r) (l : LiftC G r gg) (hg : Gl X x) (hm : X.mg x = none) (hv : bootBuiltins x = some (.builtin id)) (ha : PA X (a :: es) (LB G qB)) (hn : x ≠ "__name__" := by decide) (hdb : (x == ("__debug__" : Str)) = false := by decide)
    (he : starEach (a :: es) X.env = (false, eval a X.env) :: starEach es X.env := by rfl) (hpl : (backTo pos (starEach es X.env)).any (·.1) = false := by rfl) : PE X (.Call (.Name x p) (a :: es) [] pos) (LE G (qCB gg qB)) :=
  PE.imp (pe_callB hc hg hm hv ha hn hdb he hpl) fun _ _ _ => cb_ok l
theorem q_cty (hc : CallR X (.type T) r) (l : LiftC G r gg) (hg : Gl X x) (hm : X.mg x = none) (hv : bootBuiltins x = some (.type T)) (ha : PA X (a :: es) (LB G qB)) (hn : x ≠ "__name__" := by decide) (hdb : (x == ("__debug__" : Str)) = false := by decide)
    (he : starEach (a :: es) X.env = (false, eval a X.env) :: starEach es X.env := by rfl) (hpl : (backTo pos (starEach es X.env)).any (·.1) = false := by rfl) : PE X (.Call (.Name x p) (a :: es) [] pos) (LE G (qCB gg qB)) :=
  PE.imp (pe_callTy hc hg hm hv ha hn hdb he hpl) fun _ _ _ => cb_ok l
/-- len -/
def gLen (ps : List PV) (k : QV → Prop) : Prop := match ps with
  | [.lst xs] => k (.sh (.int xs.length))
  | [.scr xs] => k (.sh (.int xs.length))
  | [.tup xs] => k (.sh (.int xs.length))
  | [.str z] => z.length ≤ SZ ∧ k (.sh (.int z.length))
  | _ => False
theorem acc1 {H : Hp} {M : Addr → Prop} {vs : List V} {p : PV} (h : AccAll G.toEn H M vs [p]) : ∃ v, vs = [v] ∧ Acc G.toEn H M v p := by
  cases h with
  | cons h t => cases t; exact ⟨_, rfl, h⟩
theorem acc2 {H : Hp} {M : Addr → Prop} {vs : List V} {p q : PV} (h : AccAll G.toEn H M vs [p, q]) : ∃ v w, vs = [v, w] ∧ Acc G.toEn H M v p ∧ Acc G.toEn H M w q := by
  cases h with
  | cons h t =>
    obtain ⟨w, rfl, h2⟩ := acc1 t
    exact ⟨_, w, rfl, h, h2⟩
abbrev rLenQ (K : PySem.W.Frag) : List V → Hp → VK → Prop := fun xs H Q => (∃ p ys, xs = [.ref p] ∧ (SqL K H p ys ∨ SqT K H p ys) ∧ Q (.int ys.length) H) ∨ (∃ z, xs = [.str z] ∧ z.length ≤ sizeLine ∧ Q (.int z.length) H)
theorem l_len : LiftC G (rLenQ G.K) gLen := fun e M σ H vs ps Q k S a g f => by
  unfold gLen at g
  split at g
  · obtain ⟨v, rfl, b⟩ := acc1 a
    obtain ⟨a1, us, rfl, s1, r1⟩ := b.lst
    refine .inl ⟨a1, us, rfl, .inl s1, ?_⟩
    rw [r1.length]
    exact aft_sh S (f _ g) (.int _)
  · obtain ⟨v, rfl, b⟩ := acc1 a
    obtain ⟨a1, us, rfl, s1, r1⟩ := b.scr
    refine .inl ⟨a1, us, rfl, .inl s1, ?_⟩
    rw [r1.length]
    exact aft_sh S (f _ g) (.int _)
  · obtain ⟨v, rfl, b⟩ := acc1 a
    obtain ⟨a1, us, rfl, s1, r1⟩ := b.tup
    refine .inl ⟨a1, us, rfl, .inr s1, ?_⟩
    rw [r1.length]
    exact aft_sh S (f _ g) (.int _)
  · obtain ⟨v, rfl, b⟩ := acc1 a
    rw [b.str]
    exact .inr ⟨_, rfl, sz_fits g.1, aft_sh S (f _ g.2) (.int _)⟩
  · exact g.elim
theorem cr_lenQ (hK : X.K = G.K) : CallR X (.builtin "len") (rLenQ G.K) := hK ▸ CallR.or call_len_seq call_len_str
theorem q_len (g : Good G lv X) (hm : X.mg "len" = none) (ha : PA X (a :: es) (LB G qB)) (hg : Gl X "len" := by rfl) (he : starEach (a :: es) X.env = (false, eval a X.env) :: starEach es X.env := by rfl) (hpl : (backTo pos (starEach es X.env)).any (·.1) = false := by rfl) :
    PE X (.Call (.Name "len" p) (a :: es) [] pos) (LE G (qCB gLen qB)) := q_cb (cr_lenQ g.K) l_len hg hm PySem.boot_len ha (by decide) (by decide) he hpl
/-- list(..), tuple(..) of a row -/
def gList (ps : List PV) (k : QV → Prop) : Prop := match ps with
  | [.lst xs] => k (.fr (.lst xs))
  | [.tup xs] => k (.fr (.lst xs))
  | _ => False
def gTuple (ps : List PV) (k : QV → Prop) : Prop := match ps with
  | [.lst xs] => k (.sh (.tup xs))
  | [.tup xs] => k (.sh (.tup xs))
  | _ => False
abbrev rListQ (K : PySem.W.Frag) : List V → Hp → VK → Prop := fun xs H Q => ∃ p ys, xs = [.ref p] ∧ (SqL K H p ys ∨ SqT K H p ys) ∧ ∀ l, H l = none → Q (.ref l) (L2.upd H l (.lst ys))
abbrev rTupQ (K : PySem.W.Frag) : List V → Hp → VK → Prop := fun xs H Q => ∃ p ys, xs = [.ref p] ∧ ((SqL K H p ys ∧ ∀ l, H l = none → Q (.ref l) (L2.upd H l (.tup ys))) ∨ (SqT K H p ys ∧ Q (.ref p) H))
theorem l_list : LiftC G (rListQ G.K) gList := fun e M σ H vs ps Q k S a g f => by
  unfold gList at g
  split at g
  · obtain ⟨v, rfl, b⟩ := acc1 a
    obtain ⟨a1, us, rfl, s1, r1⟩ := b.lst
    refine ⟨a1, us, rfl, .inl s1, fun l hl => ?_⟩
    obtain ⟨S', st, rs⟩ := S.newLst hl r1
    exact f _ g _ _ _ S' st rs
  · obtain ⟨v, rfl, b⟩ := acc1 a
    obtain ⟨a1, us, rfl, s1, r1⟩ := b.tup
    refine ⟨a1, us, rfl, .inr s1, fun l hl => ?_⟩
    obtain ⟨S', st, rs⟩ := S.newLst hl r1
    exact f _ g _ _ _ S' st rs
  · exact g.elim
theorem l_tuple : LiftC G (rTupQ G.K) gTuple := fun e M σ H vs ps Q k S a g f => by
  unfold gTuple at g
  split at g
  · obtain ⟨v, rfl, b⟩ := acc1 a
    obtain ⟨a1, us, rfl, s1, r1⟩ := b.lst
    refine ⟨a1, us, rfl, .inl ⟨s1, fun l hl => ?_⟩⟩
    obtain ⟨S', st, rs⟩ := S.newTup hl r1
    exact f _ g _ _ _ S' st rs
  · obtain ⟨v, rfl, b⟩ := acc1 a
    have ar := b.tupR
    obtain ⟨a1, us, rfl, s1, r1⟩ := b.tup
    exact ⟨a1, us, rfl, .inr ⟨s1, aft_sh S (f _ g) ar⟩⟩
  · exact g.elim
theorem cr_listQ (hK : X.K = G.K) : CallR X (.type "list") (rListQ G.K) := hK ▸ call_list_of
theorem cr_tupQ (hK : X.K = G.K) : CallR X (.type "tuple") (rTupQ G.K) := hK ▸ call_tuple_of
theorem q_list (g : Good G lv X) (hm : X.mg "list" = none) (ha : PA X (a :: es) (LB G qB)) (hg : Gl X "list" := by rfl) (he : starEach (a :: es) X.env = (false, eval a X.env) :: starEach es X.env := by rfl) (hpl : (backTo pos (starEach es X.env)).any (·.1) = false := by rfl) :
    PE X (.Call (.Name "list" p) (a :: es) [] pos) (LE G (qCB gList qB)) := q_cty (cr_listQ g.K) l_list hg hm (by decide +kernel) ha (by decide) (by decide) he hpl
theorem q_tuple (g : Good G lv X) (hm : X.mg "tuple" = none) (ha : PA X (a :: es) (LB G qB)) (hg : Gl X "tuple" := by rfl) (he : starEach (a :: es) X.env = (false, eval a X.env) :: starEach es X.env := by rfl) (hpl : (backTo pos (starEach es X.env)).any (·.1) = false := by rfl) :
    PE X (.Call (.Name "tuple" p) (a :: es) [] pos) (LE G (qCB gTuple qB)) := q_cty (cr_tupQ g.K) l_tuple hg hm (by decide +kernel) ha (by decide) (by decide) he hpl
/-- int(..) of a number or a bool; abs -/
def gIntC (ps : List PV) (k : QV → Prop) : Prop := match ps with
  | [.int i] => k (.sh (.int i))
  | [.bl b] => k (.sh (.int (if b then 1 else 0)))
  | _ => False
theorem l_intC : LiftC G (fun xs H Q => (∃ i, xs = [.int i] ∧ Q (.int i) H) ∨ ∃ k, xs = [.bl k] ∧ Q (.int (if k then 1 else 0)) H) gIntC := fun e M σ H vs ps Q k S a g f => by
  unfold gIntC at g
  split at g
  · obtain ⟨v, rfl, b⟩ := acc1 a
    rw [b.int]
    exact .inl ⟨_, rfl, aft_sh S (f _ g) (.int _)⟩
  · obtain ⟨v, rfl, b⟩ := acc1 a
    rw [b.bl]
    exact .inr ⟨_, rfl, aft_sh S (f _ g) (.int _)⟩
  · exact g.elim
theorem q_intC (hm : X.mg "int" = none) (ha : PA X (a :: es) (LB G qB)) (hg : Gl X "int" := by rfl) (he : starEach (a :: es) X.env = (false, eval a X.env) :: starEach es X.env := by rfl) (hpl : (backTo pos (starEach es X.env)).any (·.1) = false := by rfl) :
    PE X (.Call (.Name "int" p) (a :: es) [] pos) (LE G (qCB gIntC qB)) := q_cty call_int1 l_intC hg hm (by decide +kernel) ha (by decide) (by decide) he hpl
end
end CP
/-! Statements. -/
namespace CP
open PySem PySem.Spec PyProof.Rows L2
structure PEnds where
  nx : PEnv → Prop
  rt : QV → PEnv → Prop
  bk : PEnv → Prop := fun _ => False
  ct : PEnv → Prop := fun _ => False
abbrev QS := PEnds → PEnv → Prop
/-- behind a statement -/
def AftS (G : Gh) (H : Hp) (M : Addr → Prop) (N : L2.St → Hp → Prop) (e : PEnv) : Prop := ∀ σ H' M', StOk G e M' σ H' → Step H M H' M' → N σ H'
def AftR (G : Gh) (H : Hp) (M : Addr → Prop) (N : VK) (r : QV) (e : PEnv) : Prop := ∀ σ v H' M', StOk G e M' σ H' → Step H M H' M' → Res G e M' σ H' v r → N v H'
structure EndsTo (G : Gh) (H : Hp) (M : Addr → Prop) (E : PEnds) (D : Ends) : Prop where
  nx : ∀ e, E.nx e → AftS G H M D.nx e
  rt : ∀ r e, E.rt r e → AftR G H M D.rt r e
  bk : ∀ e, E.bk e → AftS G H M D.bk e
  ct : ∀ e, E.ct e → AftS G H M D.ct e
def LS (G : Gh) (q : QS) : TS := fun D σ H => ∃ e M E, StOk G e M σ H ∧ q E e ∧ EndsTo G H M E D
section
variable {G : Gh} {lv : Nat} {X : Cx} {a b c : Expr} {qa qb : QE} {pos : Pos} {s t : Stmt} {ss ts : List Stmt} {q r : QS}
theorem AftS.from {H H1 : Hp} {M M1 : Addr → Prop} {N : L2.St → Hp → Prop} {e : PEnv} (h : AftS G H M N e) (s : Step H M H1 M1) : AftS G H1 M1 N e := fun σ H' M' S' s' => h σ H' M' S' (s.trans s')
theorem AftR.from {H H1 : Hp} {M M1 : Addr → Prop} {N : VK} {r : QV} {e : PEnv} (h : AftR G H M N r e) (s : Step H M H1 M1) : AftR G H1 M1 N r e := fun σ v H' M' S' s' R => h σ v H' M' S' (s.trans s') R
theorem EndsTo.from {H H1 : Hp} {M M1 : Addr → Prop} {E : PEnds} {D : Ends} (h : EndsTo G H M E D) (s : Step H M H1 M1) : EndsTo G H1 M1 E D := ⟨fun e k => (h.nx e k).from s, fun r e k => (h.rt r e k).from s, fun e k => (h.bk e k).from s, fun e k => (h.ct e k).from s⟩
def sNil : QS := fun E e => E.nx e
def sSeq (q r : QS) : QS := fun E e => q { E with nx := r E } e
theorem s_nil : PSs X [] (LS G sNil) := PSs.imp pss_nil fun D σ H ⟨e, M, E, S, k, f⟩ => f.nx e k σ H M S .refl
theorem s_cons (h1 : PS X s (LS G q)) (h2 : PSs X ss (LS G r)) : PSs X (s :: ss) (LS G (sSeq q r)) := PSs.imp (pss_cons h1 h2) fun D σ H ⟨e, M, E, S, k, f⟩ =>
  ⟨e, M, _, S, k, ⟨fun e1 k1 σ1 H1 M1 S1 s1 => ⟨e1, M1, E, S1, k1, f.from s1⟩, f.rt, f.bk, f.ct⟩⟩
theorem s_one (h : PS X s (LS G q)) : PSs X [s] (LS G q) := pss_one h
theorem s_pass : PS X (.Pass pos) (LS G sNil) := PS.imp ps_pass fun D σ H ⟨e, M, E, S, k, f⟩ => f.nx e k σ H M S .refl
def sBreak : QS := fun E e => E.bk e
def sCont : QS := fun E e => E.ct e
theorem s_break : PS X (.Break pos) (LS G sBreak) := PS.imp ps_break fun D σ H ⟨e, M, E, S, k, f⟩ => f.bk e k σ H M S .refl
theorem s_cont : PS X (.Continue pos) (LS G sCont) := PS.imp ps_continue fun D σ H ⟨e, M, E, S, k, f⟩ => f.ct e k σ H M S .refl
def sExpr (q : QE) : QS := fun E e => q e fun _ e1 => E.nx e1
theorem s_expr (ha : PE X a (LE G qa)) (hs : swapsWith a none pos.line X.env = pure false := by rfl) : PS X (.Expr a pos) (LS G (sExpr qa)) := PS.imp (ps_expr ha hs) fun D σ H ⟨e, M, E, S, k, f⟩ =>
  ⟨e, M, _, S, k, fun r e1 k1 v H1 M1 S1 s1 R => by
    exact f.nx e1 k1 σ H1 M1 S1 s1⟩
def sRet (q : QE) : QS := fun E e => q e fun r e1 => E.rt r e1
theorem s_ret (ha : PE X a (LE G qa)) : PS X (.Return (some a) pos) (LS G (sRet qa)) := PS.imp (ps_ret ha) fun D σ H ⟨e, M, E, S, k, f⟩ =>
  ⟨e, M, _, S, k, fun r e1 k1 v H1 M1 S1 s1 R => f.rt r e1 k1 σ v H1 M1 S1 s1 R⟩
def sRetN : QS := fun E e => E.rt (.sh .non) e
theorem s_retN : PS X (.Return none pos) (LS G sRetN) := PS.imp ps_retN fun D σ H ⟨e, M, E, S, k, f⟩ => f.rt _ e k σ .non H M S .refl .non
def sIf (t : QT) (q r : QS) : QS := fun E e => t e fun b e1 => if b = true then q E e1 else r E e1
theorem s_if {tq : QT} (hc : PT X c (LT G tq)) (h1 : PSs X ss (LS G q)) (h2 : PSs X ts (LS G r)) : PS X (.If c ss ts pos) (LS G (sIf tq q r)) := PS.imp (ps_if hc h1 h2) fun D σ H ⟨e, M, E, S, k, f⟩ =>
  ⟨e, M, _, S, k, fun b e1 k1 H1 M1 S1 s1 => by
    cases b with
    | true => exact ⟨e1, M1, E, S1, k1, f.from s1⟩
    | false => exact ⟨e1, M1, E, S1, k1, f.from s1⟩⟩

/-! ### stores -/
/-- a slot that may be given a new value -/
def slB : Sl → Bool
  | .io _ => false
  | _ => true
def slF : Option Sl → Bool
  | some s => slB s
  | none => false
def freeS (e : PEnv) (i : Nat) (k : Prop) : Prop := match slF e[i]? with
  | true => k
  | false => False
theorem freeS_of {e : PEnv} {i : Nat} {k : Prop} (h : freeS e i k) : i < e.length ∧ (∀ p, e[i]? ≠ some (Sl.io p)) ∧ k := by
  unfold freeS at h
  split at h
  · rename_i c
    cases d : e[i]? with
    | none => rw [d] at c; cases c
    | some s =>
      rw [d] at c
      refine ⟨get_lt d, fun p z => ?_, h⟩
      cases z
      cases c
  · exact h.elim
theorem mu_set2 {e : PEnv} {i : Nat} {s : Sl} (hi : i < e.length) {j : Nat} (m : Mu (e.set i s) j) (c : j ≠ i) : Mu e j := by
  obtain ⟨q, h⟩ := m
  rw [List.getElem?_set_ne (Ne.symm c)] at h
  exact ⟨q, h⟩
theorem get_set_ne {e : PEnv} {i j : Nat} {s : Sl} (c : j ≠ i) : (e.set i s)[j]? = e[j]? := List.getElem?_set_ne (Ne.symm c)
variable {e : PEnv} {M : Addr → Prop} {σ : L2.St} {H : Hp}
theorem sig_ne {i j : Nat} {v : V} (c : j ≠ i) : (σ.set i (some v))[j]? = σ[j]? := List.getElem?_set_ne (Ne.symm c)
theorem StOk.setVal (S : StOk G e M σ H) {i : Nat} {v : V} {p : PV} (hi : i < e.length) (no : ∀ q, e[i]? ≠ some (Sl.io q)) (r : Rep G.toEn H M v p) : StOk G (e.set i (.val p)) M (σ.set i (some v)) H := by
  have li : i < σ.length := by rw [← S.len]; exact hi
  refine ⟨by rw [List.length_set, List.length_set]; exact S.len, fun j q h => ?_, fun j q h => ?_, fun j q h => ?_, fun j k x mj mk h1 h2 => ?_, fun j x h => ?_, S.m0, S.trk, S.prs, S.tmp⟩
  · by_cases c : j = i
    · subst c
      rw [List.getElem?_set_self hi] at h; cases h
      exact ⟨v, by rw [List.getElem?_set_self li], r⟩
    · rw [get_set_ne c] at h
      obtain ⟨w, q1, q2⟩ := S.val j q h
      exact ⟨w, by rw [sig_ne c]; exact q1, q2⟩
  · have ⟨c, m⟩ := mu_set hi ⟨q, .inl h⟩
    rw [get_set_ne c] at h
    obtain ⟨x, q1, q2⟩ := S.own j q h
    exact ⟨x, by rw [sig_ne c]; exact q1, q2⟩
  · have ⟨c, m⟩ := mu_set hi ⟨q, .inr h⟩
    rw [get_set_ne c] at h
    obtain ⟨x, q0, q1, q2⟩ := S.io j q h
    exact ⟨x, q0, by rw [sig_ne c]; exact q1, q2⟩
  · have ⟨c1, m1⟩ := mu_set hi mj
    have ⟨c2, m2⟩ := mu_set hi mk
    rw [sig_ne c1] at h1
    rw [sig_ne c2] at h2
    exact S.inj j k x m1 m2 h1 h2
  · obtain ⟨q1, q, q2⟩ := S.iol j x h
    have c : j ≠ i := fun c => no q (c ▸ q2)
    exact ⟨by rw [sig_ne c]; exact q1, q, by rw [get_set_ne c]; exact q2⟩
theorem StOk.setOwn (S : StOk G e M σ H) {i : Nat} {a : Addr} {p : PV} (hi : i < e.length) (no : ∀ q, e[i]? ≠ some (Sl.io q)) (o : Obj G.toEn H M a p) (ma : M a) (m0 : ¬ G.M0 a) (h0 : G.H0 a = none) (nj : ∀ j, Mu e j → σ[j]? ≠ some (some (.ref a))) :
    StOk G (e.set i (.own p)) M (σ.set i (some (.ref a))) H := by
  have li : i < σ.length := by rw [← S.len]; exact hi
  refine ⟨by rw [List.length_set, List.length_set]; exact S.len, fun j q h => ?_, fun j q h => ?_, fun j q h => ?_, fun j k x mj mk h1 h2 => ?_, fun j x h => ?_, S.m0, S.trk, S.prs, S.tmp⟩
  · by_cases c : j = i
    · subst c
      rw [List.getElem?_set_self hi] at h; cases h
    · rw [get_set_ne c] at h
      obtain ⟨w, q1, q2⟩ := S.val j q h
      exact ⟨w, by rw [sig_ne c]; exact q1, q2⟩
  · by_cases c : j = i
    · subst c
      rw [List.getElem?_set_self hi] at h; cases h
      exact ⟨a, by rw [List.getElem?_set_self li], o, ma, m0, h0⟩
    · rw [get_set_ne c] at h
      obtain ⟨x, q1, q2⟩ := S.own j q h
      exact ⟨x, by rw [sig_ne c]; exact q1, q2⟩
  · by_cases c : j = i
    · subst c
      rw [List.getElem?_set_self hi] at h; cases h
    · rw [get_set_ne c] at h
      obtain ⟨x, q0, q1, q2⟩ := S.io j q h
      exact ⟨x, q0, by rw [sig_ne c]; exact q1, q2⟩
  · by_cases c1 : j = i
    · by_cases c2 : k = i
      · rw [c1, c2]
      · subst c1
        rw [List.getElem?_set_self li] at h1; cases h1
        rw [sig_ne c2] at h2
        exact absurd h2 (nj k (mu_set2 hi mk c2))
    · by_cases c2 : k = i
      · subst c2
        rw [List.getElem?_set_self li] at h2; cases h2
        rw [sig_ne c1] at h1
        exact absurd h1 (nj j (mu_set2 hi mj c1))
      · rw [sig_ne c1] at h1
        rw [sig_ne c2] at h2
        exact S.inj j k x (mu_set2 hi mj c1) (mu_set2 hi mk c2) h1 h2
  · obtain ⟨q1, q, q2⟩ := S.iol j x h
    have c : j ≠ i := fun c => no q (c ▸ q2)
    exact ⟨by rw [sig_ne c]; exact q1, q, by rw [get_set_ne c]; exact q2⟩
/-- name = value -/
def storeS (i : Nat) (r : QV) (e : PEnv) (k : PEnv → Prop) : Prop := match r with
  | .fr p => freeS e i (k (e.set i (.own p)))
  | r => keep r e fun p e1 => freeS e1 i (k (e1.set i (.val p)))
def sSet (i : Nat) (q : QE) : QS := fun E e => q e fun r e1 => storeS i r e1 E.nx
theorem store_fin {v : V} {r : QV} {i : Nat} {k : PEnv → Prop} (S : StOk G e M σ H) (R : Res G e M σ H v r) (h : storeS i r e k) : ∃ e' M', k e' ∧ StOk G e' M' (σ.set i (some v)) H ∧ Step H M H M' := by
  have kp : keep r e (fun p e1 => freeS e1 i (k (e1.set i (.val p)))) → ∃ e' M', k e' ∧ StOk G e' M' (σ.set i (some v)) H ∧ Step H M H M' := fun h => by
    obtain ⟨p, e1, M1, k1, S1, s1, R1⟩ := keep_ok S R h
    obtain ⟨hi, no, k2⟩ := freeS_of k1
    exact ⟨_, M1, k2, S1.setVal hi no R1, s1⟩
  cases r with
  | sh p => exact kp h
  | bor j => exact kp h
  | fr p =>
    obtain ⟨hi, no, k2⟩ := freeS_of h
    obtain ⟨a, rfl, o, ma, m0, h0, nj⟩ := R
    exact ⟨_, M, k2, S.setOwn hi no o ma m0 h0 nj, .refl⟩
theorem s_set {i : Nat} {x : Str} {pos' : Pos} (g : Good G lv X) (ha : PE X a (LE G qa)) (hi : X.N[i]? = some x := by rfl) (hx : Loc X.env.scope x := by first | exact Or.inl rfl | exact Or.inr rfl) (hs : swapsWith a (some (.Name x pos')) pos.line X.env = pure false := by rfl) (hf : X.fn x = true ∨ X.env.scope.names.lookup x = some .local := by first | exact .inl rfl | exact .inr rfl | assumption) :
    PS X (.Assign [.Name x pos'] a pos) (LS G (sSet i qa)) := PS.imp (ps_set g.nd hi hx ha hs hf) fun D σ H ⟨e, M, E, S, k, f⟩ =>
  ⟨e, M, _, S, k, fun r e1 k1 v H1 M1 S1 s1 R => by
    obtain ⟨e2, M2, k2, S2, s2⟩ := store_fin S1 R k1
    exact f.nx e2 k2 _ H1 M2 S2 (s1.trans s2)⟩
/-! targets: what is stored stays -/
abbrev QG := PV → PEnv → (PEnv → Prop) → Prop
/-- vs: the slots that are touched -/
def LG (G : Gh) (vs : List Nat) (q : QG) : TG := fun v σ H Q => ∃ e M p K, StOk G e M σ H ∧ Rep G.toEn H M v p ∧ q p e K ∧ ∀ e', K e' → ∀ σ' H' M', StOk G e' M' σ' H' → Step H M H' M' → wipe σ' vs = wipe σ vs → Q σ' H'
abbrev QGs := List PV → PEnv → (PEnv → Prop) → Prop
def LGs (G : Gh) (vs : List Nat) (q : QGs) : TGs := fun us σ H Q => ∃ e M ps K, StOk G e M σ H ∧ RepAll G.toEn H M us ps ∧ q ps e K ∧ ∀ e', K e' → ∀ σ' H' M', StOk G e' M' σ' H' → Step H M H' M' → wipe σ' vs = wipe σ vs → Q σ' H'
theorem PG.imp {t t' : TG} (h : PG X a t) (f : ∀ v σ H Q, t' v σ H Q → t v σ H Q) : PG X a t' := ⟨fun pins s σ H v u Q I r q => h.run pins s σ H v u Q I r (f v σ H Q q)⟩
theorem PGs.imp {es : List Expr} {t t' : TGs} (h : PGs X es t) (f : ∀ v σ H Q, t' v σ H Q → t v σ H Q) : PGs X es t' := ⟨fun pins s σ H v u Q I r q => h.run pins s σ H v u Q I r (f v σ H Q q)⟩
theorem wipe_set : ∀ {vs : List Nat} {σ : L2.St} {i : Nat} {x : Option V}, i ∈ vs → wipe (σ.set i x) vs = wipe σ vs := by
  intro vs σ i x h
  refine List.ext_getElem? fun j => ?_
  have key : ∀ (ws : List Nat) (τ : L2.St) (j : Nat), (wipe τ ws)[j]? = if j ∈ ws then (if j < τ.length then some none else none) else τ[j]? := by
    intro ws τ
    induction ws with
    | nil => intro j; simp [wipe]
    | cons w ws ih =>
      intro j
      unfold wipe
      by_cases c : j = w
      · subst c
        by_cases l : j < τ.length
        · rw [List.getElem?_set_self (by rw [wipe_length]; exact l)]; simp [l]
        · have : ((wipe τ ws).set j none)[j]? = none := List.getElem?_eq_none_iff.mpr (by rw [List.length_set, wipe_length]; omega)
          rw [this]; simp [l]
      · rw [List.getElem?_set_ne (Ne.symm c), ih]; simp [c]
  rw [key, key]
  by_cases c : j ∈ vs
  · simp [c, List.length_set]
  · have : j ≠ i := fun z => c (z ▸ h)
    simp [c, List.getElem?_set_ne (Ne.symm this)]
def gqName (i : Nat) : QG := fun p e k => freeS e i (k (e.set i (.val p)))
def gqNil : QGs := fun ps e k => match ps with
  | [] => k e
  | _ => False
def gqCons (a : QG) (b : QGs) : QGs := fun ps e k => match ps with
  | p :: r => a p e fun e1 => b r e1 k
  | [] => False
def gqTup (n : Nat) (b : QGs) : QG := fun p e k => match p with
  | .tup ps => match Nat.beq ps.length n with
    | true => b ps e k
    | false => False
  | .lst ps => match Nat.beq ps.length n with
    | true => b ps e k
    | false => False
  | _ => False
theorem g_name {i : Nat} {x : Str} {vs : List Nat} (hN : X.N.Nodup) (hi : X.N[i]? = some x := by rfl) (hx : Loc X.env.scope x := by first | exact Or.inl rfl | exact Or.inr rfl) (hv : i ∈ vs := by decide) (hf : X.fn x = true ∨ X.env.scope.names.lookup x = some .local := by first | exact .inl rfl | exact .inr rfl | assumption) : PG X (.Name x pos) (LG G vs (gqName i)) :=
  PG.imp (pg_name hN hi hx hf) fun v σ H Q ⟨e, M, p, K, S, R, k, f⟩ => by
    obtain ⟨li, no, k2⟩ := freeS_of k
    exact f _ k2 _ H M (S.setVal li no R) .refl (wipe_set hv)
variable {es : List Expr} {vs : List Nat} {ga : QG} {gb : QGs}
theorem g_nil : PGs X [] (LGs G vs gqNil) := PGs.imp pgs_nil fun v σ H Q ⟨e, M, ps, K, S, R, k, f⟩ => by
  unfold gqNil at k
  split at k
  · cases R
    exact ⟨rfl, f e k σ H M S .refl rfl⟩
  · exact k.elim
theorem g_cons (h1 : PG X a (LG G vs ga)) (h2 : PGs X es (LGs G vs gb)) (hs : (assignEach (a :: es) X.env).map (·.2) = assign a X.env :: (assignEach es X.env).map (·.2) := by rfl) : PGs X (a :: es) (LGs G vs (gqCons ga gb)) := PGs.imp (pgs_cons h1 h2 hs) fun v σ H Q ⟨e, M, ps, K, S, R, k, f⟩ => by
  cases R with
  | nil => exact k.elim
  | cons r rr => exact ⟨_, _, rfl, e, M, _, _, S, r, k, fun e1 k1 σ1 H1 M1 S1 s1 w1 => ⟨e1, M1, _, K, S1, rr.step s1, k1, fun e2 k2 σ2 H2 M2 S2 s2 w2 => f e2 k2 σ2 H2 M2 S2 (s1.trans s2) (w2.trans w1)⟩⟩
theorem PG.or {tg : Expr} {t1 t2 : TG} (h1 : PG X tg t1) (h2 : PG X tg t2) : PG X tg (fun v σ H Q => t1 v σ H Q ∨ t2 v σ H Q) := ⟨fun pins s σ H v u Q I r q => q.elim (h1.run pins s σ H v u Q I r) (h2.run pins s σ H v u Q I r)⟩
theorem g_tup {k : Nat} {n : Nat} (g : Good G lv X) (h : PGs X es (LGs G vs gb)) (hn : (assignEach es X.env).length = n := by rfl) (hst : (assignEach es X.env).findIdx? (·.1) = none := by rfl) : PG X (.Tuple es k pos) (LG G vs (gqTup n gb)) :=
  PG.imp (PG.or (pg_tup g.calm h hn hst) (pg_lst g.calm h hn hst)) fun v σ H Q ⟨e, M, p, K, S, R, k, f⟩ => by
    unfold gqTup at k
    split at k
    · split at k
      · rename_i c
        cases R with
        | tup st rr => exact .inl ⟨_, _, rfl, g.K ▸ st.sq, by rw [rr.length]; exact Nat.eq_of_beq_eq_true c, e, M, _, K, S, rr, k, f⟩
      · exact k.elim
    · split at k
      · rename_i c
        cases R with
        | lst st rr => exact .inr ⟨_, _, rfl, g.K ▸ st.sq, by rw [rr.length]; exact Nat.eq_of_beq_eq_true c, e, M, _, K, S, rr, k, f⟩
      · exact k.elim
    · exact k.elim
def sAsg (q : QE) (g : QG) : QS := fun E e => q e fun r e1 => keep r e1 fun p e2 => g p e2 E.nx
theorem s_asg {tg : Expr} (ha : PE X a (LE G qa)) (hg : PG X tg (LG G vs ga)) (hs : swapsWithSole [tg] a pos.line X.env = pure false := by rfl) (hw : swappedStores [tg] a X.env = pure none := by rfl) (h1 : (assignEach [tg] X.env).map (·.2) = [assign tg X.env] := by rfl) : PS X (.Assign [tg] a pos) (LS G (sAsg qa ga)) :=
  PS.imp (ps_asg ha hg hs hw h1) fun D σ H ⟨e, M, E, S, k, f⟩ => ⟨e, M, _, S, k, fun r e1 k1 v H1 M1 S1 s1 R => by
    obtain ⟨p, e2, M2, k2, S2, s2, R2⟩ := keep_ok S1 R k1
    exact ⟨e2, M2, p, _, S2, R2, k2, fun e3 k3 σ3 H3 M3 S3 s3 _ => f.nx e3 k3 σ3 H3 M3 S3 ((s1.trans s2).trans s3)⟩⟩
/-- name op= e, of numbers -/
def sAug (i : Nat) (g : PV → PV → (QV → Prop) → Prop) (q : QE) : QS := fun E e => withP ((e[i]?).bind Sl.get) fun p => q e fun r e1 => withP (acc e1 r) fun p2 => g p p2 fun r => storeS i r e1 E.nx
/-! ### loops -/
abbrev QI := PEnv → (List PV → PEnv → Prop) → Prop
/-- as it was, or with one new thing -/
def Grow1 (H H' : Hp) : Prop := H' = H ∨ ∃ T o, H T = none ∧ H' = L2.upd H T o
theorem StOk.grow1 (S : StOk G e M σ H) {H' : Hp} (g : Grow1 H H') : StOk G e M σ H' := by
  rcases g with rfl | ⟨T, o, hT, rfl⟩
  · exact S
  · exact S.new hT
theorem step_grow1 {H' : Hp} (g : Grow1 H H') : Step H M H' M := by
  rcases g with rfl | ⟨T, o, hT, rfl⟩
  · exact .refl
  · exact step_new hT
/-- J gives the items, one by one, whatever goes on around -/
def Walks (G : Gh) (J : It) (items : List PV) (H : Hp) (M : Addr → Prop) : Prop := ∀ H2 M2, Step H M H2 M2 → (∀ a, M2 a → H2 a ≠ none) → (∀ (i : Nat) p, items[i]? = some p → J.go i H2 ∧ ∀ x H3, J.yld i H2 x H3 → Grow1 H2 H3 ∧ Rep G.toEn H3 M2 x p) ∧ J.stop items.length H2
def LI (G : Gh) (q : QI) : TI := fun σ H R => ∃ e M K, StOk G e M σ H ∧ q e K ∧ ∀ items e', K items e' → items.length ≤ sizeLine → ∀ J H' M', StOk G e' M' σ H' → Step H M H' M' → Walks G J items H' M' → R J H'
def runF (g : QG) (b : QS) (E : PEnds) : List PV → PEnv → Prop
  | [], e => E.nx e
  | p :: ps, e => g p e fun e1 => b { E with nx := runF g b E ps, ct := runF g b E ps, bk := E.nx } e1
def sFor (i : QI) (g : QG) (b : QS) : QS := fun E e => i e fun items e1 => runF g b E items e1
theorem s_for {tg iter : Expr} {body : List Stmt} {qi : QI} (hp : PassesOwn (model X.prog X.w) X.A X.env X.xe) (g : Good G lv X) (hi : PI X tg iter (LI G qi)) (hg : PG X tg (LG G vs ga)) (hb : PSs X body (LS G q)) (hs : ∀ x, foldedSetIterable iter X.env x = pure x := by intro _; rfl) :
    PS X (.For tg iter body [] pos) (LS G (sFor qi ga q)) := PS.imp (ps_for hp g.calm hi hg hb hs) fun D σ H ⟨e, M, E, S, k, f⟩ => by
  refine ⟨e, M, _, S, k, fun items e1 k1 _ J H1 M1 S1 s1 W => ?_⟩
  refine ⟨fun i m σ' H' => m = items.length - i ∧ i ≤ items.length ∧ ∃ e' M', StOk G e' M' σ' H' ∧ Step H1 M1 H' M' ∧ runF ga q E (items.drop i) e', ⟨_, rfl, Nat.zero_le _, e1, M1, S1, .refl, k1⟩, ?_⟩
  rintro i m σ2 H2 ⟨rfl, hi, e2, M2, S2, s2, k2⟩
  obtain ⟨wg, ws⟩ := W H2 M2 s2 S2.trk
  by_cases c : i < items.length
  · have hp : items[i]? = some items[i] := List.getElem?_eq_getElem c
    obtain ⟨go, yl⟩ := wg i _ hp
    rw [List.drop_eq_getElem_cons c] at k2
    refine .inr ⟨go, fun σ' H' => ∃ e' M', StOk G e' M' σ' H' ∧ Step H1 M1 H' M' ∧ runF ga q E (items.drop (i + 1)) e', fun σ' H' h => ⟨items.length - (i + 1), by omega, rfl, c, h⟩, fun x H3 y => ?_⟩
    obtain ⟨y1, y3⟩ := yl x H3 y
    have y2 : Step H2 M2 H3 M2 := step_grow1 y1
    refine ⟨e2, M2, _, _, S2.grow1 y1, y3, k2, fun e4 k4 σ4 H4 M4 S4 s4 _ => ?_⟩
    have st := (s2.trans y2).trans s4
    refine ⟨e4, M4, _, S4, k4, ⟨fun e5 k5 σ5 H5 M5 S5 s5 => ⟨e5, M5, S5, st.trans s5, k5⟩, fun r e5 k5 => (f.rt r e5 k5).from (s1.trans st), fun e5 k5 => (f.nx e5 k5).from (s1.trans st), fun e5 k5 σ5 H5 M5 S5 s5 => ⟨e5, M5, S5, st.trans s5, k5⟩⟩⟩
  · have ei : i = items.length := by omega
    subst ei
    rw [List.drop_length] at k2
    exact .inl ⟨ws, f.nx e2 k2 σ2 H2 M2 S2 (s1.trans s2)⟩
/-- while: a word and a measure -/
def sWhile (t : QT) (b : QS) : QS := fun E e => ∃ (I : PEnv → Prop) (μ : PEnv → Nat), I e ∧ ∀ e, I e → t e fun c e1 => if c = true then b { E with nx := fun e' => I e' ∧ μ e' < μ e, ct := fun e' => I e' ∧ μ e' < μ e, bk := E.nx } e1 else E.nx e1
theorem s_while {body : List Stmt} {tq : QT} (hp : PassesOwn (model X.prog X.w) X.A X.env X.xe) (hc : PT X c (LT G tq)) (hb : PSs X body (LS G q)) : PS X (.While c body [] pos) (LS G (sWhile tq q)) := PS.imp (ps_while hp hc hb) fun D σ H ⟨e, M, E, S, ⟨I, μ, i0, turn⟩, f⟩ => by
  refine ⟨fun m σ' H' => ∃ e' M', StOk G e' M' σ' H' ∧ Step H M H' M' ∧ I e' ∧ μ e' = m, ⟨_, e, M, S, .refl, i0, rfl⟩, ?_⟩
  rintro m σ1 H1 ⟨e1, M1, S1, s1, i1, rfl⟩
  refine ⟨e1, M1, _, S1, turn e1 i1, fun c e2 k2 H2 M2 S2 s2 => ?_⟩
  cases c with
  | true =>
    refine ⟨fun σ' H' => ∃ e' M', StOk G e' M' σ' H' ∧ Step H M H' M' ∧ I e' ∧ μ e' < μ e1, fun σ' H' ⟨e', M', S', s', i', l'⟩ => ⟨_, l', e', M', S', s', i', rfl⟩, ?_⟩
    have st := s1.trans s2
    exact ⟨e2, M2, _, S2, k2, ⟨fun e5 k5 σ5 H5 M5 S5 s5 => ⟨e5, M5, S5, st.trans s5, k5⟩, fun r e5 k5 => (f.rt r e5 k5).from st, fun e5 k5 => (f.nx e5 k5).from st, fun e5 k5 σ5 H5 M5 S5 s5 => ⟨e5, M5, S5, st.trans s5, k5⟩⟩⟩
  | false => exact f.nx e2 k2 σ1 H2 M2 S2 (s1.trans s2)
end
end CP
/-! What is walked; comprehensions. -/
namespace CP
open PySem PySem.Spec PyProof.Rows L2
section
variable {G : Gh} {lv : Nat} {X : Cx} {a b c : Expr} {qa qb : QE} {pos : Pos} {tg : Expr}
theorem walks_at {J : It} {vs : List V} {P : Hp → Prop} {items : List PV} {H : Hp} {M : Addr → Prop} (W : Walk J vs.length P (YAt vs)) (hP : ∀ H2 M2, Step H M H2 M2 → P H2) (r : RepAll G.toEn H M vs items) : Walks G J items H M := fun H2 M2 s _ => by
  refine ⟨fun i p hp => ?_, by rw [← r.length]; exact W.stops H2 (hP H2 M2 s)⟩
  obtain ⟨v, hv, rv⟩ := r.get' hp
  have li := (List.getElem?_eq_some_iff.mp hv).1
  refine ⟨W.goes i H2 li (hP H2 M2 s), fun x H3 y => ?_⟩
  obtain ⟨rfl, hx⟩ := W.yields i H2 x H3 li (hP H2 M2 s) y
  rw [hv] at hx; cases hx
  exact ⟨.inl rfl, rv.step s⟩
theorem walks_pair {J : It} {n : Nat} {P : Hp → Prop} {xs ys : Nat → Option V} {items : List PV} {H : Hp} {M : Addr → Prop} (W : Walk J n P (YPair xs ys)) (hP : ∀ H2 M2, Step H M H2 M2 → P H2) (hn : items.length = n)
    (r : ∀ (i : Nat) t, items[i]? = some t → ∃ p q, t = .tup [p, q] ∧ ∀ x y, xs i = some x → ys i = some y → Rep G.toEn H M x p ∧ Rep G.toEn H M y q) : Walks G J items H M := fun H2 M2 s tr => by
  refine ⟨fun i t ht => ?_, by rw [hn]; exact W.stops H2 (hP H2 M2 s)⟩
  have li : i < n := by rw [← hn]; exact (List.getElem?_eq_some_iff.mp ht).1
  refine ⟨W.goes i H2 li (hP H2 M2 s), fun v H3 y => ?_⟩
  obtain ⟨T, x, z, rfl, hT, rfl, hx, hz⟩ := W.yields i H2 v H3 li (hP H2 M2 s) y
  obtain ⟨p, q, rfl, rr⟩ := r i t ht
  obtain ⟨r1, r2⟩ := rr x z hx hz
  refine ⟨.inr ⟨T, _, hT, rfl⟩, ?_⟩
  have st : Step H2 M2 (L2.upd H2 T (.tup [x, z])) M2 := step_new hT
  exact .tup ⟨upd_same, fun m => tr T m hT⟩ (.cons ((r1.step s).step st) (.cons ((r2.step s).step st) .nil))
end
section
variable {X : Cx} {tg l : Expr} {tl : TE}
/-- a list, a tuple or a text -/
def iSeqW (K : PySem.W.Frag) (tl : TE) : TI := fun σ H R => tl σ H fun x H1 => (∃ a xs, x = .ref a ∧ SqL K H1 a xs ∧ (xs.length ≤ sizeLine → R (Itl K a) H1)) ∨ (∃ a xs, x = .ref a ∧ SqT K H1 a xs ∧ (xs.length ≤ sizeLine → R (Itt K a) H1)) ∨ ∃ z, x = .str z ∧ R (Its z) H1
theorem pi_seqW (hl : PE X l tl) : PI X tg l (iSeqW X.K tl) := by
  refine ⟨fun pins s σ H R I h => ?_⟩
  refine thn (hl.run pins s σ H _ I h) fun v s1 ⟨x, H1, I1, r1, q1⟩ => ?_
  rcases q1 with ⟨a, xs, rfl, hq, q⟩ | ⟨a, xs, rfl, hq, q⟩ | ⟨z, rfl, q⟩
  · cases r1
    obtain ⟨its, rv, p, hz⟩ := I1.list hq
    refine wpAny_pyIter_list p.isList ?_
    refine ⟨s1.heap.objs.size, [s1.heap.objs.size], _, _, H1, rfl, I1.kept (t' := s1.toks) fun b o e => Heap.get?_push_of_some _ e, turn_list a _, ⟨_, Heap.get?_push_size _ rfl, rfl, rfl⟩, fun b hb => ?_, q hz⟩
    have e : b = s1.heap.objs.size := by simpa using hb
    subst e
    exact I1.fpOk (Nat.le_refl _) (I1.hok.fresh (Nat.le_refl _))
  · cases r1
    obtain ⟨its, rv, p, hz⟩ := I1.tuple hq
    refine wpAny_pyIter_tuple p ?_
    refine ⟨s1.heap.objs.size, [s1.heap.objs.size], _, _, H1, rfl, I1.kept (t' := s1.toks) fun b o e => Heap.get?_push_of_some _ e, turn_tuple a _, ⟨_, Heap.get?_push_size _ rfl, rfl, rfl⟩, fun b hb => ?_, q hz⟩
    have e : b = s1.heap.objs.size := by simpa using hb
    subst e
    exact I1.fpOk (Nat.le_refl _) (I1.hok.fresh (Nat.le_refl _))
  · obtain ⟨t, rfl⟩ := r1
    cases ha : z.cps.all (· < 128)
    · exact wpAny_pyIter_wide ha (pi_one (tk := s1.toks) I1 _ (turn_str _ z t "str_iterator" (.inr rfl)) ⟨_, Heap.get?_push_size _ rfl, rfl, rfl⟩ q)
    · exact wpAny_pyIter_ascii ha (pi_one (tk := s1.toks) I1 _ (turn_str _ z t "str_ascii_iterator" (.inl rfl)) ⟨_, Heap.get?_push_size _ rfl, rfl, rfl⟩ q)
def iEnumW (K : PySem.W.Frag) (ta : TA) : TI := fun σ H R => ta σ H fun vs H1 => ∃ a xs, vs = [.ref a] ∧ ((SqL K H1 a xs ∧ (xs.length ≤ sizeLine → R (Ite K a) H1)) ∨ (SqT K H1 a xs ∧ (xs.length ≤ sizeLine → R (ItT K a) H1)))
theorem pi_enumW {e : Expr} {ta : TA} {p pos tpos : Pos} {elts : List Expr} {kk : Nat} (hg : Gl X "enumerate") (hm : X.mg "enumerate" = none) (ha : PA X [e] ta) (hs : starEach [e] X.env = [(false, eval e X.env)] := by rfl) :
    PI X (.Tuple elts kk tpos) (.Call (.Name "enumerate" p) [e] [] pos) (iEnumW X.K ta) := by
  refine ⟨fun pins s σ H R I h => ?_⟩
  refine Call_ (ld_blt I hg hm boot_enumerate (PyProof.Rows.callWith_type1 (thn (ha.run pos pins s σ H _ I h) fun us s1 ⟨vs, H1, I1, r1, a, xs, ex, q⟩ => ?_) hs rfl))
  subst ex
  rw [Vals.ref1 r1]
  have fin : ∀ b ∈ [s1.heap.objs.size + 1, s1.heap.objs.size], FpOk X pins H1 b := fun b hb => by
    have hle : s1.heap.objs.size ≤ b := by
      rcases (show b = s1.heap.objs.size + 1 ∨ b = s1.heap.objs.size by simpa using hb) with z | z
      · rw [z]; exact Nat.le_add_right _ _
      · rw [z]; exact Nat.le_refl _
    exact I1.fpOk hle (I1.hok.fresh hle)
  rcases q with ⟨hq, q⟩ | ⟨hq, q⟩
  · obtain ⟨its, rv, p', hz⟩ := I1.list hq
    refine call_enumerate_list p'.isList fun h' he hit hsz hk => wpAny_pyIter_enum he ?_
    have I2 : L2.Inv X pins σ H1 { s1 with heap := h' } := I1.kept (t' := s1.toks) hk
    exact ⟨s1.heap.objs.size + 1, [s1.heap.objs.size + 1, s1.heap.objs.size], _, _, H1, rfl, I2, turn_enum a (s1.heap.objs.size + 1) s1.heap.objs.size, ⟨⟨.none, he⟩, hit, Nat.succ_ne_self _⟩, fin, q hz⟩
  · obtain ⟨its, rv, p', hz⟩ := I1.tuple hq
    refine call_enumT (items := its.toArray) p' fun h' he hit hk => wpAny_pyIter_enum he ?_
    have I2 : L2.Inv X pins σ H1 { s1 with heap := h' } := I1.kept (t' := s1.toks) hk
    exact ⟨s1.heap.objs.size + 1, [s1.heap.objs.size + 1, s1.heap.objs.size], _, _, H1, rfl, I2, turn_enumT a (s1.heap.objs.size + 1) s1.heap.objs.size, ⟨⟨.none, he⟩, hit, Nat.succ_ne_self _⟩, fin, q hz⟩
def iZipW (K : PySem.W.Frag) (ta : TA) : TI := fun σ H R => ta σ H fun vs H1 => ∃ a b xs ys, vs = [.ref a, .ref b] ∧ SqL K H1 a xs ∧ SqL K H1 b ys ∧ (xs.length ≤ sizeLine → R (Itz K a b) H1)
theorem pi_zipW {e e2 : Expr} {ta : TA} {p pos tpos : Pos} {elts : List Expr} {kk : Nat} (hg : Gl X "zip") (hm : X.mg "zip" = none) (ha : PA X [e, e2] ta)
    (hs : starEach [e, e2] X.env = (false, eval e X.env) :: starEach [e2] X.env := by rfl) (hpl : (backTo pos (starEach [e2] X.env)).any (·.1) = false := by rfl) :
    PI X (.Tuple elts kk tpos) (.Call (.Name "zip" p) [e, e2] [] pos) (iZipW X.K ta) := by
  refine ⟨fun pins s σ H R I h => ?_⟩
  refine Call_ (ld_blt I hg hm PyProof.Rows.boot_zip (PyProof.Rows.callWith_type1 (thn (ha.run pos pins s σ H _ I h) fun us s1 ⟨vs, H1, I1, r1, q1⟩ => ?_) hs hpl))
  obtain ⟨a, b, xs, ys, ex, hqx, hqy, q⟩ := q1
  subst ex
  cases r1 with
  | cons r rr =>
    cases rr with
    | cons r' rr =>
      cases rr
      cases r
      cases r'
      obtain ⟨its, rv, p1, hz1⟩ := I1.list hqx
      obtain ⟨its2, rv2, p2, _⟩ := I1.list hqy
      have la : a < s1.heap.objs.size := p1.lt
      have lb : b < s1.heap.objs.size := p2.lt
      refine call_zip_2 p1.isList p2.isList fun h' hz hTI hTO h1 h2 hsz hk => wpAny_pyIter_zip hz ?_
      have I2 : L2.Inv X pins σ H1 { s1 with heap := h' } := I1.kept (t' := s1.toks) hk
      refine ⟨s1.heap.objs.size + 4, [s1.heap.objs.size + 4, s1.heap.objs.size + 2, s1.heap.objs.size + 3, s1.heap.objs.size, s1.heap.objs.size + 1], _, _, H1, rfl, I2, turn_zip (PySem.W.ktu_apart s1.heap.objs.size a b la lb), ⟨hz, hTI, ⟨_, _, hTO⟩, h1, h2⟩, fun c hcm => ?_, q hz1⟩
      have e' : c = s1.heap.objs.size + 4 ∨ c = s1.heap.objs.size + 2 ∨ c = s1.heap.objs.size + 3 ∨ c = s1.heap.objs.size ∨ c = s1.heap.objs.size + 1 := by simpa using hcm
      have hle : s1.heap.objs.size ≤ c := by
        rcases e' with z | z | z | z | z
        · rw [z]; exact Nat.le_add_right _ _
        · rw [z]; exact Nat.le_add_right _ _
        · rw [z]; exact Nat.le_add_right _ _
        · rw [z]; exact Nat.le_refl _
        · rw [z]; exact Nat.le_add_right _ _
      exact I1.fpOk hle (I1.hok.fresh hle)
theorem PI.imp {t t' : TI} (h : PI X tg l t) (f : ∀ σ H R, t' σ H R → t σ H R) : PI X tg l t' := ⟨fun pins s σ H R I q => h.run pins s σ H R I (f σ H R q)⟩
end
section
variable {G : Gh} {lv : Nat} {X : Cx} {a b c : Expr} {qa qb : QE} {pos p tpos : Pos} {tg : Expr} {elts : List Expr} {kk : Nat}
/-- the signs of a text -/
def signs (z : Str) : List PV := z.cps.toList.map fun c => .str ⟨#[c]⟩
theorem walks_str {z : Str} {H : Hp} {M : Addr → Prop} : Walks G (Its z) (signs z) H M := fun H2 M2 s _ => by
  refine ⟨fun i p hp => ?_, ?_⟩
  · unfold signs at hp
    rw [List.getElem?_map] at hp
    cases c : z.cps.toList[i]? with
    | none => rw [c] at hp; cases hp
    | some w =>
      rw [c] at hp; cases hp
      have c' : z.cps[i]? = some w := by rw [← Array.getElem?_toList]; exact c
      have li := (Array.getElem?_eq_some_iff.mp c').1
      refine ⟨li, fun x H3 y => ?_⟩
      obtain ⟨rfl, w', hw, rfl⟩ := y
      rw [c'] at hw; cases hw
      exact ⟨.inl rfl, .str _⟩
  · show z.cps.size ≤ (signs z).length
    unfold signs; rw [List.length_map, Array.length_toList]; exact Nat.le_refl _
def itemsOf (p : PV) (k : List PV → Prop) : Prop := match p with
  | .lst xs => k xs
  | .tup xs => k xs
  | .str z => z.length ≤ SZ ∧ k (signs z)
  | _ => False
def iqSeq (q : QE) : QI := fun e K => q e fun r e1 => keep r e1 fun p e2 => itemsOf p fun xs => K xs e2
theorem i_seq (g : Good G lv X) (ha : PE X a (LE G qa)) : PI X tg a (LI G (iqSeq qa)) := PI.imp (pi_seqW ha) fun σ H R ⟨e, M, K, S, q, f⟩ => ⟨e, M, _, S, q, fun r e1 k1 v H1 M1 S1 s1 R1 => by
  obtain ⟨p, e2, M2, k2, S2, s2, R2⟩ := keep_ok S1 R1 k1
  have st := s1.trans s2
  rw [g.K]
  unfold itemsOf at k2
  split at k2
  · cases R2 with
    | lst sl rr => exact .inl ⟨_, _, rfl, sl.sq, fun hl => f _ e2 k2 (by rw [← rr.length]; exact hl) _ H1 M2 S2 st (walks_at walk_list (fun H3 M3 s3 => (s3.stayL sl).sq) rr)⟩
  · cases R2 with
    | tup sl rr => exact .inr (.inl ⟨_, _, rfl, sl.sq, fun hl => f _ e2 k2 (by rw [← rr.length]; exact hl) _ H1 M2 S2 st (walks_at walk_tup (fun H3 M3 s3 => (s3.stayT sl).sq) rr)⟩)
  · rename_i z
    cases R2
    exact .inr (.inr ⟨z, rfl, f _ e2 k2.2 (by unfold signs; rw [List.length_map, Array.length_toList]; exact sz_fits k2.1) _ H1 M2 S2 st walks_str⟩)
  · exact k2.elim⟩
/-- (0, x), (1, y), .. -/
def numbered (xs : List PV) : List PV := (List.range xs.length).zipWith (fun i x => .tup [.int (i : Nat), x]) xs
theorem numbered_get (xs : List PV) (i : Nat) : (numbered xs)[i]? = (xs[i]?).map fun x => .tup [.int (i : Nat), x] := by
  unfold numbered
  rw [List.getElem?_zipWith]
  by_cases c : i < xs.length
  · rw [List.getElem?_range c, List.getElem?_eq_getElem c]; rfl
  · rw [List.getElem?_eq_none_iff.mpr (show (List.range xs.length).length ≤ i by rw [List.length_range]; omega), List.getElem?_eq_none_iff.mpr (show xs.length ≤ i by omega)]; rfl
theorem numbered_len (xs : List PV) : (numbered xs).length = xs.length := by unfold numbered; simp
def rowOf (p : PV) (k : List PV → Prop) : Prop := match p with
  | .lst xs => k xs
  | .tup xs => k xs
  | _ => False
def iqEnum (q : QAs) : QI := fun e K => q e fun ps e1 => match ps with
  | [p] => rowOf p fun xs => K (numbered xs) e1
  | _ => False
theorem enum_rep {H : Hp} {M : Addr → Prop} {vs : List V} {xs : List PV} (rr : RepAll G.toEn H M vs xs) (i : Nat) (t : PV) (ht : (numbered xs)[i]? = some t) : ∃ p q, t = .tup [p, q] ∧ ∀ x y, (some (V.int (i : Nat))) = some x → vs[i]? = some y → Rep G.toEn H M x p ∧ Rep G.toEn H M y q := by
  rw [numbered_get] at ht
  cases c : xs[i]? with
  | none => rw [c] at ht; cases ht
  | some z =>
    rw [c] at ht; cases ht
    refine ⟨_, _, rfl, fun x y hx hy => ?_⟩
    cases hx
    obtain ⟨w, hw, rw'⟩ := rr.get hy
    rw [c] at hw; cases hw
    exact ⟨.int _, rw'⟩
theorem i_enum {qA : QAs} (g : Good G lv X) (hm : X.mg "enumerate" = none) (ha : PA X [a] (LA G qA)) (hg : Gl X "enumerate" := by rfl) (hs : starEach [a] X.env = [(false, eval a X.env)] := by rfl) : PI X (.Tuple elts kk tpos) (.Call (.Name "enumerate" p) [a] [] pos) (LI G (iqEnum qA)) :=
  PI.imp (pi_enumW hg hm ha hs) fun σ H R ⟨e, M, K, S, q, f⟩ => ⟨e, M, _, S, q, fun ps e1 k1 vs H1 M1 S1 s1 R1 => by
    rw [g.K]
    split at k1
    · rename_i p
      cases R1 with
      | cons r0 rt =>
        cases rt
        unfold rowOf at k1
        split at k1
        · cases r0 with
          | lst sl rr => exact ⟨_, _, rfl, .inl ⟨sl.sq, fun hl => f _ e1 k1 (by rw [numbered_len, ← rr.length]; exact hl) _ H1 M1 S1 s1 (walks_pair walk_enum (fun H3 M3 s3 => (s3.stayL sl).sq) (by rw [numbered_len, rr.length]) (enum_rep rr))⟩⟩
        · cases r0 with
          | tup sl rr => exact ⟨_, _, rfl, .inr ⟨sl.sq, fun hl => f _ e1 k1 (by rw [numbered_len, ← rr.length]; exact hl) _ H1 M1 S1 s1 (walks_pair walk_enumT (fun H3 M3 s3 => (s3.stayT sl).sq) (by rw [numbered_len, rr.length]) (enum_rep rr))⟩⟩
        · exact k1.elim
    · exact k1.elim⟩
def coupled (xs ys : List PV) : List PV := xs.zipWith (fun x y => .tup [x, y]) ys
def iqZip (q : QAs) : QI := fun e K => q e fun ps e1 => match ps with
  | [.lst xs, .lst ys] => K (coupled xs ys) e1
  | _ => False
theorem i_zip {qA : QAs} (g : Good G lv X) (hm : X.mg "zip" = none) (ha : PA X [a, b] (LA G qA)) (hg : Gl X "zip" := by rfl) (hs : starEach [a, b] X.env = (false, eval a X.env) :: starEach [b] X.env := by rfl) (hpl : (backTo pos (starEach [b] X.env)).any (·.1) = false := by rfl) :
    PI X (.Tuple elts kk tpos) (.Call (.Name "zip" p) [a, b] [] pos) (LI G (iqZip qA)) :=
  PI.imp (pi_zipW hg hm ha hs hpl) fun σ H R ⟨e, M, K, S, q, f⟩ => ⟨e, M, _, S, q, fun ps e1 k1 vs H1 M1 S1 s1 R1 => by
    rw [g.K]
    split at k1
    · rename_i xs ys
      cases R1 with
      | cons r0 rt =>
        cases rt with
        | cons r1 rt =>
          cases rt
          cases r0 with
          | lst s1' rr1 =>
            cases r1 with
            | lst s2' rr2 =>
              refine ⟨_, _, _, _, rfl, s1'.sq, s2'.sq, fun hl => f _ e1 k1 (by unfold coupled; rw [List.length_zipWith, ← rr1.length]; omega) _ H1 M1 S1 s1 (walks_pair (walk_zip rfl) (fun H3 M3 s3 => ⟨(s3.stayL s1').sq, (s3.stayL s2').sq⟩) (by unfold coupled; rw [List.length_zipWith, rr1.length, rr2.length]) fun i t ht => ?_)⟩
              unfold coupled at ht
              rw [List.getElem?_zipWith] at ht
              cases c : xs[i]? with
              | none => rw [c] at ht; simp at ht
              | some z =>
                cases d : ys[i]? with
                | none => rw [c, d] at ht; simp at ht
                | some z2 =>
                  rw [c, d] at ht; cases ht
                  refine ⟨_, _, rfl, fun x y hx hy => ?_⟩
                  obtain ⟨w, hw, q1⟩ := rr1.get hx
                  obtain ⟨w2, hw2, q2⟩ := rr2.get hy
                  rw [c] at hw; cases hw
                  rw [d] at hw2; cases hw2
                  exact ⟨q1, q2⟩
    · exact k1.elim⟩
/-- lo, lo + 1, .. -/
def count (lo : Int) (n : Nat) : List PV := (List.range n).map fun i => .int (lo + (i : Nat))
theorem walks_range {lo : Int} {n : Nat} {H : Hp} {M : Addr → Prop} : Walks G (Itr lo n) (CP.count lo n) H M := fun H2 M2 s _ => by
  refine ⟨fun i p hp => ?_, ?_⟩
  · unfold CP.count at hp
    rw [List.getElem?_map] at hp
    by_cases c : i < n
    · rw [List.getElem?_range c] at hp; cases hp
      refine ⟨c, fun x H3 y => ?_⟩
      obtain ⟨rfl, rfl⟩ := y
      exact ⟨.inl rfl, .int _⟩
    · rw [List.getElem?_eq_none_iff.mpr (show (List.range n).length ≤ i by rw [List.length_range]; omega)] at hp; cases hp
  · show n ≤ (CP.count lo n).length
    unfold CP.count; rw [List.length_map, List.length_range]; exact Nat.le_refl _
def iqRng1 (q : QAs) : QI := fun e K => q e fun ps e1 => match ps with
  | [.int j] => (-1000000 ≤ j ∧ j ≤ 1000000) ∧ K (CP.count 0 j.toNat) e1
  | _ => False
def iqRng2 (q : QAs) : QI := fun e K => q e fun ps e1 => match ps with
  | [.int i, .int j] => (-1000000 ≤ i ∧ i ≤ 1000000 ∧ -1000000 ≤ j ∧ j ≤ 1000000) ∧ K (CP.count i (j - i).toNat) e1
  | _ => False
theorem i_rng1 {qA : QAs} (hm : X.mg "range" = none) (ha : PA X [a] (LA G qA)) (hg : Gl X "range" := by rfl) (hs : starEach [a] X.env = [(false, eval a X.env)] := by rfl) : PI X tg (.Call (.Name "range" p) [a] [] pos) (LI G (iqRng1 qA)) :=
  PI.imp (pi_range1 hg hm ha hs) fun σ H R ⟨e, M, K, S, q, f⟩ => ⟨e, M, _, S, q, fun ps e1 k1 vs H1 M1 S1 s1 R1 => by
    split at k1
    · rename_i j
      cases R1 with
      | cons r0 rt =>
        cases rt
        cases r0
        obtain ⟨⟨h1, h2⟩, k⟩ := k1
        exact ⟨j, rfl, by omega, by omega, f _ e1 k (by unfold CP.count; rw [List.length_map, List.length_range, sizeLine_eq]; omega) _ H1 M1 S1 s1 walks_range⟩
    · exact k1.elim⟩
theorem i_rng2 {qA : QAs} (hm : X.mg "range" = none) (ha : PA X [a, b] (LA G qA)) (hg : Gl X "range" := by rfl) (hs : starEach [a, b] X.env = [(false, eval a X.env), (false, eval b X.env)] := by rfl) (hs2 : starEach [b] X.env = [(false, eval b X.env)] := by rfl) : PI X tg (.Call (.Name "range" p) [a, b] [] pos) (LI G (iqRng2 qA)) :=
  PI.imp (pi_range2 hg hm ha hs hs2) fun σ H R ⟨e, M, K, S, q, f⟩ => ⟨e, M, _, S, q, fun ps e1 k1 vs H1 M1 S1 s1 R1 => by
    split at k1
    · rename_i i j
      cases R1 with
      | cons r0 rt =>
        cases rt with
        | cons r1 rt =>
          cases rt
          cases r0
          cases r1
          obtain ⟨⟨h1, h2, h3, h4⟩, k⟩ := k1
          exact ⟨i, j, rfl, ⟨by omega, by omega, by omega, by omega⟩, f _ e1 k (by unfold CP.count; rw [List.length_map, List.length_range, sizeLine_eq]; omega) _ H1 M1 S1 s1 walks_range⟩
    · exact k1.elim⟩
end
end CP
/-! Comprehensions. -/
namespace CP
open PySem PySem.Spec PyProof.Rows L2
def wipeE (e : PEnv) : List Nat → PEnv
  | [] => e
  | v :: vs => (wipeE e vs).set v .no
/-- behind a comprehension: the outer values of its names -/
def stayV : Option Sl → Sl
  | some (Sl.val p) => .val p
  | _ => .no
def backE (e0 e : PEnv) : List Nat → PEnv
  | [] => e
  | v :: vs => (backE e0 e vs).set v (stayV e0[v]?)
def noIo (e : PEnv) (vs : List Nat) : Bool := vs.all fun v => match e[v]? with
  | some (Sl.io _) => false
  | _ => true
theorem wipeE_len (e : PEnv) : ∀ vs, (wipeE e vs).length = e.length
  | [] => rfl
  | v :: vs => by rw [wipeE, List.length_set, wipeE_len e vs]
theorem backE_len (e0 e : PEnv) : ∀ vs, (backE e0 e vs).length = e.length
  | [] => rfl
  | v :: vs => by rw [backE, List.length_set, backE_len e0 e vs]
theorem wipeE_out {e : PEnv} {i : Nat} : ∀ {vs : List Nat}, i ∉ vs → (wipeE e vs)[i]? = e[i]?
  | [], _ => rfl
  | v :: vs, h => by
    rw [wipeE, List.getElem?_set_ne (fun z => h (by rw [z]; exact List.mem_cons_self))]
    exact wipeE_out fun z => h (List.mem_cons_of_mem _ z)
theorem wipeE_in {e : PEnv} {i : Nat} {s : Sl} : ∀ {vs : List Nat}, i ∈ vs → (wipeE e vs)[i]? = some s → s = .no
  | v :: vs, h, q => by
    rw [wipeE] at q
    by_cases c : v = i
    · subst c
      have li := (List.getElem?_eq_some_iff.mp q).1
      rw [List.length_set] at li
      rw [List.getElem?_set_self li] at q
      exact (Option.some.inj q).symm
    · rw [List.getElem?_set_ne c] at q
      rcases List.mem_cons.mp h with z | z
      · exact absurd z.symm c
      · exact wipeE_in z q
theorem wipeE_some {e : PEnv} {i : Nat} {s : Sl} {vs : List Nat} (h : (wipeE e vs)[i]? = some s) (n : s ≠ .no) : i ∉ vs ∧ e[i]? = some s := by
  by_cases c : i ∈ vs
  · exact absurd (wipeE_in c h) n
  · rw [wipeE_out c] at h; exact ⟨c, h⟩
theorem backE_out {e0 e : PEnv} {i : Nat} : ∀ {vs : List Nat}, i ∉ vs → (backE e0 e vs)[i]? = e[i]?
  | [], _ => rfl
  | v :: vs, h => by
    rw [backE, List.getElem?_set_ne (fun z => h (by rw [z]; exact List.mem_cons_self))]
    exact backE_out fun z => h (List.mem_cons_of_mem _ z)
theorem backE_in {e0 e : PEnv} {i : Nat} {s : Sl} : ∀ {vs : List Nat}, i ∈ vs → (backE e0 e vs)[i]? = some s → s = stayV e0[i]?
  | v :: vs, h, q => by
    rw [backE] at q
    by_cases c : v = i
    · subst c
      have li := (List.getElem?_eq_some_iff.mp q).1
      rw [List.length_set] at li
      rw [List.getElem?_set_self li] at q
      exact (Option.some.inj q).symm
    · rw [List.getElem?_set_ne c] at q
      rcases List.mem_cons.mp h with z | z
      · exact absurd z.symm c
      · exact backE_in z q
theorem backE_some {e0 e : PEnv} {i : Nat} {s : Sl} {vs : List Nat} (h : (backE e0 e vs)[i]? = some s) : (i ∉ vs ∧ e[i]? = some s) ∨ (i ∈ vs ∧ s = stayV e0[i]?) := by
  by_cases c : i ∈ vs
  · exact .inr ⟨c, backE_in c h⟩
  · rw [backE_out c] at h; exact .inl ⟨c, h⟩
theorem sig_out {σ : L2.St} {vs : List Nat} {i : Nat} (h : i ∉ vs) : (wipe σ vs)[i]? = σ[i]? := wipe_out h
theorem noIo_of {e : PEnv} {vs : List Nat} (h : noIo e vs = true) {v : Nat} (hv : v ∈ vs) (p : PV) : e[v]? ≠ some (Sl.io p) := fun z => by
  have := List.all_eq_true.mp h v hv
  rw [z] at this; cases this
section
variable {G : Gh} {lv : Nat} {X : Cx} {e e0 : PEnv} {M : Addr → Prop} {σ : L2.St} {H : Hp}
theorem Mu.out {vs : List Nat} {i : Nat} (m : Mu (wipeE e vs) i) : i ∉ vs ∧ Mu e i := by
  obtain ⟨p, h | h⟩ := m
  · obtain ⟨a, b⟩ := wipeE_some h (fun z => by cases z); exact ⟨a, p, .inl b⟩
  · obtain ⟨a, b⟩ := wipeE_some h (fun z => by cases z); exact ⟨a, p, .inr b⟩
theorem StOk.wiped (S : StOk G e M σ H) {vs : List Nat} (no : ∀ i a, (i, a) ∈ G.iol → i ∉ vs) : StOk G (wipeE e vs) M (wipe σ vs) H := by
  refine ⟨by rw [wipeE_len, wipe_length]; exact S.len, fun i p h => ?_, fun i p h => ?_, fun i p h => ?_, fun i j a mi mj h1 h2 => ?_, fun i a h => ?_, S.m0, S.trk, S.prs, S.tmp⟩
  · obtain ⟨c, h⟩ := wipeE_some h (fun z => by cases z)
    obtain ⟨v, q1, q2⟩ := S.val i p h
    exact ⟨v, by rw [sig_out c]; exact q1, q2⟩
  · obtain ⟨c, h⟩ := wipeE_some h (fun z => by cases z)
    obtain ⟨v, q1, q2⟩ := S.own i p h
    exact ⟨v, by rw [sig_out c]; exact q1, q2⟩
  · obtain ⟨c, h⟩ := wipeE_some h (fun z => by cases z)
    obtain ⟨v, q0, q1, q2⟩ := S.io i p h
    exact ⟨v, q0, by rw [sig_out c]; exact q1, q2⟩
  · obtain ⟨c1, m1⟩ := mi.out
    obtain ⟨c2, m2⟩ := mj.out
    rw [sig_out c1] at h1
    rw [sig_out c2] at h2
    exact S.inj i j a m1 m2 h1 h2
  · have c := no i a h
    obtain ⟨q1, p, q2⟩ := S.iol i a h
    exact ⟨by rw [sig_out c]; exact q1, p, by rw [wipeE_out c]; exact q2⟩
/-- the surroundings of a block whose new list stands at D -/
abbrev Gh.under (G : Gh) (D : Addr) (o : HO) : Gh := { G with M0 := fun a => a = D ∨ G.M0 a, tmp := (D, o) :: G.tmp }
theorem StOk.enter (S : StOk G e M σ H) {D : Addr} (hD : H D = none) (u : HO) : StOk (G.under D u) e (fun a => a = D ∨ M a) σ (L2.upd H D u) ∧ Step H M (L2.upd H D u) (fun a => a = D ∨ M a) := by
  obtain ⟨S', st⟩ := S.newM (o := u) hD
  have nd : ∀ {a : Addr}, M a → a ≠ D := fun m z => S.trk _ m (z ▸ hD)
  refine ⟨⟨S'.len, S'.val, fun i p h => ?_, fun i p h => ?_, S'.inj, S'.iol, fun a h => h.elim .inl fun z => .inr (S.m0 a z), S'.trk, S'.prs, fun a o h => ?_⟩, st⟩
  · obtain ⟨a, q1, q2, q3, q4, q5⟩ := S'.own i p h
    obtain ⟨a', r1, _, r3, _⟩ := S.own i p h
    rw [q1] at r1; cases r1
    exact ⟨a, q1, q2, q3, fun z => z.elim (nd r3) q4, q5⟩
  · obtain ⟨a, q0, q1, q2, q3, q4⟩ := S'.io i p h
    obtain ⟨a', _, r1, _, r3, _⟩ := S.io i p h
    rw [q1] at r1; cases r1
    exact ⟨a, q0, q1, q2, q3, fun z => z.elim (nd r3) q4⟩
  · rcases List.mem_cons.mp h with z | z
    · cases z; exact ⟨.inl rfl, upd_same⟩
    · obtain ⟨q1, q2⟩ := S'.tmp a o z; exact ⟨.inr q1, q2⟩
/-- one more item in the new list -/
theorem StOk.grow {D : Addr} {u w : HO} (S : StOk (G.under D u) e M σ H) (nt : ∀ o, (D, o) ∉ G.tmp) (h0 : G.H0 D = none) : StOk (G.under D w) e M σ (L2.upd H D w) ∧ Step H M (L2.upd H D w) M := by
  have mD : M D := S.m0 D (.inl rfl)
  have st : Step H M (L2.upd H D w) M := ⟨fun b o h n => by rw [upd_ne (fun z : b = D => n (by rw [z]; exact mD))]; exact h, fun _ _ h => h, fun b h => by
    by_cases c : b = D
    · rw [c, upd_same]; simp
    · rw [upd_ne c]; exact h⟩
  have ne : ∀ {a : Addr}, ¬ (a = D ∨ G.M0 a) → a ≠ D := fun h z => h (.inl z)
  refine ⟨⟨S.len, fun i p h => let ⟨v, q1, q2⟩ := S.val i p h; ⟨v, q1, q2.step st⟩, fun i p h => ?_, fun i p h => ?_, S.inj, S.iol, S.m0, fun a h => st.there a (S.trk a h), fun b o h n => ?_, fun a o h => ?_⟩, st⟩
  · obtain ⟨a, q1, q2, q3, q4, q5⟩ := S.own i p h
    exact ⟨a, q1, q2.step st (by rw [upd_ne (ne q4)]), q3, q4, q5⟩
  · obtain ⟨a, q0, q1, q2, q3, q4⟩ := S.io i p h
    exact ⟨a, q0, q1, q2.step st (by rw [upd_ne (ne q4)]), q3, q4⟩
  · have q := S.prs b o h n
    by_cases c : b = D
    · rw [c] at h; rw [show (G.under D u).H0 = G.H0 from rfl] at h; rw [h0] at h; cases h
    · rw [upd_ne c]; exact q
  · rcases List.mem_cons.mp h with z | z
    · cases z; exact ⟨.inl rfl, upd_same⟩
    · obtain ⟨q1, q2⟩ := S.tmp a o (List.mem_cons_of_mem _ z)
      exact ⟨q1, by rw [upd_ne (fun c : a = D => nt o (by rw [← c]; exact z))]; exact q2⟩
/-- the block is left -/
theorem StOk.leave {D : Addr} {xs : HO} {H1 : Hp} {M1 : Addr → Prop} {vs : List Nat} {τ : L2.St} (S1 : StOk G e0 M1 σ H1) (st : Step H1 M1 H M) (S : StOk (G.under D xs) e M τ H) (hw : τ = wipe σ vs) (hv : ∀ i ∈ vs, ∀ s, e[i]? = some s → s = .no) :
    StOk G (backE e0 e vs) M σ H := by
  subst hw
  have less : ∀ {a : Addr}, ¬ (a = D ∨ G.M0 a) → ¬ G.M0 a := fun h z => h (.inr z)
  have inn : ∀ {i : Nat} {s : Sl}, (backE e0 e vs)[i]? = some s → (∀ p, s ≠ .val p) → s ≠ .no → i ∉ vs ∧ e[i]? = some s := fun {i s} h n1 n2 => by
    rcases backE_some h with z | ⟨c, z⟩
    · exact z
    · unfold stayV at z
      split at z
      · exact absurd z (n1 _)
      · exact absurd z n2
  have mu : ∀ {i : Nat}, Mu (backE e0 e vs) i → i ∉ vs ∧ Mu e i := fun {i} ⟨p, h⟩ => by
    rcases h with h | h
    · obtain ⟨q1, q2⟩ := inn h (fun _ z => by cases z) (fun z => by cases z); exact ⟨q1, p, .inl q2⟩
    · obtain ⟨q1, q2⟩ := inn h (fun _ z => by cases z) (fun z => by cases z); exact ⟨q1, p, .inr q2⟩
  refine ⟨by rw [backE_len, S.len, wipe_length], fun i p h => ?_, fun i p h => ?_, fun i p h => ?_, fun i j a mi mj h1 h2 => ?_, fun i a h => ?_, fun a h => S.m0 a (.inr h), S.trk, S.prs, fun a o h => ?_⟩
  · rcases backE_some h with ⟨c, h⟩ | ⟨c, h⟩
    · obtain ⟨v, q1, q2⟩ := S.val i p h
      rw [sig_out c] at q1
      exact ⟨v, q1, q2⟩
    · unfold stayV at h
      split at h
      · rename_i q hq
        cases h
        obtain ⟨v, q1, q2⟩ := S1.val i p hq
        exact ⟨v, q1, q2.step st⟩
      · cases h
  · obtain ⟨c, h⟩ := inn h (fun _ z => by cases z) (fun z => by cases z)
    obtain ⟨a, q1, q2, q3, q4, q5⟩ := S.own i p h
    rw [sig_out c] at q1
    exact ⟨a, q1, q2, q3, less q4, q5⟩
  · obtain ⟨c, h⟩ := inn h (fun _ z => by cases z) (fun z => by cases z)
    obtain ⟨a, q0, q1, q2, q3, q4⟩ := S.io i p h
    rw [sig_out c] at q1
    exact ⟨a, q0, q1, q2, q3, less q4⟩
  · obtain ⟨c1, m1⟩ := mu mi
    obtain ⟨c2, m2⟩ := mu mj
    exact S.inj i j a m1 m2 (by rw [sig_out c1]; exact h1) (by rw [sig_out c2]; exact h2)
  · obtain ⟨q1, p, q2⟩ := S.iol i a h
    have c : i ∉ vs := fun c => by cases hv i c _ q2
    rw [sig_out c] at q1
    exact ⟨q1, p, by rw [backE_out c]; exact q2⟩
  · obtain ⟨q1, q2⟩ := S.tmp a o (List.mem_cons_of_mem _ h)
    obtain ⟨q3, _⟩ := S1.tmp a o h
    exact ⟨q3, q2⟩
/-- item by item: what is made so far, the slots, and what then holds -/
def runC (g : QG) (t : QT) (q : QE) (vs : List Nat) : List PV → List PV → PEnv → (List PV → PEnv → Prop) → Prop
  | [], acc, e, k => k acc e
  | p :: ps, acc, e, k => g p e fun e1 => t e1 fun b e2 => if b = true then q e2 fun r e3 => keep r e3 fun x e4 => runC g t q vs ps (acc ++ [x]) (wipeE e4 vs) k else runC g t q vs ps acc (wipeE e2 vs) k
def qLc (i : QI) (g : QG) (t : QT) (q : QE) (vs : List Nat) : QE := fun e Q => i e fun items e1 => noIo e1 vs = true ∧ runC g t q vs items [] (wipeE e1 vs) fun acc e2 => Q (.fr (.lst acc)) (backE e1 e2 vs)
def qYes : QT := fun e Q => Q true e
theorem t_yes : PTs X [] (LT G qYes) := ⟨fun pins s σ H Q I ⟨e, M, K, S, q, f⟩ => pts_nil.run pins s σ H Q I (f true e q H M S .refl)⟩
theorem t_one {c : Expr} {t : QT} (h : PT X c (LT G t)) : PTs X [c] (LT G t) := pts_one h
theorem wipe_idem (σ : L2.St) (vs : List Nat) : wipe (wipe σ vs) vs = wipe σ vs := by
  refine List.ext_getElem? fun j => ?_
  by_cases c : j ∈ vs
  · cases h : (wipe σ vs)[j]? with
    | none =>
      have : ¬ j < (wipe σ vs).length := by rw [List.getElem?_eq_none_iff] at h; omega
      exact List.getElem?_eq_none_iff.mpr (by rw [wipe_length]; omega)
    | some o =>
      have lj := (List.getElem?_eq_some_iff.mp h).1
      have e1 : ∀ τ : L2.St, j < τ.length → (wipe τ vs)[j]? = some none := fun τ hl => by
        cases h2 : (wipe τ vs)[j]? with
        | none =>
          have := List.getElem?_eq_none_iff.mp h2
          rw [wipe_length] at this; omega
        | some o2 =>
          cases o2 with
          | none => rfl
          | some x => exact absurd c (wipe_some h2).2
      rw [wipe_length] at lj
      rw [e1 _ (by rw [wipe_length]; exact lj), ← h, e1 σ lj]
  · rw [wipe_out c]
/-- what every block in X has -/
theorem Good.blk (g : Good G lv X) (D : Addr) (xs : HO) (s : Shared) (H : Hp) (sc : Scope) (cenv : Env) (fp : List Addr) : Good (G.under D xs) lv (X.blk s H sc cenv fp) := ⟨g.P, g.w, g.K, g.calm, g.nd, g.room⟩
theorem lc_fin {items : List PV} {J : It} {vs : List Nat} {qg : QG} {qt : QT} {qe : QE} {Q : VK} {e1 : PEnv} {M1 : Addr → Prop} {H1 : Hp} {K : List PV → PEnv → Prop} (S1 : StOk G e1 M1 σ H1) (W : Walks G J items H1 M1) (hl : items.length ≤ sizeLine)
    (no : noIo e1 vs = true) (run : runC qg qt qe vs items [] (wipeE e1 vs) K) (fin : ∀ acc e2, K acc e2 → Aft G σ H1 M1 Q (.fr (.lst acc)) (backE e1 e2 vs)) {g' : TG} {t' : TT} {te' : TE}
    (hg : ∀ D xs v σ H Q, LG (Gh.under G D xs) vs qg v σ H Q → g' v σ H Q) (ht : ∀ D xs σ H Q, LT (Gh.under G D xs) qt σ H Q → t' σ H Q) (he : ∀ D xs σ H Q, LE (Gh.under G D xs) qe σ H Q → te' σ H Q) :
    ∀ D, H1 D = none → ∃ W : Nat → Nat → Hp → Prop, (∃ m, W 0 m (L2.upd H1 D (.lst []))) ∧ ∀ i m H, W i m H → (J.stop i H ∧ Q (.ref D) H) ∨ (J.go i H ∧ ∃ Nx : Hp → Prop, (∀ H', Nx H' → ∃ m', m' < m ∧ W (i + 1) m' H') ∧ ∀ x H', J.yld i H x H' → g' x (wipe σ vs) H' fun σ2 H2 => wipe σ2 vs = wipe σ vs ∧ t' σ2 H2 fun b H3 =>
      if b = true then te' σ2 H3 fun y H4 => ∃ acc, H4 D = some (.lst acc) ∧ acc.length < sizeLine ∧ Nx (L2.upd H4 D (.lst (acc ++ [y]))) else Nx H3) := by
  intro D hD
  have h0 : G.H0 D = none := S1.h0 hD
  have nt : ∀ o, (D, o) ∉ G.tmp := fun o z => by rw [(S1.tmp D o z).2] at hD; cases hD
  have nM : ¬ G.M0 D := fun z => S1.trk D (S1.m0 D z) hD
  have noi : ∀ i a, (i, a) ∈ G.iol → i ∉ vs := fun i a h c => by
    obtain ⟨_, p, q2⟩ := S1.iol i a h
    exact noIo_of no c p q2
  obtain ⟨Sn, sn⟩ := S1.enter hD (.lst [])
  -- the word of a turn
  refine ⟨fun i m H' => m = items.length - i ∧ i ≤ items.length ∧ ∃ (acc : List PV) (accV : List V) (e' : PEnv) (M' : Addr → Prop), StOk (G.under D (.lst accV)) e' M' (wipe σ vs) H' ∧ Step H1 M1 H' M' ∧ RepAll G.toEn H' M' accV acc ∧ acc.length ≤ i ∧ (∀ j ∈ vs, ∀ s, e'[j]? = some s → s = .no) ∧ runC qg qt qe vs (items.drop i) acc e' K,
    ⟨_, rfl, Nat.zero_le _, [], [], wipeE e1 vs, _, Sn.wiped (fun i a h => noi i a h), sn, .nil, Nat.le_refl _, fun j hj s h => wipeE_in hj h, run⟩, ?_⟩
  rintro i m H2 ⟨rfl, hi, acc, accV, e2, M2, S2, s2, ra, hacc, hv2, k2⟩
  obtain ⟨wg, ws⟩ := W H2 M2 s2 S2.trk
  by_cases c : i < items.length
  · have hp : items[i]? = some items[i] := List.getElem?_eq_getElem c
    obtain ⟨go, yl⟩ := wg i _ hp
    rw [List.drop_eq_getElem_cons c] at k2
    refine .inr ⟨go, fun H' => ∃ (acc : List PV) (accV : List V) (e' : PEnv) (M' : Addr → Prop), StOk (G.under D (.lst accV)) e' M' (wipe σ vs) H' ∧ Step H1 M1 H' M' ∧ RepAll G.toEn H' M' accV acc ∧ acc.length ≤ i + 1 ∧ (∀ j ∈ vs, ∀ s, e'[j]? = some s → s = .no) ∧ runC qg qt qe vs (items.drop (i + 1)) acc e' K, fun H' h => ⟨items.length - (i + 1), by omega, rfl, c, h⟩, fun x H3 y => ?_⟩
    obtain ⟨y1, y3⟩ := yl x H3 y
    have sy : Step H2 M2 H3 M2 := step_grow1 y1
    refine hg D (.lst accV) _ _ _ _ ⟨e2, M2, items[i], _, S2.grow1 y1, y3, k2, fun e4 k4 σ4 H4 M4 S4 s4 w4 => ?_⟩
    have w4' : wipe σ4 vs = wipe σ vs := by rw [w4, wipe_idem]
    refine ⟨w4', ht D (.lst accV) _ _ _ ⟨e4, M4, _, S4, k4, fun b e5 k5 H5 M5 S5 s5 => ?_⟩⟩
    have st5 : Step H2 M2 H5 M5 := (sy.trans s4).trans s5
    cases b with
    | false =>
      refine ⟨acc, accV, wipeE e5 vs, M5, ?_, s2.trans st5, ra.step st5, by omega, fun j hj s h => wipeE_in hj h, k5⟩
      rw [← w4']
      exact S5.wiped (fun i a h => noi i a h)
    | true =>
      refine he D (.lst accV) _ _ _ ⟨e5, M5, _, S5, k5, fun r e6 k6 v H6 M6 S6 s6 R6 => ?_⟩
      obtain ⟨x', e7, M7, k7, S7, s7, R7⟩ := keep_ok S6 R6 k6
      have st7 : Step H2 M2 H6 M7 := (st5.trans s6).trans s7
      obtain ⟨q1, q2⟩ := S7.tmp D (.lst accV) List.mem_cons_self
      have la := (ra.step st7).length
      refine ⟨accV, q2, by rw [la]; omega, acc ++ [x'], accV ++ [v], wipeE e7 vs, M7, ?_, ?_, ?_, by rw [List.length_append]; show acc.length + 1 ≤ _; omega, fun j hj s h => wipeE_in hj h, k7⟩
      · rw [← w4']
        exact ((S7.grow (w := .lst (accV ++ [v])) nt h0).1).wiped (fun i a h => noi i a h)
      · exact (s2.trans st7).trans (S7.grow (w := .lst (accV ++ [v])) nt h0).2
      · have sg := (S7.grow (w := .lst (accV ++ [v])) nt h0).2
        exact ((ra.step st7).step sg).append (.cons (R7.step sg) .nil)
  · have ei : i = items.length := by omega
    subst ei
    rw [List.drop_length] at k2
    refine .inl ⟨ws, fin acc e2 k2 _ _ M2 (S1.leave s2 S2 rfl hv2) s2 ⟨D, rfl, ⟨accV, ?_, ra⟩, S2.m0 D (.inl rfl), nM, h0, fun j m z => ?_⟩⟩
    · exact (S2.tmp D (.lst accV) List.mem_cons_self).2
    · have S' := S1.leave s2 S2 rfl hv2
      obtain ⟨p, h⟩ := m
      have key : j ∉ vs ∧ Mu e2 j := by
        rcases h with h | h
        · rcases backE_some h with ⟨c, h⟩ | ⟨_, h⟩
          · exact ⟨c, p, .inl h⟩
          · unfold stayV at h; split at h <;> cases h
        · rcases backE_some h with ⟨c, h⟩ | ⟨_, h⟩
          · exact ⟨c, p, .inr h⟩
          · unfold stayV at h; split at h <;> cases h
      obtain ⟨a, q, q1, _, _, _, q4, _⟩ := S2.mu key.2
      rw [sig_out key.1, z] at q1
      cases q1
      exact q4 (.inl rfl)
variable {elt tg iter : Expr} {ifs : List Expr} {scope : Scope} {own : List (Str × Nat)} {pos : Pos} {qi : QI} {qg : QG} {qt : QT} {qe : QE}
theorem lc_ok {σ : L2.St} {H : Hp} {Q : VK} {g' : TG} {t' : TT} {te' : TE} {vs : List Nat} (h : LE G (qLc qi qg qt qe vs) σ H Q) (hg : ∀ D xs v σ H Q, LG (Gh.under G D xs) vs qg v σ H Q → g' v σ H Q) (ht : ∀ D xs σ H Q, LT (Gh.under G D xs) qt σ H Q → t' σ H Q) (he : ∀ D xs σ H Q, LE (Gh.under G D xs) qe σ H Q → te' σ H Q) :
    tLc (LI G qi) g' t' te' vs σ H Q := by
  obtain ⟨e, M, K, S, q, f⟩ := h
  refine ⟨e, M, _, S, q, fun items e1 k1 hl J H1 M1 S1 s1 W => ?_⟩
  exact lc_fin S1 W hl k1.1 k1.2 (fun acc e2 k => (f _ _ k).from s1) hg ht he
/-- what the block's parts are read as -/
abbrev UG (G : Gh) (vs : List Nat) (q : QG) : TG := fun v σ H Q => ∃ D xs, LG (Gh.under G D xs) vs q v σ H Q
abbrev UT (G : Gh) (q : QT) : TT := fun σ H Q => ∃ D xs, LT (Gh.under G D xs) q σ H Q
abbrev UE (G : Gh) (q : QE) : TE := fun σ H Q => ∃ D xs, LE (Gh.under G D xs) q σ H Q
theorem pg_ex {X : Cx} {α : Type} {a : Expr} {t : α → TG} (h : ∀ x, PG X a (t x)) : PG X a (fun v σ H Q => ∃ x, t x v σ H Q) := ⟨fun pins s σ H v u Q I r ⟨x, q⟩ => (h x).run pins s σ H v u Q I r q⟩
theorem pts_ex {X : Cx} {α : Type} {a : List Expr} {t : α → TT} (h : ∀ x, PTs X a (t x)) : PTs X a (fun σ H Q => ∃ x, t x σ H Q) := ⟨fun pins s σ H Q I ⟨x, q⟩ => (h x).run pins s σ H Q I q⟩
theorem pe_ex {X : Cx} {α : Type} {a : Expr} {t : α → TE} (h : ∀ x, PE X a (t x)) : PE X a (fun σ H Q => ∃ x, t x σ H Q) := ⟨fun pins s σ H Q I ⟨x, q⟩ => (h x).run pins s σ H Q I q⟩
theorem q_lc (g : Good G lv X) (hi : PI X tg iter (LI G qi)) (ok : BlkOk X.N X.env.scope scope own)
    (hg : ∀ (s : Shared) (H : Hp) (C : Addr) (cl : List (Str × Addr)) (fp : List Addr) (D : Addr) (xs : HO), Good (G.under D xs) lv (X.blk s H scope (compEnvC scope cl C X.env) fp) → PG (X.blk s H scope (compEnvC scope cl C X.env) fp) tg (LG (G.under D xs) (own.map (·.2)) qg))
    (ht : ∀ (s : Shared) (H : Hp) (C : Addr) (cl : List (Str × Addr)) (fp : List Addr) (D : Addr) (xs : HO), Good (G.under D xs) lv (X.blk s H scope (compEnvC scope cl C X.env) fp) → PTs (X.blk s H scope (compEnvC scope cl C X.env) fp) ifs (LT (G.under D xs) qt))
    (he : ∀ (s : Shared) (H : Hp) (C : Addr) (cl : List (Str × Addr)) (fp : List Addr) (D : Addr) (xs : HO), Good (G.under D xs) lv (X.blk s H scope (compEnvC scope cl C X.env) fp) → PE (X.blk s H scope (compEnvC scope cl C X.env) fp) elt (LE (G.under D xs) qe))
    (hs : ∀ x, foldedSetIterable iter X.env x = pure x := by intro _; rfl) : PE X (.ListComp elt [⟨tg, iter, ifs, 0⟩] scope pos) (LE G (qLc qi qg qt qe (own.map (·.2)))) :=
  PE.imp (pe_lc g.calm g.nd hi ok (fun s H C cl fp => pg_ex fun D => pg_ex fun xs => hg s H C cl fp D xs (g.blk D xs s H scope _ fp)) (fun s H C cl fp => pts_ex fun D => pts_ex fun xs => ht s H C cl fp D xs (g.blk D xs s H scope _ fp)) (fun s H C cl fp => pe_ex fun D => pe_ex fun xs => he s H C cl fp D xs (g.blk D xs s H scope _ fp)) hs)
    fun σ H Q h => lc_ok h (fun D xs v σ H Q k => ⟨D, xs, k⟩) (fun D xs σ H Q k => ⟨D, xs, k⟩) (fun D xs σ H Q k => ⟨D, xs, k⟩)
/-- name = [..] on one line -/
theorem s_setLc {i : Nat} {y : Str} {py spos : Pos} (g : Good G lv X) (hsw : swapsWith (.ListComp elt [⟨tg, iter, ifs, 0⟩] scope pos) (some (.Name y py)) spos.line X.env = pure true) (hi : PI X tg iter (LI G qi)) (ok : BlkOk X.N X.env.scope scope own)
    (hg : ∀ (s : Shared) (H : Hp) (C : Addr) (cl : List (Str × Addr)) (fp : List Addr) (D : Addr) (xs : HO), Good (G.under D xs) lv (X.blk s H scope (compEnvC scope cl C X.env) fp) → PG (X.blk s H scope (compEnvC scope cl C X.env) fp) tg (LG (G.under D xs) (own.map (·.2)) qg))
    (ht : ∀ (s : Shared) (H : Hp) (C : Addr) (cl : List (Str × Addr)) (fp : List Addr) (D : Addr) (xs : HO), Good (G.under D xs) lv (X.blk s H scope (compEnvC scope cl C X.env) fp) → PTs (X.blk s H scope (compEnvC scope cl C X.env) fp) ifs (LT (G.under D xs) qt))
    (he : ∀ (s : Shared) (H : Hp) (C : Addr) (cl : List (Str × Addr)) (fp : List Addr) (D : Addr) (xs : HO), Good (G.under D xs) lv (X.blk s H scope (compEnvC scope cl C X.env) fp) → PE (X.blk s H scope (compEnvC scope cl C X.env) fp) elt (LE (G.under D xs) qe))
    (hy : X.N[i]? = some y := by rfl) (hyl : X.env.scope.names.lookup y = some .local := by rfl) (hs : ∀ x, foldedSetIterable iter X.env x = pure x := by intro _; rfl) : PS X (.Assign [.Name y py] (.ListComp elt [⟨tg, iter, ifs, 0⟩] scope pos) spos) (LS G (sSet i (qLc qi qg qt qe (own.map (·.2))))) :=
  PS.imp (ps_setLc g.calm g.nd hy hyl hsw hi ok (fun s H C cl fp => pg_ex fun D => pg_ex fun xs => hg s H C cl fp D xs (g.blk D xs s H scope _ fp)) (fun s H C cl fp => pts_ex fun D => pts_ex fun xs => ht s H C cl fp D xs (g.blk D xs s H scope _ fp)) (fun s H C cl fp => pe_ex fun D => pe_ex fun xs => he s H C cl fp D xs (g.blk D xs s H scope _ fp)) hs)
    fun D σ H ⟨e, M, E, S, k, f⟩ => by
      have h : LE G (qLc qi qg qt qe (own.map (·.2))) σ H (fun x H1 => gName i x σ H1 D.nx) := ⟨e, M, _, S, k, fun r e1 k1 v H1 M1 S1 s1 R => by
        obtain ⟨e2, M2, k2, S2, s2⟩ := store_fin S1 R k1
        exact f.nx e2 k2 _ H1 M2 S2 (s1.trans s2)⟩
      exact lc_ok h (fun D xs v σ H Q k => ⟨D, xs, k⟩) (fun D xs σ H Q k => ⟨D, xs, k⟩) (fun D xs σ H Q k => ⟨D, xs, k⟩)
end
end CP
/-! Defs and their calls. -/
namespace CP
open PySem PySem.Spec PyProof.Rows L2
/-- what a def does: its arguments (given, or lent to be changed), the wanted end: the value, the arguments behind it -/
abbrev PG1 := List Sl → (QV → List Sl → Prop) → Prop
inductive ArgsOk (G : En) (H : Hp) (M : Addr → Prop) : List V → List Sl → Prop
  | nil : ArgsOk G H M [] []
  | val {v vs p ss} : Rep G H M v p → ArgsOk G H M vs ss → ArgsOk G H M (v :: vs) (.val p :: ss)
  | io {a vs p ss} : Obj G H M a p → M a → ArgsOk G H M vs ss → ArgsOk G H M (.ref a :: vs) (.io p :: ss)
/-- at the i-th place a thing at a is lent -/
def LentAt (vs : List V) (ss : List Sl) (i : Nat) (a : Addr) : Prop := vs[i]? = some (.ref a) ∧ ∃ p, ss[i]? = some (Sl.io p)
/-- how the caller finds the end -/
structure EndOk (G : En) (H : Hp) (M : Addr → Prop) (vs : List V) (ss : List Sl) (r : QV) (ss' : List Sl) (v : V) (H' : Hp) (M' : Addr → Prop) : Prop where
  keep : ∀ b o, H b = some o → (∀ i, ¬ LentAt vs ss i b) → H' b = some o
  there : ∀ b, H b ≠ none → H' b ≠ none
  more : ∀ b, M b → M' b
  trk : ∀ b, M' b → H' b ≠ none
  old : ∀ b, H b ≠ none → M' b → M b
  lent : ∀ (i : Nat) a, LentAt vs ss i a → ∃ p, ss'[i]? = some (Sl.io p) ∧ Obj G H' M' a p
  res : match r with
    | .sh p => Rep G H' M' v p
    | .fr p => ∃ a, v = .ref a ∧ H a = none ∧ Obj G H' M' a p ∧ M' a
    | .bor _ => False
def spP (G : En) (g : PG1) : Sp := fun vs H Q _ => ∃ ss M K, ArgsOk G H M vs ss ∧ (∀ i j a, LentAt vs ss i a → LentAt vs ss j a → i = j) ∧ (∀ a, M a → H a ≠ none) ∧ g ss K ∧
  ∀ r ss', K r ss' → ∀ v H' M', EndOk G H M vs ss r ss' v H' M' → Q v H'
theorem ArgsOk.len {G : En} {H : Hp} {M : Addr → Prop} : ∀ {vs : List V} {ss : List Sl}, ArgsOk G H M vs ss → vs.length = ss.length
  | _, _, .nil => rfl
  | _, _, .val _ r => by rw [List.length_cons, List.length_cons, ArgsOk.len r]
  | _, _, .io _ _ r => by rw [List.length_cons, List.length_cons, ArgsOk.len r]
theorem ArgsOk.at {G : En} {H : Hp} {M : Addr → Prop} : ∀ {vs : List V} {ss : List Sl} {i : Nat} {s : Sl}, ArgsOk G H M vs ss → ss[i]? = some s → ∃ v, vs[i]? = some v ∧ ((∃ p, s = .val p ∧ Rep G H M v p) ∨ ∃ a p, s = .io p ∧ v = .ref a ∧ Obj G H M a p ∧ M a)
  | _, _, _, _, .nil, h => by simp at h
  | _, _, 0, _, .val r _, h => by simp at h; subst h; exact ⟨_, rfl, .inl ⟨_, rfl, r⟩⟩
  | _, _, 0, _, .io o m _, h => by simp at h; subst h; exact ⟨_, rfl, .inr ⟨_, _, rfl, rfl, o, m⟩⟩
  | _, _, i + 1, s, .val _ r, h => by
    obtain ⟨v, e, q⟩ := ArgsOk.at (i := i) (s := s) r (by simpa using h)
    exact ⟨v, by simpa using e, q⟩
  | _, _, i + 1, s, .io _ _ r, h => by
    obtain ⟨v, e, q⟩ := ArgsOk.at (i := i) (s := s) r (by simpa using h)
    exact ⟨v, by simpa using e, q⟩
/-! ### a def's body -/
/-- the slots at the entry -/
def startE (n : Nat) (ss : List Sl) : PEnv := ss ++ List.replicate (n - ss.length) .no
/-- the ends of a body -/
def bodyEnds (k : Nat) (K : QV → List Sl → Prop) : PEnds where
  nx := fun e => K (.sh .non) (e.take k)
  rt := fun r e => match r with
    | .sh p => K (.sh p) (e.take k)
    | .fr p => K (.fr p) (e.take k)
    | .bor i => match e[i]? with
      | some (Sl.val p) => K (.sh p) (e.take k)
      | some (Sl.own p) => K (.fr p) (e.take k)
      | _ => False
def iolOf : Nat → List V → List Sl → List (Nat × Addr)
  | n, .ref a :: vs, .io _ :: ss => (n, a) :: iolOf (n + 1) vs ss
  | n, _ :: vs, _ :: ss => iolOf (n + 1) vs ss
  | _, _, _ => []
theorem mem_iol {i : Nat} {a : Addr} : ∀ {vs : List V} {ss : List Sl} {n : Nat}, (i, a) ∈ iolOf n vs ss ↔ n ≤ i ∧ LentAt vs ss (i - n) a
  | [], ss, n => by
    unfold iolOf LentAt
    simp
  | v :: vs, [], n => by
    have : iolOf n (v :: vs) [] = [] := by unfold iolOf; cases v <;> rfl
    rw [this]
    unfold LentAt
    simp
  | v :: vs, s :: ss, n => by
    have ih := mem_iol (i := i) (a := a) (vs := vs) (ss := ss) (n := n + 1)
    have tail : (n + 1 ≤ i ∧ LentAt vs ss (i - (n + 1)) a) ↔ (n ≤ i ∧ i ≠ n ∧ LentAt (v :: vs) (s :: ss) (i - n) a) := by
      constructor
      · rintro ⟨h1, h2⟩
        refine ⟨by omega, by omega, ?_⟩
        have e : i - n = (i - (n + 1)) + 1 := by omega
        unfold LentAt at h2 ⊢
        rw [e]; simpa using h2
      · rintro ⟨h1, h2, h3⟩
        refine ⟨by omega, ?_⟩
        have e : i - n = (i - (n + 1)) + 1 := by omega
        unfold LentAt at h3 ⊢
        rw [e] at h3; simpa using h3
    have head : ∀ b, LentAt (v :: vs) (s :: ss) 0 b ↔ v = .ref b ∧ ∃ p, s = .io p := fun b => by unfold LentAt; simp
    by_cases c : (∃ b, v = .ref b) ∧ ∃ p, s = .io p
    · obtain ⟨⟨b, rfl⟩, p, rfl⟩ := c
      show (i, a) ∈ (n, b) :: iolOf (n + 1) vs ss ↔ _
      rw [List.mem_cons, ih, tail]
      constructor
      · rintro (h | ⟨h1, _, h3⟩)
        · cases h
          exact ⟨Nat.le_refl _, by rw [Nat.sub_self]; exact (head _).mpr ⟨rfl, p, rfl⟩⟩
        · exact ⟨h1, h3⟩
      · rintro ⟨h1, h2⟩
        by_cases e : i = n
        · subst e
          rw [Nat.sub_self] at h2
          obtain ⟨h3, _⟩ := (head _).mp h2
          cases h3; exact .inl rfl
        · exact .inr ⟨h1, e, h2⟩
    · have e : iolOf n (v :: vs) (s :: ss) = iolOf (n + 1) vs ss := by
        cases v <;> cases s <;> first | rfl | exact absurd ⟨⟨_, rfl⟩, _, rfl⟩ c
      rw [e, ih, tail]
      constructor
      · rintro ⟨h1, _, h3⟩; exact ⟨h1, h3⟩
      · rintro ⟨h1, h2⟩
        refine ⟨h1, fun z => ?_, h2⟩
        subst z
        rw [Nat.sub_self] at h2
        obtain ⟨h3, h4⟩ := (head _).mp h2
        exact c ⟨⟨_, h3⟩, h4⟩
/-- the surroundings of a body -/
abbrev bodyG (G : En) (H : Hp) (M : Addr → Prop) (vs : List V) (ss : List Sl) : Gh := { toEn := G, H0 := H, M0 := fun a => M a ∧ ∀ i, ¬ LentAt vs ss i a, iol := iolOf 0 vs ss, tmp := [] }
theorem iol0 {vs : List V} {ss : List Sl} {i : Nat} {a : Addr} : (i, a) ∈ iolOf 0 vs ss ↔ LentAt vs ss i a := by rw [mem_iol]; simp
section
variable {G : En} {H : Hp} {M : Addr → Prop} {vs : List V} {ss : List Sl} {N : List Str} {K : QV → List Sl → Prop}
theorem start_ok (A : ArgsOk G H M vs ss) (one : ∀ i j a, LentAt vs ss i a → LentAt vs ss j a → i = j) (trk : ∀ a, M a → H a ≠ none) (hl : ss.length ≤ N.length) : StOk (bodyG G H M vs ss) (startE N.length ss) M (L2.start N vs) H := by
  have lv := A.len
  have le : (startE N.length ss).length = N.length := by unfold startE; rw [List.length_append, List.length_replicate]; omega
  have ls : (L2.start N vs).length = N.length := by unfold L2.start; rw [List.length_append, List.length_map, List.length_replicate]; omega
  have inE : ∀ {i s}, (startE N.length ss)[i]? = some s → s ≠ Sl.no → ss[i]? = some s := fun {i s} h n => by
    unfold startE at h
    by_cases c : i < ss.length
    · rw [List.getElem?_append_left c] at h; exact h
    · rw [List.getElem?_append_right (by omega), List.getElem?_replicate] at h
      split at h
      · cases h; exact absurd rfl n
      · cases h
  have inV : ∀ {i v}, vs[i]? = some v → (L2.start N vs)[i]? = some (some v) := fun {i v} h => by
    have c := (List.getElem?_eq_some_iff.mp h).1
    unfold L2.start
    rw [List.getElem?_append_left (by rw [List.length_map]; exact c), List.getElem?_map, h]; rfl
  refine ⟨by rw [le, ls], fun i p h => ?_, fun i p h => ?_, fun i p h => ?_, fun i j a mi mj h1 h2 => ?_, fun i a h => ?_, fun a h => h.1, trk, fun b o h _ => h, fun a o h => by simp at h⟩
  · obtain ⟨v, hv, c⟩ := A.at (inE h (fun z => by cases z))
    rcases c with ⟨q, e, r⟩ | ⟨a, q, e, _⟩
    · cases e; exact ⟨v, inV hv, r⟩
    · cases e
  · obtain ⟨v, hv, c⟩ := A.at (inE h (fun z => by cases z))
    rcases c with ⟨q, e, r⟩ | ⟨a, q, e, _⟩ <;> cases e
  · have hs := inE h (fun z => by cases z)
    obtain ⟨v, hv, c⟩ := A.at hs
    rcases c with ⟨q, e, r⟩ | ⟨a, q, e, rfl, o, m⟩
    · cases e
    · cases e
      exact ⟨a, iol0.mpr ⟨hv, p, hs⟩, inV hv, o, m, fun z => z.2 i ⟨hv, p, hs⟩⟩
  · have mu : ∀ {i}, Mu (startE N.length ss) i → (L2.start N vs)[i]? = some (some (.ref a)) → LentAt vs ss i a := fun {i} ⟨p, h⟩ hs => by
      rcases h with h | h
      · have hs' := inE h (fun z => by cases z)
        obtain ⟨v, hv, c⟩ := A.at hs'
        rcases c with ⟨q, e, r⟩ | ⟨a, q, e, _⟩ <;> cases e
      · have hs' := inE h (fun z => by cases z)
        obtain ⟨v, hv, c⟩ := A.at hs'
        rw [inV hv] at hs; cases hs
        exact ⟨hv, p, hs'⟩
    exact one i j a (mu mi h1) (mu mj h2)
  · obtain ⟨h1, p, h2⟩ := iol0.mp h
    refine ⟨inV h1, p, ?_⟩
    unfold startE
    rw [List.getElem?_append_left (List.getElem?_eq_some_iff.mp h2).1]; exact h2
theorem end_ok {e : PEnv} {M' : Addr → Prop} {σ : L2.St} {H' : Hp} {v : V} {r : QV} (A : ArgsOk G H M vs ss) (S : StOk (bodyG G H M vs ss) e M' σ H') (st : Step H M H' M') (res : match r with
    | .sh p => Rep G H' M' v p
    | .fr p => ∃ a, v = .ref a ∧ H a = none ∧ Obj G H' M' a p ∧ M' a
    | .bor _ => False) : EndOk G H M vs ss r (e.take ss.length) v H' M' := by
  have lent : ∀ (i : Nat) a, LentAt vs ss i a → i < ss.length ∧ M' a ∧ ∃ p, e[i]? = some (Sl.io p) ∧ Obj G H' M' a p := fun i a h => by
    have h2 := h.2
    obtain ⟨q1, p, q2⟩ := S.iol i a (iol0.mpr h)
    obtain ⟨b, _, q3, q4, q5, _⟩ := S.io i p q2
    rw [q1] at q3; cases q3
    obtain ⟨_, h2⟩ := h2
    exact ⟨(List.getElem?_eq_some_iff.mp h2).1, q5, p, q2, q4⟩
  refine ⟨fun b o h n => S.prs b o h fun i hi => n i (iol0.mp hi), st.there, fun b h => ?_, S.trk, st.old, fun i a h => ?_, res⟩
  · by_cases c : ∃ i, LentAt vs ss i b
    · obtain ⟨i, hi⟩ := c
      exact (lent i b hi).2.1
    · exact S.m0 b ⟨h, fun i hi => c ⟨i, hi⟩⟩
  · obtain ⟨li, _, p, q1, q2⟩ := lent i a h
    exact ⟨p, by rw [List.getElem?_take_of_lt li]; exact q1, q2⟩
theorem body_ends {Q : VK} (A : ArgsOk G H M vs ss) (k : ∀ r ss', K r ss' → ∀ v H' M', EndOk G H M vs ss r ss' v H' M' → Q v H') :
    EndsTo (bodyG G H M vs ss) H M (bodyEnds ss.length K) { nx := fun _ H' => Q .non H', rt := Q } := by
  refine ⟨fun e h σ H' M' S st => ?_, fun r e h σ v H' M' S st R => ?_, fun e h => h.elim, fun e h => h.elim⟩
  · exact k _ _ h .non H' M' (end_ok A S st .non)
  · cases r with
    | sh p => exact k _ _ h v H' M' (end_ok A S st R)
    | fr p =>
      obtain ⟨a, rfl, o, m, _, h0, _⟩ := R
      exact k _ _ h _ H' M' (end_ok A S st ⟨a, rfl, h0, o, m⟩)
    | bor i =>
      have h : (match e[i]? with
        | some (Sl.val p) => K (.sh p) (e.take ss.length)
        | some (Sl.own p) => K (.fr p) (e.take ss.length)
        | _ => False) := h
      have R : σ[i]? = some (some v) := R
      cases c : e[i]? with
      | none => rw [c] at h; exact h.elim
      | some s =>
        rw [c] at h
        cases s with
        | no => exact h.elim
        | io q => exact h.elim
        | val p =>
          obtain ⟨w, h1, h2⟩ := S.val i p c
          rw [R] at h1; cases h1
          exact k _ _ h v H' M' (end_ok A S st h2)
        | own p =>
          obtain ⟨a, h1, h2, h3, _, h5⟩ := S.own i p c
          rw [R] at h1; cases h1
          exact k _ _ h _ H' M' (end_ok A S st ⟨a, rfl, h5, h2, h3⟩)
end
/-- THE RULE for a def: q its body's reading; g what it promises -/
theorem def_ok {P : Program} {w : World} {K : PySem.W.Frag} {mg : Str → Option Value} {base : Heap} {x qual : Str} {st : Stmt} {f : Addr} {fd : FuncData} {N ps : List Str} {k : Nat} {q : QS} {g : PG1} (F : Fun K x qual st f fd) (S : FnScope N ps (defScope st))
    (arity : ∀ ss Q, g ss Q → ss.length = ps.length)
    (hbody : ∀ (G : Gh) (cdv : Value) (A : Around) (outer : List Env) (s : Shared) (H : Hp) (E : XK), G.toEn = ⟨P, w, K⟩ → Good G k (cxOf CX0 P w K mg base N qual (defScope st) f cdv A outer s H E).nox →
      PSs (cxOf CX0 P w K mg base N qual (defScope st) f cdv A outer s H E).nox (defBody st) (LS G q))
    (hq : ∀ ss Q, g ss Q → q (bodyEnds ps.length Q) (startE N.length ss)) : FnOk P w K mg base CX0 (k + 1) f fd ps (spP ⟨P, w, K⟩ g) := by
  refine F.ok S (fun vs H Q E h => ?_) (fun cdv A outer s H vs Q E hr h => ?_)
  · obtain ⟨ss, M, K, A, _, _, gk, _⟩ := h
    rw [A.len]; exact arity _ _ gk
  · obtain ⟨ss, M, Kq, A', one, trk, gk, fin⟩ := h
    have ar := arity _ _ gk
    have hl : ss.length ≤ N.length := by
      have := congrArg List.length S.pre
      rw [List.length_take] at this; omega
    refine ⟨_, hbody (bodyG ⟨P, w, K⟩ H M vs ss) cdv A outer s H E rfl ⟨rfl, rfl, rfl, rfl, S.nd, hr⟩, startE N.length ss, M, bodyEnds ps.length Kq, start_ok A' one trk hl, hq ss Kq gk, ?_⟩
    rw [← ar]
    exact body_ends A' fin
/-! ### a call -/
/-- an argument: kept, or what slot i holds is lent -/
inductive AV where
  | kept (p : PV) | lent (i : Nat)
abbrev QLs := PEnv → (List AV → PEnv → Prop) → Prop
inductive AvOk (G : Gh) (e : PEnv) (M : Addr → Prop) (σ : L2.St) (H : Hp) : List V → List AV → Prop
  | nil : AvOk G e M σ H [] []
  | kept {v vs p as} : Rep G.toEn H M v p → AvOk G e M σ H vs as → AvOk G e M σ H (v :: vs) (.kept p :: as)
  | lent {v vs i as} : σ[i]? = some (some v) → AvOk G e M σ H vs as → AvOk G e M σ H (v :: vs) (.lent i :: as)
def LL (G : Gh) (q : QLs) : TA := fun σ H Q => ∃ e M K, StOk G e M σ H ∧ q e K ∧ ∀ as e', K as e' → ∀ vs H' M', StOk G e' M' σ H' → Step H M H' M' → AvOk G e' M' σ H' vs as → Q vs H'
def lNil : QLs := fun e Q => Q [] e
def lKeep (qa : QE) (qr : QLs) : QLs := fun e Q => qa e fun r e1 => keep r e1 fun p e2 => qr e2 fun as e3 => Q (.kept p :: as) e3
def lLend (i : Nat) (qr : QLs) : QLs := fun e Q => qr e fun as e1 => Q (.lent i :: as) e1
section
variable {G : Gh} {lv : Nat} {X : Cx} {a : Expr} {es : List Expr} {qa : QE} {ql : QLs} {pos : Pos}
theorem l_nil : PA X [] (LL G lNil) := PA.imp pa_nil fun σ H Q ⟨e, M, K, S, q, f⟩ => f [] e q [] H M S .refl .nil
theorem l_keep (ha : PE X a (LE G qa)) (hr : PA X es (LL G ql)) (hs : starEach (a :: es) X.env = (false, eval a X.env) :: starEach es X.env := by rfl) : PA X (a :: es) (LL G (lKeep qa ql)) :=
  PA.imp (pa_cons ha hr hs) fun σ H Q ⟨e, M, K, S, q, f⟩ => ⟨e, M, _, S, q, fun r e1 k1 v H1 M1 S1 s1 R => by
    obtain ⟨p, e2, M2, k2, S2, s2, R2⟩ := keep_ok S1 R k1
    exact ⟨e2, M2, _, S2, k2, fun as e3 k3 vs H3 M3 S3 s3 A => f _ e3 k3 _ H3 M3 S3 ((s1.trans s2).trans s3) (.kept (R2.step s3) A)⟩⟩
def muB (e : PEnv) (i : Nat) : Bool := match e[i]? with
  | some (Sl.own _) => true
  | some (Sl.io _) => true
  | _ => false
/-- the slot is to be of a thing that may change -/
def lLendM (i : Nat) (qr : QLs) : QLs := fun e Q => muB e i = true ∧ lLend i qr e Q
theorem mu_of {e : PEnv} {i : Nat} (h : muB e i = true) : Mu e i := by
  unfold muB at h
  split at h
  · rename_i p hp; exact ⟨p, .inl hp⟩
  · rename_i p hp; exact ⟨p, .inr hp⟩
  · cases h
theorem l_lend {i : Nat} (ha : PE X a (tVar i)) (hr : PA X es (LL G ql)) (hs : starEach (a :: es) X.env = (false, eval a X.env) :: starEach es X.env := by rfl) : PA X (a :: es) (LL G (lLendM i ql)) :=
  PA.imp (pa_cons ha hr hs) fun σ H Q ⟨e, M, K, S, q, f⟩ => by
    obtain ⟨m, q⟩ := q
    obtain ⟨b, p, h1, _⟩ := S.mu (mu_of m)
    exact ⟨_, h1, e, M, _, S, q, fun as e3 k3 vs H3 M3 S3 s3 A => f _ e3 k3 _ H3 M3 S3 s3 (.lent h1 A)⟩
/-- the arguments as the callee finds them -/
def argS (e : PEnv) : AV → Option Sl
  | .kept p => some (.val p)
  | .lent i => (getC e i).map .io
def argSs (e : PEnv) : List AV → Option (List Sl)
  | [] => some []
  | a :: as => match argS e a, argSs e as with
    | some s, some ss => some (s :: ss)
    | _, _ => none
/-- what was lent comes back -/
def putB : PEnv → List AV → List Sl → PEnv
  | e, .lent i :: as, .io p :: ss => putB (putC e i p) as ss
  | e, _ :: as, _ :: ss => putB e as ss
  | e, _, _ => e
def lents : List AV → List Nat
  | [] => []
  | .lent i :: as => i :: lents as
  | .kept _ :: as => lents as
def withSs (o : Option (List Sl)) (k : List Sl → Prop) : Prop := match o with
  | some p => k p
  | none => False
theorem withSs_of {o : Option (List Sl)} {k : List Sl → Prop} (h : withSs o k) : ∃ p, o = some p ∧ k p := by
  cases o with
  | none => exact h.elim
  | some p => exact ⟨p, rfl, h⟩
def qCall (g : PG1) (q : QLs) : QE := fun e Q => q e fun as e1 => (lents as).Nodup ∧ withSs (argSs e1 as) fun ss => g ss fun r ss' => match r with
  | .bor _ => False
  | r => Q r (putB e1 as ss')
variable {e : PEnv} {M : Addr → Prop} {σ : L2.St} {H : Hp}
theorem args_ok (S : StOk G e M σ H) : ∀ {vs : List V} {as : List AV} {ss : List Sl}, AvOk G e M σ H vs as → argSs e as = some ss → ArgsOk G.toEn H M vs ss ∧ as.length = ss.length ∧ ∀ (i : Nat) a, LentAt vs ss i a ↔ ∃ j, as[i]? = some (.lent j) ∧ Mu e j ∧ σ[j]? = some (some (.ref a))
  | _, _, ss, .nil, h => by
    cases h
    exact ⟨.nil, rfl, fun i a => by unfold LentAt; simp⟩
  | _, _, ss, .kept (v := v) (vs := vs) (p := p) (as := as) r t, h => by
    unfold argSs at h
    dsimp only [argS] at h
    cases c : argSs e as with
    | none => rw [c] at h; cases h
    | some ss' =>
      rw [c] at h; cases h
      obtain ⟨h1, h2, h3⟩ := args_ok S t c
      refine ⟨.val r h1, by rw [List.length_cons, List.length_cons, h2], fun i a => ?_⟩
      cases i with
      | zero => unfold LentAt; simp
      | succ i => have := h3 i a; unfold LentAt at this ⊢; simpa using this
  | _, _, ss, .lent (v := v) (vs := vs) (i := j) (as := as) r t, h => by
    unfold argSs at h
    dsimp only [argS] at h
    cases d : getC e j with
    | none => rw [d] at h; cases h
    | some p =>
      rw [d] at h
      cases c : argSs e as with
      | none => rw [c] at h; cases h
      | some ss' =>
        rw [c] at h; cases h
        obtain ⟨h1, h2, h3⟩ := args_ok S t c
        obtain ⟨mu, _⟩ := getC_mu d
        obtain ⟨a, q, q1, q2, q3, q4, _⟩ := S.mu mu
        rw [r] at q1; cases q1
        have eq : q = p := by
          obtain ⟨_, hp⟩ := getC_mu d
          rcases hp with hp | hp <;> rcases q2 with q2 | q2 <;> (rw [hp] at q2; cases q2 <;> rfl)
        subst eq
        refine ⟨.io q3 q4 h1, by rw [List.length_cons, List.length_cons, h2], fun i b => ?_⟩
        cases i with
        | zero =>
          unfold LentAt
          constructor
          · rintro ⟨e1, _⟩
            have e1 : V.ref a = V.ref b := by simpa using e1
            cases e1
            exact ⟨j, rfl, mu, r⟩
          · rintro ⟨j', e1, _, e3⟩
            have e1 : AV.lent j = AV.lent j' := by simpa using e1
            cases e1
            rw [r] at e3; cases e3
            exact ⟨rfl, q, rfl⟩
        | succ i => have := h3 i b; unfold LentAt at this ⊢; simpa using this
theorem argSs_at {e : PEnv} : ∀ {as : List AV} {ss : List Sl} {i j : Nat}, argSs e as = some ss → as[i]? = some (.lent j) → ∃ p, getC e j = some p
  | [], _, _, _, _, h => by simp at h
  | a :: as, ss, i, j, hs, h => by
    unfold argSs at hs
    cases c : argS e a with
    | none => rw [c] at hs; cases hs
    | some s =>
      rw [c] at hs
      cases d : argSs e as with
      | none => rw [d] at hs; cases hs
      | some ss' =>
        cases i with
        | succ i => exact argSs_at d (by simpa using h)
        | zero =>
          have : a = .lent j := by simpa using h
          subst this
          unfold argS at c
          dsimp only at c
          cases q : getC e j with
          | none => rw [q] at c; cases c
          | some p => exact ⟨p, rfl⟩
theorem lents_mem {as : List AV} {i j : Nat} (h : as[i]? = some (.lent j)) : j ∈ lents as := by
  induction as generalizing i with
  | nil => simp at h
  | cons a as ih =>
    cases i with
    | zero =>
      have : a = .lent j := by simpa using h
      subst this; exact List.mem_cons_self
    | succ i =>
      have q := ih (i := i) (by simpa using h)
      cases a with
      | kept p => exact q
      | lent k => exact List.mem_cons_of_mem _ q
theorem lents_one {as : List AV} (nd : (lents as).Nodup) {i k j : Nat} (h1 : as[i]? = some (.lent j)) (h2 : as[k]? = some (.lent j)) : i = k := by
  induction as generalizing i k with
  | nil => simp at h1
  | cons a as ih =>
    cases i with
    | zero =>
      cases k with
      | zero => rfl
      | succ k =>
        have e : a = .lent j := by simpa using h1
        subst e
        exact absurd (lents_mem (show as[k]? = some (.lent j) by simpa using h2)) (List.nodup_cons.mp nd).1
    | succ i =>
      cases k with
      | zero =>
        have e : a = .lent j := by simpa using h2
        subst e
        exact absurd (lents_mem (show as[i]? = some (.lent j) by simpa using h1)) (List.nodup_cons.mp nd).1
      | succ k =>
        have nd' : (lents as).Nodup := by
          cases a with
          | kept p => exact nd
          | lent m => exact (List.nodup_cons.mp nd).2
        exact congrArg (· + 1) (ih nd' (by simpa using h1) (by simpa using h2))
/-- the slots behind a call: those lent have new contents -/
theorem putB_get : ∀ {as : List AV} {ss : List Sl} {e : PEnv}, as.length = ss.length → (lents as).Nodup → (∀ (i : Nat) j, as[i]? = some (.lent j) → ∃ p, ss[i]? = some (Sl.io p)) →
    (putB e as ss).length = e.length ∧ (∀ j, j ∉ lents as → (putB e as ss)[j]? = e[j]?) ∧ ∀ (i : Nat) j p s, as[i]? = some (.lent j) → ss[i]? = some (Sl.io p) → e[j]? = some s → (putB e as ss)[j]? = some (s.put p)
  | [], [], e, _, _, _ => ⟨rfl, fun _ _ => rfl, fun i j p s h => by simp at h⟩
  | .kept q :: as, s0 :: ss, e, hl, nd, hh => by
    obtain ⟨h1, h2, h3⟩ := putB_get (as := as) (ss := ss) (e := e) (by simpa using hl) nd fun i j h => by simpa using hh (i + 1) j (by simpa using h)
    have ee : putB e (.kept q :: as) (s0 :: ss) = putB e as ss := by cases s0 <;> rfl
    rw [ee]
    refine ⟨h1, h2, fun i j p s ha hs he => ?_⟩
    cases i with
    | zero => simp at ha
    | succ i => exact h3 i j p s (by simpa using ha) (by simpa using hs) he
  | .lent k :: as, s0 :: ss, e, hl, nd, hh => by
    obtain ⟨p0, hp0⟩ := hh 0 k rfl
    have : s0 = .io p0 := by simpa using hp0
    subst this
    obtain ⟨nk, nd'⟩ := List.nodup_cons.mp nd
    obtain ⟨h1, h2, h3⟩ := putB_get (as := as) (ss := ss) (e := putC e k p0) (by simpa using hl) nd' fun i j h => by simpa using hh (i + 1) j (by simpa using h)
    show (putB (putC e k p0) as ss).length = e.length ∧ (∀ j, j ∉ k :: lents as → (putB (putC e k p0) as ss)[j]? = e[j]?) ∧ _
    refine ⟨by rw [h1, putC_len], fun j hj => ?_, fun i j p s ha hs he => ?_⟩
    · rw [h2 j (fun z => hj (List.mem_cons_of_mem _ z)), putC_ne (fun z => hj (by rw [z]; exact List.mem_cons_self))]
    · cases i with
      | zero =>
        have e1 : k = j := by simpa using ha
        have e2 : p0 = p := by simpa using hs
        subst e1 e2
        show (putB (putC e k p0) as ss)[k]? = _
        rw [h2 k nk, putC_same p0 he]
      | succ i =>
        have ha' : as[i]? = some (.lent j) := by simpa using ha
        refine h3 i j p s ha' (by simpa using hs) ?_
        have : j ≠ k := fun z => nk (z ▸ lents_mem ha')
        rw [putC_ne this]; exact he
  | [], _ :: _, _, hl, _, _ => by simp at hl
  | _ :: _, [], _, hl, _, _ => by simp at hl
theorem put_val {s : Sl} {p q : PV} (h : s.put p = .val q) : s = .val q := by cases s <;> simp [Sl.put] at h ⊢; exact h
theorem put_own {s : Sl} {p q : PV} (h : s.put p = .own q) : (∃ r, s = .own r) ∧ q = p := by cases s <;> simp [Sl.put] at h ⊢; exact h.symm
theorem put_io {s : Sl} {p q : PV} (h : s.put p = .io q) : (∃ r, s = .io r) ∧ q = p := by cases s <;> simp [Sl.put] at h ⊢; exact h.symm
theorem call_back (S : StOk G e M σ H) {vs : List V} {as : List AV} {ss ss' : List Sl} {r : QV} {v : V} {H' : Hp} {M' : Addr → Prop} (A : AvOk G e M σ H vs as) (nd : (lents as).Nodup) (hs : argSs e as = some ss) (E : EndOk G.toEn H M vs ss r ss' v H' M') (hl : ss'.length = ss.length) :
    StOk G (putB e as ss') M' σ H' ∧ Step H M H' M' ∧ (∀ p, r = .sh p ∨ r = .fr p → Res G (putB e as ss') M' σ H' v r) := by
  obtain ⟨_, la, lent⟩ := args_ok S A hs
  have mem : ∀ {j}, j ∈ lents as → ∃ i : Nat, as[i]? = some (.lent j) := by
    intro j hj
    clear A hs la lent hl nd
    induction as with
    | nil => simp [lents] at hj
    | cons a as ih =>
      cases a with
      | kept p =>
        obtain ⟨i, hi⟩ := ih hj
        exact ⟨i + 1, by simpa using hi⟩
      | lent k =>
        rcases List.mem_cons.mp hj with rfl | hj
        · exact ⟨0, rfl⟩
        · obtain ⟨i, hi⟩ := ih hj
          exact ⟨i + 1, by simpa using hi⟩
  have mus : ∀ {i j : Nat}, as[i]? = some (.lent j) → Mu e j ∧ ∃ a, σ[j]? = some (some (.ref a)) := by
    intro i j hj
    obtain ⟨p, hp⟩ := argSs_at hs hj
    obtain ⟨m, _⟩ := getC_mu hp
    obtain ⟨a, _, q1, _⟩ := S.mu m
    exact ⟨m, a, q1⟩
  have ios : ∀ (i : Nat) j, as[i]? = some (.lent j) → ∃ p, ss'[i]? = some (Sl.io p) := fun i j h => by
    obtain ⟨m, a, ha⟩ := mus h
    obtain ⟨p, hp, _⟩ := E.lent i a ((lent i a).mpr ⟨j, h, m, ha⟩)
    exact ⟨p, hp⟩
  obtain ⟨pl, pout, pin⟩ := putB_get (e := e) (la.trans hl.symm) nd ios
  have st : Step H M H' M' := by
    refine ⟨fun b o h n => E.keep b o h fun i hi => n ?_, E.old, E.there⟩
    obtain ⟨j, _, m, ha⟩ := (lent i b).mp hi
    obtain ⟨a', _, q1, _, _, q2, _⟩ := S.mu m
    rw [ha] at q1; cases q1; exact q2
  -- a slot that was not lent
  have away : ∀ {j : Nat} {a : Addr}, j ∉ lents as → Mu e j → σ[j]? = some (some (.ref a)) → ∀ i, ¬ LentAt vs ss i a := fun {j a} hj m ha i hi => by
    obtain ⟨j', e1, m', ha'⟩ := (lent i a).mp hi
    have : j = j' := S.inj j j' a m m' ha ha'
    subst this
    exact hj (lents_mem e1)
  have same : ∀ {j a}, j ∉ lents as → Mu e j → σ[j]? = some (some (.ref a)) → H' a = H a := fun {j a} hj m ha => by
    obtain ⟨a', p, q1, _, o, _⟩ := S.mu m
    rw [ha] at q1; cases q1
    have nt := o.there
    cases z : H a with
    | none => exact absurd z nt
    | some u => exact E.keep a u z (away hj m ha)
  -- a slot behind the call
  have sl : ∀ {j : Nat} {s : Sl}, (putB e as ss')[j]? = some s → (j ∉ lents as ∧ e[j]? = some s) ∨ ∃ (i : Nat) (p : PV) (s0 : Sl), as[i]? = some (.lent j) ∧ ss'[i]? = some (Sl.io p) ∧ e[j]? = some s0 ∧ s = s0.put p := fun {j s} h => by
    by_cases c : j ∈ lents as
    · obtain ⟨i, hi⟩ := mem c
      obtain ⟨p, hp⟩ := ios i j hi
      have lj : j < e.length := by rw [← pl]; exact (List.getElem?_eq_some_iff.mp h).1
      have e0 : e[j]? = some e[j] := List.getElem?_eq_getElem lj
      have q := pin i j p _ hi hp e0
      rw [h] at q
      exact .inr ⟨i, p, _, hi, hp, e0, Option.some.inj q⟩
    · exact .inl ⟨c, by rw [← pout j c]; exact h⟩
  have muI : ∀ {j}, Mu (putB e as ss') j → Mu e j := fun {j} ⟨p, h⟩ => by
    rcases h with h | h
    · rcases sl h with ⟨_, h⟩ | ⟨i, p', s0, _, _, h, z⟩
      · exact ⟨p, .inl h⟩
      · obtain ⟨⟨q, rfl⟩, _⟩ := put_own z.symm; exact ⟨q, .inl h⟩
    · rcases sl h with ⟨_, h⟩ | ⟨i, p', s0, _, _, h, z⟩
      · exact ⟨p, .inr h⟩
      · obtain ⟨⟨q, rfl⟩, _⟩ := put_io z.symm; exact ⟨q, .inr h⟩
  have S' : StOk G (putB e as ss') M' σ H' := by
    refine ⟨by rw [pl]; exact S.len, fun j p h => ?_, fun j p h => ?_, fun j p h => ?_, fun i j a mi mj => S.inj i j a (muI mi) (muI mj), fun j a h => ?_, fun a h => E.more a (S.m0 a h), E.trk, fun b o h n => ?_, fun a o h => ?_⟩
    · have h' : e[j]? = some (Sl.val p) := by
        rcases sl h with ⟨_, h⟩ | ⟨i, p', s0, _, _, h, z⟩
        · exact h
        · rw [put_val z.symm] at h; exact h
      obtain ⟨u, q1, q2⟩ := S.val j p h'
      exact ⟨u, q1, q2.step st⟩
    · rcases sl h with ⟨c, h⟩ | ⟨i, p', s0, ha, hp, h, z⟩
      · obtain ⟨a, q1, q2, q3, q4, q5⟩ := S.own j p h
        exact ⟨a, q1, q2.step st (same c ⟨p, .inl h⟩ q1), E.more a q3, q4, q5⟩
      · obtain ⟨⟨q, rfl⟩, rfl⟩ := put_own z.symm
        obtain ⟨a, q1, q2, q3, q4, q5⟩ := S.own j q h
        obtain ⟨p2, e1, e2⟩ := E.lent i a ((lent i a).mpr ⟨j, ha, ⟨q, .inl h⟩, q1⟩)
        rw [hp] at e1; cases e1
        exact ⟨a, q1, e2, E.more a q3, q4, q5⟩
    · rcases sl h with ⟨c, h⟩ | ⟨i, p', s0, ha, hp, h, z⟩
      · obtain ⟨a, q0, q1, q2, q3, q4⟩ := S.io j p h
        exact ⟨a, q0, q1, q2.step st (same c ⟨p, .inr h⟩ q1), E.more a q3, q4⟩
      · obtain ⟨⟨q, rfl⟩, rfl⟩ := put_io z.symm
        obtain ⟨a, q0, q1, q2, q3, q4⟩ := S.io j q h
        obtain ⟨p2, e1, e2⟩ := E.lent i a ((lent i a).mpr ⟨j, ha, ⟨q, .inr h⟩, q1⟩)
        rw [hp] at e1; cases e1
        exact ⟨a, q0, q1, e2, E.more a q3, q4⟩
    · obtain ⟨q1, p, q2⟩ := S.iol j a h
      refine ⟨q1, ?_⟩
      by_cases c : j ∈ lents as
      · obtain ⟨i, hi⟩ := mem c
        obtain ⟨p', hp⟩ := ios i j hi
        exact ⟨p', by rw [pin i j p' _ hi hp q2]; rfl⟩
      · exact ⟨p, by rw [pout j c]; exact q2⟩
    · have q := S.prs b o h n
      refine E.keep b o q fun i hi => ?_
      obtain ⟨j, _, m, ha⟩ := (lent i b).mp hi
      obtain ⟨a', _, q1, _, _, _, _, q2⟩ := S.mu m
      rw [ha] at q1; cases q1
      rcases q2 with q2 | q2
      · rw [h] at q2; cases q2
      · exact n j q2
    · obtain ⟨q1, q2⟩ := S.tmp a o h
      refine ⟨q1, E.keep a o q2 fun i hi => ?_⟩
      obtain ⟨j, _, m, ha⟩ := (lent i a).mp hi
      obtain ⟨a', _, r1, _, _, _, r2, _⟩ := S.mu m
      rw [ha] at r1; cases r1
      exact r2 q1
  refine ⟨S', st, fun p hr => ?_⟩
  rcases hr with rfl | rfl
  · exact E.res
  · obtain ⟨a, rfl, h0, o, m⟩ := E.res
    refine ⟨a, rfl, o, m, fun z => S.trk a (S.m0 a z) h0, S.h0 h0, fun j mj z => ?_⟩
    obtain ⟨a', _, q1, _, q2, _⟩ := S.mu (muI mj)
    rw [z] at q1; cases q1
    exact q2.there h0
variable {x : Str} {p : Pos} {k : Nat} {f : Addr} {fd : FuncData} {ps : List Str} {g : PG1}
theorem q_call (gd : Good G lv X) (F : FnOk X.prog X.w X.K X.mg X.base CX0 k f fd ps (spP G.toEn g)) (hk : k ≤ lv) (hm : X.mg x = some (.ref f)) (kp : PySem.W.keepIn X.K (.ref f) = true) (hb : Binds X.K fd ps []) (hout : ∀ ss Q, g ss Q → g ss fun r ss' => Q r ss' ∧ ss'.length = ss.length) (ha : PA X (a :: es) (LL G ql))
    (hg : Gl X x := by rfl) (hdb : (x == ("__debug__" : Str)) = false := by decide) (he : starEach (a :: es) X.env = (false, eval a X.env) :: starEach es X.env := by rfl) (hpl : (backTo pos (starEach es X.env)).any (·.1) = false := by rfl) : PE X (.Call (.Name x p) (a :: es) [] pos) (LE G (qCall g ql)) :=
  PE.imp (pe_call F (gd.room.mono hk) hg hm kp hb .nil pass0 ha hdb he hpl) fun σ H Q ⟨e, M, K, S, q, fin⟩ => ⟨e, M, _, S, q, fun as e1 k1 vs H1 M1 S1 s1 A => by
    obtain ⟨nd, k1⟩ := k1
    obtain ⟨ss, hs, k1⟩ := withSs_of k1
    obtain ⟨A', _, lent⟩ := args_ok S1 A hs
    rw [List.append_nil]
    refine ⟨ss, M1, _, A', fun i j b hi hj => ?_, S1.trk, hout ss _ k1, fun r ss' ⟨kr, hl⟩ v H' M' E => ?_⟩
    · obtain ⟨i', e1, m1, a1⟩ := (lent i b).mp hi
      obtain ⟨j', e2, m2, a2⟩ := (lent j b).mp hj
      have : i' = j' := S1.inj i' j' b m1 m2 a1 a2
      subst this
      exact lents_one nd e1 e2
    · obtain ⟨S', st, R⟩ := call_back S1 A nd hs E hl
      cases r with
      | sh p => exact fin _ _ kr v H' M' S' (s1.trans st) (R p (.inl rfl))
      | fr p => exact fin _ _ kr v H' M' S' (s1.trans st) (R p (.inr rfl))
      | bor i => exact kr.elim⟩
end
end CP
/-! Lists that change; sorted, min, max, sum; fields; kinds. -/
namespace CP
open PySem PySem.Spec PyProof.Rows L2
section
variable {G : Gh} {lv : Nat} {X : Cx} {a b c : Expr} {es : List Expr} {qa qb : QE} {qA : QAs} {qB : QBs} {pos p apos cpos : Pos} {o : Expr} {T id : String} {name : Str}
/-! ### a method that changes what slot i holds -/
abbrev GM := PV → List PV → (PV → PV → Prop) → Prop
def lstB (e : PEnv) (i : Nat) : Bool := match getC e i with
  | some (.lst _) => true
  | _ => false
def qLm (i : Nat) (q : QAs) (g : GM) : QE := fun e Q => lstB e i = true ∧ q e fun ps e1 => withP (getC e1 i) fun p => g p ps fun p' x => Q (.sh x) (putC e1 i p')
def LiftM (G : Gh) (r : V → List V → Hp → VK → Prop) (g : GM) : Prop := ∀ (M : Addr → Prop) (H : Hp) (a : Addr) (p : PV) (vs : List V) (ps : List PV) (Q : VK) (k : PV → PV → Prop), Obj G.toEn H M a p → M a → RepAll G.toEn H M vs ps → g p ps k →
  (∀ p' x o v, k p' x → (Step H M (L2.upd H a o) M → Obj G.toEn (L2.upd H a o) M a p') → (Step H M (L2.upd H a o) M → Rep G.toEn (L2.upd H a o) M v x) → Q v (L2.upd H a o)) → r (.ref a) vs H Q
theorem get_one {e : PEnv} {i : Nat} {p q : PV} (hs : e[i]? = some (Sl.own p) ∨ e[i]? = some (Sl.io p)) (q2 : e[i]? = some (Sl.own q) ∨ e[i]? = some (Sl.io q)) : q = p := by
  rcases hs with hs | hs <;> rcases q2 with q2 | q2 <;> (rw [hs] at q2; cases q2 <;> rfl)
theorem StOk.cont {e : PEnv} {M : Addr → Prop} {σ : L2.St} {H : Hp} (S : StOk G e M σ H) {i : Nat} {p : PV} (h : getC e i = some p) : ∃ a, σ[i]? = some (some (.ref a)) ∧ Obj G.toEn H M a p ∧ M a := by
  obtain ⟨m1, hs⟩ := getC_mu h
  obtain ⟨a', q', q1, q2, q3, q4, _⟩ := S.mu m1
  rw [get_one hs q2] at q3
  exact ⟨a', q1, q3, q4⟩
theorem lm_ok {i : Nat} {g : GM} {r : V → List V → Hp → VK → Prop} (l : LiftM G r g) {σ : L2.St} {H : Hp} {Q : VK} (h : LE G (qLm i qA g) σ H Q) : tBM X.K "list" r (tVar i) (LA G qA) σ H Q := by
  obtain ⟨e, M, K, S, ⟨mb, q⟩, f⟩ := h
  unfold lstB at mb
  split at mb
  · rename_i xs hx
    obtain ⟨a, h1, ⟨us, hu, _⟩, _⟩ := S.cont hx
    refine ⟨.ref a, h1, .inl ⟨rfl, _, .inl (.inl hu)⟩, e, M, _, S, q, fun ps e1 k1 vs H1 M1 S1 s1 R => ?_⟩
    obtain ⟨p, hp, k2⟩ := withP_of k1
    obtain ⟨a', q1, q3, q4⟩ := S1.cont hp
    rw [h1] at q1; cases q1
    refine l M1 H1 a p vs ps Q _ q3 q4 R k2 (fun p' x o v kk ob rv => ?_)
    obtain ⟨S2, s2⟩ := S1.change hp h1 ob
    exact f _ _ kk v _ M1 S2 (s1.trans s2) (rv s2)
  · cases mb
theorem q_lm {i : Nat} {g : GM} {r : V → List V → Hp → VK → Prop} (l : LiftM G r g) (slot : Slot "list" name id) (hty : typeOf (.builtin id) = pure (.type "method_descriptor")) (hm : MtR X id r) (ho : PE X o (tVar i)) (ha : PA X (a :: es) (LA G qA))
    (hbase : attributeBase o name X.env (eval o X.env) = eval o X.env := by rfl)
    (hfew : ((backTo cpos (starEach (a :: es) X.env)).all (fun x => !x.1) && (backToKw cpos (keywordEach [] X.env)).all (fun x => x.1.isSome) && decide ((a :: es).length + ([] : List Keyword).length + (if ([] : List Keyword).isEmpty then 0 else 1) < 30)) = true := by rfl)
    (hline : (apos.endLine == cpos.line) = true := by rfl) (hs : starEach (a :: es) X.env = (false, eval a X.env) :: starEach es X.env := by rfl) (hplain : (backTo cpos (starEach es X.env)).any (·.1) = false := by rfl) :
    PE X (.Call (.Attribute o name apos) (a :: es) [] cpos) (LE G (qLm i qA g)) := PE.imp (pe_bm PySem.F.plainAttrs_list slot hty hm ho ha hbase hfew hline hs hplain) fun σ H Q h => lm_ok l h
/-! the methods -/
def gAppend : GM := fun p ps k => match p, ps with
  | .lst xs, [x] => xs.length < SZ ∧ k (.lst (xs ++ [x])) .non
  | _, _ => False
theorem l_append : LiftM G rAppend gAppend := fun M H a p vs ps Q k o ma R g f => by
  unfold gAppend at g
  split at g
  · obtain ⟨us, hu, ru⟩ := o
    cases R with
    | cons r0 rt =>
      cases rt
      refine ⟨a, us, _, rfl, rfl, hu, by rw [ru.length]; exact sz_fits1 g.1, f _ _ _ _ g.2 (fun s => ⟨_, upd_same, (ru.step s).append (.cons (r0.step s) .nil)⟩) fun s => .non⟩
  · exact g.elim
def gExtend : GM := fun p ps k => match p, ps with
  | .lst xs, [.lst ys] => xs.length + ys.length ≤ SZ ∧ k (.lst (xs ++ ys)) .non
  | _, _ => False
/-- extend by a list of any making -/
def rExtendQ : V → List V → Hp → VK → Prop := fun x vs H Q => ∃ l b xs zs, x = .ref l ∧ vs = [.ref b] ∧ H l = some (.lst xs) ∧ Rd H b (.lst zs) ∧ xs.length + zs.length ≤ sizeLine ∧ Q .non (L2.upd H l (.lst (xs ++ zs)))
theorem l_extend : LiftM G rExtendQ gExtend := fun M H a p vs ps Q k o ma R g f => by
  unfold gExtend at g
  split at g
  · obtain ⟨us, hu, ru⟩ := o
    cases R with
    | cons r0 rt =>
      cases rt
      cases r0 with
      | lst sl rr =>
        refine ⟨a, _, us, _, rfl, rfl, hu, sl.1, by rw [ru.length, rr.length]; exact sz_fits g.1, f _ _ _ _ g.2 (fun s => ⟨_, upd_same, (ru.step s).append (rr.step s)⟩) fun s => .non⟩
  · exact g.elim
theorem mt_extendQ : MtR X "list.extend" rExtendQ := by
  intro pins s σ H x vs v us Q I rx rv h
  obtain ⟨l, b, xs, zs, rfl, rfl, hH, hB, hz, q⟩ := h
  cases rx
  obtain ⟨u, rfl, ru⟩ := rv.one
  cases ru
  obtain ⟨z, its, n, r, hl, e⟩ := I.lstM hH
  obtain ⟨z2, its2, n2, r2, e2⟩ := hB.ok I.hok
  have hl2 := r2.length
  have hsz : its.toArray.size + its2.toArray.size ≤ sizeLine := by rw [List.size_toArray, List.size_toArray]; omega
  have hlong : ¬ (!its.toArray.isEmpty && Builtin.List.listTooLong (its.toArray.size + its2.toArray.size)) = true := by
    rw [notLongL hsz, Bool.and_false]
    exact Bool.false_ne_true
  refine call_meets F.slot_list_extend ⟨_, e, rfl⟩ F.entry_list_extend (F.args_list_extend_2 _ _)
    (AutoSeq1.list_extend_list_list_0 l its.toArray n b its2.toArray n2 hlong (by rw [List.size_toArray]; omega) (by omega)) ⟨e, e2, ?_⟩
  refine ⟨.non, _, I.lset (its' := its ++ its2) hH e (by simp) (r.append r2) ?_, rfl, q⟩
  rw [List.length_append]
  omega
/-- xs.pop(i) -/
def gPopAt : GM := fun p ps k => match p, ps with
  | .lst xs, [.int i] => (-1000000 ≤ i ∧ i ≤ 1000000) ∧ ∃ j x, ixN xs.length i = some j ∧ xs[j]? = some x ∧ k (.lst (xs.eraseIdx j)) x
  | _, _ => False
theorem l_popAt : LiftM G rPopAt gPopAt := fun M H a p vs ps Q k o ma R g f => by
  unfold gPopAt at g
  split at g
  · obtain ⟨us, hu, ru⟩ := o
    obtain ⟨⟨h1, h2⟩, j, x, hj, hx, g⟩ := g
    cases R with
    | cons r0 rt =>
      cases rt
      cases r0
      obtain ⟨v, hv, rv⟩ := ru.get' hx
      rw [← ru.length] at hj
      refine ⟨a, us, _, j, v, rfl, rfl, hu, by omega, by omega, (ixN_seq hj).1, hv, f _ _ _ _ g (fun s => ⟨_, upd_same, (ru.step s).erase j⟩) fun s => rv.step s⟩
  · exact g.elim
variable (g0 : Good G lv X)
theorem q_append {i : Nat} (ho : PE X o (tVar i)) (ha : PA X [a] (LA G qA)) (hbase : attributeBase o "append" X.env (eval o X.env) = eval o X.env := by rfl)
    (hfew : ((backTo cpos (starEach [a] X.env)).all (fun x => !x.1) && (backToKw cpos (keywordEach [] X.env)).all (fun x => x.1.isSome) && decide (([a] : List Expr).length + ([] : List Keyword).length + (if ([] : List Keyword).isEmpty then 0 else 1) < 30)) = true := by rfl)
    (hline : (apos.endLine == cpos.line) = true := by rfl) (hs : starEach [a] X.env = (false, eval a X.env) :: starEach [] X.env := by rfl) (hplain : (backTo cpos (starEach [] X.env)).any (·.1) = false := by rfl) :
    PE X (.Call (.Attribute o "append" apos) [a] [] cpos) (LE G (qLm i qA gAppend)) := q_lm l_append PySem.F.slot_list_append PySem.F.type_list_append mt_append ho ha hbase hfew hline hs hplain
theorem q_extend {i : Nat} (ho : PE X o (tVar i)) (ha : PA X [a] (LA G qA)) (hbase : attributeBase o "extend" X.env (eval o X.env) = eval o X.env := by rfl)
    (hfew : ((backTo cpos (starEach [a] X.env)).all (fun x => !x.1) && (backToKw cpos (keywordEach [] X.env)).all (fun x => x.1.isSome) && decide (([a] : List Expr).length + ([] : List Keyword).length + (if ([] : List Keyword).isEmpty then 0 else 1) < 30)) = true := by rfl)
    (hline : (apos.endLine == cpos.line) = true := by rfl) (hs : starEach [a] X.env = (false, eval a X.env) :: starEach [] X.env := by rfl) (hplain : (backTo cpos (starEach [] X.env)).any (·.1) = false := by rfl) :
    PE X (.Call (.Attribute o "extend" apos) [a] [] cpos) (LE G (qLm i qA gExtend)) := q_lm l_extend PySem.F.slot_list_extend PySem.F.type_list_extend mt_extendQ ho ha hbase hfew hline hs hplain
theorem q_popAt {i : Nat} (ho : PE X o (tVar i)) (ha : PA X [a] (LA G qA)) (hbase : attributeBase o "pop" X.env (eval o X.env) = eval o X.env := by rfl)
    (hfew : ((backTo cpos (starEach [a] X.env)).all (fun x => !x.1) && (backToKw cpos (keywordEach [] X.env)).all (fun x => x.1.isSome) && decide (([a] : List Expr).length + ([] : List Keyword).length + (if ([] : List Keyword).isEmpty then 0 else 1) < 30)) = true := by rfl)
    (hline : (apos.endLine == cpos.line) = true := by rfl) (hs : starEach [a] X.env = (false, eval a X.env) :: starEach [] X.env := by rfl) (hplain : (backTo cpos (starEach [] X.env)).any (·.1) = false := by rfl) :
    PE X (.Call (.Attribute o "pop" apos) [a] [] cpos) (LE G (qLm i qA gPopAt)) := q_lm l_popAt PySem.F.slot_list_pop PySem.F.type_list_pop mt_popAt ho ha hbase hfew hline hs hplain
/-- xs[i] = v, xs in slot j -/
def sSetL (j : Nat) (qv qi : QE) : QS := fun E e => qv e fun r e1 => keep r e1 fun x e2 => lstB e2 j = true ∧ qi e2 fun r2 e3 => withP (acc e3 r2) fun y => withI y fun n => withP (getC e3 j) fun p => match p with
  | .lst xs => ∃ m, ixN xs.length n = some m ∧ E.nx (putC e3 j (.lst (xs.set m x)))
  | _ => False
theorem s_setL {j : Nat} {i v : Expr} {tpos : Pos} {qv qi : QE} (hv : PE X v (LE G qv)) (ho : PE X o (tVar j)) (hi : PE X i (LE G qi))
    (ht : ∀ v, assign (.Subscript o i tpos) X.env v = (do
      let ov ← holding [v] (eval o X.env)
      let iv ← holding [v, ov] (eval i X.env)
      standAt tpos
      holding [v, ov, iv] (setItem ov iv v)
      release [v, ov, iv] []) := by intro _; rfl) (hs : swapsWithSole [.Subscript o i tpos] v pos.line X.env = pure false := by rfl) (hw : swappedStores [.Subscript o i tpos] v X.env = pure none := by rfl) (h1 : (assignEach [.Subscript o i tpos] X.env).map (·.2) = [assign (.Subscript o i tpos) X.env] := by rfl) :
    PS X (.Assign [.Subscript o i tpos] v pos) (LS G (sSetL j qv qi)) :=
  PS.imp (ps_asg hv (pg_sub ho hi set_list ht) hs hw h1) fun D σ H ⟨e, M, E, S, k, f⟩ => ⟨e, M, _, S, k, fun r e1 k1 v H1 M1 S1 s1 R => by
    obtain ⟨x, e2, M2, ⟨lb, k2⟩, S2, s2, R2⟩ := keep_ok S1 R k1
    unfold lstB at lb
    split at lb
    · rename_i xs0 hx0
      obtain ⟨b, h1, _⟩ := S2.cont hx0
      refine ⟨.ref b, h1, e2, M2, _, S2, k2, fun r2 e3 k3 w H3 M3 S3 s3 R3 => ?_⟩
      obtain ⟨y, hy, k3⟩ := withP_of k3
      obtain ⟨n, rfl, k3⟩ := withI_of k3
      obtain ⟨p, hp, k3⟩ := withP_of k3
      rw [(Res.acc S3 R3 hy).int]
      split at k3
      · obtain ⟨m, hm, k3⟩ := k3
        obtain ⟨b', q1, ⟨us, hu, ru⟩, _⟩ := S3.cont hp
        rw [h1] at q1; cases q1
        refine ⟨b, us, n, m, rfl, rfl, hu, by rw [ru.length]; exact hm, ?_⟩
        obtain ⟨S4, s4⟩ := S3.change hp h1 (o := .lst (us.set m v)) (p' := .lst (_)) (fun s => ⟨_, upd_same, RepAll.set ((R2.step s3).step s) m (ru.step s)⟩)
        exact f.nx _ k3 σ _ M3 S4 (((s1.trans s2).trans s3).trans s4)
      · exact k3.elim
    · cases lb⟩
/-! ### sorted -/
def lePV (p q : PV) : Bool := PySem.W.dataLe false PV.toD p q
/-- in ascending order -/
def sortP (xs : List PV) : List PV := xs.mergeSort lePV
def Sortd (xs : List PV) : Prop := PV.isDs xs = true ∧ PySem.W.AllAlike (xs.map PV.toD) ∧ PySem.W.Sortable (xs.map PV.toD) ∧ ∀ x ∈ xs, (PV.toD x).depth ≤ 50
def gSorted (ps : List PV) (k : QV → Prop) : Prop := match ps with
  | [.lst xs] => Sortd xs ∧ k (.fr (.lst (sortP xs)))
  | [.tup xs] => Sortd xs ∧ k (.fr (.lst (sortP xs)))
  | _ => False
abbrev VP := V × PV
def rSortQ (K : PySem.W.Frag) : List V → Hp → VK → Prop := fun vs H Q => ∃ (a : Addr) (xs : List VP), vs = [V.ref a] ∧ (SqL K H a (xs.map (·.1)) ∨ SqT K H a (xs.map (·.1))) ∧ (∀ x ∈ xs, Dp K H x.1 (PV.toD x.2)) ∧ Sortd (xs.map (·.2)) ∧
  ∀ ys : List VP, ys = xs.mergeSort (PySem.W.dataLe false fun x : VP => PV.toD x.2) → ∀ p, H p = none → Q (.ref p) (L2.upd H p (.lst (ys.map (·.1))))
theorem each_rel : ∀ {xs : List VP} {us : List Value}, Vals (xs.map (·.1)) us → PySem.W.EachIs (fun u (x : VP) => RelV x.1 u) us xs
  | [], _, r => by cases r; exact .nil
  | x :: xs, _, r => by cases r with | cons r0 rt => exact .cons r0 (each_rel rt)
theorem rel_each : ∀ {xs : List VP} {us : List Value}, PySem.W.EachIs (fun u (x : VP) => RelV x.1 u) us xs → Vals (xs.map (·.1)) us
  | _, _, .nil => .nil
  | _, _, .cons h t => .cons h (rel_each t)
theorem each_reads {pins : List (Addr × PySem.Obj)} {σ : L2.St} {H : Hp} {s : Shared} (I : L2.Inv X pins σ H s) : ∀ {xs : List VP} {us : List Value}, Vals (xs.map (·.1)) us → (∀ x ∈ xs, Dp X.K H x.1 (PV.toD x.2)) → PySem.W.EachIs (fun u (x : VP) => ∃ as, Reads s.heap u (PV.toD x.2) as) us xs
  | [], _, r, _ => by cases r; exact .nil
  | x :: xs, _, r, h => by
    cases r with
    | cons r0 rt => exact .cons (Dp.reads I _ _ _ (h x List.mem_cons_self) r0) (each_reads I rt fun y hy => h y (List.mem_cons_of_mem _ hy))
theorem cr_sortQ (hu : X.A.units + 64 < cLine) : CallR X (.builtin "sorted") (rSortQ X.K) := by
  intro pins s σ H vs us Q I r h
  obtain ⟨a, xs, rfl, hA, hd, ⟨_, al, so, dp⟩, k⟩ := h
  rw [Vals.ref1 r]
  rw [List.map_map] at al so
  have fin : ∀ (its : List Value), Vals (xs.map (·.1)) its → (xs.map (·.1)).length ≤ sizeLine → ∀ out : List Value, out.length = xs.length → PySem.W.EachIs (fun u (x : VP) => RelV x.1 u) out (xs.mergeSort (PySem.W.dataLe false fun x : VP => PV.toD x.2)) → EP X pins σ Q (.ref (s.heap.objs.size + 1)) { s with heap := PyProof.Rows.sortedAll s.heap its out.toArray } := fun its rv hz out hl e => by
    obtain ⟨ep, he⟩ := PyProof.Rows.sortedAll_at s.heap its out.toArray
    have r2 := rel_each e
    have len : ((xs.mergeSort (PySem.W.dataLe false fun x : VP => PV.toD x.2)).map (·.1)).length ≤ sizeLine := by rw [r2.length, hl, ← List.length_map (f := (·.1))]; exact hz
    exact ⟨.ref _, L2.upd H (s.heap.objs.size + 1) (.lst ((xs.mergeSort (PySem.W.dataLe false fun x : VP => PV.toD x.2)).map (·.1))), I.laid (t' := s.toks) (fun _ _ => PyProof.Rows.sortedAll_old) (Nat.le_succ _) ⟨len, _, ep, r2, he⟩, rfl, k _ rfl _ (I.hok.fresh (Nat.le_succ _))⟩
  have depth : ∀ b, b ∈ xs → X.A.units + 2 + (PV.toD b.2).depth < cLine := fun b hb => by
    have := dp b.2 (List.mem_map.mpr ⟨b, hb, rfl⟩); omega
  rcases hA with hA | hA
  · obtain ⟨its, rv, pl, hz⟩ := I.list hA
    exact PySem.W.sorted_data (β := VP) (R := fun u x => RelV x.1 u) (enc := fun x => PV.toD x.2) pl.isList (each_rel rv) (each_reads I rv hd) al so (by rw [← List.length_map (f := (·.1))]; exact hz) depth fun out hl e => fin its rv hz out hl e
  · obtain ⟨its, rv, pl, hz⟩ := I.tuple hA
    exact sorted_dataT (β := VP) (R := fun u x => RelV x.1 u) (enc := fun x => PV.toD x.2) pl (each_rel rv) (each_reads I rv hd) al so (by rw [← List.length_map (f := (·.1))]; exact hz) depth fun out hl e => fin its rv hz out hl e
theorem zip_rep {H : Hp} {M : Addr → Prop} : ∀ {vs : List V} {xs : List PV}, RepAll G.toEn H M vs xs → (vs.zip xs).map (·.1) = vs ∧ (vs.zip xs).map (·.2) = xs ∧ ∀ z ∈ vs.zip xs, Rep G.toEn H M z.1 z.2
  | _, _, .nil => ⟨rfl, rfl, fun z h => by simp at h⟩
  | _, _, .cons h t => by
    obtain ⟨q1, q2, q3⟩ := zip_rep t
    refine ⟨by rw [List.zip_cons_cons, List.map_cons, q1], by rw [List.zip_cons_cons, List.map_cons, q2], fun z hz => ?_⟩
    rcases List.mem_cons.mp hz with rfl | hz
    · exact h
    · exact q3 z hz
theorem rep_zip {H : Hp} {M : Addr → Prop} : ∀ {zs : List VP}, (∀ z ∈ zs, Rep G.toEn H M z.1 z.2) → RepAll G.toEn H M (zs.map (·.1)) (zs.map (·.2))
  | [], _ => .nil
  | z :: zs, h => .cons (h z List.mem_cons_self) (rep_zip fun y hy => h y (List.mem_cons_of_mem _ hy))
theorem sort_map (zs : List VP) : (zs.mergeSort (PySem.W.dataLe false fun x : VP => PV.toD x.2)).map (·.2) = sortP (zs.map (·.2)) := by
  unfold sortP
  exact List.map_mergeSort fun a _ b _ => rfl
theorem l_sorted : LiftC G (rSortQ G.K) gSorted := fun e M σ H vs ps Q k S a g f => by
  have go : ∀ {xs : List PV} {b : Addr} {us : List V}, RepAll G.toEn H M us xs → Sortd xs → (SqL G.K H b us ∨ SqT G.K H b us) → k (.fr (.lst (sortP xs))) → rSortQ G.K [.ref b] H Q := fun {xs b us} r1 so sq kk => by
    obtain ⟨q1, q2, q3⟩ := zip_rep r1
    refine ⟨b, us.zip xs, rfl, by rw [q1]; exact sq, fun z hz => ?_, by rw [q2]; exact so, fun ys hy p hp => ?_⟩
    · refine (q3 z hz).dp ?_
      have := so.1
      rw [isDs_all] at this
      exact List.all_eq_true.mp this z.2 (by rw [← q2]; exact List.mem_map.mpr ⟨z, hz, rfl⟩)
    · have perm := List.mergeSort_perm (us.zip xs) (PySem.W.dataLe false fun x : VP => PV.toD x.2)
      rw [← hy] at perm
      have rr : RepAll G.toEn H M (ys.map (·.1)) (ys.map (·.2)) := rep_zip fun z hz => q3 z (perm.mem_iff.mp hz)
      have e2 : ys.map (·.2) = sortP xs := by rw [hy, sort_map, q2]
      rw [e2] at rr
      obtain ⟨S', st, rs⟩ := S.newLst hp rr
      exact f _ kk _ _ _ S' st rs
  unfold gSorted at g
  split at g
  · obtain ⟨v, rfl, b⟩ := acc1 a
    obtain ⟨a1, us, rfl, s1, r1⟩ := b.lst
    exact go r1 g.1 (.inl s1) g.2
  · obtain ⟨v, rfl, b⟩ := acc1 a
    obtain ⟨a1, us, rfl, s1, r1⟩ := b.tup
    exact go r1 g.1 (.inr s1) g.2
  · exact g.elim
theorem cr_sortQ' (g : Good G lv X) : CallR X (.builtin "sorted") (rSortQ G.K) := g.K ▸ cr_sortQ g.units
theorem q_sorted (g : Good G lv X) (hm : X.mg "sorted" = none) (ha : PA X (a :: es) (LB G qB)) (hg : Gl X "sorted" := by rfl) (he : starEach (a :: es) X.env = (false, eval a X.env) :: starEach es X.env := by rfl) (hpl : (backTo pos (starEach es X.env)).any (·.1) = false := by rfl) :
    PE X (.Call (.Name "sorted" p) (a :: es) [] pos) (LE G (qCB gSorted qB)) := q_cb (cr_sortQ' g) l_sorted hg hm (by decide +kernel) ha (by decide) (by decide) he hpl
/-! ### min, max of two; sum -/
def Alk (p q : PV) : Prop := PV.isD p = true ∧ PV.isD q = true ∧ PySem.W.AlikeAll [PV.toD p, PV.toD q] ∧ PyData.depthAll [PV.toD p, PV.toD q] ≤ 50
def gMin2 (ps : List PV) (k : QV → Prop) : Prop := match ps with
  | [.int i, .int j] => k (.sh (.int (if j < i then j else i)))
  | [p, q] => Alk p q ∧ k (.sh (if PySem.W.dataLt (PV.toD q) (PV.toD p) = true then q else p))
  | _ => False
def gMax2 (ps : List PV) (k : QV → Prop) : Prop := match ps with
  | [.int i, .int j] => k (.sh (.int (if i < j then j else i)))
  | [p, q] => Alk p q ∧ k (.sh (if PySem.W.dataLt (PV.toD p) (PV.toD q) = true then q else p))
  | _ => False
def rMin2Q (K : PySem.W.Frag) : List V → Hp → VK → Prop := fun vs H Q => ∃ v w d e, vs = [v, w] ∧ Dp K H v d ∧ Dp K H w e ∧ PySem.W.AlikeAll [d, e] ∧ PyData.depthAll [d, e] ≤ 50 ∧ Q (if PySem.W.dataLt e d = true then w else v) H
def rMax2Q (K : PySem.W.Frag) : List V → Hp → VK → Prop := fun vs H Q => ∃ v w d e, vs = [v, w] ∧ Dp K H v d ∧ Dp K H w e ∧ PySem.W.AlikeAll [d, e] ∧ PyData.depthAll [d, e] ≤ 50 ∧ Q (if PySem.W.dataLt d e = true then w else v) H
theorem cr_min2Q (hc : X.calm = true) (hu : X.A.units + 64 < cLine) : CallR X (.builtin "min") (rMin2Q X.K) := by
  intro pins s σ H xs us Q I r h
  obtain ⟨v, w, d, e, rfl, hd, he, al, dp, q⟩ := h
  obtain ⟨u1, u2, rfl, r1, r2⟩ := vals2 r
  obtain ⟨as, ra⟩ := Dp.reads I d _ u1 hd r1
  obtain ⟨bs, rb⟩ := Dp.reads I e _ u2 he r2
  refine min2_data (I.ok.hd hc) ra rb al (by omega) fun h' tk kp => ⟨_, H, I.kept (t' := tk) kp, ?_, q⟩
  cases PySem.W.dataLt e d
  · exact r1
  · exact r2
theorem cr_max2Q (hc : X.calm = true) (hu : X.A.units + 64 < cLine) : CallR X (.builtin "max") (rMax2Q X.K) := by
  intro pins s σ H xs us Q I r h
  obtain ⟨v, w, d, e, rfl, hd, he, al, dp, q⟩ := h
  obtain ⟨u1, u2, rfl, r1, r2⟩ := vals2 r
  obtain ⟨as, ra⟩ := Dp.reads I d _ u1 hd r1
  obtain ⟨bs, rb⟩ := Dp.reads I e _ u2 he r2
  refine max2_data (I.ok.hd hc) ra rb al (by omega) fun h' tk kp => ⟨_, H, I.kept (t' := tk) kp, ?_, q⟩
  cases PySem.W.dataLt d e
  · exact r1
  · exact r2
/-- kept arguments for a built-in -/
def qCA (g : List PV → (QV → Prop) → Prop) (q : QAs) : QE := fun e Q => q e fun ps e1 => g ps fun r => Q r e1
def LiftA (G : Gh) (r : List V → Hp → VK → Prop) (g : List PV → (QV → Prop) → Prop) : Prop := ∀ (e : PEnv) (M : Addr → Prop) (σ : L2.St) (H : Hp) (vs : List V) (ps : List PV) (Q : VK) (k : QV → Prop),
  StOk G e M σ H → RepAll G.toEn H M vs ps → g ps k → (∀ r, k r → Aft G σ H M Q r e) → r vs H Q
theorem ca_ok {r : List V → Hp → VK → Prop} {g : List PV → (QV → Prop) → Prop} (l : LiftA G r g) {σ : L2.St} {H : Hp} {Q : VK} (h : LE G (qCA g qA) σ H Q) : tCB r (LA G qA) σ H Q := by
  obtain ⟨e, M, K, S, q, f⟩ := h
  exact ⟨e, M, _, S, q, fun ps e1 k vs H1 M1 S1 s1 R => l e1 M1 σ H1 vs ps Q _ S1 R k fun r kr => (f r e1 kr).from s1⟩
theorem rep2 {H : Hp} {M : Addr → Prop} {vs : List V} {x y : PV} (h : RepAll G.toEn H M vs [x, y]) : ∃ v w, vs = [v, w] ∧ Rep G.toEn H M v x ∧ Rep G.toEn H M w y := by
  cases h with
  | cons h t =>
    cases t with
    | cons h2 t => cases t; exact ⟨_, _, rfl, h, h2⟩
theorem l_min2 : LiftA G (fun vs H Q => (∃ i j, vs = [.int i, .int j] ∧ Q (.int (if j < i then j else i)) H) ∨ rMin2Q G.K vs H Q) gMin2 := fun e M σ H vs ps Q k S a g f => by
  unfold gMin2 at g
  split at g
  · obtain ⟨v, w, rfl, h1, h2⟩ := rep2 a
    cases h1; cases h2
    exact .inl ⟨_, _, rfl, aft_sh S (f _ g) (.int _)⟩
  · obtain ⟨v, w, rfl, h1, h2⟩ := rep2 a
    refine .inr ⟨v, w, _, _, rfl, h1.dp g.1.1, h2.dp g.1.2.1, g.1.2.2.1, g.1.2.2.2, aft_sh S (f _ g.2) ?_⟩
    split
    · exact h2
    · exact h1
  · exact g.elim
theorem l_max2 : LiftA G (fun vs H Q => (∃ i j, vs = [.int i, .int j] ∧ Q (.int (if j > i then j else i)) H) ∨ rMax2Q G.K vs H Q) gMax2 := fun e M σ H vs ps Q k S a g f => by
  unfold gMax2 at g
  split at g
  · obtain ⟨v, w, rfl, h1, h2⟩ := rep2 a
    cases h1; cases h2
    exact .inl ⟨_, _, rfl, aft_sh S (f _ g) (.int _)⟩
  · obtain ⟨v, w, rfl, h1, h2⟩ := rep2 a
    refine .inr ⟨v, w, _, _, rfl, h1.dp g.1.1, h2.dp g.1.2.1, g.1.2.2.1, g.1.2.2.2, aft_sh S (f _ g.2) ?_⟩
    split
    · exact h2
    · exact h1
  · exact g.elim
theorem cr_min2W (g : Good G lv X) : CallR X (.builtin "min") (fun vs H Q => (∃ i j, vs = [.int i, .int j] ∧ Q (.int (if j < i then j else i)) H) ∨ rMin2Q G.K vs H Q) := g.K ▸ CallR.or (call_min2 g.calm) (cr_min2Q g.calm g.units)
theorem cr_max2W (g : Good G lv X) : CallR X (.builtin "max") (fun vs H Q => (∃ i j, vs = [.int i, .int j] ∧ Q (.int (if j > i then j else i)) H) ∨ rMax2Q G.K vs H Q) := g.K ▸ CallR.or (call_max2 g.calm) (cr_max2Q g.calm g.units)
theorem q_min2 (g : Good G lv X) (hm : X.mg "min" = none) (ha : PA X (a :: es) (LA G qA)) (hg : Gl X "min" := by rfl) (he : starEach (a :: es) X.env = (false, eval a X.env) :: starEach es X.env := by rfl) (hpl : (backTo pos (starEach es X.env)).any (·.1) = false := by rfl) :
    PE X (.Call (.Name "min" p) (a :: es) [] pos) (LE G (qCA gMin2 qA)) := PE.imp (pe_callB (cr_min2W g) hg hm (by decide +kernel) ha (by decide) (by decide) he hpl) fun _ _ _ => ca_ok l_min2
theorem q_max2 (g : Good G lv X) (hm : X.mg "max" = none) (ha : PA X (a :: es) (LA G qA)) (hg : Gl X "max" := by rfl) (he : starEach (a :: es) X.env = (false, eval a X.env) :: starEach es X.env := by rfl) (hpl : (backTo pos (starEach es X.env)).any (·.1) = false := by rfl) :
    PE X (.Call (.Name "max" p) (a :: es) [] pos) (LE G (qCA gMax2 qA)) := PE.imp (pe_callB (cr_max2W g) hg hm (by decide +kernel) ha (by decide) (by decide) he hpl) fun _ _ _ => ca_ok l_max2
def intsOf : List PV → Option (List Int)
  | [] => some []
  | .int i :: xs => (intsOf xs).map (i :: ·)
  | _ :: _ => none
theorem intsOf_map (ns : List Int) : intsOf (ns.map PV.int) = some ns := by
  induction ns with
  | nil => rfl
  | cons n ns ih => show (intsOf (ns.map PV.int)).map (n :: ·) = _; rw [ih]; rfl
theorem ints_rep {H : Hp} {M : Addr → Prop} : ∀ {vs : List V} {xs : List PV} {ns : List Int}, RepAll G.toEn H M vs xs → intsOf xs = some ns → vs = ns.map V.int
  | _, [], ns, r, h => by cases h; cases r; rfl
  | _, x :: xs, ns, r, h => by
    cases r with
    | cons r0 rt =>
      cases x with
      | int i =>
        cases r0
        have h : (intsOf xs).map (i :: ·) = some ns := h
        cases c : intsOf xs with
        | none => rw [c] at h; cases h
        | some ms => rw [c] at h; cases h; rw [ints_rep rt c]; rfl
      | _ => cases h
def gSum (ps : List PV) (k : QV → Prop) : Prop := match ps with
  | [.lst xs] => match intsOf xs with
    | some ns => k (.sh (.int ns.sum))
    | none => False
  | _ => False
theorem l_sum : LiftC G (rSum G.K) gSum := fun e M σ H vs ps Q k S a g f => by
  unfold gSum at g
  split at g
  · obtain ⟨v, rfl, b⟩ := acc1 a
    obtain ⟨a1, us, rfl, s1, r1⟩ := b.lst
    split at g
    · rename_i ns hn
      rw [ints_rep r1 hn] at s1
      exact ⟨a1, ns, rfl, s1, aft_sh S (f _ g) (.int _)⟩
    · exact g.elim
  · exact g.elim
theorem q_sum (g : Good G lv X) (hm : X.mg "sum" = none) (ha : PA X (a :: es) (LB G qB)) (hg : Gl X "sum" := by rfl) (he : starEach (a :: es) X.env = (false, eval a X.env) :: starEach es X.env := by rfl) (hpl : (backTo pos (starEach es X.env)).any (·.1) = false := by rfl) :
    PE X (.Call (.Name "sum" p) (a :: es) [] pos) (LE G (qCB gSum qB)) := q_cb (g.K ▸ cr_sum g.calm : CallR X (.builtin "sum") (rSum G.K)) l_sum hg hm (by decide +kernel) ha (by decide) (by decide) he hpl
def gAbs (ps : List PV) (k : QV → Prop) : Prop := match ps with
  | [.int i] => k (.sh (.int (if i < 0 then -i else i)))
  | _ => False
theorem q_abs (hm : X.mg "abs" = none) (ha : PA X (a :: es) (LB G qB)) (hg : Gl X "abs" := by rfl) (he : starEach (a :: es) X.env = (false, eval a X.env) :: starEach es X.env := by rfl) (hpl : (backTo pos (starEach es X.env)).any (·.1) = false := by rfl) :
    PE X (.Call (.Name "abs" p) (a :: es) [] pos) (LE G (qCB gAbs qB)) := q_cb call_abs (fun e M σ H vs ps Q k S a g f => by
      unfold gAbs at g
      split at g
      · obtain ⟨v, rfl, b⟩ := acc1 a
        rw [b.int]
        exact ⟨_, rfl, aft_sh S (f _ g) (.int _)⟩
      · exact g.elim) hg hm (by decide +kernel) ha (by decide) (by decide) he hpl
/-! ### all, any of a list of bools -/
def blsOf : List PV → Option (List Bool)
  | [] => some []
  | .bl i :: xs => (blsOf xs).map (i :: ·)
  | _ :: _ => none
theorem blsOf_map (ns : List Bool) : blsOf (ns.map PV.bl) = some ns := by
  induction ns with
  | nil => rfl
  | cons n ns ih => show (blsOf (ns.map PV.bl)).map (n :: ·) = _; rw [ih]; rfl
theorem bls_rep {H : Hp} {M : Addr → Prop} : ∀ {vs : List V} {xs : List PV} {ns : List Bool}, RepAll G.toEn H M vs xs → blsOf xs = some ns → vs = ns.map V.bl
  | _, [], ns, r, h => by cases h; cases r; rfl
  | _, x :: xs, ns, r, h => by
    cases r with
    | cons r0 rt =>
      cases x with
      | bl i =>
        cases r0
        have h : (blsOf xs).map (i :: ·) = some ns := h
        cases c : blsOf xs with
        | none => rw [c] at h; cases h
        | some ms => rw [c] at h; cases h; rw [bls_rep rt c]; rfl
      | _ => cases h
def gAllB (f : List Bool → Bool) (ps : List PV) (k : QV → Prop) : Prop := match ps with
  | [.lst xs] => match blsOf xs with
    | some ns => k (.sh (.bl (f ns)))
    | none => False
  | _ => False
theorem l_all : LiftC G (rAll G.K) (gAllB fun ns => ns.all _root_.id) := fun e M σ H vs ps Q k S a g f => by
  unfold gAllB at g
  split at g
  · obtain ⟨v, rfl, b⟩ := acc1 a
    obtain ⟨a1, us, rfl, s1, r1⟩ := b.lst
    split at g
    · rename_i ns hn
      rw [bls_rep r1 hn] at s1
      exact ⟨a1, ns, rfl, s1, aft_sh S (f _ g) (.bl _)⟩
    · exact g.elim
  · exact g.elim
theorem l_any : LiftC G (rAny G.K) (gAllB fun ns => ns.any _root_.id) := fun e M σ H vs ps Q k S a g f => by
  unfold gAllB at g
  split at g
  · obtain ⟨v, rfl, b⟩ := acc1 a
    obtain ⟨a1, us, rfl, s1, r1⟩ := b.lst
    split at g
    · rename_i ns hn
      rw [bls_rep r1 hn] at s1
      exact ⟨a1, ns, rfl, s1, aft_sh S (f _ g) (.bl _)⟩
    · exact g.elim
  · exact g.elim
theorem q_all (g : Good G lv X) (hm : X.mg "all" = none) (ha : PA X (a :: es) (LB G qB)) (hg : Gl X "all" := by rfl) (he : starEach (a :: es) X.env = (false, eval a X.env) :: starEach es X.env := by rfl) (hpl : (backTo pos (starEach es X.env)).any (·.1) = false := by rfl) :
    PE X (.Call (.Name "all" p) (a :: es) [] pos) (LE G (qCB (gAllB fun ns => ns.all _root_.id) qB)) := q_cb (g.K ▸ cr_all g.calm : CallR X (.builtin "all") (rAll G.K)) l_all hg hm (by decide +kernel) ha (by decide) (by decide) he hpl
theorem q_any (g : Good G lv X) (hm : X.mg "any" = none) (ha : PA X (a :: es) (LB G qB)) (hg : Gl X "any" := by rfl) (he : starEach (a :: es) X.env = (false, eval a X.env) :: starEach es X.env := by rfl) (hpl : (backTo pos (starEach es X.env)).any (·.1) = false := by rfl) :
    PE X (.Call (.Name "any" p) (a :: es) [] pos) (LE G (qCB (gAllB fun ns => ns.any _root_.id) qB)) := q_cb (g.K ▸ cr_any g.calm : CallR X (.builtin "any") (rAny G.K)) l_any hg hm (by decide +kernel) ha (by decide) (by decide) he hpl
/-! ### fields of an instance -/
def fieldP (f : Str) : List Str → List PV → Option PV
  | n :: ns, v :: vs => if f = n then some v else fieldP f ns vs
  | _, _ => none
theorem field_rep {H : Hp} {M : Addr → Prop} {f : Str} {x : PV} : ∀ {fs : List (Str × V)} {vs : List PV}, RepAll G.toEn H M (fs.map (·.2)) vs → fieldP f (fs.map (·.1)) vs = some x → ∃ v, fs.lookup f = some v ∧ Rep G.toEn H M v x
  | [], vs, r, h => by cases h
  | (n, w) :: fs, [], r, h => by cases r
  | (n, w) :: fs, y :: vs, r, h => by
    cases r with
    | cons r0 rt =>
      have h : (if f = n then some y else fieldP f (fs.map (·.1)) vs) = some x := h
      rw [List.lookup_cons]
      by_cases c : f = n
      · rw [if_pos c] at h; cases h
        subst c
        exact ⟨w, by simp, r0⟩
      · rw [if_neg c] at h
        obtain ⟨v, h1, h2⟩ := field_rep rt h
        have : (f == n) = false := beq_eq_false_iff_ne.mpr c
        rw [this]
        exact ⟨v, h1, h2⟩
def gFld (C : Addr) (f : Str) (p : PV) (k : QV → Prop) : Prop := match p with
  | .ins D ns vs => D = C ∧ withP (fieldP f ns vs) fun x => k (.sh x)
  | _ => False
theorem q_fld {C : Addr} {f : Str} (g : Good G lv X) (cl : Cls X.K C) (na : NoAttr X.K C f) (ha : PE X a (LE G qa)) (hb : attributeBase a f X.env (eval a X.env) = eval a X.env := by rfl) : PE X (.Attribute a f pos) (LE G (qUn (gFld C f) qa)) :=
  PE.imp (pe_fld ha hb) fun σ H Q ⟨e, M, K, S, q, fin⟩ => ⟨e, M, _, S, q, fun r e1 z v H1 M1 S1 s1 R => by
    obtain ⟨p, a1, z⟩ := withP_of z
    unfold gFld at z
    split at z
    · obtain ⟨ec, z1⟩ := z
      subst ec
      obtain ⟨x, hx, z2⟩ := withP_of z1
      obtain ⟨b, dx, fs, rfl, hb, rfl, rr⟩ := (Res.acc S1 R a1).ins
      obtain ⟨w, h1, h2⟩ := field_rep rr hx
      exact ⟨b, _, dx, fs, w, rfl, hb, cl, na, h1, aft_sh S1 ((fin _ e1 z2).from s1) h2⟩
    · exact z.elim⟩
/-! ### kinds -/
def tyN : PV → String
  | .non => "NoneType"
  | .bl _ => "bool"
  | .int _ => "int"
  | .str _ => "str"
  | .lst _ => "list"
  | .tup _ => "tuple"
  | .dic _ => "dict"
  | .set _ => "set"
  | _ => ""
def isaB (t n : String) : Bool := t == n || (t == "bool" && n == "int")
theorem isa_ok {t n : String} (ht : t ∈ ["NoneType", "bool", "int", "str", "list", "tuple", "dict"]) (hn : n ∈ ["int", "str", "list", "tuple", "dict", "bool"]) : kitB t n = some (isaB t n) := by
  have all : ∀ t ∈ ["NoneType", "bool", "int", "str", "list", "tuple", "dict"], ∀ n ∈ ["int", "str", "list", "tuple", "dict", "bool"], kitB t n = some (isaB t n) := by decide +kernel
  exact all t ht n hn
/-- of what kind it is, told (dicts with tuples as keys are left out) -/
def tyOk (p : PV) : Prop := match p with
  | .non => True
  | .bl _ => True
  | .int _ => True
  | .str _ => True
  | .lst _ => True
  | .tup _ => True
  | _ => False
theorem ty_of {H : Hp} {M : Addr → Prop} {v : V} {p : PV} (h : Acc G.toEn H M v p) (t : tyOk p) : TyX G.K H v (.type (tyN p)) ∧ tyN p ∈ ["NoneType", "bool", "int", "str", "list", "tuple", "dict"] := by
  cases p with
  | non => rw [h.non]; exact ⟨.base .non, by simp [tyN]⟩
  | bl b => rw [h.bl]; exact ⟨.base (.bl b), by simp [tyN]⟩
  | int b => rw [h.int]; exact ⟨.base (.int b), by simp [tyN]⟩
  | str b => rw [h.str]; exact ⟨.base (.str b), by simp [tyN]⟩
  | lst xs =>
    obtain ⟨a, vs, rfl, s, _⟩ := h.lst
    refine ⟨?_, by simp [tyN]⟩
    rcases s with (s | ⟨o, s⟩) | ⟨o, its, n, s, c, _⟩
    · exact .base (.lst s)
    · exact .base (.frz s)
    · exact .kList s c
  | tup xs =>
    obtain ⟨a, vs, rfl, s, _⟩ := h.tup
    refine ⟨?_, by simp [tyN]⟩
    rcases s with (s | ⟨o, s⟩) | ⟨o, its, n, s, c, _⟩
    · exact .base (.tup s)
    · exact .fTuple s
    · exact .kTuple s c
  | _ => exact t.elim
def gIsa (ps : List PV) (k : QV → Prop) : Prop := match ps with
  | [p, .ty n] => tyOk p ∧ n ∈ ["int", "str", "list", "tuple", "dict", "bool"] ∧ k (.sh (.bl (isaB (tyN p) n)))
  | [p, .tup [.ty n, .ty m]] => tyOk p ∧ (n ∈ ["int", "str", "list", "tuple", "dict", "bool"] ∧ m ∈ ["int", "str", "list", "tuple", "dict", "bool"]) ∧ k (.sh (.bl (isaB (tyN p) n || isaB (tyN p) m)))
  | _ => False
theorem l_isa : LiftC G (fun xs H Q => rIsi G.K xs H Q ∨ rIsiT G.K xs H Q) gIsa := fun e M σ H vs ps Q k S a g f => by
  unfold gIsa at g
  split at g
  · obtain ⟨v, w, rfl, b, c⟩ := acc2 a
    have ew : ∀ {w : V} {n : String}, Acc G.toEn H M w (.ty n) → w = .ty n := fun {w n} c => by
      rcases c with c | ⟨_, rfl, c⟩
      · cases c; rfl
      · exact c.elim
    rw [ew c]
    obtain ⟨t1, t2⟩ := ty_of b g.1
    exact .inl ⟨v, _, _, _, _, rfl, .ty _, t1, kit_ty (isa_ok t2 g.2.1), aft_sh S (f _ g.2.2) (.bl _)⟩
  · obtain ⟨v, w, rfl, b, c⟩ := acc2 a
    obtain ⟨a1, us, rfl, s1, r1⟩ := c.tupH
    obtain ⟨x, y, rfl, q1, q2⟩ := rep2 r1
    cases q1; cases q2
    obtain ⟨t1, t2⟩ := ty_of b g.1
    have k1 := isa_ok t2 g.2.1.1
    have k2 := isa_ok t2 g.2.1.2
    refine .inr ⟨v, a1, _, _, _, _, rfl, s1, .cons (.ty _) (.cons (.ty _) .nil), t1, ?_, aft_sh S (f _ g.2.2) (.bl _)⟩
    refine kitAny_cons (kit_ty k1) (fun z => ?_) (fun z => by rw [z]; rfl)
    rw [z, Bool.false_or]
    exact kitAny_cons (kit_ty k2) (fun z => by rw [z]; rfl) (fun z => z)
  · exact g.elim
theorem q_isa (g : Good G lv X) (hm : X.mg "isinstance" = none) (ha : PA X (a :: es) (LB G qB)) (hg : Gl X "isinstance" := by rfl) (he : starEach (a :: es) X.env = (false, eval a X.env) :: starEach es X.env := by rfl) (hpl : (backTo pos (starEach es X.env)).any (·.1) = false := by rfl) :
    PE X (.Call (.Name "isinstance" p) (a :: es) [] pos) (LE G (qCB gIsa qB)) := q_cb (g.K ▸ CallR.or call_isi call_isiT : CallR X (.builtin "isinstance") (fun xs H Q => rIsi G.K xs H Q ∨ rIsiT G.K xs H Q)) l_isa hg hm (by decide +kernel) ha (by decide) (by decide) he hpl
/-- a built-in type, as a value -/
theorem q_ty {x : Str} {n : String} (hg : Gl X x) (hm : X.mg x = none) (hv : bootBuiltins x = some (.type n)) (hn : x ≠ "__name__" := by decide) (hd : (x == ("__debug__" : Str)) = false := by decide) : PE X (.Name x pos) (LE G (qC (.ty n))) := PE.imp (pe_bltn (v := .ty n) hg hm hv rfl hn hd) fun _ _ _ h => c_ok (fun _ _ => .ty n) h
end
end CP
/-! Dicts: their keys whole numbers and texts, or tuples of such. -/
namespace CP
open PySem PySem.Spec PyProof.Rows L2
/-! ### keys over the layer -/
mutual
inductive KH (H : Hp) : V → NestedKey → Prop
  | non : KH H .non .none
  | bl (b : Bool) : KH H (.bl b) (.num (if b = true then 1 else 0))
  | int (i : Int) : KH H (.int i) (.num i)
  | str (x : Str) : KH H (.str x) (.text x)
  | tup {a : Addr} {vs : List V} {ks : List NestedKey} : H a = some (.tup vs) → KHs H vs ks → KH H (.ref a) (.tup ks)
inductive KHs (H : Hp) : List V → List NestedKey → Prop
  | nil : KHs H [] []
  | cons {v : V} {vs : List V} {k : NestedKey} {ks : List NestedKey} : KH H v k → KHs H vs ks → KHs H (v :: vs) (k :: ks)
end
section
variable {G : En} {H : Hp} {M : Addr → Prop}
mutual
theorem Rep.kh : ∀ {v : V} {p : PV}, Rep G H M v p → PV.kOk p = true → KH H v (PV.nk p)
  | _, _, .non, _ => .non
  | _, _, .bl b, _ => .bl b
  | _, _, .int i, _ => .int i
  | _, _, .str x, _ => .str x
  | _, _, .tup s r, h => .tup s.1 (RepAll.khs r h)
  | _, _, .ty _, h => by cases h
  | _, _, .cls _, h => by cases h
  | _, _, .scr _ _, h => by cases h
  | _, _, .lst _ _, h => by cases h
  | _, _, .dicK _ _ _ _, h => by cases h
  | _, _, .dicG _ _ _ _ _ _, h => by cases h
  | _, _, .ins _ _ _ _, h => by cases h
theorem RepAll.khs : ∀ {vs : List V} {xs : List PV}, RepAll G H M vs xs → PV.kOks xs = true → KHs H vs (PV.nks xs)
  | _, _, .nil, _ => .nil
  | _, _, .cons h r, k => .cons (Rep.kh h (Bool.and_eq_true_iff.mp k).1) (RepAll.khs r (Bool.and_eq_true_iff.mp k).2)
end
end
section
variable {X : Cx} {pins : List (Addr × PySem.Obj)} {σ : L2.St} {H : Hp} {s : Shared}
mutual
theorem KH.is (I : L2.Inv X pins σ H s) : ∀ {v : V} {k : NestedKey} {u : Value}, KH H v k → RelV v u → NestedIs s.heap k u
  | _, _, _, .non, r => by cases r; exact .none
  | _, _, _, .bl b, r => by cases r; exact .bool rfl
  | _, _, _, .int i, r => by obtain ⟨t, rfl⟩ := r; exact .int _ _
  | _, _, _, .str x, r => by obtain ⟨t, rfl⟩ := r; exact .text _ _
  | _, _, _, .tup h ks, r => by
    cases r
    obtain ⟨its, rv, ⟨o, ho, hc, n, hd⟩, _⟩ := I.tuple (SqT.of h)
    exact .tup ho hc hd (by simpa using KHs.is I ks rv)
theorem KHs.is (I : L2.Inv X pins σ H s) : ∀ {vs : List V} {ks : List NestedKey} {us : List Value}, KHs H vs ks → Vals vs us → NestedAll s.heap ks us
  | _, _, _, .nil, r => by cases r; exact .nil
  | _, _, _, .cons h t, r => by
    cases r with
    | cons r0 rt => exact .cons (KH.is I h r0) (KHs.is I t rt)
end
end
/-! ### the content of a dict whose keys are tuples -/
def valG (c : CnG) (k : NestedKey) : Option V := (c.find? fun x => decide (x.1 = k)).map (·.2.2)
def putG (c : CnG) (k : NestedKey) (b : Addr) (v : V) : CnG := if (valG c k).isSome = true then c.map (fun x => if x.1 = k then (x.1, x.2.1, v) else x) else c ++ [(k, b, v)]
def delG (c : CnG) (k : NestedKey) : CnG := c.filter fun x => decide (x.1 ≠ k)
theorem valG_cons (x : NestedKey × Addr × V) (c : CnG) (k : NestedKey) : valG (x :: c) k = if x.1 = k then some x.2.2 else valG c k := by
  unfold valG
  by_cases h : x.1 = k <;> simp [List.find?_cons, h]
theorem likeG_at {k : NestedKey} : ∀ {c : CnG} {us : List (NestedKey × Addr × Value)}, Paired LikeG c us → (valG c k = none ∧ atKey us k = none) ∨ ∃ v p, valG c k = some v ∧ atKey us k = some p ∧ RelV v p.2
  | _, _, .nil => .inl ⟨rfl, rfl⟩
  | _, _, .cons (a := x) (b := u) (l₂ := us) h t => by
    rw [valG_cons]
    have e : atKey (u :: us) k = if u.1 = k then some u.2 else atKey us k := by
      unfold atKey
      by_cases q : u.1 = k <;> simp [List.find?_cons, q]
    rw [e, h.1]
    by_cases q : x.1 = k
    · rw [if_pos q, if_pos q]; exact .inr ⟨_, _, rfl, rfl, h.2.2⟩
    · rw [if_neg q, if_neg q]; exact likeG_at t
theorem likeG_map {k : NestedKey} {v : V} {u : Value} (rv : RelV v u) : ∀ {c : CnG} {us : List (NestedKey × Addr × Value)}, Paired LikeG c us → Paired LikeG (c.map fun x => if x.1 = k then (x.1, x.2.1, v) else x) (us.map (putAt k u))
  | _, _, .nil => .nil
  | _, _, .cons (a := x) (b := y) h t => by
    refine .cons ?_ (likeG_map rv t)
    show LikeG (if x.1 = k then (x.1, x.2.1, v) else x) (if y.1 = k then (y.1, y.2.1, u) else y)
    rw [h.1]
    by_cases q : x.1 = k
    · rw [if_pos q, if_pos q]; exact ⟨rfl, h.2.1, rv⟩
    · rw [if_neg q, if_neg q]; exact h
theorem likeG_put {k : NestedKey} {b : Addr} {v : V} {u : Value} (rv : RelV v u) {c : CnG} {us : List (NestedKey × Addr × Value)} (h : Paired LikeG c us) : Paired LikeG (putG c k b v) (storedH us k b u) := by
  unfold putG
  rcases likeG_at (k := k) h with ⟨e1, e2⟩ | ⟨v0, p, e1, e2, _⟩
  · rw [e1, storedH_new e2, if_neg (by decide)]
    exact h.snoc ⟨rfl, rfl, rv⟩
  · rw [e1, storedH_old e2, if_pos (by rfl)]
    exact likeG_map rv h
theorem likeG_del {k : NestedKey} : ∀ {c : CnG} {us : List (NestedKey × Addr × Value)}, Paired LikeG c us → Paired LikeG (delG c k) (withoutH us k)
  | _, _, .nil => .nil
  | _, _, .cons (a := x) (b := y) h t => by
    have ih := likeG_del (k := k) t
    unfold delG withoutH at ih ⊢
    rw [List.filter_cons, List.filter_cons, h.1]
    by_cases q : x.1 = k
    · rw [if_neg (by simp [q]), if_neg (by simp [q])]; exact ih
    · rw [if_pos (by simp [q]), if_pos (by simp [q])]; exact .cons h ih
/-! ### what may be read as the one, as the other -/
def DKv (P : Program) (w : World) (H : Hp) (d : Addr) (kvs : List (Key × V)) : Prop := Rd H d (.dK kvs) ∨ (kvs = [] ∧ Rd H d (DctG P w d []))
def KeysG (H : Hp) (c : CnG) : Prop := ∀ x ∈ c, KH H (.ref x.2.1) x.1 ∧ x.1.depth ≤ 8
def DGv (P : Program) (w : World) (H : Hp) (d : Addr) (c : CnG) : Prop := (Rd H d (DctG P w d c) ∧ KeysG H c) ∨ (c = [] ∧ Rd H d (.dK []))
section
variable {X : Cx} {pins : List (Addr × PySem.Obj)} {σ : L2.St} {H : Hp} {s : Shared}
theorem none_of {κ : Type} {xs : List κ} {n : Nat} (h : xs.length = n) (z : n = 0) : xs = [] := List.length_eq_zero_iff.mp (h.trans z)
theorem dkv_get {d : Addr} {kvs : List (Key × V)} (I : L2.Inv X pins σ H s) (h : DKv X.prog X.w H d kvs) : kvs.length ≤ sizeLine ∧ (d == sysModules) = false ∧ ∃ vs, KV kvs vs ∧ s.heap.DictOf (mixKind X.prog X.w) d vs := by
  rcases h with h | ⟨rfl, h⟩
  · exact dk_rd I.hok h
  · obtain ⟨⟨sy, o, es, ep, us, h1, h2, h3, h4, h5, h6⟩, _⟩ := h.ok I.hok
    have e0 : es = #[] := by
      cases h6
      exact Array.toList_eq_nil_iff.mp h4
    subst e0
    exact ⟨Nat.zero_le _, sy, [], .nil, o, _, ep, h1, h2, h3, (fun e he => by simp at he), .nil, List.nodup_nil⟩
theorem dgv_get {d : Addr} {c : CnG} (I : L2.Inv X pins σ H s) (h : DGv X.prog X.w H d c) : (d == sysModules) = false ∧ ∃ us, s.heap.DictOfH (nestedKind X.prog X.w) d us ∧ Paired LikeG c us := by
  rcases h with ⟨h, hk⟩ | ⟨rfl, h⟩
  · obtain ⟨⟨sy, o, es, ep, us, h1, h2, h3, h4, h5, h6⟩, _⟩ := h.ok I.hok
    have all : ∀ {c : CnG} {us : List (NestedKey × Addr × Value)}, Paired LikeG c us → KeysG H c → ∀ u ∈ us, (nestedKind X.prog X.w).is s.heap u.1 u.2.1 := by
      intro c us p
      induction p with
      | nil => intro _ u hu; cases hu
      | @cons x u xs us l _ ih =>
        intro h y hy
        rcases List.mem_cons.mp hy with rfl | hy
        · obtain ⟨q, qd⟩ := h x List.mem_cons_self
          rw [l.1, l.2.1]
          exact ⟨q.is I rfl, qd⟩
        · exact ih (fun z hz => h z (List.mem_cons_of_mem _ hz)) y hy
    exact ⟨sy, us, ⟨o, es, ep, h1, h2, h3, h4, all h6 hk, h5⟩, h6⟩
  · obtain ⟨_, sy, vs, kv, o, es, ep, h1, h2, h3, h4, h5, h6⟩ := dk_rd I.hok h
    cases kv
    have e0 : es = #[] := by
      generalize hl : es.toList = l at h5
      cases h5
      exact Array.toList_eq_nil_iff.mp hl
    subst e0
    exact ⟨sy, [], ⟨o, _, ep, h1, h2, h3, rfl, fun y hy => (nomatch hy), List.nodup_nil⟩, .nil⟩
/-! ### d[k], k in d -/
def rGetD (P : Program) (w : World) : R2 := fun x y H Q => ∃ d, x = V.ref d ∧ ((∃ kvs k v, DKv P w H d kvs ∧ y = kV k ∧ valV kvs k = some v ∧ Q v H) ∨ ∃ c b k v, DGv P w H d c ∧ y = V.ref b ∧ KH H y k ∧ k.depth ≤ 8 ∧ valG c k = some v ∧ Q v H)
def rInD (P : Program) (w : World) (f : Bool → Bool) : R2 := fun y x H Q => ∃ d, x = V.ref d ∧ ((∃ kvs k, DKv P w H d kvs ∧ y = kV k ∧ Q (.bl (f (valV kvs k).isSome)) H) ∨ ∃ c b k, DGv P w H d c ∧ y = V.ref b ∧ KH H y k ∧ k.depth ≤ 8 ∧ Q (.bl (f (valG c k).isSome)) H)
theorem ix_D (hu : X.A.units + 64 < cLine) : IxR X (rGetD X.prog X.w) := by
  intro value slice pins s σ H x y v u Q I rx ry h hs
  obtain ⟨d, rfl, h⟩ := h
  cases rx
  rcases h with ⟨kvs, k, z, hd, rfl, e, q⟩ | ⟨c, b, k, z, hd, rfl, hk, dp, e, q⟩
  · obtain ⟨_, sy, vs, rel, dd⟩ := dkv_get I hd
    obtain ⟨w', hw, rw'⟩ := RelO.some_of (v := z) (o := valueAt vs k) (by rw [← e]; exact rel.val k)
    exact tail_any dd.typeIs slot_dict_getitem.lookup (wpAny_getItem_of (kV_is ry) dd.mapOf hw ⟨z, H, I.tok _, rw', q⟩) hs
  · obtain ⟨sy, us, dd, rel⟩ := dgv_get I hd
    cases ry
    rcases likeG_at (k := k) rel with ⟨e1, _⟩ | ⟨v0, p, e1, e2, rv⟩
    · rw [e] at e1; cases e1
    · rw [e] at e1; cases e1
      exact tail_any dd.typeIs slot_dict_getitem.lookup (wpAny_getItem_heap (knd := nestedKind X.prog X.w) (by show _ + 8 < cLine; simp; omega) ⟨hk.is I rfl, dp⟩ dd e2 ⟨z, H, I.tok _, rv, q⟩) hs
theorem op_inD (hu : X.A.units + 64 < cLine) : OpR X (compareOp .In) (rInD X.prog X.w fun b => b) := by
  intro pins s σ H y x v u Q I ry rx h
  obtain ⟨d, rfl, h⟩ := h
  cases rx
  rcases h with ⟨kvs, k, hd, rfl, q⟩ | ⟨c, b, k, hd, rfl, hk, dp, q⟩
  · obtain ⟨_, sy, vs, rel, dd⟩ := dkv_get I hd
    refine wpAny_in_of (kV_is ry) sy dd.mapOf ?_
    rw [← (rel.val k).isSome_eq]
    exact ⟨.bl _, H, I.tok _, rfl, q⟩
  · obtain ⟨sy, us, dd, rel⟩ := dgv_get I hd
    cases ry
    refine wpAny_in_heap (knd := nestedKind X.prog X.w) (by show _ + 8 < cLine; simp; omega) ⟨hk.is I rfl, dp⟩ sy dd ⟨.bl _, H, I.tok _, ?_, q⟩
    rcases likeG_at (k := k) rel with ⟨e1, e2⟩ | ⟨v0, p, e1, e2, rv⟩ <;> (rw [e1, e2]; rfl)
theorem op_notInD (hu : X.A.units + 64 < cLine) : OpR X (compareOp .NotIn) (rInD X.prog X.w fun b => !b) := by
  intro pins s σ H y x v u Q I ry rx h
  obtain ⟨d, rfl, h⟩ := h
  cases rx
  rcases h with ⟨kvs, k, hd, rfl, q⟩ | ⟨c, b, k, hd, rfl, hk, dp, q⟩
  · obtain ⟨_, sy, vs, rel, dd⟩ := dkv_get I hd
    refine wpAny_notIn_of (kV_is ry) sy dd.mapOf ?_
    rw [← (rel.val k).isSome_eq]
    exact ⟨.bl _, H, I.tok _, rfl, q⟩
  · obtain ⟨sy, us, dd, rel⟩ := dgv_get I hd
    cases ry
    refine wpAny_notIn_heap (knd := nestedKind X.prog X.w) (by show _ + 8 < cLine; simp; omega) ⟨hk.is I rfl, dp⟩ sy dd ⟨.bl _, H, I.tok _, ?_, q⟩
    rcases likeG_at (k := k) rel with ⟨e1, e2⟩ | ⟨v0, p, e1, e2, rv⟩ <;> (rw [e1, e2]; rfl)
/-! ### d[k] = v, d.pop(k) -/
def rPutD (P : Program) (w : World) : TSet := fun o i v H Q => ∃ d, o = V.ref d ∧ ((∃ kvs k, (H d = some (.dK kvs) ∨ (kvs = [] ∧ H d = some (DctG P w d []))) ∧ i = kV k ∧ kvs.length < sizeLine ∧ Q (L2.upd H d (.dK (putK kvs k v)))) ∨
  ∃ c b k, ((H d = some (DctG P w d c) ∧ KeysG H c) ∨ (c = [] ∧ H d = some (.dK []))) ∧ i = V.ref b ∧ KH H i k ∧ k.depth ≤ 8 ∧ c.length < sizeLine ∧ Q (L2.upd H d (DctG P w d (putG c k b v))))
theorem dctGI_of {P : Program} {w : World} {d : Addr} {c : CnG} {us : List (NestedKey × Addr × Value)} {h' : Heap} (sy : (d == sysModules) = false) (D : h'.DictOfH (nestedKind P w) d us) (l : Paired LikeG c us) : DctGI P w d c h' := by
  obtain ⟨o', es', ep', g1, g2, g3, g4, _, g6⟩ := D
  exact ⟨sy, o', es', ep', _, g1, g2, g3, g4, g6, l⟩
theorem set_D (hu : X.A.units + 64 < cLine) : PSet X (rPutD X.prog X.w) := by
  intro pins s σ H o i v ov iv u Q I ro ri rv h
  obtain ⟨d, rfl, h⟩ := h
  cases ro
  rcases h with ⟨kvs, k, hd, rfl, few, q⟩ | ⟨c, b, k, hd, rfl, hk, dp, few, q⟩
  · have hm : Mut (H d) := by rcases hd with hd | ⟨_, hd⟩ <;> (rw [hd]; exact True.intro)
    obtain ⟨_, sy, vs, rel, dd⟩ := dkv_get I (hd.imp Rd.of fun z => ⟨z.1, Rd.of z.2⟩)
    have hz : vs.length ≤ sizeLine := by rw [← rel.length]; omega
    have hl : (putK kvs k v).length ≤ sizeLine := by have := length_putK kvs k v; omega
    refine wpAny_setItem_pairs (hsz := hz) (kV_is ri) dd fun h' dd' hs => ⟨_, ?_, q⟩
    have he : ∃ q, h'.get? d = some q := let ⟨q, _, _, hq, _⟩ := dd'; ⟨q, hq⟩
    exact d_write I hm hs he (dk_new hl sy (rel.put k rv) dd')
  · have hm : Mut (H d) := by rcases hd with ⟨hd, _⟩ | ⟨_, hd⟩ <;> (rw [hd]; exact True.intro)
    obtain ⟨sy, us, dd, rel⟩ := dgv_get I (hd.imp (fun z => ⟨Rd.of z.1, z.2⟩) fun z => ⟨z.1, Rd.of z.2⟩)
    cases ri
    have le := Paired.length rel
    refine wpAny_setItem_heap (knd := nestedKind X.prog X.w) (hsz := by omega) (by show _ + 8 < cLine; simp; omega) ⟨hk.is I rfl, dp⟩ dd fun h' D' sb => ⟨_, ?_, q⟩
    have he : ∃ q, h'.get? d = some q := let ⟨q, _, _, hq, _⟩ := D'; ⟨q, hq⟩
    exact d_write I hm sb he (dctG_ok (dctGI_of sy D' (likeG_put rv rel)))
def rPopD (P : Program) (w : World) : V → List V → Hp → VK → Prop := fun x vs H Q => ∃ d, x = V.ref d ∧ ((∃ kvs k v, H d = some (.dK kvs) ∧ vs = [kV k] ∧ valV kvs k = some v ∧ Q v (L2.upd H d (.dK (dropK kvs k)))) ∨
  ∃ c b k v, H d = some (DctG P w d c) ∧ KeysG H c ∧ vs = [V.ref b] ∧ KH H (.ref b) k ∧ k.depth ≤ 8 ∧ c.length ≤ sizeLine ∧ valG c k = some v ∧ Q v (L2.upd H d (DctG P w d (delG c k))))
theorem mt_popD (hu : X.A.units + 64 < cLine) : MtR X "dict.pop" (rPopD X.prog X.w) := by
  intro pins s σ H x vs v us Q I rx rv h
  obtain ⟨d, rfl, h⟩ := h
  cases rx
  rcases h with ⟨kvs, k, z, hd, rfl, e, q⟩ | ⟨c, b, k, z, hd, hks, rfl, hk, dp, few, e, q⟩
  · obtain ⟨u, rfl, ru⟩ := rv.one
    exact d_pop I hd ru e (.inl rfl) fun w' s' I' r' => ⟨z, _, I', r', q⟩
  · obtain ⟨u, rfl, ru⟩ := rv.one
    cases ru
    obtain ⟨sy, us, dd, rel⟩ := dgv_get I (.inl ⟨Rd.of hd, hks⟩)
    have le := Paired.length rel
    rcases likeG_at (k := k) rel with ⟨e1, _⟩ | ⟨v0, p, e1, e2, rv⟩
    · rw [e] at e1; cases e1
    · rw [e] at e1; cases e1
      refine call_pop_heap (knd := nestedKind X.prog X.w) (hsz := by omega) (.inl rfl) (PySem.F.args_dict_pop_2 _ _) (by show _ + 8 < cLine; simp; omega) ⟨hk.is I rfl, dp⟩ sy dd e2 fun h' D' sb => ⟨z, _, ?_, rv, q⟩
      have he : ∃ q, h'.get? d = some q := let ⟨q, _, _, hq, _⟩ := D'; ⟨q, hq⟩
      exact d_write I (by rw [hd]; exact True.intro) sb he (dctG_ok (dctGI_of sy D' (likeG_del rel)))
/-! ### len(d) -/
def rLenD (P : Program) (w : World) : List V → Hp → VK → Prop := fun vs H Q => ∃ d, vs = [V.ref d] ∧ ((∃ kvs, Rd H d (.dK kvs) ∧ Q (.int kvs.length) H) ∨ ∃ c, Rd H d (DctG P w d c) ∧ KeysG H c ∧ c.length ≤ sizeLine ∧ Q (.int c.length) H)
end
end CP
/-! Dicts as values. -/
namespace CP
open PySem PySem.Spec PyProof.Rows L2
/-! ### lookups by keys -/
def pget (ps : List (PV × PV)) (k : PV) : Option PV := (ps.find? fun p => decide (PV.nk p.1 = PV.nk k)).map (·.2)
def pput (ps : List (PV × PV)) (k x : PV) : List (PV × PV) := if (pget ps k).isSome = true then ps.map (fun p => if PV.nk p.1 = PV.nk k then (p.1, x) else p) else ps ++ [(k, x)]
def pdel (ps : List (PV × PV)) (k : PV) : List (PV × PV) := ps.filter fun p => decide (PV.nk p.1 ≠ PV.nk k)
theorem pget_nil {k : PV} : pget [] k = none := rfl
theorem pget_cons (p : PV × PV) (ps : List (PV × PV)) (k : PV) : pget (p :: ps) k = if PV.nk p.1 = PV.nk k then some p.2 else pget ps k := by
  unfold pget
  by_cases h : PV.nk p.1 = PV.nk k <;> simp [List.find?_cons, h]
theorem pget_congr {ps : List (PV × PV)} {k j : PV} (h : PV.nk k = PV.nk j) : pget ps k = pget ps j := by unfold pget; rw [h]
theorem pget_snoc (k j x : PV) : ∀ ps : List (PV × PV), pget ps k = none → pget (ps ++ [(k, x)]) j = if PV.nk j = PV.nk k then some x else pget ps j
  | [], _ => by
    show pget [(k, x)] j = _
    rw [pget_cons]
    by_cases c : PV.nk j = PV.nk k
    · rw [if_pos c, if_pos c.symm]
    · rw [if_neg c, if_neg (fun z => c z.symm)]
  | p :: ps, h => by
    rw [pget_cons] at h
    by_cases c : PV.nk p.1 = PV.nk k
    · rw [if_pos c] at h; cases h
    · rw [if_neg c] at h
      rw [List.cons_append, pget_cons, pget_snoc k j x ps h, pget_cons]
      by_cases d : PV.nk j = PV.nk k
      · have : ¬ PV.nk p.1 = PV.nk j := fun z => c (z.trans d)
        simp [d, c]
      · simp [d]
theorem pget_map (k j x : PV) : ∀ ps : List (PV × PV), pget (ps.map fun p => if PV.nk p.1 = PV.nk k then (p.1, x) else p) j = if PV.nk j = PV.nk k then (pget ps k).map (fun _ => x) else pget ps j
  | [] => by by_cases c : PV.nk j = PV.nk k <;> simp [pget, c]
  | p :: ps => by
    rw [List.map_cons, pget_cons, pget_map k j x ps, pget_cons, pget_cons]
    by_cases c : PV.nk p.1 = PV.nk k
    · by_cases d : PV.nk j = PV.nk k
      · simp [c, d]
      · have : ¬ PV.nk k = PV.nk j := fun z => d z.symm
        simp [c, d, this]
    · by_cases d : PV.nk j = PV.nk k
      · have : ¬ PV.nk p.1 = PV.nk j := fun z => c (z.trans d)
        simp [c, d]
      · simp [c, d]
theorem pget_put (ps : List (PV × PV)) (k j x : PV) : pget (pput ps k x) j = if PV.nk j = PV.nk k then some x else pget ps j := by
  unfold pput
  cases e : pget ps k with
  | none => rw [if_neg (by decide)]; exact pget_snoc k j x ps e
  | some v0 => rw [if_pos (by rfl), pget_map, e]; rfl
theorem pget_del (ps : List (PV × PV)) (k j : PV) : pget (pdel ps k) j = if PV.nk j = PV.nk k then none else pget ps j := by
  induction ps with
  | nil => by_cases c : PV.nk j = PV.nk k <;> simp [pget, pdel, c]
  | cons p ps ih =>
    unfold pdel at ih ⊢
    rw [List.filter_cons]
    by_cases c : PV.nk p.1 = PV.nk k
    · rw [if_neg (by simp [c]), ih, pget_cons]
      by_cases d : PV.nk j = PV.nk k
      · rw [if_pos d, if_pos d]
      · rw [if_neg d, if_neg d, if_neg (fun z => d (z.symm.trans c))]
    · rw [if_pos (by simp [c]), pget_cons, ih, pget_cons]
      by_cases d : PV.nk j = PV.nk k
      · rw [if_pos d, if_pos d, if_neg (fun z => c (z.trans d))]
      · rw [if_neg d, if_neg d]
theorem pput_len (ps : List (PV × PV)) (k x : PV) : (pput ps k x).length ≤ ps.length + 1 := by
  unfold pput; split
  · rw [List.length_map]; omega
  · rw [List.length_append]; simp
/-- of which family a key is -/
def isT : PV → Bool
  | .tup _ => true
  | _ => false
def keyA : PV → Bool
  | .int _ => true
  | .str _ => true
  | p => PV.keyB p
/-- the keys are of the family of k -/
def famB (ps : List (PV × PV)) (k : PV) : Bool := ps.all fun q => isT q.1 == isT k
theorem keyB_tup {p : PV} (h : PV.keyB p = true) : (∃ xs, p = .tup xs) ∧ PV.kOk p = true ∧ (PV.nk p).depth ≤ 8 := by
  unfold PV.keyB at h
  rw [Bool.and_eq_true_iff, Bool.and_eq_true_iff] at h
  obtain ⟨⟨h1, h2⟩, h3⟩ := h
  refine ⟨?_, h1, of_decide_eq_true h2⟩
  split at h3
  · exact ⟨_, rfl⟩
  · cases h3
theorem keyA_cases {p : PV} (h : keyA p = true) : (∃ k : Key, p = keyP k ∧ isT p = false) ∨ (PV.keyB p = true ∧ isT p = true) := by
  cases p with
  | int i => exact .inl ⟨.inl i, rfl, rfl⟩
  | str x => exact .inl ⟨.inr x, rfl, rfl⟩
  | tup xs => exact .inr ⟨h, rfl⟩
  | _ => exact absurd (keyB_tup h).1 (by rintro ⟨xs, z⟩; cases z)
theorem nk_keyP {k j : Key} (h : PV.nk (keyP k) = PV.nk (keyP j)) : k = j := by
  cases k <;> cases j <;> simp [keyP, PV.nk] at h <;> rw [h]
section
variable {G : En} {H H' : Hp} {M M' : Addr → Prop} {d : Addr} {ps : List (PV × PV)}
def DView (G : En) (H : Hp) (M : Addr → Prop) (d : Addr) (ps : List (PV × PV)) : Prop :=
  (∃ kvs : List (Key × V), Rd H d (.dK kvs) ∧ ps.map (·.1) = kvs.map (fun p => keyP p.1) ∧ RepAll G H M (kvs.map (·.2)) (ps.map (·.2))) ∨
  ∃ c, Rd H d (DctG G.P G.w d c) ∧ RepAll G H M (c.map fun x => .ref x.2.1) (ps.map (·.1)) ∧ (ps.all fun p => PV.keyB p.1) = true ∧ c.map (·.1) = ps.map (fun p => PV.nk p.1) ∧ RepAll G H M (c.map (·.2.2)) (ps.map (·.2))
theorem Acc.dic {v : V} (h : Acc G H M v (.dic ps)) : ∃ d, v = .ref d ∧ DView G H M d ps := by
  rcases h with h | ⟨a, rfl, h⟩
  · cases h with
    | dicK e n k r => exact ⟨_, rfl, .inl ⟨_, .inr ⟨_, e⟩, k, r⟩⟩
    | dicG e n k o q r => exact ⟨_, rfl, .inr ⟨_, .inr ⟨_, e⟩, k, o, q, r⟩⟩
  · rcases h with ⟨kvs, h1, h2, h3⟩ | ⟨c, h1, h2, h3, h4, h5⟩
    · exact ⟨a, rfl, .inl ⟨kvs, .inl h1, h2, h3⟩⟩
    · exact ⟨a, rfl, .inr ⟨c, .inl h1, h2, h3, h4, h5⟩⟩
theorem keys_of : ∀ {c : CnG} {ps : List (PV × PV)}, RepAll G H M (c.map fun x => .ref x.2.1) (ps.map (·.1)) → (ps.all fun p => PV.keyB p.1) = true → c.map (·.1) = ps.map (fun p => PV.nk p.1) → KeysG H c
  | [], _, _, _, _ => fun x hx => (nomatch hx)
  | x :: c, [], r, _, _ => by cases r
  | x :: c, p :: ps, r, o, e => by
    rw [List.map_cons, List.map_cons] at r e
    cases r with
    | cons r0 rt =>
      rw [List.all_cons, Bool.and_eq_true_iff] at o
      obtain ⟨e1, e2⟩ := List.cons.inj e
      intro y hy
      rcases List.mem_cons.mp hy with rfl | hy
      · obtain ⟨_, k1, k2⟩ := keyB_tup o.1
        rw [e1]
        exact ⟨r0.kh k1, k2⟩
      · exact keys_of rt o.2 e2 y hy
theorem DView.k (h : DView G H M d ps) (nt : ∀ q ∈ ps, isT q.1 = false) : ∃ kvs : List (Key × V), DKv G.P G.w H d kvs ∧ ps.map (·.1) = kvs.map (fun p => keyP p.1) ∧ RepAll G H M (kvs.map (·.2)) (ps.map (·.2)) := by
  rcases h with ⟨kvs, h1, h2, h3⟩ | ⟨c, h1, h2, h3, h4, h5⟩
  · exact ⟨kvs, .inl h1, h2, h3⟩
  · cases ps with
    | nil =>
      have : c = [] := List.map_eq_nil_iff.mp (by rw [h4]; rfl)
      subst this
      exact ⟨[], .inr ⟨rfl, h1⟩, rfl, .nil⟩
    | cons p ps =>
      have q := nt p List.mem_cons_self
      rw [List.all_cons, Bool.and_eq_true_iff] at h3
      obtain ⟨⟨xs, e⟩, _⟩ := keyB_tup h3.1
      rw [e] at q; cases q
theorem DView.g (h : DView G H M d ps) (tt : ∀ q ∈ ps, isT q.1 = true) : ∃ c, DGv G.P G.w H d c ∧ RepAll G H M (c.map fun x => .ref x.2.1) (ps.map (·.1)) ∧ (ps.all fun p => PV.keyB p.1) = true ∧ c.map (·.1) = ps.map (fun p => PV.nk p.1) ∧ RepAll G H M (c.map (·.2.2)) (ps.map (·.2)) := by
  rcases h with ⟨kvs, h1, h2, h3⟩ | ⟨c, h1, h2, h3, h4, h5⟩
  · cases ps with
    | nil =>
      have : kvs = [] := List.map_eq_nil_iff.mp (by rw [← h2]; rfl)
      subst this
      exact ⟨[], .inr ⟨rfl, h1⟩, .nil, rfl, rfl, .nil⟩
    | cons p ps =>
      cases kvs with
      | nil => cases h2
      | cons kv kvs =>
        have q := tt p List.mem_cons_self
        have e1 : p.1 = keyP kv.1 := (List.cons.inj h2).1
        rw [e1] at q
        cases hk : kv.1 <;> (rw [hk] at q; cases q)
  · exact ⟨c, .inl ⟨h1, keys_of h2 h3 h4⟩, h2, h3, h4, h5⟩
theorem look_k (k : Key) : ∀ {kvs : List (Key × V)} {ps : List (PV × PV)}, ps.map (·.1) = kvs.map (fun p => keyP p.1) → RepAll G H M (kvs.map (·.2)) (ps.map (·.2)) → (valV kvs k = none ∧ pget ps (keyP k) = none) ∨ ∃ v x, valV kvs k = some v ∧ pget ps (keyP k) = some x ∧ Rep G H M v x
  | [], [], _, _ => .inl ⟨rfl, rfl⟩
  | [], p :: ps, e, _ => by cases e
  | kv :: kvs, [], e, _ => by cases e
  | kv :: kvs, p :: ps, e, r => by
    cases r with
    | cons r0 rt =>
      obtain ⟨e1, e2⟩ := List.cons.inj e
      rw [pget_cons, show p.1 = keyP kv.1 from e1]
      by_cases c : kv.1 = k
      · subst c
        rw [if_pos rfl, valV_pos rfl]
        exact .inr ⟨_, _, rfl, rfl, r0⟩
      · rw [if_neg (fun z => c (nk_keyP z)), valV_neg c]
        exact look_k k e2 rt
theorem look_g (k : PV) : ∀ {c : CnG} {ps : List (PV × PV)}, c.map (·.1) = ps.map (fun p => PV.nk p.1) → RepAll G H M (c.map (·.2.2)) (ps.map (·.2)) → (valG c (PV.nk k) = none ∧ pget ps k = none) ∨ ∃ v x, valG c (PV.nk k) = some v ∧ pget ps k = some x ∧ Rep G H M v x
  | [], [], _, _ => .inl ⟨rfl, rfl⟩
  | [], p :: ps, e, _ => by cases e
  | kv :: kvs, [], e, _ => by cases e
  | kv :: kvs, p :: ps, e, r => by
    cases r with
    | cons r0 rt =>
      obtain ⟨e1, e2⟩ := List.cons.inj e
      rw [pget_cons, valG_cons, show kv.1 = PV.nk p.1 from e1]
      by_cases c : PV.nk p.1 = PV.nk k
      · rw [if_pos c, if_pos c]
        exact .inr ⟨_, _, rfl, rfl, r0⟩
      · rw [if_neg c, if_neg c]
        exact look_g k e2 rt
/-- a key, as the layer has it -/
theorem rep_keyP {v : V} {k : Key} (r : Rep G H M v (keyP k)) : v = kV k := by
  cases k <;> cases r <;> rfl
theorem rep_keyB {v : V} {p : PV} (r : Rep G H M v p) (h : PV.keyB p = true) : ∃ b, v = .ref b ∧ KH H v (PV.nk p) ∧ (PV.nk p).depth ≤ 8 := by
  obtain ⟨⟨xs, rfl⟩, h1, h2⟩ := keyB_tup h
  cases r with
  | tup s r => exact ⟨_, rfl, (Rep.tup s r).kh h1, h2⟩
theorem famK {k : Key} (h : famB ps (keyP k) = true) : ∀ q ∈ ps, isT q.1 = false := fun q hq => by
  have := List.all_eq_true.mp h q hq
  rw [beq_iff_eq.mp this]; cases k <;> rfl
theorem famG {p : PV} (h : famB ps p = true) (t : isT p = true) : ∀ q ∈ ps, isT q.1 = true := fun q hq => by
  have := List.all_eq_true.mp h q hq
  rw [beq_iff_eq.mp this]; exact t
/-- a key operand -/
theorem Acc.key {v : V} {p : PV} (h : Acc G H M v p) (a : keyA p = true) : Rep G H M v p := by
  rcases h with h | ⟨_, rfl, h⟩
  · exact h
  · rcases keyA_cases a with ⟨k, rfl, _⟩ | ⟨b, _⟩
    · cases k <;> exact h.elim
    · obtain ⟨⟨xs, rfl⟩, _⟩ := keyB_tup b
      exact h.elim
/-! #### stores -/
theorem put_k {k : Key} {v : V} {x : PV} (rv : Rep G H M v x) : ∀ {kvs : List (Key × V)} {ps : List (PV × PV)}, ps.map (·.1) = kvs.map (fun p => keyP p.1) → RepAll G H M (kvs.map (·.2)) (ps.map (·.2)) →
    (pput ps (keyP k) x).map (·.1) = (putK kvs k v).map (fun p => keyP p.1) ∧ RepAll G H M ((putK kvs k v).map (·.2)) ((pput ps (keyP k) x).map (·.2)) := by
  intro kvs ps e r
  have hs : (pget ps (keyP k)).isSome = (valV kvs k).isSome := by
    rcases look_k k e r with ⟨a, b⟩ | ⟨v0, x0, a, b, _⟩ <;> (rw [a, b]; rfl)
  unfold pput putK
  rw [hs, valV_any]
  cases c : (valV kvs k).isSome with
  | false =>
    rw [if_neg (by decide), if_neg (by decide)]
    refine ⟨by rw [List.map_append, List.map_append, e]; rfl, ?_⟩
    rw [List.map_append, List.map_append]
    exact r.append (.cons rv .nil)
  | true =>
    rw [if_pos rfl, if_pos rfl]
    clear hs c
    induction kvs generalizing ps with
    | nil => cases ps with
      | nil => exact ⟨rfl, .nil⟩
      | cons p ps => cases e
    | cons kv kvs ih => cases ps with
      | nil => cases e
      | cons p ps =>
        cases r with
        | cons r0 rt =>
          obtain ⟨e1, e2⟩ := List.cons.inj e
          obtain ⟨h1, h2⟩ := ih e2 rt
          rw [List.map_cons, List.map_cons, List.map_cons, List.map_cons, List.map_cons, List.map_cons, show p.1 = keyP kv.1 from e1]
          by_cases c : kv.1 = k
          · subst c
            rw [if_pos rfl, if_pos rfl]
            exact ⟨by rw [h1], .cons rv h2⟩
          · rw [if_neg (fun z => c (nk_keyP z)), if_neg c]
            exact ⟨by rw [h1]; exact congrArg (· :: _) e1, .cons r0 h2⟩
theorem put_g {b : Addr} {k x : PV} {v : V} (rk : Rep G H M (.ref b) k) (hk : PV.keyB k = true) (rv : Rep G H M v x) : ∀ {c : CnG} {ps : List (PV × PV)}, RepAll G H M (c.map fun x => .ref x.2.1) (ps.map (·.1)) → (ps.all fun p => PV.keyB p.1) = true → c.map (·.1) = ps.map (fun p => PV.nk p.1) → RepAll G H M (c.map (·.2.2)) (ps.map (·.2)) →
    RepAll G H M ((putG c (PV.nk k) b v).map fun x => .ref x.2.1) ((pput ps k x).map (·.1)) ∧ ((pput ps k x).all fun p => PV.keyB p.1) = true ∧ (putG c (PV.nk k) b v).map (·.1) = (pput ps k x).map (fun p => PV.nk p.1) ∧ RepAll G H M ((putG c (PV.nk k) b v).map (·.2.2)) ((pput ps k x).map (·.2)) := by
  intro c ps r1 o e r
  have hs : (pget ps k).isSome = (valG c (PV.nk k)).isSome := by
    rcases look_g k e r with ⟨a, b⟩ | ⟨v0, x0, a, b, _⟩ <;> (rw [a, b]; rfl)
  unfold pput putG
  rw [hs]
  cases q : (valG c (PV.nk k)).isSome with
  | false =>
    rw [if_neg (by decide), if_neg (by decide)]
    refine ⟨?_, by rw [List.all_append, o]; simp [hk], by rw [List.map_append, List.map_append, e]; rfl, ?_⟩
    · rw [List.map_append, List.map_append]; exact r1.append (.cons rk .nil)
    · rw [List.map_append, List.map_append]; exact r.append (.cons rv .nil)
  | true =>
    rw [if_pos rfl, if_pos rfl]
    clear hs q
    induction c generalizing ps with
    | nil => cases ps with
      | nil => exact ⟨.nil, rfl, rfl, .nil⟩
      | cons p ps => cases e
    | cons kv c ih => cases ps with
      | nil => cases e
      | cons p ps =>
        cases r with
        | cons r0 rt =>
          cases r1 with
          | cons q0 qt =>
            rw [List.all_cons, Bool.and_eq_true_iff] at o
            obtain ⟨e1, e2⟩ := List.cons.inj e
            obtain ⟨h1, h2, h3, h4⟩ := ih qt o.2 e2 rt
            simp only [List.map_cons, List.all_cons, show kv.1 = PV.nk p.1 from e1]
            by_cases c : PV.nk p.1 = PV.nk k
            · rw [if_pos c, if_pos c]
              exact ⟨.cons q0 h1, by rw [h2, Bool.and_true]; exact o.1, by rw [h3], .cons rv h4⟩
            · rw [if_neg c, if_neg c]
              exact ⟨.cons q0 h1, by rw [h2, Bool.and_true]; exact o.1, by rw [h3]; exact congrArg (· :: _) e1, .cons r0 h4⟩
theorem del_k {k : Key} : ∀ {kvs : List (Key × V)} {ps : List (PV × PV)}, ps.map (·.1) = kvs.map (fun p => keyP p.1) → RepAll G H M (kvs.map (·.2)) (ps.map (·.2)) →
    (pdel ps (keyP k)).map (·.1) = (dropK kvs k).map (fun p => keyP p.1) ∧ RepAll G H M ((dropK kvs k).map (·.2)) ((pdel ps (keyP k)).map (·.2))
  | [], [], _, _ => ⟨rfl, .nil⟩
  | [], p :: ps, e, _ => by cases e
  | kv :: kvs, [], e, _ => by cases e
  | kv :: kvs, p :: ps, e, r => by
    cases r with
    | cons r0 rt =>
      obtain ⟨e1, e2⟩ := List.cons.inj e
      obtain ⟨h1, h2⟩ := del_k (k := k) e2 rt
      unfold pdel dropK at h1 h2 ⊢
      rw [List.filter_cons, List.filter_cons, show p.1 = keyP kv.1 from e1]
      by_cases c : kv.1 = k
      · rw [if_neg (by simp [c]), if_neg (by simp [c])]; exact ⟨h1, h2⟩
      · rw [if_pos (by simp; exact fun z => c (nk_keyP z)), if_pos (by simp [c])]
        exact ⟨by rw [List.map_cons, List.map_cons, h1]; exact congrArg (· :: _) e1, .cons r0 h2⟩
theorem del_g {k : PV} : ∀ {c : CnG} {ps : List (PV × PV)}, RepAll G H M (c.map fun x => .ref x.2.1) (ps.map (·.1)) → (ps.all fun p => PV.keyB p.1) = true → c.map (·.1) = ps.map (fun p => PV.nk p.1) → RepAll G H M (c.map (·.2.2)) (ps.map (·.2)) →
    RepAll G H M ((delG c (PV.nk k)).map fun x => .ref x.2.1) ((pdel ps k).map (·.1)) ∧ ((pdel ps k).all fun p => PV.keyB p.1) = true ∧ (delG c (PV.nk k)).map (·.1) = (pdel ps k).map (fun p => PV.nk p.1) ∧ RepAll G H M ((delG c (PV.nk k)).map (·.2.2)) ((pdel ps k).map (·.2))
  | [], [], _, _, _, _ => ⟨.nil, rfl, rfl, .nil⟩
  | [], p :: ps, _, _, e, _ => by cases e
  | kv :: kvs, [], _, _, e, _ => by cases e
  | kv :: kvs, p :: ps, r1, o, e, r => by
    cases r with
    | cons r0 rt =>
      cases r1 with
      | cons q0 qt =>
        rw [List.all_cons, Bool.and_eq_true_iff] at o
        obtain ⟨e1, e2⟩ := List.cons.inj e
        obtain ⟨h1, h2, h3, h4⟩ := del_g (k := k) qt o.2 e2 rt
        unfold pdel at h1 h2 h3 h4 ⊢
        unfold delG at h1 h3 h4 ⊢
        rw [List.filter_cons, List.filter_cons, show kv.1 = PV.nk p.1 from e1]
        by_cases c : PV.nk p.1 = PV.nk k
        · rw [if_neg (by simp [c]), if_neg (by simp [c])]; exact ⟨h1, h2, h3, h4⟩
        · rw [if_pos (by simp [c]), if_pos (by simp [c])]
          exact ⟨.cons q0 h1, by rw [List.all_cons, h2, Bool.and_true]; exact o.1, by rw [List.map_cons, List.map_cons, h3]; exact congrArg (· :: _) e1, .cons r0 h4⟩
end
section
variable {G : Gh} {lv : Nat} {X : Cx} {a b c o : Expr} {es : List Expr} {qa qb : QE} {qA : QAs} {qB : QBs} {pos p apos cpos tpos : Pos} {e : PEnv} {M : Addr → Prop} {σ : L2.St} {H : Hp}
/-! ### d[k], xs[i] -/
def gIxU (p q : PV) (k : QV → Prop) : Prop := match p with
  | .dic ps => (keyA q = true ∧ famB ps q = true) ∧ withP (pget ps q) fun x => k (.sh x)
  | _ => gIx p q k
theorem l_ixU : Lift2 G (fun x y H Q => rIx G.K x y H Q ∨ rGetD G.P G.w x y H Q) gIxU := fun e M σ H v w p q Q k S a b g f => by
  unfold gIxU at g
  split at g
  · rename_i ps
    obtain ⟨⟨ka, fa⟩, g⟩ := g
    obtain ⟨x, hx, kx⟩ := withP_of g
    obtain ⟨d, rfl, dv⟩ := a.dic
    have rk := b.key ka
    refine .inr ⟨d, rfl, ?_⟩
    rcases keyA_cases ka with ⟨kk, rfl, _⟩ | ⟨kb, it⟩
    · obtain ⟨kvs, h1, h2, h3⟩ := dv.k (famK fa)
      rw [rep_keyP rk]
      rcases look_k kk h2 h3 with ⟨_, z⟩ | ⟨v0, x0, e1, e2, r⟩
      · rw [hx] at z; cases z
      · rw [hx] at e2; cases e2
        exact .inl ⟨kvs, kk, v0, h1, rfl, e1, aft_sh S (f _ kx) r⟩
    · obtain ⟨c, h1, h2, h3, h4, h5⟩ := dv.g (famG fa it)
      obtain ⟨b', rfl, kh, dp⟩ := rep_keyB rk kb
      rcases look_g q h4 h5 with ⟨_, z⟩ | ⟨v0, x0, e1, e2, r⟩
      · rw [hx] at z; cases z
      · rw [hx] at e2; cases e2
        exact .inr ⟨c, b', _, v0, h1, rfl, kh, dp, e1, aft_sh S (f _ kx) r⟩
  · exact .inl (l_ix e M σ H v w p q Q k S a b g f)
abbrev qIxU := qOp gIxU
theorem q_ixU (g : Good G lv X) (ha : PE X a (LE G qa)) (hb : PE X b (LE G qb)) (hs : PlainIx b := by exact fun _ _ => rfl) : PE X (.Subscript a b pos) (LE G (qIxU qa qb)) :=
  q_ixr (IxR.or (ix_seqQ g.K) (g.P ▸ g.w ▸ ix_D g.units)) l_ixU ha hb hs
/-! ### in, not in -/
def hasP (xs : List PV) (q : PV) : Bool := (PV.toDs xs).any fun z => PyData.eqv z (PV.toD q)
def gInB (f : Bool → Bool) (q p : PV) (k : Bool → Prop) : Prop := match p with
  | .dic ps => (keyA q = true ∧ famB ps q = true) ∧ k (f (pget ps q).isSome)
  | .lst xs => (Shp q ∧ Shp (.lst xs)) ∧ k (f (hasP xs q))
  | .tup xs => (Shp q ∧ Shp (.tup xs)) ∧ k (f (hasP xs q))
  | .str z => match q with
    | .str y => ∃ c, y = ⟨#[c]⟩ ∧ k (f (decide (c ∈ z.cps.toList)))
    | _ => False
  | _ => False
theorem gInB_mono (f : Bool → Bool) (q p : PV) (k k' : Bool → Prop) (g : ∀ b, k b → k' b) (h : gInB f q p k) : gInB f q p k' := by
  unfold gInB at h ⊢
  split at h
  · exact ⟨h.1, g _ h.2⟩
  · exact ⟨h.1, g _ h.2⟩
  · exact ⟨h.1, g _ h.2⟩
  · split at h
    · obtain ⟨c, e, q⟩ := h; exact ⟨c, e, g _ q⟩
    · exact h
  · exact h
def rInSq (K : PySem.W.Frag) (f : Bool → Bool) : R2 := fun x y H Q => ∃ d ds, Dp K H x d ∧ (Dp K H y (.list ds) ∨ Dp K H y (.tuple ds)) ∧ SeqAt.shaped d = true ∧ PyData.canLayAll0 ds = true ∧ Q (.bl (f (ds.any fun z => PyData.eqv z d))) H
theorem room_sq {d : PyData} {ds : List PyData} {A : Around} (sd : SeqAt.shaped d = true) (hu : A.units + 66 < cLine) : A.units + 1 + min (PyData.depthAll ds) d.depth < cLine := by
  have h1 := SeqAt.depth_of_shaped sd
  have h2 : min (PyData.depthAll ds) d.depth ≤ d.depth := Nat.min_le_right _ _
  omega
theorem op_inSq (hu : X.A.units + 66 < cLine) : OpR X (compareOp .In) (rInSq X.K fun b => b) := by
  intro pins s σ H x y v u Q I rx ry h
  obtain ⟨d, ds, hd, he, sd, se, q⟩ := h
  obtain ⟨as, r1⟩ := Dp.reads I d x v hd rx
  rcases he with he | he
  · obtain ⟨bs, r2⟩ := Dp.reads I _ y u he ry
    exact SeqAt.in_list_reads r2 r1 se (SeqAt.canLay_of_shaped sd) (room_sq sd hu) ⟨.bl _, H, I, rfl, q⟩
  · obtain ⟨bs, r2⟩ := Dp.reads I _ y u he ry
    exact SeqAt.in_tuple_reads r2 r1 se (SeqAt.canLay_of_shaped sd) (room_sq sd hu) ⟨.bl _, H, I, rfl, q⟩
theorem op_notInSq (hu : X.A.units + 66 < cLine) : OpR X (compareOp .NotIn) (rInSq X.K fun b => !b) := by
  intro pins s σ H x y v u Q I rx ry h
  obtain ⟨d, ds, hd, he, sd, se, q⟩ := h
  obtain ⟨as, r1⟩ := Dp.reads I d x v hd rx
  rcases he with he | he
  · obtain ⟨bs, r2⟩ := Dp.reads I _ y u he ry
    exact SeqAt.notIn_list_reads r2 r1 se (SeqAt.canLay_of_shaped sd) (room_sq sd hu) ⟨.bl _, H, I, rfl, q⟩
  · obtain ⟨bs, r2⟩ := Dp.reads I _ y u he ry
    exact SeqAt.notIn_tuple_reads r2 r1 se (SeqAt.canLay_of_shaped sd) (room_sq sd hu) ⟨.bl _, H, I, rfl, q⟩
def rInCh (f : Bool → Bool) : R2 := fun x y H Q => ∃ (c : Nat) (z : Str), x = .str ⟨#[c]⟩ ∧ y = .str z ∧ Q (.bl (f (decide (c ∈ z.cps.toList)))) H
abbrev rInU (G : Gh) (f : Bool → Bool) : R2 := fun x y H Q => rInD G.P G.w f x y H Q ∨ (rInSq G.K f x y H Q ∨ rInCh f x y H Q)
theorem l_in (f : Bool → Bool) : Lift2 G (rInU G f) (gB (gInB f)) := fun e M σ H v w p q Q k S a b g fin => by
  have fin' : ∀ c, k (.sh (.bl c)) → Q (.bl c) H := fun c kk => aft_sh S (fin _ kk) (.bl c)
  unfold gB gInB at g
  split at g
  · rename_i ps
    obtain ⟨⟨ka, fa⟩, g⟩ := g
    obtain ⟨d, rfl, dv⟩ := b.dic
    have rk := a.key ka
    refine .inl ⟨d, rfl, ?_⟩
    rcases keyA_cases ka with ⟨kk, rfl, _⟩ | ⟨kb, it⟩
    · obtain ⟨kvs, h1, h2, h3⟩ := dv.k (famK fa)
      rw [rep_keyP rk]
      refine .inl ⟨kvs, kk, h1, rfl, ?_⟩
      rcases look_k kk h2 h3 with ⟨e1, e2⟩ | ⟨v0, x0, e1, e2, r⟩ <;> (rw [e2] at g; rw [e1]; exact fin' _ g)
    · obtain ⟨c, h1, h2, h3, h4, h5⟩ := dv.g (famG fa it)
      obtain ⟨b', rfl, kh, dp⟩ := rep_keyB rk kb
      refine .inr ⟨c, b', _, h1, rfl, kh, dp, ?_⟩
      rcases look_g p h4 h5 with ⟨e1, e2⟩ | ⟨v0, x0, e1, e2, r⟩ <;> (rw [e2] at g; rw [e1]; exact fin' _ g)
  · obtain ⟨⟨s1, s2⟩, g⟩ := g
    exact .inr (.inl ⟨_, _, a.dp s1.1, .inl (b.dp s2.1), s1.2, SeqAt.canLay_of_shaped s2.2, fin' _ g⟩)
  · obtain ⟨⟨s1, s2⟩, g⟩ := g
    exact .inr (.inl ⟨_, _, a.dp s1.1, .inr (b.dp s2.1), s1.2, SeqAt.canLay_of_shaped s2.2, fin' _ g⟩)
  · split at g
    · obtain ⟨c, rfl, g⟩ := g
      rw [a.str, b.str]
      exact .inr (.inr ⟨c, _, rfl, rfl, fin' _ g⟩)
    · exact g.elim
  · exact g.elim
abbrev gIn := gInB fun b => b
abbrev gNotIn := gInB fun b => !b
theorem Good.units66 (g : Good G lv X) : X.A.units + 66 < cLine := by have := g.room.un; omega
theorem c_in (g : Good G lv X) : CmpQ G X .In gIn := ⟨⟨_, OpR.or (g.P ▸ g.w ▸ op_inD g.units) (OpR.or (g.K ▸ op_inSq g.units66) op_in_sign), l_in _⟩, gInB_mono _⟩
theorem c_notIn (g : Good G lv X) : CmpQ G X .NotIn gNotIn := ⟨⟨_, OpR.or (g.P ▸ g.w ▸ op_notInD g.units) (OpR.or (g.K ▸ op_notInSq g.units66) op_notIn_sign), l_in _⟩, gInB_mono _⟩
end
end CP
/-! Stores into lists and dicts, their methods, locks, displays, op=. -/
namespace CP
open PySem PySem.Spec PyProof.Rows L2
section
variable {G : Gh} {lv : Nat} {X : Cx} {a b c o : Expr} {es : List Expr} {qa qb : QE} {qA : QAs} {qB : QBs} {pos p apos cpos tpos : Pos} {e : PEnv} {M : Addr → Prop} {σ : L2.St} {H : Hp}
/-! ### o[i] = v -/
theorem PSet.or {t t' : TSet} (h : PSet X t) (h' : PSet X t') : PSet X (fun o i v H Q => t o i v H Q ∨ t' o i v H Q) := by
  intro pins s σ H o i v ov iv u Q I r1 r2 r3 q
  rcases q with q | q
  · exact h pins s σ H o i v ov iv u Q I r1 r2 r3 q
  · exact h' pins s σ H o i v ov iv u Q I r1 r2 r3 q
theorem obj_put {d : Addr} {ps : List (PV × PV)} {y x : PV} {i v : V} {Q : Hp → Prop} (ob : Obj G.toEn H M d (.dic ps)) (ka : keyA y = true) (fa : famB ps y = true) (ry : Rep G.toEn H M i y) (rx : Rep G.toEn H M v x) (few : ps.length < SZ)
    (k : ∀ o, (Step H M (L2.upd H d o) M → Obj G.toEn (L2.upd H d o) M d (.dic (pput ps y x))) → Q (L2.upd H d o)) : rPutD G.P G.w (.ref d) i v H Q := by
  refine ⟨d, rfl, ?_⟩
  rcases keyA_cases ka with ⟨kk, rfl, _⟩ | ⟨kb, it⟩
  · rw [rep_keyP ry]
    rcases ob with ⟨kvs, h1, h2, h3⟩ | ⟨c, h1, h2, h3, h4, h5⟩
    · have hl : kvs.length = ps.length := by have := congrArg List.length h2; simpa using this.symm
      refine .inl ⟨kvs, kk, .inl h1, rfl, by rw [hl]; exact sz_fits1 few, k _ fun s => ?_⟩
      obtain ⟨g1, g2⟩ := put_k rx h2 h3
      exact .inl ⟨_, upd_same, g1, g2.step s⟩
    · have e0 : ps = [] := by
        cases ps with
        | nil => rfl
        | cons p ps =>
          rw [List.all_cons, Bool.and_eq_true_iff] at h3
          obtain ⟨⟨xs, e⟩, _⟩ := keyB_tup h3.1
          have := famK fa p List.mem_cons_self
          rw [e] at this; cases this
      subst e0
      have e1 : c = [] := List.map_eq_nil_iff.mp (by rw [h4]; rfl)
      subst e1
      refine .inl ⟨[], kk, .inr ⟨rfl, h1⟩, rfl, by rw [sizeLine_eq]; simp, k _ fun s => ?_⟩
      obtain ⟨g1, g2⟩ := put_k (kvs := []) (ps := []) (k := kk) rx rfl .nil
      exact .inl ⟨_, upd_same, g1, g2.step s⟩
  · obtain ⟨b, rfl, kh, dp⟩ := rep_keyB ry kb
    rcases ob with ⟨kvs, h1, h2, h3⟩ | ⟨c, h1, h2, h3, h4, h5⟩
    · have e0 : ps = [] := by
        cases ps with
        | nil => rfl
        | cons p ps =>
          cases kvs with
          | nil => cases h2
          | cons kv kvs =>
            have q := famG fa it p List.mem_cons_self
            have e1 : p.1 = keyP kv.1 := (List.cons.inj h2).1
            rw [e1] at q
            cases hk : kv.1 <;> (rw [hk] at q; cases q)
      subst e0
      have e1 : kvs = [] := List.map_eq_nil_iff.mp (by rw [← h2]; rfl)
      subst e1
      refine .inr ⟨[], b, _, .inr ⟨rfl, h1⟩, rfl, kh, dp, by rw [sizeLine_eq]; simp, k _ fun s => ?_⟩
      obtain ⟨g1, g2, g3, g4⟩ := put_g (c := []) (ps := []) ry kb rx .nil rfl rfl .nil
      exact .inr ⟨_, upd_same, g1.step s, g2, g3, g4.step s⟩
    · have hl : c.length = ps.length := by have := congrArg List.length h4; simpa using this
      refine .inr ⟨c, b, _, .inl ⟨h1, keys_of h2 h3 h4⟩, rfl, kh, dp, by rw [hl]; exact sz_fits1 few, k _ fun s => ?_⟩
      obtain ⟨g1, g2, g3, g4⟩ := put_g ry kb rx h2 h3 h4 h5
      exact .inr ⟨_, upd_same, g1.step s, g2, g3, g4.step s⟩
def sSetU (j : Nat) (qv qi : QE) : QS := fun E e => qv e fun r e1 => keep r e1 fun x e2 => muB e2 j = true ∧ qi e2 fun r2 e3 => withP (acc e3 r2) fun y => withP (getC e3 j) fun p => match p with
  | .lst xs => withI y fun n => ∃ m, ixN xs.length n = some m ∧ E.nx (putC e3 j (.lst (xs.set m x)))
  | .dic ps => (keyA y = true ∧ famB ps y = true ∧ ps.length < SZ) ∧ E.nx (putC e3 j (.dic (pput ps y x)))
  | _ => False
theorem s_setU {j : Nat} {i v : Expr} {tpos : Pos} {qv qi : QE} (g : Good G lv X) (hv : PE X v (LE G qv)) (ho : PE X o (tVar j)) (hi : PE X i (LE G qi))
    (ht : ∀ v, assign (.Subscript o i tpos) X.env v = (do
      let ov ← holding [v] (eval o X.env)
      let iv ← holding [v, ov] (eval i X.env)
      standAt tpos
      holding [v, ov, iv] (setItem ov iv v)
      release [v, ov, iv] []) := by intro _; rfl) (hs : swapsWithSole [.Subscript o i tpos] v pos.line X.env = pure false := by rfl) (hw : swappedStores [.Subscript o i tpos] v X.env = pure none := by rfl) (h1 : (assignEach [.Subscript o i tpos] X.env).map (·.2) = [assign (.Subscript o i tpos) X.env] := by rfl) :
    PS X (.Assign [.Subscript o i tpos] v pos) (LS G (sSetU j qv qi)) :=
  PS.imp (ps_asg hv (pg_sub ho hi (PSet.or set_list (g.P ▸ g.w ▸ set_D g.units)) ht) hs hw h1) fun D σ H ⟨e, M, E, S, k, f⟩ => ⟨e, M, _, S, k, fun r e1 k1 v H1 M1 S1 s1 R => by
    obtain ⟨x, e2, M2, ⟨lb, k2⟩, S2, s2, R2⟩ := keep_ok S1 R k1
    obtain ⟨b, p0, h1, _⟩ := S2.mu (mu_of lb)
    refine ⟨.ref b, h1, e2, M2, _, S2, k2, fun r2 e3 k3 w H3 M3 S3 s3 R3 => ?_⟩
    obtain ⟨y, hy, k3⟩ := withP_of k3
    obtain ⟨p, hp, k3⟩ := withP_of k3
    have A3 := Res.acc S3 R3 hy
    obtain ⟨b', q1, ob, _⟩ := S3.cont hp
    rw [h1] at q1; cases q1
    split at k3
    · obtain ⟨n, rfl, k3⟩ := withI_of k3
      rw [A3.int]
      obtain ⟨m, hm, k3⟩ := k3
      obtain ⟨us, hu, ru⟩ := ob
      refine .inl ⟨b, us, n, m, rfl, rfl, hu, by rw [ru.length]; exact hm, ?_⟩
      obtain ⟨S4, s4⟩ := S3.change hp h1 (o := .lst (us.set m v)) (p' := .lst (_)) (fun s => ⟨_, upd_same, RepAll.set ((R2.step s3).step s) m (ru.step s)⟩)
      exact f.nx _ k3 σ _ M3 S4 (((s1.trans s2).trans s3).trans s4)
    · rename_i ps
      obtain ⟨⟨ka, fa, few⟩, k3⟩ := k3
      refine .inr (obj_put ob ka fa (A3.key ka) (R2.step s3) few fun o ob' => ?_)
      obtain ⟨S4, s4⟩ := S3.change hp h1 (o := o) ob'
      exact f.nx _ k3 σ _ M3 S4 (((s1.trans s2).trans s3).trans s4)
    · exact k3.elim⟩
/-! ### methods whose kind is told by what is there -/
def tyD (P : Program) (w : World) (H : Hp) (a : Addr) : Prop := (∃ kvs, Rd H a (.dK kvs)) ∨ ∃ c, Rd H a (DctG P w a c)
theorem tyD_at {pins : List (Addr × PySem.Obj)} {s : Shared} {a : Addr} (I : L2.Inv X pins σ H s) (h : tyD X.prog X.w H a) : s.TypeIs (.ref a) "dict" ∧ ∃ o, s.heap.get? a = some o ∧ o.dict = none := by
  rcases h with ⟨kvs, h⟩ | ⟨c, h⟩
  · obtain ⟨_, _, vs, _, o, es, ep, h1, h2, _⟩ := dk_rd I.hok h
    exact ⟨⟨o, h1, h2.1⟩, o, h1, h2.2.1⟩
  · obtain ⟨⟨_, o, es, ep, us, h1, h2, _⟩, _⟩ := h.ok I.hok
    exact ⟨⟨o, h1, h2.1⟩, o, h1, h2.2.1⟩
/-- o.m(e, ..), o a list or a dict -/
def tLD (P : Program) (w : World) (K : PySem.W.Frag) (rl rd : V → List V → Hp → VK → Prop) (to : TE) (t : TA) : TE := fun σ H Q => to σ H fun x H1 => ∃ a, x = .ref a ∧ (((∃ vs, H1 a = some (.lst vs)) ∧ t σ H1 fun xs H2 => rl x xs H2 Q) ∨ (tyD P w H1 a ∧ t σ H1 fun xs H2 => rd x xs H2 Q))
theorem pe_LD {name : Str} {il id : String} {rl rd : V → List V → Hp → VK → Prop} {to : TE} {t : TA} (sl : Slot "list" name il) (tl : typeOf (.builtin il) = pure (.type "method_descriptor")) (ml : MtR X il rl) (sd : Slot "dict" name id) (td : typeOf (.builtin id) = pure (.type "method_descriptor")) (md : MtR X id rd) (ho : PE X o to) (ha : PA X (a :: es) t)
    (hbase : attributeBase o name X.env (eval o X.env) = eval o X.env := by rfl)
    (hfew : ((backTo cpos (starEach (a :: es) X.env)).all (fun x => !x.1) && (backToKw cpos (keywordEach [] X.env)).all (fun x => x.1.isSome) && decide ((a :: es).length + ([] : List Keyword).length + (if ([] : List Keyword).isEmpty then 0 else 1) < 30)) = true := by rfl)
    (hline : (apos.endLine == cpos.line) = true := by rfl) (hs : starEach (a :: es) X.env = (false, eval a X.env) :: starEach es X.env := by rfl) (hplain : (backTo cpos (starEach es X.env)).any (·.1) = false := by rfl) :
    PE X (.Call (.Attribute o name apos) (a :: es) [] cpos) (tLD X.prog X.w X.K rl rd to t) := by
  refine ⟨fun pins s σ H Q I h => wpAny_Call_method_late hbase hfew hline rfl (thn (ho.run pins s σ H _ I h) fun v s1 ⟨x, H1, I1, r1, a, ex, q1⟩ => ?_)⟩
  subst ex
  cases r1
  rcases q1 with ⟨⟨us, hu⟩, q1⟩ | ⟨ty, q1⟩
  · obtain ⟨z, its, n, r, hl, e⟩ := I1.lstM hu
    refine ⟨"list", il, F.plainAttrs_list, sl, tl, ⟨_, e, rfl⟩, (fun b z => by cases z; exact ⟨_, e, rfl⟩), ?_⟩
    have hA := ha.run cpos pins s1 σ H1 _ I1 q1
    rw [hs] at hA ⊢
    refine Calls.callWith_builtin (by show (false || (backTo cpos (starEach es X.env)).any (·.1)) = false; rw [hplain]; rfl) (Calls.evalArgs_plain (thn hA fun us s2 ⟨vs, H2, I2, r2, q2⟩ => ?_))
    exact ml pins s2 σ H2 (.ref a) vs (.ref a) us Q I2 rfl r2 q2
  · obtain ⟨t1, ob, t2, t3⟩ := tyD_at I1 ty
    refine ⟨"dict", id, F.plainAttrs_dict, sd, td, t1, (fun b z => by cases z; exact ⟨ob, t2, t3⟩), ?_⟩
    have hA := ha.run cpos pins s1 σ H1 _ I1 q1
    rw [hs] at hA ⊢
    refine Calls.callWith_builtin (by show (false || (backTo cpos (starEach es X.env)).any (·.1)) = false; rw [hplain]; rfl) (Calls.evalArgs_plain (thn hA fun us s2 ⟨vs, H2, I2, r2, q2⟩ => ?_))
    exact md pins s2 σ H2 (.ref a) vs (.ref a) us Q I2 rfl r2 q2
def gPopU : GM := fun p ps k => match p with
  | .lst _ => gPopAt p ps k
  | .dic qs => match ps with
    | [y] => (keyA y = true ∧ famB qs y = true ∧ qs.length ≤ SZ) ∧ ∃ x, pget qs y = some x ∧ k (.dic (pdel qs y)) x
    | _ => False
  | _ => False
def qMu (i : Nat) (q : QAs) (g : GM) : QE := fun e Q => match getC e i with
  | some (.lst _) => q e fun ps e1 => match getC e1 i with
    | some (.lst xs) => g (.lst xs) ps fun p' x => Q (.sh x) (putC e1 i p')
    | _ => False
  | some (.dic _) => q e fun ps e1 => match getC e1 i with
    | some (.dic xs) => g (.dic xs) ps fun p' x => Q (.sh x) (putC e1 i p')
    | _ => False
  | _ => False
theorem l_popD (M : Addr → Prop) (H : Hp) (a : Addr) (qs : List (PV × PV)) (vs : List V) (ps : List PV) (Q : VK) (k : PV → PV → Prop) (ob : Obj G.toEn H M a (.dic qs)) (R : RepAll G.toEn H M vs ps) (g : gPopU (.dic qs) ps k)
    (f : ∀ p' x o v, k p' x → (Step H M (L2.upd H a o) M → Obj G.toEn (L2.upd H a o) M a p') → (Step H M (L2.upd H a o) M → Rep G.toEn (L2.upd H a o) M v x) → Q v (L2.upd H a o)) : rPopD G.P G.w (.ref a) vs H Q := by
  unfold gPopU at g
  dsimp only at g
  split at g
  · rename_i y
    obtain ⟨⟨ka, fa, few⟩, x, hx, g⟩ := g
    cases R with
    | cons r0 rt =>
      cases rt
      refine ⟨a, rfl, ?_⟩
      rcases keyA_cases ka with ⟨kk, rfl, _⟩ | ⟨kb, it⟩
      · rw [rep_keyP r0]
        rcases ob with ⟨kvs, h1, h2, h3⟩ | ⟨c, h1, h2, h3, h4, h5⟩
        · rcases look_k kk h2 h3 with ⟨_, z⟩ | ⟨v0, x0, e1, e2, r⟩
          · rw [hx] at z; cases z
          · rw [hx] at e2; cases e2
            obtain ⟨g1, g2⟩ := del_k (k := kk) h2 h3
            exact .inl ⟨kvs, kk, v0, h1, rfl, e1, f _ _ _ _ g (fun s => .inl ⟨_, upd_same, g1, g2.step s⟩) fun s => r.step s⟩
        · exfalso
          cases qs with
          | nil => cases hx
          | cons p ps =>
            rw [List.all_cons, Bool.and_eq_true_iff] at h3
            obtain ⟨⟨xs, e⟩, _⟩ := keyB_tup h3.1
            have := famK fa p List.mem_cons_self
            rw [e] at this; cases this
      · obtain ⟨b, rfl, kh, dp⟩ := rep_keyB r0 kb
        rcases ob with ⟨kvs, h1, h2, h3⟩ | ⟨c, h1, h2, h3, h4, h5⟩
        · exfalso
          cases qs with
          | nil => cases hx
          | cons p ps =>
            cases kvs with
            | nil => cases h2
            | cons kv kvs =>
              have q := famG fa it p List.mem_cons_self
              have e1 : p.1 = keyP kv.1 := (List.cons.inj h2).1
              rw [e1] at q
              cases hk : kv.1 <;> (rw [hk] at q; cases q)
        · have hl : c.length = qs.length := by have := congrArg List.length h4; simpa using this
          rcases look_g y h4 h5 with ⟨_, z⟩ | ⟨v0, x0, e1, e2, r⟩
          · rw [hx] at z; cases z
          · rw [hx] at e2; cases e2
            obtain ⟨g1, g2, g3, g4⟩ := del_g (k := y) h2 h3 h4 h5
            exact .inr ⟨c, b, _, v0, h1, keys_of h2 h3 h4, rfl, kh, dp, by rw [hl]; exact sz_fits few, e1, f _ _ _ _ g (fun s => .inr ⟨_, upd_same, g1.step s, g2, g3, g4.step s⟩) fun s => r.step s⟩
  · exact g.elim
theorem q_pop {i : Nat} (g : Good G lv X) (ho : PE X o (tVar i)) (ha : PA X [a] (LA G qA)) (hbase : attributeBase o "pop" X.env (eval o X.env) = eval o X.env := by rfl)
    (hfew : ((backTo cpos (starEach [a] X.env)).all (fun x => !x.1) && (backToKw cpos (keywordEach [] X.env)).all (fun x => x.1.isSome) && decide (([a] : List Expr).length + ([] : List Keyword).length + (if ([] : List Keyword).isEmpty then 0 else 1) < 30)) = true := by rfl)
    (hline : (apos.endLine == cpos.line) = true := by rfl) (hs : starEach [a] X.env = (false, eval a X.env) :: starEach [] X.env := by rfl) (hplain : (backTo cpos (starEach [] X.env)).any (·.1) = false := by rfl) :
    PE X (.Call (.Attribute o "pop" apos) [a] [] cpos) (LE G (qMu i qA gPopU)) :=
  PE.imp (pe_LD PySem.F.slot_list_pop PySem.F.type_list_pop mt_popAt PySem.F.slot_dict_pop PySem.F.type_dict_pop (g.P ▸ g.w ▸ mt_popD g.units : MtR X "dict.pop" (rPopD G.P G.w)) ho ha hbase hfew hline hs hplain) fun σ H Q ⟨e, M, K, S, q, f⟩ => by
    unfold qMu at q
    split at q
    · rename_i xs0 hc
      obtain ⟨a, h1, ob0, _⟩ := S.cont hc
      obtain ⟨us, hu, _⟩ := ob0
      refine ⟨.ref a, h1, a, rfl, .inl ⟨⟨us, hu⟩, e, M, _, S, q, fun ps e1 k1 vs H1 M1 S1 s1 R => ?_⟩⟩
      split at k1
      · rename_i xs1 hp
        obtain ⟨a', q1, q3, q4⟩ := S1.cont hp
        rw [h1] at q1; cases q1
        unfold gPopU at k1
        refine l_popAt M1 H1 a _ vs ps Q _ q3 q4 R k1 (fun p' x o v kk ob rv => ?_)
        obtain ⟨S2, s2⟩ := S1.change hp h1 ob
        exact f _ _ kk v _ M1 S2 (s1.trans s2) (rv s2)
      · exact k1.elim
    · rename_i qs0 hc
      obtain ⟨a, h1, ob0, _⟩ := S.cont hc
      have ty : tyD X.prog X.w H a := by
        rw [g.P, g.w]
        rcases ob0 with ⟨kvs, z, _⟩ | ⟨c, z, _⟩
        · exact .inl ⟨kvs, .inl z⟩
        · exact .inr ⟨c, .inl z⟩
      refine ⟨.ref a, h1, a, rfl, .inr ⟨ty, e, M, _, S, q, fun ps e1 k1 vs H1 M1 S1 s1 R => ?_⟩⟩
      split at k1
      · rename_i qs1 hp
        obtain ⟨a', q1, q3, q4⟩ := S1.cont hp
        rw [h1] at q1; cases q1
        refine l_popD M1 H1 a _ vs ps Q _ q3 R k1 (fun p' x o v kk ob rv => ?_)
        obtain ⟨S2, s2⟩ := S1.change hp h1 ob
        exact f _ _ kk v _ M1 S2 (s1.trans s2) (rv s2)
      · exact k1.elim
    · exact q.elim
/-! ### len -/
def gLenU (ps : List PV) (k : QV → Prop) : Prop := match ps with
  | [.dic qs] => qs.length ≤ SZ ∧ k (.sh (.int qs.length))
  | _ => gLen ps k
theorem cr_lenD (hc : X.calm = true) : CallR X (.builtin "len") (rLenD X.prog X.w) := by
  intro pins s σ H vs us Q I r h
  obtain ⟨d, rfl, h⟩ := h
  rw [Vals.ref1 r]
  rcases h with ⟨kvs, hd, q⟩ | ⟨c, hd, hk, few, q⟩
  · exact d_len I hd fun t s' I' => ⟨.int _, H, I', ⟨_, rfl⟩, q⟩
  · obtain ⟨sy, us', dd, rel⟩ := dgv_get I (.inl ⟨hd, hk⟩)
    have le := Paired.length rel
    have hl : (us'.length : Int) = c.length := by rw [← le]
    refine call_len_dictH (knd := nestedKind X.prog X.w) sy dd (by rw [hl]; rw [sizeLine_eq] at few; omega) ?_
    rw [hl]
    exact ⟨.int _, H, I.tok _, ⟨_, rfl⟩, q⟩
theorem DView.few {d : Addr} {ps : List (PV × PV)} (h : DView G.toEn H M d ps) {Q : VK} (fl : ps.length ≤ SZ) (k : Q (.int ps.length) H) : rLenD G.P G.w [.ref d] H Q := by
  rcases h with ⟨kvs, h1, h2, h3⟩ | ⟨c, h1, h2, h3, h4, h5⟩
  · have hl : kvs.length = ps.length := by have := congrArg List.length h2; simpa using this.symm
    exact ⟨d, rfl, .inl ⟨kvs, h1, by rw [hl]; exact k⟩⟩
  · have hl : c.length = ps.length := by have := congrArg List.length h4; simpa using this
    exact ⟨d, rfl, .inr ⟨c, h1, keys_of h2 h3 h4, by rw [hl]; exact sz_fits fl, by rw [hl]; exact k⟩⟩
theorem l_lenU : LiftC G (fun vs H Q => rLenQ G.K vs H Q ∨ rLenD G.P G.w vs H Q) gLenU := fun e M σ H vs ps Q k S a g f => by
  unfold gLenU at g
  split at g
  · obtain ⟨v, rfl, b⟩ := acc1 a
    obtain ⟨d, rfl, dv⟩ := b.dic
    exact .inr (dv.few g.1 (aft_sh S (f _ g.2) (.int _)))
  · exact .inl (l_len e M σ H vs ps Q k S a g f)
theorem q_lenU (g : Good G lv X) (hm : X.mg "len" = none) (ha : PA X (a :: es) (LB G qB)) (hg : Gl X "len" := by rfl) (he : starEach (a :: es) X.env = (false, eval a X.env) :: starEach es X.env := by rfl) (hpl : (backTo pos (starEach es X.env)).any (·.1) = false := by rfl) :
    PE X (.Call (.Name "len" p) (a :: es) [] pos) (LE G (qCB gLenU qB)) := q_cb (CallR.or (cr_lenQ g.K) (g.P ▸ g.w ▸ cr_lenD g.calm : CallR X (.builtin "len") (rLenD G.P G.w))) l_lenU hg hm PySem.boot_len ha (by decide) (by decide) he hpl
/-! ### a dict that is changed no more is locked -/
def qFrz (q : QE) : QE := fun e Q => q e fun r e1 => match r with
  | .sh p => Q (.sh p) e1
  | .fr (.dic ps) => Q (.sh (.dic ps)) e1
  | .fr p => Q (.fr p) e1
  | .bor i => match e1[i]? with
    | some (Sl.own (.dic ps)) => Q (.sh (.dic ps)) (e1.set i (.val (.dic ps)))
    | _ => Q (.bor i) e1
/-- the thing at A is locked; e' has no slot for it that may change -/
theorem StOk.lock (S : StOk G e M σ H) {A : Addr} {ps : List (PV × PV)} (ob : Obj G.toEn H M A (.dic ps)) (ma : M A) (m0 : ¬ G.M0 A) (h0 : G.H0 A = none) {e' : PEnv} (hl : e'.length = e.length)
    (hv : ∀ (j : Nat) (p : PV), e'[j]? = some (Sl.val p) → e[j]? = some (Sl.val p) ∨ (σ[j]? = some (some (V.ref A)) ∧ p = .dic ps)) (ho : ∀ (j : Nat) (p : PV), e'[j]? = some (Sl.own p) → e[j]? = some (Sl.own p)) (hi : ∀ (j : Nat) (p : PV), e'[j]? = some (Sl.io p) ↔ e[j]? = some (Sl.io p))
    (hne : ∀ j, Mu e' j → σ[j]? ≠ some (some (V.ref A))) :
    ∃ u, H A = some u ∧ Mut (some u) ∧ ∀ od, StOk G e' (fun b => M b ∧ b ≠ A) σ (L2.upd H A (.frz od u)) ∧ Step H M (L2.upd H A (.frz od u)) (fun b => M b ∧ b ≠ A) ∧ Rep G.toEn (L2.upd H A (.frz od u)) (fun b => M b ∧ b ≠ A) (.ref A) (.dic ps) := by
  have go : ∀ u od, H A = some u → Step H M (L2.upd H A (.frz od u)) (fun b => M b ∧ b ≠ A) := fun u od hu =>
    ⟨fun b o h n => by rw [upd_ne (fun z : b = A => n (by rw [z]; exact ma))]; exact h, fun b _ h => h.1, fun b h => by
      by_cases c : b = A
      · rw [c, upd_same]; simp
      · rw [upd_ne c]; exact h⟩
  have fin : ∀ u od, H A = some u → Rep G.toEn (L2.upd H A (.frz od u)) (fun b => M b ∧ b ≠ A) (.ref A) (.dic ps) → StOk G e' (fun b => M b ∧ b ≠ A) σ (L2.upd H A (.frz od u)) := fun u od hu rp => by
    have s := go u od hu
    have sub : ∀ {j}, Mu e' j → Mu e j := fun {j} ⟨p, h⟩ => h.elim (fun h => ⟨p, .inl (ho j p h)⟩) fun h => ⟨p, .inr ((hi j p).mp h)⟩
    refine ⟨hl.trans S.len, fun j p h => ?_, fun j p h => ?_, fun j p h => ?_, fun i j a mi mj => S.inj i j a (sub mi) (sub mj), fun j a h => ?_, fun a h => ⟨S.m0 a h, fun z => m0 (z ▸ h)⟩, fun a h => s.there a (S.trk a h.1), fun b o h n => ?_, fun a o h => ?_⟩
    · rcases hv j p h with h' | ⟨h', rfl⟩
      · obtain ⟨v, q1, q2⟩ := S.val j p h'
        exact ⟨v, q1, q2.step s⟩
      · exact ⟨_, h', rp⟩
    · obtain ⟨a, q1, q2, q3, q4, q5⟩ := S.own j p (ho j p h)
      have na : a ≠ A := fun z => hne j ⟨p, .inl h⟩ (z ▸ q1)
      exact ⟨a, q1, q2.step s (upd_ne na), ⟨q3, na⟩, q4, q5⟩
    · obtain ⟨a, q0, q1, q2, q3, q4⟩ := S.io j p ((hi j p).mp h)
      have na : a ≠ A := fun z => hne j ⟨p, .inr h⟩ (z ▸ q1)
      exact ⟨a, q0, q1, q2.step s (upd_ne na), ⟨q3, na⟩, q4⟩
    · obtain ⟨q1, p, q2⟩ := S.iol j a h
      exact ⟨q1, p, (hi j p).mpr q2⟩
    · have q := S.prs b o h n
      rw [upd_ne (fun z : b = A => by rw [z, h0] at h; cases h)]; exact q
    · obtain ⟨q1, q2⟩ := S.tmp a o h
      exact ⟨q1, by rw [upd_ne (fun z : a = A => m0 (z ▸ q1))]; exact q2⟩
  rcases ob with ⟨kvs, h1, h2, h3⟩ | ⟨c, h1, h2, h3, h4, h5⟩
  · refine ⟨_, h1, True.intro, fun od => ?_⟩
    have s := go _ od h1
    have rp : Rep G.toEn (L2.upd H A (.frz od (.dK kvs))) (fun b => M b ∧ b ≠ A) (.ref A) (.dic ps) := .dicK upd_same (fun z => z.2 rfl) h2 (h3.step s)
    exact ⟨fin _ od h1 rp, s, rp⟩
  · refine ⟨_, h1, True.intro, fun od => ?_⟩
    have s := go _ od h1
    have rp : Rep G.toEn (L2.upd H A (.frz od (DctG G.P G.w A c))) (fun b => M b ∧ b ≠ A) (.ref A) (.dic ps) := .dicG upd_same (fun z => z.2 rfl) (h2.step s) h3 h4 (h5.step s)
    exact ⟨fin _ od h1 rp, s, rp⟩
theorem q_frz (ha : PE X a (LE G qa)) : PE X a (LE G (qFrz qa)) := by
  refine ⟨fun pins s σ H Q I ⟨e, M, K, S, q, f⟩ => ?_⟩
  refine thn (ha.run pins s σ H (fun x H1 => ∃ e1 M1 r, StOk G e1 M1 σ H1 ∧ Step H M H1 M1 ∧ Res G e1 M1 σ H1 x r ∧ (match r with
    | .sh p => K (.sh p) e1
    | .fr (.dic ps) => K (.sh (.dic ps)) e1
    | .fr p => K (.fr p) e1
    | .bor i => match e1[i]? with
      | some (Sl.own (.dic ps)) => K (.sh (.dic ps)) (e1.set i (.val (.dic ps)))
      | _ => K (.bor i) e1)) I ⟨e, M, _, S, q, fun r e1 k v H1 M1 S1 s1 R => ⟨e1, M1, r, S1, s1, R, k⟩⟩) fun u s1 ⟨x, H1, I1, rx, e1, M1, r, S1, st, R, k⟩ => ?_
  have plain : ∀ r, K r e1 → Res G e1 M1 σ H1 x r → EP X pins σ Q u s1 := fun r k R => ⟨x, H1, I1, rx, f r e1 k x H1 M1 S1 st R⟩
  have locked : ∀ {A : Addr} {ps : List (PV × PV)} {e' : PEnv}, x = .ref A → (∃ u, H1 A = some u ∧ Mut (some u) ∧ ∀ od, StOk G e' (fun b => M1 b ∧ b ≠ A) σ (L2.upd H1 A (.frz od u)) ∧ Step H1 M1 (L2.upd H1 A (.frz od u)) (fun b => M1 b ∧ b ≠ A) ∧ Rep G.toEn (L2.upd H1 A (.frz od u)) (fun b => M1 b ∧ b ≠ A) (.ref A) (.dic ps)) → K (.sh (.dic ps)) e' → EP X pins σ Q u s1 := fun ex ⟨w, h1, h2, h3⟩ k => by
    subst ex
    obtain ⟨od, I2⟩ := L2.Inv.lock I1 h1 h2
    obtain ⟨S2, s2, rp⟩ := h3 od
    exact ⟨_, _, I2, rx, f _ _ k _ _ _ S2 (st.trans s2) rp⟩
  cases r with
  | sh p => exact plain _ k R
  | fr p =>
    cases p with
    | dic ps =>
      obtain ⟨A, ex, ob, ma, m0, h0, nj⟩ := R
      exact locked ex (S1.lock ob ma m0 h0 rfl (fun j p h => .inl h) (fun j p h => h) (fun j p => Iff.rfl) nj) k
    | _ => exact plain _ k R
  | bor i =>
    have k : (match e1[i]? with
      | some (Sl.own (.dic ps)) => K (.sh (.dic ps)) (e1.set i (.val (.dic ps)))
      | _ => K (.bor i) e1) := k
    split at k
    · rename_i ps hp
      obtain ⟨A, q1, ob, ma, m0, h0⟩ := S1.own i _ hp
      have ex : x = .ref A := by
        have R : σ[i]? = some (some x) := R
        rw [R] at q1; cases q1; rfl
      have li := get_lt hp
      refine locked ex (S1.lock ob ma m0 h0 (List.length_set ..) (fun j p h => ?_) (fun j p h => ?_) (fun j p => ?_) (fun j m z => ?_)) k
      · by_cases c : j = i
        · subst c
          rw [List.getElem?_set_self li] at h; cases h
          exact .inr ⟨q1, rfl⟩
        · rw [get_set_ne c] at h; exact .inl h
      · by_cases c : j = i
        · subst c
          rw [List.getElem?_set_self li] at h; cases h
        · rw [get_set_ne c] at h; exact h
      · by_cases c : j = i
        · subst c
          rw [List.getElem?_set_self li, hp]
          constructor <;> (intro z; cases z)
        · rw [get_set_ne c]
      · obtain ⟨c, m'⟩ := mu_set li m
        exact c (S1.inj j i A m' ⟨_, .inl hp⟩ z q1)
    · exact plain _ k R
/-! ### {} and {k: v, ..} -/
def qDnil : QE := fun e Q => Q (.fr (.dic [])) e
theorem StOk.newDic (S : StOk G e M σ H) {p : Addr} {o : HO} {ps : List (PV × PV)} (hp : H p = none) (ob : Step H M (L2.upd H p o) (fun a => a = p ∨ M a) → Obj G.toEn (L2.upd H p o) (fun a => a = p ∨ M a) p (.dic ps)) :
    StOk G e (fun a => a = p ∨ M a) σ (L2.upd H p o) ∧ Step H M (L2.upd H p o) (fun a => a = p ∨ M a) ∧ Res G e (fun a => a = p ∨ M a) σ (L2.upd H p o) (.ref p) (.fr (.dic ps)) := by
  obtain ⟨S', s⟩ := S.newM (o := o) hp
  refine ⟨S', s, p, rfl, ob s, .inl rfl, fun z => S.trk p (S.m0 p z) hp, S.h0 hp, fun j m z => ?_⟩
  obtain ⟨a, q, h1, _, h2, _⟩ := S.mu m
  rw [z] at h1; cases h1
  exact h2.there hp
theorem q_dnil : PE X (.Dict [] [] pos) (LE G qDnil) := PE.imp pe_dnewK fun σ H Q ⟨e, M, K, S, q, f⟩ p hp => by
  obtain ⟨S', st, rs⟩ := S.newDic (o := .dK []) (ps := []) hp fun s => .inl ⟨[], upd_same, rfl, .nil⟩
  exact f _ e q _ _ _ S' st rs
/-- {k: v}, k a whole number or a text -/
def qDone (qk qv : QE) : QE := fun e Q => qk e fun r e1 => keep r e1 fun k e2 => qv e2 fun r2 e3 => keep r2 e3 fun v e4 => (isT k = false ∧ keyA k = true) ∧ Q (.fr (.dic [(k, v)])) e4
theorem q_done {k v : Expr} {qk qv : QE} (hk : ∀ (D : Addr) (o : HO), Good (G.under D o) lv X → PE X k (LE (G.under D o) qk)) (hv : ∀ (D : Addr) (o : HO), Good (G.under D o) lv X → PE X v (LE (G.under D o) qv)) (g : Good G lv X) : PE X (.Dict [some k] [v] pos) (LE G (qDone qk qv)) := by
  have gu : ∀ D o, Good (G.under D o) lv X := fun D o => ⟨g.P, g.w, g.K, g.calm, g.nd, g.room⟩
  refine PE.imp (t := tDisp [(fun σ H Q => ∃ x : Addr × HO, LE (G.under x.1 x.2) qk σ H Q, fun σ H Q => ∃ x : Addr × HO, LE (G.under x.1 x.2) qv σ H Q)]) (pe_disp (pps_cons (pe_ex fun x => hk x.1 x.2 (gu _ _)) (pe_ex fun x => hv x.1 x.2 (gu _ _)) pps_nil) rfl rfl (by simp) (by simp)) ?_
  intro σ H Q ⟨e, M, K, S, q, f⟩ p hp
  have h0 : G.H0 p = none := S.h0 hp
  obtain ⟨S1, st1⟩ := S.enter hp (.dK [])
  refine ⟨(p, .dK []), e, _, _, S1, q, fun r e1 k1 x H1 M1 S2 s2 R => ?_⟩
  obtain ⟨kp, e2, M2, k2, S3, s3, R3⟩ := keep_ok S2 R k1
  refine ⟨(p, .dK []), e2, M2, _, S3, k2, fun r2 e3 k3 y H3 M3 S4 s4 R4 => ?_⟩
  obtain ⟨vp, e4, M4, ⟨⟨nt, ka⟩, k4⟩, S5, s5, R5⟩ := keep_ok S4 R4 k3
  obtain ⟨qm, qH⟩ := S5.tmp p (.dK []) List.mem_cons_self
  rcases keyA_cases ka with ⟨kk, rfl, _⟩ | ⟨_, it⟩
  · have ek : x = kV kk := rep_keyP R3
    have s35 : Step H1 M2 H3 M4 := s4.trans s5
    refine ⟨qH, [(kk, y)], by rw [ek]; rfl, by simp, ?_⟩
    have em : mergeK [] [(kk, y)] = [(kk, y)] := rfl
    rw [em]
    have nM : ¬ G.M0 p := fun z => S.trk p (S.m0 p z) hp
    have nt' : ∀ o, (p, o) ∉ G.tmp := fun o z => by rw [(S.tmp p o z).2] at hp; cases hp
    obtain ⟨S6, s6⟩ := S5.grow (w := .dK [(kk, y)]) nt' h0
    -- the dict is there; what surrounds it is as before
    have nj : ∀ j, Mu e4 j → σ[j]? ≠ some (some (V.ref p)) := fun j m z => by
      obtain ⟨a, q, q1, _, _, _, q4, _⟩ := S6.mu m
      rw [z] at q1; cases q1
      exact q4 (.inl rfl)
    have S7 : StOk G e4 M4 σ (L2.upd H3 p (.dK [(kk, y)])) := ⟨S6.len, S6.val, fun i p h => let ⟨a, q1, q2, q3, q4, q5⟩ := S6.own i p h; ⟨a, q1, q2, q3, fun z => q4 (.inr z), q5⟩, fun i p h => let ⟨a, q0, q1, q2, q3, q4⟩ := S6.io i p h; ⟨a, q0, q1, q2, q3, fun z => q4 (.inr z)⟩, S6.inj, S6.iol, fun a h => S6.m0 a (.inr h), S6.trk, S6.prs, fun a o h => let ⟨q1, q2⟩ := S6.tmp a o (List.mem_cons_of_mem _ h); ⟨(S.tmp a o h).1, q2⟩⟩
    have all : Step H M (L2.upd H3 p (.dK [(kk, y)])) M4 := ((((st1.trans s2).trans s3).trans s4).trans s5).trans s6
    exact f _ _ k4 _ _ _ S7 all ⟨p, rfl, .inl ⟨_, upd_same, rfl, .cons (R5.step s6) .nil⟩, S6.m0 p (.inl rfl), nM, h0, nj⟩
  · rw [nt] at it; cases it
/-! ### name op= e -/
theorem pip_of {op : Operator} {r : R2} (h : OpR X (inplaceOp op) r) : PIp X op r := fun pins s σ H x y v u Q I rx ry q => h pins s σ H x y v u Q I rx ry q
def sAugI (i : Nat) (g : PV → PV → (QV → Prop) → Prop) (qa : QE) : QS := fun E e => match e[i]? with
      | some (Sl.val p) => qa e fun r e1 => withP (acc e1 r) fun p2 => g p p2 fun r => storeS i r e1 E.nx
      | _ => False
theorem s_augI {i : Nat} {x : Str} {op : Operator} {r : R2} {g : PV → PV → (QV → Prop) → Prop} {pos' : Pos} (gd : Good G lv X) (ho : OpR X (inplaceOp op) r) (l : Lift2 G r g) (ha : PE X a (LE G qa)) (hi : X.N[i]? = some x := by rfl) (hx : Loc X.env.scope x := by first | exact Or.inl rfl | exact Or.inr rfl) (hf : X.fn x = true ∨ X.env.scope.names.lookup x = some .local := by first | exact .inl rfl | exact .inr rfl | assumption) :
    PS X (.AugAssign (.Name x pos') op a pos) (LS G (sAugI i g qa)) := PS.imp (ps_aug gd.nd hi hx ha (pip_of ho) hf) fun D σ H ⟨e, M, E, S, k, f⟩ => by
    unfold sAugI at k
    split at k
    · rename_i p hp
      obtain ⟨v, h1, rv⟩ := S.val i p hp
      refine ⟨v, h1, e, M, _, S, k, fun r e1 k1 w H1 M1 S1 s1 R => ?_⟩
      obtain ⟨p2, a2, k2⟩ := withP_of k1
      refine l e1 M1 σ H1 v w p p2 _ (fun r => storeS i r e1 E.nx) S1 (.inl (rv.step s1)) (Res.acc S1 R a2) k2 fun r kr z H2 M2 S2 s2 R2 => ?_
      obtain ⟨e3, M3, k3, S3, s3⟩ := store_fin S2 R2 kr
      exact f.nx e3 k3 _ H2 M3 S3 ((s1.trans s2).trans s3)
    · exact k.elim
end
end CP
/-! Dict comprehensions; walks over dicts. -/
namespace CP
open PySem PySem.Spec PyProof.Rows L2
/-- D[k] = v by the comprehension -/
def sPutG (P : Program) (w : World) (D : Addr) (y z : V) (H : Hp) (Nx : Hp → Prop) : Prop := ∃ (b : Addr) (k : NestedKey) (c : CnG), y = .ref b ∧ H D = some (DctG P w D c) ∧ KeysG H c ∧ KH H y k ∧ k.depth ≤ 8 ∧ c.length < sizeLine ∧ Nx (L2.upd H D (DctG P w D (putG c k b z)))
def tDcG (P : Program) (w : World) (wi : TI) (g : TG) (tt : TT) (tk tv : TE) (vs : List Nat) : TE := fun σ H Q => wi σ H fun J H1 => ∀ D, H1 D = none → ∃ W : Nat → Nat → Hp → Prop, (∃ m, W 0 m (L2.upd H1 D (DctG P w D []))) ∧ ∀ i m H, W i m H →
  (J.stop i H ∧ Q (.ref D) H) ∨ (J.go i H ∧ ∃ Nx : Hp → Prop, (∀ H', Nx H' → ∃ m', m' < m ∧ W (i + 1) m' H') ∧ ∀ x H', J.yld i H x H' → g x (wipe σ vs) H' fun σ2 H2 => wipe σ2 vs = wipe σ vs ∧ tt σ2 H2 fun b H3 =>
    if b = true then tk σ2 H3 fun y H4 => tv σ2 H4 fun z H5 => sPutG P w D y z H5 Nx else Nx H3)
theorem dctGI_new (P : Program) (w : World) (h : Heap) (hb : sysModules < h.objs.size) : DctGI P w h.objs.size [] (h.push { cls := .type "dict", data := .dict #[] }) :=
  ⟨beq_eq_false_iff_ne.mpr (Nat.ne_of_gt hb), _, #[], 0, [], Heap.get?_push_size _ rfl, ⟨rfl, rfl, rfl⟩, rfl, rfl, List.nodup_nil, .nil⟩
section
variable {X : Cx}
theorem dictSet_G {pins : List (Addr × PySem.Obj)} {σ : L2.St} {H : Hp} {s : Shared} {E : Value → Shared → Prop} {D : Addr} {y z : V} {uy uz : Value} {Nx : Hp → Prop} {Q : Unit → Shared → Prop} (room : X.A.units + 64 < cLine) (V0 : L2.Inv X pins σ H s) (ry : RelV y uy) (rz : RelV z uz) (h : sPutG X.prog X.w D y z H Nx)
    (fin : ∀ s' H', L2.Inv X pins σ H' s' → Nx H' → Q () s') : wpAny (model X.prog X.w) X.A (dictSet D uy uz) Q E s := by
  obtain ⟨b, k, c, rfl, h1, h2, hk, dp, few, q⟩ := h
  obtain ⟨sy, us, M, l⟩ := dgv_get V0 (.inl ⟨Rd.of h1, h2⟩)
  have le := Paired.length l
  cases ry
  refine wpAny_dictSet_heap (knd := nestedKind X.prog X.w) (hsz := by omega) (by show _ + 8 < cLine; omega) ⟨hk.is V0 rfl, dp⟩ M fun h' M' sb => ?_
  have he : ∃ q, h'.get? D = some q := let ⟨q, _, _, hq, _⟩ := M'; ⟨q, hq⟩
  exact fin _ _ (d_write V0 (by rw [h1]; exact True.intro) sb he (dctG_ok (dctGI_of sy M' (likeG_put rz l)))) q
theorem pe_dcG {kx vx tg iter : Expr} {ifs : List Expr} {scope : Scope} {own : List (Str × Nat)} {pos : Pos} {wi : TI} {g : TG} {tt : TT} {tk tv : TE} (calm : X.calm = true) (once : X.N.Nodup) (room : X.A.units + 64 < cLine) (ri : PI X tg iter wi) (blk : BlkOk X.N X.env.scope scope own)
    (rg : ∀ s H C cl fp, PG (X.blk s H scope (compEnvC scope cl C X.env) fp) tg g) (rt : ∀ s H C cl fp, PTs (X.blk s H scope (compEnvC scope cl C X.env) fp) ifs tt)
    (rk : ∀ s H C cl fp, PE (X.blk s H scope (compEnvC scope cl C X.env) fp) kx tk) (rv : ∀ s H C cl fp, PE (X.blk s H scope (compEnvC scope cl C X.env) fp) vx tv) (plain : ∀ x, foldedSetIterable iter X.env x = pure x := by intro _; rfl) :
    PE X (.DictComp kx vx [⟨tg, iter, ifs, 0⟩] scope pos) (tDcG X.prog X.w wi g tt tk tv (own.map (·.2))) := by
  refine ⟨fun pins s σ H Q V0 want => ?_⟩
  rw [arm_eval_DictComp]
  have cells : ∀ y ∈ scope.names, y.2 = .free → ∃ c, X.env.cells.lookup y.1 = some c := fun y hy e => (blk.free y hy e).elim (fun q => V0.ok.has _ (.inl q)) fun q => V0.ok.has _ (.inr q)
  refine wpAny_comprehension_free rfl plain (closure_ok cells) blk.kind (fun y hy e => by rw [blk.uniq y hy, e]) (thn (ri.run pins s σ H _ V0 want) fun xv s1 hx => thn hx fun itv s2 ⟨it, fp, tn, J, H2, e, V2, T, w2, p2, q⟩ => ?_)
  subst e
  refine wpAny_newObj_type (newEnv_comp ?_)
  have big := V2.big
  -- the new dict at D, and the block's own names behind it
  generalize eD : s2.heap.objs.size = D
  have nD : H2 D = none := V2.hok.fresh (Nat.le_of_eq eD)
  obtain ⟨W, ⟨m0, w0⟩, turn⟩ := q D nD
  generalize e3 : ({ s2 with heap := s2.heap.push { cls := .type "dict", data := .dict #[] } } : Shared) = s3
  have hp3 : s3.heap = s2.heap.push { cls := .type "dict", data := .dict #[] } := by rw [← e3]
  have V3 : L2.Inv X pins σ (L2.upd H2 D (DctG X.prog X.w D [])) s3 := by
    subst e3
    refine V2.laid (t' := s2.toks) (fun b o e => Heap.get?_push_of_some _ e) (Nat.le_of_eq eD) ?_
    subst eD
    exact dctG_ok (dctGI_new X.prog X.w s2.heap V2.big)
  have old : ∀ b ∈ fp, b < s2.heap.objs.size := fun b hb => let ⟨_, e, _⟩ := T.obj _ _ w2 b hb; Heap.lt_size e
  have p3 : ∀ b ∈ fp, FpOk X pins (L2.upd H2 D (DctG X.prog X.w D [])) b ∧ b < s3.heap.objs.size := fun b hb => by
    have lt := old b hb
    refine ⟨⟨by rw [upd_ne (by rw [← eD]; exact Nat.ne_of_lt lt)]; exact (p2 b hb).1, (p2 b hb).2⟩, ?_⟩
    rw [hp3, Heap.size_push]; exact Nat.lt_succ_of_lt lt
  have w3 : tn 0 s3.heap := T.keep _ _ _ w2 fun b _ o e => hp3 ▸ Heap.get?_push_of_some _ e
  have V4 := block_start V3 blk once p3
  have free3 : ∀ b ∈ fp, (L2.upd H2 D (DctG X.prog X.w D [])) b = none := fun b hb => (p3 b hb).1.1
  generalize hcl : cellsFrom (s3.heap.objs.size + 1) scope.names (cloFrom X.env.cells scope.names []) = cl at V4
  have rg := rg s3 (L2.upd H2 D (DctG X.prog X.w D [])) s3.heap.objs.size cl fp
  have rt := rt s3 (L2.upd H2 D (DctG X.prog X.w D [])) s3.heap.objs.size cl fp
  have rk := rk s3 (L2.upd H2 D (DctG X.prog X.w D [])) s3.heap.objs.size cl fp
  have rv := rv s3 (L2.upd H2 D (DctG X.prog X.w D [])) s3.heap.objs.size cl fp
  show codeAny _ _ (.compStart _ 0 (.ref it) (.ref D) (compEnvC scope cl s3.heap.objs.size X.env)) _ { s3 with heap := pushCells (s3.heap.push { cls := .type "dict", data := .dict #[] }) scope.names }
  generalize hce : compEnvC scope cl s3.heap.objs.size X.env = ce at V4 rg rt rk rv ⊢
  have loc : ce.locals = s3.heap.objs.size := by subst hce; rfl
  generalize L2.upd H2 D (DctG X.prog X.w D []) = H3 at V3 V4 rg rt rk rv w0 free3 p3
  generalize e4 : ({ s3 with heap := pushCells (s3.heap.push { cls := .type "dict", data := .dict #[] }) scope.names } : Shared) = s4 at V4 ⊢
  have w4 : tn 0 s4.heap := T.keep _ _ _ w3 fun b _ o e => by subst e4; exact pushCells_keeps _ _ _ _ (Heap.get?_push_of_some _ e)
  have aside : ∀ {σ' : L2.St} {H' : Hp} {s' : Shared}, L2.Inv (X.blk s3 H3 scope ce fp) [] σ' H' s' → (∀ b ∈ fp, H' b = none) → ∀ b ∈ fp, FpOk (X.blk s3 H3 scope ce fp) [] H' b := fun V' nn b hb =>
    ⟨nn b hb, (V'.ok.exf b hb).1, V'.ok.exfs b hb, .inl hb, fun x c e => (V'.ok.exf b hb).2 x c e, fun p hp => absurd hp (by simp)⟩
  have loop : codeAny (model X.prog X.w) X.A (.compLoop (.DictComp kx vx [⟨tg, iter, ifs, 0⟩] scope pos) 0 (.ref it) (.ref D) ce) (compPost (model X.prog X.w) X.A X.xe none (EP X pins σ Q) (.ref D) s3.heap.objs.size) s4 := by
    refine compLoop_anyD (fun n s' => ∃ i H', L2.Inv (X.blk s3 H3 scope ce fp) [] (wipe σ (own.map (·.2))) H' s' ∧ tn i s'.heap ∧ (∀ b ∈ fp, H' b = none) ∧ W i n H') ?_ m0 ⟨0, H3, V4, w4, free3, w0⟩
    rintro n s5 ⟨i, H5, V5, w5, n5, u5⟩
    rcases turn i n H5 u5 with ⟨halt, got⟩ | ⟨go, Nx, down, step⟩
    · refine thnF (T.done (X.blk s3 H3 scope ce fp) rfl rfl rfl calm i [] s5 _ H5 (fun _ _ => False) V5 (aside V5 n5) w5 halt) fun r s6 ⟨er, V6⟩ => ?_
      subst er
      -- back among the def's own names
      have V7 : L2.Inv X pins σ H5 s6 := V3.call' (ch := fp) V6.os V6.base V6.hok V6.bare fun b hb => let z := (p3 b hb).1.2; ⟨z.2.2.1, z.1, z.2.2.2.1, z.2.2.2.2⟩
      have nC : H5 s3.heap.objs.size = none := loc ▸ V6.free
      obtain ⟨m, ns, _⟩ := V6.loc
      have ns : s6.heap.Ns s3.heap.objs.size m := loc ▸ ns
      obtain ⟨f0, f1, f2, f3, f4, f5⟩ := V3.fpOk (Nat.le_refl _) nC
      exact ⟨m, ns, fun h2 sb => ⟨.ref D, H5, V7.turned (t' := s6.toks) (fun b o hb e => (sb.2 b hb).trans e) f0 f1 f3 f4 f5, rfl, got⟩⟩
    · refine thnF (T.item (X.blk s3 H3 scope ce fp) rfl rfl rfl calm i [] s5 _ H5 (fun _ _ => False) V5 (aside V5 n5) w5 go) fun r s6 ⟨u, er, h6⟩ => ?_
      subst er
      refine thnF h6 fun _ s7 ⟨x, H7, V7, r7, y7, w7, n7⟩ => ?_
      have P7 := V7.pinned (aside V7 n7) (T.obj _ _ w7)
      refine thnF (rg.run _ s7 _ H7 x u _ P7 r7 (step x H7 y7)) fun _ s8 ⟨σ8, H8, V8, same8, q8⟩ => ?_
      refine thnF (rt.run _ s8 σ8 H8 _ V8 q8) fun b s9 ⟨H9, V9, q9⟩ => ?_
      have next : ∀ {s' : Shared} {H' : Hp}, L2.Inv (X.blk s3 H3 scope ce fp) ([] ++ pinsAt fp s7.heap) σ8 H' s' → Nx H' → ∃ m, m < n ∧ ∃ i H', L2.Inv (X.blk s3 H3 scope ce fp) [] (wipe σ (own.map (·.2))) H' s' ∧ tn i s'.heap ∧ (∀ b ∈ fp, H' b = none) ∧ W i m H' := fun {s' H'} V' nx => by
        obtain ⟨m', lt, u'⟩ := down H' nx
        have fixed : ∀ b ∈ fp, ∀ o, s7.heap.get? b = some o → s'.heap.get? b = some o ∧ H' b = none := fun b hb o e =>
          let z := V'.pin (b, o) (List.mem_append_right _ (List.mem_append_right _ (mem_pinsAt hb e))); ⟨z.1, z.2.1⟩
        refine ⟨m', lt, i + 1, H', (V'.unpinned (pins := [])).weak (by rw [← same8, wipe_length]) (fun j v e => (wipe_some (same8 ▸ e)).1), T.keep _ _ _ w7 fun b hb o e => (fixed b hb o e).1, fun b hb => ?_, u'⟩
        obtain ⟨o, e, _⟩ := T.obj _ _ w7 b hb
        exact (fixed b hb o e).2
      cases b with
      | false =>
        simp only [Bool.false_eq_true, if_false] at q9 ⊢
        exact next V9 q9
      | true =>
        simp only [if_true] at q9 ⊢
        refine thnF (rk.run _ s9 σ8 H9 _ V9 q9) fun z1 s10 ⟨yk, H10, V10, r10, q10⟩ => thnF (rv.run _ s10 σ8 H10 _ V10 q10) fun z2 s11 ⟨yv, H11, V11, r11, q11⟩ => ?_
        exact dictSet_G (X := X.blk s3 H3 scope ce fp) room V11 r10 r11 q11 fun s12 H12 V12 nx => next V12 nx
  exact codeAny_compStart_dict loop (T.self X.A 0 _ _ _ w4 loop)
/-! ### as values -/
def runD (tp : Bool) (g : QG) (t : QT) (qk qv : QE) (vs : List Nat) : List PV → List (PV × PV) → PEnv → (List (PV × PV) → PEnv → Prop) → Prop
  | [], acc, e, k => k acc e
  | p :: ps, acc, e, k => g p e fun e1 => t e1 fun b e2 => if b = true then qk e2 fun r e3 => keep r e3 fun kk e4 => qv e4 fun r2 e5 => keep r2 e5 fun x e6 => (keyA kk = true ∧ isT kk = tp ∧ acc.length < SZ) ∧ runD tp g t qk qv vs ps (pput acc kk x) (wipeE e6 vs) k else runD tp g t qk qv vs ps acc (wipeE e2 vs) k
def qDc (tp : Bool) (i : QI) (g : QG) (t : QT) (qk qv : QE) (vs : List Nat) : QE := fun e Q => i e fun items e1 => noIo e1 vs = true ∧ runD tp g t qk qv vs items [] (wipeE e1 vs) fun acc e2 => Q (.fr (.dic acc)) (backE e1 e2 vs)
/-- o is the dict's content -/
def DObj (G : En) (H : Hp) (M : Addr → Prop) (D : Addr) (tp : Bool) (o : HO) (ps : List (PV × PV)) : Prop := match tp with
  | false => ∃ kvs : List (Key × V), o = .dK kvs ∧ ps.map (·.1) = kvs.map (fun p => keyP p.1) ∧ RepAll G H M (kvs.map (·.2)) (ps.map (·.2))
  | true => ∃ c, o = DctG G.P G.w D c ∧ RepAll G H M (c.map fun x => .ref x.2.1) (ps.map (·.1)) ∧ (ps.all fun p => PV.keyB p.1) = true ∧ c.map (·.1) = ps.map (fun p => PV.nk p.1) ∧ RepAll G H M (c.map (·.2.2)) (ps.map (·.2))
theorem DObj.obj {G : En} {H : Hp} {M : Addr → Prop} {D : Addr} {tp : Bool} {o : HO} {ps : List (PV × PV)} (h : DObj G H M D tp o ps) (e : H D = some o) : Obj G H M D (.dic ps) := by
  cases tp with
  | false => obtain ⟨kvs, rfl, h1, h2⟩ := h; exact .inl ⟨kvs, e, h1, h2⟩
  | true => obtain ⟨c, rfl, h1, h2, h3, h4⟩ := h; exact .inr ⟨c, e, h1, h2, h3, h4⟩
theorem DObj.step {G : En} {H H' : Hp} {M M' : Addr → Prop} {D : Addr} {tp : Bool} {o : HO} {ps : List (PV × PV)} (h : DObj G H M D tp o ps) (s : Step H M H' M') : DObj G H' M' D tp o ps := by
  cases tp with
  | false => obtain ⟨kvs, e, h1, h2⟩ := h; exact ⟨kvs, e, h1, h2.step s⟩
  | true => obtain ⟨c, e, h1, h2, h3, h4⟩ := h; exact ⟨c, e, h1.step s, h2, h3, h4.step s⟩
def newD (G : En) (D : Addr) : Bool → HO
  | false => .dK []
  | true => DctG G.P G.w D []
theorem DObj.new {G : En} {H : Hp} {M : Addr → Prop} {D : Addr} : ∀ {tp : Bool}, DObj G H M D tp (newD G D tp) []
  | false => ⟨[], rfl, rfl, .nil⟩
  | true => ⟨[], rfl, .nil, rfl, rfl, .nil⟩
def putD (G : En) (D : Addr) (tp : Bool) (y z : V) (H : Hp) (Nx : Hp → Prop) : Prop := match tp with
  | false => ∃ kvs k, y = kV k ∧ H D = some (.dK kvs) ∧ kvs.length < sizeLine ∧ Nx (L2.upd H D (.dK (putK kvs k z)))
  | true => sPutG G.P G.w D y z H Nx
variable {G : Gh} {lv : Nat}
theorem dobj_put {H : Hp} {M : Addr → Prop} {D : Addr} {tp : Bool} {o : HO} {ps : List (PV × PV)} {y z : V} {k x : PV} {Nx : Hp → Prop} (h : DObj G.toEn H M D tp o ps) (e : H D = some o) (ka : keyA k = true) (kt : isT k = tp) (few : ps.length < SZ) (ry : Rep G.toEn H M y k) (rx : Rep G.toEn H M z x)
    (fin : ∀ o', (∀ H' M', Step H M H' M' → DObj G.toEn H' M' D tp o' (pput ps k x)) → Nx (L2.upd H D o')) : putD G.toEn D tp y z H Nx := by
  rcases keyA_cases ka with ⟨kk, rfl, it⟩ | ⟨kb, it⟩
  · rw [it] at kt; subst kt
    obtain ⟨kvs, rfl, h1, h2⟩ := h
    have hl : kvs.length = ps.length := by have := congrArg List.length h1; simpa using this.symm
    obtain ⟨g1, g2⟩ := put_k rx h1 h2
    exact ⟨kvs, kk, rep_keyP ry, e, by rw [hl]; exact sz_fits1 few, fin _ fun H' M' s => ⟨_, rfl, g1, g2.step s⟩⟩
  · rw [it] at kt; subst kt
    obtain ⟨c, rfl, h1, h2, h3, h4⟩ := h
    have hl : c.length = ps.length := by have := congrArg List.length h3; simpa using this
    obtain ⟨b, rfl, kh, dp⟩ := rep_keyB ry kb
    obtain ⟨g1, g2, g3, g4⟩ := put_g ry kb rx h1 h2 h3 h4
    exact ⟨b, _, c, rfl, e, keys_of h1 h2 h3, kh, dp, by rw [hl]; exact sz_fits1 few, fin _ fun H' M' s => ⟨_, rfl, g1.step s, g2, g3, g4.step s⟩⟩
theorem dc_fin {tp : Bool} {σ : L2.St} {items : List PV} {J : It} {vs : List Nat} {qg : QG} {qt : QT} {qk qv : QE} {Q : VK} {e1 : PEnv} {M1 : Addr → Prop} {H1 : Hp} {K : List (PV × PV) → PEnv → Prop} (S1 : StOk G e1 M1 σ H1) (W : Walks G J items H1 M1) (hl : items.length ≤ sizeLine)
    (no : noIo e1 vs = true) (run : runD tp qg qt qk qv vs items [] (wipeE e1 vs) K) (fin : ∀ acc e2, K acc e2 → Aft G σ H1 M1 Q (.fr (.dic acc)) (backE e1 e2 vs)) {g' : TG} {t' : TT} {tk' tv' : TE}
    (hg : ∀ D o v σ H Q, LG (Gh.under G D o) vs qg v σ H Q → g' v σ H Q) (ht : ∀ D o σ H Q, LT (Gh.under G D o) qt σ H Q → t' σ H Q) (hk : ∀ D o σ H Q, LE (Gh.under G D o) qk σ H Q → tk' σ H Q) (hv : ∀ D o σ H Q, LE (Gh.under G D o) qv σ H Q → tv' σ H Q) :
    ∀ D, H1 D = none → ∃ W : Nat → Nat → Hp → Prop, (∃ m, W 0 m (L2.upd H1 D (newD G.toEn D tp))) ∧ ∀ i m H, W i m H → (J.stop i H ∧ Q (.ref D) H) ∨ (J.go i H ∧ ∃ Nx : Hp → Prop, (∀ H', Nx H' → ∃ m', m' < m ∧ W (i + 1) m' H') ∧ ∀ x H', J.yld i H x H' → g' x (wipe σ vs) H' fun σ2 H2 => wipe σ2 vs = wipe σ vs ∧ t' σ2 H2 fun b H3 =>
      if b = true then tk' σ2 H3 fun y H4 => tv' σ2 H4 fun z H5 => putD G.toEn D tp y z H5 Nx else Nx H3) := by
  intro D hD
  have h0 : G.H0 D = none := S1.h0 hD
  have nt : ∀ o, (D, o) ∉ G.tmp := fun o z => by rw [(S1.tmp D o z).2] at hD; cases hD
  have nM : ¬ G.M0 D := fun z => S1.trk D (S1.m0 D z) hD
  have noi : ∀ i a, (i, a) ∈ G.iol → i ∉ vs := fun i a h c => by
    obtain ⟨_, p, q2⟩ := S1.iol i a h
    exact noIo_of no c p q2
  obtain ⟨Sn, sn⟩ := S1.enter hD (newD G.toEn D tp)
  refine ⟨fun i m H' => m = items.length - i ∧ i ≤ items.length ∧ ∃ (acc : List (PV × PV)) (o : HO) (e' : PEnv) (M' : Addr → Prop), StOk (G.under D o) e' M' (wipe σ vs) H' ∧ Step H1 M1 H' M' ∧ DObj G.toEn H' M' D tp o acc ∧ (∀ j ∈ vs, ∀ s, e'[j]? = some s → s = .no) ∧ runD tp qg qt qk qv vs (items.drop i) acc e' K,
    ⟨_, rfl, Nat.zero_le _, [], _, wipeE e1 vs, _, Sn.wiped (fun i a h => noi i a h), sn, .new, fun j hj s h => wipeE_in hj h, run⟩, ?_⟩
  rintro i m H2 ⟨rfl, hi, acc, o, e2, M2, S2, s2, ra, hv2, k2⟩
  obtain ⟨wg, ws⟩ := W H2 M2 s2 S2.trk
  by_cases c : i < items.length
  · have hp : items[i]? = some items[i] := List.getElem?_eq_getElem c
    obtain ⟨go, yl⟩ := wg i _ hp
    rw [List.drop_eq_getElem_cons c] at k2
    refine .inr ⟨go, fun H' => ∃ (acc : List (PV × PV)) (o : HO) (e' : PEnv) (M' : Addr → Prop), StOk (G.under D o) e' M' (wipe σ vs) H' ∧ Step H1 M1 H' M' ∧ DObj G.toEn H' M' D tp o acc ∧ (∀ j ∈ vs, ∀ s, e'[j]? = some s → s = .no) ∧ runD tp qg qt qk qv vs (items.drop (i + 1)) acc e' K, fun H' h => ⟨items.length - (i + 1), by omega, rfl, c, h⟩, fun x H3 y => ?_⟩
    obtain ⟨y1, y3⟩ := yl x H3 y
    have sy : Step H2 M2 H3 M2 := step_grow1 y1
    refine hg D o _ _ _ _ ⟨e2, M2, items[i], _, S2.grow1 y1, y3, k2, fun e4 k4 σ4 H4 M4 S4 s4 w4 => ?_⟩
    have w4' : wipe σ4 vs = wipe σ vs := by rw [w4, wipe_idem]
    refine ⟨w4', ht D o _ _ _ ⟨e4, M4, _, S4, k4, fun b e5 k5 H5 M5 S5 s5 => ?_⟩⟩
    have st5 : Step H2 M2 H5 M5 := (sy.trans s4).trans s5
    cases b with
    | false =>
      refine ⟨acc, o, wipeE e5 vs, M5, ?_, s2.trans st5, ra.step st5, fun j hj s h => wipeE_in hj h, k5⟩
      rw [← w4']
      exact S5.wiped (fun i a h => noi i a h)
    | true =>
      refine hk D o _ _ _ ⟨e5, M5, _, S5, k5, fun r e6 k6 v H6 M6 S6 s6 R6 => ?_⟩
      obtain ⟨kp, e7, M7, k7, S7, s7, R7⟩ := keep_ok S6 R6 k6
      refine hv D o _ _ _ ⟨e7, M7, _, S7, k7, fun r2 e8 k8 v2 H8 M8 S8 s8 R8 => ?_⟩
      obtain ⟨xp, e9, M9, ⟨⟨ka, kt, few⟩, k9⟩, S9, s9, R9⟩ := keep_ok S8 R8 k8
      have st9 : Step H2 M2 H8 M9 := (((st5.trans s6).trans s7).trans s8).trans s9
      obtain ⟨q1, q2⟩ := S9.tmp D o List.mem_cons_self
      refine dobj_put (ra.step st9) q2 ka kt few (R7.step (s8.trans s9)) R9 fun o' ob' => ?_
      obtain ⟨Sg, sg⟩ := S9.grow (w := o') nt h0
      refine ⟨pput acc kp xp, o', wipeE e9 vs, M9, ?_, (s2.trans st9).trans sg, ob' _ _ sg, fun j hj s h => wipeE_in hj h, k9⟩
      rw [← w4']
      exact Sg.wiped (fun i a h => noi i a h)
  · have ei : i = items.length := by omega
    subst ei
    rw [List.drop_length] at k2
    refine .inl ⟨ws, fin acc e2 k2 _ _ M2 (S1.leave s2 S2 rfl hv2) s2 ⟨D, rfl, ?_, S2.m0 D (.inl rfl), nM, h0, fun j m z => ?_⟩⟩
    · exact ra.obj (S2.tmp D o List.mem_cons_self).2
    · have S' := S1.leave s2 S2 rfl hv2
      obtain ⟨p, h⟩ := m
      have key : j ∉ vs ∧ Mu e2 j := by
        rcases h with h | h
        · rcases backE_some h with ⟨c, h⟩ | ⟨_, h⟩
          · exact ⟨c, p, .inl h⟩
          · unfold stayV at h; split at h <;> cases h
        · rcases backE_some h with ⟨c, h⟩ | ⟨_, h⟩
          · exact ⟨c, p, .inr h⟩
          · unfold stayV at h; split at h <;> cases h
      obtain ⟨a, q, q1, _, _, _, q4, _⟩ := S2.mu key.2
      rw [sig_out key.1, z] at q1
      cases q1
      exact q4 (.inl rfl)
variable {kx vx tg iter : Expr} {ifs : List Expr} {scope : Scope} {own : List (Str × Nat)} {pos : Pos} {qi : QI} {qg : QG} {qt : QT} {qk qv : QE}
theorem q_dc (tp : Bool) (g : Good G lv X) (hi : PI X tg iter (LI G qi)) (ok : BlkOk X.N X.env.scope scope own)
    (hg : ∀ (s : Shared) (H : Hp) (C : Addr) (cl : List (Str × Addr)) (fp : List Addr) (D : Addr) (o : HO), Good (G.under D o) lv (X.blk s H scope (compEnvC scope cl C X.env) fp) → PG (X.blk s H scope (compEnvC scope cl C X.env) fp) tg (LG (G.under D o) (own.map (·.2)) qg))
    (ht : ∀ (s : Shared) (H : Hp) (C : Addr) (cl : List (Str × Addr)) (fp : List Addr) (D : Addr) (o : HO), Good (G.under D o) lv (X.blk s H scope (compEnvC scope cl C X.env) fp) → PTs (X.blk s H scope (compEnvC scope cl C X.env) fp) ifs (LT (G.under D o) qt))
    (hk : ∀ (s : Shared) (H : Hp) (C : Addr) (cl : List (Str × Addr)) (fp : List Addr) (D : Addr) (o : HO), Good (G.under D o) lv (X.blk s H scope (compEnvC scope cl C X.env) fp) → PE (X.blk s H scope (compEnvC scope cl C X.env) fp) kx (LE (G.under D o) qk))
    (hv : ∀ (s : Shared) (H : Hp) (C : Addr) (cl : List (Str × Addr)) (fp : List Addr) (D : Addr) (o : HO), Good (G.under D o) lv (X.blk s H scope (compEnvC scope cl C X.env) fp) → PE (X.blk s H scope (compEnvC scope cl C X.env) fp) vx (LE (G.under D o) qv))
    (hs : ∀ x, foldedSetIterable iter X.env x = pure x := by intro _; rfl) : PE X (.DictComp kx vx [⟨tg, iter, ifs, 0⟩] scope pos) (LE G (qDc tp qi qg qt qk qv (own.map (·.2)))) := by
  have a1 := fun s H C cl fp => pg_ex fun D => pg_ex fun o => hg s H C cl fp D o (g.blk D o s H scope _ fp)
  have a2 := fun s H C cl fp => pts_ex fun D => pts_ex fun o => ht s H C cl fp D o (g.blk D o s H scope _ fp)
  have a3 := fun s H C cl fp => pe_ex fun D => pe_ex fun o => hk s H C cl fp D o (g.blk D o s H scope _ fp)
  have a4 := fun s H C cl fp => pe_ex fun D => pe_ex fun o => hv s H C cl fp D o (g.blk D o s H scope _ fp)
  cases tp with
  | false =>
    refine PE.imp (pe_dc g.calm g.nd hi ok a1 a2 a3 a4 hs) fun σ H Q ⟨e, M, K, S, q, f⟩ => ?_
    refine ⟨e, M, _, S, q, fun items e1 k1 hl J H1 M1 S1 s1 W => ?_⟩
    exact dc_fin (g' := UG G (own.map (·.2)) qg) (t' := UT G qt) (tk' := UE G qk) (tv' := UE G qv) S1 W hl k1.1 k1.2 (fun acc e2 k => (f _ _ k).from s1) (fun D xs v σ H Q k => ⟨D, xs, k⟩) (fun D xs σ H Q k => ⟨D, xs, k⟩) (fun D xs σ H Q k => ⟨D, xs, k⟩) (fun D xs σ H Q k => ⟨D, xs, k⟩)
  | true =>
    refine PE.imp (g.P ▸ g.w ▸ pe_dcG g.calm g.nd g.units hi ok a1 a2 a3 a4 hs : PE X _ (tDcG G.P G.w _ _ _ _ _ _)) fun σ H Q ⟨e, M, K, S, q, f⟩ => ?_
    refine ⟨e, M, _, S, q, fun items e1 k1 hl J H1 M1 S1 s1 W => ?_⟩
    exact dc_fin (g' := UG G (own.map (·.2)) qg) (t' := UT G qt) (tk' := UE G qk) (tv' := UE G qv) S1 W hl k1.1 k1.2 (fun acc e2 k => (f _ _ k).from s1) (fun D xs v σ H Q k => ⟨D, xs, k⟩) (fun D xs σ H Q k => ⟨D, xs, k⟩) (fun D xs σ H Q k => ⟨D, xs, k⟩) (fun D xs σ H Q k => ⟨D, xs, k⟩)
end
end CP
/-! Walks over dicts; sorted, list of a dict; dict of pairs. -/
namespace CP
open PySem PySem.Spec PyProof.Rows L2
/-- u is a dict's content at d, vs its keys -/
def KysU (P : Program) (w : World) (d : Addr) (u : HO) (vs : List V) : Prop := (∃ kvs : List (Key × V), u = .dK kvs ∧ vs = kvs.map fun p => kV p.1) ∨ ∃ c, u = DctG P w d c ∧ vs = c.map fun x => V.ref x.2.1
theorem keys_rel {P : Program} {w : World} : ∀ {es : List DictEntry} {ws : List (Key × Value)} {kvs : List (Key × V)}, Pairs (mixKind P w) es ws → KV kvs ws → Vals (kvs.map fun p => kV p.1) (es.map (·.key))
  | _, _, _, .nil, r => by cases r; exact .nil
  | _, _, _, .cons h1 h2 t, r => by
    cases r with
    | cons r0 rt => exact .cons (by dsimp only; rw [r0.1]; exact relV_key (show keyIs _ _ = true from h1)) (keys_rel t rt)
theorem keys_relG {P : Program} {w : World} : ∀ {us : List (NestedKey × Addr × Value)} {c : CnG}, Paired LikeG c us → Vals (c.map fun x => V.ref x.2.1) ((us.map (entryOfKey (nestedKind P w))).map (·.key))
  | _, _, .nil => .nil
  | _, _, .cons h t => .cons (by show (Value.ref _) = Value.ref _; rw [h.2.1]) (keys_relG t)
section
variable {X : Cx} {pins : List (Addr × PySem.Obj)} {σ : L2.St} {H : Hp} {s : Shared}
theorem kys_raw {d : Addr} {u : HO} {vs : List V} (k : KysU X.prog X.w d u vs) (ok : ObjOk X.prog X.w H s.heap d u) : (d == sysModules) = false ∧ ∃ o es ep, s.heap.get? d = some o ∧ o.ExactDict ∧ o.data = .dict es ep ∧ Vals vs (es.toList.map (·.key)) := by
  rcases k with ⟨kvs, rfl, rfl⟩ | ⟨c, rfl, rfl⟩
  · obtain ⟨_, sy, ws, rel, o, es, ep, h1, h2, h3, _, h5, _⟩ := ok
    exact ⟨sy, o, es, ep, h1, h2, h3, keys_rel h5 rel⟩
  · obtain ⟨⟨sy, o, es, ep, us, h1, h2, h3, h4, _, h6⟩, _⟩ := ok
    refine ⟨sy, o, es, ep, h1, h2, h3, ?_⟩
    rw [h4]
    exact keys_relG h6
theorem kys_len {d : Addr} {vs : List V} {es : Array DictEntry} (r : Vals vs (es.toList.map (·.key))) : es.size = vs.length := by
  have := r.length
  rw [List.length_map, Array.length_toList] at this
  exact this.symm
theorem kys_at {vs : List V} {es : Array DictEntry} (r : Vals vs (es.toList.map (·.key))) {i : Nat} {v : V} (h : vs[i]? = some v) : ∃ en, es[i]? = some en ∧ RelV v en.key := by
  obtain ⟨u, hu, ru⟩ := r.get h
  rw [List.getElem?_map, Array.getElem?_toList] at hu
  cases q : es[i]? with
  | none => rw [q] at hu; cases hu
  | some en => rw [q] at hu; cases hu; exact ⟨en, rfl, ru⟩
end
/-- the keys of the locked dict, one by one -/
def Itq (P : Program) (w : World) (d : Addr) (o : PySem.Obj) (u : HO) (vs : List V) : It :=
  ⟨fun i H => (H d = some (.frz o u) ∧ KysU P w d u vs) ∧ i < vs.length, fun i H x H' => H' = H ∧ vs[i]? = some x, fun i H => (H d = some (.frz o u) ∧ KysU P w d u vs) ∧ vs.length ≤ i⟩
theorem turn_q {P : Program} {w : World} {K : PySem.W.Frag} {tg : Expr} {d : Addr} {o : PySem.Obj} {u : HO} {vs : List V} {es : Array DictEntry} {ep : Nat} (it : Addr) (hod : o.data = .dict es ep) :
    Turn P w K tg (Itq P w d o u vs) [it] it (fun i h => h.IsKeyIter it d i vs.length ep) := by
  have look : ∀ {X : Cx} {pins : List (Addr × PySem.Obj)} {σ : L2.St} {H : Hp} {s : Shared}, X.prog = P → X.w = w → L2.Inv X pins σ H s → H d = some (.frz o u) → KysU P w d u vs → s.heap.get? d = some o ∧ Vals vs (es.toList.map (·.key)) := by
    intro X pins σ H s e1 e2 I hd k
    subst e1 e2
    obtain ⟨g, q⟩ := I.hok d _ hd
    obtain ⟨_, o', es', ep', h1, h2, h3, h4⟩ := kys_raw k q
    rw [g] at h1; cases h1
    obtain ⟨rfl, rfl⟩ := dict_ep hod h3
    exact ⟨g, h4⟩
  constructor
  · simp
  · rintro i h st b hb
    obtain rfl : b = it := by simpa using hb
    obtain ⟨oi, e, _, dd⟩ := st
    exact ⟨oi, e, fun v z => by rw [dd] at z; cases z⟩
  · exact fun i h h' st k => st.at fun oi e => k it (by simp) oi e
  · intro X hP hw hK calm i pins s σ H E I own st hg
    obtain ⟨⟨hd, ky⟩, lt⟩ := hg
    obtain ⟨f0, f1, f2, f3, f4, f5⟩ := own it (by simp)
    obtain ⟨hgd, rel⟩ := look hP hw I hd ky
    obtain ⟨v, hv⟩ : ∃ v, vs[i]? = some v := ⟨vs[i], List.getElem?_eq_getElem lt⟩
    obtain ⟨en, hen, ren⟩ := kys_at rel hv
    subst hP hw
    refine next_key_item st hgd hod (kys_len (d := d) rel) hen fun h2 st2 sb => ?_
    have I2 : L2.Inv X pins σ H { s with heap := h2 } := I.turned (t' := s.toks) (fun b ob hb e => (sb.2 b hb).trans e) f0 f1 f3 f4 f5
    obtain ⟨oi, q1, q2, q3⟩ := id st2
    exact ⟨en.key, rfl, go_of (s := { s with heap := h2 }) q1 q2 q3 (by decide) ⟨v, H, I2, ren, ⟨rfl, hv⟩, st2, fun b hb => (own b hb).1⟩⟩
  · intro X hP hw hK calm i pins s σ H E I own st hg
    obtain ⟨⟨hd, ky⟩, le⟩ := hg
    obtain ⟨f0, f1, f2, f3, f4, f5⟩ := own it (by simp)
    obtain ⟨hgd, rel⟩ := look hP hw I hd ky
    subst hP hw
    exact next_key_end (I.ok.hd calm) st hgd hod (kys_len (d := d) rel) le fun h2 eb => ⟨rfl, I.turned (t' := s.toks) (fun b ob hb e => eb b ob hb e) f0 f1 f3 f4 f5⟩
  · exact fun A i s Q E st h => wpAny_pyIter_keyiter st h
section
variable {X : Cx} {tg l : Expr} {tl : TE}
/-- a row, a text, or a locked dict -/
def iAnyW (K : PySem.W.Frag) (P : Program) (w : World) (tl : TE) : TI := fun σ H R => tl σ H fun x H1 => (∃ a xs, x = V.ref a ∧ SqL K H1 a xs ∧ (xs.length ≤ sizeLine → R (Itl K a) H1)) ∨ (∃ a xs, x = V.ref a ∧ SqT K H1 a xs ∧ (xs.length ≤ sizeLine → R (Itt K a) H1)) ∨ (∃ z, x = V.str z ∧ R (Its z) H1) ∨
  ∃ d o u vs, x = V.ref d ∧ H1 d = some (.frz o u) ∧ KysU P w d u vs ∧ R (Itq P w d o u vs) H1
theorem pi_anyW (hl : PE X l tl) : PI X tg l (iAnyW X.K X.prog X.w tl) := by
  refine ⟨fun pins s σ H R I want => thn (hl.run pins s σ H _ I want) fun v s1 ⟨x, H1, I1, r1, q1⟩ => ?_⟩
  have one : ∀ {b : Addr} {h0 : Heap} {tk : Nat}, b = h0.objs.size → h0 = s1.heap → ∀ c ∈ [b], FpOk X pins H1 c := fun {b h0 tk} e1 e2 c hc => by
    obtain rfl : c = b := by simpa using hc
    rw [e1, e2]
    exact I1.fpOk (Nat.le_refl _) (I1.hok.fresh (Nat.le_refl _))
  rcases q1 with ⟨a, xs, rfl, hq, q⟩ | ⟨a, xs, rfl, hq, q⟩ | ⟨z, rfl, q⟩ | ⟨d, o, u, vs, rfl, hd, ky, q⟩
  · cases r1
    obtain ⟨its, rv, pl, few⟩ := I1.list hq
    exact wpAny_pyIter_list pl.isList ⟨_, [s1.heap.objs.size], _, _, H1, rfl, I1.kept (t' := s1.toks) (fun b o e => Heap.get?_push_of_some _ e), turn_list a _, ⟨_, Heap.get?_push_size _ rfl, rfl, rfl⟩, one (h0 := s1.heap) (tk := 0) rfl rfl, q few⟩
  · cases r1
    obtain ⟨its, rv, pl, few⟩ := I1.tuple hq
    exact wpAny_pyIter_tuple pl ⟨_, [s1.heap.objs.size], _, _, H1, rfl, I1.kept (t' := s1.toks) (fun b o e => Heap.get?_push_of_some _ e), turn_tuple a _, ⟨_, Heap.get?_push_size _ rfl, rfl, rfl⟩, one (h0 := s1.heap) (tk := 0) rfl rfl, q few⟩
  · obtain ⟨t, rfl⟩ := r1
    by_cases ha : z.cps.all (· < 128) = true
    · exact wpAny_pyIter_ascii ha (pi_one (tk := s1.toks) I1 _ (turn_str _ z t "str_ascii_iterator" (.inl rfl)) ⟨_, Heap.get?_push_size _ rfl, rfl, rfl⟩ q)
    · exact wpAny_pyIter_wide (by simpa using ha) (pi_one (tk := s1.toks) I1 _ (turn_str _ z t "str_iterator" (.inr rfl)) ⟨_, Heap.get?_push_size _ rfl, rfl, rfl⟩ q)
  · cases r1
    obtain ⟨hgd, ok⟩ := I1.hok d _ hd
    obtain ⟨sy, o', es, ep, h1, h2, h3, rel⟩ := kys_raw ky ok
    rw [hgd] at h1; cases h1
    refine iter_keys sy hgd h2 h3 (pi_one (tk := s1.toks) I1 _ (turn_q _ h3) ⟨_, Heap.get?_push_size _ rfl, rfl, ?_⟩ q)
    rw [kys_len (d := d) rel] <;> rfl
/-! ### sorted(d), list(d) -/
def RdU (H : Hp) (d : Addr) (u : HO) : Prop := Rd H d u
def rSortD (K : PySem.W.Frag) (P : Program) (w : World) : List V → Hp → VK → Prop := fun vs H Q => ∃ (d : Addr) (u : HO) (xs : List VP), vs = [V.ref d] ∧ Rd H d u ∧ KysU P w d u (xs.map (·.1)) ∧ xs.length ≤ sizeLine ∧ (∀ x ∈ xs, Dp K H x.1 (PV.toD x.2)) ∧ Sortd (xs.map (·.2)) ∧
  ∀ ys : List VP, ys = xs.mergeSort (PySem.W.dataLe false fun x : VP => PV.toD x.2) → ∀ p, H p = none → Q (.ref p) (L2.upd H p (.lst (ys.map (·.1))))
theorem items_vals {acc : Array Value} {vs : List V} {es : Array DictEntry} (r : Vals vs (es.toList.map (·.key))) (h : ItemsOf (fun i v => ∃ en : DictEntry, es[i]? = some en ∧ v = en.key) acc es.size) : Vals vs acc.toList := by
  have e : acc.toList = es.toList.map (·.key) := by
    refine List.ext_getElem? fun i => ?_
    rw [List.getElem?_map, Array.getElem?_toList, Array.getElem?_toList]
    cases q : acc[i]? with
    | none =>
      have : es[i]? = none := by
        rw [Array.getElem?_eq_none_iff] at q ⊢
        rw [h.1] at q; exact q
      rw [this]; rfl
    | some v =>
      obtain ⟨en, e1, e2⟩ := h.2 i v q
      rw [e1, e2]; rfl
  rw [e]; exact r
theorem cr_sortD (calm : X.calm = true) (hu : X.A.units + 64 < cLine) : CallR X (.builtin "sorted") (rSortD X.K X.prog X.w) := by
  intro pins s σ H vs us Q I r h
  obtain ⟨d, u, xs, rfl, hd, ky, few, hdp, ⟨_, al, so, dp⟩, k⟩ := h
  rw [Vals.ref1 r]
  rw [List.map_map] at al so
  have depth : ∀ b, b ∈ xs → X.A.units + 2 + (PV.toD b.2).depth < cLine := fun b hb => by
    have := dp b.2 (List.mem_map.mpr ⟨b, hb, rfl⟩); omega
  obtain ⟨sy, o, es, ep, h1, h2, h3, rel⟩ := kys_raw ky (hd.ok I.hok)
  have sz : es.size = xs.length := by rw [kys_len (d := d) rel, List.length_map]
  refine Calls.call_function_entry PyProof.Rows.kind_sorted PyProof.Rows.plain_sorted PyProof.Rows.entry_sorted (PyProof.Rows.args_sorted1 _) ?_
  unfold Builtin.«sorted»
  refine wpAny_bind (m := checkCount "sorted" 1 1 _) (wpAny_pure ?_)
  refine wpAny_bind (PySem.W.kdu_collect (A := X.A.in1) (kdl_raw sy h2 h3) (I.ok.hd calm) h1 (by rw [sz]; exact few) fun h' tk acc hk hacc => ?_)
  have rv : Vals (xs.map (·.1)) acc.toList := items_vals rel hacc
  have I1 : L2.Inv X pins σ H { s with heap := h', toks := tk } := I.kept hk
  have hal : acc.toList.length = xs.length := by rw [← rv.length, List.length_map]
  refine wpAny_bind (wpAny_newList ?_ (by rw [hal]; exact few))
  generalize eL : h'.objs.size = L
  have hoL : (h'.push (seqObj "list" acc.toList.toArray 0)).get? L = some (seqObj "list" acc.toList.toArray 0) := by subst eL; exact Heap.get?_push_size _ rfl
  show wpAny _ _ _ _ _ { s with heap := h'.push (seqObj "list" acc.toList.toArray 0), toks := tk }
  have old : ∀ b ob, h'.get? b = some ob → (PySem.W.sortingHeap (h'.push (seqObj "list" acc.toList.toArray 0)) L acc.toList).get? b = some ob := fun b ob e => by
    refine PySem.W.sortingHeap_old (fun z => ?_) (Heap.get?_push_of_some _ e)
    rw [z, ← eL] at e
    exact absurd (Heap.lt_size e) (Nat.lt_irrefl _)
  have er : PySem.W.EachIs (fun v (b : VP) => ∃ as, Reads (PySem.W.sortingHeap (h'.push (seqObj "list" acc.toList.toArray 0)) L acc.toList) v (PV.toD b.2) as) acc.toList xs := (each_reads I1 rv hdp).mono fun _ _ ⟨as, r⟩ => ⟨as, Reads.keeps old r⟩
  have S := PySem.W.SortsAt.data (prog := X.prog) (w := X.w) (A := X.A.in1.in1) (s := { s with heap := PySem.W.sortingHeap (h'.push (seqObj "list" acc.toList.toArray 0)) L acc.toList, toks := tk }) (PySem.W.each_map (R := fun v d => ∃ as, Reads (PySem.W.sortingHeap (h'.push (seqObj "list" acc.toList.toArray 0)) L acc.toList) v d as) (fun b : VP => PV.toD b.2) er) al so (PySem.W.bound_map depth)
  refine wpAny_bind (wpAny_holding (wpAny_call_entry_kw PyProof.Rows.slot_list_sort ⟨_, hoL, rfl⟩ PyProof.Rows.entry_list_sort (PySem.W.list_sort_vals (s := { s with heap := h'.push (seqObj "list" acc.toList.toArray 0), toks := tk }) hoL S (by rw [hal]; exact few) ?_) (PyProof.Rows.args_list_sort _)))
  have res := PySem.W.sortVals_data (R := fun u (x : VP) => RelV x.1 u) false (each_rel rv) er al
  have rl := rel_each res
  obtain ⟨c, hc⟩ := PyProof.Rows.sortedHeap_at (vs := acc.toList) (out := (PySem.W.sortVals _ false acc.toList acc.toList).toArray) hoL
  have len : ((xs.mergeSort (PySem.W.dataLe false fun x : VP => PV.toD x.2)).map (·.1)).length ≤ sizeLine := by
    rw [List.length_map, List.length_mergeSort]; exact few
  refine ⟨_, rfl, wpAny_pure ⟨_, rfl, .ref L, L2.upd H L (.lst ((xs.mergeSort (PySem.W.dataLe false fun x : VP => PV.toD x.2)).map (·.1))), I1.laid (t' := tk) (fun b ob e => ?_) (Nat.le_of_eq eL) ⟨len, _, c, rl, ?_⟩, rfl, k _ rfl _ (I1.hok.fresh (Nat.le_of_eq eL))⟩⟩
  · have lt := Heap.lt_size e
    rw [PyProof.Rows.sortedHeap_old (by rw [← eL]; exact Nat.ne_of_lt lt) (by rw [Heap.size_push]; exact Nat.lt_succ_of_lt lt)]
    exact Heap.get?_push_of_some _ e
  · exact hc
end
end CP
/-! Walks, sorted, list, dict: as values. -/
namespace CP
open PySem PySem.Spec PyProof.Rows L2
section
variable {X : Cx}
def rListD2 (P : Program) (w : World) : List V → Hp → VK → Prop := fun vs H Q => ∃ (d : Addr) (u : HO) (ks : List V), vs = [V.ref d] ∧ Rd H d u ∧ KysU P w d u ks ∧ ks.length ≤ sizeLine ∧ ∀ p, H p = none → Q (.ref p) (L2.upd H p (.lst ks))
theorem cr_listD2 (calm : X.calm = true) : CallR X (.type "list") (rListD2 X.prog X.w) := by
  intro pins s σ H vs us Q I r h
  obtain ⟨d, u, ks, rfl, hd, ky, few, k⟩ := h
  rw [Vals.ref1 r]
  obtain ⟨sy, o, es, ep, h1, h2, h3, rel⟩ := kys_raw ky (hd.ok I.hok)
  have sz : es.size = ks.length := kys_len (d := d) rel
  refine PySem.W.kdl_call (kdl_raw sy h2 h3) (I.ok.hd calm) h1 (by rw [sz]; exact few) fun h' tk acc c' hk hD hacc => ?_
  have hv : Vals ks acc.toList := items_vals rel hacc
  exact ⟨.ref s.heap.objs.size, L2.upd H s.heap.objs.size (.lst ks), I.laid (t' := tk) hk (Nat.le_refl _) ⟨few, acc.toList, c', hv, by rw [Array.toArray_toList]; exact hD⟩, rfl, k _ (I.hok.fresh (Nat.le_refl _))⟩
/-! ### dict(pairs), the keys tuples -/
abbrev TG3 := NestedKey × Addr × V
def foldG (ts : List TG3) : CnG := ts.foldl (fun c t => putG c t.1 t.2.1 t.2.2) []
def rDictG (P : Program) (w : World) (K : PySem.W.Frag) : List V → Hp → VK → Prop := fun vs H Q => ∃ (a : Addr) (ts : List (Addr × TG3)), vs = [V.ref a] ∧ SqL K H a (ts.map fun t => V.ref t.1) ∧ (∀ t ∈ ts, SqT K H t.1 [V.ref t.2.2.1, t.2.2.2] ∧ KH H (.ref t.2.2.1) t.2.1 ∧ t.2.1.depth ≤ 8) ∧
  ∀ p, H p = none → Q (.ref p) (L2.upd H p (DctG P w p (foldG (ts.map (·.2)))))
theorem tups_vals {pins : List (Addr × PySem.Obj)} {σ : L2.St} {H : Hp} {s : Shared} (I : L2.Inv X pins σ H s) : ∀ {ts : List (Addr × TG3)}, (∀ t ∈ ts, SqT X.K H t.1 [V.ref t.2.2.1, t.2.2.2]) →
    ∃ qs : List ((Addr × TG3) × Value), qs.map (·.1) = ts ∧ ∀ q ∈ qs, RelV q.1.2.2.2 q.2 ∧ PairAt s.heap q.1.1 (.ref q.1.2.2.1) q.2
  | [], _ => ⟨[], rfl, fun _ z => nomatch z⟩
  | t :: ts, h => by
    obtain ⟨qs, e, a⟩ := tups_vals I (ts := ts) fun q hq => h q (List.mem_cons_of_mem _ hq)
    obtain ⟨its, r, ht, _⟩ := I.tuple (h t List.mem_cons_self)
    obtain ⟨v1, v2, rfl, r1, r2⟩ := vals2 r
    cases (show v1 = Value.ref t.2.2.1 from r1)
    refine ⟨(t, v2) :: qs, by rw [List.map_cons, e], fun q hq => ?_⟩
    rcases List.mem_cons.mp hq with rfl | hq
    · exact ⟨r2, .inl ht⟩
    · exact a q hq
theorem fold_like : ∀ {qs : List ((Addr × TG3) × Value)} {c : CnG} {us : List (NestedKey × Addr × Value)}, (∀ q ∈ qs, RelV q.1.2.2.2 q.2) → Paired LikeG c us → Paired LikeG ((qs.map fun q => q.1.2).foldl (fun c t => putG c t.1 t.2.1 t.2.2) c) ((qs.map fun q => (q.1.2.1, q.1.2.2.1, q.2)).foldl (fun acc p => storedH acc p.1 p.2.1 p.2.2) us)
  | [], _, _, _, h => h
  | q :: qs, _, _, hr, h => fold_like (qs := qs) (fun x hx => hr x (List.mem_cons_of_mem _ hx)) (likeG_put (hr q List.mem_cons_self) h)
theorem cr_dictG (calm : X.calm = true) (hu : X.A.units + 64 < cLine) : CallR X (.type "dict") (rDictG X.prog X.w X.K) := by
  intro pins s σ H vs us Q I r h
  obtain ⟨a, ts, rfl, ha, ht, k⟩ := h
  rw [Vals.ref1 r]
  obtain ⟨its, rv, pl, hz⟩ := I.list ha
  have ei := refs_only (κ := TG3) rv
  subst ei
  obtain ⟨qs, rfl, hq⟩ := tups_vals I fun t h => (ht t h).1
  obtain ⟨o, n, ho, hc, hd, hdat⟩ := pl
  rw [List.length_map, List.length_map] at hz
  have at_ : ∀ {j : Nat} {q : (Addr × TG3) × Value}, qs[j]? = some q → q ∈ qs := fun e => List.mem_of_getElem? e
  refine call_dict_pairsH (knd := nestedKind X.prog X.w) (ps := qs.map fun q => (q.1.2.1, q.1.2.2.1, q.2))
    (PairArg.list a _ (fun j => ((qs[j]?).map (·.1.1)).getD 0) (qs.map fun q => (Value.ref q.1.2.2.1, q.2))) (I.ok.hd calm) (by show X.A.units + 1 + 1 + 8 < cLine; omega) ⟨⟨o, n, ho, hc, hd, hdat⟩, ?_⟩ ⟨by simp, ?_⟩ ?_ (by rw [List.length_map]; exact hz) fun h' tk hd' kp => ?_
  · refine ⟨by simp, fun j kk v e => ?_⟩
    rw [List.getElem?_map] at e
    cases c : qs[j]? with
    | none => rw [c] at e; cases e
    | some q =>
      rw [c] at e
      cases Option.some.inj e
      refine ⟨by simp [c], ?_⟩
      have := (hq q (at_ c)).2
      simpa [c] using this
  · intro i key v e
    have e : (qs.map fun q => (Value.ref q.1.2.2.1, q.2))[i]? = some (key, v) := e
    rw [List.getElem?_map] at e
    cases c : qs[i]? with
    | none => rw [c] at e; cases e
    | some q =>
      rw [c] at e
      cases Option.some.inj e
      exact ⟨q.1.2.1, q.1.2.2.1, by rw [List.getElem?_map, c]; rfl, rfl⟩
  · intro h2 keep x hx
    obtain ⟨q, hq', rfl⟩ := List.mem_map.mp hx
    obtain ⟨_, e1, e2⟩ := ht q.1 (List.mem_map.mpr ⟨q, hq', rfl⟩)
    refine ⟨NestedIs.at (fun b ob vs m h _ => ?_) _ _ (e1.is I rfl), e2⟩
    exact keep _ _ (Nat.ne_of_lt (Heap.lt_size h)) (by simp) h
  · have hm : (s.heap.objs.size == sysModules) = false := beq_eq_false_iff_ne.mpr (Nat.ne_of_gt I.big)
    have L := fold_like (fun q h => (hq q h).1) (.nil : Paired LikeG [] [])
    have kp' : ∀ b u, s.heap.get? b = some u → h'.get? b = some u := fun b u e => kp b u (by simp) e
    refine ⟨.ref s.heap.objs.size, L2.upd H s.heap.objs.size (DctG X.prog X.w s.heap.objs.size (foldG ((qs.map (·.1)).map (·.2)))), I.laid (t' := tk) kp' (Nat.le_refl _) (dctG_ok (dctGI_of hm hd' ?_)), rfl, k _ (I.hok.fresh (Nat.le_refl _))⟩
    unfold foldG storedAllH
    rw [List.map_map]
    exact L
end
section
variable {G : Gh} {lv : Nat} {X : Cx} {a b c o : Expr} {es : List Expr} {qa qb : QE} {qA : QAs} {qB : QBs} {pos p apos cpos tpos : Pos} {e : PEnv} {M : Addr → Prop} {σ : L2.St} {H : Hp} {tg : Expr}
/-! ### walks -/
theorem kys_of {u : HO} {d : Addr} {ps : List (PV × PV)} (h : Rd H d u) (dv : (∃ kvs : List (Key × V), u = .dK kvs ∧ ps.map (·.1) = kvs.map (fun p => keyP p.1) ∧ RepAll G.toEn H M (kvs.map (·.2)) (ps.map (·.2))) ∨ ∃ c, u = DctG G.P G.w d c ∧ RepAll G.toEn H M (c.map fun x => .ref x.2.1) (ps.map (·.1)) ∧ (ps.all fun p => PV.keyB p.1) = true ∧ c.map (·.1) = ps.map (fun p => PV.nk p.1) ∧ RepAll G.toEn H M (c.map (·.2.2)) (ps.map (·.2))) :
    ∃ vs, KysU G.P G.w d u vs ∧ RepAll G.toEn H M vs (ps.map (·.1)) := by
  rcases dv with ⟨kvs, rfl, h1, h2⟩ | ⟨c, rfl, h1, _⟩
  · refine ⟨_, .inl ⟨kvs, rfl, rfl⟩, ?_⟩
    rw [h1]
    clear h1 h2 h
    induction kvs with
    | nil => exact .nil
    | cons kv kvs ih =>
      refine .cons ?_ ih
      show Rep G.toEn H M (kV kv.1) (keyP kv.1)
      cases kv.1 with
      | inl i => exact .int i
      | inr x => exact .str x
  · exact ⟨_, .inr ⟨c, rfl, rfl⟩, h1⟩
theorem dview_u {d : Addr} {ps : List (PV × PV)} (dv : DView G.toEn H M d ps) : ∃ u vs, Rd H d u ∧ KysU G.P G.w d u vs ∧ RepAll G.toEn H M vs (ps.map (·.1)) := by
  rcases dv with ⟨kvs, h1, h2, h3⟩ | ⟨c, h1, h2, h3, h4, h5⟩
  · obtain ⟨vs, q1, q2⟩ := kys_of (G := G) h1 (.inl ⟨kvs, rfl, h2, h3⟩)
    exact ⟨_, vs, h1, q1, q2⟩
  · obtain ⟨vs, q1, q2⟩ := kys_of (G := G) h1 (.inr ⟨c, rfl, h2, h3, h4, h5⟩)
    exact ⟨_, vs, h1, q1, q2⟩
theorem walks_q {d : Addr} {ob : PySem.Obj} {u : HO} {vs : List V} {items : List PV} (hd : H d = some (.frz ob u)) (nm : ¬ M d) (k : KysU G.P G.w d u vs) (r : RepAll G.toEn H M vs items) : Walks G (Itq G.P G.w d ob u vs) items H M := fun H2 M2 s _ => by
  have hd2 := s.keep _ _ hd nm
  refine ⟨fun i p hp => ?_, ⟨⟨hd2, k⟩, by rw [r.length]; exact Nat.le_refl _⟩⟩
  obtain ⟨v, hv, rv⟩ := r.get' hp
  have li := (List.getElem?_eq_some_iff.mp hv).1
  refine ⟨⟨⟨hd2, k⟩, li⟩, fun x H3 y => ?_⟩
  obtain ⟨rfl, hx⟩ := y
  rw [hv] at hx; cases hx
  exact ⟨.inl rfl, rv.step s⟩
def itemsU (p : PV) (k : List PV → Prop) : Prop := match p with
  | .dic ps => ps.length ≤ SZ ∧ k (ps.map (·.1))
  | p => itemsOf p k
def iqAny (q : QE) : QI := fun e K => q e fun r e1 => keep r e1 fun p e2 => itemsU p fun xs => K xs e2
theorem i_any (g : Good G lv X) (ha : PE X a (LE G qa)) : PI X tg a (LI G (iqAny qa)) := PI.imp (g.K ▸ g.P ▸ g.w ▸ pi_anyW ha : PI X tg a (iAnyW G.K G.P G.w (LE G qa))) fun σ H R ⟨e, M, K, S, q, f⟩ => ⟨e, M, _, S, q, fun r e1 k1 v H1 M1 S1 s1 R1 => by
  obtain ⟨p, e2, M2, k2, S2, s2, R2⟩ := keep_ok S1 R1 k1
  have st := s1.trans s2
  cases p with
  | dic ps =>
    have k2 : ps.length ≤ SZ ∧ K (ps.map (·.1)) e2 := k2
    obtain ⟨few, k2⟩ := k2
    have len : (ps.map (·.1)).length ≤ sizeLine := by rw [List.length_map]; exact sz_fits few
    cases R2 with
    | dicK h n ek rr =>
      obtain ⟨vs, q1, q2⟩ := kys_of (G := G) (.inr ⟨_, h⟩) (.inl ⟨_, rfl, ek, rr⟩)
      exact .inr (.inr (.inr ⟨_, _, _, vs, rfl, h, q1, f _ e2 k2 len _ H1 M2 S2 st (walks_q h n q1 q2)⟩))
    | dicG h n rk ko ek rr =>
      obtain ⟨vs, q1, q2⟩ := kys_of (G := G) (.inr ⟨_, h⟩) (.inr ⟨_, rfl, rk, ko, ek, rr⟩)
      exact .inr (.inr (.inr ⟨_, _, _, vs, rfl, h, q1, f _ e2 k2 len _ H1 M2 S2 st (walks_q h n q1 q2)⟩))
  | lst xs => cases R2 with
    | lst sl rr => exact .inl ⟨_, _, rfl, sl.sq, fun hl => f _ e2 k2 (by rw [← rr.length]; exact hl) _ H1 M2 S2 st (walks_at walk_list (fun H3 M3 s3 => (s3.stayL sl).sq) rr)⟩
  | tup xs => cases R2 with
    | tup sl rr => exact .inr (.inl ⟨_, _, rfl, sl.sq, fun hl => f _ e2 k2 (by rw [← rr.length]; exact hl) _ H1 M2 S2 st (walks_at walk_tup (fun H3 M3 s3 => (s3.stayT sl).sq) rr)⟩)
  | str z =>
    cases R2
    exact .inr (.inr (.inl ⟨z, rfl, f _ e2 k2.2 (by unfold signs; rw [List.length_map, Array.length_toList]; exact sz_fits k2.1) _ H1 M2 S2 st walks_str⟩))
  | _ => exact (show False from k2).elim⟩
/-! ### sorted, list -/
def gSortedU (ps : List PV) (k : QV → Prop) : Prop := match ps with
  | [.dic qs] => (qs.length ≤ SZ ∧ Sortd (qs.map (·.1))) ∧ k (.fr (.lst (sortP (qs.map (·.1)))))
  | _ => gSorted ps k
theorem l_sortedU : LiftC G (fun vs H Q => rSortQ G.K vs H Q ∨ rSortD G.K G.P G.w vs H Q) gSortedU := fun e M σ H vs ps Q k S a g f => by
  unfold gSortedU at g
  split at g
  · rename_i qs
    obtain ⟨⟨few, so⟩, g⟩ := g
    obtain ⟨v, rfl, b⟩ := acc1 a
    obtain ⟨d, rfl, dv⟩ := b.dic
    obtain ⟨u, ks, h1, h2, h3⟩ := dview_u dv
    obtain ⟨q1, q2, q3⟩ := zip_rep h3
    have hl : (ks.zip (qs.map (·.1))).length = qs.length := by rw [← List.length_map (f := (·.2)), q2, List.length_map]
    refine .inr ⟨d, u, ks.zip (qs.map (·.1)), rfl, h1, by rw [q1]; exact h2, by rw [hl]; exact sz_fits few, fun z hz => ?_, by rw [q2]; exact so, fun ys hy p hp => ?_⟩
    · refine (q3 z hz).dp ?_
      have := so.1
      rw [isDs_all] at this
      exact List.all_eq_true.mp this z.2 (by rw [← q2]; exact List.mem_map.mpr ⟨z, hz, rfl⟩)
    · have perm := List.mergeSort_perm (ks.zip (qs.map (·.1))) (PySem.W.dataLe false fun x : VP => PV.toD x.2)
      rw [← hy] at perm
      have rr : RepAll G.toEn H M (ys.map (·.1)) (ys.map (·.2)) := rep_zip fun z hz => q3 z (perm.mem_iff.mp hz)
      have e2 : ys.map (·.2) = sortP (qs.map (·.1)) := by rw [hy, sort_map, q2]
      rw [e2] at rr
      obtain ⟨S', st, rs⟩ := S.newLst hp rr
      exact f _ g _ _ _ S' st rs
  · exact .inl (l_sorted e M σ H vs ps Q k S a g f)
theorem q_sortedU (g : Good G lv X) (hm : X.mg "sorted" = none) (ha : PA X (a :: es) (LB G qB)) (hg : Gl X "sorted" := by rfl) (he : starEach (a :: es) X.env = (false, eval a X.env) :: starEach es X.env := by rfl) (hpl : (backTo pos (starEach es X.env)).any (·.1) = false := by rfl) :
    PE X (.Call (.Name "sorted" p) (a :: es) [] pos) (LE G (qCB gSortedU qB)) := q_cb (CallR.or (g.K ▸ cr_sortQ g.units : CallR X (.builtin "sorted") (rSortQ G.K)) (g.K ▸ g.P ▸ g.w ▸ cr_sortD g.calm g.units : CallR X (.builtin "sorted") (rSortD G.K G.P G.w))) l_sortedU hg hm (by decide +kernel) ha (by decide) (by decide) he hpl
def gListU (ps : List PV) (k : QV → Prop) : Prop := match ps with
  | [.dic qs] => qs.length ≤ SZ ∧ k (.fr (.lst (qs.map (·.1))))
  | _ => gList ps k
theorem l_listU : LiftC G (fun vs H Q => rListQ G.K vs H Q ∨ rListD2 G.P G.w vs H Q) gListU := fun e M σ H vs ps Q k S a g f => by
  unfold gListU at g
  split at g
  · rename_i qs
    obtain ⟨few, g⟩ := g
    obtain ⟨v, rfl, b⟩ := acc1 a
    obtain ⟨d, rfl, dv⟩ := b.dic
    obtain ⟨u, ks, h1, h2, h3⟩ := dview_u dv
    refine .inr ⟨d, u, ks, rfl, h1, h2, by rw [h3.length, List.length_map]; exact sz_fits few, fun p hp => ?_⟩
    obtain ⟨S', st, rs⟩ := S.newLst hp h3
    exact f _ g _ _ _ S' st rs
  · exact .inl (l_list e M σ H vs ps Q k S a g f)
theorem q_listU (g : Good G lv X) (hm : X.mg "list" = none) (ha : PA X (a :: es) (LB G qB)) (hg : Gl X "list" := by rfl) (he : starEach (a :: es) X.env = (false, eval a X.env) :: starEach es X.env := by rfl) (hpl : (backTo pos (starEach es X.env)).any (·.1) = false := by rfl) :
    PE X (.Call (.Name "list" p) (a :: es) [] pos) (LE G (qCB gListU qB)) := q_cty (CallR.or (cr_listQ g.K) (g.P ▸ g.w ▸ cr_listD2 g.calm : CallR X (.type "list") (rListD2 G.P G.w))) l_listU hg hm (by decide +kernel) ha (by decide) (by decide) he hpl
/-! ### dict(pairs) -/
def pairsOf : List PV → Option (List (PV × PV))
  | [] => some []
  | .tup [k, v] :: xs => (pairsOf xs).map ((k, v) :: ·)
  | _ :: _ => none
theorem pairsOf_map {α : Type} (f g : α → PV) (xs : List α) : pairsOf (xs.map fun x => .tup [f x, g x]) = some (xs.map fun x => (f x, g x)) := by
  induction xs with
  | nil => rfl
  | cons x xs ih => show (pairsOf (xs.map fun x => .tup [f x, g x])).map _ = _; rw [ih]; rfl
def pmerge (ps : List (PV × PV)) : List (PV × PV) := ps.foldl (fun acc kv => pput acc kv.1 kv.2) []
def gDictP (tp : Bool) (ps : List PV) (k : QV → Prop) : Prop := match ps with
  | [.lst xs] => match pairsOf xs with
    | some qs => (qs.all fun q => keyA q.1 && (isT q.1 == tp)) = true ∧ k (.fr (.dic (pmerge qs)))
    | none => False
  | _ => False
theorem pairs_rep {H : Hp} {M : Addr → Prop} : ∀ {vs : List V} {xs : List PV} {qs : List (PV × PV)}, RepAll G.toEn H M vs xs → pairsOf xs = some qs → ∃ ts : List (Addr × V × V), vs = ts.map (fun t => V.ref t.1) ∧ (∀ t ∈ ts, H t.1 = some (.tup [t.2.1, t.2.2])) ∧ RepAll G.toEn H M (ts.map (·.2.1)) (qs.map (·.1)) ∧ RepAll G.toEn H M (ts.map (·.2.2)) (qs.map (·.2))
  | _, [], qs, r, h => by cases h; cases r; exact ⟨[], rfl, (fun _ z => nomatch z), .nil, .nil⟩
  | _, x :: xs, qs, r, h => by
    cases r with
    | cons r0 rt =>
      unfold pairsOf at h
      split at h
      · rename_i hx; cases hx
      · rename_i k v ys hx
        obtain ⟨e1, e2⟩ := List.cons.inj hx
        subst e1 e2
        cases c : pairsOf xs with
        | none => rw [c] at h; cases h
        | some qs' =>
          rw [c] at h; cases h
          obtain ⟨ts, q1, q2, q3, q4⟩ := pairs_rep rt c
          cases r0 with
          | tup st rr =>
            obtain ⟨v1, v2, rfl, r1, r2⟩ := rep2 rr
            refine ⟨(_, v1, v2) :: ts, by rw [q1]; rfl, fun t ht => ?_, .cons r1 q3, .cons r2 q4⟩
            rcases List.mem_cons.mp ht with rfl | ht
            · exact st.1
            · exact q2 t ht
      · cases h
theorem fold_k : ∀ {ts : List (Key × V)} {qs : List (PV × PV)} {kvs : List (Key × V)} {ps : List (PV × PV)}, qs.map (·.1) = ts.map (fun t => keyP t.1) → RepAll G.toEn H M (ts.map (·.2)) (qs.map (·.2)) → ps.map (·.1) = kvs.map (fun p => keyP p.1) → RepAll G.toEn H M (kvs.map (·.2)) (ps.map (·.2)) →
    (qs.foldl (fun acc kv => pput acc kv.1 kv.2) ps).map (·.1) = (ts.foldl (fun acc kv => putK acc kv.1 kv.2) kvs).map (fun p => keyP p.1) ∧ RepAll G.toEn H M ((ts.foldl (fun acc kv => putK acc kv.1 kv.2) kvs).map (·.2)) ((qs.foldl (fun acc kv => pput acc kv.1 kv.2) ps).map (·.2))
  | [], [], _, _, _, _, h1, h2 => ⟨h1, h2⟩
  | [], q :: qs, _, _, e, _, _, _ => by cases e
  | t :: ts, [], _, _, e, _, _, _ => by cases e
  | t :: ts, q :: qs, kvs, ps, e, r, h1, h2 => by
    cases r with
    | cons r0 rt =>
      obtain ⟨e1, e2⟩ := List.cons.inj e
      have e1 : q.1 = keyP t.1 := e1
      obtain ⟨g1, g2⟩ := put_k (k := t.1) r0 h1 h2
      rw [List.foldl_cons, List.foldl_cons, e1]
      exact fold_k e2 rt g1 g2
theorem fold_g : ∀ {ts : List TG3} {qs : List (PV × PV)} {c : CnG} {ps : List (PV × PV)}, RepAll G.toEn H M (ts.map fun t => V.ref t.2.1) (qs.map (·.1)) → (qs.all fun p => PV.keyB p.1) = true → ts.map (·.1) = qs.map (fun p => PV.nk p.1) → RepAll G.toEn H M (ts.map (·.2.2)) (qs.map (·.2)) →
    RepAll G.toEn H M (c.map fun x => .ref x.2.1) (ps.map (·.1)) → (ps.all fun p => PV.keyB p.1) = true → c.map (·.1) = ps.map (fun p => PV.nk p.1) → RepAll G.toEn H M (c.map (·.2.2)) (ps.map (·.2)) →
    RepAll G.toEn H M ((ts.foldl (fun c t => putG c t.1 t.2.1 t.2.2) c).map fun x => .ref x.2.1) ((qs.foldl (fun acc kv => pput acc kv.1 kv.2) ps).map (·.1)) ∧ ((qs.foldl (fun acc kv => pput acc kv.1 kv.2) ps).all fun p => PV.keyB p.1) = true ∧ (ts.foldl (fun c t => putG c t.1 t.2.1 t.2.2) c).map (·.1) = (qs.foldl (fun acc kv => pput acc kv.1 kv.2) ps).map (fun p => PV.nk p.1) ∧ RepAll G.toEn H M ((ts.foldl (fun c t => putG c t.1 t.2.1 t.2.2) c).map (·.2.2)) ((qs.foldl (fun acc kv => pput acc kv.1 kv.2) ps).map (·.2))
  | [], [], _, _, _, _, _, _, h1, h2, h3, h4 => ⟨h1, h2, h3, h4⟩
  | [], q :: qs, _, _, r, _, _, _, _, _, _, _ => by cases r
  | t :: ts, [], _, _, r, _, _, _, _, _, _, _ => by cases r
  | t :: ts, q :: qs, c, ps, r1, o, e, r, h1, h2, h3, h4 => by
    cases r with
    | cons r0 rt =>
      cases r1 with
      | cons q0 qt =>
        rw [List.all_cons, Bool.and_eq_true_iff] at o
        obtain ⟨e1, e2⟩ := List.cons.inj e
        have e1 : t.1 = PV.nk q.1 := e1
        obtain ⟨g1, g2, g3, g4⟩ := put_g q0 o.1 r0 h1 h2 h3 h4
        rw [List.foldl_cons, List.foldl_cons, e1]
        exact fold_g qt o.2 e2 rt g1 g2 g3 g4
abbrev rDictKq (K : PySem.W.Frag) : List V → Hp → VK → Prop := fun xs H Q => ∃ (a : Addr) (ps : List Addr) (kvs : List (Key × V)), xs = [.ref a] ∧ SqL K H a (ps.map V.ref) ∧ Paired (fun p kv => SqT K H p [kV kv.1, kv.2]) ps kvs ∧ ∀ p, H p = none → Q (.ref p) (L2.upd H p (.dK (mergeK [] kvs)))
theorem keys_split : ∀ {ts : List (Addr × V × V)} {qs : List (PV × PV)}, RepAll G.toEn H M (ts.map (·.2.1)) (qs.map (·.1)) → (qs.all fun q => keyA q.1 && (isT q.1 == false)) = true → ∃ ks : List Key, ks.length = ts.length ∧ qs.map (·.1) = ks.map keyP ∧ ts.map (·.2.1) = ks.map kV
  | [], [], _, _ => ⟨[], rfl, rfl, rfl⟩
  | [], q :: qs, r, _ => by cases r
  | t :: ts, [], r, _ => by cases r
  | t :: ts, q :: qs, r, o => by
    cases r with
    | cons r0 rt =>
      rw [List.all_cons, Bool.and_eq_true_iff, Bool.and_eq_true_iff] at o
      obtain ⟨ks, h1, h2, h3⟩ := keys_split rt o.2
      rcases keyA_cases o.1.1 with ⟨k, e, _⟩ | ⟨_, it⟩
      · have r0 : Rep G.toEn H M t.2.1 q.1 := r0
        rw [e] at r0
        exact ⟨k :: ks, by simp [h1], by rw [List.map_cons, List.map_cons, h2, e], by rw [List.map_cons, List.map_cons, h3, rep_keyP r0]⟩
      · rw [it] at o; cases o.1.2
theorem keys_splitG : ∀ {ts : List (Addr × V × V)} {qs : List (PV × PV)}, RepAll G.toEn H M (ts.map (·.2.1)) (qs.map (·.1)) → (qs.all fun q => keyA q.1 && (isT q.1 == true)) = true → ∃ us : List (Addr × TG3), ts = us.map (fun u => (u.1, V.ref u.2.2.1, u.2.2.2)) ∧ (us.map (·.2)).map (·.1) = qs.map (fun p => PV.nk p.1) ∧ (qs.all fun p => PV.keyB p.1) = true ∧ ∀ u ∈ us, KH H (.ref u.2.2.1) u.2.1 ∧ u.2.1.depth ≤ 8
  | [], [], _, _ => ⟨[], rfl, rfl, rfl, fun _ z => nomatch z⟩
  | [], q :: qs, r, _ => by cases r
  | t :: ts, [], r, _ => by cases r
  | t :: ts, q :: qs, r, o => by
    cases r with
    | cons r0 rt =>
      rw [List.all_cons, Bool.and_eq_true_iff, Bool.and_eq_true_iff] at o
      obtain ⟨us, h1, h2, h3, h4⟩ := keys_splitG rt o.2
      rcases keyA_cases o.1.1 with ⟨k, _, it⟩ | ⟨kb, _⟩
      · rw [it] at o; cases o.1.2
      · have r0 : Rep G.toEn H M t.2.1 q.1 := r0
        obtain ⟨b, e, kh, dp⟩ := rep_keyB r0 kb
        refine ⟨(t.1, PV.nk q.1, b, t.2.2) :: us, by rw [h1, List.map_cons, ← e], by simp only [List.map_cons]; rw [h2], by rw [List.all_cons, kb, h3]; rfl, fun u hu => ?_⟩
        rcases List.mem_cons.mp hu with rfl | hu
        · exact ⟨e ▸ kh, dp⟩
        · exact h4 u hu
theorem l_dictP (tp : Bool) : LiftC G (fun vs H Q => rDictKq G.K vs H Q ∨ rDictG G.P G.w G.K vs H Q) (gDictP tp) := fun e M σ H vs ps Q k S a g f => by
  unfold gDictP at g
  split at g
  · obtain ⟨v, rfl, b⟩ := acc1 a
    obtain ⟨a1, us, rfl, s1, r1⟩ := b.lst
    split at g
    · rename_i qs hq
      obtain ⟨al, g⟩ := g
      obtain ⟨ts, rfl, h2, h3, h4⟩ := pairs_rep r1 hq
      cases tp with
      | false =>
        obtain ⟨ks, q1, q2, q3⟩ := keys_split h3 al
        refine .inl ⟨a1, ts.map (·.1), ks.zip (ts.map (·.2.2)), rfl, by rw [List.map_map]; exact s1, ?_, fun p hp => ?_⟩
        · clear s1 r1 h3 h4 q2 g al hq
          induction ts generalizing ks with
          | nil => cases ks with
            | nil => exact .nil
            | cons k ks => cases q1
          | cons t ts ih => cases ks with
            | nil => cases q1
            | cons k ks =>
              obtain ⟨e1, e2⟩ := List.cons.inj q3
              have e1 : t.2.1 = kV k := e1
              refine .cons ?_ (ih (fun t ht => h2 t (List.mem_cons_of_mem _ ht)) ks (by simpa using q1) e2)
              have := h2 t List.mem_cons_self
              rw [e1] at this
              exact SqT.of this
        · have e0 : (ks.zip (ts.map (·.2.2))).map (·.1) = ks := List.map_fst_zip (by rw [List.length_map]; omega)
          have z1 : (ks.zip (ts.map (·.2.2))).map (fun t => keyP t.1) = qs.map (·.1) := by
            have e3 : (ks.zip (ts.map (·.2.2))).map (fun t => keyP t.1) = ((ks.zip (ts.map (·.2.2))).map (·.1)).map keyP := by rw [List.map_map]; rfl
            rw [e3, e0, q2]
          have z2 : (ks.zip (ts.map (·.2.2))).map (·.2) = ts.map (·.2.2) := List.map_snd_zip (by rw [List.length_map]; omega)
          obtain ⟨g1, g2⟩ := fold_k (ts := ks.zip (ts.map (·.2.2))) (kvs := []) (ps := []) z1.symm (by rw [z2]; exact h4) rfl .nil
          obtain ⟨S', st, rs⟩ := S.newDic (o := .dK (mergeK [] (ks.zip (ts.map fun t : Addr × V × V => t.2.2)))) (ps := pmerge qs) hp fun s => .inl ⟨_, upd_same, g1, g2.step s⟩
          exact f _ g _ _ _ S' st rs
      | true =>
        obtain ⟨us, rfl, q2, q3, q4⟩ := keys_splitG h3 al
        rw [List.map_map] at s1 h3 h4
        refine .inr ⟨a1, us, rfl, s1, fun t ht => ⟨SqT.of (h2 _ (List.mem_map.mpr ⟨t, ht, rfl⟩)), q4 t ht⟩, fun p hp => ?_⟩
        obtain ⟨g1, g2, g3, g4⟩ := fold_g (ts := us.map (·.2)) (c := []) (ps := []) (by rw [List.map_map]; exact h3) q3 q2 (by rw [List.map_map]; exact h4) .nil rfl rfl .nil
        obtain ⟨S', st, rs⟩ := S.newDic (o := DctG G.P G.w p (foldG (us.map fun u : Addr × TG3 => u.2))) (ps := pmerge qs) hp fun s => .inr ⟨_, upd_same, g1.step s, g2, g3, g4.step s⟩
        exact f _ g _ _ _ S' st rs
    · exact g.elim
  · exact g.elim
theorem q_dictP (tp : Bool) (g : Good G lv X) (hm : X.mg "dict" = none) (ha : PA X (a :: es) (LB G qB)) (hg : Gl X "dict" := by rfl) (he : starEach (a :: es) X.env = (false, eval a X.env) :: starEach es X.env := by rfl) (hpl : (backTo pos (starEach es X.env)).any (·.1) = false := by rfl) :
    PE X (.Call (.Name "dict" p) (a :: es) [] pos) (LE G (qCB (gDictP tp) qB)) := q_cty (CallR.or (g.K ▸ call_dictP g.calm : CallR X (.type "dict") (rDictKq G.K)) (g.P ▸ g.w ▸ g.K ▸ cr_dictG g.calm g.units : CallR X (.type "dict") (rDictG G.P G.w G.K))) (l_dictP tp) hg hm (by decide +kernel) ha (by decide) (by decide) he hpl
end
end CP
/-! Sets of tuples: set(), add, in; len(set(xs)). -/
namespace CP
open PySem PySem.Spec PyProof.Rows L2
section
variable {X : Cx} {pins : List (Addr × PySem.Obj)} {σ : L2.St} {H : Hp} {s : Shared}
theorem setG_get {a : Addr} {L : List (Addr × KN)} (I : L2.Inv X pins σ H s) (ha : H a = some (SetG X.prog X.w a L)) (hk : ∀ p ∈ L, KH H (.ref p.1) p.2.1) : ∃ es ep t, SK (nkF X.prog X.w) s.heap a L es ep t := by
  obtain ⟨es, ep, t, h1, h2, h3, h4, h5, h6, h7⟩ := (I.hok a _ ha).1
  exact ⟨es, ep, t, h1, h2, h3, h4, fun p hp => (hk p hp).is I rfl, h5, h6, h7⟩
/-- set() -/
def rSet0G (P : Program) (w : World) : List V → Hp → VK → Prop := fun xs H Q => xs = [] ∧ ∀ p, H p = none → Q (.ref p) (L2.upd H p (SetG P w p []))
theorem cr_set0G : CallR X (.type "set") (rSet0G X.prog X.w) := by
  intro pins s σ H xs us Q I r h
  obtain ⟨rfl, q⟩ := h
  cases r
  refine setR_new fun _ => ?_
  have new := SK.new (F := nkF X.prog X.w) (h := s.heap.push (newSet X.w)) (a := s.heap.objs.size) (Heap.get?_push_size _ rfl)
  exact ⟨.ref _, L2.upd H s.heap.objs.size (SetG X.prog X.w s.heap.objs.size []), I.laid (t' := s.toks) (fun b u e => Heap.get?_push_of_some _ e) (Nat.le_refl _) (setG_ok new.isGI), rfl, q _ (I.hok.fresh (Nat.le_refl _))⟩
/-- seen.add(pair) -/
def rSAddG (P : Program) (w : World) : V → List V → Hp → VK → Prop := fun x xs H Q => ∃ (a b : Addr) (k : KN) (L : List (Addr × KN)), x = V.ref a ∧ xs = [.ref b] ∧ H a = some (SetG P w a L) ∧ (∀ p ∈ L, KH H (.ref p.1) p.2.1) ∧ KH H (.ref b) k.1 ∧ L.length + 1 < 250 ∧
  ∀ L', (k ∈ L.map (·.2) → L' = L) → (k ∉ L.map (·.2) → L'.Perm ((b, k) :: L)) → Q .non (L2.upd H a (SetG P w a L'))
theorem mt_saddG (hu : X.A.units + 64 < cLine) : MtR X "set.add" (rSAddG X.prog X.w) := by
  intro pins s σ H x xs v us Q I rx rxs h
  obtain ⟨a, b, k, L, rfl, rfl, ha, hk, hb, few, q⟩ := h
  cases rx
  rw [Vals.ref1 rxs]
  obtain ⟨es, ep, t, R⟩ := setG_get I ha hk
  obtain ⟨o, ho, hex, hd⟩ := R.obj
  have ty : s.TypeIs (.ref a) "set" := ⟨o, ho, hex.1⟩
  refine wpAny_call_entry PySem.F.slot_set_add ty PySem.F.entry_set_add ?_ (PySem.F.args_set_add_2 _ _)
  unfold Builtin.«set.add» Builtin.Frozenset.oneOther
  simp only [List.isEmpty_nil, bind_assoc]
  unfold Builtin.Frozenset.addrOf setAdd
  refine wpAny_bind (wpAny_pure ?_)
  try dsimp only
  refine wpAny_bind (wpAny_pure ?_)
  try dsimp only
  refine wpAny_bind (wpAny_holding (wpAny_bind ((nkF X.prog X.w).pyh (by simp; omega) (hb.is I rfl) fun tn => ?_)))
  refine put_in (s := { s with toks := s.toks + tn }) R (show (nkF X.prog X.w).At s.heap k b from hb.is I rfl) (by simp; omega) few fun c h' L' es' ep' t' sb R' c1 c2 => ?_
  show wpAny _ _ (ret Value.none) _ _ _
  obtain ⟨o', ho', _⟩ := R'.obj
  exact wpAny_pure ⟨_, rfl, .non, L2.upd H a (SetG X.prog X.w a L'), I.write (e := a) (t' := s.toks + tn) (by rw [ha]; trivial) (.inl rfl) (fun b u hb hu => (sb.2 b hb).trans hu) ⟨o', ho'⟩ (setG_ok R'.isGI), rfl, q L' c1 c2⟩
/-- pair in seen -/
def rSInG (P : Program) (w : World) : V → V → Hp → VK → Prop := fun x y H Q => ∃ (b a : Addr) (k : KN) (L : List (Addr × KN)), x = .ref b ∧ y = V.ref a ∧ H a = some (SetG P w a L) ∧ (∀ p ∈ L, KH H (.ref p.1) p.2.1) ∧ KH H (.ref b) k.1 ∧ Q (.bl (decide (k ∈ L.map (·.2)))) H
theorem or_sinG (hu : X.A.units + 64 < cLine) : OpR X (compareOp .In) (rSInG X.prog X.w) := by
  intro pins s σ H x y v u Q I rx ry h
  obtain ⟨b, a, k, L, rfl, rfl, ha, hk, hb, q⟩ := h
  cases rx
  cases ry
  obtain ⟨es, ep, t, R⟩ := setG_get I ha hk
  obtain ⟨o, ho, hex, hd⟩ := R.obj
  have ty : s.TypeIs (.ref a) "set" := ⟨o, ho, hex.1⟩
  show wpAny _ _ (do return Value.bool (← contains (.ref a) (.ref b))) _ _ s
  refine wpAny_bind ?_
  unfold contains
  try with_reducible refine wpAny_holding ?_
  refine wpAny_bind (wpAny_specialOf ty PySem.F.slot_set_contains.lookup ?_)
  rw [if_neg (by rw [beq_builtin_none]; exact Bool.false_ne_true)]
  refine wpAny_bind (wpAny_callSpecialUnlessNone?_slot (name := Str.ofString "__contains__") ty PySem.F.slot_set_contains (wpAny_call_entry PySem.F.slot_set_contains ty PySem.entry_set_contains ?_ (PySem.F.args_set_contains_2 _ _)))
  unfold Builtin.«frozenset.__contains__» Builtin.Frozenset.oneOther
  simp only [List.isEmpty_nil, bind_assoc]
  unfold Builtin.Frozenset.addrOf Builtin.Frozenset.withSetAsKey setContains
  refine wpAny_bind (wpAny_pure ?_)
  try dsimp only
  refine wpAny_bind (wpAny_pure ?_)
  try dsimp only
  refine wpAny_bind (wpAny_tryCatch (wpAny_holding (wpAny_bind ((nkF X.prog X.w).pyh (by simp; omega) (hb.is I rfl) fun tn => ?_))))
  refine wpAny_bind (find_in (s := { s with toks := s.toks + tn }) R (show (nkF X.prog X.w).At s.heap k b from hb.is I rfl) (by simp; omega) fun r hr => wpAny_pure ?_)
  show wpAny _ _ (ret (Value.bool r.isSome)) _ _ _
  have hr2 : r.isSome = decide (k ∈ L.map (·.2)) := hr.trans (decide_eq_decide.mpr Iff.rfl)
  rw [hr2]
  exact wpAny_pure ⟨_, rfl, wpAny_truthy_bool (wpAny_pure ⟨.bl _, H, I.tok _, rfl, q⟩)⟩
end
section
variable {X : Cx} {e : Expr} {te : TE} {p p2 q pos : Pos}
/-- the items are texts, or tuples -/
def lenAlt (H : Hp) (vs : List V) (k : Nat → Prop) : Prop := (∃ xs : List Str, vs = xs.map V.str ∧ xs.length < 250 ∧ ∀ n : Nat, n ≤ xs.length → (n = xs.length ↔ xs.Nodup) → k n) ∨
  ∃ ks : List (Addr × KN), vs = ks.map (fun p => V.ref p.1) ∧ (∀ p ∈ ks, KH H (.ref p.1) p.2.1) ∧ ks.length < 250 ∧ ∀ n : Nat, n ≤ ks.length → (n = ks.length ↔ (ks.map (·.2)).Nodup) → k n
def tLenSetU (K : PySem.W.Frag) (te : TE) : TE := fun σ H Q => te σ H fun x H1 => ∃ (l : Addr) (vs : List V), x = V.ref l ∧ (SqL K H1 l vs ∨ SqT K H1 l vs) ∧ lenAlt H1 vs fun n => Q (.int (n : Int)) H1
theorem pe_lenSetU (hc : X.calm = true) (hg : Gl X "len") (hm : X.mg "len" = none) (hg2 : Gl X "set") (hm2 : X.mg "set" = none) (hu : X.A.units + 64 < cLine) (he : PE X e te)
    (na : starEach [e] X.env = (false, eval e X.env) :: starEach [] X.env := by rfl) : PE X (.Call (.Name "len" p) [.Call (.Name "set" p2) [e] [] q] [] pos) (tLenSetU X.K te) := by
  refine ⟨fun pins s σ H Q I h => Call_ (ld_blt I hg hm PySem.boot_len ?_)⟩
  refine PyProof.Rows.callWith_builtin1 (PyProof.Rows.args_cons ?_ rfl) rfl rfl
  refine Call_ (ld_blt I hg2 hm2 PyProof.Rows.boot_set ?_)
  refine PyProof.Rows.callWith_type1 (PyProof.Rows.args_cons (thn (he.run pins s σ H _ I h) fun v s1 ⟨x, H1, I1, r1, l, vs, ex, hq, alt⟩ => PyProof.Rows.args_nil ?_) na) na rfl
  subst ex; cases r1
  rcases alt with ⟨xs, rfl, few, k⟩ | ⟨ks, rfl, hks, few, k⟩
  · rcases hq with hq | hq
    · obtain ⟨its, r, pl, _⟩ := I1.list hq
      refine set_of_list (I1.ok.hd hc) pl.isList (fun E => fills_txts (xs := xs) (by simpa using r) (by unfold scanBound; omega)) fun h' tk ⟨n, ⟨o, es, ep, t, ho, hex, hd, _, _, _, hf, hn⟩, c1, c2, c3⟩ keep => ?_
      have sz : its.toArray.size = xs.length := by rw [List.size_toArray, ← r.length, List.length_map]
      rw [sz] at c1 c2 c3; rw [List.take_length] at c3
      exact PyProof.Rows.args_nil (call_len_set ho hex hd hf (by rw [hn]; omega) ⟨.int n, H1, (I1.kept (t' := tk) keep).tok _, ⟨_, by rw [hn]⟩, k n c1 ⟨c3, c2⟩⟩)
    · obtain ⟨its, r, pl, _⟩ := I1.tuple hq
      refine set_of_tuple (I1.ok.hd hc) pl (fun E => fills_txts (xs := xs) (by simpa using r) (by unfold scanBound; omega)) fun h' tk ⟨n, ⟨o, es, ep, t, ho, hex, hd, _, _, _, hf, hn⟩, c1, c2, c3⟩ keep => ?_
      have sz : its.toArray.size = xs.length := by rw [List.size_toArray, ← r.length, List.length_map]
      rw [sz] at c1 c2 c3; rw [List.take_length] at c3
      exact PyProof.Rows.args_nil (call_len_set ho hex hd hf (by rw [hn]; omega) ⟨.int n, H1, (I1.kept (t' := tk) keep).tok _, ⟨_, by rw [hn]⟩, k n c1 ⟨c3, c2⟩⟩)
  · have ats : ∀ p ∈ ks, (nkF X.prog X.w).At s1.heap p.2 p.1 := fun p hp => (hks p hp).is I1 rfl
    rcases hq with hq | hq
    · obtain ⟨its, r, pl, _⟩ := I1.list hq
      have sz : its.toArray.size = ks.length := by rw [List.size_toArray, ← r.length, List.length_map]
      refine set_of_list (I1.ok.hd hc) pl.isList (fun E => fills_keys (nkF X.prog X.w) (ks := ks) (by omega) (by simpa using refs_only r) few ats) fun h' tk ⟨L, es, ep, t, R, g⟩ keep => ?_
      rw [sz] at g
      obtain ⟨o, ho, hex, hd⟩ := R.obj
      have cz := size_of_rows R.row
      have c3 := g.once; rw [List.take_length] at c3
      exact PyProof.Rows.args_nil (call_len_set ho hex hd (R.fit (s := { s1 with heap := h' })) (by have := R.few; omega) ⟨.int L.length, H1, (I1.kept (t' := tk) keep).tok _, ⟨_, by rw [cz]⟩, k L.length g.len ⟨c3, g.full⟩⟩)
    · obtain ⟨its, r, pl, _⟩ := I1.tuple hq
      have sz : its.toArray.size = ks.length := by rw [List.size_toArray, ← r.length, List.length_map]
      refine set_of_tuple (I1.ok.hd hc) pl (fun E => fills_keys (nkF X.prog X.w) (ks := ks) (by omega) (by simpa using refs_only r) few ats) fun h' tk ⟨L, es, ep, t, R, g⟩ keep => ?_
      rw [sz] at g
      obtain ⟨o, ho, hex, hd⟩ := R.obj
      have cz := size_of_rows R.row
      have c3 := g.once; rw [List.take_length] at c3
      exact PyProof.Rows.args_nil (call_len_set ho hex hd (R.fit (s := { s1 with heap := h' })) (by have := R.few; omega) ⟨.int L.length, H1, (I1.kept (t' := tk) keep).tok _, ⟨_, by rw [cz]⟩, k L.length g.len ⟨c3, g.full⟩⟩)
end
section
variable {X : Cx} {o e : Expr} {es : List Expr} {to : TE} {t : TA} {apos cpos : Pos}
def tSAddG (P : Program) (w : World) (to : TE) (t : TA) : TE := fun σ H Q => to σ H fun x H1 => (∃ a L, x = V.ref a ∧ H1 a = some (SetG P w a L)) ∧ t σ H1 fun xs H2 => rSAddG P w x xs H2 Q
theorem pe_saddG (hu : X.A.units + 64 < cLine) (ho : PE X o to) (ha : PA X (e :: es) t) (hbase : attributeBase o "add" X.env (eval o X.env) = eval o X.env := by rfl)
    (hfew : ((backTo cpos (starEach (e :: es) X.env)).all (fun x => !x.1) && (backToKw cpos (keywordEach [] X.env)).all (fun x => x.1.isSome) && decide ((e :: es).length + ([] : List Keyword).length + (if ([] : List Keyword).isEmpty then 0 else 1) < 30)) = true := by rfl)
    (hline : (apos.endLine == cpos.line) = true := by rfl) (hs : starEach (e :: es) X.env = (false, eval e X.env) :: starEach es X.env := by rfl) (hplain : (backTo cpos (starEach es X.env)).any (·.1) = false := by rfl) :
    PE X (.Call (.Attribute o "add" apos) (e :: es) [] cpos) (tSAddG X.prog X.w to t) := by
  refine ⟨fun pins s σ H Q I h => wpAny_Call_method_late hbase hfew hline rfl (thn (ho.run pins s σ H _ I h) fun v s1 ⟨x, H1, I1, r1, ⟨a, L, ex, hS⟩, q1⟩ => ?_)⟩
  subst ex
  cases r1
  obtain ⟨es', ep, tb, ⟨ob, h1, h2, h3⟩, _⟩ := (I1.hok a _ hS).1
  have nd : ∀ b, Value.ref a = .ref b → ∃ o', s1.heap.get? b = some o' ∧ o'.dict = none := fun b z => by cases z; exact ⟨ob, h1, h2.2.1⟩
  refine ⟨"set", "set.add", F.plainAttrs_set, F.slot_set_add, F.type_set_add, ⟨ob, h1, h2.1⟩, nd, ?_⟩
  have hA := ha.run cpos pins s1 σ H1 _ I1 q1
  rw [hs] at hA ⊢
  refine Calls.callWith_builtin (by show (false || (backTo cpos (starEach es X.env)).any (·.1)) = false; rw [hplain]; rfl) (Calls.evalArgs_plain (thn hA fun us s2 ⟨vs, H2, I2, r2, q2⟩ => ?_))
  exact mt_saddG hu pins s2 σ H2 (.ref a) vs (.ref a) us Q I2 rfl r2 q2
end
section
variable {G : Gh} {lv : Nat} {X : Cx} {a b c o : Expr} {es : List Expr} {qa qb : QE} {qA : QAs} {qB : QBs} {pos p p2 q2 apos cpos tpos : Pos} {e : PEnv} {M : Addr → Prop} {σ : L2.St} {H : Hp}
/-- its items are keys of the set -/
theorem set_keys {L : List (Addr × KN)} {xs : List PV} (r : RepAll G.toEn H M (L.map fun x => .ref x.1) xs) (o : (xs.all PV.keyB) = true) (e : L.map (fun x => x.2.1) = xs.map PV.nk) : ∀ p ∈ L, KH H (.ref p.1) p.2.1 := by
  induction L generalizing xs with
  | nil => intro p hp; cases hp
  | cons y L ih =>
    cases xs with
    | nil => cases e
    | cons x xs =>
      rw [List.map_cons] at r
      cases r with
      | cons r0 rt =>
        rw [List.all_cons, Bool.and_eq_true_iff] at o
        obtain ⟨e1, e2⟩ := List.cons.inj e
        have e1 : y.2.1 = PV.nk x := e1
        intro p hp
        rcases List.mem_cons.mp hp with rfl | hp
        · rw [e1]; exact r0.kh (keyB_tup o.1).2.1
        · exact ih rt o.2 e2 p hp
def qSet0 : QE := fun e Q => Q (.fr (.set [])) e
theorem q_set0 (g : Good G lv X) (hm : X.mg "set" = none) (hg : Gl X "set" := by rfl) : PE X (.Call (.Name "set" p) [] [] pos) (LE G qSet0) := PE.imp (pe_callTy0 (g.P ▸ g.w ▸ cr_set0G : CallR X (.type "set") (rSet0G G.P G.w)) hg hm (by decide +kernel)) fun σ H Q ⟨e, M, K, S, q, f⟩ => ⟨rfl, fun p hp => by
  obtain ⟨S', s⟩ := S.newM (o := SetG G.P G.w p []) hp
  refine f _ e q _ _ _ S' s ⟨p, rfl, ⟨[], [], upd_same, .nil, rfl, rfl, List.Perm.refl _⟩, .inl rfl, fun z => S.trk p (S.m0 p z) hp, S.h0 hp, fun j m z => ?_⟩
  obtain ⟨a, q, h1, _, h2, _⟩ := S.mu m
  rw [z] at h1; cases h1
  exact h2.there hp⟩
def hasK (ks : List PV) (k : PV) : Bool := decide (PV.nk k ∈ ks.map PV.nk)
theorem lift_perm {α β : Type} : ∀ {A B : List α}, A.Perm B → ∀ W : List (α × β), W.map (fun w => w.1) = A → ∃ W' : List (α × β), W'.map (fun w => w.1) = B ∧ W'.Perm W := by
  intro A B p
  induction p with
  | nil => intro W h; exact ⟨W, h, List.Perm.refl _⟩
  | cons a p ih =>
    intro W h
    cases W with
    | nil => cases h
    | cons w W =>
      obtain ⟨h1, h2⟩ := List.cons.inj h
      obtain ⟨W', q1, q2⟩ := ih W h2
      exact ⟨w :: W', by rw [List.map_cons, q1]; exact congrArg (· :: _) h1, q2.cons _⟩
  | swap a b l =>
    intro W h
    cases W with
    | nil => cases h
    | cons w W =>
      obtain ⟨h1, h2⟩ := List.cons.inj h
      cases W with
      | nil => cases h2
      | cons w2 W =>
        obtain ⟨h3, h4⟩ := List.cons.inj h2
        have h1 : w.1 = _ := h1
        have h3 : w2.1 = _ := h3
        exact ⟨w2 :: w :: W, by rw [List.map_cons, List.map_cons, h4, h1, h3], List.Perm.swap _ _ _⟩
  | trans p1 p2 ih1 ih2 =>
    intro W h
    obtain ⟨W1, a1, a2⟩ := ih1 W h
    obtain ⟨W2, b1, b2⟩ := ih2 W1 a1
    exact ⟨W2, b1, b2.trans a2⟩
theorem set_zip {L1 : List (Addr × KN)} : ∀ {ys : List PV}, RepAll G.toEn H M (L1.map fun x => .ref x.1) ys → (ys.all PV.keyB) = true → L1.map (fun x => x.2.1) = ys.map PV.nk → ∀ z ∈ L1.zip ys, Rep G.toEn H M (.ref z.1.1) z.2 ∧ PV.keyB z.2 = true ∧ z.1.2.1 = PV.nk z.2 := by
  induction L1 with
  | nil => intro ys r o e z hz; simp at hz
  | cons y L1 ih =>
    intro ys r o e z hz
    cases ys with
    | nil => simp at hz
    | cons w ys =>
      rw [List.map_cons] at r
      cases r with
      | cons r0 rt =>
        rw [List.all_cons, Bool.and_eq_true_iff] at o
        obtain ⟨e1, e2⟩ := List.cons.inj e
        rcases List.mem_cons.mp (by simpa using hz) with rfl | hz
        · exact ⟨r0, o.1, e1⟩
        · exact ih rt o.2 e2 z hz
theorem set_perm {L1 L2 : List (Addr × KN)} (pm : L2.Perm L1) {ys : List PV} (r : RepAll G.toEn H M (L1.map fun x => .ref x.1) ys) (o : (ys.all PV.keyB) = true) (e : L1.map (fun x => x.2.1) = ys.map PV.nk) : ∃ zs, RepAll G.toEn H M (L2.map fun x => .ref x.1) zs ∧ (zs.all PV.keyB) = true ∧ L2.map (fun x => x.2.1) = zs.map PV.nk ∧ zs.Perm ys := by
  have len : L1.length = ys.length := by have := congrArg List.length e; simpa using this
  have props := set_zip r o e
  have e1 : (L1.zip ys).map (fun w => w.1) = L1 := List.map_fst_zip (by omega)
  obtain ⟨W, w1, w2⟩ := lift_perm pm.symm (L1.zip ys) e1
  have wp : ∀ z ∈ W, Rep G.toEn H M (.ref z.1.1) z.2 ∧ PV.keyB z.2 = true ∧ z.1.2.1 = PV.nk z.2 := fun z hz => props z (w2.mem_iff.mp hz)
  have e2 : (L1.zip ys).map (fun w => w.2) = ys := List.map_snd_zip (by omega)
  refine ⟨W.map (fun w => w.2), ?_, ?_, ?_, by have := w2.map (fun w => w.2); rw [e2] at this; exact this⟩
  · rw [← w1, List.map_map]
    clear w1 w2
    induction W with
    | nil => exact .nil
    | cons w W ih => exact .cons (wp w List.mem_cons_self).1 (ih fun z hz => wp z (List.mem_cons_of_mem _ hz))
  · rw [List.all_map]
    exact List.all_eq_true.mpr fun z hz => (wp z hz).2.1
  · rw [← w1, List.map_map, List.map_map]
    exact List.map_congr_left fun z hz => (wp z hz).2.2
/-- s.add(x), s in slot i -/
def qSAdd (i : Nat) (q : QAs) : QE := fun e Q => match getC e i with
  | some (.set _) => q e fun ps e1 => match getC e1 i, ps with
    | some (.set ks), [x] => (PV.keyB x = true ∧ ks.length < 240) ∧ Q (.sh .non) (putC e1 i (.set (if hasK ks x then ks else x :: ks)))
    | _, _ => False
  | _ => False
theorem q_sadd {i : Nat} (g : Good G lv X) (ho : PE X o (tVar i)) (ha : PA X [a] (LA G qA)) (hbase : attributeBase o "add" X.env (eval o X.env) = eval o X.env := by rfl)
    (hfew : ((backTo cpos (starEach [a] X.env)).all (fun x => !x.1) && (backToKw cpos (keywordEach [] X.env)).all (fun x => x.1.isSome) && decide (([a] : List Expr).length + ([] : List Keyword).length + (if ([] : List Keyword).isEmpty then 0 else 1) < 30)) = true := by rfl)
    (hline : (apos.endLine == cpos.line) = true := by rfl) (hs : starEach [a] X.env = (false, eval a X.env) :: starEach [] X.env := by rfl) (hplain : (backTo cpos (starEach [] X.env)).any (·.1) = false := by rfl) :
    PE X (.Call (.Attribute o "add" apos) [a] [] cpos) (LE G (qSAdd i qA)) :=
  PE.imp (g.P ▸ g.w ▸ pe_saddG g.units ho ha hbase hfew hline hs hplain : PE X _ (tSAddG G.P G.w _ _)) fun σ H Q ⟨e, M, K, S, q, f⟩ => by
    unfold qSAdd at q
    split at q
    · rename_i ks0 hc
      obtain ⟨A, h1, ⟨L0, xs0, hL0, _⟩, _⟩ := S.cont hc
      refine ⟨.ref A, h1, ⟨A, L0, rfl, hL0⟩, e, M, _, S, q, fun ps e1 k1 vs H1 M1 S1 s1 R => ?_⟩
      split at k1
      · rename_i ks x hp
        obtain ⟨⟨kb, few⟩, k2⟩ := k1
        obtain ⟨a', q1, ⟨L, xs, hL, hr, hk, he, hperm⟩, q4⟩ := S1.cont hp
        rw [h1] at q1; cases q1
        cases R with
        | cons r0 rt =>
          cases rt
          obtain ⟨b, rfl, kh, dp⟩ := rep_keyB r0 kb
          have ll : L.length = ks.length := by
            have h1 := congrArg List.length he
            rw [List.length_map, List.length_map] at h1
            rw [h1, hperm.length_eq]
          have mem : (⟨PV.nk x, dp⟩ : KN) ∈ L.map (·.2) ↔ hasK ks x = true := by
            unfold hasK
            rw [decide_eq_true_iff]
            have : PV.nk x ∈ ks.map PV.nk ↔ PV.nk x ∈ L.map (fun y => y.2.1) := by rw [he]; exact ((hperm.map PV.nk).mem_iff).symm
            rw [this]
            constructor
            · intro h; obtain ⟨y, hy, e⟩ := List.mem_map.mp h; exact List.mem_map.mpr ⟨y, hy, by rw [e]⟩
            · intro h; obtain ⟨y, hy, e⟩ := List.mem_map.mp h; exact List.mem_map.mpr ⟨y, hy, Subtype.ext e⟩
          refine ⟨A, b, ⟨PV.nk x, dp⟩, L, rfl, rfl, hL, set_keys hr hk he, kh, by rw [ll]; omega, fun L' c1 c2 => ?_⟩
          obtain ⟨S2, s2⟩ := S1.change hp h1 (o := SetG G.P G.w A L') (p' := .set (if hasK ks x then ks else x :: ks)) (fun s => by
            by_cases c : hasK ks x = true
            · rw [if_pos c]
              have e := c1 (mem.mpr c)
              rw [e] at s ⊢
              exact ⟨L, xs, upd_same, hr.step s, hk, he, hperm⟩
            · rw [if_neg c]
              have pm := c2 (fun z => c (mem.mp z))
              obtain ⟨zs, z1, z2, z3, z4⟩ := set_perm pm (ys := x :: xs) (.cons r0 hr) (by rw [List.all_cons, kb, hk]; rfl) (by rw [List.map_cons, List.map_cons, he])
              exact ⟨L', zs, upd_same, z1.step s, z2, z3, z4.trans (hperm.cons _)⟩)
          exact f _ _ k2 _ _ M1 S2 (s1.trans s2) .non
      · exact k1.elim
    · exact q.elim
/-! ### in -/
def gInU (f : Bool → Bool) (q p : PV) (k : Bool → Prop) : Prop := match p with
  | .set ks => PV.keyB q = true ∧ k (f (hasK ks q))
  | _ => gInB f q p k
theorem gInU_mono (f : Bool → Bool) (q p : PV) (k k' : Bool → Prop) (g : ∀ b, k b → k' b) (h : gInU f q p k) : gInU f q p k' := by
  unfold gInU at h ⊢
  split at h
  · exact ⟨h.1, g _ h.2⟩
  · exact gInB_mono f q p k k' g h
def rSInF (P : Program) (w : World) (f : Bool → Bool) : V → V → Hp → VK → Prop := fun x y H Q => ∃ (b a : Addr) (k : KN) (L : List (Addr × KN)), x = .ref b ∧ y = V.ref a ∧ H a = some (SetG P w a L) ∧ (∀ p ∈ L, KH H (.ref p.1) p.2.1) ∧ KH H (.ref b) k.1 ∧ Q (.bl (f (decide (k ∈ L.map (·.2))))) H
theorem Acc.set {v : V} {ks : List PV} (h : Acc G.toEn H M v (.set ks)) : ∃ a, v = .ref a ∧ Obj G.toEn H M a (.set ks) := by
  rcases h with h | ⟨a, rfl, h⟩
  · cases h
  · exact ⟨a, rfl, h⟩
theorem l_inU (f : Bool → Bool) : Lift2 G (fun x y H Q => rInU G f x y H Q ∨ rSInF G.P G.w f x y H Q) (gB (gInU f)) := fun e M σ H v w p q Q k S a b g fin => by
  unfold gB gInU at g
  split at g
  · obtain ⟨kb, g⟩ := g
    obtain ⟨A, rfl, L, xs, hL, hr, hk, he, hperm⟩ := b.set
    have ra : Rep G.toEn H M v p := a.key (by unfold keyA; split <;> first | rfl | exact kb)
    obtain ⟨c, rfl, kh, dp⟩ := rep_keyB ra kb
    refine .inr ⟨c, A, ⟨PV.nk p, dp⟩, L, rfl, rfl, hL, set_keys hr hk he, kh, ?_⟩
    rename_i ks
    have mem : decide ((⟨PV.nk p, dp⟩ : KN) ∈ L.map (·.2)) = hasK ks p := by
      unfold hasK
      refine decide_eq_decide.mpr ?_
      have : PV.nk p ∈ ks.map PV.nk ↔ PV.nk p ∈ L.map (fun y => y.2.1) := by rw [he]; exact ((hperm.map PV.nk).mem_iff).symm
      rw [this]
      constructor
      · intro h; obtain ⟨y, hy, e⟩ := List.mem_map.mp h; exact List.mem_map.mpr ⟨y, hy, by rw [e]⟩
      · intro h; obtain ⟨y, hy, e⟩ := List.mem_map.mp h; exact List.mem_map.mpr ⟨y, hy, Subtype.ext e⟩
    rw [mem]
    exact aft_sh S (fin _ g) (.bl _)
  · exact .inl (l_in f e M σ H v w p q Q k S a b g fin)
theorem op_inSG (hu : X.A.units + 64 < cLine) : OpR X (compareOp .In) (rSInF X.prog X.w fun b => b) := or_sinG hu
abbrev gInQ := gInU fun b => b
theorem c_inU (g : Good G lv X) : CmpQ G X .In gInQ := ⟨⟨_, OpR.or (OpR.or (g.P ▸ g.w ▸ op_inD g.units) (OpR.or (g.K ▸ op_inSq g.units66) op_in_sign)) (g.P ▸ g.w ▸ op_inSG g.units), l_inU _⟩, gInU_mono _⟩
/-! ### len(set(xs)) -/
def isS : PV → Bool
  | .str _ => true
  | _ => false
theorem nodup_map {α β : Type} {f : α → β} {l : List α} (inj : ∀ a b, f a = f b → a = b) (nd : l.Nodup) : (l.map f).Nodup := List.Pairwise.map f (fun a b n e => n (inj a b e)) nd
theorem nodup_of_map {α β : Type} {f : α → β} {l : List α} (nd : (l.map f).Nodup) : l.Nodup := (List.pairwise_map.mp nd).imp fun n e => n (by rw [e])
def gLenSet (p : PV) (k : QV → Prop) : Prop := match p with
  | .lst xs => (xs.all isS || xs.all PV.keyB) = true ∧ xs.length < 250 ∧ ∀ n : Nat, n ≤ xs.length → (n = xs.length ↔ (xs.map PV.nk).Nodup) → k (.sh (.int n))
  | .tup xs => (xs.all isS || xs.all PV.keyB) = true ∧ xs.length < 250 ∧ ∀ n : Nat, n ≤ xs.length → (n = xs.length ↔ (xs.map PV.nk).Nodup) → k (.sh (.int n))
  | _ => False
theorem len_alt {vs : List V} {xs : List PV} {k : Nat → Prop} (r : RepAll G.toEn H M vs xs) (al : (xs.all isS || xs.all PV.keyB) = true) (few : xs.length < 250) (h : ∀ n : Nat, n ≤ xs.length → (n = xs.length ↔ (xs.map PV.nk).Nodup) → k n) : lenAlt H vs k := by
  rcases Bool.or_eq_true_iff.mp al with al1 | al1
  all_goals clear al
  · have : ∃ ys : List Str, xs = ys.map PV.str := by
      clear r h few
      induction xs with
      | nil => exact ⟨[], rfl⟩
      | cons x xs ih =>
        rw [List.all_cons, Bool.and_eq_true_iff] at al1
        obtain ⟨ys, e⟩ := ih al1.2
        cases x with
        | str y => exact ⟨y :: ys, by rw [e]; rfl⟩
        | _ => exact absurd al1.1 (by simp [isS])
    obtain ⟨ys, rfl⟩ := this
    have ev : vs = ys.map V.str := by
      clear h few al1
      induction ys generalizing vs with
      | nil => cases r; rfl
      | cons y ys ih =>
        rw [List.map_cons] at r
        cases r with
        | cons r0 rt => cases r0; rw [ih rt]; rfl
    refine .inl ⟨ys, ev, by rw [List.length_map] at few; exact few, fun n h1 h2 => h n (by rw [List.length_map]; exact h1) ?_⟩
    rw [List.length_map, h2, List.map_map]
    exact ⟨fun nd => nodup_map (fun a b h => by simpa [PV.nk] using h) nd, fun nd => nodup_of_map nd⟩
  · have : ∃ ks : List (Addr × KN), vs = ks.map (fun p => V.ref p.1) ∧ ks.map (fun x => x.2.1) = xs.map PV.nk ∧ ∀ p ∈ ks, KH H (.ref p.1) p.2.1 := by
      clear h few
      induction xs generalizing vs with
      | nil => cases r; exact ⟨[], rfl, rfl, fun _ z => nomatch z⟩
      | cons x xs ih =>
        rw [List.all_cons, Bool.and_eq_true_iff] at al1
        cases r with
        | cons r0 rt =>
          obtain ⟨ks, e1, e2, e3⟩ := ih rt al1.2
          obtain ⟨b, rfl, kh, dp⟩ := rep_keyB r0 al1.1
          refine ⟨(b, ⟨PV.nk x, dp⟩) :: ks, by rw [e1]; rfl, by rw [List.map_cons, List.map_cons, e2], fun p hp => ?_⟩
          rcases List.mem_cons.mp hp with rfl | hp
          · exact kh
          · exact e3 p hp
    obtain ⟨ks, e1, e2, e3⟩ := this
    have ll : ks.length = xs.length := by have := congrArg List.length e2; simpa using this
    refine .inr ⟨ks, e1, e3, by rw [ll]; exact few, fun n h1 h2 => h n (by rw [← ll]; exact h1) ?_⟩
    rw [← ll, h2, ← e2]
    have : ks.map (fun x => x.2.1) = (ks.map (·.2)).map Subtype.val := by rw [List.map_map]; rfl
    rw [this]
    exact ⟨fun nd => nodup_map (fun a b h => Subtype.ext h) nd, fun nd => nodup_of_map nd⟩
def qLenSet (q : QE) : QE := fun e Q => q e fun r e1 => withP (acc e1 r) fun p => gLenSet p fun r => Q r e1
theorem q_lenSet (g : Good G lv X) (hm : X.mg "len" = none) (hm2 : X.mg "set" = none) (ha : PE X a (LE G qa)) (hg : Gl X "len" := by rfl) (hg2 : Gl X "set" := by rfl)
    (na : starEach [a] X.env = (false, eval a X.env) :: starEach [] X.env := by rfl) : PE X (.Call (.Name "len" p) [.Call (.Name "set" p2) [a] [] q2] [] pos) (LE G (qLenSet qa)) := PE.imp (pe_lenSetU g.calm hg hm hg2 hm2 g.units ha na) fun σ H Q ⟨e, M, K, S, q, f⟩ => ⟨e, M, _, S, q, fun r e1 z v H1 M1 S1 s1 R => by
  obtain ⟨p, ap, z⟩ := withP_of z
  have A := Res.acc S1 R ap
  unfold gLenSet at z
  split at z
  · obtain ⟨al, few, z⟩ := z
    obtain ⟨a1, vs, rfl, sq, rr⟩ := A.lst
    exact ⟨a1, vs, rfl, .inl (g.K ▸ sq), len_alt rr al few fun n h1 h2 => aft_sh S1 ((f _ e1 (z n h1 h2)).from s1) (.int _)⟩
  · obtain ⟨al, few, z⟩ := z
    obtain ⟨a1, vs, rfl, sq, rr⟩ := A.tup
    exact ⟨a1, vs, rfl, .inr (g.K ▸ sq), len_alt rr al few fun n h1 h2 => aft_sh S1 ((f _ e1 (z n h1 h2)).from s1) (.int _)⟩
  · exact z.elim⟩
end
end CP
/-! Fields set, instances made, chains, comprehensions of two clauses. -/
namespace CP
open PySem PySem.Spec PyProof.Rows L2
section
variable {G : Gh} {lv : Nat} {X : Cx} {a b c o : Expr} {es : List Expr} {qa qb qc : QE} {qA : QAs} {qB : QBs} {pos p apos cpos tpos : Pos} {e : PEnv} {M : Addr → Prop} {σ : L2.St} {H : Hp}
/-! ### o.f = v -/
def putNs (f : Str) : List Str → List Str
  | [] => [f]
  | g :: r => if g = f then g :: r else g :: putNs f r
def putVs (f : Str) (x : PV) : List Str → List PV → List PV
  | [], _ => [x]
  | g :: r, v :: vs => if g = f then x :: vs else v :: putVs f x r vs
  | _ :: _, [] => []
theorem putF_rep {f : Str} {v : V} {x : PV} (rv : Rep G.toEn H M v x) : ∀ {fs : List (Str × V)} {vs : List PV}, RepAll G.toEn H M (fs.map (·.2)) vs → (putF f v fs).map (·.1) = putNs f (fs.map (·.1)) ∧ RepAll G.toEn H M ((putF f v fs).map (·.2)) (putVs f x (fs.map (·.1)) vs)
  | [], _, _ => ⟨rfl, .cons rv .nil⟩
  | (g, w) :: fs, [], r => by cases r
  | (g, w) :: fs, y :: vs, r => by
    cases r with
    | cons r0 rt =>
      obtain ⟨h1, h2⟩ := putF_rep (f := f) rv rt
      simp only [putF, putNs, putVs, List.map_cons]
      by_cases q : g = f
      · rw [if_pos q, if_pos q, if_pos q]; exact ⟨rfl, .cons rv rt⟩
      · rw [if_neg q, if_neg q, if_neg q]; exact ⟨by rw [List.map_cons, h1], .cons r0 h2⟩
def sFldS (C : Addr) (i : Nat) (f : Str) (q : QE) : QS := fun E e => q e fun r e1 => keep r e1 fun x e2 => match getC e2 i with
  | some (.ins D ns vs) => (D = C ∧ ns.length < 900) ∧ E.nx (putC e2 i (.ins C (putNs f ns) (putVs f x ns vs)))
  | _ => False
theorem s_fld {i : Nat} {C : Addr} {f : Str} {value : Expr} {pos' : Pos} {qv : QE} (g : Good G lv X) (cl : Cls X.K C) (na : NoAttr X.K C f) (ho : PE X o (tVar i)) (hv : PE X value (LE G qv)) (hs : swapsWith value (some (.Attribute o f pos')) pos.line X.env = pure false := by rfl) :
    PS X (.Assign [.Attribute o f pos'] value pos) (LS G (sFldS C i f qv)) := PS.imp (ps_fld ho hv hs) fun D σ H ⟨e, M, E, S, k, fin⟩ => ⟨e, M, _, S, k, fun r e1 k1 v H1 M1 S1 s1 R => by
    obtain ⟨x, e2, M2, k2, S2, s2, R2⟩ := keep_ok S1 R k1
    split at k2
    · rename_i D0 ns vs hp
      obtain ⟨⟨rfl, few⟩, k2⟩ := k2
      obtain ⟨A, h1, ⟨dx, fs, h2, rfl, rr⟩, _⟩ := S2.cont hp
      obtain ⟨g1, g2⟩ := putF_rep (f := f) R2 rr
      refine ⟨.ref A, h1, A, _, dx, fs, rfl, h2, cl, na, by rw [List.length_map] at few; omega, ?_⟩
      obtain ⟨S3, s3⟩ := S2.change hp h1 (o := .ins _ dx (putF f v fs)) (p' := .ins _ (putNs f (fs.map (·.1))) (putVs f x (fs.map (·.1)) vs)) (fun s => ⟨dx, _, upd_same, g1, g2.step s⟩)
      exact fin.nx _ k2 σ _ M2 S3 ((s1.trans s2).trans s3)
    · exact k2.elim⟩
/-! ### C(..) -/
theorem len_snoc {α : Type} {l : List α} {x : α} : (l ++ [x])[l.length]? = some x := by simp
theorem get_snoc {α : Type} {l : List α} {x y : α} {j : Nat} (h : (l ++ [x])[j]? = some y) : l[j]? = some y ∨ (j = l.length ∧ y = x) := by
  by_cases c : j < l.length
  · rw [List.getElem?_append_left c] at h; exact .inl h
  · rw [List.getElem?_append_right (by omega)] at h
    cases d : j - l.length with
    | zero => rw [d] at h; exact .inr ⟨by omega, by simpa using h.symm⟩
    | succ n => rw [d] at h; simp at h
theorem snoc_get {α : Type} {l : List α} {x y : α} {j : Nat} (h : l[j]? = some y) : (l ++ [x])[j]? = some y := by
  rw [List.getElem?_append_left (List.getElem?_eq_some_iff.mp h).1]; exact h
theorem StOk.extend (S : StOk G e M σ H) {x : Addr} {p : PV} (ob : Obj G.toEn H M x p) (ma : M x) (m0 : ¬ G.M0 x) (h0 : G.H0 x = none) (nj : ∀ j, Mu e j → σ[j]? ≠ some (some (V.ref x))) : StOk G (e ++ [.own p]) M (σ ++ [some (.ref x)]) H := by
  have mu : ∀ {j}, Mu (e ++ [.own p]) j → Mu e j ∨ j = e.length := fun {j} ⟨q, h⟩ => by
    rcases h with h | h
    · rcases get_snoc h with h | ⟨h, _⟩
      · exact .inl ⟨q, .inl h⟩
      · exact .inr h
    · rcases get_snoc h with h | ⟨h, _⟩
      · exact .inl ⟨q, .inr h⟩
      · exact .inr h
  have lt : ∀ {j}, Mu e j → j < e.length := fun {j} ⟨q, h⟩ => h.elim get_lt get_lt
  have sg : ∀ {j v}, j < e.length → (σ ++ [some (V.ref x)])[j]? = some (some v) → σ[j]? = some (some v) := fun {j v} hj h => by
    rw [List.getElem?_append_left (by rw [← S.len]; exact hj)] at h; exact h
  refine ⟨by rw [List.length_append, List.length_append, S.len]; rfl, fun j q h => ?_, fun j q h => ?_, fun j q h => ?_, fun i j b mi mj h1 h2 => ?_, fun j b h => ?_, S.m0, S.trk, S.prs, S.tmp⟩
  · rcases get_snoc h with h | ⟨_, h⟩
    · obtain ⟨v, q1, q2⟩ := S.val j q h; exact ⟨v, snoc_get q1, q2⟩
    · cases h
  · rcases get_snoc h with h | ⟨hj, h⟩
    · obtain ⟨v, q1, q2⟩ := S.own j q h; exact ⟨v, snoc_get q1, q2⟩
    · cases h
      exact ⟨x, by rw [hj, S.len]; exact len_snoc, ob, ma, m0, h0⟩
  · rcases get_snoc h with h | ⟨_, h⟩
    · obtain ⟨v, q0, q1, q2⟩ := S.io j q h; exact ⟨v, q0, snoc_get q1, q2⟩
    · cases h
  · have last : ∀ {v : V}, (σ ++ [some (V.ref x)])[e.length]? = some (some v) → v = .ref x := fun {v} h => by
      rw [S.len, len_snoc] at h; cases h; rfl
    rcases mu mi with m1 | e1
    · have h1' := sg (lt m1) h1
      rcases mu mj with m2 | e2
      · exact S.inj i j b m1 m2 h1' (sg (lt m2) h2)
      · subst e2
        have := last h2
        cases this
        exact absurd h1' (nj i m1)
    · subst e1
      have := last h1
      cases this
      rcases mu mj with m2 | e2
      · exact absurd (sg (lt m2) h2) (nj j m2)
      · exact e2.symm
  · obtain ⟨q1, q, q2⟩ := S.iol j b h
    exact ⟨snoc_get q1, q, snoc_get q2⟩
theorem StOk.shrink {x : Addr} {p : PV} (hl : e.length = σ.length) (S : StOk G (e ++ [.own p]) M (σ ++ [some (.ref x)]) H) (ni : ∀ j a, (j, a) ∈ G.iol → j < e.length) : StOk G e M σ H ∧ Res G e M σ H (.ref x) (.fr p) := by
  have lt : ∀ {j} {s : Sl}, e[j]? = some s → j < σ.length := fun h => by rw [← hl]; exact get_lt h
  have sg : ∀ {j v}, j < σ.length → (σ ++ [some (V.ref x)])[j]? = some (some v) → σ[j]? = some (some v) := fun {j v} hj h => by
    rw [List.getElem?_append_left hj] at h; exact h
  have mul : ∀ {j}, Mu e j → Mu (e ++ [.own p]) j := fun ⟨q, h⟩ => ⟨q, h.imp snoc_get snoc_get⟩
  have mlt : ∀ {j}, Mu e j → j < σ.length := fun ⟨q, h⟩ => h.elim lt lt
  have top : Mu (e ++ [.own p]) e.length := ⟨p, .inl len_snoc⟩
  have stop : (σ ++ [some (V.ref x)])[e.length]? = some (some (V.ref x)) := by rw [hl]; exact len_snoc
  refine ⟨⟨hl, fun j q h => ?_, fun j q h => ?_, fun j q h => ?_, fun i j b mi mj h1 h2 => S.inj i j b (mul mi) (mul mj) (snoc_get h1) (snoc_get h2), fun j b h => ?_, S.m0, S.trk, S.prs, S.tmp⟩, ?_⟩
  · obtain ⟨v, q1, q2⟩ := S.val j q (snoc_get h); exact ⟨v, sg (lt h) q1, q2⟩
  · obtain ⟨v, q1, q2⟩ := S.own j q (snoc_get h); exact ⟨v, sg (lt h) q1, q2⟩
  · obtain ⟨v, q0, q1, q2⟩ := S.io j q (snoc_get h); exact ⟨v, q0, sg (lt h) q1, q2⟩
  · obtain ⟨q1, q, q2⟩ := S.iol j b h
    have hj := ni j b h
    refine ⟨sg (by rw [← hl]; exact hj) q1, q, ?_⟩
    rw [List.getElem?_append_left hj] at q2; exact q2
  · obtain ⟨a, q1, q2, q3, q4, q5⟩ := S.own e.length p len_snoc
    rw [stop] at q1; cases q1
    refine ⟨x, rfl, q2, q3, q4, q5, fun j m z => ?_⟩
    have := S.inj j e.length x (mul m) top (snoc_get z) stop
    have l := mlt m
    rw [hl] at this; omega
theorem putC_snoc {s : Sl} {p : PV} : ∀ {e : PEnv}, putC (e ++ [s]) e.length p = e ++ [s.put p]
  | [] => rfl
  | t :: e => by show t :: putC (e ++ [s]) e.length p = _; rw [putC_snoc]; rfl
def keptAs (ps : List PV) : List AV := ps.map .kept
theorem argSs_kept (e : PEnv) : ∀ ps : List PV, argSs e (keptAs ps) = some (ps.map Sl.val)
  | [] => rfl
  | p :: ps => by show (match argS e (.kept p), argSs e (keptAs ps) with | some s, some ss => some (s :: ss) | _, _ => none) = _; rw [argSs_kept e ps]; rfl
theorem lents_kept : ∀ ps : List PV, lents (keptAs ps) = []
  | [] => rfl
  | p :: ps => lents_kept ps
theorem putB_kept (e : PEnv) : ∀ (ps : List PV) (ss : List Sl), putB e (keptAs ps) ss = e
  | [], ss => by cases ss <;> rfl
  | p :: ps, [] => rfl
  | p :: ps, s :: ss => by
    have : putB e (keptAs (p :: ps)) (s :: ss) = putB e (keptAs ps) ss := by cases s <;> rfl
    rw [this]; exact putB_kept e ps ss
theorem avOk_kept {vs : List V} {ps : List PV} (r : RepAll G.toEn H M vs ps) : AvOk G e M σ H vs (keptAs ps) := by
  induction ps generalizing vs with
  | nil => cases r; exact .nil
  | cons p ps ih => cases r with
    | cons r0 rt => exact .kept r0 (ih rt)
def qMake (C : Addr) (g : PG1) (q : QAs) : QE := fun e Q => q e fun ps e1 => g (.io (.ins C [] []) :: ps.map .val) fun r ss' => r = .sh .non ∧ match ss' with
  | .io p :: _ => Q (.fr p) e1
  | _ => False
variable {x : Str} {k : Nat} {f C : Addr} {fd : FuncData} {ps : List Str} {g : PG1}
theorem q_make (gd : Good G lv X) (MK : Mk X.K C f) (F : FnOk X.prog X.w X.K X.mg X.base CX0 k f fd ps (spP G.toEn g)) (hk : k + 1 ≤ lv) (hm : X.mg x = some (.ref C)) (hb : Binds X.K fd ps []) (hout : ∀ ss Q, g ss Q → g ss fun r ss' => Q r ss' ∧ ss'.length = ss.length) (ha : PA X (a :: es) (LA G qA))
    (hg : Gl X x := by rfl) (hdb : (x == ("__debug__" : Str)) = false := by decide) (he : starEach (a :: es) X.env = (false, eval a X.env) :: starEach es X.env := by rfl) (hpl : (backTo pos (starEach es X.env)).any (·.1) = false := by rfl) : PE X (.Call (.Name x p) (a :: es) [] pos) (LE G (qMake C g qA)) :=
  PE.imp (pe_make MK F (gd.room.mono hk) hg hm hb .nil pass0 ha hdb he hpl) fun σ H Q ⟨e, M, K, S, q, fin⟩ => ⟨e, M, _, S, q, fun ps e1 k1 vs H1 M1 S1 s1 R x dx hx hdx ne => by
    rw [List.append_nil]
    have S2 := S1.new (o := .own x) hdx
    have s2 : Step H1 M1 (L2.upd H1 dx (.own x)) M1 := step_new hdx
    have hx2 : (L2.upd H1 dx (.own x)) x = none := by rw [upd_ne (Ne.symm ne)]; exact hx
    obtain ⟨S3, s3⟩ := S2.newM (o := .ins C dx []) hx2
    have nM : ¬ G.M0 x := fun z => S1.trk x (S1.m0 x z) hx
    have nj : ∀ j, Mu e1 j → σ[j]? ≠ some (some (V.ref x)) := fun j m z => by
      obtain ⟨a, q, h1, _, h2, _⟩ := S1.mu m
      rw [z] at h1; cases h1
      exact h2.there hx
    have S4 := S3.extend (x := x) (p := .ins C [] []) ⟨dx, [], upd_same, rfl, .nil⟩ (.inl rfl) nM (S1.h0 hx) nj
    have A : AvOk G (e1 ++ [.own (.ins C [] [])]) (fun a => a = x ∨ M1 a) (σ ++ [some (.ref x)]) (L2.upd (L2.upd H1 dx (.own x)) x (.ins C dx [])) (.ref x :: vs) (.lent e1.length :: keptAs ps) :=
      .lent (by rw [S1.len]; exact len_snoc) (avOk_kept ((R.step s2).step s3))
    have gc : getC (e1 ++ [.own (.ins C [] [])]) e1.length = some (.ins C [] []) := by unfold getC; rw [len_snoc]; rfl
    have hs : argSs (e1 ++ [.own (.ins C [] [])]) (.lent e1.length :: keptAs ps) = some (.io (.ins C [] []) :: ps.map Sl.val) := by
      show (match argS _ _, argSs _ (keptAs ps) with | some s, some ss => some (s :: ss) | _, _ => none) = _
      rw [argSs_kept]
      show (match (getC _ _).map Sl.io, _ with | some s, some ss => some (s :: ss) | _, _ => none) = _
      rw [gc]; rfl
    have nd : (lents (.lent e1.length :: keptAs ps)).Nodup := by
      show (e1.length :: lents (keptAs ps)).Nodup
      rw [lents_kept]; simp
    obtain ⟨A', _, lent⟩ := args_ok S4 A hs
    refine ⟨_, _, _, A', fun i j b hi hj => ?_, S4.trk, hout _ _ k1, fun r ss' ⟨kr, hl⟩ v H' M' E => ?_⟩
    · obtain ⟨i', e1', m1, a1⟩ := (lent i b).mp hi
      obtain ⟨j', e2, m2, a2⟩ := (lent j b).mp hj
      have : i' = j' := S4.inj i' j' b m1 m2 a1 a2
      subst this
      exact lents_one nd e1' e2
    · obtain ⟨rfl, kr⟩ := kr
      obtain ⟨S5, s5, R5⟩ := call_back S4 A nd hs E hl
      have hv : v = .non := by
        have := R5 .non (.inl rfl)
        cases (show Rep G.toEn H' M' v .non from this); rfl
      refine ⟨hv, ?_⟩
      split at kr
      · rename_i p rest _
        have pb : putB (e1 ++ [.own (.ins C [] [])]) (.lent e1.length :: keptAs ps) (.io p :: rest) = e1 ++ [.own p] := by
          show putB (putC (e1 ++ [.own (.ins C [] [])]) e1.length p) (keptAs ps) rest = _
          rw [putB_kept]
          exact putC_snoc
        rw [pb] at S5
        obtain ⟨S6, R6⟩ := S5.shrink S1.len fun j a h => by
          obtain ⟨_, q, q2⟩ := S1.iol j a h
          exact get_lt q2
        exact fin _ _ kr _ H' M' S6 (((s1.trans s2).trans s3).trans s5) R6
      · exact kr.elim⟩
/-! ### a op b op c -/
def chainQ (g1 g2 : PV → PV → (Bool → Prop) → Prop) (a b c : QE) : QT := fun e Q => a e fun r1 e1 => stl r1 <| b e1 fun r2 e2 => stl r2 <| withP (acc e2 r1) fun p1 => withP (acc e2 r2) fun p2 => g1 p1 p2 fun k => if k = true then c e2 fun r3 e3 => withP (acc e3 r2) fun p2' => withP (acc e3 r3) fun p3 => g2 p2' p3 fun k2 => Q k2 e3 else Q false e2
theorem lift_b {r : R2} {g : PV → PV → (Bool → Prop) → Prop} (l : Lift2 G r (gB g)) (mono : ∀ p q (k k' : Bool → Prop), (∀ b, k b → k' b) → g p q k → g p q k') {v w : V} {p q : PV} {Q : VK} {k : Bool → Prop} (S : StOk G e M σ H) (a : Acc G.toEn H M v p) (b : Acc G.toEn H M w q) (gk : g p q k)
    (f : ∀ b, k b → ∀ H' M', StOk G e M' σ H' → Step H M H' M' → Q (.bl b) H') : r v w H Q :=
  l e M σ H v w p q Q (fun r => ∃ b, r = .sh (.bl b) ∧ k b) S a b (mono _ _ _ _ (fun b kk => ⟨b, rfl, kk⟩) gk) fun r ⟨b, hr, kk⟩ => by
    subst hr
    intro v H3 M3 S3 s3 R3
    cases (show Rep G.toEn H3 M3 v (.bl b) from R3)
    exact f b kk H3 M3 S3 s3
theorem chain_ok {r r' : R2} {g1 g2 : PV → PV → (Bool → Prop) → Prop} (l1 : Lift2 G r (gB g1)) (m1 : ∀ p q (k k' : Bool → Prop), (∀ b, k b → k' b) → g1 p q k → g1 p q k') (l2 : Lift2 G r' (gB g2)) (m2 : ∀ p q (k k' : Bool → Prop), (∀ b, k b → k' b) → g2 p q k → g2 p q k')
    {σ : L2.St} {H : Hp} {Q : VK} (h : ∃ e M K, StOk G e M σ H ∧ chainQ g1 g2 qa qb qc e K ∧ ∀ (b : Bool) e', K b e' → ∀ H' M', StOk G e' M' σ H' → Step H M H' M' → Q (.bl b) H') : tChain r r' (LE G qa) (LE G qb) (LE G qc) σ H Q := by
  obtain ⟨e, M, K, S, q, f⟩ := h
  refine ⟨e, M, _, S, q, fun r1 e1 k1 x H1 M1 S1 s1 R1 => ?_⟩
  obtain ⟨pb1, k1⟩ := stl_of k1
  obtain ⟨M1', S1', s1', R1'⟩ := Res.settle S1 R1 pb1
  refine ⟨e1, M1', _, S1', k1, fun r2 e2 k2 y H2 M2 S2 s2 R2 => ?_⟩
  obtain ⟨pb2, k2⟩ := stl_of k2
  obtain ⟨M2', S2', s2', R2'⟩ := Res.settle S2 R2 pb2
  obtain ⟨p1, a1, k2⟩ := withP_of k2
  obtain ⟨p2, a2, k2⟩ := withP_of k2
  have RA : Res G e2 M2' σ H2 x (settle r1) := Res.later (s2.trans s2') R1'
  refine lift_b l1 m1 S2' (Res.acc S2' RA (acc_settle.trans a1)) (Res.acc S2' R2' (acc_settle.trans a2)) k2 fun b kk H3 M3 S3 s3 => ?_
  refine ⟨b, rfl, ?_⟩
  have st := ((s1.trans s1').trans (s2.trans s2')).trans s3
  cases b with
  | false => exact f false e2 kk H3 M3 S3 st
  | true =>
    refine ⟨e2, M3, _, S3, kk, fun r3 e3 k3 z H4 M4 S4 s4 R4 => ?_⟩
    obtain ⟨p2', a2', k3⟩ := withP_of k3
    obtain ⟨p3, a3, k3⟩ := withP_of k3
    have RB : Res G e3 M4 σ H4 y (settle r2) := Res.later (s3.trans s4) R2'
    exact lift_b l2 m2 S4 (Res.acc S4 RB (acc_settle.trans a2')) (Res.acc S4 R4 a3) k3 fun b kk H5 M5 S5 s5 => f b e3 kk H5 M5 S5 ((st.trans s4).trans s5)
theorem t_chain {op op' : CmpOp} {g1 g2 : PV → PV → (Bool → Prop) → Prop} (c1 : CmpQ G X op g1) (c2 : CmpQ G X op' g2) (ha : PE X a (LE G qa)) (hb : PE X b (LE G qb)) (hc : PE X c (LE G qc)) (hm : lastMarks [op, op'] [b, c] = false := by with_unfolding_all rfl) : PT X (.Compare a [op, op'] [b, c] pos) (LT G (chainQ g1 g2 qa qb qc)) := by
  obtain ⟨r1, h1, l1⟩ := c1.ex
  obtain ⟨r2, h2, l2⟩ := c2.ex
  exact PT.imp (pt_chain h1 h2 ha hb hc hm) fun σ H Q ⟨e, M, K, S, q, f⟩ => chain_ok l1 c1.mono l2 c2.mono ⟨e, M, K, S, q, fun b e' k H' M' S' s' => ⟨b, rfl, f b e' k H' M' S' s'⟩⟩
def vChain (g1 g2 : PV → PV → (Bool → Prop) → Prop) (a b c : QE) : QE := fun e Q => chainQ g1 g2 a b c e fun k e1 => Q (.sh (.bl k)) e1
theorem v_chain {op op' : CmpOp} {g1 g2 : PV → PV → (Bool → Prop) → Prop} (c1 : CmpQ G X op g1) (c2 : CmpQ G X op' g2) (ha : PE X a (LE G qa)) (hb : PE X b (LE G qb)) (hc : PE X c (LE G qc)) (hm : lastMarks [op, op'] [b, c] = false := by with_unfolding_all rfl) : PE X (.Compare a [op, op'] [b, c] pos) (LE G (vChain g1 g2 qa qb qc)) := by
  obtain ⟨r1, h1, l1⟩ := c1.ex
  obtain ⟨r2, h2, l2⟩ := c2.ex
  exact PE.imp (pe_chain h1 h2 ha hb hc hm) fun σ H Q ⟨e, M, K, S, q, f⟩ => chain_ok l1 c1.mono l2 c2.mono ⟨e, M, _, S, q, fun b e' k H' M' S' s' => aft_sh S' ((f _ e' k).from s') (.bl b)⟩
end
end CP
/-! Comprehensions of two clauses. -/
namespace CP
open PySem PySem.Spec PyProof.Rows L2
section
variable {G : Gh} {lv : Nat} {X : Cx}
theorem wipe_sub {σ : L2.St} {vs vs1 : List Nat} (h : ∀ i ∈ vs1, i ∈ vs) : wipe (wipe σ vs1) vs = wipe σ vs := by
  refine List.ext_getElem? fun j => ?_
  by_cases c : j ∈ vs
  · have key : ∀ τ : L2.St, (wipe τ vs)[j]? = if j < τ.length then some none else none := fun τ => by
      by_cases l : j < τ.length
      · rw [if_pos l]
        cases q : (wipe τ vs)[j]? with
        | none =>
          have := List.getElem?_eq_none_iff.mp q
          rw [wipe_length] at this; omega
        | some o =>
          cases o with
          | none => rfl
          | some x => exact absurd c (wipe_some q).2
      · rw [if_neg l]
        exact List.getElem?_eq_none_iff.mpr (by rw [wipe_length]; omega)
    rw [key, key, wipe_length]
  · rw [wipe_out c, wipe_out c, wipe_out fun z => c (h j z)]
def runB (g : QG) (t : QT) (q : QE) (vs : List Nat) : List PV → List PV → PEnv → (List PV → PEnv → Prop) → Prop
  | [], acc, e, k => k acc e
  | p :: ps, acc, e, k => g p e fun e1 => t e1 fun b e2 => if b = true then q e2 fun r e3 => keep r e3 fun x e4 => acc.length < SZ ∧ runB g t q vs ps (acc ++ [x]) (wipeE e4 vs) k else runB g t q vs ps acc (wipeE e2 vs) k
def run2 (g : QG) (t : QT) (i1 : QI) (g1 : QG) (t1 : QT) (q : QE) (vs vs1 : List Nat) : List PV → List PV → PEnv → (List PV → PEnv → Prop) → Prop
  | [], acc, e, k => k acc e
  | p :: ps, acc, e, k => g p e fun e1 => t e1 fun b e2 => if b = true then i1 e2 fun items1 e3 => runB g1 t1 q vs1 items1 acc (wipeE e3 vs1) fun acc' e4 => run2 g t i1 g1 t1 q vs vs1 ps acc' (wipeE e4 vs) k else run2 g t i1 g1 t1 q vs vs1 ps acc (wipeE e2 vs) k
def qLc2 (i : QI) (g : QG) (t : QT) (i1 : QI) (g1 : QG) (t1 : QT) (q : QE) (vs vs1 : List Nat) : QE := fun e Q => i e fun items e1 => noIo e1 vs = true ∧ run2 g t i1 g1 t1 q vs vs1 items [] (wipeE e1 vs) fun acc e2 => Q (.fr (.lst acc)) (backE e1 e2 vs)
theorem lc2_fin {σ : L2.St} {items : List PV} {J : It} {vs vs1 : List Nat} {qg qg1 : QG} {qt qt1 : QT} {qi1 : QI} {qe : QE} {Q : VK} {e1 : PEnv} {M1 : Addr → Prop} {H1 : Hp} {K : List PV → PEnv → Prop} (sub : ∀ i ∈ vs1, i ∈ vs) (S1 : StOk G e1 M1 σ H1) (W : Walks G J items H1 M1)
    (no : noIo e1 vs = true) (run : run2 qg qt qi1 qg1 qt1 qe vs vs1 items [] (wipeE e1 vs) K) (fin : ∀ acc e2, K acc e2 → Aft G σ H1 M1 Q (.fr (.lst acc)) (backE e1 e2 vs)) {g' g1' : TG} {t' t1' : TT} {wi1' : TI} {te' : TE}
    (hg : ∀ D o v σ H Q, LG (Gh.under G D o) vs qg v σ H Q → g' v σ H Q) (ht : ∀ D o σ H Q, LT (Gh.under G D o) qt σ H Q → t' σ H Q) (hi1 : ∀ D o σ H R, LI (Gh.under G D o) qi1 σ H R → wi1' σ H R) (hg1 : ∀ D o v σ H Q, LG (Gh.under G D o) vs1 qg1 v σ H Q → g1' v σ H Q) (ht1 : ∀ D o σ H Q, LT (Gh.under G D o) qt1 σ H Q → t1' σ H Q) (he : ∀ D o σ H Q, LE (Gh.under G D o) qe σ H Q → te' σ H Q) :
    ∀ D, H1 D = none → ∃ W : Nat → Nat → Hp → Prop, (∃ m, W 0 m (L2.upd H1 D (.lst []))) ∧ ∀ i m H, W i m H →
      (J.stop i H ∧ Q (.ref D) H) ∨ (J.go i H ∧ ∃ Nx : Hp → Prop, (∀ H', Nx H' → ∃ m', m' < m ∧ W (i + 1) m' H') ∧ ∀ x H', J.yld i H x H' → g' x (wipe σ vs) H' fun σ2 H2 => wipe σ2 vs = wipe σ vs ∧ t' σ2 H2 fun b H3 =>
        if b = true then wi1' σ2 H3 fun J1 H4 => ∃ W1 : Nat → Nat → Hp → Prop, (∃ m, W1 0 m H4) ∧ ∀ j k H, W1 j k H →
          (J1.stop j H ∧ Nx H) ∨ (J1.go j H ∧ ∃ Nx1 : Hp → Prop, (∀ H', Nx1 H' → ∃ k', k' < k ∧ W1 (j + 1) k' H') ∧ ∀ x H', J1.yld j H x H' → g1' x (wipe σ2 vs1) H' fun σ3 H5 => wipe σ3 vs1 = wipe σ2 vs1 ∧ t1' σ3 H5 fun b H6 =>
            if b = true then te' σ3 H6 fun y H7 => ∃ acc, H7 D = some (.lst acc) ∧ acc.length < sizeLine ∧ Nx1 (L2.upd H7 D (.lst (acc ++ [y]))) else Nx1 H6)
        else Nx H3) := by
  intro D hD
  have h0 : G.H0 D = none := S1.h0 hD
  have nt : ∀ o, (D, o) ∉ G.tmp := fun o z => by rw [(S1.tmp D o z).2] at hD; cases hD
  have nM : ¬ G.M0 D := fun z => S1.trk D (S1.m0 D z) hD
  have noi : ∀ i a, (i, a) ∈ G.iol → i ∉ vs := fun i a h c => by
    obtain ⟨_, p, q2⟩ := S1.iol i a h
    exact noIo_of no c p q2
  have noi1 : ∀ i a, (i, a) ∈ G.iol → i ∉ vs1 := fun i a h c => noi i a h (sub i c)
  obtain ⟨Sn, sn⟩ := S1.enter hD (.lst [])
  refine ⟨fun i m H' => m = items.length - i ∧ i ≤ items.length ∧ ∃ (acc : List PV) (accV : List V) (e' : PEnv) (M' : Addr → Prop), StOk (G.under D (.lst accV)) e' M' (wipe σ vs) H' ∧ Step H1 M1 H' M' ∧ RepAll G.toEn H' M' accV acc ∧ (∀ j ∈ vs, ∀ s, e'[j]? = some s → s = .no) ∧ run2 qg qt qi1 qg1 qt1 qe vs vs1 (items.drop i) acc e' K,
    ⟨_, rfl, Nat.zero_le _, [], [], wipeE e1 vs, _, Sn.wiped (fun i a h => noi i a h), sn, .nil, fun j hj s h => wipeE_in hj h, run⟩, ?_⟩
  rintro i m H2 ⟨rfl, hi, acc, accV, e2, M2, S2, s2, ra, hv2, k2⟩
  obtain ⟨wg, ws⟩ := W H2 M2 s2 S2.trk
  by_cases c : i < items.length
  · have hp : items[i]? = some items[i] := List.getElem?_eq_getElem c
    obtain ⟨go, yl⟩ := wg i _ hp
    rw [List.drop_eq_getElem_cons c] at k2
    let Nx : Hp → Prop := fun H' => ∃ (acc : List PV) (accV : List V) (e' : PEnv) (M' : Addr → Prop), StOk (G.under D (.lst accV)) e' M' (wipe σ vs) H' ∧ Step H1 M1 H' M' ∧ RepAll G.toEn H' M' accV acc ∧ (∀ j ∈ vs, ∀ s, e'[j]? = some s → s = .no) ∧ run2 qg qt qi1 qg1 qt1 qe vs vs1 (items.drop (i + 1)) acc e' K
    refine .inr ⟨go, Nx, fun H' h => ⟨items.length - (i + 1), by omega, rfl, c, h⟩, fun x H3 y => ?_⟩
    obtain ⟨y1, y3⟩ := yl x H3 y
    have sy : Step H2 M2 H3 M2 := step_grow1 y1
    refine hg D (.lst accV) _ _ _ _ ⟨e2, M2, items[i], _, S2.grow1 y1, y3, k2, fun e4 k4 σ4 H4 M4 S4 s4 w4 => ?_⟩
    have w4' : wipe σ4 vs = wipe σ vs := by rw [w4, wipe_idem]
    refine ⟨w4', ht D (.lst accV) _ _ _ ⟨e4, M4, _, S4, k4, fun b e5 k5 H5 M5 S5 s5 => ?_⟩⟩
    have st5 : Step H2 M2 H5 M5 := (sy.trans s4).trans s5
    cases b with
    | false =>
      refine ⟨acc, accV, wipeE e5 vs, M5, ?_, s2.trans st5, ra.step st5, fun j hj s h => wipeE_in hj h, k5⟩
      rw [← w4']
      exact S5.wiped (fun i a h => noi i a h)
    | true =>
      refine hi1 D (.lst accV) _ _ _ ⟨e5, M5, _, S5, k5, fun items1 e6 k6 _ J1 H6 M6 S6 s6 W1 => ?_⟩
      have st6 : Step H1 M1 H6 M6 := (s2.trans st5).trans s6
      refine ⟨fun j k H' => k = items1.length - j ∧ j ≤ items1.length ∧ ∃ (acc : List PV) (accV : List V) (e' : PEnv) (M' : Addr → Prop), StOk (G.under D (.lst accV)) e' M' (wipe σ4 vs1) H' ∧ Step H6 M6 H' M' ∧ RepAll G.toEn H' M' accV acc ∧ (∀ j ∈ vs1, ∀ s, e'[j]? = some s → s = .no) ∧ runB qg1 qt1 qe vs1 (items1.drop j) acc e' (fun acc' e4 => run2 qg qt qi1 qg1 qt1 qe vs vs1 (items.drop (i + 1)) acc' (wipeE e4 vs) K),
        ⟨_, rfl, Nat.zero_le _, acc, accV, wipeE e6 vs1, M6, S6.wiped (fun i a h => noi1 i a h), .refl, ra.step (st5.trans s6), fun j hj s h => wipeE_in hj h, k6⟩, ?_⟩
      rintro j k H7 ⟨rfl, hj, acc7, accV7, e7, M7, S7, s7, ra7, hv7, k7⟩
      obtain ⟨wg1, ws1⟩ := W1 H7 M7 s7 S7.trk
      by_cases cj : j < items1.length
      · have hp1 : items1[j]? = some items1[j] := List.getElem?_eq_getElem cj
        obtain ⟨go1, yl1⟩ := wg1 j _ hp1
        rw [List.drop_eq_getElem_cons cj] at k7
        refine .inr ⟨go1, fun H' => ∃ (acc : List PV) (accV : List V) (e' : PEnv) (M' : Addr → Prop), StOk (G.under D (.lst accV)) e' M' (wipe σ4 vs1) H' ∧ Step H6 M6 H' M' ∧ RepAll G.toEn H' M' accV acc ∧ (∀ j ∈ vs1, ∀ s, e'[j]? = some s → s = .no) ∧ runB qg1 qt1 qe vs1 (items1.drop (j + 1)) acc e' (fun acc' e4 => run2 qg qt qi1 qg1 qt1 qe vs vs1 (items.drop (i + 1)) acc' (wipeE e4 vs) K), fun H' h => ⟨items1.length - (j + 1), by omega, rfl, cj, h⟩, fun x1 H8 y => ?_⟩
        obtain ⟨z1, z3⟩ := yl1 x1 H8 y
        have sz : Step H7 M7 H8 M7 := step_grow1 z1
        refine hg1 D (.lst accV7) _ _ _ _ ⟨e7, M7, items1[j], _, S7.grow1 z1, z3, k7, fun e9 k9 σ9 H9 M9 S9 s9 w9 => ?_⟩
        have w9' : wipe σ9 vs1 = wipe σ4 vs1 := by rw [w9, wipe_idem]
        refine ⟨w9', ht1 D (.lst accV7) _ _ _ ⟨e9, M9, _, S9, k9, fun b e10 k10 H10 M10 S10 s10 => ?_⟩⟩
        have st10 : Step H7 M7 H10 M10 := (sz.trans s9).trans s10
        cases b with
        | false =>
          refine ⟨acc7, accV7, wipeE e10 vs1, M10, ?_, s7.trans st10, ra7.step st10, fun j hj s h => wipeE_in hj h, k10⟩
          rw [← w9']
          exact S10.wiped (fun i a h => noi1 i a h)
        | true =>
          refine he D (.lst accV7) _ _ _ ⟨e10, M10, _, S10, k10, fun r e11 k11 v H11 M11 S11 s11 R11 => ?_⟩
          obtain ⟨x', e12, M12, ⟨few, k12⟩, S12, s12, R12⟩ := keep_ok S11 R11 k11
          have st12 : Step H7 M7 H11 M12 := (st10.trans s11).trans s12
          obtain ⟨q1, q2⟩ := S12.tmp D (.lst accV7) List.mem_cons_self
          have la := (ra7.step st12).length
          have sg := (S12.grow (w := .lst (accV7 ++ [v])) nt h0).2
          refine ⟨accV7, q2, by rw [la]; exact sz_fits1 few, acc7 ++ [x'], accV7 ++ [v], wipeE e12 vs1, M12, ?_, (s7.trans st12).trans sg, ((ra7.step st12).step sg).append (.cons (R12.step sg) .nil), fun j hj s h => wipeE_in hj h, k12⟩
          rw [← w9']
          exact ((S12.grow (w := .lst (accV7 ++ [v])) nt h0).1).wiped (fun i a h => noi1 i a h)
      · have ej : j = items1.length := by omega
        subst ej
        rw [List.drop_length] at k7
        refine .inl ⟨ws1, acc7, accV7, wipeE e7 vs, M7, ?_, st6.trans s7, ra7, fun j hj s h => wipeE_in hj h, k7⟩
        have := S7.wiped (vs := vs) (fun i a h => noi i a h)
        rw [wipe_sub sub, w4'] at this
        exact this
  · have ei : i = items.length := by omega
    subst ei
    rw [List.drop_length] at k2
    refine .inl ⟨ws, fin acc e2 k2 _ _ M2 (S1.leave s2 S2 rfl hv2) s2 ⟨D, rfl, ⟨accV, ?_, ra⟩, S2.m0 D (.inl rfl), nM, h0, fun j m z => ?_⟩⟩
    · exact (S2.tmp D (.lst accV) List.mem_cons_self).2
    · obtain ⟨p, h⟩ := m
      have key : j ∉ vs ∧ Mu e2 j := by
        rcases h with h | h
        · rcases backE_some h with ⟨c, h⟩ | ⟨_, h⟩
          · exact ⟨c, p, .inl h⟩
          · unfold stayV at h; split at h <;> cases h
        · rcases backE_some h with ⟨c, h⟩ | ⟨_, h⟩
          · exact ⟨c, p, .inr h⟩
          · unfold stayV at h; split at h <;> cases h
      obtain ⟨a, q, q1, _, _, _, q4, _⟩ := S2.mu key.2
      rw [sig_out key.1, z] at q1
      cases q1
      exact q4 (.inl rfl)
abbrev UI (G : Gh) (q : QI) : TI := fun σ H R => ∃ D o, LI (Gh.under G D o) q σ H R
theorem pi_ex {X : Cx} {α : Type} {tg a : Expr} {t : α → TI} (h : ∀ x, PI X tg a (t x)) : PI X tg a (fun σ H R => ∃ x, t x σ H R) := ⟨fun pins s σ H R I ⟨x, q⟩ => (h x).run pins s σ H R I q⟩
variable {elt tg iter tg1 iter1 : Expr} {ifs ifs1 : List Expr} {scope : Scope} {own : List (Str × Nat)} {vs1 : List Nat} {pos : Pos} {qi qi1 : QI} {qg qg1 : QG} {qt qt1 : QT} {qe : QE}
theorem q_lc2 (g : Good G lv X) (hi : PI X tg iter (LI G qi)) (ok : BlkOk X.N X.env.scope scope own) (sub : ∀ i ∈ vs1, i ∈ own.map (·.2))
    (hg : ∀ (s : Shared) (H : Hp) (C : Addr) (cl : List (Str × Addr)) (fp : List Addr) (D : Addr) (o : HO), Good (G.under D o) lv (X.blk s H scope (compEnvC scope cl C X.env) fp) → PG (X.blk s H scope (compEnvC scope cl C X.env) fp) tg (LG (G.under D o) (own.map (·.2)) qg))
    (ht : ∀ (s : Shared) (H : Hp) (C : Addr) (cl : List (Str × Addr)) (fp : List Addr) (D : Addr) (o : HO), Good (G.under D o) lv (X.blk s H scope (compEnvC scope cl C X.env) fp) → PTs (X.blk s H scope (compEnvC scope cl C X.env) fp) ifs (LT (G.under D o) qt))
    (hi1 : ∀ (s : Shared) (H : Hp) (C : Addr) (cl : List (Str × Addr)) (fp : List Addr) (D : Addr) (o : HO), Good (G.under D o) lv (X.blk s H scope (compEnvC scope cl C X.env) fp) → PI (X.blk s H scope (compEnvC scope cl C X.env) fp) tg1 iter1 (LI (G.under D o) qi1))
    (hg1 : ∀ (s : Shared) (H : Hp) (C : Addr) (cl : List (Str × Addr)) (fp : List Addr) (D : Addr) (o : HO), Good (G.under D o) lv (X.blk s H scope (compEnvC scope cl C X.env) fp) → PG (X.blk s H scope (compEnvC scope cl C X.env) fp) tg1 (LG (G.under D o) vs1 qg1))
    (ht1 : ∀ (s : Shared) (H : Hp) (C : Addr) (cl : List (Str × Addr)) (fp : List Addr) (D : Addr) (o : HO), Good (G.under D o) lv (X.blk s H scope (compEnvC scope cl C X.env) fp) → PTs (X.blk s H scope (compEnvC scope cl C X.env) fp) ifs1 (LT (G.under D o) qt1))
    (he : ∀ (s : Shared) (H : Hp) (C : Addr) (cl : List (Str × Addr)) (fp : List Addr) (D : Addr) (o : HO), Good (G.under D o) lv (X.blk s H scope (compEnvC scope cl C X.env) fp) → PE (X.blk s H scope (compEnvC scope cl C X.env) fp) elt (LE (G.under D o) qe))
    (hs : ∀ x, foldedSetIterable iter X.env x = pure x := by intro _; rfl) (hs1 : ∀ env x, foldedSetIterable iter1 env x = pure x := by intro _ _; rfl) : PE X (.ListComp elt [⟨tg, iter, ifs, 0⟩, ⟨tg1, iter1, ifs1, 0⟩] scope pos) (LE G (qLc2 qi qg qt qi1 qg1 qt1 qe (own.map (·.2)) vs1)) :=
  PE.imp (pe_lc2 (vs1 := vs1) g.calm g.nd hi ok sub (fun s H C cl fp => pg_ex fun D => pg_ex fun o => hg s H C cl fp D o (g.blk D o s H scope _ fp)) (fun s H C cl fp => pts_ex fun D => pts_ex fun o => ht s H C cl fp D o (g.blk D o s H scope _ fp)) (fun s H C cl fp => pi_ex fun D => pi_ex fun o => hi1 s H C cl fp D o (g.blk D o s H scope _ fp)) (fun s H C cl fp => pg_ex fun D => pg_ex fun o => hg1 s H C cl fp D o (g.blk D o s H scope _ fp)) (fun s H C cl fp => pts_ex fun D => pts_ex fun o => ht1 s H C cl fp D o (g.blk D o s H scope _ fp)) (fun s H C cl fp => pe_ex fun D => pe_ex fun o => he s H C cl fp D o (g.blk D o s H scope _ fp)) hs hs1)
    fun σ H Q ⟨e, M, K, S, q, f⟩ => ⟨e, M, _, S, q, fun items e1 k1 hl J H1 M1 S1 s1 W => lc2_fin (g' := UG G (own.map (·.2)) qg) (t' := UT G qt) (wi1' := UI G qi1) (g1' := UG G vs1 qg1) (t1' := UT G qt1) (te' := UE G qe) sub S1 W k1.1 k1.2 (fun acc e2 k => (f _ _ k).from s1) (fun D o v σ H Q k => ⟨D, o, k⟩) (fun D o σ H Q k => ⟨D, o, k⟩) (fun D o σ H Q k => ⟨D, o, k⟩) (fun D o v σ H Q k => ⟨D, o, k⟩) (fun D o σ H Q k => ⟨D, o, k⟩) (fun D o σ H Q k => ⟨D, o, k⟩)⟩
end
end CP
/-! Small rules. -/
namespace CP
open PySem PySem.Spec PyProof.Rows L2
section
variable {G : Gh} {lv : Nat} {X : Cx} {a b c o : Expr} {es : List Expr} {qa qb qc : QE} {qA : QAs} {qB : QBs} {pos p apos cpos tpos : Pos} {e : PEnv} {M : Addr → Prop} {σ : L2.St} {H : Hp} {st : Stmt} {sts : List Stmt}
/-! ### what is never come to -/
def sNever : QS := fun _ _ => False
theorem s_never : PS X st (LS G sNever) := PS.imp ps_never fun D σ H ⟨e, M, E, S, k, f⟩ => k
/-! ### xs[::-1] -/
def gRev (p : PV) (k : QV → Prop) : Prop := match p with
  | .lst xs => k (.fr (.lst xs.reverse))
  | _ => False
theorem q_rev {k : Nat} {p1 p2 p3 : Pos} (g : Good G lv X) (ha : PE X a (LE G qa)) : PE X (.Subscript a (.Slice none none (some (.UnaryOp .USub (.Constant (.int 1) k p1) p2)) p3) pos) (LE G (qUn gRev qa)) := PE.imp (pe_revL ha) fun σ H Q ⟨e, M, K, S, q, f⟩ => ⟨e, M, _, S, q, fun r e1 z v H1 M1 S1 s1 R => by
  obtain ⟨p, ap, z⟩ := withP_of z
  unfold gRev at z
  split at z
  · obtain ⟨a1, vs, rfl, sq, rr⟩ := (Res.acc S1 R ap).lst
    refine ⟨a1, vs, rfl, g.K ▸ sq, fun p hp => ?_⟩
    obtain ⟨S2, s2, R2⟩ := S1.newLst hp rr.reverse
    exact (f _ e1 z).from s1 _ _ _ S2 s2 R2
  · exact z.elim⟩
/-! ### name op= .. -/
abbrev gAugInt (f : Int → Int → Int) := gInt (fun _ _ => True) f
theorem s_augXor {i : Nat} {x : Str} {pos' : Pos} (gd : Good G lv X) (ha : PE X a (LE G qa)) (hi : X.N[i]? = some x := by rfl) (hx : Loc X.env.scope x := by first | exact Or.inl rfl | exact Or.inr rfl) (hf : X.fn x = true ∨ X.env.scope.names.lookup x = some .local := by first | exact .inl rfl | exact .inr rfl | assumption) :
    PS X (.AugAssign (.Name x pos') .BitXor a pos) (LS G (sAugI i (gAugInt Builtin.bitXor) qa)) := s_augI gd iop_xor l_int0 ha hi hx hf
/-- +=: a whole number, or a list that grows where it stands -/
def sAugAdd (i : Nat) (qa : QE) : QS := fun E e => match e[i]? with
  | some (Sl.val p) => qa e fun r e1 => withP (acc e1 r) fun p2 => gAugInt (fun i j => i + j) p p2 fun r => storeS i r e1 E.nx
  | some (Sl.own (.lst _)) => qa e fun r e1 => withP (acc e1 r) fun p2 => match e1[i]?, p2 with
    | some (Sl.own (.lst xs)), .lst ys => (xs.length + ys.length ≤ SZ ∧ r ≠ .bor i) ∧ E.nx (putC e1 i (.lst (xs ++ ys)))
    | _, _ => False
  | _ => False
def rExtR : R2 := fun x y H Q => ∃ l b xs zs, x = .ref l ∧ y = .ref b ∧ H l = some (.lst xs) ∧ Rd H b (.lst zs) ∧ xs.length + zs.length ≤ sizeLine ∧ Q (.ref l) (L2.upd H l (.lst (xs ++ zs)))
theorem iop_extR : OpR X (inplaceOp .Add) rExtR := by
  intro pins s σ H x y v u Q I rx ry h
  obtain ⟨l, b, xs, zs, rfl, rfl, hH, hB, hz, q⟩ := h
  cases rx
  cases ry
  obtain ⟨z, its, n, r, hl, e⟩ := I.lstM hH
  obtain ⟨z2, its2, n2, r2, e2⟩ := hB.ok I.hok
  have l2 := r2.length
  have fit : its.toArray.size + its2.toArray.size ≤ sizeLine := by rw [List.size_toArray, List.size_toArray]; omega
  have short : ¬ (!its.toArray.isEmpty && Builtin.List.listTooLong (its.toArray.size + its2.toArray.size)) = true := by
    rw [notLongL fit, Bool.and_false]
    exact Bool.false_ne_true
  refine iadd_road ⟨_, e, rfl⟩ ⟨_, e2, rfl⟩ (call_meets PySem.F.slot_list_iadd ⟨_, e, rfl⟩ PySem.F.entry_list_iadd (PySem.F.args_list_iadd_2 _ _) (AutoSeq1.list___iadd___list_list_0 l its.toArray n b its2.toArray n2 short (by rw [List.size_toArray]; omega) (by omega)) ⟨e, e2, ?_⟩)
  exact ⟨.ref l, _, I.lset (its' := its ++ its2) (t' := s.toks) hH e (by simp) (r.append r2) (by rw [List.length_append]; omega), rfl, q⟩
theorem Acc.rdl {v : V} {xs : List PV} (h : Acc G.toEn H M v (.lst xs)) : ∃ a vs, v = .ref a ∧ Rd H a (.lst vs) ∧ RepAll G.toEn H M vs xs := by
  rcases h with h | ⟨a, rfl, vs, h1, h2⟩
  · cases h with
    | lst s r => exact ⟨_, _, rfl, s.1, r⟩
  · exact ⟨a, vs, rfl, .inl h1, h2⟩
theorem s_augAdd {i : Nat} {x : Str} {pos' : Pos} (gd : Good G lv X) (ha : PE X a (LE G qa)) (hi : X.N[i]? = some x := by rfl) (hx : Loc X.env.scope x := by first | exact Or.inl rfl | exact Or.inr rfl) (hf : X.fn x = true ∨ X.env.scope.names.lookup x = some .local := by first | exact .inl rfl | exact .inr rfl | assumption) :
    PS X (.AugAssign (.Name x pos') .Add a pos) (LS G (sAugAdd i qa)) := PS.imp (ps_aug gd.nd hi hx ha (pip_of (OpR.or iop_add iop_extR)) hf) fun D σ H ⟨e, M, E, S, k, f⟩ => by
    unfold sAugAdd at k
    split at k
    · rename_i p hp
      obtain ⟨v, h1, rv⟩ := S.val i p hp
      refine ⟨v, h1, e, M, _, S, k, fun r e1 k1 w H1 M1 S1 s1 R => ?_⟩
      obtain ⟨p2, a2, k2⟩ := withP_of k1
      refine .inl (l_int0 e1 M1 σ H1 v w p p2 _ (fun r => storeS i r e1 E.nx) S1 (.inl (rv.step s1)) (Res.acc S1 R a2) k2 fun r kr z H2 M2 S2 s2 R2 => ?_)
      obtain ⟨e3, M3, k3, S3, s3⟩ := store_fin S2 R2 kr
      exact f.nx e3 k3 _ H2 M3 S3 ((s1.trans s2).trans s3)
    · rename_i xs0 hp
      obtain ⟨A, h1, _⟩ := S.own i _ hp
      refine ⟨_, h1, e, M, _, S, k, fun r e1 k1 w H1 M1 S1 s1 R => ?_⟩
      obtain ⟨p2, a2, k2⟩ := withP_of k1
      split at k2
      · rename_i xs ys hc
        obtain ⟨⟨few, _⟩, k2⟩ := k2
        have gc : getC e1 i = some (.lst xs) := by unfold getC; rw [hc]; rfl
        obtain ⟨A', q1, ⟨us, hu, ru⟩, _⟩ := S1.cont gc
        rw [h1] at q1; cases q1
        obtain ⟨b, ws, rfl, rb, rw'⟩ := (Res.acc S1 R a2).rdl
        refine .inr ⟨A, b, us, ws, rfl, rfl, hu, rb, by rw [ru.length, rw'.length]; exact sz_fits few, ?_⟩
        obtain ⟨S2, s2⟩ := S1.change gc h1 (o := .lst (us ++ ws)) (p' := .lst (xs ++ ys)) (fun s => ⟨_, upd_same, (ru.step s).append (rw'.step s)⟩)
        have same : σ.set i (some (V.ref A)) = σ := List.ext_getElem? fun j => by
          by_cases c : j = i
          · subst c
            rw [List.getElem?_set_self (List.getElem?_eq_some_iff.mp h1).1, h1]
          · rw [List.getElem?_set_ne (Ne.symm c)]
        rw [same]
        exact f.nx _ k2 σ _ M1 S2 (s1.trans s2)
      · exact k2.elim
    · exact k.elim
/-! ### targets o[i] -/
def gqSub (j : Nat) (qi : QE) : QG := fun x e k => muB e j = true ∧ qi e fun r e1 => withP (acc e1 r) fun y => match getC e1 j with
  | some (.lst xs) => withI y fun n => ∃ m, ixN xs.length n = some m ∧ k (putC e1 j (.lst (xs.set m x)))
  | some (.dic ps) => (keyA y = true ∧ famB ps y = true ∧ ps.length < SZ) ∧ k (putC e1 j (.dic (pput ps y x)))
  | _ => False
theorem g_sub {j : Nat} {i : Expr} {vs : List Nat} {qi : QE} (g : Good G lv X) (ho : PE X o (tVar j)) (hi : PE X i (LE G qi))
    (ht : ∀ v, assign (.Subscript o i pos) X.env v = (do
      let ov ← holding [v] (eval o X.env)
      let iv ← holding [v, ov] (eval i X.env)
      standAt pos
      holding [v, ov, iv] (setItem ov iv v)
      release [v, ov, iv] []) := by intro _; rfl) : PG X (.Subscript o i pos) (LG G vs (gqSub j qi)) := PG.imp (pg_sub ho hi (PSet.or set_list (g.P ▸ g.w ▸ set_D g.units)) ht) fun v σ H Q ⟨e, M, x, K, S, R2, ⟨lb, k2⟩, f⟩ => by
    obtain ⟨b, p0, h1, _⟩ := S.mu (mu_of lb)
    refine ⟨.ref b, h1, e, M, _, S, k2, fun r2 e3 k3 w H3 M3 S3 s3 R3 => ?_⟩
    obtain ⟨y, hy, k3⟩ := withP_of k3
    have A3 := Res.acc S3 R3 hy
    split at k3
    · rename_i xs hp
      obtain ⟨b', q1, ob, _⟩ := S3.cont hp
      rw [h1] at q1; cases q1
      obtain ⟨n, rfl, k3⟩ := withI_of k3
      rw [A3.int]
      obtain ⟨m, hm, k3⟩ := k3
      obtain ⟨us, hu, ru⟩ := ob
      refine .inl ⟨b, us, n, m, rfl, rfl, hu, by rw [ru.length]; exact hm, ?_⟩
      obtain ⟨S4, s4⟩ := S3.change hp h1 (o := .lst (us.set m v)) (p' := .lst (_)) (fun s => ⟨_, upd_same, RepAll.set ((R2.step s3).step s) m (ru.step s)⟩)
      exact f _ k3 σ _ M3 S4 (s3.trans s4) rfl
    · rename_i ps hp
      obtain ⟨b', q1, ob, _⟩ := S3.cont hp
      rw [h1] at q1; cases q1
      obtain ⟨⟨ka, fa, few⟩, k3⟩ := k3
      refine .inr (obj_put ob ka fa (A3.key ka) (R2.step s3) few fun o ob' => ?_)
      obtain ⟨S4, s4⟩ := S3.change hp h1 (o := o) ob'
      exact f _ k3 σ _ M3 S4 (s3.trans s4) rfl
    · exact k3.elim
end
end CP
/-! What surrounds a def: the built-in names, the module's constants, the classes, the other defs. -/
namespace CP
open PySem PySem.Spec PyProof.Rows L2
/-- the arguments come back as many as they were -/
def Out (g : PG1) : Prop := ∀ ss Q, g ss Q → g ss fun r ss' => Q r ss' ∧ ss'.length = ss.length
structure DefAt (K : PySem.W.Frag) (mg : Str → Option Value) (x : Str) (st : Stmt) : Prop where
  ex : ∃ f fd, Fun K x x st f fd ∧ mg x = some (.ref f)
def HasD (P : Program) (w : World) (K : PySem.W.Frag) (mg : Str → Option Value) (base : Heap) (x : Str) (ps : List Str) (k : Nat) (g : PG1) : Prop :=
  ∃ f fd, mg x = some (.ref f) ∧ PySem.W.keepIn K (.ref f) = true ∧ Binds K fd ps [] ∧ FnOk P w K mg base CX0 k f fd ps (spP ⟨P, w, K⟩ g) ∧ Out g
def HasMk (P : Program) (w : World) (K : PySem.W.Frag) (mg : Str → Option Value) (base : Heap) (x : Str) (C : Addr) (ps : List Str) (k : Nat) (g : PG1) : Prop :=
  ∃ f fd, mg x = some (.ref C) ∧ Mk K C f ∧ Binds K fd ps [] ∧ FnOk P w K mg base CX0 k f fd ps (spP ⟨P, w, K⟩ g) ∧ Out g
section
variable {G : Gh} {lv k : Nat} {X : Cx} {a : Expr} {es : List Expr} {ql : QLs} {qA : QAs} {pos p : Pos} {x : Str} {ps : List Str} {g : PG1} {C : Addr}
theorem q_callH (gd : Good G lv X) (h : HasD X.prog X.w X.K X.mg X.base x ps k g) (hk : k ≤ lv) (ha : PA X (a :: es) (LL G ql)) (hE : G.toEn = ⟨X.prog, X.w, X.K⟩ := by rfl)
    (hg : Gl X x := by rfl) (hdb : (x == ("__debug__" : Str)) = false := by decide) (he : starEach (a :: es) X.env = (false, eval a X.env) :: starEach es X.env := by rfl) (hpl : (backTo pos (starEach es X.env)).any (·.1) = false := by rfl) : PE X (.Call (.Name x p) (a :: es) [] pos) (LE G (qCall g ql)) := by
  obtain ⟨f, fd, h1, h2, h3, h4, h5⟩ := h
  rw [← hE] at h4
  exact q_call gd h4 hk h1 h2 h3 h5 ha hg hdb he hpl
theorem q_makeH (gd : Good G lv X) (h : HasMk X.prog X.w X.K X.mg X.base x C ps k g) (hk : k + 1 ≤ lv) (ha : PA X (a :: es) (LA G qA)) (hE : G.toEn = ⟨X.prog, X.w, X.K⟩ := by rfl)
    (hg : Gl X x := by rfl) (hdb : (x == ("__debug__" : Str)) = false := by decide) (he : starEach (a :: es) X.env = (false, eval a X.env) :: starEach es X.env := by rfl) (hpl : (backTo pos (starEach es X.env)).any (·.1) = false := by rfl) : PE X (.Call (.Name x p) (a :: es) [] pos) (LE G (qMake C g qA)) := by
  obtain ⟨f, fd, h1, h2, h3, h4, h5⟩ := h
  rw [← hE] at h4
  exact q_make gd h2 h4 hk h1 h3 h5 ha hg hdb he hpl
end
section
variable {P : Program} {w : World} {K : PySem.W.Frag} {mg : Str → Option Value} {base : Heap} {x : Str} {st : Stmt} {N ps : List Str} {k : Nat} {q : QS} {g : PG1}
abbrev Gh0 (P : Program) (w : World) (K : PySem.W.Frag) (H0 : Hp) (M0 : Addr → Prop) (iol : List (Nat × Addr)) : Gh := { toEn := ⟨P, w, K⟩, H0 := H0, M0 := M0, iol := iol, tmp := [] }
abbrev BodyOk (P : Program) (w : World) (K : PySem.W.Frag) (mg : Str → Option Value) (base : Heap) (N : List Str) (qual : Str) (st : Stmt) (k : Nat) (q : QS) : Prop := ∀ (f : Addr) (H0 : Hp) (M0 : Addr → Prop) (iol : List (Nat × Addr)) (cdv : Value) (A : Around) (outer : List Env) (s : Shared) (H : Hp) (E : XK), Good (Gh0 P w K H0 M0 iol) k (cxOf CX0 P w K mg base N qual (defScope st) f cdv A outer s H E).nox →
      PSs (cxOf CX0 P w K mg base N qual (defScope st) f cdv A outer s H E).nox (defBody st) (LS (Gh0 P w K H0 M0 iol) q)
abbrev BindsBy (x qual : Str) (st : Stmt) (ps : List Str) : Prop := ∀ (kV doc pm : Value) (an : Option Addr) (cdv ct : Value) (us : List Value), us.length = ps.length → bindArgs (PySem.W.fnOf x qual (defArgs st) (defBody st) (defScope st) .none kV doc pm an cdv ct) ⟨us, []⟩ = pure (ps.zip us)
theorem body_fn {qual : Str} {f : Addr} {fd : FuncData} (F : Fun K x qual st f fd) (S : FnScope N ps (defScope st)) (arity : ∀ ss Q, g ss Q → ss.length = ps.length) (hbody : BodyOk P w K mg base N qual st k q) (hq : ∀ ss Q, g ss Q → q (bodyEnds ps.length Q) (startE N.length ss)) :
    FnOk P w K mg base CX0 (k + 1) f fd ps (spP ⟨P, w, K⟩ g) := by
  refine F.ok S (fun vs H Q E h => ?_) (fun cdv A outer s H vs Q E hr h => ?_)
  · obtain ⟨ss, M, K, A, _, _, gk, _⟩ := h
    rw [A.len]; exact arity _ _ gk
  · obtain ⟨ss, M, Kq, A', one, trk, gk, fin⟩ := h
    have ar := arity _ _ gk
    have hl : ss.length ≤ N.length := by
      have := congrArg List.length S.pre
      rw [List.length_take] at this; omega
    refine ⟨_, hbody f H (fun a => M a ∧ ∀ i, ¬ LentAt vs ss i a) (iolOf 0 vs ss) cdv A outer s H E ⟨rfl, rfl, rfl, rfl, S.nd, hr⟩, startE N.length ss, M, bodyEnds ps.length Kq, start_ok A' one trk hl, hq ss Kq gk, ?_⟩
    rw [← ar]
    exact body_ends A' fin
theorem def_has (D : DefAt K mg x st) (S : FnScope N ps (defScope st)) (bd : BindsBy x x st ps) (arity : ∀ ss Q, g ss Q → ss.length = ps.length) (out : Out g) (hbody : BodyOk P w K mg base N x st k q) (hq : ∀ ss Q, g ss Q → q (bodyEnds ps.length Q) (startE N.length ss)) : HasD P w K mg base x ps (k + 1) g := by
  obtain ⟨f, fd, F, hm⟩ := D.ex
  exact ⟨f, fd, hm, F.kp, F.binds bd, body_fn F S arity hbody hq, out⟩
theorem mk_has {C : Addr} {cx : Str} {qual : Str} (D : ∃ f fd, Fun K "__init__" qual st f fd ∧ Mk K C f) (hm : mg cx = some (.ref C)) (S : FnScope N ps (defScope st)) (bd : BindsBy "__init__" qual st ps) (arity : ∀ ss Q, g ss Q → ss.length = ps.length) (out : Out g) (hbody : BodyOk P w K mg base N qual st k q) (hq : ∀ ss Q, g ss Q → q (bodyEnds ps.length Q) (startE N.length ss)) : HasMk P w K mg base cx C ps (k + 1) g := by
  obtain ⟨f, fd, F, M⟩ := D
  exact ⟨f, fd, hm, M, F.binds bd, body_fn F S arity hbody hq, out⟩
end
def v_LETTERS : Str := "abcdefghijklmnopqrstuvwxyz"
/-- what every row has -/
structure Sur (K : PySem.W.Frag) (mg : Str → Option Value) (C : Addr) : Prop where
  n_len : mg "len" = none
  n_int : mg "int" = none
  n_list : mg "list" = none
  n_tuple : mg "tuple" = none
  n_sorted : mg "sorted" = none
  n_sum : mg "sum" = none
  n_all : mg "all" = none
  n_any : mg "any" = none
  n_abs : mg "abs" = none
  n_isinstance : mg "isinstance" = none
  n_dict : mg "dict" = none
  n_set : mg "set" = none
  n_str : mg "str" = none
  n_bool : mg "bool" = none
  n_min : mg "min" = none
  n_max : mg "max" = none
  n_enumerate : mg "enumerate" = none
  n_zip : mg "zip" = none
  n_range : mg "range" = none
  v_LETTERS : ∃ t, mg "LETTERS" = some (.str v_LETTERS t)
  v_LONGEST_NAME : ∃ t, mg "LONGEST_NAME" = some (.int 8 t)
  v_MOST_VERTICES : ∃ t, mg "MOST_VERTICES" = some (.int 8 t)
  v_MOST_EDGES : ∃ t, mg "MOST_EDGES" = some (.int 18 t)
  cls : Cls K C
  na_vertices : NoAttr K C "vertices"
  na_edges : NoAttr K C "edges"
end CP
/-! Kinds of items: texts, whole numbers, couples. -/
namespace CP
open PySem PySem.Spec PyProof.Rows L2
def strLt (x y : Str) : Bool := decide (x.cps.toList < y.cps.toList)
structure Enc (α : Type) [DecidableEq α] where
  f : α → PV
  lt : α → α → Bool
  ok : α → Bool
  isD : ∀ a, PV.isD (f a) = true
  depth : ∀ a, (PV.toD (f a)).depth ≤ 10
  eqv : ∀ a b, PyData.eqv (PV.toD (f a)) (PV.toD (f b)) = decide (a = b)
  alike : ∀ a b, PySem.W.alike (PV.toD (f a)) (PV.toD (f b)) = true
  dlt : ∀ a b, PySem.W.dataLt (PV.toD (f a)) (PV.toD (f b)) = lt a b
  nn : ∀ a, PV.toD (f a) ≠ .none
  lay : ∀ a, ok a = true → (PV.toD (f a)).canLay0 = true
  irr : ∀ a, lt a a = false
  trans : ∀ a b c, lt a b = true → lt b c = true → lt a c = true
  total : ∀ a b, a ≠ b → lt a b = false → lt b a = true
  kk : ∀ a, PV.kOk (f a) = true
  kd : ∀ a, (PV.nk (f a)).depth ≤ 4
  kinj : ∀ a b, PV.nk (f a) = PV.nk (f b) → a = b
  srt : ∀ xs : List α, PySem.W.Sortable (xs.map fun x => PV.toD (f x))
def encS : Enc Str where
  f := .str
  lt := strLt
  ok := fun x => PyData.strOk x
  isD := fun _ => rfl
  depth := fun a => by simp [PV.toD, PyData.depth]
  eqv := fun x y => by
    simp only [PV.toD, PyData.eqv]
    by_cases h : x = y
    · subst h; simp
    · simp [h]
  alike := fun _ _ => by simp [PV.toD, PySem.W.alike]
  dlt := fun x y => by simp only [PV.toD]; rw [PySem.W.dataLt_str]; rfl
  nn := fun a h => by simp [PV.toD] at h
  lay := fun a h => by simp only [PV.toD, PyData.canLay0]; exact h
  irr := fun a => decide_eq_false (List.lt_irrefl _)
  trans := fun a b c h1 h2 => decide_eq_true (List.lt_trans (of_decide_eq_true h1) (of_decide_eq_true h2))
  total := fun x y h h2 => by
    refine decide_eq_true ?_
    have n : ¬ x.cps.toList < y.cps.toList := of_decide_eq_false h2
    rcases List.le_iff_lt_or_eq.mp (List.not_lt.mp n) with l | e
    · exact l
    · exact absurd (PySem.W.str_of_cps e.symm) h
  kk := fun _ => rfl
  kd := fun a => by simp [PV.nk, NestedKey.depth]
  kinj := fun a b h => by simpa [PV.nk] using h
  srt := fun xs => .inr fun d h => by
    obtain ⟨x, _, rfl⟩ := List.mem_map.mp h
    exact ⟨by simp [PV.toD], fun ys => by simp [PV.toD]⟩
def encI : Enc Int where
  f := .int
  lt := fun i j => decide (i < j)
  ok := fun _ => true
  isD := fun _ => rfl
  depth := fun a => by simp [PV.toD, PyData.depth]
  eqv := fun x y => by
    simp only [PV.toD, PyData.eqv]
    by_cases h : x = y
    · subst h; simp
    · simp [h]
  alike := fun _ _ => by simp [PV.toD, PySem.W.alike]
  dlt := fun x y => by simp only [PV.toD]; rw [PySem.W.dataLt_int]
  nn := fun a h => by simp [PV.toD] at h
  lay := fun a h => by simp only [PV.toD, PyData.canLay0]
  irr := fun a => decide_eq_false (by omega)
  trans := fun a b c h1 h2 => decide_eq_true (by have := of_decide_eq_true h1; have := of_decide_eq_true h2; omega)
  total := fun x y h h2 => decide_eq_true (by have := of_decide_eq_false h2; omega)
  kk := fun _ => rfl
  kd := fun a => by simp [PV.nk, NestedKey.depth]
  kinj := fun a b h => by simpa [PV.nk] using h
  srt := fun xs => .inr fun d h => by
    obtain ⟨x, _, rfl⟩ := List.mem_map.mp h
    exact ⟨by simp [PV.toD], fun ys => by simp [PV.toD]⟩
section
variable {α β : Type} [DecidableEq α] [DecidableEq β]
theorem toD_tup2 (p q : PV) : PV.toD (.tup [p, q]) = .tuple [PV.toD p, PV.toD q] := by simp [PV.toD, PV.toDs]
def lexLt (A : Enc α) (B : Enc β) (x y : α × β) : Bool := if x.1 = y.1 then B.lt x.2 y.2 else A.lt x.1 y.1
theorem data_pair (A : Enc α) (B : Enc β) (x y : α × β) : PySem.W.dataLt (.tuple [PV.toD (A.f x.1), PV.toD (B.f x.2)]) (.tuple [PV.toD (A.f y.1), PV.toD (B.f y.2)]) = lexLt A B x y := by
  rw [PySem.W.dataLt_pair (A.alike _ _) (B.alike _ _), A.eqv, B.eqv, A.dlt, B.dlt]
  unfold lexLt
  by_cases h1 : x.1 = y.1
  · by_cases h2 : x.2 = y.2
    · simp [h1, h2, B.irr]
    · simp [h1, h2]
  · simp [h1]
def encP (A : Enc α) (B : Enc β) (da : ∀ a, (PV.toD (A.f a)).depth ≤ 5) (db : ∀ a, (PV.toD (B.f a)).depth ≤ 5) (ka : ∀ a, (PV.nk (A.f a)).depth ≤ 3) (kb : ∀ a, (PV.nk (B.f a)).depth ≤ 3) : Enc (α × β) where
  f := fun p => .tup [A.f p.1, B.f p.2]
  lt := lexLt A B
  ok := fun p => A.ok p.1 && B.ok p.2
  isD := fun p => by simp [PV.isD, PV.isDs, A.isD, B.isD]
  depth := fun p => by
    rw [toD_tup2]
    have h1 := da p.1
    have h2 := db p.2
    simp only [PyData.depth, PyData.depthAll]
    omega
  eqv := fun x y => by
    rw [toD_tup2, toD_tup2]
    simp only [PyData.eqv, PyData.eqvAll, A.eqv, B.eqv, Bool.and_true]
    by_cases h1 : x.1 = y.1 <;> by_cases h2 : x.2 = y.2 <;> simp [h1, h2, Prod.ext_iff]
  alike := fun x y => by
    rw [toD_tup2, toD_tup2]
    simp [PySem.W.alike, PySem.W.alikeAll, A.alike, B.alike]
  dlt := fun x y => by rw [toD_tup2, toD_tup2, data_pair]
  nn := fun x h => by rw [toD_tup2] at h; cases h
  lay := fun x h => by
    rw [Bool.and_eq_true_iff] at h
    rw [toD_tup2]
    simp [PyData.canLay0, PyData.canLayAll0, A.lay _ h.1, B.lay _ h.2]
  irr := fun x => by unfold lexLt; rw [if_pos rfl, B.irr]
  trans := fun x y z h1 h2 => by
    unfold lexLt at *
    by_cases a : x.1 = y.1
    · rw [if_pos a] at h1
      by_cases b : y.1 = z.1
      · rw [if_pos b] at h2; rw [if_pos (a.trans b)]; exact B.trans _ _ _ h1 h2
      · rw [if_neg b] at h2; rw [if_neg (fun e => b (a.symm.trans e)), a]; exact h2
    · rw [if_neg a] at h1
      by_cases b : y.1 = z.1
      · rw [if_neg (fun e => a (e.trans b.symm)), ← b]; exact h1
      · rw [if_neg b] at h2
        have t := A.trans _ _ _ h1 h2
        by_cases c : x.1 = z.1
        · rw [c, A.irr] at t; cases t
        · rw [if_neg c]; exact t
  total := fun x y h h2 => by
    unfold lexLt at *
    by_cases a : x.1 = y.1
    · rw [if_pos a] at h2; rw [if_pos a.symm]
      exact B.total _ _ (fun e => h (Prod.ext a e)) h2
    · rw [if_neg a] at h2; rw [if_neg (fun e => a e.symm)]; exact A.total _ _ a h2
  kk := fun x => by simp [PV.kOk, PV.kOks, A.kk, B.kk]
  kd := fun x => by
    have h1 := ka x.1
    have h2 := kb x.2
    simp only [PV.nk, PV.nks, NestedKey.depth, NestedKey.depthAll]
    omega
  kinj := fun x y h => by
    simp only [PV.nk, PV.nks, NestedKey.tup.injEq, List.cons.injEq, and_true] at h
    exact Prod.ext (A.kinj _ _ h.1) (B.kinj _ _ h.2)
  srt := fun xs => .inl fun d h => by
    obtain ⟨x, _, rfl⟩ := List.mem_map.mp h
    exact ⟨_, _, toD_tup2 _ _⟩
/-! ### lists of items -/
variable (A : Enc α)
theorem Enc.inj {a b : α} (h : A.f a = A.f b) : a = b := A.kinj a b (by rw [h])
def Enc.srtd (xs : List α) : List α := xs.mergeSort fun a b => !A.lt b a
def Enc.asc (xs : List α) : Prop := xs.Pairwise fun a b => A.lt a b = true
theorem Enc.asymm {a b : α} (h : A.lt a b = true) : A.lt b a = false := by
  cases c : A.lt b a with
  | false => rfl
  | true => have := A.trans _ _ _ h c; rw [A.irr] at this; cases this
theorem Enc.lt_iff {a b : α} (h : a ≠ b) : A.lt a b = !A.lt b a := by
  cases c : A.lt a b with
  | false => rw [A.total _ _ h c]; rfl
  | true => rw [A.asymm c]; rfl
theorem Enc.srtd_perm (xs : List α) : (A.srtd xs).Perm xs := List.mergeSort_perm _ _
theorem Enc.srtd_le (xs : List α) : (A.srtd xs).Pairwise fun a b => A.lt b a = false := by
  have h := List.pairwise_mergeSort (le := fun a b => !A.lt b a) (fun a b c h1 h2 => by
    simp only [Bool.not_eq_true'] at *
    cases q : A.lt c a with
    | false => rfl
    | true =>
      by_cases e : a = b
      · subst e; rw [h2] at q; cases q
      · have l1 : A.lt a b = true := A.total _ _ (fun z => e z.symm) h1
        have := A.trans _ _ _ q l1
        rw [h2] at this; cases this) (fun a b => by
    cases q : A.lt b a with
    | false => simp
    | true => simp [A.asymm q]) xs
  exact h.imp fun h => by simpa using h
theorem Enc.srtd_asc {xs : List α} (nd : xs.Nodup) : A.asc (A.srtd xs) := by
  have h1 := A.srtd_le xs
  have h2 : (A.srtd xs).Nodup := (A.srtd_perm xs).nodup_iff.mpr nd
  exact (h1.and h2).imp fun {a b} ⟨h, n⟩ => A.total _ _ (fun e => n e.symm) h
theorem Enc.asc_unique : ∀ {l m : List α}, l.Perm m → A.asc l → A.asc m → l = m
  | [], m, h, _, _ => h.nil_eq
  | p :: l, [], h, _, _ => absurd h.length_eq (by simp)
  | p :: l, q :: m, h, h1, h2 => by
    have e : p = q := by
      by_cases c : p = q
      · exact c
      · have a : p ∈ m := (List.mem_cons.mp (h.mem_iff.mp (List.mem_cons_self (a := p) (l := l)))).resolve_left c
        have b : q ∈ l := (List.mem_cons.mp (h.mem_iff.mpr (List.mem_cons_self (a := q) (l := m)))).resolve_left fun z => c z.symm
        have u := (List.pairwise_cons.mp h1).1 q b
        have v := (List.pairwise_cons.mp h2).1 p a
        rw [A.asymm u] at v; cases v
    subst e
    rw [Enc.asc_unique (List.Perm.cons_inv h) (List.pairwise_cons.mp h1).2 (List.pairwise_cons.mp h2).2]
theorem Enc.asc_nd {l : List α} (h : A.asc l) : l.Nodup := h.imp fun {a b} q e => by rw [e, A.irr] at q; cases q
theorem Enc.srtd_of_asc {l : List α} (h : A.asc l) : A.srtd l = l := A.asc_unique (A.srtd_perm l) (A.srtd_asc (A.asc_nd h)) h
theorem Enc.srtd_congr {l m : List α} (h : l.Perm m) (nd : l.Nodup) : A.srtd l = A.srtd m := A.asc_unique (((A.srtd_perm l).trans h).trans (A.srtd_perm m).symm) (A.srtd_asc nd) (A.srtd_asc (h.nodup_iff.mp nd))
theorem Enc.srtd_len (l : List α) : (A.srtd l).length = l.length := (A.srtd_perm l).length_eq
theorem Enc.sortP (xs : List α) : CP.sortP (xs.map A.f) = (A.srtd xs).map A.f := by
  unfold CP.sortP Enc.srtd
  refine (List.map_mergeSort fun a _ b _ => ?_).symm
  show _ = !PySem.W.dataLt (PV.toD (A.f b)) (PV.toD (A.f a))
  rw [A.dlt]
theorem Enc.sortd (xs : List α) : Sortd (xs.map A.f) := by
  refine ⟨?_, fun d hd d' hd' => ?_, ?_, fun x hx => ?_⟩
  · rw [isDs_all, List.all_map]; exact List.all_eq_true.mpr fun x _ => A.isD x
  · rw [List.map_map] at hd hd'
    obtain ⟨x, _, rfl⟩ := List.mem_map.mp hd
    obtain ⟨y, _, rfl⟩ := List.mem_map.mp hd'
    exact A.alike x y
  · rw [List.map_map]; exact A.srt xs
  · obtain ⟨y, _, rfl⟩ := List.mem_map.mp hx
    exact Nat.le_trans (A.depth y) (by decide)
def Enc.oks (xs : List α) : Bool := xs.all A.ok
theorem Enc.shp {a : α} (h : A.ok a = true) : Shp (A.f a) := by
  refine ⟨A.isD a, ?_⟩
  unfold SeqAt.shaped
  rw [A.lay a h]
  exact decide_eq_true (Nat.le_trans (A.depth a) (by decide))
theorem Enc.lays {xs : List α} (h : A.oks xs = true) : PyData.canLayAll0 (PV.toDs (xs.map A.f)) = true := by
  induction xs with
  | nil => simp [PV.toDs, PyData.canLayAll0]
  | cons x xs ih =>
    unfold Enc.oks at h ih
    rw [List.all_cons, Bool.and_eq_true_iff] at h
    simp [PV.toDs, PyData.canLayAll0, A.lay x h.1, ih h.2]
theorem Enc.depths (xs : List α) : PyData.depthAll (PV.toDs (xs.map A.f)) ≤ 10 := by
  induction xs with
  | nil => simp [PV.toDs, PyData.depthAll]
  | cons x xs ih =>
    have := A.depth x
    simp only [List.map_cons, PV.toDs, PyData.depthAll]
    omega
theorem Enc.shpL {xs : List α} (h : A.oks xs = true) : Shp (.lst (xs.map A.f)) := by
  refine ⟨?_, ?_⟩
  · rw [PV.isD, isDs_all, List.all_map]; exact List.all_eq_true.mpr fun x _ => A.isD x
  · unfold SeqAt.shaped
    have d := A.depths xs
    simp only [PV.toD, PyData.canLay0, A.lays h, PyData.depth, Bool.true_and]
    exact decide_eq_true (by omega)
theorem Enc.shpT {xs : List α} (h : A.oks xs = true) : Shp (.tup (xs.map A.f)) := by
  refine ⟨?_, ?_⟩
  · rw [PV.isD, isDs_all, List.all_map]; exact List.all_eq_true.mpr fun x _ => A.isD x
  · unfold SeqAt.shaped
    have d := A.depths xs
    simp only [PV.toD, PyData.canLay0, A.lays h, PyData.depth, Bool.true_and]
    exact decide_eq_true (by omega)
theorem Enc.eqvs (xs ys : List α) : PyData.eqvAll (PV.toDs (xs.map A.f)) (PV.toDs (ys.map A.f)) = decide (xs = ys) := by
  induction xs generalizing ys with
  | nil => cases ys <;> simp [PV.toDs, PyData.eqvAll]
  | cons x xs ih =>
    cases ys with
    | nil => simp [PV.toDs, PyData.eqvAll]
    | cons y ys =>
      simp only [List.map_cons, PV.toDs, PyData.eqvAll, A.eqv, ih]
      by_cases h1 : x = y <;> by_cases h2 : xs = ys <;> simp [h1, h2]
theorem Enc.eqvL (xs ys : List α) : PyData.eqv (PV.toD (.lst (xs.map A.f))) (PV.toD (.lst (ys.map A.f))) = decide (xs = ys) := by
  simp only [PV.toD, PyData.eqv]; exact A.eqvs xs ys
theorem Enc.eqvT (xs ys : List α) : PyData.eqv (PV.toD (.tup (xs.map A.f))) (PV.toD (.tup (ys.map A.f))) = decide (xs = ys) := by
  simp only [PV.toD, PyData.eqv]; exact A.eqvs xs ys
theorem Enc.has (xs : List α) (x : α) : hasP (xs.map A.f) (A.f x) = decide (x ∈ xs) := by
  unfold hasP
  induction xs with
  | nil => simp [PV.toDs]
  | cons y xs ih =>
    simp only [List.map_cons, PV.toDs, List.any_cons, A.eqv, ih]
    by_cases h1 : y = x
    · subst h1; simp
    · have : ¬ x = y := fun e => h1 e.symm
      simp [h1, this]
theorem Enc.keyA (a : α) : CP.keyA (A.f a) = true ∨ isT (A.f a) = false := by
  cases h : isT (A.f a) with
  | false => exact .inr rfl
  | true =>
    refine .inl ?_
    have e : ∃ xs, A.f a = .tup xs := by
      cases q : A.f a <;> rw [q] at h <;> first | exact ⟨_, rfl⟩ | cases h
    obtain ⟨xs, e⟩ := e
    have k1 := A.kk a
    have k2 := A.kd a
    rw [e] at k1 k2 ⊢
    show PV.keyB (.tup xs) = true
    unfold PV.keyB
    rw [k1]
    simp only [Bool.true_and, Bool.and_true]
    exact decide_eq_true (by omega)
end
end CP
/-! set & set, of tuples. -/
namespace CP
open PySem PySem.Spec PyProof.Rows L2
section
variable {P : Program} {w : World} {A : Around} {E : Value → Shared → Prop} {s : Shared} {a b : Addr} {L : List (Addr × KN)} {es : Array (Int × Value)} {ep : Nat} {t : SetTable}
theorem kn_isT {h : Heap} {k : KN} {b : Addr} (hk : KnAt h k b) : ∃ o, h.get? b = some o ∧ o.cls = .type "tuple" := by
  obtain ⟨k, d⟩ := k
  have hk : NestedIs h k (.ref b) := hk
  cases hk with
  | tup h1 h2 h3 h4 => exact ⟨_, h1, h2⟩
theorem setWalk_perm (R : SK (nkF P w) s.heap a L es ep t) {Q : Array (Int × Value) → Shared → Prop} (h : ∀ ys d, ys.toList.Perm es.toList → Q ys { s with drawn := d }) : wpAny (model P w) A (setWalk a) Q E s := by
  obtain ⟨o, ho, _, hd⟩ := R.obj
  have hf := R.fit
  unfold setWalk
  refine wpAny_bind (wpAny_setState_of ho hd hf ?_)
  dsimp only
  refine wpAny_bind (wpAny_byText ?_)
  by_cases c : w.params.followText "set-order" = true
  · refine wp_if_pos c ?_
    exact wpAny_bind (wpAny_askSetting (wpAny_pure (h _ s.drawn (L2.pick_perm _ es))))
  · refine wp_if_neg c ?_
    try refine wpAny_bind (wpAny_pure ?_)
    by_cases d : (!t.plain && decide (es.size > 1)) = true
    · refine wp_if_pos d ?_
      refine wpAny_bind (drawOrder_at es.size es.toList s _ (by simp) fun ys d pm => ?_)
      exact wpAny_pure (h _ d (by simpa using pm))
    · refine wp_if_neg d ?_
      try refine wpAny_bind (wpAny_pure ?_)
      have ld : t.led = true := R.led.resolve_right c
      refine wpAny_bind (wpAny_of_eq (a := ()) ?_ (wpAny_pure (h _ s.drawn (List.Perm.refl _))))
      show (if (!t.led && decide (es.size > 1)) = true then unsupported "set:maker-not-led" else pure ()) = pure ()
      rw [ld]; rfl
theorem unseen_perm {others : List Addr} {f : Addr} (R : SK (nkF P w) s.heap a L es ep t) {Q : Array (Int × Value) → Shared → Prop} (h : ∀ ys d, ys.toList.Perm es.toList → Q ys { s with drawn := d }) : wpAny (model P w) A (setWalkUnseen a others (some f)) Q E s := by
  obtain ⟨o, ho, _, hd⟩ := R.obj
  have hf := R.fit
  unfold setWalkUnseen
  refine wpAny_bind (wpAny_setState_of ho hd hf ?_)
  dsimp only
  refine wpAny_bind (wpAny_byText ?_)
  have walk : wpAny (model P w) A (setWalk a) Q E s := setWalk_perm R h
  by_cases c : (w.params.followText "set-order" || (t.led && t.plain) || decide (es.size ≤ 1)) = true
  · refine wp_if_pos c ?_
    exact walk
  · refine wp_if_neg c ?_
    try refine wpAny_bind (wpAny_pure ?_)
    have many : 1 < es.size := by
      simp only [Bool.or_eq_true, not_or, decide_eq_true_eq] at c
      omega
    have e0 : es.toList ≠ [] := fun z => by
      have : es.size = 0 := by rw [← Array.length_toList, z]; rfl
      omega
    refine wpAny_bind ?_
    -- the first element of a is a tuple
    have quiet : wpAny (model P w) A (setsQuiet (a :: others)) (fun r s' => r = false ∧ s' = s) E s := by
      unfold setsQuiet
      rw [List.forIn_cons]
      refine wpAny_bind (wpAny_bind ?_)
      unfold setEntries
      refine wpAny_bind (wpAny_bind (wpAny_setState_of ho hd hf (wpAny_pure ?_)))
      have row := R.row
      cases L with
      | nil => rw [rowsK] at row; exact absurd row e0
      | cons p L =>
        obtain ⟨o2, ho2, hc2⟩ := kn_isT (R.ats p List.mem_cons_self)
        dsimp only
        rw [← Array.forIn_toList, row]
        show wpAny _ _ (forIn (((nkF P w).hs p.2, Value.ref p.1) :: rowsK (nkF P w) L) _ _ >>= _) _ _ _
        rw [List.forIn_cons]
        refine wpAny_bind (wpAny_bind ?_)
        dsimp only
        refine wpAny_bind (wpAny_specialOf ⟨o2, ho2, hc2⟩ F.slot_tuple_eq.lookup ?_)
        rw [if_pos (by decide)]
        refine wpAny_pure ?_
        dsimp only
        refine wpAny_pure ?_
        dsimp only
        refine wpAny_pure ?_
        dsimp only
        exact wpAny_pure (wpAny_pure ⟨rfl, rfl⟩)
    refine thn quiet fun r s' ⟨hr, hs⟩ => ?_
    subst hr hs
    refine wp_if_pos (by decide) ?_
    exact walk
theorem any_set {Q : Bool → Shared → Prop} (h : s.TypeIs (.ref a) "set") (q : Q true s) : wpAny (model P w) A (Builtin.Frozenset.isAnySet (.ref a)) Q E s := by
  unfold Builtin.Frozenset.isAnySet orM
  refine wpAny_bind (wpAny_isInstance h (b := true) (by rw [isSubtype_type]; kernel_rfl) ?_)
  exact wpAny_pure q
theorem new_set {Q : Value → Shared → Prop} (h : ∀ h', h' = s.heap.push { cls := .type "set", dict := none, data := .set #[] 0 (.fresh 0 0 (!w.params.followText "set-order")) } → Q (.ref s.heap.objs.size) { s with heap := h' }) : wpAny (model P w) A (PySem.newSet (.type "set")) Q E s := by
  unfold PySem.newSet
  refine wpAny_bind (wpAny_byText ?_)
  dsimp only
  exact wpAny_newObj_type (h _ rfl) (by size_fits)
theorem perm_of_map {α β : Type} {f : α → β} {ys : List β} {L : List α} (pm : ys.Perm (L.map f)) : ∃ Ls : List α, ys = Ls.map f ∧ Ls.Perm L := by
  obtain ⟨W, h1, h2⟩ := lift_perm pm.symm (L.map fun x => (f x, x)) (by rw [List.map_map]; rfl)
  refine ⟨W.map (·.2), ?_, ?_⟩
  · rw [← h1, List.map_map]
    refine List.map_congr_left fun w hw => ?_
    obtain ⟨x, _, rfl⟩ := List.mem_map.mp (h2.mem_iff.mp hw)
    rfl
  · have := h2.map (·.2)
    rw [List.map_map] at this
    have e : (L.map ((·.2) ∘ fun x => (f x, x))) = L := by simp [Function.comp_def]
    rw [e] at this
    exact this
/-- what stands in both, from the first of the walked ones -/
theorem and_loop {La : List (Addr × KN)} {esa : Array (Int × Value)} {epa : Nat} {ta : SetTable} (S : Addr) :
    ∀ (todo done : List (Addr × KN)) (s : Shared) (L : List (Addr × KN)) (es : Array (Int × Value)) (ep : Nat) (t : SetTable) {β : Type} (f : (Int × Value) → β → Sem (ForInStep β)) (z : β) {Q : β → Shared → Prop},
    SK (nkF P w) s.heap a La esa epa ta → SK (nkF P w) s.heap S L es ep t → (∀ p ∈ todo, KnAt s.heap p.2 p.1) → (done ++ todo).length < 250 → L.length ≤ done.length →
    (∀ k, k ∈ L.map (·.2) ↔ k ∈ done.map (·.2) ∧ k ∈ La.map (·.2)) →
    (∀ (s1 : Shared) (p : Addr × KN) (L1 : List (Addr × KN)) (es1 : Array (Int × Value)) (ep1 : Nat) (t1 : SetTable) (Q1 : ForInStep β → Shared → Prop), p ∈ todo → SK (nkF P w) s1.heap a La esa epa ta → SK (nkF P w) s1.heap S L1 es1 ep1 t1 → KnAt s1.heap p.2 p.1 → L1.length + 1 < 250 →
      (∀ c o, c ≠ S → s.heap.get? c = some o → s1.heap.get? c = some o) →
      (∀ h' L2 es2 ep2 t2, Heap.SameBut S s1.heap h' → SK (nkF P w) h' a La esa epa ta → SK (nkF P w) h' S L2 es2 ep2 t2 → L2.length ≤ L1.length + 1 → (∀ k, k ∈ L2.map (·.2) ↔ k ∈ L1.map (·.2) ∨ (k = p.2 ∧ k ∈ La.map (·.2))) → Q1 (.yield z) { s1 with heap := h' }) → wpAny (model P w) A (f ((nkF P w).hs p.2, .ref p.1) z) Q1 E s1) →
    (∀ h' L2 es2 ep2 t2, Heap.SameBut S s.heap h' → SK (nkF P w) h' S L2 es2 ep2 t2 → (∀ k, k ∈ L2.map (·.2) ↔ k ∈ (done ++ todo).map (·.2) ∧ k ∈ La.map (·.2)) → Q z { s with heap := h' }) →
    wpAny (model P w) A (forIn (rowsK (nkF P w) todo) z f) Q E s
  | [], done, s, L, es, ep, t, β, f, z, Q, Ra, RS, at_, few, le, inv, _, fin => by
    show wpAny _ _ (forIn [] z f) _ _ _
    rw [List.forIn_nil]
    exact wpAny_pure (fin s.heap L es ep t (Heap.SameBut.refl S s.heap) RS (by simpa using inv))
  | p :: todo, done, s, L, es, ep, t, β, f, z, Q, Ra, RS, at_, few, le, inv, turn, fin => by
    show wpAny _ _ (forIn (((nkF P w).hs p.2, Value.ref p.1) :: rowsK (nkF P w) todo) z f) _ _ _
    rw [List.forIn_cons]
    have lens : (done ++ p :: todo).length = done.length + todo.length + 1 := by simp; omega
    refine wpAny_bind (turn s p L es ep t _ List.mem_cons_self Ra RS (at_ p List.mem_cons_self) (by omega) (fun c o _ h => h) fun h' L2 es2 ep2 t2 sb Ra2 RS2 le2 mem2 => ?_)
    dsimp only
    obtain ⟨oS, hoS, hex, hdS⟩ := RS.obj
    refine and_loop S todo (done ++ [p]) { s with heap := h' } L2 es2 ep2 t2 f z Ra2 RS2 (fun q hq => (nkF P w).other (at_ q (List.mem_cons_of_mem _ hq)) hoS hdS sb) (by simpa using few) (by rw [List.length_append]; simp; omega) (fun k => ?_) (fun s1 q L1 es1 ep1 t1 Q1 hq R1 R1S k1 f1 keep go => turn s1 q L1 es1 ep1 t1 Q1 (List.mem_cons_of_mem _ hq) R1 R1S k1 f1 (fun c o n h => keep c o n ((sb.2 c n).trans h)) go) (fun h'' L3 es3 ep3 t3 sb3 RS3 mem3 => ?_)
    · rw [mem2 k, inv k]
      simp only [List.map_append, List.mem_append, List.map_cons, List.map_nil, List.mem_singleton]
      constructor
      · rintro (⟨h1, h2⟩ | ⟨h1, h2⟩)
        · exact ⟨.inl h1, h2⟩
        · exact ⟨.inr h1, h2⟩
      · rintro ⟨h1 | h1, h2⟩
        · exact .inl ⟨h1, h2⟩
        · exact .inr ⟨h1, h2⟩
    · have := fin h'' L3 es3 ep3 t3 (sb.trans sb3) RS3 (fun k => by rw [mem3 k]; simp)
      exact this
/-- the sets' common elements -/
theorem and_sets {La Lb : List (Addr × KN)} {esa esb : Array (Int × Value)} {epa epb : Nat} {ta tb : SetTable} (hu : A.units + 8 < cLine) (Ra : SK (nkF P w) s.heap a La esa epa ta) (Rb : SK (nkF P w) s.heap b Lb esb epb tb) (ne : a ≠ b) {Q : Value → Shared → Prop}
    (fin : ∀ h' d L es ep t, (∀ c o, s.heap.get? c = some o → h'.get? c = some o) → SK (nkF P w) h' s.heap.objs.size L es ep t → (∀ k, k ∈ L.map (·.2) ↔ k ∈ La.map (·.2) ∧ k ∈ Lb.map (·.2)) → Q (.ref s.heap.objs.size) { s with heap := h', drawn := d }) :
    wpAny (model P w) A (Builtin.Frozenset.intersection "frozenset.__and__" a (.ref b)) Q E s := by
  obtain ⟨oa, hoa, hexa, hda⟩ := Ra.obj
  obtain ⟨ob, hob, hexb, hdb⟩ := Rb.obj
  unfold Builtin.Frozenset.intersection
  refine wp_if_neg (by simp [Ne.symm ne]) ?_
  try refine wpAny_bind (wpAny_pure ?_)
  unfold Builtin.Frozenset.baseOf
  refine wpAny_bind (wpAny_bind (wpAny_isInstance ⟨oa, hoa, hexa.1⟩ F.sub_set_set (wpAny_pure ?_)))
  rw [if_pos rfl]
  refine wpAny_bind (new_set fun h1 e1 => ?_)
  have keep1 : ∀ c o, s.heap.get? c = some o → h1.get? c = some o := fun c o h => by rw [e1]; exact Heap.get?_push_of_some _ h
  have newS : SK (nkF P w) h1 s.heap.objs.size [] #[] 0 (.fresh 0 0 (!w.params.followText "set-order")) := SK.new (by rw [e1]; exact Heap.get?_push_size _ rfl)
  have nS : ∀ c o, s.heap.get? c = some o → c ≠ s.heap.objs.size := fun c o h z => by
    have := free_above (h := s.heap) (b := c) (by rw [z]; exact Nat.le_refl _)
    rw [this] at h; cases h
  have Ra1 := Ra.kept (h' := h1) (fun o h => keep1 a o h) (fun p hp => (nkF P w).kept (Ra.ats p hp) keep1)
  have Rb1 := Rb.kept (h' := h1) (fun o h => keep1 b o h) (fun p hp => (nkF P w).kept (Rb.ats p hp) keep1)
  have sz : ∀ {c : Addr} {L : List (Addr × KN)} {es : Array (Int × Value)} {ep : Nat} {t : SetTable} {s1 : Shared} {Q : Nat → Shared → Prop}, SK (nkF P w) s1.heap c L es ep t → Q es.size s1 → wpAny (model P w) A (Builtin.Frozenset.sizeOf c) Q E s1 := fun R q => by
    obtain ⟨o, ho, _, hd⟩ := R.obj
    unfold Builtin.Frozenset.sizeOf setEntries
    exact wpAny_bind (wpAny_bind (wpAny_setState_of ho hd R.fit (wpAny_pure (wpAny_pure q))))
  -- x asked, y walked
  have walk : ∀ (x y : Addr) (Lx Ly : List (Addr × KN)) (esx esy : Array (Int × Value)) (epx epy : Nat) (tx ty : SetTable), (∃ o, s.heap.get? x = some o) → (∃ o, s.heap.get? y = some o) → SK (nkF P w) h1 x Lx esx epx tx → SK (nkF P w) h1 y Ly esy epy ty →
      (∀ h' d L es ep t, (∀ c o, s.heap.get? c = some o → h'.get? c = some o) → SK (nkF P w) h' s.heap.objs.size L es ep t → (∀ k, k ∈ L.map (·.2) ↔ k ∈ Ly.map (·.2) ∧ k ∈ Lx.map (·.2)) → Q (.ref s.heap.objs.size) { s with heap := h', drawn := d }) →
      wpAny (model P w) A (do
        let was ← setEpoch y
        for (h, v) in ← setWalkUnseen y [x, s.heap.objs.size] (some s.heap.objs.size) do
          holding [v] do
            if (← setFind x v h).isSome then
              let _ ← setAddHashed s.heap.objs.size v h
          Builtin.Frozenset.unchanged "frozenset.__and__" y was
        pure PUnit.unit) (fun _ s' => wpAny (model P w) A (pure (Value.ref s.heap.objs.size)) Q E s') E { s with heap := h1 } := by
    intro x y Lx Ly esx esy epx epy tx ty ⟨ox, hox⟩ ⟨oy, hoy⟩ Rx Ry fin
    have nx := nS x ox hox
    have ny := nS y oy hoy
    obtain ⟨oy1, hoy1, _, hdy⟩ := Ry.obj
    unfold setEpoch
    refine wpAny_bind (wpAny_bind (wpAny_setState_of (s := { s with heap := h1 }) hoy1 hdy (Ry.fit (s := { s with heap := h1 })) (wpAny_pure ?_)))
    refine wpAny_bind (unseen_perm (s := { s with heap := h1 }) Ry fun ys d pm => ?_)
    dsimp only
    rw [Ry.row] at pm
    obtain ⟨Ls, e1, pl⟩ := perm_of_map pm
    refine wpAny_bind ?_
    rw [← Array.forIn_toList, e1]
    refine and_loop s.heap.objs.size Ls [] { s with heap := h1, drawn := d } [] #[] 0 _ _ PUnit.unit Rx newS (fun p hp => Ry.ats p (pl.mem_iff.mp hp)) (by rw [List.nil_append, pl.length_eq]; exact Ry.few) (Nat.le_refl _) (fun k => by simp) (fun s1 p L1 es1 ep1 t1 Q1 hp R1 R1S k1 f1 keep go => ?_) (fun h' L2 es2 ep2 t2 sb RS2 mem2 => ?_)
    · have same : ∀ (h2 : Heap) (Q2 : Unit → Shared → Prop), (∀ c o, c ≠ s.heap.objs.size → s1.heap.get? c = some o → h2.get? c = some o) → Q2 () { s1 with heap := h2 } → wpAny (model P w) A (Builtin.Frozenset.unchanged "frozenset.__and__" y epy) Q2 E { s1 with heap := h2 } := fun h2 Q2 k q => by
        unfold Builtin.Frozenset.unchanged setEpoch
        refine wpAny_bind (wpAny_bind (wpAny_setState_of (s := { s1 with heap := h2 }) (k y _ ny (keep y _ ny hoy1)) hdy (Ry.fit (s := { s with heap := h1 })) (wpAny_pure ?_)))
        exact wp_if_neg (by simp) (wpAny_pure q)
      dsimp only
      refine wpAny_bind (wpAny_holding ?_)
      refine wpAny_bind (find_in R1 (show (nkF P w).At s1.heap p.2 p.1 from k1) hu fun r hr => ?_)
      by_cases c : p.2 ∈ Lx.map (·.2)
      · refine wp_if_pos ((hr.trans (decide_eq_decide.mpr Iff.rfl)).trans (decide_eq_true c)) ?_
        refine wpAny_bind (put_in R1S (show (nkF P w).At s1.heap p.2 p.1 from k1) hu f1 fun b h' L' es' ep' t' sb R' c1 c2 => wpAny_pure ?_)
        have Rx' : SK (nkF P w) h' x Lx esx epx tx := by
          obtain ⟨oS, hoS, _, hdS⟩ := R1S.obj
          exact R1.kept (fun o h => (sb.2 x nx).trans h) (fun q hq => (nkF P w).other (R1.ats q hq) hoS hdS sb)
        refine wpAny_bind (same h' _ (fun c o n h => (sb.2 c n).trans h) (wpAny_pure ?_))
        by_cases d : p.2 ∈ L1.map (·.2)
        · have e := c1 d
          subst e
          exact go h' L' es' ep' t' sb Rx' R' (Nat.le_succ _) fun k => ⟨.inl, fun z => z.elim id fun z => by rw [z.1]; exact d⟩
        · have pm := c2 d
          refine go h' L' es' ep' t' sb Rx' R' (by rw [pm.length_eq]; exact Nat.le_refl _) fun k => ?_
          rw [(pm.map (·.2)).mem_iff, List.map_cons, List.mem_cons]
          constructor
          · rintro (z | z)
            · have z : k = p.2 := z
              exact .inr ⟨z, by rw [z]; exact c⟩
            · exact .inl z
          · rintro (z | z)
            · exact .inr z
            · exact .inl z.1
      · refine wp_if_neg (by rw [hr]; simpa using c) (wpAny_pure ?_)
        refine wpAny_bind (same s1.heap _ (fun c o n h => h) (wpAny_pure ?_))
        exact go s1.heap L1 es1 ep1 t1 (Heap.SameBut.refl _ _) R1 R1S (Nat.le_succ _) fun k => ⟨.inl, fun z => z.elim id fun z => absurd (z.1 ▸ z.2) c⟩
    · refine wpAny_pure (wpAny_pure <| fin h' d L2 es2 ep2 t2 (fun c o h => (sb.2 c (nS c o h)).trans (keep1 c o h)) RS2 fun k => ?_)
      rw [mem2 k, List.nil_append, (pl.map (·.2)).mem_iff]
  refine wpAny_bind (wpAny_pure ?_)
  refine wpAny_bind (wpAny_holding ?_)
  obtain ⟨ob1, hob1, hexb1, _⟩ := Rb1.obj
  refine wpAny_bind (any_set (s := { s with heap := h1 }) ⟨ob1, hob1, hexb1.1⟩ ?_)
  rw [if_pos rfl]
  refine wpAny_bind (wpAny_pure ?_)
  refine wpAny_bind (sz (s1 := { s with heap := h1 }) Rb1 ?_)
  refine wpAny_bind (sz (s1 := { s with heap := h1 }) Ra1 ?_)
  have w1 := walk b a Lb La esb esa epb epa tb ta ⟨ob, hob⟩ ⟨oa, hoa⟩ Rb1 Ra1 fun h' d L es ep t k R m => fin h' d L es ep t k R m
  have w2 := walk a b La Lb esa esb epa epb ta tb ⟨oa, hoa⟩ ⟨ob, hob⟩ Ra1 Rb1 fun h' d L es ep t k R m => fin h' d L es ep t k R fun k => (m k).trans And.comm
  by_cases c : esb.size > esa.size
  · rw [if_pos c]
    exact w1
  · rw [if_neg c]
    exact w2
end
end CP
/-! len(set(a) & set(b)). -/
namespace CP
open PySem PySem.Spec PyProof.Rows L2
theorem entry_set_and : entryFor table "set.__and__" = some Builtin.«frozenset.__and__» :=
  entryFor_alias (id' := "frozenset.__and__") (by kernel_rfl) rfl (by decide +kernel) (by kernel_rfl)
section
variable {X : Cx} {pins : List (Addr × PySem.Obj)} {σ : L2.St} {H : Hp} {s : Shared}
def rAndG (P : Program) (w : World) : R2 := fun x y H Q => ∃ (a b : Addr) (La Lb : List (Addr × KN)), x = .ref a ∧ y = .ref b ∧ a ≠ b ∧ H a = some (SetG P w a La) ∧ H b = some (SetG P w b Lb) ∧ (∀ p ∈ La, KH H (.ref p.1) p.2.1) ∧ (∀ p ∈ Lb, KH H (.ref p.1) p.2.1) ∧
  ∀ p L, H p = none → (L.map (·.2)).Nodup → (∀ k, k ∈ L.map (·.2) ↔ k ∈ La.map (·.2) ∧ k ∈ Lb.map (·.2)) → Q (.ref p) (L2.upd H p (SetG P w p L))
theorem op_andG (hu : X.A.units + 64 < cLine) : OpR X (binaryOp .BitAnd) (rAndG X.prog X.w) := by
  intro pins s σ H x y v u Q I rx ry h
  obtain ⟨a, b, La, Lb, rfl, rfl, ne, ha, hb, ka, kb, q⟩ := h
  cases rx
  cases ry
  obtain ⟨esa, epa, ta, Ra⟩ := setG_get I ha ka
  obtain ⟨esb, epb, tb, Rb⟩ := setG_get I hb kb
  obtain ⟨oa, hoa, hexa, hda⟩ := Ra.obj
  obtain ⟨ob, hob, hexb, hdb⟩ := Rb.obj
  have tya : s.TypeIs (.ref a) "set" := ⟨oa, hoa, hexa.1⟩
  have tyb : s.TypeIs (.ref b) "set" := ⟨ob, hob, hexb.1⟩
  refine wpAny_binaryOp_same (op := .BitAnd) (T := "set") tya tyb F.fills_set_and F.slot_set_and (wpAny_call_entry F.slot_set_and tya entry_set_and ?_ (F.args_set_and_2 _ _))
  unfold Builtin.«frozenset.__and__»
  show wpAny _ _ (do
    let (self, other) ← Builtin.Frozenset.slot1 "__and__" ⟨[.ref a, .ref b], []⟩
    let (l, r) := if false then (other, self) else (self, other)
    if !(← (Builtin.Frozenset.isAnySet l <&&> Builtin.Frozenset.isAnySet r)) then
      rule "frozenset.__and__.declined"
      return ← ret .notImplemented
    ret (← Builtin.Frozenset.intersection "frozenset.__and__" (← Builtin.Frozenset.addrOf l) r)) _ _ _
  refine wpAny_bind (wpAny_of_eq (a := (.ref a, .ref b)) rfl ?_)
  dsimp only
  rw [if_neg Bool.false_ne_true]
  dsimp only
  refine wpAny_bind ?_
  unfold andM
  refine wpAny_bind (any_set tya ?_)
  show wpAny _ _ (Builtin.Frozenset.isAnySet (.ref b)) _ _ _
  refine any_set tyb ?_
  refine wp_if_neg (by decide) ?_
  try refine wpAny_bind (wpAny_pure ?_)
  refine wpAny_bind (and_sets (by simp; omega) Ra Rb ne fun h' d L es ep t keep R m => ?_)
  have I1 : L2.Inv X pins σ (L2.upd H s.heap.objs.size (SetG X.prog X.w s.heap.objs.size L)) { s with heap := h', toks := s.toks } := I.laid (t' := s.toks) keep (Nat.le_refl _) (setG_ok R.isGI)
  have I2 := I1.call (g' := s.gens) (d' := d) (t' := s.toks) (ch := []) Un.refl I1.hok I1.bare (fun _ z => nomatch z)
  exact wpAny_pure ⟨_, rfl, by simp, .ref _, _, I2, rfl, q _ L (I.hok.fresh (Nat.le_refl _)) R.nod m⟩
/-- set(xs), xs of tuples -/
def tSetG (P : Program) (w : World) (K : PySem.W.Frag) (te : TE) : TE := fun σ H Q => te σ H fun x H1 => ∃ (l : Addr) (ks : List (Addr × KN)), x = V.ref l ∧ (SqL K H1 l (ks.map fun p => V.ref p.1) ∨ SqT K H1 l (ks.map fun p => V.ref p.1)) ∧ (∀ p ∈ ks, KH H1 (.ref p.1) p.2.1) ∧ ks.length < 250 ∧
  ∀ p L, H1 p = none → Has ks ks.length L → Q (.ref p) (L2.upd H1 p (SetG P w p L))
theorem pe_setG {e : Expr} {te : TE} {p2 q : Pos} (hc : X.calm = true) (hg2 : Gl X "set") (hm2 : X.mg "set" = none) (hu : X.A.units + 64 < cLine) (he : PE X e te)
    (na : starEach [e] X.env = (false, eval e X.env) :: starEach [] X.env := by rfl) : PE X (.Call (.Name "set" p2) [e] [] q) (tSetG X.prog X.w X.K te) := by
  refine ⟨fun pins s σ H Q I h => Call_ (ld_blt I hg2 hm2 PyProof.Rows.boot_set ?_)⟩
  refine PyProof.Rows.callWith_type1 (PyProof.Rows.args_cons (thn (he.run pins s σ H _ I h) fun v s1 ⟨x, H1, I1, r1, l, ks, ex, hq, hks, few, k⟩ => PyProof.Rows.args_nil ?_) na) na rfl
  subst ex; cases r1
  have ats : ∀ p ∈ ks, (nkF X.prog X.w).At s1.heap p.2 p.1 := fun p hp => (hks p hp).is I1 rfl
  have fin : ∀ (L : List (Addr × KN)) (es : Array (Int × Value)) (ep : Nat) (t : SetTable) (h' : Heap) (tk : Nat), SK (nkF X.prog X.w) h' s1.heap.objs.size L es ep t → Has ks ks.length L → (∀ b o, s1.heap.get? b = some o → h'.get? b = some o) → EP X pins σ Q (.ref s1.heap.objs.size) { s1 with heap := h', toks := tk } := fun L es ep t h' tk R g keep =>
    ⟨.ref _, _, I1.laid (t' := tk) keep (Nat.le_refl _) (setG_ok R.isGI), rfl, k _ L (I1.hok.fresh (Nat.le_refl _)) g⟩
  rcases hq with hq | hq
  · obtain ⟨its, r, pl, _⟩ := I1.list hq
    have sz : its.toArray.size = ks.length := by rw [List.size_toArray, ← r.length, List.length_map]
    refine set_of_list (I1.ok.hd hc) pl.isList (fun E => fills_keys (nkF X.prog X.w) (ks := ks) (by omega) (by simpa using refs_only r) few ats) fun h' tk ⟨L, es, ep, t, R, g⟩ keep => ?_
    rw [sz] at g
    exact fin L es ep t h' tk R g keep
  · obtain ⟨its, r, pl, _⟩ := I1.tuple hq
    have sz : its.toArray.size = ks.length := by rw [List.size_toArray, ← r.length, List.length_map]
    refine set_of_tuple (I1.ok.hd hc) pl (fun E => fills_keys (nkF X.prog X.w) (ks := ks) (by omega) (by simpa using refs_only r) few ats) fun h' tk ⟨L, es, ep, t, R, g⟩ keep => ?_
    rw [sz] at g
    exact fin L es ep t h' tk R g keep
/-- len of a set -/
def rLenSG (P : Program) (w : World) : List V → Hp → VK → Prop := fun xs H Q => ∃ (a : Addr) (L : List (Addr × KN)), xs = [.ref a] ∧ H a = some (SetG P w a L) ∧ Q (.int L.length) H
theorem cr_lenSG : CallR X (.builtin "len") (rLenSG X.prog X.w) := by
  intro pins s σ H vs us Q I r h
  obtain ⟨a, L, rfl, ha, q⟩ := h
  rw [Vals.ref1 r]
  obtain ⟨es, ep, t, ⟨o, ho, hex, hd⟩, row, tab, _, roo, few, _⟩ := (I.hok a _ ha).1
  have sz := size_of_rows row
  have pz := tab.sz
  rw [hsK_len] at pz
  refine call_len_set ho hex hd (fits_by (by omega) tab.dm (by omega)) (by omega) ⟨.int L.length, H, I.tok _, ⟨_, by rw [sz]⟩, q⟩
end
section
variable {G : Gh} {lv : Nat} {X : Cx} {a b : Expr} {qa qb : QE} {pos p p2 q2 p3 q3 pos2 : Pos} {e : PEnv} {M : Addr → Prop} {σ : L2.St} {H : Hp}
/-- rows of tuples, as keys -/
theorem rep_keys : ∀ {vs : List V} {xs : List PV}, RepAll G.toEn H M vs xs → (xs.all PV.keyB) = true → ∃ ks : List (Addr × KN), vs = ks.map (fun p => V.ref p.1) ∧ (∀ p ∈ ks, KH H (.ref p.1) p.2.1) ∧ ks.map (fun x => x.2.1) = xs.map PV.nk
  | _, [], .nil, _ => ⟨[], rfl, (fun p hp => nomatch hp), rfl⟩
  | _, x :: xs, .cons h r, o => by
    rw [List.all_cons, Bool.and_eq_true_iff] at o
    obtain ⟨ks, e1, e2, e3⟩ := rep_keys r o.2
    obtain ⟨⟨ys, rfl⟩, hk, hd⟩ := keyB_tup o.1
    cases h with
    | tup s r0 =>
      rename_i a vs0
      have kh : KH H (.ref a) (PV.nk (.tup ys)) := (Rep.tup s r0 : Rep G.toEn H M (.ref a) (.tup ys)).kh hk
      refine ⟨(a, ⟨PV.nk (.tup ys), hd⟩) :: ks, by rw [e1]; rfl, fun p hp => ?_, by rw [List.map_cons, List.map_cons, e3]⟩
      rcases List.mem_cons.mp hp with rfl | hp
      · exact kh
      · exact e2 p hp
def rowP (p : PV) (k : List PV → Prop) : Prop := match p with
  | .lst xs => k xs
  | .tup xs => k xs
  | _ => False
theorem rowP_of {p : PV} {k : List PV → Prop} (h : rowP p k) : ∃ xs, (p = .lst xs ∨ p = .tup xs) ∧ k xs := by
  cases p with
  | lst xs => exact ⟨xs, .inl rfl, h⟩
  | tup xs => exact ⟨xs, .inr rfl, h⟩
  | _ => exact h.elim
def KeyRow (xs : List PV) : Prop := (xs.all PV.keyB) = true ∧ xs.length < 250 ∧ (xs.map PV.nk).Nodup
def gLenAnd (xs ys : List PV) : Int := ((xs.filter fun x => decide (PV.nk x ∈ ys.map PV.nk)).length : Nat)
def qLenAnd (qa qb : QE) : QE := fun e Q => qa e fun r1 e1 => withP (acc e1 r1) fun p1 => rowP p1 fun xs => KeyRow xs ∧ qb e1 fun r2 e2 => withP (acc e2 r2) fun p2 => rowP p2 fun ys => KeyRow ys ∧ Q (.sh (.int (gLenAnd xs ys))) e2
theorem acc_row {v : V} {p : PV} {xs : List PV} (A : Acc G.toEn H M v p) (h : p = .lst xs ∨ p = .tup xs) : ∃ l vs, v = .ref l ∧ (SqL G.K H l vs ∨ SqT G.K H l vs) ∧ RepAll G.toEn H M vs xs := by
  rcases h with rfl | rfl
  · obtain ⟨a, vs, h1, h2, h3⟩ := A.lst; exact ⟨a, vs, h1, .inl h2, h3⟩
  · obtain ⟨a, vs, h1, h2, h3⟩ := A.tup; exact ⟨a, vs, h1, .inr h2, h3⟩
theorem has_keys {ks L : List (Addr × KN)} (g : Has ks ks.length L) (k : KN) : k ∈ L.map (·.2) ↔ k ∈ ks.map (·.2) := by
  constructor
  · intro h
    obtain ⟨p, hp, rfl⟩ := List.mem_map.mp h
    have := g.sub p hp
    rw [List.take_length] at this
    exact List.mem_map.mpr ⟨p, this, rfl⟩
  · intro h
    obtain ⟨p, hp, rfl⟩ := List.mem_map.mp h
    exact g.all p (by rw [List.take_length]; exact hp)
theorem common_len {ka kb L : List (Addr × KN)} {xs ys : List PV} (ea : ka.map (fun x => x.2.1) = xs.map PV.nk) (eb : kb.map (fun x => x.2.1) = ys.map PV.nk) (nd : (xs.map PV.nk).Nodup) (nL : (L.map (·.2)).Nodup) (m : ∀ k, k ∈ L.map (·.2) ↔ k ∈ ka.map (·.2) ∧ k ∈ kb.map (·.2)) : (L.length : Int) = gLenAnd xs ys := by
  unfold gLenAnd
  have val : ∀ (l : List (Addr × KN)) (zs : List PV), l.map (fun x => x.2.1) = zs.map PV.nk → ∀ k : KN, k ∈ l.map (·.2) ↔ k.1 ∈ zs.map PV.nk := fun l zs e k => by
    rw [← e]
    constructor
    · intro h
      obtain ⟨p, hp, rfl⟩ := List.mem_map.mp h
      exact List.mem_map.mpr ⟨p, hp, rfl⟩
    · intro h
      obtain ⟨p, hp, e⟩ := List.mem_map.mp h
      exact List.mem_map.mpr ⟨p, hp, Subtype.ext e⟩
  have n1 : ((L.map (·.2)).map (·.1)).Nodup := nodup_map (fun a b e => Subtype.ext e) nL
  have n2 : ((xs.filter fun x => decide (PV.nk x ∈ ys.map PV.nk)).map PV.nk).Nodup := by
    have : ((xs.filter fun x => decide (PV.nk x ∈ ys.map PV.nk)).map PV.nk).Sublist (xs.map PV.nk) := List.filter_sublist.map _
    exact this.nodup nd
  have sub : ∀ z, z ∈ (L.map (·.2)).map (·.1) ↔ z ∈ (xs.filter fun x => decide (PV.nk x ∈ ys.map PV.nk)).map PV.nk := fun z => by
    constructor
    · intro h
      obtain ⟨k, hk, rfl⟩ := List.mem_map.mp h
      obtain ⟨h1, h2⟩ := (m k).mp hk
      have h1 := (val ka xs ea k).mp h1
      have h2 := (val kb ys eb k).mp h2
      obtain ⟨x, hx, e⟩ := List.mem_map.mp h1
      exact List.mem_map.mpr ⟨x, List.mem_filter.mpr ⟨hx, decide_eq_true (by rw [e]; exact h2)⟩, e⟩
    · intro h
      obtain ⟨x, hx, rfl⟩ := List.mem_map.mp h
      obtain ⟨h1, h2⟩ := List.mem_filter.mp hx
      have h2 := of_decide_eq_true h2
      have h3 : PV.nk x ∈ ka.map (fun x => x.2.1) := by rw [ea]; exact List.mem_map.mpr ⟨x, h1, rfl⟩
      obtain ⟨p, hp, e⟩ := List.mem_map.mp h3
      have kk : p.2 ∈ L.map (·.2) := (m p.2).mpr ⟨List.mem_map.mpr ⟨p, hp, rfl⟩, (val kb ys eb p.2).mpr (by rw [show p.2.1 = PV.nk x from e]; exact h2)⟩
      exact List.mem_map.mpr ⟨p.2, kk, e⟩
  have pm := (List.perm_ext_iff_of_nodup n1 n2).mpr sub
  have := pm.length_eq
  simp only [List.length_map] at this
  rw [this]
theorem q_lenAnd (g : Good G lv X) (hm : X.mg "len" = none) (hm2 : X.mg "set" = none) (ha : PE X a (LE G qa)) (hb : PE X b (LE G qb)) (hg : Gl X "len" := by rfl) (hg2 : Gl X "set" := by rfl)
    (na : starEach [a] X.env = (false, eval a X.env) :: starEach [] X.env := by rfl) (nb : starEach [b] X.env = (false, eval b X.env) :: starEach [] X.env := by rfl)
    (nc : starEach [.BinOp (.Call (.Name "set" p2) [a] [] q2) .BitAnd (.Call (.Name "set" p3) [b] [] q3) pos2] X.env = (false, eval (.BinOp (.Call (.Name "set" p2) [a] [] q2) .BitAnd (.Call (.Name "set" p3) [b] [] q3) pos2) X.env) :: starEach [] X.env := by rfl) :
    PE X (.Call (.Name "len" p) [.BinOp (.Call (.Name "set" p2) [a] [] q2) .BitAnd (.Call (.Name "set" p3) [b] [] q3) pos2] [] pos) (LE G (qLenAnd qa qb)) := by
  have hu := g.units
  refine PE.imp (pe_callB (cr_lenSG (X := X)) hg hm PySem.boot_len (pa_cons (pe_op (op_andG hu) (pe_setG g.calm hg2 hm2 hu ha na) (pe_setG g.calm hg2 hm2 hu hb nb)) pa_nil nc) (by decide) (by decide) nc rfl) ?_
  intro σ H Q ⟨e, M, K, S, q, f⟩
  refine ⟨e, M, _, S, q, fun r1 e1 k1 v H1 M1 S1 s1 R1 => ?_⟩
  obtain ⟨p1, a1, k1⟩ := withP_of k1
  obtain ⟨xs, px, ⟨ka, few, nd⟩, k1⟩ := rowP_of k1
  obtain ⟨l, vs, rfl, sq, rr⟩ := acc_row (Res.acc S1 R1 a1) px
  obtain ⟨ks, rfl, hk, ek⟩ := rep_keys rr ka
  have lk : ks.length = xs.length := by have := congrArg List.length ek; simpa using this
  refine ⟨l, ks, rfl, by rw [g.K]; exact sq, hk, by rw [lk]; exact few, fun p L hp has => ?_⟩
  have S2 := S1.new (o := SetG X.prog X.w p L) hp
  have s2 : Step H1 M1 (L2.upd H1 p (SetG X.prog X.w p L)) M1 := step_new hp
  have np : ¬ M1 p := fun z => S1.trk p z hp
  refine ⟨e1, M1, _, S2, k1, fun r2 e2 k2 w H3 M3 S3 s3 R2 => ?_⟩
  obtain ⟨p2', a2, k2⟩ := withP_of k2
  obtain ⟨ys, py, ⟨kb, few2, nd2⟩, k2⟩ := rowP_of k2
  obtain ⟨l2, vs2, rfl, sq2, rr2⟩ := acc_row (Res.acc S3 R2 a2) py
  obtain ⟨ks2, rfl, hk2, ek2⟩ := rep_keys rr2 kb
  have lk2 : ks2.length = ys.length := by have := congrArg List.length ek2; simpa using this
  refine ⟨l2, ks2, rfl, by rw [g.K]; exact sq2, hk2, by rw [lk2]; exact few2, fun p' L' hp' has' => ?_⟩
  have at1 : H3 p = some (SetG X.prog X.w p L) := s3.keep p _ upd_same np
  have np' : ¬ M3 p' := fun z => S3.trk p' z hp'
  have ne : p ≠ p' := fun z => by rw [z, hp'] at at1; cases at1
  have S4 := S3.new (o := SetG X.prog X.w p' L') hp'
  have s4 : Step H3 M3 (L2.upd H3 p' (SetG X.prog X.w p' L')) M3 := step_new hp'
  have khL : ∀ {H5 : Hp} {M5 : Addr → Prop} {ks L : List (Addr × KN)} {xs : List PV}, RepAll G.toEn H5 M5 (ks.map fun p => V.ref p.1) xs → (xs.all PV.keyB) = true → ks.map (fun x => x.2.1) = xs.map PV.nk → Has ks ks.length L → ∀ p ∈ L, KH H5 (.ref p.1) p.2.1 := fun r o ee has p hp => by
    have := has.sub p hp
    rw [List.take_length] at this
    exact set_keys r o ee p this
  refine ⟨p, p', L, L', rfl, rfl, ne, by rw [upd_ne ne]; exact at1, upd_same, khL (((rr.step s2).step s3).step s4) ka ek has, khL (rr2.step s4) kb ek2 has', fun p5 L5 hp5 nd5 m5 => ?_⟩
  refine ⟨p5, L5, rfl, upd_same, ?_⟩
  have S5 := S4.new (o := SetG X.prog X.w p5 L5) hp5
  have s5 : Step (L2.upd H3 p' (SetG X.prog X.w p' L')) M3 (L2.upd (L2.upd H3 p' (SetG X.prog X.w p' L')) p5 (SetG X.prog X.w p5 L5)) M3 := step_new hp5
  rw [common_len ek ek2 nd nd5 fun k => by rw [m5 k, has_keys has, has_keys has']]
  exact aft_sh S5 ((f _ e2 k2).from ((((s1.trans s2).trans s3).trans s4).trans s5)) (.int _)
end
end CP
/-! xs.index(x); a, b = x, y; a new thing lent. -/
namespace CP
open PySem PySem.Spec PyProof.Rows L2
section
variable {G : Gh} {lv : Nat} {X : Cx} {a b o : Expr} {es : List Expr} {qa qb qo : QE} {qA : QAs} {pos p apos cpos : Pos} {e : PEnv} {M : Addr → Prop} {σ : L2.St} {H : Hp}
def lstP (p : PV) : Prop := match p with
  | .lst _ => True
  | _ => False
/-- the first place of an equal one -/
def gIdx (p : PV) (ps : List PV) (k : QV → Prop) : Prop := match p, ps with
  | .lst xs, [y] => (Shp (.lst xs) ∧ Shp y) ∧ ∃ j : Nat, (xs[j]?.any fun z => PyData.eqv (PV.toD z) (PV.toD y)) = true ∧ (∀ (m : Nat) z, m < j → xs[m]? = some z → PyData.eqv (PV.toD z) (PV.toD y) = false) ∧ k (.sh (.int j))
  | _, _ => False
theorem gIdx_of {p : PV} {ps : List PV} {k : QV → Prop} (h : gIdx p ps k) : ∃ xs y, p = .lst xs ∧ ps = [y] ∧ (Shp (.lst xs) ∧ Shp y) ∧ ∃ j : Nat, (xs[j]?.any fun z => PyData.eqv (PV.toD z) (PV.toD y)) = true ∧ (∀ (m : Nat) z, m < j → xs[m]? = some z → PyData.eqv (PV.toD z) (PV.toD y) = false) ∧ k (.sh (.int j)) := by
  unfold gIdx at h
  split at h
  · exact ⟨_, _, rfl, rfl, h⟩
  · exact h.elim
def qIdx (qo : QE) (qA : QAs) : QE := fun e Q => qo e fun r1 e1 => stl r1 <| withP (acc e1 r1) fun p0 => lstP p0 ∧ qA e1 fun ps e2 => withP (acc e2 r1) fun p1 => gIdx p1 ps fun r => Q r e2
theorem q_index (g : Good G lv X) (ho : PE X o (LE G qo)) (ha : PA X (a :: es) (LA G qA)) (hbase : attributeBase o "index" X.env (eval o X.env) = eval o X.env := by rfl)
    (hfew : ((backTo cpos (starEach (a :: es) X.env)).all (fun x => !x.1) && (backToKw cpos (keywordEach [] X.env)).all (fun x => x.1.isSome) && decide ((a :: es).length + ([] : List Keyword).length + (if ([] : List Keyword).isEmpty then 0 else 1) < 30)) = true := by rfl)
    (hline : (apos.endLine == cpos.line) = true := by rfl) (hs : starEach (a :: es) X.env = (false, eval a X.env) :: starEach es X.env := by rfl) (hplain : (backTo cpos (starEach es X.env)).any (·.1) = false := by rfl) :
    PE X (.Call (.Attribute o "index" apos) (a :: es) [] cpos) (LE G (qIdx qo qA)) := PE.imp (pe_bm F.plainAttrs_list F.slot_list_index F.type_list_index (mt_indexD (by have := g.units66; omega)) ho ha hbase hfew hline hs hplain) fun σ H Q ⟨e, M, K, S, q, f⟩ => ⟨e, M, _, S, q, fun r1 e1 k1 v H1 M1 S1 s1 R1 => by
  obtain ⟨pb, k1⟩ := stl_of k1
  obtain ⟨M1', S1', s1', R1'⟩ := Res.settle S1 R1 pb
  obtain ⟨p0, a0, k1⟩ := withP_of k1
  obtain ⟨l0, k1⟩ := k1
  have A0 := Res.acc S1' R1' (acc_settle.trans a0)
  have ⟨xs0, e0⟩ : ∃ xs0, p0 = .lst xs0 := by
    cases p0 with
    | lst xs => exact ⟨xs, rfl⟩
    | _ => exact l0.elim
  subst e0
  obtain ⟨l, us, rfl, sq, _⟩ := A0.lst
  refine ⟨.inl ⟨rfl, us, by rw [g.K]; exact sq⟩, e1, M1', _, S1', k1, fun ps e2 k2 vs H2 M2 S2 s2 R2 => ?_⟩
  obtain ⟨p1, a1, k2⟩ := withP_of k2
  have R3 : Res G e2 M2 σ H2 (.ref l) (settle r1) := Res.later s2 R1'
  have A := Res.acc S2 R3 (acc_settle.trans a1)
  obtain ⟨xs, y, rfl, rfl, ⟨sx, sy⟩, j, hj, hno, kk⟩ := gIdx_of k2
  · cases R2 with
    | cons r0 rt =>
      cases rt
      have d1 := A.dp sx.1
      have d2 := r0.dp sy.1
      have tl : PV.toD (.lst xs) = .list (xs.map PV.toD) := by rw [PV.toD, toDs_map]
      rw [tl] at d1
      have sx2 := sx.2
      rw [tl] at sx2
      have ex : ∃ z, xs[j]? = some z ∧ PyData.eqv (PV.toD z) (PV.toD y) = true := by
        cases c : xs[j]? with
        | none => rw [c] at hj; simp at hj
        | some z => rw [c] at hj; exact ⟨z, rfl, by simpa using hj⟩
      obtain ⟨z, hz, hez⟩ := ex
      refine ⟨l, _, PV.toD y, xs.map PV.toD, j, PV.toD z, rfl, rfl, by rw [g.K]; exact d1, by rw [g.K]; exact d2, sx2, sy.2, by rw [List.getElem?_map, hz]; rfl, hez, fun m z' hm hz' => ?_, aft_sh S2 ((f _ e2 kk).from ((s1.trans s1').trans s2)) (.int _)⟩
      rw [List.getElem?_map] at hz'
      cases c : xs[m]? with
      | none => rw [c] at hz'; cases hz'
      | some z2 =>
        rw [c] at hz'; cases hz'
        exact hno m z2 hm c⟩
/-! ### a, b = x, y -/
def sPar (i j : Nat) (q : QAs) : QS := fun E e => q e fun ps e1 => match ps with
  | [x, y] => freeS e1 i (freeS (e1.set i (.val x)) j (E.nx ((e1.set i (.val x)).set j (.val y))))
  | _ => False
theorem s_par {i j : Nat} {x y : Str} {px py pt : Pos} {kt k2 pt2} (g : Good G lv X) (ha : PA X [a, b] (LA G qA)) (hi : X.N[i]? = some x := by rfl) (hj : X.N[j]? = some y := by rfl) (hij : i ≠ j := by decide)
    (hx : X.env.scope.names.lookup x = some .local := by rfl) (hy : X.env.scope.names.lookup y = some .local := by rfl)
    (hw : swappedStores [.Tuple [.Name x px, .Name y py] kt pt] (.Tuple [a, b] k2 pt2) X.env = pure (some [x, y]) := by rfl)
    (hs : swapsWithSole [.Tuple [.Name x px, .Name y py] kt pt] (.Tuple [a, b] k2 pt2) pos.line X.env = pure false := by rfl) :
    PS X (.Assign [.Tuple [.Name x px, .Name y py] kt pt] (.Tuple [a, b] k2 pt2) pos) (LS G (sPar i j qA)) := PS.imp (ps_par g.calm g.nd hi hj hij hx hy ha hw hs) fun D σ H ⟨e, M, E, S, k, f⟩ => ⟨e, M, _, S, k, fun ps e1 k1 vs H1 M1 S1 s1 R1 => by
  split at k1
  · rename_i p q
    obtain ⟨h1, n1, k1⟩ := freeS_of k1
    obtain ⟨h2, n2, k1⟩ := freeS_of k1
    obtain ⟨v, w, rfl, r1, r2⟩ := rep2 R1
    have S2 := S1.setVal h1 n1 r1
    have S3 := S2.setVal h2 n2 r2
    exact ⟨v, w, rfl, f.nx _ k1 _ _ _ S3 s1⟩
  · exact k1.elim⟩
/-! ### a call of which nothing is lent -/
def qCallK (g : PG1) (q : QAs) : QE := fun e Q => q e fun ps e1 => g (ps.map .val) fun r _ => match r with
  | .bor _ => False
  | r => Q r e1
theorem q_callK {x : Str} {k : Nat} {ps : List Str} {g : PG1} (gd : Good G lv X) (h : HasD X.prog X.w X.K X.mg X.base x ps k g) (hk : k ≤ lv) (ha : PA X (a :: es) (LA G qA)) (hE : G.toEn = ⟨X.prog, X.w, X.K⟩ := by rfl)
    (hg : Gl X x := by rfl) (hdb : (x == ("__debug__" : Str)) = false := by decide) (he : starEach (a :: es) X.env = (false, eval a X.env) :: starEach es X.env := by rfl) (hpl : (backTo pos (starEach es X.env)).any (·.1) = false := by rfl) : PE X (.Call (.Name x p) (a :: es) [] pos) (LE G (qCallK g qA)) := by
  obtain ⟨f, fd, hm, kp, hb, F, hout⟩ := h
  rw [← hE] at F
  refine PE.imp (pe_call F (gd.room.mono hk) hg hm kp hb .nil pass0 ha hdb he hpl) fun σ H Q ⟨e, M, K, S, q, fin⟩ => ⟨e, M, _, S, q, fun ps e1 k1 vs H1 M1 S1 s1 R => ?_⟩
  have A : AvOk G e1 M1 σ H1 vs (keptAs ps) := avOk_kept R
  have hs := argSs_kept e1 ps
  have nd : (lents (keptAs ps)).Nodup := by rw [lents_kept]; exact List.nodup_nil
  obtain ⟨A', _, lent⟩ := args_ok S1 A hs
  have no : ∀ i b, ¬ LentAt vs (ps.map Sl.val) i b := fun i b ⟨_, q, h⟩ => by
    rw [List.getElem?_map] at h
    cases c : ps[i]? with
    | none => rw [c] at h; cases h
    | some z => rw [c] at h; cases h
  show spP G.toEn g (vs ++ []) H1 Q E0
  rw [List.append_nil]
  refine ⟨_, M1, _, A', fun i j b hi _ => absurd hi (no i b), S1.trk, hout _ _ k1, fun r ss' ⟨kr, hl⟩ v H' M' E => ?_⟩
  obtain ⟨S5, s5, R5⟩ := call_back S1 A nd hs E hl
  rw [putB_kept] at S5 R5
  cases r with
  | bor i => exact kr.elim
  | sh pr => exact fin _ _ kr v H' M' S5 (s1.trans s5) (R5 pr (.inl rfl))
  | fr pr => exact fin _ _ kr v H' M' S5 (s1.trans s5) (R5 pr (.inr rfl))
/-! ### f(x), x a new thing that f may change -/
def qCallT (g : PG1) (qa : QE) : QE := fun e Q => qa e fun r e1 => match r with
  | .fr p => g [.io p] fun r ss' => (match ss' with
    | [.io _] => True
    | _ => False) ∧ match r with
    | .bor _ => False
    | r => Q r e1
  | _ => False
variable {x : Str} {k : Nat} {f : Addr} {fd : FuncData} {ps : List Str} {g : PG1}
theorem q_callT (gd : Good G lv X) (h : HasD X.prog X.w X.K X.mg X.base x ps k g) (hk : k ≤ lv) (ha : PE X a (LE G qa)) (hE : G.toEn = ⟨X.prog, X.w, X.K⟩ := by rfl)
    (hg : Gl X x := by rfl) (hdb : (x == ("__debug__" : Str)) = false := by decide) (he : starEach [a] X.env = (false, eval a X.env) :: starEach [] X.env := by rfl) (hpl : (backTo pos (starEach [] X.env)).any (·.1) = false := by rfl) : PE X (.Call (.Name x p) [a] [] pos) (LE G (qCallT g qa)) := by
  obtain ⟨f, fd, hm, kp, hb, F, hout⟩ := h
  rw [← hE] at F
  refine PE.imp (pe_call F (gd.room.mono hk) hg hm kp hb .nil pass0 (pa_cons ha pa_nil he) hdb he hpl) fun σ H Q ⟨e, M, K, S, q, fin⟩ => ⟨e, M, _, S, q, fun r e1 k1 v H1 M1 S1 s1 R => ?_⟩
  split at k1
  · rename_i p
    obtain ⟨x, rfl, ob, ma, m0, h0, nj⟩ := R
    have S4 := S1.extend ob ma m0 h0 nj
    have A : AvOk G (e1 ++ [.own p]) M1 (σ ++ [some (.ref x)]) H1 [.ref x] [.lent e1.length] := .lent (by rw [S1.len]; exact len_snoc) .nil
    have gc : getC (e1 ++ [.own p]) e1.length = some p := by unfold getC; rw [len_snoc]; rfl
    have hs : argSs (e1 ++ [.own p]) [.lent e1.length] = some [.io p] := by
      show (match (getC _ _).map Sl.io, (some [] : Option (List Sl)) with | some s, some ss => some (s :: ss) | _, _ => none) = _
      rw [gc]; rfl
    have nd : (lents [.lent e1.length]).Nodup := by show [e1.length].Nodup; simp
    obtain ⟨A', _, lent⟩ := args_ok S4 A hs
    refine ⟨_, M1, _, A', fun i j b hi hj => ?_, S4.trk, hout _ _ k1, fun r ss' ⟨⟨sh, kr⟩, hl⟩ v H' M' E => ?_⟩
    · obtain ⟨i', e1', m1, a1⟩ := (lent i b).mp hi
      obtain ⟨j', e2, m2, a2⟩ := (lent j b).mp hj
      have : i' = j' := S4.inj i' j' b m1 m2 a1 a2
      subst this
      exact lents_one nd e1' e2
    · obtain ⟨S5, s5, R5⟩ := call_back S4 A nd hs E hl
      have ⟨p2, e2⟩ : ∃ p2, ss' = [.io p2] := by
        split at sh
        · exact ⟨_, rfl⟩
        · exact sh.elim
      subst e2
      · have pb : putB (e1 ++ [.own p]) [.lent e1.length] [.io p2] = e1 ++ [.own p2] := by
          show putB (putC (e1 ++ [.own p]) e1.length p2) [] [] = _
          exact putC_snoc
        rw [pb] at S5 R5
        obtain ⟨S6, R6⟩ := S5.shrink S1.len fun j a h => by
          obtain ⟨_, q, q2⟩ := S1.iol j a h
          exact get_lt q2
        cases r with
        | bor i => exact kr.elim
        | sh pr => exact fin _ _ kr v H' M' S6 (s1.trans s5) (R5 pr (.inl rfl))
        | fr pr =>
          refine fin _ _ kr v H' M' S6 (s1.trans s5) ?_
          obtain ⟨a, rfl, ob2, ma2, m02, h02, nj2⟩ := R5 pr (.inr rfl)
          refine ⟨a, rfl, ob2, ma2, m02, h02, fun j mj z => ?_⟩
          have lj : j < σ.length := by rw [← S1.len]; obtain ⟨q, h⟩ := mj; exact h.elim get_lt get_lt
          have mj' : Mu (e1 ++ [.own p2]) j := by
            obtain ⟨q, h⟩ := mj
            exact ⟨q, h.imp snoc_get snoc_get⟩
          exact nj2 j mj' (snoc_get z)
  · exact k1.elim
end
end CP
/-! Numbers as sets of bits: parity, the lowest bit, sums. -/
namespace CP
/-- the parity of the number of bits -/
def par (n : Nat) : Bool := if h : n = 0 then false else (n % 2 == 1) ^^ par (n / 2)
theorem par_zero : par 0 = false := by rw [par]; rfl
theorem par_step (n : Nat) : par n = ((n % 2 == 1) ^^ par (n / 2)) := by
  by_cases h : n = 0
  · subst h; rw [par_zero]; rfl
  · rw [par, dif_neg h]
theorem par_xor : ∀ a b : Nat, par (a ^^^ b) = (par a ^^ par b) := by
  intro a
  induction a using Nat.strongRecOn with
  | _ a ih =>
    intro b
    by_cases h : a = 0
    · subst h; rw [Nat.zero_xor, par_zero, Bool.false_xor]
    · rw [par_step (a ^^^ b), par_step a, par_step b, Nat.xor_div_two, ih (a / 2) (by omega)]
      have : ((a ^^^ b) % 2 == 1) = ((a % 2 == 1) ^^ (b % 2 == 1)) := by
        have o := @Nat.xor_mod_two_eq_one a b
        have c1 : a % 2 = 0 ∨ a % 2 = 1 := by omega
        have c2 : b % 2 = 0 ∨ b % 2 = 1 := by omega
        have c3 : (a ^^^ b) % 2 = 0 ∨ (a ^^^ b) % 2 = 1 := by omega
        rcases c1 with c1 | c1 <;> rcases c2 with c2 | c2 <;> rcases c3 with c3 | c3 <;> simp_all
      rw [this]
      cases (a % 2 == 1) <;> cases (b % 2 == 1) <;> cases par (a / 2) <;> cases par (b / 2) <;> rfl
theorem par_pow : ∀ k : Nat, par (2 ^ k) = true
  | 0 => by rw [par_step]; simp [par_zero]
  | k + 1 => by
    rw [par_step, Nat.pow_succ, Nat.mul_mod_left, Nat.mul_div_cancel _ (by decide), par_pow k]; rfl
def dot (a b : Nat) : Bool := par (a &&& b)
theorem dot_comm (a b : Nat) : dot a b = dot b a := by unfold dot; rw [Nat.and_comm]
theorem dot_xor (a b c : Nat) : dot (a ^^^ b) c = (dot a c ^^ dot b c) := by unfold dot; rw [Nat.and_xor_distrib_right, par_xor]
theorem dot_xor' (a b c : Nat) : dot c (a ^^^ b) = (dot c a ^^ dot c b) := by rw [dot_comm, dot_xor, dot_comm a, dot_comm b]
theorem dot_zero (a : Nat) : dot 0 a = false := by unfold dot; rw [Nat.zero_and, par_zero]
theorem dot_zero' (a : Nat) : dot a 0 = false := by rw [dot_comm, dot_zero]
theorem and_pow (n k : Nat) : n &&& 2 ^ k = if n.testBit k then 2 ^ k else 0 := by
  refine Nat.eq_of_testBit_eq fun i => ?_
  rw [Nat.testBit_and, Nat.testBit_two_pow]
  by_cases c : k = i
  · subst c
    cases h : n.testBit k <;> simp [h, Nat.testBit_two_pow]
  · cases h : n.testBit k <;> simp [c, Nat.testBit_two_pow]
theorem dot_pow (n k : Nat) : dot n (2 ^ k) = n.testBit k := by
  unfold dot
  rw [and_pow]
  cases n.testBit k
  · exact par_zero
  · exact par_pow k
/-- the lowest bit -/
def low (n : Nat) : Nat := n - (n &&& (n - 1))
theorem low_spec : ∀ n : Nat, 0 < n → ∃ k, n.testBit k = true ∧ (∀ i, i < k → n.testBit i = false) ∧ n &&& (n - 1) = n ^^^ 2 ^ k ∧ low n = 2 ^ k := by
  intro n
  induction n using Nat.strongRecOn with
  | _ n ih =>
    intro h
    by_cases o : n % 2 = 1
    · have e1 : n &&& (n - 1) = n - 1 := by
        refine Nat.eq_of_testBit_eq fun i => ?_
        rw [Nat.testBit_and]
        cases i with
        | zero =>
          have : (n - 1).testBit 0 = false := by rw [Nat.testBit_zero]; exact decide_eq_false (by omega)
          rw [this, Bool.and_false]
        | succ i =>
          rw [Nat.testBit_succ, Nat.testBit_succ, show (n - 1) / 2 = n / 2 by omega, Bool.and_self]
      have e2 : n - 1 = n ^^^ 2 ^ 0 := by
        refine Nat.eq_of_testBit_eq fun i => ?_
        rw [Nat.testBit_xor]
        cases i with
        | zero => rw [Nat.testBit_zero, Nat.testBit_zero, Nat.testBit_zero]; simp [o]; omega
        | succ i =>
          rw [Nat.testBit_succ, Nat.testBit_succ, show (n - 1) / 2 = n / 2 by omega, Nat.testBit_two_pow]
          simp
      refine ⟨0, by rw [Nat.testBit_zero]; exact decide_eq_true o, fun i hi => absurd hi (Nat.not_lt_zero _), by rw [e1, e2], ?_⟩
      unfold low; rw [e1]; simp; omega
    · obtain ⟨k, h1, h2, h3, h4⟩ := ih (n / 2) (by omega) (by omega)
      have e : n = 2 * (n / 2) := by omega
      have tb : ∀ i, n.testBit (i + 1) = (n / 2).testBit i := fun i => Nat.testBit_succ ..
      have e1 : n &&& (n - 1) = 2 * ((n / 2) &&& (n / 2 - 1)) := by
        refine Nat.eq_of_testBit_eq fun i => ?_
        rw [Nat.testBit_and]
        cases i with
        | zero =>
          have : n.testBit 0 = false := by rw [Nat.testBit_zero]; exact decide_eq_false o
          rw [this, Bool.false_and, Nat.testBit_zero]; simp
        | succ i => rw [Nat.testBit_succ, Nat.testBit_succ, Nat.testBit_succ, show (n - 1) / 2 = n / 2 - 1 by omega, Nat.mul_div_cancel_left _ (by decide : 0 < 2), Nat.testBit_and]
      have e2 : n ^^^ 2 ^ (k + 1) = 2 * ((n / 2) ^^^ 2 ^ k) := by
        refine Nat.eq_of_testBit_eq fun i => ?_
        rw [Nat.testBit_xor]
        cases i with
        | zero =>
          have : n.testBit 0 = false := by rw [Nat.testBit_zero]; exact decide_eq_false o
          rw [this, Nat.testBit_zero, Nat.testBit_zero]; simp [Nat.pow_succ]
        | succ i => rw [Nat.testBit_succ, Nat.testBit_succ, Nat.testBit_succ, Nat.mul_div_cancel_left _ (by decide : 0 < 2), Nat.testBit_xor, Nat.pow_succ, Nat.mul_div_cancel _ (by decide : 0 < 2)]
      refine ⟨k + 1, by rw [tb]; exact h1, fun i hi => ?_, by rw [e1, e2, h3], ?_⟩
      · cases i with
        | zero => rw [Nat.testBit_zero]; exact decide_eq_false o
        | succ i => rw [tb]; exact h2 i (by omega)
      · unfold low at h4 ⊢
        rw [e1, Nat.pow_succ]
        have le : (n / 2) &&& (n / 2 - 1) ≤ n / 2 := Nat.and_le_left
        omega
theorem par_drop {n : Nat} (h : 0 < n) : par (n &&& (n - 1)) = !par n := by
  obtain ⟨k, h1, _, h3, _⟩ := low_spec n h
  rw [h3, par_xor, par_pow, Bool.xor_true]
theorem drop_lt {n : Nat} (h : 0 < n) : n &&& (n - 1) < n := by
  have : n &&& (n - 1) ≤ n - 1 := Nat.and_le_right
  omega

/-! ### a predicate on a list, as a number -/
section
variable {α : Type}
def nmf (f : α → Bool) : List α → Nat
  | [] => 0
  | p :: P => (if f p then 1 else 0) + 2 * nmf f P
theorem nmf_bit (f : α → Bool) : ∀ (P : List α) (i : Nat), (nmf f P).testBit i = ((P[i]?).map f).getD false
  | [], i => by simp [nmf]
  | p :: P, 0 => by
    rw [nmf, Nat.testBit_zero]
    have : ((if f p = true then 1 else 0) + 2 * nmf f P) % 2 = if f p = true then 1 else 0 := by split <;> omega
    rw [this]
    cases hf : f p <;> simp [hf]
  | p :: P, i + 1 => by
    rw [nmf, Nat.testBit_succ]
    have : ((if f p = true then 1 else 0) + 2 * nmf f P) / 2 = nmf f P := by split <;> omega
    rw [this, nmf_bit f P i]; simp
theorem nmf_lt (f : α → Bool) : ∀ P : List α, nmf f P < 2 ^ P.length
  | [] => by simp [nmf]
  | p :: P => by
    have := nmf_lt f P
    rw [nmf, List.length_cons, Nat.pow_succ]
    split <;> omega
theorem nmf_ext {f g : α → Bool} : ∀ {P : List α}, (∀ p ∈ P, f p = g p) → nmf f P = nmf g P
  | [], _ => rfl
  | p :: P, h => by rw [nmf, nmf, h p List.mem_cons_self, nmf_ext fun q hq => h q (List.mem_cons_of_mem _ hq)]
theorem nmf_inj {f g : α → Bool} : ∀ {P : List α}, nmf f P = nmf g P → ∀ p ∈ P, f p = g p
  | [], _, p, hp => nomatch hp
  | q :: P, h, p, hp => by
    rw [nmf, nmf] at h
    have e : nmf f P = nmf g P ∧ f q = g q := by
      have b1 : (if f q = true then 1 else 0) < 2 := by split <;> omega
      have b2 : (if g q = true then 1 else 0) < 2 := by split <;> omega
      have hd : nmf f P = nmf g P := by omega
      have hm : (if f q = true then 1 else 0) = if g q = true then 1 else 0 := by omega
      refine ⟨hd, ?_⟩
      cases hf : f q <;> cases hg : g q <;> simp [hf, hg] at hm ⊢
    rcases List.mem_cons.mp hp with rfl | hp
    · exact e.2
    · exact nmf_inj e.1 p hp
theorem nmf_xor (f g : α → Bool) (P : List α) : nmf f P ^^^ nmf g P = nmf (fun p => f p ^^ g p) P := by
  refine Nat.eq_of_testBit_eq fun i => ?_
  rw [Nat.testBit_xor, nmf_bit, nmf_bit, nmf_bit]
  cases P[i]? <;> simp
theorem nmf_and (f g : α → Bool) (P : List α) : nmf f P &&& nmf g P = nmf (fun p => f p && g p) P := by
  refine Nat.eq_of_testBit_eq fun i => ?_
  rw [Nat.testBit_and, nmf_bit, nmf_bit, nmf_bit]
  cases P[i]? <;> simp
theorem nmf_none {f : α → Bool} {P : List α} (h : ∀ p ∈ P, f p = false) : nmf f P = 0 := by
  rw [nmf_ext (g := fun _ => false) h]
  induction P with
  | nil => rfl
  | cons p P ih => rw [nmf, ih fun q hq => h q (List.mem_cons_of_mem _ hq)]; rfl
theorem par_nmf (f : α → Bool) : ∀ P : List α, par (nmf f P) = (P.countP f % 2 == 1)
  | [] => by rw [nmf, par_zero]; rfl
  | p :: P => by
    rw [nmf, par_step]
    have e1 : ((if f p = true then 1 else 0) + 2 * nmf f P) / 2 = nmf f P := by split <;> omega
    have e2 : (((if f p = true then 1 else 0) + 2 * nmf f P) % 2 == 1) = f p := by cases f p <;> simp <;> omega
    rw [e1, e2, par_nmf f P, List.countP_cons]
    have c : P.countP f % 2 = 0 ∨ P.countP f % 2 = 1 := by omega
    cases f p
    · simp
    · rcases c with c | c <;> simp [c] <;> omega
/-- of a number, the predicate on a list -/
def ofN (n : Nat) (P : List α) : List α := (P.zipIdx.filter fun x => n.testBit x.2).map (·.1)
theorem zipIdx_filter (f : α → Bool) (n : Nat) : ∀ (P : List α) (k : Nat), (∀ i, (P[i]?).map f = (P[i]?).map fun _ => n.testBit (k + i)) → ((P.zipIdx k).filter fun x => n.testBit x.2).map (·.1) = P.filter f
  | [], _, _ => rfl
  | p :: P, k, h => by
    have h0 := h 0
    simp at h0
    have ih := zipIdx_filter f n P (k + 1) fun i => by
      have := h (i + 1)
      simpa [Nat.add_assoc, Nat.add_comm 1 i] using this
    rw [List.zipIdx_cons, List.filter_cons, List.filter_cons, ← h0]
    cases f p <;> simp [ih]
theorem ofN_nmf (f : α → Bool) (P : List α) : ofN (nmf f P) P = P.filter f := by
  refine zipIdx_filter f _ P 0 fun i => ?_
  rw [Nat.zero_add, nmf_bit]
  cases P[i]? <;> simp
theorem nmf_ofN [DecidableEq α] {P : List α} (nd : P.Nodup) {n : Nat} (h : n < 2 ^ P.length) : nmf (fun p => decide (p ∈ ofN n P)) P = n := by
  refine Nat.eq_of_testBit_eq fun i => ?_
  rw [nmf_bit]
  by_cases c : i < P.length
  · rw [List.getElem?_eq_getElem c]
    simp only [Option.map_some, Option.getD_some]
    unfold ofN
    have : (P[i] ∈ (P.zipIdx.filter fun x => n.testBit x.2).map (·.1)) ↔ n.testBit i = true := by
      constructor
      · intro h
        obtain ⟨⟨q, j⟩, h1, h2⟩ := List.mem_map.mp h
        obtain ⟨h3, h4⟩ := List.mem_filter.mp h1
        have h5 := List.mem_zipIdx_iff_getElem?.mp h3
        simp at h2 h4 h5
        subst h2
        obtain ⟨hj, h5⟩ := List.getElem?_eq_some_iff.mp h5
        have : i = j := (List.getElem_inj nd).mp h5.symm
        rw [this]; exact h4
      · intro h
        exact List.mem_map.mpr ⟨(P[i], i), List.mem_filter.mpr ⟨List.mem_zipIdx_iff_getElem?.mpr (by simp), h⟩, rfl⟩
    cases d : n.testBit i with
    | true => exact decide_eq_true (this.mpr d)
    | false => exact decide_eq_false fun z => by rw [this.mp z] at d; cases d
  · rw [List.getElem?_eq_none (by omega)]
    simp
    rw [Nat.testBit_lt_two_pow]
    exact Nat.lt_of_lt_of_le h (Nat.pow_le_pow_right (by decide) (by omega))
end
end CP
/-! Elimination over two elements. -/
namespace CP
/-- the sum of the rows whose bit is set -/
def comb : List Nat → Nat → Nat
  | [], _ => 0
  | r :: rows, u => (if u % 2 = 1 then r else 0) ^^^ comb rows (u / 2)
theorem comb_zero : ∀ rows : List Nat, comb rows 0 = 0
  | [] => rfl
  | r :: rows => by rw [comb, show 0 / 2 = 0 from rfl, comb_zero rows]; simp
theorem comb_xor : ∀ (rows : List Nat) (u v : Nat), comb rows (u ^^^ v) = comb rows u ^^^ comb rows v
  | [], _, _ => by simp [comb]
  | r :: rows, u, v => by
    rw [comb, comb, comb, Nat.xor_div_two, comb_xor rows]
    have h : (if (u ^^^ v) % 2 = 1 then r else 0) = (if u % 2 = 1 then r else 0) ^^^ (if v % 2 = 1 then r else 0) := by
      have o := @Nat.xor_mod_two_eq_one u v
      by_cases c1 : u % 2 = 1 <;> by_cases c2 : v % 2 = 1 <;> by_cases c3 : (u ^^^ v) % 2 = 1 <;> simp_all
    rw [h]
    simp only [Nat.xor_assoc]
    congr 1
    rw [← Nat.xor_assoc, Nat.xor_comm _ (comb rows (u / 2)), Nat.xor_assoc]
theorem comb_snoc : ∀ (rows : List Nat) (r u : Nat), comb (rows ++ [r]) u = comb rows u ^^^ (if u.testBit rows.length = true then r else 0)
  | [], r, u => by
    show comb [r] u = _
    rw [comb, comb, comb, List.length_nil, Nat.testBit_zero, Nat.xor_zero, Nat.zero_xor]
    by_cases c : u % 2 = 1 <;> simp [c]
  | x :: rows, r, u => by
    show comb (x :: (rows ++ [r])) u = _
    rw [comb, comb, comb_snoc rows r, Nat.xor_assoc, List.length_cons, Nat.testBit_succ]
theorem comb_pow : ∀ {rows : List Nat} {i r : Nat}, rows[i]? = some r → comb rows (2 ^ i) = r
  | [], i, r, h => by simp at h
  | x :: rows, 0, r, h => by
    simp at h; subst h
    rw [comb]; simp [comb_zero]
  | x :: rows, i + 1, r, h => by
    rw [comb, Nat.pow_succ, Nat.mul_mod_left, Nat.mul_div_cancel _ (by decide), comb_pow (by simpa using h)]
    simp
theorem dot_comb {rows : List Nat} {c : Nat} (h : ∀ r ∈ rows, dot r c = false) : ∀ u, dot (comb rows u) c = false := by
  induction rows with
  | nil => intro u; rw [comb, dot_zero]
  | cons r rows ih =>
    intro u
    rw [comb, dot_xor, ih (fun s hs => h s (List.mem_cons_of_mem _ hs))]
    split
    · rw [h r List.mem_cons_self]; rfl
    · rw [dot_zero]; rfl
theorem xor_left_cancel {a b c : Nat} (h : a ^^^ b = a ^^^ c) : b = c := by
  have : a ^^^ (a ^^^ b) = a ^^^ (a ^^^ c) := by rw [h]
  rwa [← Nat.xor_assoc, ← Nat.xor_assoc, Nat.xor_self, Nat.zero_xor, Nat.zero_xor] at this
theorem xor_eq_zero {a b : Nat} (h : a ^^^ b = 0) : a = b := xor_left_cancel (a := a) (by rw [Nat.xor_self, h]) |>.symm
theorem xor_xor (a b : Nat) : a ^^^ b ^^^ b = a := by rw [Nat.xor_assoc, Nat.xor_self, Nat.xor_zero]
/-! ### the basis -/
/-- pivot, row, recipe -/
abbrev Bs := List (Nat × Nat × Nat)
def red : Bs → Nat → Nat → Nat × Nat
  | [], n, r => (n, r)
  | x :: b, n, r => if n &&& x.1 ≠ 0 then red b (n ^^^ x.2.1) (r ^^^ x.2.2) else red b n r
def enl (b : Bs) (n r : Nat) : Bs := (low n, n, r) :: b.map fun x => if x.2.1 &&& low n ≠ 0 then (x.1, x.2.1 ^^^ n, x.2.2 ^^^ r) else x
def rws (b : Bs) : List Nat := b.map fun x => x.2.1
def usd (b : Bs) : List Nat := b.map fun x => x.2.2
/-- a pivot is a bit of its own row and of no other one -/
structure Piv (b : Bs) : Prop where
  piv : ∀ x ∈ b, ∃ k, x.1 = 2 ^ k ∧ x.2.1.testBit k = true
  own : b.Pairwise fun x y => y.2.1 &&& x.1 = 0 ∧ x.2.1 &&& y.1 = 0
theorem Piv.tail {x : Nat × Nat × Nat} {b : Bs} (h : Piv (x :: b)) : Piv b := ⟨fun y hy => h.piv y (List.mem_cons_of_mem _ hy), (List.pairwise_cons.mp h.own).2⟩
theorem xor_and_zero {a b p : Nat} (h1 : a &&& p = 0) (h2 : b &&& p = 0) : (a ^^^ b) &&& p = 0 := by rw [Nat.and_xor_distrib_right, h1, h2]; rfl
theorem red_keep {p : Nat} : ∀ {b : Bs} (n r : Nat), (∀ x ∈ b, x.2.1 &&& p = 0) → n &&& p = 0 → (red b n r).1 &&& p = 0
  | [], n, r, _, h => h
  | x :: b, n, r, hb, h => by
    rw [red]
    have hb' : ∀ y ∈ b, y.2.1 &&& p = 0 := fun y hy => hb y (List.mem_cons_of_mem _ hy)
    split
    · exact red_keep _ _ hb' (xor_and_zero h (hb x List.mem_cons_self))
    · exact red_keep _ _ hb' h
theorem red_clear : ∀ {b : Bs} (n r : Nat), Piv b → ∀ x ∈ b, (red b n r).1 &&& x.1 = 0
  | [], _, _, _, x, hx => nomatch hx
  | y :: b, n, r, h, x, hx => by
    obtain ⟨h1, h2⟩ := List.pairwise_cons.mp h.own
    rw [red]
    rcases List.mem_cons.mp hx with rfl | hx
    · have hb : ∀ z ∈ b, z.2.1 &&& x.1 = 0 := fun z hz => (h1 z hz).1
      obtain ⟨k, e, hk⟩ := h.piv x List.mem_cons_self
      split
      · rename_i c
        refine red_keep _ _ hb ?_
        rw [e, and_pow] at c ⊢
        rw [Nat.testBit_xor, hk]
        cases d : n.testBit k with
        | false => rw [d] at c; simp at c
        | true => rfl
      · rename_i c
        exact red_keep _ _ hb (Decidable.not_not.mp c)
    · split
      · exact red_clear _ _ h.tail x hx
      · exact red_clear _ _ h.tail x hx
theorem red_comb : ∀ (b : Bs) (n r : Nat), ∃ u, u < 2 ^ b.length ∧ (red b n r).1 = n ^^^ comb (rws b) u ∧ (red b n r).2 = r ^^^ comb (usd b) u
  | [], n, r => ⟨0, by simp, by simp [red, comb, rws], by simp [red, comb, usd]⟩
  | x :: b, n, r => by
    rw [red]
    split
    · obtain ⟨u, h0, h1, h2⟩ := red_comb b (n ^^^ x.2.1) (r ^^^ x.2.2)
      have e1 : (2 * u + 1) % 2 = 1 := by omega
      have e2 : (2 * u + 1) / 2 = u := by omega
      refine ⟨2 * u + 1, by rw [List.length_cons, Nat.pow_succ]; omega, ?_, ?_⟩
      · rw [h1]
        show _ = n ^^^ comb (x.2.1 :: rws b) (2 * u + 1)
        rw [comb, e1, e2, if_pos rfl, Nat.xor_assoc]
      · rw [h2]
        show _ = r ^^^ comb (x.2.2 :: usd b) (2 * u + 1)
        rw [comb, e1, e2, if_pos rfl, Nat.xor_assoc]
    · obtain ⟨u, h0, h1, h2⟩ := red_comb b n r
      have e1 : ¬ (2 * u) % 2 = 1 := by omega
      have e2 : (2 * u) / 2 = u := by omega
      refine ⟨2 * u, by rw [List.length_cons, Nat.pow_succ]; omega, ?_, ?_⟩
      · rw [h1]
        show _ = n ^^^ comb (x.2.1 :: rws b) (2 * u)
        rw [comb, if_neg e1, e2, Nat.zero_xor]
      · rw [h2]
        show _ = r ^^^ comb (x.2.2 :: usd b) (2 * u)
        rw [comb, if_neg e1, e2, Nat.zero_xor]
/-- the basis of the rows -/
structure BsOk (rows : List Nat) (b : Bs) : Prop extends Piv b where
  rcp : ∀ x ∈ b, x.2.1 = comb rows x.2.2 ∧ x.2.2 < 2 ^ rows.length
  spn : ∀ r ∈ rows, ∃ u, r = comb (rws b) u
theorem comb_comb {rows : List Nat} : ∀ {b : Bs}, (∀ x ∈ b, x.2.1 = comb rows x.2.2) → ∀ u, comb (rws b) u = comb rows (comb (usd b) u)
  | [], _, u => by show 0 = comb rows 0; rw [comb_zero]
  | x :: b, h, u => by
    show comb (x.2.1 :: rws b) u = comb rows (comb (x.2.2 :: usd b) u)
    rw [comb, comb, comb_xor, comb_comb (fun y hy => h y (List.mem_cons_of_mem _ hy))]
    congr 1
    split
    · exact h x List.mem_cons_self
    · rw [comb_zero]
theorem comb_lt {m : Nat} : ∀ {b : List Nat}, (∀ x ∈ b, x < 2 ^ m) → ∀ u, comb b u < 2 ^ m
  | [], _, u => Nat.two_pow_pos m
  | x :: b, h, u => by
    rw [comb]
    refine Nat.xor_lt_two_pow ?_ (comb_lt (fun y hy => h y (List.mem_cons_of_mem _ hy)) _)
    split
    · exact h x List.mem_cons_self
    · exact Nat.two_pow_pos m
theorem comb_more {rows : List Nat} {r u : Nat} (h : u < 2 ^ rows.length) : comb (rows ++ [r]) u = comb rows u := by
  rw [comb_snoc, Nat.testBit_lt_two_pow h]; simp
theorem bs_nil : BsOk [] [] := ⟨⟨(fun x hx => nomatch hx), List.Pairwise.nil⟩, (fun x hx => nomatch hx), (fun x hx => nomatch hx)⟩
/-- what can be made of one row can be made of others -/
theorem comb_of {rows b : List Nat} (h : ∀ r ∈ rows, ∃ u, r = comb b u) : ∀ u, ∃ v, comb rows u = comb b v := by
  induction rows with
  | nil => intro u; exact ⟨0, by rw [comb_zero]; rfl⟩
  | cons r rows ih =>
    intro u
    obtain ⟨v, hv⟩ := ih (fun s hs => h s (List.mem_cons_of_mem _ hs)) (u / 2)
    obtain ⟨w, hw⟩ := h r List.mem_cons_self
    rw [comb, hv]
    split
    · exact ⟨w ^^^ v, by rw [comb_xor, ← hw]⟩
    · exact ⟨v, by rw [Nat.zero_xor]⟩
theorem mem_comb {b : List Nat} {r : Nat} (h : r ∈ b) : ∃ u, r = comb b u := by
  obtain ⟨i, hi⟩ := List.getElem?_of_mem h
  exact ⟨2 ^ i, (comb_pow hi).symm⟩
theorem enl_span {b : Bs} {n r : Nat} : ∀ x ∈ rws b, ∃ u, x = comb (rws (enl b n r)) u := by
  intro y hy
  obtain ⟨x, hx, rfl⟩ := List.mem_map.mp hy
  have mn : n ∈ rws (enl b n r) := List.mem_map.mpr ⟨_, List.mem_cons_self, rfl⟩
  have mx : (if x.2.1 &&& low n ≠ 0 then (x.1, x.2.1 ^^^ n, x.2.2 ^^^ r) else x).2.1 ∈ rws (enl b n r) := List.mem_map.mpr ⟨_, List.mem_cons_of_mem _ (List.mem_map.mpr ⟨x, hx, rfl⟩), rfl⟩
  obtain ⟨u, hu⟩ := mem_comb mn
  obtain ⟨v, hv⟩ := mem_comb mx
  by_cases c : x.2.1 &&& low n ≠ 0
  · rw [if_pos c] at hv
    refine ⟨v ^^^ u, ?_⟩
    rw [comb_xor, ← hv, ← hu, xor_xor]
  · rw [if_neg c] at hv
    exact ⟨v, hv⟩
theorem enl_piv {b : Bs} (P : Piv b) {n r : Nat} (hn : n ≠ 0) (cl : ∀ x ∈ b, n &&& x.1 = 0) : Piv (enl b n r) := by
  obtain ⟨k, h1, _, _, h4⟩ := low_spec n (by omega)
  have other : ∀ x ∈ b, ∀ p, x.2.1 &&& p = 0 → n &&& p = 0 → (if x.2.1 &&& low n ≠ 0 then (x.1, x.2.1 ^^^ n, x.2.2 ^^^ r) else x).2.1 &&& p = 0 := fun x hx p e1 e2 => by
    split
    · exact xor_and_zero e1 e2
    · exact e1
  have one : ∀ x : Nat × Nat × Nat, (if x.2.1 &&& low n ≠ 0 then (x.1, x.2.1 ^^^ n, x.2.2 ^^^ r) else x).1 = x.1 := fun x => by split <;> rfl
  refine ⟨fun y hy => ?_, ?_⟩
  · rcases List.mem_cons.mp hy with rfl | hy
    · exact ⟨k, h4, h1⟩
    · obtain ⟨x, hx, rfl⟩ := List.mem_map.mp hy
      obtain ⟨j, e, hj⟩ := P.piv x hx
      refine ⟨j, by rw [one, e], ?_⟩
      have c := cl x hx
      split
      · rw [Nat.testBit_xor, hj]
        rw [e, and_pow] at c
        cases d : n.testBit j with
        | false => rfl
        | true => rw [d] at c; simp at c
      · exact hj
  · refine List.pairwise_cons.mpr ⟨fun y hy => ?_, ?_⟩
    · obtain ⟨x, hx, rfl⟩ := List.mem_map.mp hy
      refine ⟨?_, by rw [one]; exact cl x hx⟩
      show _ &&& low n = 0
      split
      · rename_i c
        rw [h4, and_pow] at c ⊢
        rw [Nat.testBit_xor, h1]
        cases d : x.2.1.testBit k with
        | false => rw [d] at c; simp at c
        | true => rfl
      · rename_i c; exact Decidable.not_not.mp c
    · refine List.pairwise_map.mpr (List.Pairwise.imp_of_mem (fun {x y} hx hy h => ?_) P.own)
      exact ⟨by rw [one]; exact other y hy _ h.1 (cl x hx), by rw [one]; exact other x hx _ h.2 (cl y hy)⟩
/-- one more row -/
def addRow (rows : List Nat) (b : Bs) (c : Nat) : Bs := let q := red b c (2 ^ rows.length); if q.1 ≠ 0 then enl b q.1 q.2 else b
theorem addRow_ok {rows : List Nat} {b : Bs} (h : BsOk rows b) (c : Nat) : BsOk (rows ++ [c]) (addRow rows b c) := by
  unfold addRow
  obtain ⟨u, _, h1, h2⟩ := red_comb b c (2 ^ rows.length)
  have cl := red_clear c (2 ^ rows.length) h.toPiv
  have cc := comb_comb (rows := rows) (fun x hx => (h.rcp x hx).1) u
  have lt : comb (usd b) u < 2 ^ rows.length := comb_lt (fun y hy => by obtain ⟨x, hx, rfl⟩ := List.mem_map.mp hy; exact (h.rcp x hx).2) u
  dsimp only
  generalize hq : red b c (2 ^ rows.length) = q at h1 h2 cl ⊢
  have old : ∀ x ∈ b, x.2.1 = comb (rows ++ [c]) x.2.2 ∧ x.2.2 < 2 ^ (rows ++ [c]).length := fun x hx => by
    obtain ⟨e1, e2⟩ := h.rcp x hx
    refine ⟨by rw [comb_more e2]; exact e1, Nat.lt_of_lt_of_le e2 (Nat.pow_le_pow_right (by decide) (by simp))⟩
  have new : q.1 = comb (rows ++ [c]) q.2 ∧ q.2 < 2 ^ (rows ++ [c]).length := by
    refine ⟨?_, ?_⟩
    · rw [h1, h2, comb_xor, comb_pow (i := rows.length) (r := c) (by simp), comb_more lt, cc]
    · rw [h2]
      refine Nat.xor_lt_two_pow (Nat.pow_lt_pow_right (by decide) (by simp)) (Nat.lt_of_lt_of_le lt (Nat.pow_le_pow_right (by decide) (by simp)))
  by_cases hz : q.1 ≠ 0
  · rw [if_pos hz]
    refine ⟨enl_piv h.toPiv hz cl, fun y hy => ?_, fun r hr => ?_⟩
    · rcases List.mem_cons.mp hy with rfl | hy
      · exact new
      · obtain ⟨x, hx, rfl⟩ := List.mem_map.mp hy
        obtain ⟨e1, e2⟩ := old x hx
        split
        · refine ⟨?_, Nat.xor_lt_two_pow e2 new.2⟩
          show x.2.1 ^^^ q.1 = comb _ (x.2.2 ^^^ q.2)
          rw [comb_xor, ← e1, ← new.1]
        · exact ⟨e1, e2⟩
    · have sp := comb_of (enl_span (b := b) (n := q.1) (r := q.2))
      rcases List.mem_append.mp hr with hr | hr
      · obtain ⟨v, hv⟩ := h.spn r hr
        obtain ⟨w, hw⟩ := sp v
        exact ⟨w, hv.trans hw⟩
      · have : r = c := by simpa using hr
        subst this
        obtain ⟨w, hw⟩ := sp u
        obtain ⟨z, hz2⟩ := mem_comb (b := rws (enl b q.1 q.2)) (r := q.1) (List.mem_map.mpr ⟨_, List.mem_cons_self, rfl⟩)
        refine ⟨z ^^^ w, ?_⟩
        rw [comb_xor, ← hz2, ← hw, h1, xor_xor]
  · rw [if_neg hz]
    have hz := Decidable.not_not.mp hz
    refine ⟨h.toPiv, old, fun r hr => ?_⟩
    rcases List.mem_append.mp hr with hr | hr
    · exact h.spn r hr
    · have : r = c := by simpa using hr
      subst this
      exact ⟨u, xor_eq_zero (by rw [← h1]; exact hz)⟩
/-- the program's basis -/
def bas : List Nat → List Nat → Bs → Bs
  | _, [], b => b
  | done, c :: cs, b => bas (done ++ [c]) cs (addRow done b c)
theorem bas_ok : ∀ (cs done : List Nat) (b : Bs), BsOk done b → BsOk (done ++ cs) (bas done cs b)
  | [], done, b, h => by rw [List.append_nil]; exact h
  | c :: cs, done, b, h => by
    have := bas_ok cs (done ++ [c]) _ (addRow_ok h c)
    rw [List.append_assoc] at this
    exact this
def basis (rows : List Nat) : Bs := bas [] rows []
theorem basis_ok (rows : List Nat) : BsOk rows (basis rows) := bas_ok rows [] [] bs_nil
/-! ### what cannot be made of the rows is told by a witness -/
/-- a bit that is no pivot, and the pivots of the rows that hold it -/
def wit (b : Bs) (bit : Nat) : Nat := bit + ((b.filter fun x => decide (x.2.1 &&& bit ≠ 0)).map (·.1)).sum
theorem add_pow {n k : Nat} (h : n.testBit k = false) : n + 2 ^ k = n ^^^ 2 ^ k := by
  have e : n ^^^ 2 ^ k = n ||| 2 ^ k := by
    refine Nat.eq_of_testBit_eq fun i => ?_
    rw [Nat.testBit_xor, Nat.testBit_or, Nat.testBit_two_pow]
    by_cases c : k = i
    · subst c; simp [h]
    · simp [c]
  rw [e]
  have d : n &&& 2 ^ k = 0 := by rw [and_pow, h]; rfl
  have h1 : n % 2 ^ k < 2 ^ k := Nat.mod_lt _ (Nat.two_pow_pos k)
  have hs : ∀ (k n : Nat), n.testBit k = false → n + 2 ^ k = n ||| 2 ^ k := by
    intro k
    induction k with
    | zero =>
      intro n h
      rw [Nat.testBit_zero] at h
      have := of_decide_eq_false h
      refine Nat.eq_of_testBit_eq fun i => ?_
      rw [Nat.testBit_or]
      cases i with
      | zero => simp; omega
      | succ i => rw [Nat.testBit_succ, Nat.testBit_succ, show (n + 2 ^ 0) / 2 = n / 2 by simp; omega, Nat.testBit_two_pow]; simp
    | succ k ih =>
      intro n h
      rw [Nat.testBit_succ] at h
      refine Nat.eq_of_testBit_eq fun i => ?_
      have pk : 2 ^ (k + 1) = 2 * 2 ^ k := by rw [Nat.pow_succ]; omega
      rw [Nat.testBit_or]
      cases i with
      | zero => rw [pk]; simp
      | succ i => rw [Nat.testBit_succ, Nat.testBit_succ, Nat.testBit_succ, show (n + 2 ^ (k + 1)) / 2 = n / 2 + 2 ^ k by omega, ih _ h, Nat.testBit_or, pk, Nat.mul_div_cancel_left _ (by decide)]
  exact hs k n h
/-- sums of different powers, as bits -/
theorem sum_pow : ∀ (ks : List Nat) (n : Nat), ks.Nodup → (∀ k ∈ ks, n.testBit k = false) → ∀ i, (n + (ks.map (2 ^ ·)).sum).testBit i = (n.testBit i || decide (i ∈ ks))
  | [], n, _, _, i => by simp
  | k :: ks, n, nd, h, i => by
    obtain ⟨h1, h2⟩ := List.nodup_cons.mp nd
    have e := add_pow (h k List.mem_cons_self)
    have tb : ∀ j, (n + 2 ^ k).testBit j = (n.testBit j ^^ decide (k = j)) := fun j => by rw [e, Nat.testBit_xor, Nat.testBit_two_pow]
    rw [List.map_cons, List.sum_cons, ← Nat.add_assoc, sum_pow ks (n + 2 ^ k) h2 (fun j hj => by
      rw [tb, h j (List.mem_cons_of_mem _ hj)]
      have : k ≠ j := fun z => h1 (z ▸ hj)
      simp [this]) i, tb]
    by_cases c : k = i
    · subst c
      rw [h k List.mem_cons_self]; simp
    · have : ¬ i = k := fun z => c z.symm
      simp [c, this]
theorem and_pow_ne {n k : Nat} : (n &&& 2 ^ k ≠ 0) ↔ n.testBit k = true := by
  rw [and_pow]
  have := Nat.two_pow_pos k
  cases n.testBit k
  · simp
  · simp
theorem wit_spec {b : Bs} (P : Piv b) {k : Nat} (np : ∀ x ∈ b, x.1 ≠ 2 ^ k) :
    (∀ i, (wit b (2 ^ k)).testBit i = (decide (i = k) || b.any fun x => decide (x.1 = 2 ^ i) && x.2.1.testBit k)) ∧ (∀ r ∈ rws b, dot r (wit b (2 ^ k)) = false) ∧ ∀ n, n.testBit k = true → (∀ x ∈ b, n &&& x.1 = 0) → dot n (wit b (2 ^ k)) = true := by
  have inj : ∀ i j : Nat, 2 ^ i = 2 ^ j → i = j := fun i j h => (Nat.pow_right_inj (by decide)).mp h
  -- the pivots as numbers of bits
  have hk : ∃ ks : List Nat, (b.filter fun x => decide (x.2.1 &&& 2 ^ k ≠ 0)).map (·.1) = ks.map (2 ^ ·) ∧ ks.Nodup ∧ ∀ i, i ∈ ks ↔ ∃ x ∈ b, x.1 = 2 ^ i ∧ x.2.1.testBit k = true := by
    clear np
    induction b with
    | nil => exact ⟨[], rfl, .nil, fun i => by simp⟩
    | cons x b ih =>
      obtain ⟨ks, e, nd, m⟩ := ih P.tail
      obtain ⟨j, ej, hj⟩ := P.piv x List.mem_cons_self
      obtain ⟨h1, _⟩ := List.pairwise_cons.mp P.own
      rw [List.filter_cons]
      by_cases c : x.2.1 &&& 2 ^ k ≠ 0
      · rw [if_pos (decide_eq_true c)]
        refine ⟨j :: ks, by rw [List.map_cons, List.map_cons, e, ej], List.nodup_cons.mpr ⟨fun hm => ?_, nd⟩, fun i => ?_⟩
        · obtain ⟨y, hy, ey, _⟩ := (m j).mp hm
          have := (h1 y hy).2
          rw [ey] at this
          exact and_pow_ne.mpr hj this
        · rw [List.mem_cons, m i]
          constructor
          · rintro (rfl | ⟨y, hy, q⟩)
            · exact ⟨x, List.mem_cons_self, ej, and_pow_ne.mp c⟩
            · exact ⟨y, List.mem_cons_of_mem _ hy, q⟩
          · rintro ⟨y, hy, q1, q2⟩
            rcases List.mem_cons.mp hy with rfl | hy
            · exact .inl (inj _ _ (q1.symm.trans ej))
            · exact .inr ⟨y, hy, q1, q2⟩
      · rw [if_neg (by simpa using c)]
        refine ⟨ks, e, nd, fun i => ?_⟩
        rw [m i]
        constructor
        · rintro ⟨y, hy, q⟩; exact ⟨y, List.mem_cons_of_mem _ hy, q⟩
        · rintro ⟨y, hy, q1, q2⟩
          rcases List.mem_cons.mp hy with rfl | hy
          · exact absurd (and_pow_ne.mpr q2) c
          · exact ⟨y, hy, q1, q2⟩
  obtain ⟨ks, e, nd, m⟩ := hk
  have kn : k ∉ ks := fun h => by
    obtain ⟨x, hx, e1, _⟩ := (m k).mp h
    exact np x hx e1
  have bits : ∀ i, (wit b (2 ^ k)).testBit i = (decide (i = k) || decide (i ∈ ks)) := fun i => by
    unfold wit
    rw [e, sum_pow ks (2 ^ k) nd (fun j hj => by rw [Nat.testBit_two_pow]; exact decide_eq_false fun z => kn (z ▸ hj)), Nat.testBit_two_pow]
    congr 1
    exact decide_eq_decide.mpr ⟨Eq.symm, Eq.symm⟩
  -- what holds no bit of the pivots, or one
  have only : ∀ (n : Nat) (s : Nat → Bool), (∀ i, (decide (i = k) || decide (i ∈ ks)) = true → n.testBit i = s i) → n &&& wit b (2 ^ k) = nmf s (List.range (Nat.log2 (n ||| wit b (2 ^ k)) + 1)) &&& wit b (2 ^ k) := by
    intro n s h
    refine Nat.eq_of_testBit_eq fun i => ?_
    rw [Nat.testBit_and, Nat.testBit_and, nmf_bit, bits i]
    cases c : (decide (i = k) || decide (i ∈ ks)) with
    | false => rw [Bool.and_false, Bool.and_false]
    | true =>
      rw [Bool.and_true, Bool.and_true, h i c]
      by_cases l : i < Nat.log2 (n ||| wit b (2 ^ k)) + 1
      · rw [List.getElem?_range l]; rfl
      · exfalso
        have hb : (n ||| wit b (2 ^ k)).testBit i = true := by rw [Nat.testBit_or, bits i, c, Bool.or_true]
        rw [Nat.testBit_lt_two_pow (Nat.lt_of_lt_of_le Nat.lt_log2_self (Nat.pow_le_pow_right (by decide) (by omega)))] at hb
        cases hb
  refine ⟨fun i => ?_, fun r hr => ?_, fun n hn cl => ?_⟩
  · rw [bits i]
    congr 1
    by_cases c : i ∈ ks
    · rw [decide_eq_true c]
      obtain ⟨x, hx, q1, q2⟩ := (m i).mp c
      exact (List.any_eq_true.mpr ⟨x, hx, by rw [q2, Bool.and_true]; exact decide_eq_true q1⟩).symm
    · rw [decide_eq_false c]
      refine (List.any_eq_false.mpr fun x hx z => c ((m i).mpr ⟨x, hx, ?_⟩)).symm
      rw [Bool.and_eq_true_iff] at z
      exact ⟨of_decide_eq_true z.1, z.2⟩
  · obtain ⟨x, hx, rfl⟩ := List.mem_map.mp hr
    obtain ⟨j, ej, hj⟩ := P.piv x hx
    -- of all pivots only its own
    have other : ∀ y ∈ b, ∀ i, y.1 = 2 ^ i → i ≠ j → x.2.1.testBit i = false := fun y hy i ei ne => by
      have : x ≠ y := fun z => ne (inj _ _ (ei.symm.trans ((congrArg (·.1) z.symm).trans ej)))
      have pw : x.2.1 &&& y.1 = 0 := by
        have sym : ∀ {x y : Nat × Nat × Nat}, (y.2.1 &&& x.1 = 0 ∧ x.2.1 &&& y.1 = 0) → (x.2.1 &&& y.1 = 0 ∧ y.2.1 &&& x.1 = 0) := fun h => ⟨h.2, h.1⟩
        exact (List.Pairwise.forall_of_forall_of_flip (R := fun x y => x ≠ y → x.2.1 &&& y.1 = 0) (fun x _ h => absurd rfl h) (P.own.imp fun h _ => h.2) (P.own.imp fun h _ => h.1) hx hy) this
      rw [ei] at pw
      cases d : x.2.1.testBit i with
      | false => rfl
      | true => exact absurd pw (and_pow_ne.mpr d)
    unfold dot
    by_cases c : x.2.1.testBit k = true
    · have e2 : x.2.1 &&& wit b (2 ^ k) = 2 ^ k ^^^ 2 ^ j := by
        refine Nat.eq_of_testBit_eq fun i => ?_
        rw [Nat.testBit_and, bits i, Nat.testBit_xor, Nat.testBit_two_pow, Nat.testBit_two_pow]
        have jk : j ≠ k := fun z => np x hx (by rw [ej, z])
        by_cases c1 : i = k
        · subst c1
          rw [c]; simp [jk]
        · by_cases c2 : i = j
          · subst c2
            have : i ∈ ks := (m i).mpr ⟨x, hx, ej, c⟩
            rw [hj]; simp [this, Ne.symm c1]
          · have n1 : ¬ k = i := fun z => c1 z.symm
            have n2 : ¬ j = i := fun z => c2 z.symm
            by_cases c3 : i ∈ ks
            · obtain ⟨y, hy, q1, _⟩ := (m i).mp c3
              rw [other y hy i q1 c2]; simp [n1, n2]
            · simp [c1, c3, n1, n2]
      rw [e2, par_xor, par_pow, par_pow]; rfl
    · have c : x.2.1.testBit k = false := by cases d : x.2.1.testBit k with | false => rfl | true => exact absurd d c
      have e2 : x.2.1 &&& wit b (2 ^ k) = 0 := by
        refine Nat.eq_of_testBit_eq fun i => ?_
        rw [Nat.testBit_and, bits i, Nat.zero_testBit]
        by_cases c1 : i = k
        · subst c1; rw [c]; rfl
        · by_cases c3 : i ∈ ks
          · obtain ⟨y, hy, q1, q2⟩ := (m i).mp c3
            by_cases c2 : i = j
            · -- then y is x itself
              have : y = x := by
                refine Decidable.byContradiction fun z => ?_
                have pw : x.2.1 &&& y.1 = 0 := (List.Pairwise.forall_of_forall_of_flip (R := fun x y => x ≠ y → x.2.1 &&& y.1 = 0) (fun x _ h => absurd rfl h) (P.own.imp fun h _ => h.2) (P.own.imp fun h _ => h.1) hx hy) (Ne.symm z)
                rw [q1, c2] at pw
                exact and_pow_ne.mpr hj pw
              rw [this, c] at q2; cases q2
            · rw [other y hy i q1 c2]; rfl
          · simp [c1, c3]
      rw [e2, par_zero]
  · unfold dot
    have e2 : n &&& wit b (2 ^ k) = 2 ^ k := by
      refine Nat.eq_of_testBit_eq fun i => ?_
      rw [Nat.testBit_and, bits i, Nat.testBit_two_pow]
      by_cases c1 : i = k
      · subst c1; rw [hn]; simp
      · have n1 : ¬ k = i := fun z => c1 z.symm
        by_cases c3 : i ∈ ks
        · obtain ⟨y, hy, q1, _⟩ := (m i).mp c3
          have := cl y hy
          rw [q1] at this
          have : n.testBit i = false := by
            cases d : n.testBit i with
            | false => rfl
            | true => exact absurd this (and_pow_ne.mpr d)
          rw [this]; simp [n1]
        · simp [c1, c3, n1]
    rw [e2, par_pow]
end CP
/-! The law's own way to sets that every row meets evenly. -/
namespace CP
def evenStep (fnd : List Nat) (row : Nat) : List Nat := fnd.filter (fun b => !dot b row) ++ ((fnd.filter fun b => dot b row).drop 1).map (· ^^^ (fnd.filter fun b => dot b row).headD 0)
def evens (rows : List Nat) (size : Nat) : List Nat := rows.foldl evenStep ((List.range size).map (2 ^ ·))
theorem evenStep_dot {fnd : List Nat} {row w : Nat} (h : w ∈ evenStep fnd row) : dot w row = false := by
  unfold evenStep at h
  rcases List.mem_append.mp h with h | h
  · have := (List.mem_filter.mp h).2
    simpa using this
  · obtain ⟨b, hb, rfl⟩ := List.mem_map.mp h
    have h1 := (List.mem_filter.mp (List.mem_of_mem_drop hb)).2
    cases q : fnd.filter fun b => dot b row with
    | nil => rw [q] at hb; simp at hb
    | cons o os =>
      have h2 : dot o row = true := ((List.mem_filter (p := fun b => dot b row)).mp (by rw [q]; exact List.mem_cons_self)).2
      rw [dot_xor, h1]
      show (true ^^ dot o row) = false
      rw [h2]; rfl
/-- what holds of the sums of two holds of what comes behind -/
theorem evenStep_all {fnd : List Nat} {row : Nat} {p : Nat → Prop} (hx : ∀ a b, p a → p b → p (a ^^^ b)) (h : ∀ w ∈ fnd, p w) : ∀ w ∈ evenStep fnd row, p w := by
  intro w hw
  unfold evenStep at hw
  rcases List.mem_append.mp hw with hw | hw
  · exact h w (List.mem_filter.mp hw).1
  · obtain ⟨b, hb, rfl⟩ := List.mem_map.mp hw
    have h1 := (List.mem_filter.mp (List.mem_of_mem_drop hb)).1
    cases q : fnd.filter fun b => dot b row with
    | nil => rw [q] at hb; simp at hb
    | cons o os =>
      have h2 : o ∈ fnd := ((List.mem_filter (p := fun b => dot b row)).mp (by rw [q]; exact List.mem_cons_self)).1
      exact hx _ _ (h _ h1) (h _ h2)
theorem evens_all {p : Nat → Prop} (hx : ∀ a b, p a → p b → p (a ^^^ b)) : ∀ (rows : List Nat) (fnd : List Nat), (∀ w ∈ fnd, p w) → ∀ w ∈ rows.foldl evenStep fnd, p w
  | [], fnd, h => h
  | r :: rows, fnd, h => evens_all hx rows _ (evenStep_all hx h)
theorem evens_dot : ∀ (rows fnd : List Nat), ∀ w ∈ rows.foldl evenStep fnd, ∀ r ∈ rows, dot w r = false
  | [], fnd, w, hw, r, hr => nomatch hr
  | s :: rows, fnd, w, hw, r, hr => by
    rcases List.mem_cons.mp hr with rfl | hr
    · exact evens_all (p := fun w => dot w r = false) (fun a b h1 h2 => by rw [dot_xor, h1, h2]; rfl) rows _ (fun w hw => evenStep_dot hw) w hw
    · exact evens_dot rows _ w hw r hr
theorem evens_even {rows : List Nat} {size w : Nat} (h : w ∈ evens rows size) : (∀ r ∈ rows, dot w r = false) ∧ w < 2 ^ size := by
  refine ⟨evens_dot rows _ w h, ?_⟩
  refine evens_all (p := fun w => w < 2 ^ size) (fun a b h1 h2 => Nat.xor_lt_two_pow h1 h2) rows _ (fun w hw => ?_) w h
  obtain ⟨i, hi, rfl⟩ := List.mem_map.mp hw
  exact Nat.pow_lt_pow_right (by decide) (List.mem_range.mp hi)
theorem evenStep_len (fnd : List Nat) (row : Nat) : (evenStep fnd row).length ≤ fnd.length := by
  unfold evenStep
  rw [List.length_append, List.length_map, List.length_drop]
  have : fnd.length = (fnd.filter fun b => !dot b row).length + (fnd.filter fun b => dot b row).length := by
    have := List.length_eq_countP_add_countP (p := fun b => dot b row) (l := fnd)
    rw [List.countP_eq_length_filter, List.countP_eq_length_filter] at this
    have e : (fnd.filter fun b => decide ¬ dot b row = true) = fnd.filter fun b => !dot b row := List.filter_congr fun x _ => by cases dot x row <;> rfl
    rw [e] at this; omega
  omega
theorem evens_len (rows : List Nat) : ∀ fnd : List Nat, (rows.foldl evenStep fnd).length ≤ fnd.length := by
  induction rows with
  | nil => intro fnd; exact Nat.le_refl _
  | cons r rows ih => intro fnd; exact Nat.le_trans (ih _) (evenStep_len fnd r)
end CP
/-! The program: what its defs return, told by functions of lists; what they promise. -/
namespace CP
open PySem PySem.Spec PyProof.Rows L2
abbrev Ed2 := Str × Str
abbrev Pr2 := Ed2 × Ed2
abbrev Ca2 := Ed2 × Str
def encE : Enc Ed2 := encP encS encS (fun a => by show PyData.depth (PV.toD (.str a)) ≤ 5; simp [PV.toD, PyData.depth]) (fun a => by show PyData.depth (PV.toD (.str a)) ≤ 5; simp [PV.toD, PyData.depth]) (fun a => by show NestedKey.depth (PV.nk (.str a)) ≤ 3; simp [PV.nk, NestedKey.depth]) (fun a => by show NestedKey.depth (PV.nk (.str a)) ≤ 3; simp [PV.nk, NestedKey.depth])
theorem encE_d (e : Ed2) : (PV.toD (encE.f e)).depth ≤ 5 := by
  show PyData.depth (PV.toD (.tup [.str e.1, .str e.2])) ≤ 5
  simp [PV.toD, PV.toDs, PyData.depth, PyData.depthAll]
theorem encE_k (e : Ed2) : (PV.nk (encE.f e)).depth ≤ 1 := by
  show NestedKey.depth (PV.nk (.tup [.str e.1, .str e.2])) ≤ 1
  simp [PV.nk, PV.nks, NestedKey.depth, NestedKey.depthAll]
def encPr : Enc Pr2 := encP encE encE encE_d encE_d (fun a => Nat.le_trans (encE_k a) (by decide)) (fun a => Nat.le_trans (encE_k a) (by decide))
def encC : Enc Ca2 := encP encE encS encE_d (fun a => by show PyData.depth (PV.toD (.str a)) ≤ 5; simp [PV.toD, PyData.depth]) (fun a => Nat.le_trans (encE_k a) (by decide)) (fun a => by show NestedKey.depth (PV.nk (.str a)) ≤ 3; simp [PV.nk, NestedKey.depth])
def pE (e : Ed2) : PV := .tup [.str e.1, .str e.2]
def pP (p : Pr2) : PV := .tup [pE p.1, pE p.2]
def pC (c : Ca2) : PV := .tup [pE c.1, .str c.2]
theorem encE_f : encE.f = pE := rfl
theorem encPr_f : encPr.f = pP := rfl
theorem encC_f : encC.f = pC := rfl
theorem encS_f : encS.f = PV.str := rfl
def pG (C : Addr) (ns : List Str) (es : List Ed2) : PV := .ins C ["vertices", "edges"] [.tup (ns.map .str), .tup (es.map pE)]
/-! ### graphs -/
def nameB (x : Str) : Bool := decide (1 ≤ x.cps.size ∧ x.cps.size ≤ 8) && x.cps.toList.all fun c => decide (c ∈ v_LETTERS.cps.toList)
structure EdOk2 (ns : List Str) (e : Ed2) : Prop where
  l : e.1 ∈ ns
  r : e.2 ∈ ns
  lt : strLt e.1 e.2 = true
structure VsOk (ns : List Str) : Prop where
  nd : ns.Nodup
  n1 : 1 ≤ ns.length
  n8 : ns.length ≤ 8
  nm : ∀ x ∈ ns, nameB x = true
/-- they make a graph -/
structure GrIn (ns : List Str) (es : List Ed2) : Prop extends VsOk ns where
  end_ : es.Nodup
  e18 : es.length ≤ 18
  ed : ∀ e ∈ es, EdOk2 ns e
/-- .. as a graph has them -/
structure GrOk (ns : List Str) (es : List Ed2) : Prop extends GrIn ns es where
  asc : encE.asc es
def isRow (p : PV) (xs : List PV) : Prop := p = .lst xs ∨ p = .tup xs
def apart (e f : Ed2) : Bool := decide (e.1 ≠ f.1 ∧ e.1 ≠ f.2 ∧ e.2 ≠ f.1 ∧ e.2 ≠ f.2)
def prs : List Ed2 → List Pr2
  | [] => []
  | e :: es => ((es.filter (apart e)).map fun f => (e, f)) ++ prs es
def flips (es : List Ed2) (c : Ca2) : List Pr2 := (es.filter fun o => decide (c.2 = o.1 ∨ c.2 = o.2) && apart c.1 o).map fun o => if encE.lt o c.1 = true then (o, c.1) else (c.1, o)
def everyC (ns : List Str) (es : List Ed2) : List Ca2 := es.flatMap fun e => ((encS.srtd ns).filter fun v => decide (v ≠ e.1 ∧ v ≠ e.2)).map fun v => (e, v)
structure CaOk (ns : List Str) (es : List Ed2) (c : Ca2) : Prop where
  e : c.1 ∈ es
  v : c.2 ∈ ns
  n1 : c.2 ≠ c.1.1
  n2 : c.2 ≠ c.1.2
structure RecOk (es : List Ed2) (r : List Pr2) : Prop where
  nd : r.Nodup
  sub : ∀ p ∈ r, p ∈ prs es
def carR (es : List Ed2) (r : List Pr2) (cs : List Ca2) : List Pr2 := (prs es).filter fun p => cs.foldl (fun b c => b ^^ decide (p ∈ flips es c)) (decide (p ∈ r))
/-- the place on the circle -/
def plc (os : List Str) (v : Str) : Nat := os.idxOf v
def altB (os : List Str) (p : Pr2) : Bool := (fun l h => decide ((l < plc os p.2.1 ∧ plc os p.2.1 < h) ≠ (l < plc os p.2.2 ∧ plc os p.2.2 < h))) (min (plc os p.1.1) (plc os p.1.2)) (max (plc os p.1.1) (plc os p.1.2))
def cvx (es : List Ed2) (os : List Str) : List Pr2 := (prs es).filter (altB os)
/-! ### promises of the graph's defs -/
def g_are_apart (C : Addr) : PG1 := fun ss Q => ∃ e f : Ed2, (encE.ok e = true ∧ encE.ok f = true) ∧ ss = [.val (pE e), .val (pE f)] ∧ Q (.sh (.bl (apart e f))) ss
def g_pairs (C : Addr) : PG1 := fun ss Q => ∃ ns es, GrOk ns es ∧ ss = [.val (pG C ns es)] ∧ Q (.fr (.lst ((prs es).map pP))) ss
def g_is_row (C : Addr) : PG1 := fun ss Q => ∃ p, tyOk p ∧ ss = [.val p] ∧ Q (.sh (.bl (tyN p == "list" || tyN p == "tuple"))) ss
def g_is_couple (C : Addr) : PG1 := fun ss Q => ∃ a b, ss = [.val (.tup [a, b])] ∧ Q (.sh (.bl true)) ss
def g_is_name (C : Addr) : PG1 := fun ss Q => ∃ x, nameB x = true ∧ ss = [.val (.str x)] ∧ Q (.sh (.bl true)) ss
def g_are_vertices (C : Addr) : PG1 := fun ss Q => ∃ v ns, VsOk ns ∧ isRow v (ns.map .str) ∧ ss = [.val v] ∧ Q (.sh (.bl true)) ss
def g_are_edges (C : Addr) : PG1 := fun ss Q => ∃ v w ns es, GrIn ns es ∧ isRow v (ns.map .str) ∧ isRow w (es.map pE) ∧ ss = [.val v, .val w] ∧ Q (.sh (.bl true)) ss
def g_Graph (C : Addr) : PG1 := fun ss Q => ∃ v w ns es, GrIn ns es ∧ isRow v (ns.map .str) ∧ isRow w (es.map pE) ∧ ss = [.io (.ins C [] []), .val v, .val w] ∧ Q (.sh .non) [.io (pG C ns (encE.srtd es)), .val v, .val w]
def g_is_among (C : Addr) : PG1 := fun ss Q => ∃ v ns x, (encS.oks ns = true ∧ encS.ok x = true) ∧ isRow v (ns.map .str) ∧ ss = [.val v, .val (.str x)] ∧ Q (.sh (.bl (decide (x ∈ ns)))) ss
def g_joins (C : Addr) : PG1 := fun ss Q => ∃ v ns e, (encS.oks ns = true ∧ encE.ok e = true) ∧ isRow v (ns.map .str) ∧ ss = [.val v, .val (pE e)] ∧ Q (.sh (.bl (decide (e.1 ∈ ns ∧ e.2 ∈ ns) && strLt e.1 e.2))) ss
def g_is_edge (C : Addr) : PG1 := fun ss Q => ∃ ns es e, GrOk ns es ∧ encE.ok e = true ∧ ss = [.val (pG C ns es), .val (pE e)] ∧ Q (.sh (.bl (decide (e ∈ es)))) ss
def g_is_pair (C : Addr) : PG1 := fun ss Q => ∃ ns es p, GrOk ns es ∧ encPr.ok p = true ∧ ss = [.val (pG C ns es), .val (pP p)] ∧ Q (.sh (.bl (decide (p ∈ prs es)))) ss
def g_check_record (C : Addr) : PG1 := fun ss Q => ∃ ns es v r, GrOk ns es ∧ RecOk es r ∧ isRow v (r.map pP) ∧ ss = [.val (pG C ns es), .val v] ∧ Q (.sh .non) ss
def g_is_carry (C : Addr) : PG1 := fun ss Q => ∃ ns es c, GrOk ns es ∧ CaOk ns es c ∧ ss = [.val (pG C ns es), .val (pC c)] ∧ Q (.sh (.bl true)) ss
def g_every_carry (C : Addr) : PG1 := fun ss Q => ∃ ns es, GrOk ns es ∧ ss = [.val (pG C ns es)] ∧ Q (.fr (.lst ((everyC ns es).map pC))) ss
def g_check_carries (C : Addr) : PG1 := fun ss Q => ∃ ns es v, ∃ cs : List Ca2, GrOk ns es ∧ (∀ c ∈ cs, CaOk ns es c) ∧ cs.length ≤ 100000 ∧ isRow v (cs.map pC) ∧ ss = [.val (pG C ns es), .val v] ∧ Q (.sh .non) ss
def g_is_order (C : Addr) : PG1 := fun ss Q => ∃ ns es v, ∃ os : List Str, GrOk ns es ∧ os.Perm ns ∧ isRow v (os.map .str) ∧ ss = [.val (pG C ns es), .val v] ∧ Q (.sh (.bl true)) ss
def g_flips_of (C : Addr) : PG1 := fun ss Q => ∃ ns es c, GrOk ns es ∧ CaOk ns es c ∧ ss = [.val (pG C ns es), .val (pC c)] ∧ Q (.fr (.lst ((flips es c).map pP))) ss
def g_carried (C : Addr) : PG1 := fun ss Q => ∃ ns es v w r, ∃ cs : List Ca2, GrOk ns es ∧ RecOk es r ∧ (∀ c ∈ cs, CaOk ns es c) ∧ cs.length ≤ 100000 ∧ isRow v (r.map pP) ∧ isRow w (cs.map pC) ∧ ss = [.val (pG C ns es), .val v, .val w] ∧ Q (.fr (.lst ((carR es r cs).map pP))) ss
/-- the places of the vertices -/
def plcD (os : List Str) : List (PV × PV) := os.zipIdx.map fun x => (.str x.1, .int (x.2 : Nat))
def g_alternates (C : Addr) : PG1 := fun ss Q => ∃ (os ns : List Str) (es : List Ed2) (p : Pr2), os.Perm ns ∧ GrOk ns es ∧ p ∈ prs es ∧ ss = [.val (.dic (plcD os)), .val (pP p)] ∧ Q (.sh (.bl (altB os p))) ss
def g_convex (C : Addr) : PG1 := fun ss Q => ∃ ns es v, ∃ os : List Str, GrOk ns es ∧ os.Perm ns ∧ isRow v (os.map .str) ∧ ss = [.val (pG C ns es), .val v] ∧ Q (.fr (.lst ((cvx es os).map pP))) ss
/-! ### witnesses, leading -/
def cpar (r w : List Pr2) : Nat := (r.filter fun p => decide (p ∈ w)).length % 2
def isWit (ns : List Str) (es : List Ed2) (r : List Pr2) : Bool := (everyC ns es).all fun c => decide (cpar r (flips es c) = 0)
def g_common_parity (C : Addr) : PG1 := fun ss Q => ∃ v w r1 r2, (r1.Nodup ∧ r2.Nodup ∧ r1.length < 250 ∧ r2.length < 250) ∧ isRow v (r1.map pP) ∧ isRow w (r2.map pP) ∧ ss = [.val v, .val w] ∧ Q (.sh (.int (cpar r1 r2 : Nat))) ss
def g_is_witness (C : Addr) : PG1 := fun ss Q => ∃ ns es v r, GrOk ns es ∧ RecOk es r ∧ isRow v (r.map pP) ∧ ss = [.val (pG C ns es), .val v] ∧ Q (.sh (.bl (isWit ns es r))) ss
def g_charge (C : Addr) : PG1 := fun ss Q => ∃ ns es v w r wt, GrOk ns es ∧ RecOk es r ∧ RecOk es wt ∧ isWit ns es wt = true ∧ isRow v (r.map pP) ∧ isRow w (wt.map pP) ∧ ss = [.val (pG C ns es), .val v, .val w] ∧ Q (.sh (.int (cpar r wt : Nat))) ss
def bitsD (P : List Pr2) : List (PV × PV) := P.zipIdx.map fun x => (pP x.1, .int ((2 ^ x.2 : Nat) : Int))
def g_bits_of (C : Addr) : PG1 := fun ss Q => ∃ ns es, GrOk ns es ∧ ss = [.val (pG C ns es)] ∧ Q (.fr (.dic (bitsD (prs es)))) ss
def g_number_of (C : Addr) : PG1 := fun ss Q => ∃ (P : List Pr2) (v : PV) (r : List Pr2), (P.Nodup ∧ r.Nodup ∧ (∀ p ∈ r, p ∈ P) ∧ P.length < 250) ∧ isRow v (r.map pP) ∧ ss = [.val (.dic (bitsD P)), .val v] ∧ Q (.sh (.int ((nmf (fun p => decide (p ∈ r)) P : Nat) : Int))) ss
def g_chosen (C : Addr) : PG1 := fun ss Q => ∃ (xs : List PV) (n : Nat), xs.length ≤ 100000 ∧ ss = [.val (.lst xs), .val (.int (n : Int))] ∧ Q (.fr (.lst (ofN n xs))) ss
def encB (b : Bs) : List (PV × PV) := b.map fun x => (.int (x.1 : Nat), .tup [.int (x.2.1 : Nat), .int (x.2.2 : Nat)])
def g_reduced (C : Addr) : PG1 := fun ss Q => ∃ (b : Bs) (n r : Nat), ((b.map (·.1)).Nodup ∧ b.length ≤ 1000) ∧ ss = [.val (.dic (encB b)), .val (.int n), .val (.int r)] ∧ Q (.sh (.tup [.int ((red b n r).1 : Nat), .int ((red b n r).2 : Nat)])) ss
def g_enlarged (C : Addr) : PG1 := fun ss Q => ∃ (b : Bs) (n r : Nat), ((b.map (·.1)).Nodup ∧ low n ∉ b.map (·.1) ∧ 0 < n ∧ b.length ≤ 1000) ∧ ss = [.val (.dic (encB b)), .val (.int n), .val (.int r)] ∧ Q (.fr (.dic (encB (enl b n r)))) ss
def num (es : List Ed2) (r : List Pr2) : Nat := nmf (fun p => decide (p ∈ r)) (prs es)
def rowsOf (ns : List Str) (es : List Ed2) : List Nat := (everyC ns es).map fun c => num es (flips es c)
def basOf (ns : List Str) (es : List Ed2) : Bs := basis (rowsOf ns es)
def g_basis_of (C : Addr) : PG1 := fun ss Q => ∃ ns es, GrOk ns es ∧ ss = [.val (pG C ns es)] ∧ ∀ r, (r = .sh (.dic (encB (basOf ns es))) ∨ r = .fr (.dic (encB (basOf ns es)))) → Q r ss
def g_witness_with (C : Addr) : PG1 := fun ss Q => ∃ (b : Bs) (n : Nat), ((b.map (·.1)).Nodup ∧ b.length ≤ 1000) ∧ ss = [.val (.dic (encB b)), .val (.int n)] ∧ Q (.sh (.int (wit b n : Nat))) ss
/-- the word, the row -/
def lead (ns : List Str) (es : List Ed2) (n : Nat) : Str × List PV := let q := red (basOf ns es) n 0
  if q.1 = 0 then ("carries", (ofN q.2 (everyC ns es)).map pC) else ("witness", (ofN (wit (basOf ns es) (low q.1)) (prs es)).map pP)
def pLead (l : Str × List PV) : PV := .tup [.str l.1, .lst l.2]
def g_leading (C : Addr) : PG1 := fun ss Q => ∃ ns es v w r1 r2, GrOk ns es ∧ RecOk es r1 ∧ RecOk es r2 ∧ isRow v (r1.map pP) ∧ isRow w (r2.map pP) ∧ ss = [.val (pG C ns es), .val v, .val w] ∧ Q (.sh (pLead (lead ns es (num es r1 ^^^ num es r2)))) ss
def g_drawable (C : Addr) : PG1 := fun ss Q => ∃ ns es v r, GrOk ns es ∧ RecOk es r ∧ isRow v (r.map pP) ∧ ss = [.val (pG C ns es), .val v] ∧ Q (.sh (pLead (lead ns es (num es (cvx es ns) ^^^ num es r)))) ss
def g_count (C : Addr) : PG1 := fun ss Q => ∃ ns es, GrOk ns es ∧ ss = [.val (pG C ns es)] ∧ Q (.sh (.int ((2 ^ (basOf ns es).length : Nat) : Int))) ss
end CP
/-! the readings of the defs (by tools/mkq.py) -/
namespace CP
open PySem PySem.Spec PyProof.Rows L2
/-- are_apart(one, other); slots 0 one 1 other -/
def q_are_apart (C : Addr) : QS := (sRet (qAndV (qCmp gNotIn (qIxU (qVar 0) (qC (.int (0)))) (qVar 1)) (qCmp gNotIn (qIxU (qVar 0) (qC (.int (1)))) (qVar 1))))
/-- pairs(graph); slots 0 graph 1 found 2 at 3 one 4 other -/
def q_pairs (C : Addr) : QS := (sSeq (sSet 1 (qLst aNil))
  (sSeq (sFor (iqEnum (aCons (qUn (gFld C "edges") (qVar 0)) aNil)) (gqTup 2 (gqCons (gqName 2) (gqCons (gqName 3) gqNil))) (sFor (iqAny (qSl (qUn (gFld C "edges") (qVar 0)) (oSome (qAdd (qVar 2) (qC (.int (1))))) oNone)) (gqName 4) (sIf (qTb (qCallK (g_are_apart C) (aCons (qVar 3) (aCons (qVar 4) aNil)))) (sExpr (qLm 1 (aCons (qTup (aCons (qVar 3) (aCons (qVar 4) aNil))) aNil) gAppend)) sNil)))
  (sRet (qVar 1))))
/-- is_row(value); slots 0 value -/
def q_is_row (C : Addr) : QS := (sRet (qCB gIsa (bCons (qVar 0) (bCons (qTup (aCons (qC (.ty "list")) (aCons (qC (.ty "tuple")) aNil))) bNil))))
/-- is_couple(value); slots 0 value -/
def q_is_couple (C : Addr) : QS := (sRet (qAndV (qCB gIsa (bCons (qVar 0) (bCons (qC (.ty "tuple")) bNil))) (qCmp gEq (qCB gLenU (bCons (qVar 0) bNil)) (qC (.int (2))))))
/-- is_name(value); slots 0 value 1 letter -/
def q_is_name (C : Addr) : QS := (sSeq (sIf (qOr (qNot (qTb (qCB gIsa (bCons (qVar 0) (bCons (qC (.ty "str")) bNil))))) (qOr (qTst gEq (qCB gLenU (bCons (qVar 0) bNil)) (qC (.int (0)))) (qTst gGt (qCB gLenU (bCons (qVar 0) bNil)) (qC (.int (8)))))) (sRet (qC (.bl false))) sNil)
  (sRet (qCB (gAllB fun ns => ns.all _root_.id) (bCons (qLc (iqAny (qVar 0)) (gqName 1) qYes (qCmp gInQ (qVar 1) (qC (.str v_LETTERS))) [1]) bNil))))
/-- are_vertices(value); slots 0 value 1 name -/
def q_are_vertices (C : Addr) : QS := (sSeq (sIf (qOr (qNot (qTb (qCallK (g_is_row C) (aCons (qVar 0) aNil)))) (qOr (qTst gEq (qCB gLenU (bCons (qVar 0) bNil)) (qC (.int (0)))) (qTst gGt (qCB gLenU (bCons (qVar 0) bNil)) (qC (.int (8)))))) (sRet (qC (.bl false))) sNil)
  (sRet (qAndV (qCB (gAllB fun ns => ns.all _root_.id) (bCons (qLc (iqAny (qVar 0)) (gqName 1) qYes (qCallK (g_is_name C) (aCons (qVar 1) aNil)) [1]) bNil)) (qCmp gEq (qLenSet (qVar 0)) (qCB gLenU (bCons (qVar 0) bNil))))))
/-- are_edges(vertices, value); slots 0 vertices 1 value 2 edge -/
def q_are_edges (C : Addr) : QS := (sSeq (sIf (qOr (qNot (qTb (qCallK (g_is_row C) (aCons (qVar 1) aNil)))) (qTst gGt (qCB gLenU (bCons (qVar 1) bNil)) (qC (.int (18))))) (sRet (qC (.bl false))) sNil)
  (sRet (qAndV (qCB (gAllB fun ns => ns.all _root_.id) (bCons (qLc (iqAny (qVar 1)) (gqName 2) qYes (qCallK (g_joins C) (aCons (qVar 0) (aCons (qVar 2) aNil))) [2]) bNil)) (qCmp gEq (qLenSet (qVar 1)) (qCB gLenU (bCons (qVar 1) bNil))))))
/-- is_among(vertices, value); slots 0 vertices 1 value -/
def q_is_among (C : Addr) : QS := (sRet (qAndV (qCB gIsa (bCons (qVar 1) (bCons (qC (.ty "str")) bNil))) (qCmp gInQ (qVar 1) (qVar 0))))
/-- joins(vertices, value); slots 0 vertices 1 value 2 low 3 high -/
def q_joins (C : Addr) : QS := (sSeq (sIf (qNot (qTb (qCallK (g_is_couple C) (aCons (qVar 1) aNil)))) (sRet (qC (.bl false))) sNil)
  (sSeq (sAsg (qVar 1) (gqTup 2 (gqCons (gqName 2) (gqCons (gqName 3) gqNil))))
  (sRet (qAndV (qCallK (g_is_among C) (aCons (qVar 0) (aCons (qVar 2) aNil))) (qAndV (qCallK (g_is_among C) (aCons (qVar 0) (aCons (qVar 3) aNil))) (qCmp gLt (qVar 2) (qVar 3)))))))
/-- Graph.__init__(self, vertices, edges); slots 0 self 1 vertices 2 edges -/
def q_Graph (C : Addr) : QS := (sSeq (sIf (qNot (qTb (qCallK (g_are_vertices C) (aCons (qVar 1) aNil)))) sNever sNil)
  (sSeq (sIf (qNot (qTb (qCallK (g_are_edges C) (aCons (qVar 1) (aCons (qVar 2) aNil))))) sNever sNil)
  (sSeq (sFldS C 0 "vertices" (qCB gTuple (bCons (qVar 1) bNil)))
  (sFldS C 0 "edges" (qCB gTuple (bCons (qCB gSortedU (bCons (qVar 2) bNil)) bNil))))))
/-- is_edge(graph, value); slots 0 graph 1 value -/
def q_is_edge (C : Addr) : QS := (sRet (qAndV (qCallK (g_joins C) (aCons (qUn (gFld C "vertices") (qVar 0)) (aCons (qVar 1) aNil))) (qCmp gInQ (qVar 1) (qUn (gFld C "edges") (qVar 0)))))
/-- is_pair(graph, value); slots 0 graph 1 value 2 one 3 other -/
def q_is_pair (C : Addr) : QS := (sSeq (sIf (qNot (qTb (qCallK (g_is_couple C) (aCons (qVar 1) aNil)))) (sRet (qC (.bl false))) sNil)
  (sSeq (sAsg (qVar 1) (gqTup 2 (gqCons (gqName 2) (gqCons (gqName 3) gqNil))))
  (sRet (qAndV (qCallK (g_is_edge C) (aCons (qVar 0) (aCons (qVar 2) aNil))) (qAndV (qCallK (g_is_edge C) (aCons (qVar 0) (aCons (qVar 3) aNil))) (qAndV (qCmp gLt (qVar 2) (qVar 3)) (qCallK (g_are_apart C) (aCons (qVar 2) (aCons (qVar 3) aNil)))))))))
/-- check_record(graph, value); slots 0 graph 1 value 2 seen 3 at 4 pair -/
def q_check_record (C : Addr) : QS := (sSeq (sIf (qNot (qTb (qCallK (g_is_row C) (aCons (qVar 1) aNil)))) sNever sNil)
  (sSeq (sSet 2 qSet0)
  (sFor (iqEnum (aCons (qVar 1) aNil)) (gqTup 2 (gqCons (gqName 3) (gqCons (gqName 4) gqNil))) (sSeq (sIf (qOr (qNot (qTb (qCallK (g_is_pair C) (aCons (qVar 0) (aCons (qVar 4) aNil))))) (qTst gInQ (qVar 4) (qVar 2))) sNever sNil)
  (sExpr (qSAdd 2 (aCons (qVar 4) aNil)))))))
/-- is_carry(graph, value); slots 0 graph 1 value 2 edge 3 vertex -/
def q_is_carry (C : Addr) : QS := (sSeq (sIf (qNot (qTb (qCallK (g_is_couple C) (aCons (qVar 1) aNil)))) (sRet (qC (.bl false))) sNil)
  (sSeq (sAsg (qVar 1) (gqTup 2 (gqCons (gqName 2) (gqCons (gqName 3) gqNil))))
  (sRet (qAndV (qCallK (g_is_edge C) (aCons (qVar 0) (aCons (qVar 2) aNil))) (qAndV (qCallK (g_is_among C) (aCons (qUn (gFld C "vertices") (qVar 0)) (aCons (qVar 3) aNil))) (qCmp gNotIn (qVar 3) (qVar 2)))))))
/-- every_carry(graph); slots 0 graph 1 vertices 2 edge 3 vertex -/
def q_every_carry (C : Addr) : QS := (sSeq (sSet 1 (qCB gSortedU (bCons (qUn (gFld C "vertices") (qVar 0)) bNil)))
  (sRet (qLc2 (iqAny (qUn (gFld C "edges") (qVar 0))) (gqName 2) qYes (iqAny (qVar 1)) (gqName 3) (qTst gNotIn (qVar 3) (qVar 2)) (qTup (aCons (qVar 2) (aCons (qVar 3) aNil))) [2, 3] [3])))
/-- check_carries(graph, value); slots 0 graph 1 value 2 at 3 carry -/
def q_check_carries (C : Addr) : QS := (sSeq (sIf (qNot (qTb (qCallK (g_is_row C) (aCons (qVar 1) aNil)))) sNever sNil)
  (sFor (iqEnum (aCons (qVar 1) aNil)) (gqTup 2 (gqCons (gqName 2) (gqCons (gqName 3) gqNil))) (sIf (qNot (qTb (qCallK (g_is_carry C) (aCons (qVar 0) (aCons (qVar 3) aNil))))) sNever sNil)))
/-- flips_of(graph, carry); slots 0 graph 1 carry 2 edge 3 vertex 4 other 5 crossed -/
def q_flips_of (C : Addr) : QS := (sSeq (sAsg (qVar 1) (gqTup 2 (gqCons (gqName 2) (gqCons (gqName 3) gqNil))))
  (sSeq (sSet 5 (qLc (iqAny (qUn (gFld C "edges") (qVar 0))) (gqName 4) (qAnd (qTst gInQ (qVar 3) (qVar 4)) (qTb (qCallK (g_are_apart C) (aCons (qVar 2) (aCons (qVar 4) aNil))))) (qVar 4) [4]))
  (sRet (qLc (iqAny (qVar 5)) (gqName 4) qYes (qIf (qTst gLt (qVar 4) (qVar 2)) (qTup (aCons (qVar 4) (aCons (qVar 2) aNil))) (qTup (aCons (qVar 2) (aCons (qVar 4) aNil)))) [4]))))
/-- carried(graph, record, carries); slots 0 graph 1 record 2 carries 3 pair 4 held 5 carry -/
def q_carried (C : Addr) : QS := (sSeq (sExpr (qCallK (g_check_record C) (aCons (qVar 0) (aCons (qVar 1) aNil))))
  (sSeq (sExpr (qCallK (g_check_carries C) (aCons (qVar 0) (aCons (qVar 2) aNil))))
  (sSeq (sSet 4 (qDc true (iqAny (qCallK (g_pairs C) (aCons (qVar 0) aNil))) (gqName 3) qYes (qVar 3) (qC (.bl false)) [3]))
  (sSeq (sFor (iqAny (qVar 1)) (gqName 3) (sSetU 4 (qC (.bl true)) (qVar 3)))
  (sSeq (sFor (iqAny (qVar 2)) (gqName 5) (sFor (iqAny (qCallK (g_flips_of C) (aCons (qVar 0) (aCons (qVar 5) aNil)))) (gqName 3) (sSetU 4 (qNotV (qIxU (qVar 4) (qVar 3))) (qVar 3))))
  (sRet (qLc (iqAny (qCallK (g_pairs C) (aCons (qVar 0) aNil))) (gqName 3) (qTb (qIxU (qVar 4) (qVar 3))) (qVar 3) [3])))))))
/-- common_parity(one, other); slots 0 one 1 other -/
def q_common_parity (C : Addr) : QS := (sRet (qMod (qLenAnd (qVar 0) (qVar 1)) (qC (.int (2)))))
/-- is_witness(graph, record); slots 0 graph 1 record 2 carry -/
def q_is_witness (C : Addr) : QS := (sSeq (sExpr (qCallK (g_check_record C) (aCons (qVar 0) (aCons (qVar 1) aNil))))
  (sRet (qCB (gAllB fun ns => ns.all _root_.id) (bCons (qLc (iqAny (qCallK (g_every_carry C) (aCons (qVar 0) aNil))) (gqName 2) qYes (qCmp gEq (qCallK (g_common_parity C) (aCons (qVar 1) (aCons (qCallK (g_flips_of C) (aCons (qVar 0) (aCons (qVar 2) aNil))) aNil))) (qC (.int (0)))) [2]) bNil))))
/-- charge(graph, record, witness); slots 0 graph 1 record 2 witness -/
def q_charge (C : Addr) : QS := (sSeq (sExpr (qCallK (g_check_record C) (aCons (qVar 0) (aCons (qVar 1) aNil))))
  (sSeq (sExpr (qCallK (g_check_record C) (aCons (qVar 0) (aCons (qVar 2) aNil))))
  (sSeq (sIf (qNot (qTb (qCallK (g_is_witness C) (aCons (qVar 0) (aCons (qVar 2) aNil))))) sNever sNil)
  (sRet (qCallK (g_common_parity C) (aCons (qVar 1) (aCons (qVar 2) aNil)))))))
/-- bits_of(graph); slots 0 graph 1 at 2 pair -/
def q_bits_of (C : Addr) : QS := (sRet (qDc true (iqEnum (aCons (qCallK (g_pairs C) (aCons (qVar 0) aNil)) aNil)) (gqTup 2 (gqCons (gqName 1) (gqCons (gqName 2) gqNil))) qYes (qVar 2) (qShl (qC (.int (1))) (qVar 1)) [1, 2]))
/-- number_of(bits, record); slots 0 bits 1 record 2 pair -/
def q_number_of (C : Addr) : QS := (sRet (qCB gSum (bCons (qLc (iqAny (qVar 1)) (gqName 2) qYes (qIxU (qVar 0) (qVar 2)) [2]) bNil)))
/-- chosen(values, number); slots 0 values 1 number 2 at 3 value -/
def q_chosen (C : Addr) : QS := (sRet (qLc (iqEnum (aCons (qVar 0) aNil)) (gqTup 2 (gqCons (gqName 2) (gqCons (gqName 3) gqNil))) (qTst gEq (qBand (qShr (qVar 1) (qVar 2)) (qC (.int (1)))) (qC (.int (1)))) (qVar 3) [2, 3]))
/-- reduced(basis, number, recipe); slots 0 basis 1 number 2 recipe 3 pivot 4 row 5 used -/
def q_reduced (C : Addr) : QS := (sSeq (sFor (iqAny (qVar 0)) (gqName 3) (sIf (qTst gNe (qBand (qVar 1) (qVar 3)) (qC (.int (0)))) (sSeq (sAsg (qIxU (qVar 0) (qVar 3)) (gqTup 2 (gqCons (gqName 4) (gqCons (gqName 5) gqNil))))
  (sSeq (sAugI 1 (gAugInt Builtin.bitXor) (qVar 4))
  (sAugI 2 (gAugInt Builtin.bitXor) (qVar 5)))) sNil))
  (sRet (qTup (aCons (qVar 1) (aCons (qVar 2) aNil)))))
/-- enlarged(basis, number, recipe); slots 0 basis 1 number 2 recipe 3 pivot 4 larger 5 known 6 row 7 used -/
def q_enlarged (C : Addr) : QS := (sSeq (sSet 3 (qBand (qVar 1) (qUn gNeg (qVar 1))))
  (sSeq (sSet 4 (qDone (qVar 3) (qTup (aCons (qVar 1) (aCons (qVar 2) aNil)))))
  (sSeq (sFor (iqAny (qVar 0)) (gqName 5) (sSeq (sAsg (qIxU (qVar 0) (qVar 5)) (gqTup 2 (gqCons (gqName 6) (gqCons (gqName 7) gqNil))))
  (sSetU 4 (qIf (qTst gNe (qBand (qVar 6) (qVar 3)) (qC (.int (0)))) (qTup (aCons (qXor (qVar 6) (qVar 1)) (aCons (qXor (qVar 7) (qVar 2)) aNil))) (qTup (aCons (qVar 6) (aCons (qVar 7) aNil)))) (qVar 5))))
  (sRet (qVar 4)))))
/-- basis_of(graph); slots 0 graph 1 bits 2 basis 3 at 4 carry 5 number 6 recipe -/
def q_basis_of (C : Addr) : QS := (sSeq (sSet 1 (qCallK (g_bits_of C) (aCons (qVar 0) aNil)))
  (sSeq (sSet 2 qDnil)
  (sSeq (sFor (iqEnum (aCons (qCallK (g_every_carry C) (aCons (qVar 0) aNil)) aNil)) (gqTup 2 (gqCons (gqName 3) (gqCons (gqName 4) gqNil))) (sSeq (sAsg (qCallK (g_reduced C) (aCons (qFrz (qVar 2)) (aCons (qCallK (g_number_of C) (aCons (qFrz (qVar 1)) (aCons (qCallK (g_flips_of C) (aCons (qVar 0) (aCons (qVar 4) aNil))) aNil))) (aCons (qShl (qC (.int (1))) (qVar 3)) aNil)))) (gqTup 2 (gqCons (gqName 5) (gqCons (gqName 6) gqNil))))
  (sIf (qTst gNe (qVar 5) (qC (.int (0)))) (sSet 2 (qCallK (g_enlarged C) (aCons (qFrz (qVar 2)) (aCons (qVar 5) (aCons (qVar 6) aNil))))) sNil)))
  (sRet (qVar 2)))))
/-- witness_with(basis, bit); slots 0 basis 1 bit 2 pivot -/
def q_witness_with (C : Addr) : QS := (sRet (qAdd (qVar 1) (qCB gSum (bCons (qLc (iqAny (qVar 0)) (gqName 2) (qTst gNe (qBand (qIxU (qIxU (qVar 0) (qVar 2)) (qC (.int (0)))) (qVar 1)) (qC (.int (0)))) (qVar 2) [2]) bNil))))
/-- leading(graph, one, other); slots 0 graph 1 one 2 other 3 bits 4 basis 5 left 6 recipe -/
def q_leading (C : Addr) : QS := (sSeq (sExpr (qCallK (g_check_record C) (aCons (qVar 0) (aCons (qVar 1) aNil))))
  (sSeq (sExpr (qCallK (g_check_record C) (aCons (qVar 0) (aCons (qVar 2) aNil))))
  (sSeq (sSet 3 (qCallK (g_bits_of C) (aCons (qVar 0) aNil)))
  (sSeq (sSet 4 (qCallK (g_basis_of C) (aCons (qVar 0) aNil)))
  (sSeq (sAsg (qCallK (g_reduced C) (aCons (qFrz (qVar 4)) (aCons (qXor (qCallK (g_number_of C) (aCons (qFrz (qVar 3)) (aCons (qVar 1) aNil))) (qCallK (g_number_of C) (aCons (qFrz (qVar 3)) (aCons (qVar 2) aNil)))) (aCons (qC (.int (0))) aNil)))) (gqTup 2 (gqCons (gqName 5) (gqCons (gqName 6) gqNil))))
  (sSeq (sIf (qTst gEq (qVar 5) (qC (.int (0)))) (sRet (qTup (aCons (qC (.str "carries")) (aCons (qCallK (g_chosen C) (aCons (qCallK (g_every_carry C) (aCons (qVar 0) aNil)) (aCons (qVar 6) aNil))) aNil)))) sNil)
  (sRet (qTup (aCons (qC (.str "witness")) (aCons (qCallK (g_chosen C) (aCons (qCallK (g_pairs C) (aCons (qVar 0) aNil)) (aCons (qCallK (g_witness_with C) (aCons (qFrz (qVar 4)) (aCons (qBand (qVar 5) (qUn gNeg (qVar 5))) aNil))) aNil))) aNil))))))))))
/-- is_order(graph, value); slots 0 graph 1 value 2 vertex -/
def q_is_order (C : Addr) : QS := (sSeq (sIf (qOr (qNot (qTb (qCallK (g_is_row C) (aCons (qVar 1) aNil)))) (qTst gNe (qCB gLenU (bCons (qVar 1) bNil)) (qCB gLenU (bCons (qUn (gFld C "vertices") (qVar 0)) bNil)))) (sRet (qC (.bl false))) sNil)
  (sRet (qAndV (qCB (gAllB fun ns => ns.all _root_.id) (bCons (qLc (iqAny (qVar 1)) (gqName 2) qYes (qCallK (g_is_among C) (aCons (qUn (gFld C "vertices") (qVar 0)) (aCons (qVar 2) aNil))) [2]) bNil)) (qCmp gEq (qLenSet (qVar 1)) (qCB gLenU (bCons (qVar 1) bNil))))))
/-- convex(graph, order); slots 0 graph 1 order 2 at 3 vertex 4 places 5 pair -/
def q_convex (C : Addr) : QS := (sSeq (sIf (qNot (qTb (qCallK (g_is_order C) (aCons (qVar 0) (aCons (qVar 1) aNil))))) sNever sNil)
  (sSeq (sSet 4 (qDc false (iqEnum (aCons (qVar 1) aNil)) (gqTup 2 (gqCons (gqName 2) (gqCons (gqName 3) gqNil))) qYes (qVar 3) (qVar 2) [2, 3]))
  (sRet (qLc (iqAny (qCallK (g_pairs C) (aCons (qVar 0) aNil))) (gqName 5) (qTb (qCallK (g_alternates C) (aCons (qFrz (qVar 4)) (aCons (qVar 5) aNil)))) (qVar 5) [5]))))
/-- alternates(places, pair); slots 0 places 1 pair 2 one 3 other 4 low 5 high 6 end 7 inside -/
def q_alternates (C : Addr) : QS := (sSeq (sAsg (qVar 1) (gqTup 2 (gqCons (gqName 2) (gqCons (gqName 3) gqNil))))
  (sSeq (sAsg (qCB gSortedU (bCons (qLst (aCons (qIxU (qVar 0) (qIxU (qVar 2) (qC (.int (0))))) (aCons (qIxU (qVar 0) (qIxU (qVar 2) (qC (.int (1))))) aNil))) bNil)) (gqTup 2 (gqCons (gqName 4) (gqCons (gqName 5) gqNil))))
  (sSeq (sSet 7 (qLc (iqAny (qVar 3)) (gqName 6) (chainQ gLt gLt (qVar 4) (qIxU (qVar 0) (qVar 6)) (qVar 5)) (qVar 6) [6]))
  (sRet (qCmp gEq (qCB gLenU (bCons (qVar 7) bNil)) (qC (.int (1))))))))
/-- drawable(graph, record); slots 0 graph 1 record -/
def q_drawable (C : Addr) : QS := (sRet (qCallK (g_leading C) (aCons (qVar 0) (aCons (qCallK (g_convex C) (aCons (qVar 0) (aCons (qUn (gFld C "vertices") (qVar 0)) aNil))) (aCons (qVar 1) aNil)))))
/-- count(graph); slots 0 graph -/
def q_count (C : Addr) : QS := (sRet (qShl (qC (.int (1))) (qCB gLenU (bCons (qCallK (g_basis_of C) (aCons (qVar 0) aNil)) bNil))))
end CP
/-! Comprehensions and loops over mapped lists; items as data. -/
namespace CP
open PySem PySem.Spec PyProof.Rows L2
section
variable {α : Type}
/-- a comprehension that leaves its surroundings as they are -/
theorem runC_of {g : QG} {t : QT} {q : QE} {vs : List Nat} {k : List PV → PEnv → Prop} {e : PEnv} (enc : α → PV) (sel : α → Bool) (out : α → PV) : ∀ (xs : List α) (acc : List PV),
    (∀ x ∈ xs, ∀ (R : PV → PEnv → Prop) (R0 : PEnv → Prop), (sel x = true → R (out x) e) → (sel x = false → R0 e) → g (enc x) e fun e1 => t e1 fun b e2 => if b = true then q e2 fun r e3 => keep r e3 fun y e4 => R y (wipeE e4 vs) else R0 (wipeE e2 vs)) →
    k (acc ++ (xs.filter sel).map out) e → runC g t q vs (xs.map enc) acc e k
  | [], acc, _, h => by show k acc e; simpa using h
  | x :: xs, acc, st, h => by
    refine st x List.mem_cons_self (fun y e' => runC g t q vs (xs.map enc) (acc ++ [y]) e' k) (fun e' => runC g t q vs (xs.map enc) acc e' k) (fun s => ?_) fun s => ?_
    · refine runC_of enc sel out xs _ (fun y hy => st y (List.mem_cons_of_mem _ hy)) ?_
      rw [List.filter_cons, if_pos s, List.map_cons] at h
      rw [List.append_assoc]; exact h
    · refine runC_of enc sel out xs _ (fun y hy => st y (List.mem_cons_of_mem _ hy)) ?_
      rw [List.filter_cons, if_neg (by rw [s]; decide)] at h
      exact h
theorem runC_all {g : QG} {t : QT} {q : QE} {vs : List Nat} {k : List PV → PEnv → Prop} {e : PEnv} (enc : α → PV) (out : α → PV) (xs : List α)
    (st : ∀ x ∈ xs, ∀ (R : PV → PEnv → Prop) (R0 : PEnv → Prop), R (out x) e → g (enc x) e fun e1 => t e1 fun b e2 => if b = true then q e2 fun r e3 => keep r e3 fun y e4 => R y (wipeE e4 vs) else R0 (wipeE e2 vs))
    (h : k (xs.map out) e) : runC g t q vs (xs.map enc) [] e k :=
  runC_of enc (fun _ => true) out xs [] (fun x hx R R0 h1 _ => st x hx R R0 (h1 rfl)) (by rw [List.nil_append, List.filter_eq_self.mpr fun _ _ => rfl]; exact h)
theorem runC_sel {g : QG} {t : QT} {q : QE} {vs : List Nat} {k : List PV → PEnv → Prop} {e : PEnv} (enc : α → PV) (sel : α → Bool) (out : α → PV) (xs : List α)
    (st : ∀ x ∈ xs, ∀ (R : PV → PEnv → Prop) (R0 : PEnv → Prop), (sel x = true → R (out x) e) → (sel x = false → R0 e) → g (enc x) e fun e1 => t e1 fun b e2 => if b = true then q e2 fun r e3 => keep r e3 fun y e4 => R y (wipeE e4 vs) else R0 (wipeE e2 vs))
    (h : k ((xs.filter sel).map out) e) : runC g t q vs (xs.map enc) [] e k := runC_of enc sel out xs [] st (by rw [List.nil_append]; exact h)
/-- .. that changes its surroundings -/
theorem runC_rec {g : QG} {t : QT} {q : QE} {vs : List Nat} {k : List PV → PEnv → Prop} (enc : α → PV) (I : List α → List PV → PEnv → Prop) : ∀ (xs : List α) (acc : List PV) (e : PEnv), I xs acc e →
    (∀ x xs acc e (R : PV → PEnv → Prop) (R0 : PEnv → Prop), I (x :: xs) acc e → (∀ y e', I xs (acc ++ [y]) e' → R y e') → (∀ e', I xs acc e' → R0 e') → g (enc x) e fun e1 => t e1 fun b e2 => if b = true then q e2 fun r e3 => keep r e3 fun y e4 => R y (wipeE e4 vs) else R0 (wipeE e2 vs)) →
    (∀ acc e, I [] acc e → k acc e) → runC g t q vs (xs.map enc) acc e k
  | [], acc, e, i, _, h => h acc e i
  | x :: xs, acc, e, i, st, h => st x xs acc e (fun y e' => runC g t q vs (xs.map enc) (acc ++ [y]) e' k) (fun e' => runC g t q vs (xs.map enc) acc e' k) i (fun y e' i' => runC_rec enc I xs _ e' i' st h) fun e' i' => runC_rec enc I xs _ e' i' st h
/-- a clause within another -/
theorem runB_of {g : QG} {t : QT} {q : QE} {vs : List Nat} {k : List PV → PEnv → Prop} {e : PEnv} (enc : α → PV) (sel : α → Bool) (out : α → PV) : ∀ (xs : List α) (acc : List PV), acc.length + xs.length ≤ SZ →
    (∀ x ∈ xs, ∀ (R : PV → PEnv → Prop) (R0 : PEnv → Prop), (sel x = true → R (out x) e) → (sel x = false → R0 e) → g (enc x) e fun e1 => t e1 fun b e2 => if b = true then q e2 fun r e3 => keep r e3 fun y e4 => R y (wipeE e4 vs) else R0 (wipeE e2 vs)) →
    k (acc ++ (xs.filter sel).map out) e → runB g t q vs (xs.map enc) acc e k
  | [], acc, _, _, h => by show k acc e; simpa using h
  | x :: xs, acc, few, st, h => by
    rw [List.length_cons] at few
    refine st x List.mem_cons_self (fun y e' => acc.length < SZ ∧ runB g t q vs (xs.map enc) (acc ++ [y]) e' k) (fun e' => runB g t q vs (xs.map enc) acc e' k) (fun s => ⟨by omega, ?_⟩) fun s => ?_
    · refine runB_of enc sel out xs _ (by rw [List.length_append, List.length_singleton]; omega) (fun y hy => st y (List.mem_cons_of_mem _ hy)) ?_
      rw [List.filter_cons, if_pos s, List.map_cons] at h
      rw [List.append_assoc]; exact h
    · refine runB_of enc sel out xs _ (by omega) (fun y hy => st y (List.mem_cons_of_mem _ hy)) ?_
      rw [List.filter_cons, if_neg (by rw [s]; decide)] at h
      exact h
theorem run2_rec {g g1 : QG} {t t1 : QT} {i1 : QI} {q : QE} {vs vs1 : List Nat} {k : List PV → PEnv → Prop} (enc : α → PV) (I : List α → List PV → PEnv → Prop) : ∀ (xs : List α) (acc : List PV) (e : PEnv), I xs acc e →
    (∀ x xs acc e (R : List PV → PEnv → Prop), I (x :: xs) acc e → (∀ acc' e', I xs acc' e' → R acc' e') → g (enc x) e fun e1 => t e1 fun b e2 => if b = true then i1 e2 fun items1 e3 => runB g1 t1 q vs1 items1 acc (wipeE e3 vs1) fun acc' e4 => R acc' (wipeE e4 vs) else R acc (wipeE e2 vs)) →
    (∀ acc e, I [] acc e → k acc e) → run2 g t i1 g1 t1 q vs vs1 (xs.map enc) acc e k
  | [], acc, e, i, _, h => h acc e i
  | x :: xs, acc, e, i, st, h => st x xs acc e (fun acc' e' => run2 g t i1 g1 t1 q vs vs1 (xs.map enc) acc' e' k) i fun acc' e' i' => run2_rec enc I xs acc' e' i' st h
/-- a loop that runs to its end -/
theorem runF_of {σ : Type} {g : QG} {b : QS} {E : PEnds} (enc : α → PV) (I : σ → PEnv → Prop) (next : σ → α → σ) : ∀ (xs : List α) (s : σ) (e : PEnv), I s e →
    (∀ x ∈ xs, ∀ s e (R : PEnv → Prop), I s e → (∀ e', I (next s x) e' → R e') → g (enc x) e fun e1 => b { E with nx := R, ct := R, bk := E.nx } e1) → (∀ e', I (xs.foldl next s) e' → E.nx e') → runF g b E (xs.map enc) e
  | [], s, e, i, _, h => h e i
  | x :: xs, s, e, i, st, h => st x List.mem_cons_self s e (runF g b E (xs.map enc)) i fun e' i' => runF_of enc I next xs (next s x) e' i' (fun y hy => st y (List.mem_cons_of_mem _ hy)) h
/-- .. whose word tells what is done and what is left -/
theorem runF_at {g : QG} {b : QS} {E : PEnds} (enc : α → PV) (I : List α → PEnv → Prop) : ∀ (xs ys : List α) (e : PEnv), I ys e →
    (∀ x zs e (R : PEnv → Prop), x ∈ xs → I zs e → (∀ e', I (zs ++ [x]) e' → R e') → g (enc x) e fun e1 => b { E with nx := R, ct := R, bk := E.nx } e1) → (∀ e', I (ys ++ xs) e' → E.nx e') → runF g b E (xs.map enc) e
  | [], ys, e, i, _, h => h e (by simpa using i)
  | x :: xs, ys, e, i, st, h => st x ys e (runF g b E (xs.map enc)) List.mem_cons_self i fun e' i' => runF_at enc I xs (ys ++ [x]) e' i' (fun y zs e R hy => st y zs e R (List.mem_cons_of_mem _ hy)) (by simpa using h)
theorem blsOf_mapf (f : α → Bool) (xs : List α) : blsOf (xs.map fun x => PV.bl (f x)) = some (xs.map f) := by
  have := blsOf_map (xs.map f)
  rw [List.map_map] at this; exact this
theorem intsOf_mapf (f : α → Int) (xs : List α) : intsOf (xs.map fun x => PV.int (f x)) = some (xs.map f) := by
  have := intsOf_map (xs.map f)
  rw [List.map_map] at this; exact this
end
theorem free_go {e : PEnv} {i : Nat} {k : Prop} (h : slF e[i]? = true) (q : k) : freeS e i k := by unfold freeS; rw [h]; exact q
/-- .. with what comes behind told for each end -/
theorem runF_rec {α : Type} {g : QG} {b : QS} {E : PEnds} (enc : α → PV) (I : List α → PEnv → Prop) : ∀ (xs : List α) (e : PEnv), I xs e →
    (∀ x xs e (R : PEnv → Prop), I (x :: xs) e → (∀ e', I xs e' → R e') → g (enc x) e fun e1 => b { E with nx := R, ct := R, bk := E.nx } e1) → (∀ e', I [] e' → E.nx e') → runF g b E (xs.map enc) e
  | [], e, i, _, h => h e i
  | x :: xs, e, i, st, h => st x xs e (runF g b E (xs.map enc)) i fun e' i' => runF_rec enc I xs e' i' st h
theorem numbered_map {α : Type} (f : α → PV) (xs : List α) : numbered (xs.map f) = xs.zipIdx.map fun x => .tup [.int (x.2 : Nat), f x.1] := by
  refine List.ext_getElem? fun i => ?_
  rw [numbered_get]
  simp only [List.getElem?_map, List.getElem?_zipIdx, Nat.zero_add]
  cases xs[i]? <;> rfl
theorem cut_drop {α : Type} (f : α → PV) (xs : List α) (n : Nat) (h : n ≤ xs.length) : cutP (xs.map f) (some (n : Int)) none = (xs.drop n).map f := by
  unfold cutP
  have e1 : HT.sIx (xs.map f).length 0 (some (n : Int)) = n := by
    rw [HT.sIx_nat, List.length_map]; omega
  have e2 : HT.sIx (xs.map f).length (xs.map f).length none = (xs.map f).length := by unfold HT.sIx; rfl
  rw [e1, e2, ← List.map_drop, List.take_of_length_le (by simp)]
theorem cut_take {α : Type} (f : α → PV) (xs : List α) (n : Nat) : cutP (xs.map f) none (some (n : Int)) = (xs.take n).map f := by
  unfold cutP
  have e1 : HT.sIx (xs.map f).length 0 none = 0 := by unfold HT.sIx; rfl
  have e2 : HT.sIx (xs.map f).length (xs.map f).length (some (n : Int)) = min n xs.length := by
    rw [HT.sIx_nat, List.length_map]
  rw [e1, e2, List.drop_zero, Nat.sub_zero, ← List.map_take]
  congr 1
  rw [List.take_eq_take_iff]; omega
theorem foldl_sel {α β : Type} (p : α → Bool) (f : α → β) : ∀ (xs : List α) (acc : List β), xs.foldl (fun acc y => if p y = true then acc ++ [f y] else acc) acc = acc ++ (xs.filter p).map f
  | [], acc => by simp
  | x :: xs, acc => by
    rw [List.foldl_cons, foldl_sel p f xs, List.filter_cons]
    cases p x <;> simp
/-! ### items as data -/
theorem has2 (a b x : Str) : hasP [.str a, .str b] (.str x) = decide (x = a ∨ x = b) := by
  have := encS.has [a, b] x
  have e : decide (x ∈ [a, b]) = decide (x = a ∨ x = b) := decide_eq_decide.mpr (by simp)
  rw [e] at this; exact this
theorem hasS (xs : List Str) (x : Str) : hasP (xs.map .str) (.str x) = decide (x ∈ xs) := (encS.has xs x).trans (decide_eq_decide.mpr Iff.rfl)
theorem hasE (xs : List Ed2) (x : Ed2) : hasP (xs.map pE) (pE x) = decide (x ∈ xs) := (encE.has xs x).trans (decide_eq_decide.mpr Iff.rfl)
theorem hasPr (xs : List Pr2) (x : Pr2) : hasP (xs.map pP) (pP x) = decide (x ∈ xs) := (encPr.has xs x).trans (decide_eq_decide.mpr Iff.rfl)
theorem shpS {x : Str} (h : encS.ok x = true) : Shp (.str x) := encS.shp h
theorem shpSs {xs : List Str} (h : encS.oks xs = true) : Shp (.tup (xs.map .str)) := encS.shpT h
theorem shpSl {xs : List Str} (h : encS.oks xs = true) : Shp (.lst (xs.map .str)) := encS.shpL h
theorem okE {e : Ed2} (h : encE.ok e = true) : encS.ok e.1 = true ∧ encS.ok e.2 = true := Bool.and_eq_true_iff.mp h
theorem okP {p : Pr2} (h : encPr.ok p = true) : encE.ok p.1 = true ∧ encE.ok p.2 = true := Bool.and_eq_true_iff.mp h
theorem okC {p : Ca2} (h : encC.ok p = true) : encE.ok p.1 = true ∧ encS.ok p.2 = true := Bool.and_eq_true_iff.mp h
theorem shpE {e : Ed2} (h : encE.ok e = true) : Shp (pE e) := encE.shp h
theorem shpP {p : Pr2} (h : encPr.ok p = true) : Shp (pP p) := encPr.shp h
theorem shpEs {xs : List Ed2} (h : encE.oks xs = true) : Shp (.tup (xs.map pE)) := encE.shpT h
theorem shpPs {xs : List Pr2} (h : encPr.oks xs = true) : Shp (.lst (xs.map pP)) := encPr.shpL h
theorem isa_str (x : Str) : isaB (tyN (.str x)) "str" = true := by show isaB "str" "str" = true; decide +kernel
theorem isa_tup (xs : List PV) : isaB (tyN (.tup xs)) "tuple" = true := by show isaB "tuple" "tuple" = true; decide +kernel
theorem isa_lst_tup (xs : List PV) : isaB (tyN (.lst xs)) "tuple" = false := by show isaB "list" "tuple" = false; decide +kernel
theorem isa_lst (xs : List PV) : isaB (tyN (.lst xs)) "list" = true := by show isaB "list" "list" = true; decide +kernel
theorem isa_tup_lst (xs : List PV) : isaB (tyN (.tup xs)) "list" = false := by show isaB "tuple" "list" = false; decide +kernel
/-! ### names -/
theorem lettersOk : ∀ c ∈ v_LETTERS.cps.toList, c < 0x110000 := by decide +kernel
theorem name_ok {x : Str} (h : nameB x = true) : encS.ok x = true := by
  unfold nameB at h
  rw [Bool.and_eq_true_iff] at h
  show PyData.strOk x = true
  unfold PyData.strOk
  rw [← Array.all_toList]
  refine List.all_eq_true.mpr fun c hc => decide_eq_true ?_
  exact lettersOk c (of_decide_eq_true (List.all_eq_true.mp h.2 c hc))
theorem name_len {x : Str} (h : nameB x = true) : 1 ≤ x.length ∧ x.length ≤ 8 := by
  unfold nameB at h
  rw [Bool.and_eq_true_iff] at h
  exact of_decide_eq_true h.1
section
variable {ns : List Str} {es : List Ed2}
theorem VsOk.oks (h : VsOk ns) : encS.oks ns = true := List.all_eq_true.mpr fun x hx => name_ok (h.nm x hx)
theorem VsOk.ok (h : VsOk ns) {x : Str} (hx : x ∈ ns) : encS.ok x = true := name_ok (h.nm x hx)
theorem GrIn.okE (h : GrIn ns es) {e : Ed2} (he : e ∈ es) : encE.ok e = true := Bool.and_eq_true_iff.mpr ⟨h.toVsOk.ok (h.ed e he).l, h.toVsOk.ok (h.ed e he).r⟩
theorem GrIn.oks (h : GrIn ns es) : encE.oks es = true := List.all_eq_true.mpr fun e he => h.okE he
theorem mem_prs : ∀ {es : List Ed2} {p : Pr2}, p ∈ prs es → p.1 ∈ es ∧ p.2 ∈ es ∧ apart p.1 p.2 = true
  | [], p, h => by cases h
  | e :: es, p, h => by
    rcases List.mem_append.mp h with h | h
    · obtain ⟨f, hf, rfl⟩ := List.mem_map.mp h
      obtain ⟨h1, h2⟩ := List.mem_filter.mp hf
      exact ⟨List.mem_cons_self, List.mem_cons_of_mem _ h1, h2⟩
    · obtain ⟨h1, h2, h3⟩ := mem_prs h
      exact ⟨List.mem_cons_of_mem _ h1, List.mem_cons_of_mem _ h2, h3⟩
theorem GrIn.okP (h : GrIn ns es) {p : Pr2} (hp : p ∈ prs es) : encPr.ok p = true := let ⟨h1, h2, _⟩ := mem_prs hp; Bool.and_eq_true_iff.mpr ⟨h.okE h1, h.okE h2⟩
theorem prs_len : ∀ es : List Ed2, (prs es).length * 2 + es.length ≤ es.length * es.length
  | [] => by simp [prs]
  | e :: es => by
    have h1 := prs_len es
    have h2 := List.length_filter_le (apart e) es
    simp only [prs, List.length_append, List.length_map, List.length_cons]
    have : (es.length + 1) * (es.length + 1) = es.length * es.length + es.length + es.length + 1 := by rw [Nat.add_mul, Nat.mul_add]; omega
    omega
theorem GrIn.prs_few (h : GrIn ns es) : (prs es).length ≤ 153 := by
  have h1 := prs_len es
  have h2 := h.e18
  have h3 : es.length * es.length + 18 * es.length ≤ 18 * 18 + es.length * es.length := by omega
  have h4 : es.length * es.length ≤ 18 * es.length := Nat.mul_le_mul_right _ h2
  omega
theorem nodup_le {α : Type} [DecidableEq α] : ∀ {r P : List α}, r.Nodup → (∀ p ∈ r, p ∈ P) → r.length ≤ P.length
  | [], _, _, _ => Nat.zero_le _
  | x :: r, P, nd, h => by
    obtain ⟨h1, h2⟩ := List.nodup_cons.mp nd
    have hx := h x List.mem_cons_self
    have := nodup_le (P := P.erase x) h2 fun p hp => (List.mem_erase_of_ne fun z : p = x => h1 (z ▸ hp)).mpr (h p (List.mem_cons_of_mem _ hp))
    rw [List.length_erase_of_mem hx] at this
    have := List.length_pos_of_mem hx
    rw [List.length_cons]; omega
theorem RecOk.few {r : List Pr2} (hr : RecOk es r) (h : GrIn ns es) : r.length ≤ 153 := Nat.le_trans (nodup_le hr.nd hr.sub) h.prs_few
theorem lt_ne {e f : Ed2} (h : encE.lt e f = true) : e ≠ f := fun z => by rw [z, encE.irr] at h; cases h
/-- the pairs: of two edges apart, the smaller one first -/
theorem prs_iff : ∀ {es : List Ed2}, encE.asc es → ∀ {p : Pr2}, p ∈ prs es ↔ p.1 ∈ es ∧ p.2 ∈ es ∧ encE.lt p.1 p.2 = true ∧ apart p.1 p.2 = true
  | [], _, p => by simp [prs]
  | e :: es, h, p => by
    obtain ⟨h1, h2⟩ := List.pairwise_cons.mp h
    have ih := prs_iff (es := es) h2 (p := p)
    constructor
    · intro hp
      rcases List.mem_append.mp hp with hp | hp
      · obtain ⟨f, hf, rfl⟩ := List.mem_map.mp hp
        obtain ⟨a, b⟩ := List.mem_filter.mp hf
        exact ⟨List.mem_cons_self, List.mem_cons_of_mem _ a, h1 f a, b⟩
      · obtain ⟨a, b, c, d⟩ := ih.mp hp
        exact ⟨List.mem_cons_of_mem _ a, List.mem_cons_of_mem _ b, c, d⟩
    · rintro ⟨a, b, c, d⟩
      rcases List.mem_cons.mp a with a | a
      · rcases List.mem_cons.mp b with b | b
        · rw [a, b, encE.irr] at c; cases c
        · refine List.mem_append.mpr (.inl (List.mem_map.mpr ⟨p.2, List.mem_filter.mpr ⟨b, by rw [← a]; exact d⟩, ?_⟩))
          rw [← a]
      · rcases List.mem_cons.mp b with b | b
        · have := h1 p.1 a
          rw [b, encE.asymm this] at c; cases c
        · exact List.mem_append.mpr (.inr (ih.mpr ⟨a, b, c, d⟩))
theorem prs_asc : ∀ {es : List Ed2}, encE.asc es → encPr.asc (prs es)
  | [], _ => List.Pairwise.nil
  | e :: es, h => by
    obtain ⟨h1, h2⟩ := List.pairwise_cons.mp h
    refine List.pairwise_append.mpr ⟨?_, prs_asc h2, fun a ha b hb => ?_⟩
    · refine List.pairwise_map.mpr ((List.Pairwise.filter _ h2).imp fun {x y} hxy => ?_)
      show lexLt encE encE (e, x) (e, y) = true
      unfold lexLt
      rw [if_pos rfl]; exact hxy
    · obtain ⟨f, hf, rfl⟩ := List.mem_map.mp ha
      have := (mem_prs hb).1
      show lexLt encE encE (e, f) b = true
      unfold lexLt
      have lt := h1 b.1 this
      rw [if_neg (fun z : e = b.1 => lt_ne lt z)]; exact lt
theorem prs_nd {es : List Ed2} (h : encE.asc es) : (prs es).Nodup := encPr.asc_nd (prs_asc h)
end
/-! ### dicts -/
theorem dec_yes {p : Prop} {i : Decidable p} (h : p) {A : ¬ p → Prop} {B : p → Prop} (q : B h) : @Decidable.rec p (fun _ => Prop) A B i := by
  cases i with
  | isTrue h2 => exact q
  | isFalse h2 => exact absurd h h2
theorem dec_no {p : Prop} {i : Decidable p} (h : ¬ p) {A : ¬ p → Prop} {B : p → Prop} (q : A h) : @Decidable.rec p (fun _ => Prop) A B i := by
  cases i with
  | isTrue h2 => exact absurd h2 h
  | isFalse h2 => exact q
section
variable {α : Type} [DecidableEq α] (A : Enc α)
theorem nk_eq {a b : α} : (PV.nk (A.f a) = PV.nk (A.f b)) ↔ a = b := ⟨A.kinj a b, fun h => by rw [h]⟩
/-- P's elements, each with a value -/
def fd (P : List α) (b : α → PV) : List (PV × PV) := P.map fun p => (A.f p, b p)
theorem pget_fd {P : List α} {b : α → PV} {p : α} (h : p ∈ P) : pget (fd A P b) (A.f p) = some (b p) := by
  induction P with
  | nil => cases h
  | cons q P ih =>
    unfold fd at ih ⊢
    rw [List.map_cons, pget_cons]
    by_cases c : q = p
    · subst c; rw [if_pos rfl]
    · rw [if_neg (fun z => c ((nk_eq A).mp z))]
      exact ih ((List.mem_cons.mp h).resolve_left fun z => c z.symm)
theorem pput_fd {P : List α} {b : α → PV} {p : α} (h : p ∈ P) (x : PV) : pput (fd A P b) (A.f p) x = fd A P fun q => if q = p then x else b q := by
  unfold pput
  rw [pget_fd A h]
  show List.map _ (fd A P b) = _
  unfold fd
  rw [List.map_map]
  refine List.map_congr_left fun q _ => ?_
  show (if PV.nk (A.f q) = PV.nk (A.f p) then _ else _) = (A.f q, if q = p then x else b q)
  by_cases c : q = p
  · subst c; rw [if_pos rfl, if_pos rfl]
  · rw [if_neg (fun z => c ((nk_eq A).mp z)), if_neg c]
theorem pget_zip {P : List α} {g : Nat → PV} {p : α} (h : p ∈ P) : ∀ k, pget ((P.zipIdx k).map fun x => (A.f x.1, g x.2)) (A.f p) = some (g (k + P.idxOf p)) := by
  induction P with
  | nil => cases h
  | cons q P ih =>
    intro k
    rw [List.zipIdx_cons, List.map_cons, pget_cons]
    by_cases c : q = p
    · subst c; rw [if_pos rfl, List.idxOf_cons_self]; rfl
    · have hp : p ∈ P := (List.mem_cons.mp h).resolve_left fun z => c z.symm
      rw [if_neg (fun z => c ((nk_eq A).mp z)), ih hp (k + 1), List.idxOf_cons, show (q == p) = false by simpa using c]
      simp only [cond_false]
      congr 2; omega
theorem pput_new {acc : List (PV × PV)} {k x : PV} (h : pget acc k = none) : pput acc k x = acc ++ [(k, x)] := by
  unfold pput; rw [h]; rfl
theorem pget_none {acc : List (PV × PV)} {k : PV} (h : ∀ p ∈ acc, PV.nk p.1 ≠ PV.nk k) : pget acc k = none := by
  induction acc with
  | nil => rfl
  | cons p acc ih =>
    rw [pget_cons, if_neg (h p List.mem_cons_self)]
    exact ih fun q hq => h q (List.mem_cons_of_mem _ hq)
/-- a dict made of different keys -/
theorem runD_new {β : Type} {tp : Bool} {g : QG} {t : QT} {qk qv : QE} {vs : List Nat} {k : List (PV × PV) → PEnv → Prop} {e : PEnv} (enc : β → PV) (key : β → α) (out : β → PV) (kA : ∀ a, keyA (A.f a) = true ∧ isT (A.f a) = tp) : ∀ (xs : List β) (acc : List (PV × PV)), acc.length + xs.length ≤ SZ → (xs.map key).Nodup → (∀ x ∈ xs, ∀ p ∈ acc, PV.nk p.1 ≠ PV.nk (A.f (key x))) →
    (∀ x ∈ xs, ∀ (R : PV → PV → PEnv → Prop) (R0 : PEnv → Prop), R (A.f (key x)) (out x) e → g (enc x) e fun e1 => t e1 fun b e2 => if b = true then qk e2 fun r e3 => keep r e3 fun kk e4 => qv e4 fun r2 e5 => keep r2 e5 fun y e6 => R kk y (wipeE e6 vs) else R0 (wipeE e2 vs)) →
    k (acc ++ xs.map fun x => (A.f (key x), out x)) e → runD tp g t qk qv vs (xs.map enc) acc e k
  | [], acc, _, _, _, _, h => by show k acc e; simpa using h
  | x :: xs, acc, few, nd, nw, st, h => by
    rw [List.length_cons] at few
    rw [List.map_cons] at nd
    obtain ⟨n1, n2⟩ := List.nodup_cons.mp nd
    refine st x List.mem_cons_self (fun kk y e' => (keyA kk = true ∧ isT kk = tp ∧ acc.length < SZ) ∧ runD tp g t qk qv vs (xs.map enc) (pput acc kk y) e' k) (fun e' => runD tp g t qk qv vs (xs.map enc) acc e' k) ⟨⟨(kA _).1, (kA _).2, by omega⟩, ?_⟩
    rw [pput_new (pget_none (nw x List.mem_cons_self))]
    refine runD_new enc key out kA xs _ (by rw [List.length_append, List.length_singleton]; omega) n2 (fun y hy p hp => ?_) (fun y hy => st y (List.mem_cons_of_mem _ hy)) (by rw [List.append_assoc]; exact h)
    rcases List.mem_append.mp hp with hp | hp
    · exact nw y (List.mem_cons_of_mem _ hy) p hp
    · rw [List.mem_singleton] at hp
      subst hp
      exact fun z => n1 (List.mem_map.mpr ⟨y, hy, ((nk_eq A).mp z).symm⟩)
end
end CP
/-! The defs of the graphs keep their promises. -/
namespace CP
open PySem PySem.Spec PyProof.Rows L2
theorem hq_are_apart (C : Addr) : ∀ ss Q, g_are_apart C ss Q → q_are_apart C (bodyEnds 2 Q) (startE 2 ss) := by
  rintro _ Q ⟨e, f, ⟨he, hf⟩, rfl, h⟩
  conv => whnf
  refine ⟨⟨shpS (okE he).1, shpE hf⟩, ?_⟩
  rw [has2]
  cases c1 : decide (e.1 = f.1 ∨ e.1 = f.2) with
  | true =>
    have : apart e f = false := by
      unfold apart
      refine decide_eq_false fun z => ?_
      rcases of_decide_eq_true c1 with q | q
      · exact z.1 q
      · exact z.2.1 q
    rw [this] at h
    exact h
  | false =>
    conv => whnf
    refine ⟨⟨shpS (okE he).2, shpE hf⟩, ?_⟩
    rw [has2]
    have : apart e f = !decide (e.2 = f.1 ∨ e.2 = f.2) := by
      have c1 := of_decide_eq_false c1
      unfold apart
      by_cases c2 : e.2 = f.1 ∨ e.2 = f.2
      · rw [decide_eq_true c2]
        exact decide_eq_false fun z => c2.elim z.2.2.1 z.2.2.2
      · rw [decide_eq_false c2]
        exact decide_eq_true ⟨fun q => c1 (.inl q), fun q => c1 (.inr q), fun q => c2 (.inl q), fun q => c2 (.inr q)⟩
    rw [this] at h
    exact h
theorem hq_is_row (C : Addr) : ∀ ss Q, g_is_row C ss Q → q_is_row C (bodyEnds 1 Q) (startE 1 ss) := by
  rintro _ Q ⟨p, hp, rfl, h⟩
  conv => whnf
  refine ⟨by decide, ?_⟩
  conv => whnf
  refine ⟨hp, ⟨by simp, by simp⟩, ?_⟩
  have e : (isaB (tyN p) "list" || isaB (tyN p) "tuple") = (tyN p == "list" || tyN p == "tuple") := by
    unfold isaB
    cases p <;> simp only [tyN] <;> first | decide +kernel | exact hp.elim
  rw [e]
  exact h
theorem hq_is_couple (C : Addr) : ∀ ss Q, g_is_couple C ss Q → q_is_couple C (bodyEnds 1 Q) (startE 1 ss) := by
  rintro _ Q ⟨a, b, rfl, h⟩
  conv => whnf
  refine ⟨trivial, by simp, ?_⟩
  rw [isa_tup]
  exact h
theorem hq_is_name (C : Addr) : ∀ ss Q, g_is_name C ss Q → q_is_name C (bodyEnds 1 Q) (startE 2 ss) := by
  rintro _ Q ⟨x, hx, rfl, h⟩
  have l := name_len hx
  conv => whnf
  refine ⟨trivial, by simp, ?_⟩
  rw [isa_str]
  conv => whnf
  refine ⟨by unfold SZ; omega, ?_⟩
  conv => whnf
  conv => whnf
  try dsimp only
  rw [show decide ((x.length : Int) = 0) = false from decide_eq_false (by omega)]
  conv => whnf
  refine ⟨by unfold SZ; omega, ?_⟩
  conv => whnf
  conv => whnf
  try dsimp only
  rw [show decide ((8 : Int) < (x.length : Int)) = false from decide_eq_false (by omega)]
  conv => whnf
  refine ⟨by unfold SZ; omega, rfl, ?_⟩
  refine runC_all (fun c => .str ⟨#[c]⟩) (fun c => .bl (decide (c ∈ v_LETTERS.cps.toList))) x.cps.toList (fun c hc R R0 hR => ?_) ?_
  · conv => whnf
    exact ⟨c, rfl, hR⟩
  · conv => whnf
    refine ⟨rfl, ?_⟩
    conv => whnf
    rw [blsOf_mapf]
    have : (x.cps.toList.map fun c => decide (c ∈ v_LETTERS.cps.toList)).all _root_.id = true := by
      unfold nameB at hx
      rw [Bool.and_eq_true_iff] at hx
      rw [List.all_map]
      exact hx.2
    conv => whnf
    try dsimp only
    rw [this]
    conv => whnf
    exact h
theorem isRow_ty {p : PV} {xs : List PV} (h : isRow p xs) : tyOk p ∧ (tyN p == "list" || tyN p == "tuple") = true := by
  rcases h with rfl | rfl
  · exact ⟨trivial, by show ("list" == "list" || "list" == "tuple") = true; decide +kernel⟩
  · exact ⟨trivial, by show ("tuple" == "list" || "tuple" == "tuple") = true; decide +kernel⟩
theorem nks_nd {α : Type} [DecidableEq α] (A : Enc α) {xs : List α} : ((xs.map A.f).map PV.nk).Nodup ↔ xs.Nodup := by
  rw [List.map_map]
  exact ⟨fun h => nodup_of_map h, fun h => nodup_map (fun a b e => A.kinj a b e) h⟩
theorem allS (xs : List Str) : (xs.map PV.str).all isS = true := by rw [List.all_map]; exact List.all_eq_true.mpr fun _ _ => rfl
theorem keyB_pE (e : Ed2) : PV.keyB (pE e) = true := by
  unfold PV.keyB pE
  simp [PV.kOk, PV.kOks, PV.nk, PV.nks, NestedKey.depth, NestedKey.depthAll]
theorem keyB_pP (p : Pr2) : PV.keyB (pP p) = true := by
  unfold PV.keyB pP pE
  simp [PV.kOk, PV.kOks, PV.nk, PV.nks, NestedKey.depth, NestedKey.depthAll]
theorem allE (xs : List Ed2) : (xs.map pE).all PV.keyB = true := by rw [List.all_map]; exact List.all_eq_true.mpr fun e _ => keyB_pE e
theorem hq_are_vertices (C : Addr) : ∀ ss Q, g_are_vertices C ss Q → q_are_vertices C (bodyEnds 1 Q) (startE 2 ss) := by
  rintro _ Q ⟨v, ns, hv, hr, rfl, h⟩
  obtain ⟨ty, rw1⟩ := isRow_ty hr
  have lens : (ns.map PV.str).length = ns.length := List.length_map ..
  have l1 := hv.n1
  have l8 := hv.n8
  rcases hr with rfl | rfl
  all_goals
    conv => whnf
    refine ⟨_, ty, rfl, ?_⟩
    conv => whnf
    try dsimp only
    rw [lens, show decide ((ns.length : Int) = 0) = false from decide_eq_false (by omega)]
    conv => whnf
    conv => whnf
    try dsimp only
    rw [lens, show decide ((8 : Int) < (ns.length : Int)) = false from decide_eq_false (by omega)]
    conv => whnf
    refine ⟨rfl, ?_⟩
    refine runC_all PV.str (fun _ => .bl true) ns (fun x hx R R0 hR => ?_) ?_
    · conv => whnf
      exact ⟨x, hv.nm x hx, rfl, hR⟩
    · conv => whnf
      refine ⟨rfl, ?_⟩
      conv => whnf
      rw [blsOf_mapf]
      have t : (ns.map fun _ => true).all _root_.id = true := by rw [List.all_map]; exact List.all_eq_true.mpr fun _ _ => rfl
      conv => whnf
      try dsimp only
      rw [t]
      conv => whnf
      refine ⟨by rw [allS]; rfl, by rw [lens]; omega, fun n h1 h2 => ?_⟩
      have e : n = ns.length := by
        rw [lens] at h2
        exact h2.mpr ((nks_nd encS).mpr hv.nd)
      subst e
      conv => whnf
      try dsimp only
      rw [lens, show decide ((ns.length : Int) = (ns.length : Int)) = true from decide_eq_true rfl]
      conv => whnf
      exact h
theorem hq_is_among (C : Addr) : ∀ ss Q, g_is_among C ss Q → q_is_among C (bodyEnds 2 Q) (startE 2 ss) := by
  rintro _ Q ⟨v, ns, x, ⟨h1, h2⟩, hr, rfl, h⟩
  rcases hr with rfl | rfl
  · conv => whnf
    refine ⟨trivial, by simp, ?_⟩
    conv => whnf
    refine ⟨⟨shpS h2, shpSl h1⟩, ?_⟩
    rw [hasS]
    exact h
  · conv => whnf
    refine ⟨trivial, by simp, ?_⟩
    conv => whnf
    refine ⟨⟨shpS h2, shpSs h1⟩, ?_⟩
    rw [hasS]
    exact h
theorem hq_joins (C : Addr) : ∀ ss Q, g_joins C ss Q → q_joins C (bodyEnds 2 Q) (startE 4 ss) := by
  rintro _ Q ⟨v, ns, e, ⟨h1, h2⟩, hr, rfl, h⟩
  conv => whnf
  refine ⟨_, _, rfl, ?_⟩
  conv => whnf
  refine ⟨v, ns, e.1, ⟨h1, (okE h2).1⟩, hr, rfl, ?_⟩
  cases c1 : decide (e.1 ∈ ns) with
  | false =>
    rw [show decide (e.1 ∈ ns ∧ e.2 ∈ ns) = false from decide_eq_false fun z => of_decide_eq_false c1 z.1] at h
    exact h
  | true =>
    conv => whnf
    refine ⟨v, ns, e.2, ⟨h1, (okE h2).2⟩, hr, rfl, ?_⟩
    cases c2 : decide (e.2 ∈ ns) with
    | false =>
      rw [show decide (e.1 ∈ ns ∧ e.2 ∈ ns) = false from decide_eq_false fun z => of_decide_eq_false c2 z.2] at h
      exact h
    | true =>
      rw [show decide (e.1 ∈ ns ∧ e.2 ∈ ns) = true from decide_eq_true ⟨of_decide_eq_true c1, of_decide_eq_true c2⟩] at h
      conv => whnf
      refine ⟨⟨rfl, rfl, encS.alike _ _, encS.nn _, Nat.le_trans (encS.depth e.1) (by decide)⟩, ?_⟩
      have d := encS.dlt e.1 e.2
      rw [show dLt (PV.toD (.str e.1)) (PV.toD (.str e.2)) = strLt e.1 e.2 from d]
      exact h
theorem hq_are_edges (C : Addr) : ∀ ss Q, g_are_edges C ss Q → q_are_edges C (bodyEnds 2 Q) (startE 3 ss) := by
  rintro _ Q ⟨v, w, ns, es, hg, hv, hr, rfl, h⟩
  obtain ⟨ty, rw1⟩ := isRow_ty hr
  have lens : (es.map pE).length = es.length := List.length_map ..
  have l8 := hg.e18
  rcases hr with rfl | rfl
  all_goals
    conv => whnf
    refine ⟨_, ty, rfl, ?_⟩
    conv => whnf
    try dsimp only
    rw [lens, show decide ((18 : Int) < (es.length : Int)) = false from decide_eq_false (by omega)]
    conv => whnf
    refine ⟨rfl, ?_⟩
    refine runC_all pE (fun _ => .bl true) es (fun x hx R R0 hR => ?_) ?_
    · conv => whnf
      have ed := hg.ed x hx
      refine ⟨v, ns, x, ⟨hg.toVsOk.oks, hg.okE hx⟩, hv, rfl, ?_⟩
      rw [show (decide (x.1 ∈ ns ∧ x.2 ∈ ns) && strLt x.1 x.2) = true from by rw [decide_eq_true ⟨ed.l, ed.r⟩, ed.lt]; rfl]
      exact hR
    · conv => whnf
      refine ⟨rfl, ?_⟩
      conv => whnf
      rw [blsOf_mapf]
      have t : (es.map fun _ => true).all _root_.id = true := by rw [List.all_map]; exact List.all_eq_true.mpr fun _ _ => rfl
      conv => whnf
      try dsimp only
      rw [t]
      conv => whnf
      refine ⟨by rw [allE, Bool.or_true], by rw [lens]; omega, fun n h1 h2 => ?_⟩
      have e : n = es.length := by
        rw [lens] at h2
        exact h2.mpr ((nks_nd encE).mpr hg.end_)
      subst e
      conv => whnf
      try dsimp only
      rw [lens, show decide ((es.length : Int) = (es.length : Int)) = true from decide_eq_true rfl]
      conv => whnf
      exact h
theorem hq_Graph (C : Addr) : ∀ ss Q, g_Graph C ss Q → q_Graph C (bodyEnds 3 Q) (startE 3 ss) := by
  rintro _ Q ⟨v, w, ns, es, hg, hv, hr, rfl, h⟩
  conv => whnf
  refine ⟨v, ns, hg.toVsOk, hv, rfl, ?_⟩
  conv => whnf
  refine ⟨v, w, ns, es, hg, hv, hr, rfl, ?_⟩
  rcases hv with rfl | rfl <;> rcases hr with rfl | rfl
  all_goals
    conv => whnf
    refine ⟨⟨rfl, by decide⟩, ?_⟩
    conv => whnf
    refine ⟨encE.sortd es, ?_⟩
    conv => whnf
    refine ⟨rfl, ?_⟩
    conv => whnf
    refine ⟨⟨rfl, by decide⟩, ?_⟩
    rw [show sortP (es.map pE) = (encE.srtd es).map pE from encE.sortP es]
    exact h
theorem hq_is_edge (C : Addr) : ∀ ss Q, g_is_edge C ss Q → q_is_edge C (bodyEnds 2 Q) (startE 2 ss) := by
  rintro _ Q ⟨ns, es, e, hg, he, rfl, h⟩
  conv => whnf
  refine ⟨rfl, ?_⟩
  conv => whnf
  refine ⟨_, ns, e, ⟨hg.toVsOk.oks, he⟩, .inr rfl, rfl, ?_⟩
  cases c1 : (decide (e.1 ∈ ns ∧ e.2 ∈ ns) && strLt e.1 e.2) with
  | false =>
    have : decide (e ∈ es) = false := decide_eq_false fun z => by
      have := hg.ed e z
      rw [decide_eq_true ⟨this.l, this.r⟩, this.lt] at c1
      cases c1
    rw [this] at h
    exact h
  | true =>
    conv => whnf
    refine ⟨rfl, ?_⟩
    conv => whnf
    refine ⟨⟨shpE he, shpEs hg.oks⟩, ?_⟩
    rw [hasE]
    exact h
theorem hq_is_pair (C : Addr) : ∀ ss Q, g_is_pair C ss Q → q_is_pair C (bodyEnds 2 Q) (startE 4 ss) := by
  rintro _ Q ⟨ns, es, p, hg, hp, rfl, h⟩
  conv => whnf
  refine ⟨_, _, rfl, ?_⟩
  conv => whnf
  refine ⟨ns, es, p.1, hg, (okP hp).1, rfl, ?_⟩
  rw [show decide (p ∈ prs es) = (decide (p.1 ∈ es) && (decide (p.2 ∈ es) && (encE.lt p.1 p.2 && apart p.1 p.2))) from by
    rw [Bool.eq_iff_iff]; simp only [decide_eq_true_eq, Bool.and_eq_true]; exact prs_iff hg.asc] at h
  cases c1 : decide (p.1 ∈ es) with
  | false =>
    rw [c1] at h
    exact h
  | true =>
    conv => whnf
    refine ⟨ns, es, p.2, hg, (okP hp).2, rfl, ?_⟩
    rw [c1, Bool.true_and] at h
    cases c2 : decide (p.2 ∈ es) with
    | false =>
      rw [c2] at h
      exact h
    | true =>
      rw [c2, Bool.true_and] at h
      conv => whnf
      refine ⟨⟨encE.isD _, encE.isD _, encE.alike _ _, encE.nn _, Nat.le_trans (encE.depth p.1) (by decide)⟩, ?_⟩
      rw [show dLt (PV.toD (pE p.1)) (PV.toD (pE p.2)) = encE.lt p.1 p.2 from encE.dlt p.1 p.2]
      cases c3 : encE.lt p.1 p.2 with
      | false =>
        rw [c3] at h
        exact h
      | true =>
        rw [c3, Bool.true_and] at h
        conv => whnf
        exact ⟨p.1, p.2, ⟨(okP hp).1, (okP hp).2⟩, rfl, h⟩
end CP
/-! The defs of the graphs keep their promises, II. -/
namespace CP
open PySem PySem.Spec PyProof.Rows L2
theorem hq_pairs (C : Addr) : ∀ ss Q, g_pairs C ss Q → q_pairs C (bodyEnds 1 Q) (startE 5 ss) := by
  rintro _ Q ⟨ns, es, hg, rfl, h⟩
  conv => whnf
  refine ⟨Nat.le_of_ble_eq_true rfl, ?_⟩
  conv => whnf
  refine ⟨rfl, ?_⟩
  conv => whnf
  rw [numbered_map]
  refine runF_rec (fun x : Ed2 × Nat => .tup [.int (x.2 : Nat), pE x.1]) (fun todo e => ∃ k F s2 s3 s4, todo = (es.drop k).zipIdx k ∧ F ++ prs (es.drop k) = prs es ∧ e = [.val (pG C ns es), .own (.lst (F.map pP)), s2, s3, s4] ∧ slB s2 = true ∧ slB s3 = true ∧ slB s4 = true) _ _ ⟨0, [], .no, .no, .no, rfl, rfl, rfl, rfl, rfl, rfl⟩ ?_ ?_
  · rintro ⟨x, i⟩ xs _ R ⟨k, F, s2, s3, s4, ht, hF, rfl, n2, n3, n4⟩ hR
    have hk : k < es.length := by
      rcases Nat.lt_or_ge k es.length with c | c
      · exact c
      · rw [List.drop_eq_nil_of_le c] at ht; cases ht
    rw [List.drop_eq_getElem_cons hk, List.zipIdx_cons] at ht
    obtain ⟨e1, e2⟩ := List.cons.inj ht
    obtain ⟨ex, ei⟩ := Prod.mk.inj e1
    rw [List.drop_eq_getElem_cons hk, ← ex] at hF
    subst ei
    conv => whnf
    refine free_go (n2) ?_
    conv => whnf
    refine free_go (n3) ?_
    conv => whnf
    refine ⟨rfl, ?_⟩
    conv => whnf
    have hi : ((i : Nat) : Int) + 1 = ((i + 1 : Nat) : Int) := by omega
    refine ⟨fun z => ?_, ?_⟩
    · have z := z.1
      rw [hi, HT.sIx_nat, List.length_map] at z
      omega
    conv => whnf
    rw [hi, cut_drop pE es (i + 1) (by omega)]
    refine runF_rec pE (fun todo e => (∀ z ∈ todo, z ∈ es) ∧ ∃ G s4, G ++ (todo.filter (apart x)).map (fun f => (x, f)) ++ prs (es.drop (i + 1)) = prs es ∧ e = [.val (pG C ns es), .own (.lst (G.map pP)), .val (.int (i : Nat)), .val (pE x), s4] ∧ slB s4 = true) _ _ ⟨fun z hz => List.mem_of_mem_drop hz, F, s4, ?_, rfl, n4⟩ ?_ ?_
    · rw [List.append_assoc]; exact hF
    · rintro y ys _ R2 ⟨hy, G, s4, hG, rfl, n4⟩ hR2
      conv => whnf
      refine free_go (n4) ?_
      conv => whnf
      have hxm : x ∈ es := by rw [ex]; exact List.getElem_mem hk
      refine ⟨x, y, ⟨hg.okE hxm, hg.okE (hy y List.mem_cons_self)⟩, rfl, ?_⟩
      have hy' : ∀ z ∈ ys, z ∈ es := fun z hz => hy z (List.mem_cons_of_mem _ hz)
      rw [List.filter_cons] at hG
      cases c : apart x y with
      | false =>
        rw [c] at hG
        exact hR2 _ ⟨hy', G, _, hG, rfl, rfl⟩
      | true =>
        rw [c] at hG
        have lG : G.length ≤ 153 := by
          have := congrArg List.length hG
          have h2 := hg.toGrIn.prs_few
          rw [List.length_append, List.length_append] at this
          omega
        conv => whnf
        refine ⟨rfl, ?_⟩
        conv => whnf
        refine ⟨Nat.le_of_ble_eq_true rfl, ?_⟩
        conv => whnf
        refine ⟨by rw [List.length_map]; unfold SZ; omega, ?_⟩
        refine hR2 _ ⟨hy', G ++ [(x, y)], _, ?_, by rw [List.map_append]; rfl, rfl⟩
        simpa using hG
    · rintro _ ⟨_, G, s4, hG, rfl, n4⟩
      refine hR _ ⟨i + 1, G, _, _, s4, ?_, by simpa using hG, rfl, rfl, rfl, n4⟩
      exact e2
  · rintro _ ⟨k, F, s2, s3, s4, ht, hF, rfl, n2, n3, n4⟩
    have : es.drop k = [] := by
      cases c : es.drop k with
      | nil => rfl
      | cons y ys => rw [c] at ht; cases ht
    rw [this] at hF
    simp only [prs, List.append_nil] at hF
    subst hF
    exact h
theorem hq_check_record (C : Addr) : ∀ ss Q, g_check_record C ss Q → q_check_record C (bodyEnds 2 Q) (startE 5 ss) := by
  rintro _ Q ⟨ns, es, v, r, hg, hr, hv, rfl, h⟩
  have ty := isRow_ty hv
  conv => whnf
  refine ⟨v, ty.1, rfl, ?_⟩
  rw [ty.2]
  rcases hv with rfl | rfl
  all_goals
    conv => whnf
    rw [numbered_map]
    refine runF_rec (fun x : Pr2 × Nat => .tup [.int (x.2 : Nat), pP x.1]) (fun todo e => ∃ k ks s3 s4, todo = (r.drop k).zipIdx k ∧ ks = (r.take k).reverse ∧ e = [.val (pG C ns es), .val _, .own (.set (ks.map pP)), s3, s4] ∧ slB s3 = true ∧ slB s4 = true) _ _ ⟨0, [], .no, .no, rfl, rfl, rfl, rfl, rfl⟩ ?_ ?_
    · rintro ⟨x, i⟩ xs _ R ⟨k, ks, s3, s4, ht, hks, rfl, n3, n4⟩ hR
      have hk : k < r.length := by
        rcases Nat.lt_or_ge k r.length with c | c
        · exact c
        · rw [List.drop_eq_nil_of_le c] at ht; cases ht
      rw [List.drop_eq_getElem_cons hk, List.zipIdx_cons] at ht
      obtain ⟨e1, e2⟩ := List.cons.inj ht
      obtain ⟨ex, ei⟩ := Prod.mk.inj e1
      subst ei
      conv => whnf
      refine free_go (n3) ?_
      conv => whnf
      refine free_go (n4) ?_
      conv => whnf
      have hx : x ∈ r := by rw [ex]; exact List.getElem_mem hk
      refine ⟨ns, es, x, hg, hg.okP (hr.sub x hx), rfl, ?_⟩
      rw [decide_eq_true (hr.sub x hx)]
      conv => whnf
      refine ⟨keyB_pP x, ?_⟩
      have hk2 : hasK (ks.map pP) (pP x) = false := by
        unfold hasK
        refine decide_eq_false fun z => ?_
        rw [List.map_map] at z
        obtain ⟨y, hy, e⟩ := List.mem_map.mp z
        have : y = x := encPr.kinj y x e
        subst this
        rw [hks, List.mem_reverse, ex] at hy
        obtain ⟨j, hj, ej⟩ := List.mem_take_iff_getElem.mp hy
        have := (List.getElem_inj hr.nd).mp ej
        omega
      rw [hk2]
      conv => whnf
      refine ⟨⟨keyB_pP x, ?_⟩, ?_⟩
      · have h1 := (hr.few hg.toGrIn)
        rw [List.length_map, hks, List.length_reverse, List.length_take]
        omega
      rw [hk2]
      exact hR _ ⟨i + 1, x :: ks, _, _, e2, by rw [hks, ex, List.take_succ_eq_append_getElem hk, List.reverse_append]; rfl, rfl, rfl, rfl⟩
    · rintro _ ⟨k, ks, s3, s4, ht, hks, rfl, n3, n4⟩
      exact h
end CP
/-! The defs of the carries keep their promises. -/
namespace CP
open PySem PySem.Spec PyProof.Rows L2
theorem hq_is_carry (C : Addr) : ∀ ss Q, g_is_carry C ss Q → q_is_carry C (bodyEnds 2 Q) (startE 4 ss) := by
  rintro _ Q ⟨ns, es, c, hg, hc, rfl, h⟩
  have oe := hg.okE hc.e
  have ov := hg.toVsOk.ok hc.v
  conv => whnf
  refine ⟨_, _, rfl, ?_⟩
  conv => whnf
  refine ⟨ns, es, c.1, hg, oe, rfl, ?_⟩
  rw [decide_eq_true hc.e]
  conv => whnf
  refine ⟨rfl, ?_⟩
  conv => whnf
  refine ⟨_, ns, c.2, ⟨hg.toVsOk.oks, ov⟩, .inr rfl, rfl, ?_⟩
  rw [decide_eq_true hc.v]
  conv => whnf
  refine ⟨⟨shpS ov, shpE oe⟩, ?_⟩
  rw [has2, decide_eq_false (fun z => z.elim hc.n1 hc.n2)]
  exact h
theorem hq_every_carry (C : Addr) : ∀ ss Q, g_every_carry C ss Q → q_every_carry C (bodyEnds 1 Q) (startE 4 ss) := by
  rintro _ Q ⟨ns, es, hg, rfl, h⟩
  conv => whnf
  refine ⟨rfl, ?_⟩
  conv => whnf
  refine ⟨encS.sortd ns, ?_⟩
  conv => whnf
  refine ⟨rfl, ?_⟩
  conv => whnf
  refine ⟨rfl, ?_⟩
  conv => whnf
  rw [show sortP (ns.map .str) = (encS.srtd ns).map .str from encS.sortP ns]
  refine run2_rec pE (fun todo acc e => (∀ x ∈ todo, x ∈ es) ∧ acc.length + todo.length * 8 ≤ 1000 ∧ (e = [.val (pG C ns es), .own (.lst ((encS.srtd ns).map .str)), .no, .no] ∨ e = [.val (pG C ns es), .val (.lst ((encS.srtd ns).map .str)), .no, .no]) ∧ acc ++ (everyC ns todo).map pC = (everyC ns es).map pC) es [] _ ⟨fun _ h => h, ?_, .inl rfl, rfl⟩ ?_ ?_
  · have := hg.e18
    simp; omega
  · rintro x xs acc e R ⟨hx, few, he, hF⟩ hR
    have xe := hx x List.mem_cons_self
    have ls : (encS.srtd ns).length ≤ 8 := by rw [encS.srtd_len]; exact hg.n8
    have evc : everyC ns (x :: xs) = ((encS.srtd ns).filter fun v => decide (v ≠ x.1 ∧ v ≠ x.2)).map (fun v => (x, v)) ++ everyC ns xs := rfl
    rw [evc, List.map_append, ← List.append_assoc] at hF
    rw [List.length_cons] at few
    have inner : ∀ (s0 : Sl), runB (gqName 3) (qTst gNotIn (qVar 3) (qVar 2)) (qTup (aCons (qVar 2) (aCons (qVar 3) aNil))) [3] ((encS.srtd ns).map .str) acc [.val (pG C ns es), .val (.lst ((encS.srtd ns).map .str)), .val (pE x), .no] fun acc' e4 => R acc' (wipeE e4 [2, 3]) := by
      intro s0
      refine runB_of PV.str (fun v => decide (v ≠ x.1 ∧ v ≠ x.2)) (fun v => pC (x, v)) _ acc (by rw [encS.srtd_len]; have := hg.n8; unfold SZ; omega) (fun v hv R1 R0 h1 h0 => ?_) ?_
      · have ov := hg.toVsOk.ok ((encS.srtd_perm ns).mem_iff.mp hv)
        conv => whnf
        refine ⟨⟨shpS ov, shpE (hg.okE xe)⟩, ?_⟩
        rw [has2]
        have e1 : (!decide (v = x.1 ∨ v = x.2)) = decide (v ≠ x.1 ∧ v ≠ x.2) := by
          rw [← decide_not]; exact decide_eq_decide.mpr not_or
        conv => whnf
        try dsimp only
        rw [e1]
        conv => whnf
        cases c : decide (v ≠ x.1 ∧ v ≠ x.2) with
        | true =>
          conv => whnf
          refine ⟨Nat.le_of_ble_eq_true rfl, ?_⟩
          conv => whnf
          exact h1 c
        | false => exact h0 c
      · refine hR _ _ ⟨fun y hy => hx y (List.mem_cons_of_mem _ hy), ?_, .inr rfl, ?_⟩
        · have := List.length_filter_le (fun v => decide (v ≠ x.1 ∧ v ≠ x.2)) (encS.srtd ns)
          rw [List.length_append, List.length_map]; omega
        · rw [← hF, List.map_map]; rfl
    rcases he with rfl | rfl
    · conv => whnf
      refine ⟨rfl, ?_⟩
      conv => whnf
      exact inner .no
    · conv => whnf
      exact inner .no
  · rintro acc e ⟨_, _, he, hF⟩
    have hF : acc = (everyC ns es).map pC := by simpa [everyC] using hF
    subst hF
    rcases he with rfl | rfl <;> exact h
theorem hq_check_carries (C : Addr) : ∀ ss Q, g_check_carries C ss Q → q_check_carries C (bodyEnds 2 Q) (startE 4 ss) := by
  rintro _ Q ⟨ns, es, v, cs, hg, hcs, few, hv, rfl, h⟩
  have ty := isRow_ty hv
  conv => whnf
  refine ⟨v, ty.1, rfl, ?_⟩
  rw [ty.2]
  rcases hv with rfl | rfl
  all_goals
    conv => whnf
    rw [numbered_map]
    refine runF_rec (fun x : Ca2 × Nat => .tup [.int (x.2 : Nat), pC x.1]) (fun todo e => (∀ x ∈ todo, x.1 ∈ cs) ∧ ∃ s2 s3, e = [.val (pG C ns es), .val _, s2, s3] ∧ slB s2 = true ∧ slB s3 = true) _ _ ⟨fun x hx => ?_, .no, .no, rfl, rfl, rfl⟩ ?_ ?_
    · obtain ⟨x, i⟩ := x
      exact List.mem_of_getElem? (List.mem_zipIdx_iff_getElem?.mp hx)
    · rintro ⟨x, i⟩ xs _ R ⟨hx, s2, s3, rfl, n2, n3⟩ hR
      conv => whnf
      refine free_go (n2) ?_
      conv => whnf
      refine free_go (n3) ?_
      conv => whnf
      refine ⟨ns, es, x, hg, hcs x (hx _ List.mem_cons_self), rfl, ?_⟩
      exact hR _ ⟨fun y hy => hx y (List.mem_cons_of_mem _ hy), _, _, rfl, rfl, rfl⟩
    · rintro _ ⟨_, s2, s3, rfl, n2, n3⟩
      exact h
theorem hq_flips_of (C : Addr) : ∀ ss Q, g_flips_of C ss Q → q_flips_of C (bodyEnds 2 Q) (startE 6 ss) := by
  rintro _ Q ⟨ns, es, c, hg, hc, rfl, h⟩
  conv => whnf
  refine ⟨rfl, ?_⟩
  conv => whnf
  refine ⟨rfl, ?_⟩
  conv => whnf
  refine runC_sel pE (fun o => decide (c.2 = o.1 ∨ c.2 = o.2) && apart c.1 o) pE es (fun x hx R R0 h1 h0 => ?_) ?_
  · have ov := hg.toVsOk.ok hc.v
    conv => whnf
    refine ⟨⟨shpS ov, shpE (hg.okE hx)⟩, ?_⟩
    rw [has2]
    cases c1 : decide (c.2 = x.1 ∨ c.2 = x.2) with
    | false =>
      rw [c1] at h0
      exact h0 rfl
    | true =>
      rw [c1, Bool.true_and] at h1 h0
      conv => whnf
      refine ⟨c.1, x, ⟨hg.okE hc.e, hg.okE hx⟩, rfl, ?_⟩
      cases c2 : apart c.1 x with
      | false => exact h0 c2
      | true => exact h1 c2
  · conv => whnf
    refine ⟨rfl, ?_⟩
    conv => whnf
    refine ⟨rfl, ?_⟩
    conv => whnf
    refine runC_all pE (fun o => pP (if encE.lt o c.1 = true then (o, c.1) else (c.1, o))) _ (fun x hx R R0 hR => ?_) ?_
    · have hx := (List.mem_filter.mp hx).1
      conv => whnf
      refine ⟨⟨encE.isD _, encE.isD _, encE.alike _ _, encE.nn _, Nat.le_trans (encE.depth x) (by decide)⟩, ?_⟩
      rw [show dLt (PV.toD (pE x)) (PV.toD (pE c.1)) = encE.lt x c.1 from encE.dlt x c.1]
      cases c3 : encE.lt x c.1 with
      | true =>
        rw [c3] at hR
        conv => whnf
        refine ⟨Nat.le_of_ble_eq_true rfl, ?_⟩
        conv => whnf
        exact hR
      | false =>
        rw [c3] at hR
        conv => whnf
        refine ⟨Nat.le_of_ble_eq_true rfl, ?_⟩
        conv => whnf
        exact hR
    · conv => whnf
      unfold flips at h
      rw [List.map_map] at h
      exact h
theorem hq_common_parity (C : Addr) : ∀ ss Q, g_common_parity C ss Q → q_common_parity C (bodyEnds 2 Q) (startE 2 ss) := by
  rintro _ Q ⟨v, w, r1, r2, ⟨n1, n2, f1, f2⟩, hv, hw, rfl, h⟩
  have kr : ∀ r : List Pr2, r.Nodup → r.length < 250 → KeyRow (r.map pP) := fun r nd few => ⟨by rw [List.all_map]; exact List.all_eq_true.mpr fun p _ => keyB_pP p, by rw [List.length_map]; exact few, (nks_nd encPr).mpr nd⟩
  have e : (((gLenAnd (r1.map pP) (r2.map pP)) : Int) % 2) = ((cpar r1 r2 : Nat) : Int) := by
    unfold gLenAnd cpar
    have : ((r1.map pP).filter fun x => decide (PV.nk x ∈ (r2.map pP).map PV.nk)).length = (r1.filter fun p => decide (p ∈ r2)).length := by
      rw [List.filter_map, List.length_map]
      congr 1
      refine List.filter_congr fun p _ => ?_
      show decide (PV.nk (pP p) ∈ (r2.map pP).map PV.nk) = _
      refine decide_eq_decide.mpr ⟨fun h => ?_, fun h => ?_⟩
      · rw [List.map_map] at h
        obtain ⟨q, hq, e⟩ := List.mem_map.mp h
        rw [← encPr.kinj q p e]; exact hq
      · exact List.mem_map.mpr ⟨pP p, List.mem_map.mpr ⟨p, h, rfl⟩, rfl⟩
    rw [this]; rfl
  rcases hv with rfl | rfl <;> rcases hw with rfl | rfl
  all_goals
    conv => whnf
    refine ⟨kr r1 n1 f1, ?_⟩
    conv => whnf
    refine ⟨kr r2 n2 f2, ?_⟩
    conv => whnf
    refine ⟨(by decide : (0 : Int) < 2), ?_⟩
    dsimp only
    rw [e]
    exact h
theorem apart_comm (e f : Ed2) : apart e f = apart f e := by
  unfold apart
  exact decide_eq_decide.mpr ⟨fun ⟨a, b, c, d⟩ => ⟨fun z => a z.symm, fun z => c z.symm, fun z => b z.symm, fun z => d z.symm⟩, fun ⟨a, b, c, d⟩ => ⟨fun z => a z.symm, fun z => c z.symm, fun z => b z.symm, fun z => d z.symm⟩⟩
theorem apart_self (e : Ed2) : apart e e = false := by unfold apart; exact decide_eq_false fun z => z.1 rfl
theorem flips_ok {ns : List Str} {es : List Ed2} (hg : GrOk ns es) {c : Ca2} (hc : CaOk ns es c) : RecOk es (flips es c) := by
  have other : ∀ o ∈ es.filter fun o => decide (c.2 = o.1 ∨ c.2 = o.2) && apart c.1 o, o ∈ es ∧ apart c.1 o = true ∧ o ≠ c.1 := fun o ho => by
    obtain ⟨h1, h2⟩ := List.mem_filter.mp ho
    rw [Bool.and_eq_true_iff] at h2
    exact ⟨h1, h2.2, fun z => by rw [z, apart_self] at h2; cases h2.2⟩
  refine ⟨?_, fun p hp => ?_⟩
  · unfold flips
    refine List.pairwise_map.mpr (List.Pairwise.imp_of_mem (fun {a b} ha hb h z => h ?_) (List.Pairwise.filter _ (encE.asc_nd hg.asc)))
    have na := (other a ha).2.2
    have nb := (other b hb).2.2
    have z : (if encE.lt a c.1 = true then (a, c.1) else (c.1, a)) = (if encE.lt b c.1 = true then (b, c.1) else (c.1, b)) := z
    split at z <;> split at z
    · exact congrArg (·.1) z
    · exact absurd (congrArg (·.1) z) na
    · exact absurd (congrArg (·.1) z).symm nb
    · exact congrArg (·.2) z
  · obtain ⟨o, ho, rfl⟩ := List.mem_map.mp hp
    obtain ⟨h1, h2, h3⟩ := other o ho
    refine (prs_iff hg.asc).mpr ?_
    cases c3 : encE.lt o c.1 with
    | true => exact ⟨h1, hc.e, c3, by rw [apart_comm]; exact h2⟩
    | false => exact ⟨hc.e, h1, encE.total _ _ h3 c3, h2⟩
theorem everyC_len (ns : List Str) (es : List Ed2) : (everyC ns es).length ≤ es.length * ns.length := by
  unfold everyC
  induction es with
  | nil => simp
  | cons e es ih =>
    rw [List.flatMap_cons, List.length_append, List.length_map, List.length_cons, Nat.add_mul]
    have := List.length_filter_le (fun v => decide (v ≠ e.1 ∧ v ≠ e.2)) (encS.srtd ns)
    rw [encS.srtd_len] at this
    omega
theorem GrIn.carries_few {ns : List Str} {es : List Ed2} (hg : GrIn ns es) : (everyC ns es).length ≤ 144 := by
  have h1 := everyC_len ns es
  have h2 : es.length * ns.length ≤ 18 * 8 := Nat.mul_le_mul hg.e18 hg.n8
  omega
theorem everyC_ok {ns : List Str} {es : List Ed2} {c : Ca2} : c ∈ everyC ns es ↔ CaOk ns es c := by
  unfold everyC
  constructor
  · intro h
    obtain ⟨e, he, h⟩ := List.mem_flatMap.mp h
    obtain ⟨v, hv, rfl⟩ := List.mem_map.mp h
    obtain ⟨h1, h2⟩ := List.mem_filter.mp hv
    have h2 := of_decide_eq_true h2
    exact ⟨he, (encS.srtd_perm ns).mem_iff.mp h1, h2.1, h2.2⟩
  · intro h
    exact List.mem_flatMap.mpr ⟨c.1, h.e, List.mem_map.mpr ⟨c.2, List.mem_filter.mpr ⟨(encS.srtd_perm ns).mem_iff.mpr h.v, decide_eq_true ⟨h.n1, h.n2⟩⟩, rfl⟩⟩
theorem hq_is_witness (C : Addr) : ∀ ss Q, g_is_witness C ss Q → q_is_witness C (bodyEnds 2 Q) (startE 3 ss) := by
  rintro _ Q ⟨ns, es, v, r, hg, hr, hv, rfl, h⟩
  conv => whnf
  refine ⟨ns, es, v, r, hg, hr, hv, rfl, ?_⟩
  conv => whnf
  refine ⟨ns, es, hg, rfl, ?_⟩
  conv => whnf
  refine ⟨rfl, ?_⟩
  conv => whnf
  refine ⟨rfl, ?_⟩
  conv => whnf
  refine runC_all pC (fun c => .bl (decide (cpar r (flips es c) = 0))) (everyC ns es) (fun c hc R R0 hR => ?_) ?_
  · have hc := everyC_ok.mp hc
    have fo := flips_ok hg hc
    conv => whnf
    refine ⟨ns, es, c, hg, hc, rfl, ?_⟩
    conv => whnf
    refine ⟨rfl, ?_⟩
    conv => whnf
    refine ⟨v, .lst ((flips es c).map pP), r, flips es c, ⟨hr.nd, fo.nd, by have := hr.few hg.toGrIn; omega, by have := fo.few hg.toGrIn; omega⟩, hv, .inl rfl, rfl, ?_⟩
    conv => whnf
    have e : decide (((cpar r (flips es c) : Nat) : Int) = 0) = decide (cpar r (flips es c) = 0) := decide_eq_decide.mpr (by omega)
    rw [← e] at hR
    exact hR
  · conv => whnf
    refine ⟨rfl, ?_⟩
    conv => whnf
    conv => whnf
    try dsimp only
    rw [blsOf_mapf]
    conv => whnf
    have e2 : (List.map (fun c => decide (cpar r (flips es c) = 0)) (everyC ns es)).all id = isWit ns es r := by rw [List.all_map]; rfl
    rw [e2]
    exact h
theorem hq_charge (C : Addr) : ∀ ss Q, g_charge C ss Q → q_charge C (bodyEnds 3 Q) (startE 3 ss) := by
  rintro _ Q ⟨ns, es, v, w, r, wt, hg, hr, hw, hi, hv, hv2, rfl, h⟩
  conv => whnf
  refine ⟨ns, es, v, r, hg, hr, hv, rfl, ?_⟩
  conv => whnf
  refine ⟨ns, es, w, wt, hg, hw, hv2, rfl, ?_⟩
  conv => whnf
  refine ⟨ns, es, w, wt, hg, hw, hv2, rfl, ?_⟩
  rw [hi]
  conv => whnf
  refine ⟨v, w, r, wt, ⟨hr.nd, hw.nd, by have := hr.few hg.toGrIn; omega, by have := hw.few hg.toGrIn; omega⟩, hv, hv2, rfl, h⟩
theorem hq_is_order (C : Addr) : ∀ ss Q, g_is_order C ss Q → q_is_order C (bodyEnds 2 Q) (startE 3 ss) := by
  rintro _ Q ⟨ns, es, v, os, hg, pm, hv, rfl, h⟩
  have ty := isRow_ty hv
  have ln : os.length = ns.length := pm.length_eq
  have n8 := hg.n8
  conv => whnf
  refine ⟨v, ty.1, rfl, ?_⟩
  rw [ty.2]
  rcases hv with rfl | rfl
  all_goals
    conv => whnf
    refine ⟨rfl, ?_⟩
    conv => whnf
    refine dec_no (by rw [List.length_map, List.length_map, ln]; simp) ?_
    conv => whnf
    refine ⟨rfl, ?_⟩
    refine runC_all PV.str (fun _ => .bl true) os (fun x hx R R0 hR => ?_) ?_
    · have hx := pm.mem_iff.mp hx
      conv => whnf
      refine ⟨rfl, ?_⟩
      conv => whnf
      refine ⟨_, ns, x, ⟨hg.toVsOk.oks, hg.toVsOk.ok hx⟩, .inr rfl, rfl, ?_⟩
      rw [decide_eq_true hx]
      exact hR
    · conv => whnf
      refine ⟨rfl, ?_⟩
      conv => whnf
      rw [blsOf_mapf]
      have t : (os.map fun _ => true).all _root_.id = true := by rw [List.all_map]; exact List.all_eq_true.mpr fun _ _ => rfl
      conv => whnf
      try dsimp only
      rw [t]
      conv => whnf
      refine ⟨by rw [allS]; rfl, by rw [List.length_map]; omega, fun n h1 h2 => ?_⟩
      have e : n = os.length := by
        rw [List.length_map] at h2
        exact h2.mpr ((nks_nd encS).mpr (pm.nodup_iff.mpr hg.nd))
      subst e
      conv => whnf
      try dsimp only
      rw [List.length_map, show decide ((os.length : Int) = (os.length : Int)) = true from decide_eq_true rfl]
      conv => whnf
      exact h
theorem kA_pr (p : Pr2) : keyA (pP p) = true ∧ isT (pP p) = true := ⟨keyB_pP p, rfl⟩
theorem kA_s (p : Str) : keyA (.str p) = true ∧ isT (.str p) = false := ⟨rfl, rfl⟩
theorem fam_fd {α : Type} [DecidableEq α] (A : Enc α) {t : Bool} (kA : ∀ a, keyA (A.f a) = true ∧ isT (A.f a) = t) (P : List α) (b : α → PV) (a : α) : famB (fd A P b) (A.f a) = true := by
  unfold famB fd
  rw [List.all_map]
  refine List.all_eq_true.mpr fun p _ => ?_
  show (isT (A.f p) == isT (A.f a)) = true
  rw [(kA p).2, (kA a).2]; simp
theorem fd_len {α : Type} [DecidableEq α] (A : Enc α) (P : List α) (b : α → PV) : (fd A P b).length = P.length := List.length_map ..
/-- what is held -/
abbrev hld (es : List Ed2) (b : Pr2 → Bool) : PV := .dic (fd encPr (prs es) fun p => .bl (b p))
theorem put_hld {es : List Ed2} {b : Pr2 → Bool} {p : Pr2} {x : Bool} (h : p ∈ prs es) : pput (fd encPr (prs es) fun p => .bl (b p)) (pP p) (.bl x) = fd encPr (prs es) fun q => .bl (if q = p then x else b q) := by
  rw [show pP p = encPr.f p from rfl, pput_fd encPr h]
  congr 1
  funext q
  split <;> rfl
theorem put_hld2 {es : List Ed2} {b b' : Pr2 → Bool} {p : Pr2} {x : Bool} (h : p ∈ prs es) (hb : ∀ q, (if q = p then x else b q) = b' q) : pput (fd encPr (prs es) fun p => .bl (b p)) (pP p) (.bl x) = fd encPr (prs es) fun p => .bl (b' p) := by
  rw [put_hld h]
  congr 1
  funext q
  rw [hb q]
theorem hq_carried (C : Addr) : ∀ ss Q, g_carried C ss Q → q_carried C (bodyEnds 3 Q) (startE 6 ss) := by
  rintro _ Q ⟨ns, es, v, w, r, cs, hg, hr, hcs, few, hv, hw, rfl, h⟩
  have lp := hg.toGrIn.prs_few
  conv => whnf
  refine ⟨ns, es, v, r, hg, hr, hv, rfl, ?_⟩
  conv => whnf
  refine ⟨ns, es, w, cs, hg, hcs, few, hw, rfl, ?_⟩
  conv => whnf
  refine ⟨ns, es, hg, rfl, ?_⟩
  conv => whnf
  refine ⟨rfl, ?_⟩
  conv => whnf
  refine ⟨rfl, ?_⟩
  conv => whnf
  refine runD_new encPr pP id (fun _ => .bl false) kA_pr (prs es) [] (by simp; unfold SZ; omega) (by rw [List.map_id]; exact prs_nd hg.asc) (fun x _ p hp => nomatch hp) (fun x hx R R0 hR => ?_) ?_
  · conv => whnf
    exact hR
  show storeS 4 (.fr (hld es fun _ => false)) _ _
  have e0 : (fun _ : Pr2 => false) = fun p : Pr2 => decide (p ∈ ([] : List Pr2)) := by funext p; simp
  rw [e0]
  rcases hv with rfl | rfl <;> rcases hw with rfl | rfl
  all_goals
    conv => whnf
    refine runF_rec pP (fun todo e => (∀ p ∈ todo, p ∈ r) ∧ ∃ done s3, done ++ todo = r ∧ e = [.val (pG C ns es), .val _, .val _, s3, .own (hld es fun p => decide (p ∈ done)), .no] ∧ slB s3 = true) _ _ ⟨fun _ h => h, [], .no, rfl, rfl, rfl⟩ ?_ ?_
    · rintro x xs _ R ⟨hx, done, s3, hd, rfl, n3⟩ hR
      have xp := hr.sub x (hx x List.mem_cons_self)
      conv => whnf
      refine free_go (n3) ?_
      conv => whnf
      refine ⟨rfl, ?_⟩
      conv => whnf
      refine ⟨⟨keyB_pP x, fam_fd encPr kA_pr _ _ x, by rw [fd_len]; unfold SZ; omega⟩, ?_⟩
      rw [put_hld2 (b' := fun q => decide (q ∈ done ++ [x])) xp (fun q => by by_cases c : q = x <;> simp [c])]
      exact hR _ ⟨fun p hp => hx p (List.mem_cons_of_mem _ hp), done ++ [x], .val (pP x), by simpa using hd, rfl, rfl⟩
    · rintro _ ⟨_, done, s3, hd, rfl, n3⟩
      have hd : done = r := by simpa using hd
      subst hd
      conv => whnf
      refine runF_rec pC (fun todo e => (∀ c ∈ todo, c ∈ cs) ∧ ∃ don s3 s5, don ++ todo = cs ∧ e = [.val (pG C ns es), .val _, .val _, s3, .own (hld es fun p => don.foldl (fun b c => b ^^ decide (p ∈ flips es c)) (decide (p ∈ done))), s5] ∧ slB s3 = true ∧ slB s5 = true) _ _ ⟨fun _ h => h, [], s3, .no, rfl, rfl, n3, rfl⟩ ?_ ?_
      · rintro x xs _ R ⟨hx, don, s3, s5, hd, rfl, n3, n5⟩ hR
        have hc := hcs x (hx x List.mem_cons_self)
        have fo := flips_ok hg hc
        conv => whnf
        refine free_go (n5) ?_
        conv => whnf
        refine ⟨ns, es, x, hg, hc, rfl, ?_⟩
        conv => whnf
        refine ⟨rfl, ?_⟩
        conv => whnf
        have nd := fo.nd
        generalize hb0 : (fun p : Pr2 => don.foldl (fun b c => b ^^ decide (p ∈ flips es c)) (decide (p ∈ done))) = b0
        have e1 : b0 = fun p => b0 p ^^ decide (p ∈ ([] : List Pr2)) := by funext p; simp
        rw [e1]
        refine runF_rec pP (fun todo e => ∃ d s3, d ++ todo = flips es x ∧ e = [.val (pG C ns es), .val _, .val _, s3, .own (hld es fun p => b0 p ^^ decide (p ∈ d)), .val (pC x)] ∧ slB s3 = true) _ _ ⟨[], s3, rfl, rfl, n3⟩ ?_ ?_
        · rintro y ys _ R2 ⟨d, s3, hdy, rfl, n3⟩ hR2
          have yf : y ∈ flips es x := by rw [← hdy]; simp
          have yp := fo.sub y yf
          have yd : y ∉ d := fun z => by
            rw [← hdy] at nd
            exact (List.nodup_append.mp nd).2.2 y z y List.mem_cons_self rfl
          conv => whnf
          refine free_go (n3) ?_
          conv => whnf
          refine ⟨⟨keyB_pP y, fam_fd encPr kA_pr _ _ y⟩, ?_⟩
          rw [show pget (fd encPr (prs es) fun p => .bl (b0 p ^^ decide (p ∈ d))) (pP y) = some (.bl (b0 y ^^ decide (y ∈ d))) from pget_fd encPr yp]
          conv => whnf
          refine ⟨rfl, ?_⟩
          conv => whnf
          refine ⟨⟨keyB_pP y, fam_fd encPr kA_pr _ _ y, by rw [fd_len]; unfold SZ; omega⟩, ?_⟩
          rw [put_hld2 (b' := fun q => b0 q ^^ decide (q ∈ d ++ [y])) yp (fun q => by
            by_cases c : q = y
            · subst c; simp [yd]
            · simp [c])]
          exact hR2 _ ⟨d ++ [y], .val (pP y), by simpa using hdy, rfl, rfl⟩
        · rintro _ ⟨d, s3, hdy, rfl, n3⟩
          have hdy : d = flips es x := by simpa using hdy
          subst hdy
          refine hR _ ⟨fun c hc => hx c (List.mem_cons_of_mem _ hc), don ++ [x], s3, .val (pC x), by simpa using hd, ?_, n3, rfl⟩
          have e : (fun p : Pr2 => (don ++ [x]).foldl (fun b c => b ^^ decide (p ∈ flips es c)) (decide (p ∈ done))) = fun p => b0 p ^^ decide (p ∈ flips es x) := by
            funext p
            rw [List.foldl_append, ← hb0]; rfl
          rw [e]
      · rintro _ ⟨_, don, s3, s5, hd, rfl, n3, n5⟩
        have hd : don = cs := by simpa using hd
        subst hd
        conv => whnf
        refine ⟨ns, es, hg, rfl, ?_⟩
        conv => whnf
        refine ⟨rfl, ?_⟩
        conv => whnf
        refine ⟨(by cases s3 <;> first | rfl | cases n3), ?_⟩
        refine runC_sel pP (fun p => don.foldl (fun b c => b ^^ decide (p ∈ flips es c)) (decide (p ∈ done))) pP (prs es) (fun x hx R R0 h1 h0 => ?_) ?_
        · conv => whnf
          refine ⟨⟨keyB_pP x, fam_fd encPr kA_pr _ _ x⟩, ?_⟩
          rw [show pget (fd encPr (prs es) fun p => .bl (don.foldl (fun b c => b ^^ decide (p ∈ flips es c)) (decide (p ∈ done)))) (pP x) = some (.bl (don.foldl (fun b c => b ^^ decide (x ∈ flips es c)) (decide (x ∈ done)))) from pget_fd encPr hx]
          cases c : don.foldl (fun b c => b ^^ decide (x ∈ flips es c)) (decide (x ∈ done)) with
          | true => exact h1 c
          | false => exact h0 c
        · exact h
end CP
/-! convex. -/
namespace CP
open PySem PySem.Spec PyProof.Rows L2
theorem plc_get {os : List Str} {v : Str} (h : v ∈ os) : pget (plcD os) (.str v) = some (.int (plc os v : Nat)) := by
  have := pget_zip encS (g := fun n => .int (n : Nat)) h 0
  rw [Nat.zero_add] at this
  exact this
theorem plc_fam (os : List Str) (v : Str) : famB (plcD os) (.str v) = true := by
  unfold famB plcD
  rw [List.all_map]
  exact List.all_eq_true.mpr fun p _ => rfl
theorem srt2 {a b : Int} (n : a ≠ b) : encI.srtd [a, b] = if a < b then [a, b] else [b, a] := by
  have nd : ([a, b] : List Int).Nodup := by simp [n]
  split
  · rename_i c
    exact encI.srtd_of_asc (List.pairwise_cons.mpr ⟨fun x hx => by rw [List.mem_singleton] at hx; subst hx; exact decide_eq_true c, List.pairwise_singleton _ _⟩)
  · rename_i c
    refine encI.asc_unique ((encI.srtd_perm _).trans (List.Perm.swap b a [])) (encI.srtd_asc nd) ?_
    exact List.pairwise_cons.mpr ⟨fun x hx => by rw [List.mem_singleton] at hx; subst hx; exact decide_eq_true (by omega), List.pairwise_singleton _ _⟩
theorem hq_alternates (C : Addr) : ∀ ss Q, g_alternates C ss Q → q_alternates C (bodyEnds 2 Q) (startE 8 ss) := by
  rintro _ Q ⟨os, ns, es, p, pm, hg, hp, rfl, h⟩
  obtain ⟨h1, h2, h3⟩ := mem_prs hp
  have m1 := pm.mem_iff.mpr (hg.ed _ h1).l
  have m2 := pm.mem_iff.mpr (hg.ed _ h1).r
  have m3 := pm.mem_iff.mpr (hg.ed _ h2).l
  have m4 := pm.mem_iff.mpr (hg.ed _ h2).r
  conv => whnf
  refine ⟨⟨rfl, plc_fam os _⟩, ?_⟩
  rw [plc_get m1]
  conv => whnf
  refine ⟨⟨rfl, plc_fam os _⟩, ?_⟩
  rw [plc_get m2]
  conv => whnf
  refine ⟨Nat.le_of_ble_eq_true rfl, ?_⟩
  conv => whnf
  refine ⟨rfl, ?_⟩
  conv => whnf
  refine ⟨encI.sortd [(plc os p.1.1 : Int), (plc os p.1.2 : Int)], ?_⟩
  have ne : plc os p.1.1 ≠ plc os p.1.2 := fun z => by
    have lt := (hg.ed _ h1).lt
    have i1 := List.idxOf_lt_length_of_mem m1
    have e1 : os[os.idxOf p.1.1] = p.1.1 := List.getElem_idxOf i1
    have i2 := List.idxOf_lt_length_of_mem m2
    have e2 : os[os.idxOf p.1.2] = p.1.2 := List.getElem_idxOf i2
    have : p.1.1 = p.1.2 := by rw [← e1, ← e2]; congr 1
    rw [this] at lt
    have := encS.irr p.1.2
    rw [show encS.lt p.1.2 p.1.2 = strLt p.1.2 p.1.2 from rfl, lt] at this
    cases this
  have e : sortP [.int (plc os p.1.1 : Nat), .int (plc os p.1.2 : Nat)] = [.int (min (plc os p.1.1) (plc os p.1.2) : Nat), .int (max (plc os p.1.1) (plc os p.1.2) : Nat)] := by
    have := encI.sortP [(plc os p.1.1 : Int), (plc os p.1.2 : Int)]
    rw [srt2 (by omega)] at this
    refine Eq.trans this ?_
    split
    · rw [show min (plc os p.1.1) (plc os p.1.2) = plc os p.1.1 by omega, show max (plc os p.1.1) (plc os p.1.2) = plc os p.1.2 by omega]; rfl
    · rw [show min (plc os p.1.1) (plc os p.1.2) = plc os p.1.2 by omega, show max (plc os p.1.1) (plc os p.1.2) = plc os p.1.1 by omega]; rfl
  rw [e]
  unfold altB at h
  generalize min (plc os p.1.1) (plc os p.1.2) = l at h ⊢
  generalize max (plc os p.1.1) (plc os p.1.2) = m at h ⊢
  conv => whnf
  refine ⟨rfl, ?_⟩
  conv => whnf
  refine ⟨rfl, ?_⟩
  have ins : ∀ v : Str, v ∈ os → (decide ((l : Int) < (plc os v : Int)) && decide ((plc os v : Int) < (m : Int))) = decide (l < plc os v ∧ plc os v < m) := fun v hv => by
    rw [Bool.eq_iff_iff]; simp only [Bool.and_eq_true, decide_eq_true_eq]; omega
  refine runC_sel PV.str (fun v => decide (l < plc os v ∧ plc os v < m)) PV.str [p.2.1, p.2.2] (fun v hv R R0 h1 h0 => ?_) ?_
  · have hv : v ∈ os := by
      rcases List.mem_cons.mp hv with rfl | hv
      · exact m3
      · rw [List.mem_singleton] at hv; subst hv; exact m4
    conv => whnf
    refine ⟨⟨rfl, plc_fam os _⟩, ?_⟩
    rw [plc_get hv]
    conv => whnf
    by_cases c1 : l < plc os v
    · refine dec_yes ?_ ?_
      · exact decide_eq_true (Int.ofNat_lt.mpr c1)
      conv => whnf
      by_cases c2 : plc os v < m
      · refine dec_yes ?_ ?_
        · exact decide_eq_true (Int.ofNat_lt.mpr c2)
        exact h1 (decide_eq_true ⟨c1, c2⟩)
      · refine dec_no ?_ ?_
        · exact fun z => c2 (Int.ofNat_lt.mp (of_decide_eq_true z))
        exact h0 (decide_eq_false fun z => c2 z.2)
    · refine dec_no ?_ ?_
      · exact fun z => c1 (Int.ofNat_lt.mp (of_decide_eq_true z))
      exact h0 (decide_eq_false fun z => c1 z.1)
  · conv => whnf
    have e2 : decide ((((([p.2.1, p.2.2].filter fun v => decide (l < plc os v ∧ plc os v < m)).map PV.str).length : Nat) : Int) = 1) = decide ((l < plc os p.2.1 ∧ plc os p.2.1 < m) ≠ (l < plc os p.2.2 ∧ plc os p.2.2 < m)) := by
      rw [List.length_map, List.filter_cons, List.filter_cons, List.filter_nil]
      by_cases a : l < plc os p.2.1 ∧ plc os p.2.1 < m <;> by_cases b : l < plc os p.2.2 ∧ plc os p.2.2 < m <;> simp [a, b]
    rw [e2]
    exact h
theorem hq_convex (C : Addr) : ∀ ss Q, g_convex C ss Q → q_convex C (bodyEnds 2 Q) (startE 6 ss) := by
  rintro _ Q ⟨ns, es, v, os, hg, pm, hv, rfl, h⟩
  have n8 := hg.n8
  have ln : os.length = ns.length := pm.length_eq
  have tail : storeS 4 (.fr (.dic (plcD os))) [.val (pG C ns es), .val v, .no, .no, .no, .no] (sRet (qLc (iqAny (qCallK (g_pairs C) (aCons (qVar 0) aNil))) (gqName 5) (qTb (qCallK (g_alternates C) (aCons (qFrz (qVar 4)) (aCons (qVar 5) aNil)))) (qVar 5) [5]) (bodyEnds 2 Q)) := by
    conv => whnf
    refine ⟨ns, es, hg, rfl, ?_⟩
    conv => whnf
    refine ⟨rfl, ?_⟩
    conv => whnf
    refine ⟨rfl, ?_⟩
    refine runC_rec pP (fun todo acc e => (∀ p ∈ todo, p ∈ prs es) ∧ acc ++ (todo.filter (altB os)).map pP = (cvx es os).map pP ∧ (e = [.val (pG C ns es), .val v, .no, .no, .own (.dic (plcD os)), .no] ∨ e = [.val (pG C ns es), .val v, .no, .no, .val (.dic (plcD os)), .no])) (prs es) [] _ ⟨fun _ h => h, rfl, .inl rfl⟩ ?_ ?_
    · rintro x xs acc e R R0 ⟨hx, hF, he⟩ hR hR0
      have xp := hx x List.mem_cons_self
      rw [List.filter_cons] at hF
      rcases he with rfl | rfl
      all_goals
        conv => whnf
        refine ⟨os, ns, es, x, pm, hg, xp, rfl, ?_⟩
        cases c : altB os x with
        | true =>
          rw [c] at hF
          exact hR (pP x) _ ⟨fun p hp => hx p (List.mem_cons_of_mem _ hp), by rw [List.append_assoc]; exact hF, .inr rfl⟩
        | false =>
          rw [c] at hF
          exact hR0 _ ⟨fun p hp => hx p (List.mem_cons_of_mem _ hp), hF, .inr rfl⟩
    · rintro acc e ⟨_, hF, he⟩
      have hF : acc = (cvx es os).map pP := by simpa using hF
      subst hF
      rcases he with rfl | rfl <;> exact h
  conv => whnf
  refine ⟨ns, es, v, os, hg, pm, hv, rfl, ?_⟩
  rcases hv with rfl | rfl
  all_goals
    conv => whnf
    refine ⟨rfl, ?_⟩
    conv => whnf
    rw [numbered_map]
    refine runD_new encS (fun x : Str × Nat => .tup [.int (x.2 : Nat), .str x.1]) (fun x => x.1) (fun x => .int (x.2 : Nat)) kA_s os.zipIdx [] (by rw [List.length_zipIdx]; simp; unfold SZ; omega) (by rw [List.zipIdx_map_fst]; exact pm.nodup_iff.mpr hg.nd) (fun x _ p hp => nomatch hp) (fun x hx R R0 hR => ?_) ?_
    · conv => whnf
      exact hR
    exact tail
end CP
/-! The laws' own defs: what they promise. What is drawn may be anything. -/
namespace CP
open PySem PySem.Spec PyProof.Rows L2
abbrev Src := Int × Int × Int
def srcP (s : Src) : PV := .lst [.int s.1, .int s.2.1, .int s.2.2]
def g__law_cell_at (C : Addr) : PG1 := fun ss Q => ∃ (xs : List Int) (k : Nat), ss = [.val (.scr (xs.map .int)), .val (.int k)] ∧ ∀ c : Int, Q (.sh (.int c)) ss
def g__law_source_of (C : Addr) : PG1 := fun ss Q => ∃ c : Int, ss = [.val (.int c)] ∧ ∀ (s : Src) (c' : Int), Q (.fr (srcP s)) [.val (.int c')]
def g__law_next (C : Addr) : PG1 := fun ss Q => ∃ (s : Src) (m : Nat), (0 < m ∧ m < 1000000) ∧ ss = [.io (srcP s), .val (.int m)] ∧ ∀ (n : Nat) (s' : Src), n < m → Q (.sh (.int n)) [.io (srcP s'), .val (.int m)]
def g__law_one (C : Addr) : PG1 := fun ss Q => ∃ (s : Src) (xs : List PV), (xs ≠ [] ∧ xs.length < 100000) ∧ ss = [.io (srcP s), .val (.lst xs)] ∧ ∀ (x : PV) (s' : Src), x ∈ xs → Q (.sh x) [.io (srcP s'), .val (.lst xs)]
def g__law_mixed (C : Addr) : PG1 := fun ss Q => ∃ (s : Src) (xs : List PV), (Shp (.lst xs) ∧ xs.length < 100000) ∧ ss = [.io (srcP s), .val (.lst xs)] ∧ ∀ (ys : List PV) (s' : Src), ys.Perm xs → Q (.fr (.lst ys)) [.io (srcP s'), .val (.lst xs)]
/-- the names that graphs are made of -/
def eight : List Str := ["a", "ab", "b", "x", "zzzzzzzz", "node", "k", "c"]
def g__law_graph (C : Addr) : PG1 := fun ss Q => ∃ (s : Src) (m : Nat), (0 < m ∧ m ≤ 8) ∧ ss = [.io (srcP s), .val (.int m)] ∧ ∀ (ns : List Str) (es : List Ed2) (s' : Src), GrIn ns es ∧ ns.length ≤ m → Q (.sh (.tup [.lst (ns.map .str), .lst (es.map pE)])) [.io (srcP s'), .val (.int m)]
/-- edges that may stand in a graph -/
structure EdsOk (es : List Ed2) : Prop where
  nd : es.Nodup
  ok : encE.oks es = true
  few : es.length ≤ 100
def g__law_pairs (C : Addr) : PG1 := fun ss Q => ∃ es : List Ed2, EdsOk es ∧ ss = [.val (.lst (es.map pE))] ∧ Q (.fr (.lst ((prs (encE.srtd es)).map pP))) ss
def g__law_flips (C : Addr) : PG1 := fun ss Q => ∃ (es : List Ed2) (c : Ca2), (encE.oks es = true ∧ encC.ok c = true ∧ es.length ≤ 1000) ∧ ss = [.val (.lst (es.map pE)), .val (pE c.1), .val (.str c.2)] ∧ Q (.fr (.lst ((flips es c).map pP))) ss
def g__law_carries (C : Addr) : PG1 := fun ss Q => ∃ (ns : List Str) (es : List Ed2), (encS.oks ns = true ∧ encE.oks es = true ∧ ns.length ≤ 100 ∧ es.length ≤ 100) ∧ ss = [.val (.lst (ns.map .str)), .val (.lst (es.map pE))] ∧ Q (.fr (.lst ((everyC ns (encE.srtd es)).map pC))) ss
def tog (r c : List Pr2) : List Pr2 := encPr.srtd ((r.filter fun p => decide (p ∉ c)) ++ c.filter fun p => decide (p ∉ r))
def g__law_toggled (C : Addr) : PG1 := fun ss Q => ∃ r c : List Pr2, (encPr.oks r = true ∧ encPr.oks c = true ∧ r.length ≤ 1000 ∧ c.length ≤ 1000) ∧ ss = [.val (.lst (r.map pP)), .val (.lst (c.map pP))] ∧ Q (.fr (.lst ((tog r c).map pP))) ss
def g__law_subset (C : Addr) : PG1 := fun ss Q => ∃ (s : Src) (xs : List PV), (Shp (.lst xs) ∧ xs.length < 1000) ∧ ss = [.io (srcP s), .val (.lst xs)] ∧ ∀ (ys : List PV) (s' : Src), ys.Sublist xs → Q (.fr (.lst ys)) [.io (srcP s'), .val (.lst xs)]
def g__law_bits (C : Addr) : PG1 := fun ss Q => ∃ P r : List Pr2, (encPr.oks P = true ∧ P.Nodup ∧ r.Nodup ∧ (∀ p ∈ r, p ∈ P) ∧ P.length ≤ 1000) ∧ ss = [.val (.lst (P.map pP)), .val (.lst (r.map pP))] ∧ Q (.sh (.int ((nmf (fun p => decide (p ∈ r)) P : Nat) : Int))) ss
/-- the carries' flips, as numbers -/
def rowsU (ns : List Str) (es : List Ed2) : List Nat := (everyC ns (encE.srtd es)).map fun c => nmf (fun p => decide (p ∈ flips es c)) (prs (encE.srtd es))
def g__law_rows (C : Addr) : PG1 := fun ss Q => ∃ (ns : List Str) (es : List Ed2), GrIn ns es ∧ ss = [.val (.lst (ns.map .str)), .val (.lst (es.map pE)), .val (.lst ((prs (encE.srtd es)).map pP))] ∧ Q (.fr (.lst ((rowsU ns es).map fun n => .int (n : Nat)))) ss
def g__law_odd (C : Addr) : PG1 := fun ss Q => ∃ n : Nat, ss = [.val (.int n)] ∧ ∀ c : Int, Q (.sh (.bl (par n))) [.val (.int c)]
def g__law_even_sets (C : Addr) : PG1 := fun ss Q => ∃ (rows : List Nat) (k : Nat), (rows.length ≤ 1000 ∧ k ≤ 1000) ∧ ss = [.val (.lst (rows.map fun n => .int (n : Nat))), .val (.int k)] ∧ Q (.fr (.lst ((evens rows k).map fun n => .int (n : Nat)))) ss
/-- even to all carries, by the law's own count -/
def evenU (ns : List Str) (es : List Ed2) (r : List Pr2) : Prop := ∀ c ∈ everyC ns (encE.srtd es), cpar (flips es c) r = 0
def g__law_some_witness (C : Addr) : PG1 := fun ss Q => ∃ (s : Src) (ns : List Str) (es : List Ed2), GrIn ns es ∧ ss = [.io (srcP s), .val (.lst (ns.map .str)), .val (.lst (es.map pE))] ∧ ∀ (w : List Pr2) (s' : Src), w.Sublist (prs (encE.srtd es)) ∧ evenU ns es w → Q (.fr (.lst (w.map pP))) [.io (srcP s'), .val (.lst (ns.map .str)), .val (.lst (es.map pE))]
def g__law_some_carries (C : Addr) : PG1 := fun ss Q => ∃ (s : Src) (ns : List Str) (es : List Ed2), GrIn ns es ∧ ss = [.io (srcP s), .val (.lst (ns.map .str)), .val (.lst (es.map pE))] ∧ ∀ (cs : List Ca2) (s' : Src), (∀ c ∈ cs, CaOk ns es c) ∧ cs.length ≤ 20 → Q (.fr (.lst (cs.map pC))) [.io (srcP s'), .val (.lst (ns.map .str)), .val (.lst (es.map pE))]
def g_law (C : Addr) : PG1 := fun ss Q => ∃ xs : List Int, xs.length ≤ 63 ∧ ss = [.val (.scr (xs.map .int))] ∧ Q (.sh (.bl true)) ss
end CP
/-! the readings of the defs (by tools/mkq.py) -/
namespace CP
open PySem PySem.Spec PyProof.Rows L2
/-- _law_cell_at(_law_script, _law_k); slots 0 _law_script 1 _law_k -/
def q__law_cell_at (C : Addr) : QS := (sSeq (sIf (qTst gLt (qVar 1) (qCB gLenU (bCons (qVar 0) bNil))) (sRet (qIxU (qVar 0) (qVar 1))) sNil)
  (sRet (qC (.int (0)))))
/-- _law_source_of(_law_cell); slots 0 _law_cell -/
def q__law_source_of (C : Addr) : QS := (sSeq (sSet 0 (qIf (qTst gGe (qVar 0) (qC (.int (0)))) (qVar 0) (qSub (qSub (qC (.int (0))) (qMul (qC (.int (3))) (qVar 0))) (qC (.int (1))))))
  (sRet (qLst (aCons (qMul (qVar 0) (qCB gIntC (bCons (qCmp gGe (qVar 0) (qPow (qC (.int (10))) (qC (.int (18))))) bNil))) (aCons (qMod (qVar 0) (qC (.int (2147483647)))) (aCons (qC (.int (0))) aNil))))))
/-- _law_next(_law_source, _law_many); slots 0 _law_source 1 _law_many 2 _law_found 3 _law_prime 4 _law_number -/
def q__law_next (C : Addr) : QS := (sSeq (sIf (qTst gGt (qIxU (qVar 0) (qC (.int (0)))) (qC (.int (0)))) (sSeq (sSet 2 (qMod (qIxU (qVar 0) (qC (.int (0)))) (qVar 1)))
  (sSeq (sSetU 0 (qDiv (qIxU (qVar 0) (qC (.int (0)))) (qVar 1)) (qC (.int (0))))
  (sRet (qVar 2)))) sNil)
  (sSeq (sSetU 0 (qAdd (qIxU (qVar 0) (qC (.int (2)))) (qC (.int (1)))) (qC (.int (2))))
  (sSeq (sSet 3 (qC (.int (2147483647))))
  (sSeq (sSet 4 (qMod (qAdd (qAdd (qIxU (qVar 0) (qC (.int (1)))) (qMul (qC (.int (104729))) (qIxU (qVar 0) (qC (.int (2)))))) (qC (.int (7919)))) (qVar 3)))
  (sSeq (sSet 4 (qMod (qMul (qVar 4) (qC (.int (48271)))) (qVar 3)))
  (sSeq (sSet 4 (qMod (qMul (qVar 4) (qAdd (qDiv (qVar 4) (qC (.int (1009)))) (qC (.int (69621))))) (qVar 3)))
  (sSeq (sSet 4 (qMod (qMul (qVar 4) (qAdd (qDiv (qVar 4) (qC (.int (2003)))) (qC (.int (40692))))) (qC (.int (2147483399)))))
  (sRet (qMod (qDiv (qVar 4) (qC (.int (7)))) (qVar 1))))))))))
/-- _law_one(_law_source, _law_some); slots 0 _law_source 1 _law_some -/
def q__law_one (C : Addr) : QS := (sRet (qIxU (qVar 1) (qCall (g__law_next C) (lLendM 0 (lKeep (qCB gLenU (bCons (qVar 1) bNil)) lNil)))))
/-- _law_mixed(_law_source, _law_some); slots 0 _law_source 1 _law_some 2 _law_left 3 _law_found -/
def q__law_mixed (C : Addr) : QS := (sSeq (sSet 2 (qCB gListU (bCons (qVar 1) bNil)))
  (sSeq (sSet 3 (qLst aNil))
  (sSeq (sWhile (qTst gNe (qVar 2) (qLst aNil)) (sExpr (qLm 3 (aCons (qMu 2 (aCons (qCall (g__law_next C) (lLendM 0 (lKeep (qCB gLenU (bCons (qVar 2) bNil)) lNil))) aNil) gPopU) aNil) gAppend)))
  (sRet (qVar 3)))))
/-- _law_graph(_law_source, _law_most); slots 0 _law_source 1 _law_most 2 _law_names 3 _law_edges 4 _law_name 5 _law_end 6 _law_limit -/
def q__law_graph (C : Addr) : QS := (sSeq (sSet 2 (qSl (qCall (g__law_mixed C) (lLendM 0 (lKeep (qLst (aCons (qC (.str "a")) (aCons (qC (.str "ab")) (aCons (qC (.str "b")) (aCons (qC (.str "x")) (aCons (qC (.str "zzzzzzzz")) (aCons (qC (.str "node")) (aCons (qC (.str "k")) (aCons (qC (.str "c")) aNil))))))))) lNil))) oNone (oSome (qAdd (qC (.int (1))) (qCall (g__law_next C) (lLendM 0 (lKeep (qVar 1) lNil)))))))
  (sSeq (sSet 3 (qLst aNil))
  (sSeq (sFor (iqAny (qVar 2)) (gqName 4) (sExpr (qLm 3 (aCons (qLc (iqAny (qVar 2)) (gqName 5) (qTst gLt (qVar 4) (qVar 5)) (qTup (aCons (qVar 4) (aCons (qVar 5) aNil))) [5]) aNil) gExtend)))
  (sSeq (sSet 3 (qCall (g__law_mixed C) (lLendM 0 (lKeep (qVar 3) lNil))))
  (sSeq (sSet 6 (qCall (g__law_one C) (lLendM 0 (lKeep (qLst (aCons (qC (.int (18))) (aCons (qAdd (qCB gLenU (bCons (qVar 2) bNil)) (qC (.int (1)))) (aCons (qMul (qC (.int (2))) (qCB gLenU (bCons (qVar 2) bNil))) (aCons (qCall (g__law_next C) (lLendM 0 (lKeep (qAdd (qCB gLenU (bCons (qVar 3) bNil)) (qC (.int (1)))) lNil))) aNil))))) lNil))))
  (sRet (qTup (aCons (qVar 2) (aCons (qSl (qVar 3) oNone (oSome (qCA gMin2 (aCons (qVar 6) (aCons (qC (.int (18))) aNil))))) aNil)))))))))
/-- _law_pairs(_law_edges); slots 0 _law_edges 1 _law_found 2 _law_one_here 3 _law_other 4 _law_far -/
def q__law_pairs (C : Addr) : QS := (sSeq (sSet 1 (qLst aNil))
  (sSeq (sFor (iqAny (qCB gSortedU (bCons (qVar 0) bNil))) (gqName 2) (sSeq (sSet 4 (qLc (iqAny (qCB gSortedU (bCons (qVar 0) bNil))) (gqName 3) (qAnd (qTst gNotIn (qIxU (qVar 2) (qC (.int (0)))) (qVar 3)) (qTst gNotIn (qIxU (qVar 2) (qC (.int (1)))) (qVar 3))) (qVar 3) [3]))
  (sExpr (qLm 1 (aCons (qLc (iqAny (qVar 4)) (gqName 3) (qTst gLt (qVar 2) (qVar 3)) (qTup (aCons (qVar 2) (aCons (qVar 3) aNil))) [3]) aNil) gExtend))))
  (sRet (qVar 1))))
/-- _law_flips(_law_edges, _law_edge, _law_vertex); slots 0 _law_edges 1 _law_edge 2 _law_vertex 3 _law_other 4 _law_partners -/
def q__law_flips (C : Addr) : QS := (sSeq (sSet 4 (qLc (iqAny (qVar 0)) (gqName 3) (qAnd (qTst gInQ (qVar 2) (qVar 3)) (qAnd (qTst gNotIn (qIxU (qVar 1) (qC (.int (0)))) (qVar 3)) (qTst gNotIn (qIxU (qVar 1) (qC (.int (1)))) (qVar 3)))) (qVar 3) [3]))
  (sRet (qLc (iqAny (qVar 4)) (gqName 3) qYes (qTup (aCons (qCA gMin2 (aCons (qVar 1) (aCons (qVar 3) aNil))) (aCons (qCA gMax2 (aCons (qVar 1) (aCons (qVar 3) aNil))) aNil))) [3])))
/-- _law_carries(_law_names, _law_edges); slots 0 _law_names 1 _law_edges 2 _law_found 3 _law_edge 4 _law_vertex -/
def q__law_carries (C : Addr) : QS := (sSeq (sSet 2 (qLst aNil))
  (sSeq (sFor (iqAny (qCB gSortedU (bCons (qVar 1) bNil))) (gqName 3) (sExpr (qLm 2 (aCons (qLc (iqAny (qCB gSortedU (bCons (qVar 0) bNil))) (gqName 4) (qTst gNotIn (qVar 4) (qVar 3)) (qTup (aCons (qVar 3) (aCons (qVar 4) aNil))) [4]) aNil) gExtend)))
  (sRet (qVar 2))))
/-- _law_toggled(_law_record, _law_changed); slots 0 _law_record 1 _law_changed 2 _law_pair -/
def q__law_toggled (C : Addr) : QS := (sRet (qCB gSortedU (bCons (qAdd (qLc (iqAny (qVar 0)) (gqName 2) (qTst gNotIn (qVar 2) (qVar 1)) (qVar 2) [2]) (qLc (iqAny (qVar 1)) (gqName 2) (qTst gNotIn (qVar 2) (qVar 0)) (qVar 2) [2])) bNil)))
/-- _law_subset(_law_source, _law_items); slots 0 _law_source 1 _law_items 2 _law_way 3 _law_item -/
def q__law_subset (C : Addr) : QS := (sSeq (sSet 2 (qCall (g__law_next C) (lLendM 0 (lKeep (qC (.int (5))) lNil))))
  (sSeq (sIf (qOr (qTst gEq (qVar 2) (qC (.int (0)))) (qTst gEq (qVar 1) (qLst aNil))) (sRet (qLst aNil)) sNil)
  (sSeq (sIf (qTst gEq (qVar 2) (qC (.int (1)))) (sRet (qCB gListU (bCons (qVar 1) bNil))) sNil)
  (sSeq (sIf (qTst gEq (qVar 2) (qC (.int (2)))) (sRet (qLst (aCons (qCall (g__law_one C) (lLendM 0 (lKeep (qVar 1) lNil))) aNil))) sNil)
  (sRet (qLc (iqAny (qVar 1)) (gqName 3) (qTst gEq (qCall (g__law_next C) (lLendM 0 (lKeep (qC (.int (2))) lNil))) (qC (.int (0)))) (qVar 3) [3]))))))
/-- _law_bits(_law_items, _law_record); slots 0 _law_items 1 _law_record 2 _law_item -/
def q__law_bits (C : Addr) : QS := (sRet (qCB gSum (bCons (qLc (iqAny (qVar 1)) (gqName 2) qYes (qShl (qC (.int (1))) (qIdx (qVar 0) (aCons (qVar 2) aNil))) [2]) bNil)))
/-- _law_rows(_law_names, _law_edges, _law_items); slots 0 _law_names 1 _law_edges 2 _law_items 3 _law_edge 4 _law_vertex -/
def q__law_rows (C : Addr) : QS := (sRet (qLc (iqAny (qCallK (g__law_carries C) (aCons (qVar 0) (aCons (qVar 1) aNil)))) (gqTup 2 (gqCons (gqName 3) (gqCons (gqName 4) gqNil))) qYes (qCallK (g__law_bits C) (aCons (qVar 2) (aCons (qCallK (g__law_flips C) (aCons (qVar 1) (aCons (qVar 3) (aCons (qVar 4) aNil)))) aNil))) [3, 4]))
/-- _law_odd(_law_bits_here); slots 0 _law_bits_here 1 _law_odd_here -/
def q__law_odd (C : Addr) : QS := (sSeq (sSet 1 (qC (.bl false)))
  (sSeq (sWhile (qTst gGt (qVar 0) (qC (.int (0)))) (sSeq (sSet 0 (qBand (qVar 0) (qSub (qVar 0) (qC (.int (1))))))
  (sSet 1 (qNotV (qVar 1)))))
  (sRet (qVar 1))))
/-- _law_even_sets(_law_rows_here, _law_size); slots 0 _law_rows_here 1 _law_size 2 _law_at 3 _law_found 4 _law_row 5 _law_bits_here 6 _law_marks 7 _law_mark 8 _law_odd_here -/
def q__law_even_sets (C : Addr) : QS := (sSeq (sSet 3 (qLc (iqRng1 (aCons (qVar 1) aNil)) (gqName 2) qYes (qShl (qC (.int (1))) (qVar 2)) [2]))
  (sSeq (sFor (iqAny (qVar 0)) (gqName 4) (sSeq (sSet 6 (qLc (iqAny (qVar 3)) (gqName 5) qYes (qCallK (g__law_odd C) (aCons (qBand (qVar 5) (qVar 4)) aNil)) [5]))
  (sSeq (sSet 8 (qLc (iqZip (aCons (qVar 3) (aCons (qVar 6) aNil))) (gqTup 2 (gqCons (gqName 5) (gqCons (gqName 7) gqNil))) (qTb (qVar 7)) (qVar 5) [5, 7]))
  (sSet 3 (qAdd (qLc (iqZip (aCons (qVar 3) (aCons (qVar 6) aNil))) (gqTup 2 (gqCons (gqName 5) (gqCons (gqName 7) gqNil))) (qNot (qTb (qVar 7))) (qVar 5) [5, 7]) (qLc (iqAny (qSl (qVar 8) (oSome (qC (.int (1)))) oNone)) (gqName 5) qYes (qXor (qVar 5) (qIxU (qVar 8) (qC (.int (0))))) [5]))))))
  (sRet (qVar 3))))
/-- _law_some_witness(_law_source, _law_names, _law_edges); slots 0 _law_source 1 _law_names 2 _law_edges 3 _law_items 4 _law_total 5 _law_bits_here 6 _law_at 7 _law_item -/
def q__law_some_witness (C : Addr) : QS := (sSeq (sSet 3 (qCallK (g__law_pairs C) (aCons (qVar 2) aNil)))
  (sSeq (sSet 4 (qC (.int (0))))
  (sSeq (sFor (iqAny (qCallK (g__law_even_sets C) (aCons (qCallK (g__law_rows C) (aCons (qVar 1) (aCons (qVar 2) (aCons (qVar 3) aNil)))) (aCons (qCB gLenU (bCons (qVar 3) bNil)) aNil)))) (gqName 5) (sSet 4 (qXor (qVar 4) (qMul (qVar 5) (qCB gIntC (bCons (qCmp gEq (qCall (g__law_next C) (lLendM 0 (lKeep (qC (.int (2))) lNil))) (qC (.int (0)))) bNil))))))
  (sRet (qLc (iqEnum (aCons (qVar 3) aNil)) (gqTup 2 (gqCons (gqName 6) (gqCons (gqName 7) gqNil))) (qTst gEq (qBand (qShr (qVar 4) (qVar 6)) (qC (.int (1)))) (qC (.int (1)))) (qVar 7) [6, 7])))))
/-- _law_some_carries(_law_source, _law_names, _law_edges); slots 0 _law_source 1 _law_names 2 _law_edges 3 _law_some 4 _law_found 5 _law_k -/
def q__law_some_carries (C : Addr) : QS := (sSeq (sSet 3 (qCallK (g__law_carries C) (aCons (qVar 1) (aCons (qVar 2) aNil))))
  (sSeq (sSet 4 (qLst aNil))
  (sSeq (sFor (iqRng1 (aCons (qMul (qCall (g__law_next C) (lLendM 0 (lKeep (qC (.int (12))) lNil))) (qCB gIntC (bCons (qCmp gNe (qVar 3) (qLst aNil)) bNil))) aNil)) (gqName 5) (sExpr (qLm 4 (aCons (qCall (g__law_one C) (lLendM 0 (lKeep (qVar 3) lNil))) aNil) gAppend)))
  (sRet (qVar 4)))))
/-- law(_law_script); slots 0 _law_script 1 _law_cell 2 _law_source 3 _law_names 4 _law_edges 5 _law_graph_here 6 _law_items 7 _law_sample_witnesses 8 _law_both 9 _law_one_here 10 _law_other 11 _law_later 12 _law_sample_witness 13 _law_charges_so 14 _law_total -/
def q_law_k08 (C : Addr) : QS := (sSeq (sFor (iqAny (qAdd (qLst (aCons (qCallK (g__law_cell_at C) (aCons (qVar 0) (aCons (qC (.int (0))) aNil))) aNil)) (qSl (qVar 0) (oSome (qC (.int (1)))) (oSome (qC (.int (2))))))) (gqName 1) (sSeq (sSet 2 (qCallK (g__law_source_of C) (aCons (qVar 1) aNil)))
  (sSeq (sAsg (qCall (g__law_graph C) (lLendM 2 (lKeep (qC (.int (8))) lNil))) (gqTup 2 (gqCons (gqName 3) (gqCons (gqName 4) gqNil))))
  (sSeq (sSet 4 (qSl (qVar 4) oNone (oSome (qC (.int (14))))))
  (sSeq (sSet 5 (qMake C (g_Graph C) (aCons (qVar 3) (aCons (qVar 4) aNil))))
  (sSeq (sSet 6 (qCallK (g__law_pairs C) (aCons (qVar 4) aNil)))
  (sSeq (sSet 7 (qLst (aCons (qCall (g__law_some_witness C) (lLendM 2 (lKeep (qVar 3) (lKeep (qVar 4) lNil)))) (aCons (qCall (g__law_some_witness C) (lLendM 2 (lKeep (qVar 3) (lKeep (qVar 4) lNil)))) aNil))))
  (sSeq (sSet 8 (qCallK (g__law_toggled C) (aCons (qIxU (qVar 7) (qC (.int (0)))) (aCons (qIxU (qVar 7) (qC (.int (1)))) aNil))))
  (sSeq (sAsg (qTup (aCons (qCall (g__law_subset C) (lLendM 2 (lKeep (qVar 6) lNil))) (aCons (qCall (g__law_subset C) (lLendM 2 (lKeep (qVar 6) lNil))) aNil))) (gqTup 2 (gqCons (gqName 9) (gqCons (gqName 10) gqNil))))
  (sSeq (sSet 11 (qCallK (g_carried C) (aCons (qVar 5) (aCons (qVar 9) (aCons (qCall (g__law_some_carries C) (lLendM 2 (lKeep (qVar 3) (lKeep (qVar 4) lNil)))) aNil)))))
  (sSeq (sSet 13 (qLc (iqAny (qVar 7)) (gqName 12) qYes (qCallK (g_charge C) (aCons (qVar 5) (aCons (qVar 9) (aCons (qVar 12) aNil)))) [12]))
  (sSeq (sIf (qTst gNe (qLc (iqAny (qVar 7)) (gqName 12) qYes (qCallK (g_charge C) (aCons (qVar 5) (aCons (qVar 11) (aCons (qVar 12) aNil)))) [12]) (qVar 13)) (sRet (qC (.bl false))) sNil)
  (sSeq (sIf (qOr (qNot (qTb (qCallK (g_is_witness C) (aCons (qVar 5) (aCons (qVar 8) aNil))))) (qTst gNe (qCallK (g_charge C) (aCons (qVar 5) (aCons (qVar 9) (aCons (qVar 8) aNil)))) (qMod (qCB gSum (bCons (qVar 13) bNil)) (qC (.int (2)))))) (sRet (qC (.bl false))) sNil)
  (sSeq (sFor (iqAny (qAdd (qVar 7) (qLst (aCons (qVar 8) aNil)))) (gqName 12) (sSeq (sSet 14 (qAdd (qCallK (g_charge C) (aCons (qVar 5) (aCons (qVar 9) (aCons (qVar 12) aNil)))) (qCallK (g_charge C) (aCons (qVar 5) (aCons (qVar 10) (aCons (qVar 12) aNil))))))
  (sIf (qTst gNe (qCallK (g_charge C) (aCons (qVar 5) (aCons (qCallK (g__law_toggled C) (aCons (qVar 9) (aCons (qVar 10) aNil))) (aCons (qVar 12) aNil)))) (qMod (qVar 14) (qC (.int (2))))) (sRet (qC (.bl false))) sNil)))
  (sIf (qTst gNe (qCallK (g_is_witness C) (aCons (qVar 5) (aCons (qCallK (g__law_toggled C) (aCons (qVar 9) (aCons (qVar 8) aNil))) aNil))) (qCallK (g_is_witness C) (aCons (qVar 5) (aCons (qVar 9) aNil)))) (sRet (qC (.bl false))) sNil)))))))))))))))
  (sRet (qC (.bl true))))
end CP
/-! The laws' draws. -/
namespace CP
open PySem PySem.Spec PyProof.Rows L2
theorem dec_any {p : Prop} {i : Decidable p} {A : ¬ p → Prop} {B : p → Prop} (hp : ∀ h, B h) (hn : ∀ h, A h) : @Decidable.rec p (fun _ => Prop) A B i := by
  cases i with
  | isTrue h => exact hp h
  | isFalse h => exact hn h
theorem ixN_natQ {n j : Nat} (hj : j < n) : ixN n (j : Int) = some j := by
  unfold ixN
  rw [if_pos (by omega), if_pos (by omega)]
  simp
theorem modB (x : Int) : -(2 ^ 64) < x % 2147483647 ∧ x % 2147483647 < 2 ^ 64 := by
  have h1 := Int.emod_nonneg x (show (2147483647 : Int) ≠ 0 by decide)
  have h2 := Int.emod_lt_of_pos x (show (0 : Int) < 2147483647 by decide)
  omega
theorem hq__law_cell_at (C : Addr) : ∀ ss Q, g__law_cell_at C ss Q → q__law_cell_at C (bodyEnds 2 Q) (startE 2 ss) := by
  rintro _ Q ⟨xs, k, rfl, h⟩
  by_cases c : k < xs.length
  · conv => whnf
    refine dec_any (fun _ => ?_) (fun z => absurd (decide_eq_true (by rw [List.length_map]; omega)) z)
    conv => whnf
    have : atI (xs.map PV.int) (k : Int) = some (.int xs[k]) := by
      unfold atI
      rw [ixN_natQ (by rw [List.length_map]; exact c)]
      show (xs.map PV.int)[k]? = _
      rw [List.getElem?_map, List.getElem?_eq_getElem c]; rfl
    rw [this]
    exact h _
  · conv => whnf
    refine dec_any (fun z => absurd (of_decide_eq_true z) (by rw [List.length_map]; omega)) (fun _ => ?_)
    exact h 0
theorem hq__law_source_of (C : Addr) : ∀ ss Q, g__law_source_of C ss Q → q__law_source_of C (bodyEnds 1 Q) (startE 1 ss) := by
  rintro _ Q ⟨c, rfl, h⟩
  have tail : ∀ c2 : Int, sRet (qLst (aCons (qMul (qVar 0) (qCB gIntC (bCons (qCmp gGe (qVar 0) (qPow (qC (.int (10))) (qC (.int (18))))) bNil))) (aCons (qMod (qVar 0) (qC (.int (2147483647)))) (aCons (qC (.int (0))) aNil)))) (bodyEnds 1 Q) [.val (.int c2)] := by
    intro c2
    conv => whnf
    refine ⟨⟨by decide, by decide, by decide⟩, ?_⟩
    conv => whnf
    refine ⟨.inr ?_, ?_⟩
    · split <;> exact ⟨by decide, by decide⟩
    conv => whnf
    refine ⟨(by decide : (0 : Int) < 2147483647), ?_⟩
    conv => whnf
    refine ⟨Nat.le_of_ble_eq_true rfl, ?_⟩
    conv => whnf
    exact h (_, _, _) c2
  conv => whnf
  refine dec_any (fun _ => tail _) (fun _ => ?_)
  conv => whnf
  refine ⟨.inl ⟨by decide, by decide⟩, ?_⟩
  conv => whnf
  refine ⟨trivial, ?_⟩
  conv => whnf
  refine ⟨trivial, ?_⟩
  exact tail _
theorem hq__law_next (C : Addr) : ∀ ss Q, g__law_next C ss Q → q__law_next C (bodyEnds 2 Q) (startE 5 ss) := by
  rintro _ Q ⟨⟨a, b, c⟩, m, ⟨m0, m1⟩, rfl, h⟩
  have fin : ∀ (i : Int) (s : Src), Q (.sh (.int (i % (m : Int)))) [.io (srcP s), .val (.int m)] := fun i s => by
    have h1 := Int.emod_nonneg i (show (m : Int) ≠ 0 by omega)
    have h2 := Int.emod_lt_of_pos i (show (0 : Int) < m by omega)
    have e : i % (m : Int) = ((i % (m : Int)).toNat : Int) := by omega
    rw [e]
    exact h _ s (by omega)
  conv => whnf
  refine dec_any (fun _ => ?_) (fun _ => ?_)
  · conv => whnf
    refine ⟨(by show (0 : Int) < m; omega), ?_⟩
    conv => whnf
    refine ⟨(by show (0 : Int) < m ∧ (m : Int) < 1073741824; omega), ?_⟩
    conv => whnf
    refine ⟨rfl, ?_⟩
    conv => whnf
    refine ⟨0, rfl, ?_⟩
    exact fin _ (_, _, _)
  · conv => whnf
    refine ⟨rfl, ?_⟩
    conv => whnf
    refine ⟨2, rfl, ?_⟩
    conv => whnf
    refine ⟨.inl ⟨by decide, by decide⟩, ?_⟩
    conv => whnf
    refine ⟨(by decide : (0 : Int) < 2147483647), ?_⟩
    conv => whnf
    refine ⟨.inr ⟨by decide, by decide⟩, ?_⟩
    conv => whnf
    refine ⟨(by decide : (0 : Int) < 2147483647), ?_⟩
    conv => whnf
    refine ⟨(by decide : (0 : Int) < 1009 ∧ (1009 : Int) < 1073741824), ?_⟩
    conv => whnf
    refine ⟨.inl (modB _), ?_⟩
    conv => whnf
    refine ⟨(by decide : (0 : Int) < 2147483647), ?_⟩
    conv => whnf
    refine ⟨(by decide : (0 : Int) < 2003 ∧ (2003 : Int) < 1073741824), ?_⟩
    conv => whnf
    refine ⟨.inl (modB _), ?_⟩
    conv => whnf
    refine ⟨(by decide : (0 : Int) < 2147483399), ?_⟩
    conv => whnf
    refine ⟨(by decide : (0 : Int) < 7 ∧ (7 : Int) < 1073741824), ?_⟩
    conv => whnf
    refine ⟨(by show (0 : Int) < m; omega), ?_⟩
    exact fin _ (a, b, c + 1)
end CP
/-! The laws' draws, II. -/
namespace CP
open PySem PySem.Spec PyProof.Rows L2
theorem shp_iff (xs : List PV) : Shp (.lst xs) ↔ ∀ x ∈ xs, PV.isD x = true ∧ (PV.toD x).canLay0 = true ∧ (PV.toD x).depth ≤ 63 := by
  unfold Shp SeqAt.shaped
  rw [PV.isD, isDs_all]
  have e : PV.toD (.lst xs) = .list (xs.map PV.toD) := by rw [PV.toD, toDs_map]
  rw [e, Bool.and_eq_true_iff, List.all_eq_true, decide_eq_true_iff]
  simp only [PyData.canLay0, PyData.depth]
  have k1 : ∀ ys : List PyData, PyData.canLayAll0 ys = true ↔ ∀ y ∈ ys, y.canLay0 = true := fun ys => by
    induction ys with
    | nil => simp [PyData.canLayAll0]
    | cons y ys ih => simp [PyData.canLayAll0, ih]
  have k2 : ∀ (ys : List PyData), PyData.depthAll ys + 1 ≤ 64 ↔ ∀ y ∈ ys, y.depth ≤ 63 := fun ys => by
    induction ys with
    | nil => simp [PyData.depthAll]
    | cons y ys ih =>
      rw [PyData.depthAll, List.forall_mem_cons, ← ih]; omega
  rw [k1, k2]
  simp only [List.mem_map, forall_exists_index, and_imp, forall_apply_eq_imp_iff₂]
  exact ⟨fun ⟨a, b, c⟩ x hx => ⟨a x hx, b x hx, c x hx⟩, fun h => ⟨fun x hx => (h x hx).1, fun x hx => (h x hx).2.1, fun x hx => (h x hx).2.2⟩⟩
theorem shp_mono {xs ys : List PV} (h : Shp (.lst xs)) (s : ∀ y ∈ ys, y ∈ xs) : Shp (.lst ys) := (shp_iff ys).mpr fun y hy => (shp_iff xs).mp h y (s y hy)
theorem shp_nil : Shp (.lst []) := (shp_iff []).mpr fun x hx => nomatch hx
theorem eqv_nil (xs : List PV) : PyData.eqv (PV.toD (.lst xs)) (PV.toD (.lst [])) = decide (xs = []) := by
  cases xs with
  | nil => simp [PV.toD, PV.toDs, PyData.eqv, PyData.eqvAll]
  | cons x xs => simp [PV.toD, PV.toDs, PyData.eqv, PyData.eqvAll]
theorem at_nat {xs : List PV} {n : Nat} (h : n < xs.length) : atI xs (n : Int) = some xs[n] := by
  unfold atI
  rw [ixN_natQ h]
  show xs[n]? = _
  rw [List.getElem?_eq_getElem h]
theorem nd1 (i : Nat) : [i].Nodup := by simp
theorem hq__law_one (C : Addr) : ∀ ss Q, g__law_one C ss Q → q__law_one C (bodyEnds 2 Q) (startE 2 ss) := by
  rintro _ Q ⟨s, xs, ⟨hx, few⟩, rfl, h⟩
  have pos : 0 < xs.length := List.length_pos_iff.mpr hx
  conv => whnf
  refine ⟨rfl, ?_⟩
  conv => whnf
  refine ⟨nd1 0, ?_⟩
  conv => whnf
  refine ⟨s, xs.length, ⟨pos, by omega⟩, rfl, fun n s' hn => ?_⟩
  conv => whnf
  rw [at_nat hn]
  exact h _ s' (List.getElem_mem hn)
/-- what is left -/
def muLst (i : Nat) (e : PEnv) : Nat := match e[i]? with
  | some (.own (.lst l)) => l.length
  | _ => 0
theorem hq__law_mixed (C : Addr) : ∀ ss Q, g__law_mixed C ss Q → q__law_mixed C (bodyEnds 2 Q) (startE 4 ss) := by
  rintro _ Q ⟨s, xs, ⟨hx, few⟩, rfl, h⟩
  conv => whnf
  refine ⟨Nat.le_of_ble_eq_true rfl, ?_⟩
  conv => whnf
  refine ⟨fun e => ∃ s l f, e = [.io (srcP s), .val (.lst xs), .own (.lst l), .own (.lst f)] ∧ (f ++ l).Perm xs, muLst 2, ⟨s, xs, [], rfl, by simp⟩, ?_⟩
  rintro _ ⟨s, l, f, rfl, pm⟩
  have ll := pm.length_eq
  rw [List.length_append] at ll
  conv => whnf
  refine ⟨Nat.le_of_ble_eq_true rfl, ?_⟩
  conv => whnf
  refine ⟨shp_mono hx fun y hy => pm.mem_iff.mp (List.mem_append_right _ hy), shp_nil, ?_⟩
  rw [eqv_nil]
  by_cases c : l = []
  · subst c
    rw [show decide (([] : List PV) = []) = true from rfl]
    exact h f s (by simpa using pm)
  · rw [decide_eq_false c]
    have pos : 0 < l.length := List.length_pos_iff.mpr c
    conv => whnf
    refine ⟨rfl, ?_⟩
    conv => whnf
    conv => whnf
    refine ⟨rfl, ?_⟩
    conv => whnf
    refine ⟨nd1 0, ?_⟩
    conv => whnf
    refine ⟨s, l.length, ⟨pos, by omega⟩, rfl, fun n s' hn => ?_⟩
    conv => whnf
    refine ⟨⟨by omega, by omega⟩, n, l[n], ixN_natQ hn, List.getElem?_eq_getElem hn, ?_⟩
    conv => whnf
    refine ⟨by unfold SZ; omega, ?_⟩
    have ln : (l.eraseIdx n).length = l.length - 1 := List.length_eraseIdx_of_lt hn
    refine ⟨⟨s', l.eraseIdx n, f ++ [l[n]], rfl, ?_⟩, ?_⟩
    · have p1 : (l[n] :: l.eraseIdx n).Perm l := erase_perm l n _ (List.getElem?_eq_getElem hn)
      have p2 : (f ++ [l[n]] ++ l.eraseIdx n).Perm (f ++ l) := by
        rw [List.append_assoc]
        exact List.Perm.append_left f p1
      exact p2.trans pm
    · show (l.eraseIdx n).length < l.length
      omega
theorem hq__law_subset (C : Addr) : ∀ ss Q, g__law_subset C ss Q → q__law_subset C (bodyEnds 2 Q) (startE 4 ss) := by
  rintro _ Q ⟨s, xs, ⟨hx, few⟩, rfl, h⟩
  conv => whnf
  refine ⟨rfl, ?_⟩
  conv => whnf
  refine ⟨nd1 0, ?_⟩
  conv => whnf
  refine ⟨s, 5, ⟨by decide, by decide⟩, rfl, fun n s1 hn => ?_⟩
  conv => whnf
  refine dec_any (fun _ => ?_) (fun _ => ?_)
  · conv => whnf
    refine ⟨Nat.le_of_ble_eq_true rfl, ?_⟩
    conv => whnf
    exact h [] s1 (List.nil_sublist _)
  conv => whnf
  refine ⟨Nat.le_of_ble_eq_true rfl, ?_⟩
  conv => whnf
  refine ⟨hx, shp_nil, ?_⟩
  rw [eqv_nil]
  by_cases c : xs = []
  · subst c
    conv => whnf
    refine ⟨Nat.le_of_ble_eq_true rfl, ?_⟩
    conv => whnf
    exact h [] s1 (List.nil_sublist _)
  rw [decide_eq_false c]
  have pos : 0 < xs.length := List.length_pos_iff.mpr c
  conv => whnf
  refine dec_any (fun _ => ?_) (fun _ => ?_)
  · exact h xs s1 (List.Sublist.refl _)
  conv => whnf
  refine dec_any (fun _ => ?_) (fun _ => ?_)
  · conv => whnf
    refine ⟨rfl, ?_⟩
    conv => whnf
    refine ⟨nd1 0, ?_⟩
    conv => whnf
    refine ⟨s1, xs, ⟨c, by omega⟩, rfl, fun x s2 hx => ?_⟩
    conv => whnf
    refine ⟨Nat.le_of_ble_eq_true rfl, ?_⟩
    conv => whnf
    exact h [x] s2 (List.singleton_sublist.mpr hx)
  · conv => whnf
    refine ⟨rfl, ?_⟩
    have ex : ∀ k e, runC (gqName 3) (qTst gEq (qCall (g__law_next C) (lLendM 0 (lKeep (qC (.int 2)) lNil))) (qC (.int 0))) (qVar 3) [3] (xs.map fun x => x) [] e k → runC (gqName 3) (qTst gEq (qCall (g__law_next C) (lLendM 0 (lKeep (qC (.int 2)) lNil))) (qC (.int 0))) (qVar 3) [3] xs [] e k := fun k e h => by rw [List.map_id'] at h; exact h
    refine ex _ _ ?_
    refine runC_rec (fun x => x) (fun todo acc e => ∃ s done, e = [.io (srcP s), .val (.lst xs), .val (.int n), .no] ∧ done ++ todo = xs ∧ acc.Sublist done) xs [] _ ⟨s1, [], rfl, rfl, List.Sublist.refl _⟩ ?_ ?_
    · rintro x ys acc _ R R0 ⟨s2, done, rfl, hd, hs⟩ hR hR0
      conv => whnf
      refine ⟨rfl, ?_⟩
      conv => whnf
      refine ⟨nd1 0, ?_⟩
      conv => whnf
      refine ⟨s2, 2, ⟨by decide, by decide⟩, rfl, fun n s3 hn => ?_⟩
      conv => whnf
      refine dec_any (fun _ => ?_) (fun _ => ?_)
      · exact hR x _ ⟨s3, done ++ [x], rfl, by simpa using hd, hs.append (List.Sublist.refl [x])⟩
      · exact hR0 _ ⟨s3, done ++ [x], rfl, by simpa using hd, hs.trans (List.sublist_append_left _ _)⟩
    · rintro acc _ ⟨s2, done, rfl, hd, hs⟩
      have hd : done = xs := by simpa using hd
      subst hd
      exact h acc s2 hs
end CP
/-! The laws' pairs, flips, carries. -/
namespace CP
open PySem PySem.Spec PyProof.Rows L2
theorem oks_mem {α : Type} [DecidableEq α] {A : Enc α} {xs : List α} (h : A.oks xs = true) {x : α} (hx : x ∈ xs) : A.ok x = true := List.all_eq_true.mp h x hx
theorem not_t {p : Prop} [Decidable p] (h : (!decide p) = true) : decide (¬ p) = true := by rw [decide_not]; exact h
theorem not_f {p : Prop} [Decidable p] (h : ¬ (!decide p) = true) : decide (¬ p) = false := by
  rw [decide_not]
  cases q : !decide p with
  | false => rfl
  | true => exact absurd q h
theorem notIn_eq {α : Type} [DecidableEq α] (r : List α) (x : α) : (!decide (x ∈ r)) = decide (x ∉ r) := by rw [← decide_not]
theorem apart_t {e f : Ed2} (z : (!decide (e.1 = f.1 ∨ e.1 = f.2)) = true) (z2 : (!decide (e.2 = f.1 ∨ e.2 = f.2)) = true) : apart e f = true := by
  have a := of_decide_eq_true (not_t z)
  have b := of_decide_eq_true (not_t z2)
  unfold apart
  exact decide_eq_true ⟨fun q => a (.inl q), fun q => a (.inr q), fun q => b (.inl q), fun q => b (.inr q)⟩
theorem apart_f1 {e f : Ed2} (z : ¬ (!decide (e.1 = f.1 ∨ e.1 = f.2)) = true) : apart e f = false := by
  have b := of_decide_eq_false (not_f z)
  unfold apart
  exact decide_eq_false fun ⟨q1, q2, _, _⟩ => b fun q => q.elim q1 q2
theorem apart_f2 {e f : Ed2} (z : ¬ (!decide (e.2 = f.1 ∨ e.2 = f.2)) = true) : apart e f = false := by
  have b := of_decide_eq_false (not_f z)
  unfold apart
  exact decide_eq_false fun ⟨_, _, q1, q2⟩ => b fun q => q.elim q1 q2
theorem alkE (a b : Ed2) : Alk (pE a) (pE b) := by
  refine ⟨encE.isD a, encE.isD b, ⟨fun x hx y hy => ?_, fun x hx => ?_⟩, ?_⟩
  · simp only [List.mem_cons, List.not_mem_nil, or_false] at hx hy
    rcases hx with rfl | rfl <;> rcases hy with rfl | rfl <;> exact encE.alike _ _
  · simp only [List.mem_cons, List.not_mem_nil, or_false] at hx
    rcases hx with rfl | rfl <;> exact encE.nn _
  · have h1 := encE.depth a
    have h2 := encE.depth b
    simp only [PyData.depthAll]
    exact Nat.max_le.mpr ⟨Nat.le_trans h1 (by decide), Nat.max_le.mpr ⟨Nat.le_trans h2 (by decide), by decide⟩⟩
theorem hq__law_toggled (C : Addr) : ∀ ss Q, g__law_toggled C ss Q → q__law_toggled C (bodyEnds 2 Q) (startE 3 ss) := by
  rintro _ Q ⟨r, c, ⟨hr, hc, lr, lc⟩, rfl, h⟩
  conv => whnf
  refine ⟨rfl, ?_⟩
  refine runC_sel pP (fun p => decide (p ∉ c)) pP r (fun x hx R R0 h1 h0 => ?_) ?_
  · conv => whnf
    refine ⟨⟨shpP (oks_mem hr hx), shpPs hc⟩, ?_⟩
    rw [hasPr]
    conv => whnf
    exact dec_any (fun z => h1 (not_t z)) (fun z => h0 (not_f z))
  conv => whnf
  refine ⟨rfl, ?_⟩
  conv => whnf
  refine ⟨rfl, ?_⟩
  refine runC_sel pP (fun p => decide (p ∉ r)) pP c (fun x hx R R0 h1 h0 => ?_) ?_
  · conv => whnf
    refine ⟨⟨shpP (oks_mem hc hx), shpPs hr⟩, ?_⟩
    rw [hasPr]
    conv => whnf
    exact dec_any (fun z => h1 (not_t z)) (fun z => h0 (not_f z))
  have l1 := List.length_filter_le (fun p => decide (p ∉ c)) r
  have l2 := List.length_filter_le (fun p => decide (p ∉ r)) c
  conv => whnf
  refine ⟨by rw [List.length_map, List.length_map]; unfold SZ; omega, ?_⟩
  conv => whnf
  refine ⟨rfl, ?_⟩
  conv => whnf
  rw [← List.map_append]
  refine ⟨encPr.sortd _, ?_⟩
  rw [show sortP (((r.filter fun p => decide (p ∉ c)) ++ c.filter fun p => decide (p ∉ r)).map pP) = (tog r c).map pP from encPr.sortP _]
  exact h
theorem hq__law_pairs (C : Addr) : ∀ ss Q, g__law_pairs C ss Q → q__law_pairs C (bodyEnds 1 Q) (startE 5 ss) := by
  rintro _ Q ⟨es, hg, rfl, h⟩
  have ls : (encE.srtd es).length = es.length := encE.srtd_len es
  have asc := encE.srtd_asc hg.nd
  have os : ∀ x ∈ encE.srtd es, encE.ok x = true := fun x hx => oks_mem hg.ok ((encE.srtd_perm es).mem_iff.mp hx)
  have lp := prs_len (encE.srtd es)
  have few := hg.few
  have sq : es.length * es.length ≤ 100 * 100 := Nat.mul_le_mul few few
  rw [ls] at lp
  conv => whnf
  refine ⟨Nat.le_of_ble_eq_true rfl, ?_⟩
  conv => whnf
  refine ⟨encE.sortd es, ?_⟩
  rw [show sortP (es.map pE) = (encE.srtd es).map pE from encE.sortP es]
  conv => whnf
  refine ⟨rfl, ?_⟩
  conv => whnf
  refine runF_rec pE (fun todo e => ∃ pre F s2 s3 s4, pre ++ todo = encE.srtd es ∧ F ++ prs todo = prs (encE.srtd es) ∧ e = [.val (.lst (es.map pE)), .own (.lst (F.map pP)), s2, s3, s4] ∧ slB s2 = true ∧ slB s3 = true ∧ slB s4 = true) _ _ ⟨[], [], .no, .no, .no, rfl, rfl, rfl, rfl, rfl, rfl⟩ ?_ ?_
  · rintro x xs _ R ⟨pre, F, s2, s3, s4, hp, hF, rfl, n2, n3, n4⟩ hR
    have xm : x ∈ encE.srtd es := by rw [← hp]; simp
    have lF : F.length ≤ 10000 := by
      have := congrArg List.length hF
      rw [List.length_append] at this
      omega
    have lF2 : (F ++ (xs.filter (apart x)).map fun f => (x, f)).length ≤ 10000 := by
      have := congrArg List.length hF
      rw [prs, ← List.append_assoc, List.length_append] at this
      omega
    conv => whnf
    refine free_go (n2) ?_
    conv => whnf
    refine ⟨encE.sortd es, ?_⟩
    rw [show sortP (es.map pE) = (encE.srtd es).map pE from encE.sortP es]
    conv => whnf
    refine ⟨rfl, ?_⟩
    conv => whnf
    refine ⟨(by cases s3 <;> first | rfl | cases n3), ?_⟩
    refine runC_sel pE (apart x) pE (encE.srtd es) (fun y hy R R0 h1 h0 => ?_) ?_
    · have ox := okE (os x xm)
      have oy := os y hy
      conv => whnf
      refine ⟨⟨shpS ox.1, shpE oy⟩, ?_⟩
      rw [has2]
      conv => whnf
      refine dec_any (fun z => ?_) (fun z => ?_)
      · conv => whnf
        refine ⟨⟨shpS ox.2, shpE oy⟩, ?_⟩
        rw [has2]
        conv => whnf
        refine dec_any (fun z2 => ?_) (fun z2 => ?_)
        · refine h1 ?_
          exact apart_t z z2
        · refine h0 ?_
          exact apart_f2 z2
      · refine h0 ?_
        exact apart_f1 z
    conv => whnf
    refine free_go (n4) ?_
    conv => whnf
    refine ⟨rfl, ?_⟩
    conv => whnf
    refine ⟨rfl, ?_⟩
    conv => whnf
    refine ⟨(by cases s3 <;> first | rfl | cases n3), ?_⟩
    have key : ((encE.srtd es).filter (apart x)).filter (encE.lt x) = xs.filter (apart x) := by
      rw [← hp] at asc ⊢
      obtain ⟨_, h2, h3⟩ := List.pairwise_append.mp asc
      have h4 := (List.pairwise_cons.mp h2).1
      rw [List.filter_append, List.filter_append, List.filter_cons, apart_self]
      have e1 : (pre.filter (apart x)).filter (encE.lt x) = [] := List.filter_eq_nil_iff.mpr fun y hy z => by
        have := h3 y (List.mem_filter.mp hy).1 x List.mem_cons_self
        rw [encE.asymm this] at z
        cases z
      have e2 : (xs.filter (apart x)).filter (encE.lt x) = xs.filter (apart x) := List.filter_eq_self.mpr fun y hy => h4 y (List.mem_filter.mp hy).1
      rw [e1, List.nil_append]
      exact e2
    refine runC_sel pE (encE.lt x) (fun y => pP (x, y)) ((encE.srtd es).filter (apart x)) (fun y hy R R0 h1 h0 => ?_) ?_
    · conv => whnf
      refine ⟨⟨encE.isD _, encE.isD _, encE.alike _ _, encE.nn _, Nat.le_trans (encE.depth x) (by decide)⟩, ?_⟩
      rw [show dLt (PV.toD (pE x)) (PV.toD (pE y)) = encE.lt x y from encE.dlt x y]
      cases c : encE.lt x y with
      | true =>
        conv => whnf
        refine ⟨Nat.le_of_ble_eq_true rfl, ?_⟩
        conv => whnf
        exact h1 c
      | false => exact h0 c
    · rw [key]
      conv => whnf
      refine ⟨rfl, ?_⟩
      conv => whnf
      refine ⟨by rw [List.length_map, List.length_map]; rw [List.length_append, List.length_map] at lF2; unfold SZ; omega, ?_⟩
      refine hR _ ⟨pre ++ [x], F ++ (xs.filter (apart x)).map (fun f => (x, f)), .val (pE x), stayV (some (stayV (some s3))), .val (.lst (((encE.srtd es).filter (apart x)).map pE)), by simpa using hp, ?_, ?_, rfl, ?_, rfl⟩
      · rw [prs] at hF
        simpa using hF
      · rw [List.map_append, List.map_map]; rfl
      · cases s3 <;> first | rfl | cases n3
  · rintro _ ⟨pre, F, s2, s3, s4, hp, hF, rfl, n2, n3, n4⟩
    have hF : F = prs (encE.srtd es) := by simpa [prs] using hF
    subst hF
    exact h
theorem hq__law_flips (C : Addr) : ∀ ss Q, g__law_flips C ss Q → q__law_flips C (bodyEnds 3 Q) (startE 5 ss) := by
  rintro _ Q ⟨es, c, ⟨he, hc, few⟩, rfl, h⟩
  have o1 := okC hc
  have o2 := okE o1.1
  conv => whnf
  refine ⟨rfl, ?_⟩
  refine runC_sel pE (fun o => decide (c.2 = o.1 ∨ c.2 = o.2) && apart c.1 o) pE es (fun x hx R R0 h1 h0 => ?_) ?_
  · have ox := oks_mem he hx
    conv => whnf
    refine ⟨⟨shpS o1.2, shpE ox⟩, ?_⟩
    rw [has2]
    cases c1 : decide (c.2 = x.1 ∨ c.2 = x.2) with
    | false =>
      rw [c1] at h0
      exact h0 rfl
    | true =>
      rw [c1, Bool.true_and] at h1 h0
      conv => whnf
      refine ⟨⟨shpS o2.1, shpE ox⟩, ?_⟩
      rw [has2]
      conv => whnf
      refine dec_any (fun z => ?_) (fun z => ?_)
      · conv => whnf
        refine ⟨⟨shpS o2.2, shpE ox⟩, ?_⟩
        rw [has2]
        conv => whnf
        refine dec_any (fun z2 => ?_) (fun z2 => ?_)
        · refine h1 ?_
          exact apart_t z z2
        · refine h0 ?_
          exact apart_f2 z2
      · refine h0 ?_
        exact apart_f1 z
  · conv => whnf
    refine ⟨rfl, ?_⟩
    conv => whnf
    refine ⟨rfl, ?_⟩
    refine runC_all pE (fun o => pP (if encE.lt o c.1 = true then (o, c.1) else (c.1, o))) _ (fun x hx R R0 hR => ?_) ?_
    · have hx := (List.mem_filter.mp hx).2
      rw [Bool.and_eq_true_iff] at hx
      have ne : x ≠ c.1 := fun z => by rw [z, apart_self] at hx; cases hx.2
      conv => whnf
      refine ⟨alkE _ _, ?_⟩
      rw [show PySem.W.dataLt (PV.toD (pE x)) (PV.toD (pE c.1)) = encE.lt x c.1 from encE.dlt x c.1]
      conv => whnf
      refine ⟨alkE _ _, ?_⟩
      rw [show PySem.W.dataLt (PV.toD (pE c.1)) (PV.toD (pE x)) = encE.lt c.1 x from encE.dlt c.1 x]
      cases c3 : encE.lt x c.1 with
      | true =>
        rw [c3] at hR
        rw [encE.asymm c3]
        conv => whnf
        refine ⟨Nat.le_of_ble_eq_true rfl, ?_⟩
        conv => whnf
        exact hR
      | false =>
        rw [c3] at hR
        rw [encE.total _ _ ne c3]
        conv => whnf
        refine ⟨Nat.le_of_ble_eq_true rfl, ?_⟩
        conv => whnf
        exact hR
    · conv => whnf
      unfold flips at h
      rw [List.map_map] at h
      exact h
end CP
/-! The laws' carries and numbers. -/
namespace CP
open PySem PySem.Spec PyProof.Rows L2
theorem hq__law_carries (C : Addr) : ∀ ss Q, g__law_carries C ss Q → q__law_carries C (bodyEnds 2 Q) (startE 5 ss) := by
  rintro _ Q ⟨ns, es, ⟨hn, he, ln, le⟩, rfl, h⟩
  have ls : (encS.srtd ns).length = ns.length := encS.srtd_len ns
  have os : ∀ x ∈ encE.srtd es, encE.ok x = true := fun x hx => oks_mem he ((encE.srtd_perm es).mem_iff.mp hx)
  have lc := everyC_len ns (encE.srtd es)
  rw [encE.srtd_len] at lc
  have sq : es.length * ns.length ≤ 100 * 100 := Nat.mul_le_mul le ln
  conv => whnf
  refine ⟨Nat.le_of_ble_eq_true rfl, ?_⟩
  conv => whnf
  refine ⟨encE.sortd es, ?_⟩
  rw [show sortP (es.map pE) = (encE.srtd es).map pE from encE.sortP es]
  conv => whnf
  refine ⟨rfl, ?_⟩
  conv => whnf
  refine runF_rec pE (fun todo e => (∀ x ∈ todo, x ∈ encE.srtd es) ∧ ∃ F s3, F ++ everyC ns todo = everyC ns (encE.srtd es) ∧ e = [.val (.lst (ns.map .str)), .val (.lst (es.map pE)), .own (.lst (F.map pC)), s3, .no] ∧ slB s3 = true) _ _ ⟨fun _ h => h, [], .no, rfl, rfl, rfl⟩ ?_ ?_
  · rintro x xs _ R ⟨hx, F, s3, hF, rfl, n3⟩ hR
    have xm := hx x List.mem_cons_self
    have evc : everyC ns (x :: xs) = ((encS.srtd ns).filter fun v => decide (v ≠ x.1 ∧ v ≠ x.2)).map (fun v => (x, v)) ++ everyC ns xs := rfl
    rw [evc, ← List.append_assoc] at hF
    have lF : (F ++ ((encS.srtd ns).filter fun v => decide (v ≠ x.1 ∧ v ≠ x.2)).map (fun v => (x, v))).length ≤ 10000 := by
      have := congrArg List.length hF
      rw [List.length_append] at this
      omega
    conv => whnf
    refine free_go (n3) ?_
    conv => whnf
    refine ⟨rfl, ?_⟩
    conv => whnf
    refine ⟨encS.sortd ns, ?_⟩
    rw [show sortP (ns.map .str) = (encS.srtd ns).map .str from encS.sortP ns]
    conv => whnf
    refine ⟨rfl, ?_⟩
    conv => whnf
    refine ⟨rfl, ?_⟩
    refine runC_sel PV.str (fun v => decide (v ≠ x.1 ∧ v ≠ x.2)) (fun v => pC (x, v)) (encS.srtd ns) (fun v hv R1 R0 h1 h0 => ?_) ?_
    · have ov := oks_mem hn ((encS.srtd_perm ns).mem_iff.mp hv)
      conv => whnf
      refine ⟨⟨shpS ov, shpE (os x xm)⟩, ?_⟩
      rw [has2]
      conv => whnf
      refine dec_any (fun z => ?_) (fun z => ?_)
      · conv => whnf
        refine ⟨Nat.le_of_ble_eq_true rfl, ?_⟩
        conv => whnf
        refine h1 (decide_eq_true ?_)
        exact not_or.mp (of_decide_eq_true (not_t z))
      · refine h0 (decide_eq_false fun q => ?_)
        exact of_decide_eq_false (not_f z) (not_or.mpr q)
    · conv => whnf
      refine ⟨rfl, ?_⟩
      conv => whnf
      refine ⟨by rw [List.length_map, List.length_map]; rw [List.length_append, List.length_map] at lF; unfold SZ; omega, ?_⟩
      refine hR _ ⟨fun y hy => hx y (List.mem_cons_of_mem _ hy), F ++ ((encS.srtd ns).filter fun v => decide (v ≠ x.1 ∧ v ≠ x.2)).map (fun v => (x, v)), .val (pE x), hF, ?_, rfl⟩
      rw [List.map_append, List.map_map]; rfl
  · rintro _ ⟨_, F, s3, hF, rfl, n3⟩
    have hF : F = everyC ns (encE.srtd es) := by simpa [everyC] using hF
    subst hF
    exact h
theorem sum_bits {P : List Pr2} (nd : P.Nodup) : ∀ (r : List Pr2), r.Nodup → (∀ p ∈ r, p ∈ P) → (r.map fun p => 2 ^ P.idxOf p).sum = nmf (fun p => decide (p ∈ r)) P
  | [], _, _ => by
    rw [nmf_none (fun p _ => by simp)]; rfl
  | x :: r, nr, h => by
    obtain ⟨h1, h2⟩ := List.nodup_cons.mp nr
    rw [List.map_cons, List.sum_cons, sum_bits nd r h2 fun p hp => h p (List.mem_cons_of_mem _ hp)]
    have hx := h x List.mem_cons_self
    have lt := List.idxOf_lt_length_of_mem hx
    have bit : (nmf (fun p => decide (p ∈ r)) P).testBit (P.idxOf x) = false := by
      rw [nmf_bit, List.getElem?_eq_getElem lt]
      simp [h1]
    rw [Nat.add_comm, add_pow bit]
    have e : 2 ^ P.idxOf x = nmf (fun p => decide (p = x)) P := by
      refine Nat.eq_of_testBit_eq fun i => ?_
      rw [Nat.testBit_two_pow, nmf_bit]
      by_cases c : i < P.length
      · rw [List.getElem?_eq_getElem c]
        show _ = decide (P[i] = x)
        refine decide_eq_decide.mpr ⟨fun z => ?_, fun z => ?_⟩
        · subst z; exact List.getElem_idxOf lt
        · have := (List.getElem_inj nd (h₀ := lt) (h₁ := c)).mp ((List.getElem_idxOf lt).trans z.symm)
          exact this
      · rw [List.getElem?_eq_none (by omega)]
        show decide _ = false
        exact decide_eq_false (by omega)
    rw [e, nmf_xor]
    refine nmf_ext fun p _ => ?_
    by_cases c : p = x
    · subst c; simp [h1]
    · simp [c]
theorem shl1 (n : Nat) : (fun i j : Int => i * 2 ^ j.toNat) 1 (n : Int) = ((2 ^ n : Nat) : Int) := by
  show (1 : Int) * 2 ^ ((n : Int)).toNat = _
  rw [Int.one_mul, Int.toNat_natCast]; simp
theorem sum_cast {α : Type} (f : α → Nat) (r : List α) : (r.map fun p => ((f p : Nat) : Int)).sum = (((r.map f).sum : Nat) : Int) := by
  induction r with
  | nil => rfl
  | cons x r ih => rw [List.map_cons, List.sum_cons, ih, List.map_cons, List.sum_cons]; omega
/-- a graph's edges, sorted -/
theorem GrIn.srt {ns : List Str} {es : List Ed2} (h : GrIn ns es) : GrOk ns (encE.srtd es) := ⟨⟨h.toVsOk, (encE.srtd_perm es).nodup_iff.mpr h.end_, by rw [encE.srtd_len]; exact h.e18, fun e he => h.ed e ((encE.srtd_perm es).mem_iff.mp he)⟩, encE.srtd_asc h.end_⟩
theorem GrOk.oksP {ns : List Str} {es : List Ed2} (h : GrOk ns es) : encPr.oks (prs es) = true := List.all_eq_true.mpr fun p hp => h.toGrIn.okP hp
theorem flips_perm {c : Ca2} {es es2 : List Ed2} (h : es.Perm es2) : (flips es c).Perm (flips es2 c) := (h.filter _).map _
/-- a number that becomes less -/
def muInt (i : Nat) (e : PEnv) : Nat := match e[i]? with
  | some (.val (.int n)) => n.toNat
  | _ => 0
theorem hq__law_bits (C : Addr) : ∀ ss Q, g__law_bits C ss Q → q__law_bits C (bodyEnds 2 Q) (startE 3 ss) := by
  rintro _ Q ⟨P, r, ⟨hP, nd, nr, sub, lp⟩, rfl, h⟩
  conv => whnf
  refine ⟨rfl, ?_⟩
  refine runC_all pP (fun p => .int ((2 ^ P.idxOf p : Nat) : Int)) r (fun x hx R R0 hR => ?_) ?_
  · have hx := sub x hx
    have lt := List.idxOf_lt_length_of_mem hx
    conv => whnf
    refine ⟨trivial, ?_⟩
    conv => whnf
    refine ⟨⟨shpPs hP, shpP (oks_mem hP hx)⟩, P.idxOf x, ?_, ?_, ?_⟩
    · rw [List.getElem?_map, List.getElem?_eq_getElem lt, List.getElem_idxOf lt]
      show PyData.eqv (PV.toD (encPr.f x)) (PV.toD (encPr.f x)) = true
      rw [encPr.eqv]; exact decide_eq_true rfl
    · intro m z hm hz
      rw [List.getElem?_map] at hz
      cases c : P[m]? with
      | none => rw [c] at hz; cases hz
      | some y =>
        rw [c] at hz; cases hz
        show PyData.eqv (PV.toD (encPr.f y)) (PV.toD (encPr.f x)) = false
        rw [encPr.eqv]
        refine decide_eq_false fun z => ?_
        subst z
        obtain ⟨lm, e⟩ := List.getElem?_eq_some_iff.mp c
        have := (List.getElem_inj nd (h₀ := lt) (h₁ := lm)).mp ((List.getElem_idxOf lt).trans e.symm)
        omega
    conv => whnf
    refine ⟨⟨by omega, by omega, by decide⟩, ?_⟩
    rw [shl1]
    exact hR
  · conv => whnf
    refine ⟨rfl, ?_⟩
    conv => whnf
    rw [intsOf_mapf (fun p => ((2 ^ P.idxOf p : Nat) : Int))]
    conv => whnf
    rw [← sum_bits nd r nr sub] at h
    have e : (r.map fun p => ((2 ^ P.idxOf p : Nat) : Int)).sum = (((r.map fun p => 2 ^ P.idxOf p).sum : Nat) : Int) := sum_cast _ _
    rw [e]
    exact h
theorem hq__law_rows (C : Addr) : ∀ ss Q, g__law_rows C ss Q → q__law_rows C (bodyEnds 3 Q) (startE 5 ss) := by
  rintro _ Q ⟨ns, es, hg, rfl, h⟩
  have n8 := hg.n8
  have e18 := hg.e18
  have gk := hg.srt
  conv => whnf
  refine ⟨ns, es, ⟨hg.toVsOk.oks, hg.oks, by omega, by omega⟩, rfl, ?_⟩
  conv => whnf
  refine ⟨rfl, ?_⟩
  conv => whnf
  refine ⟨rfl, ?_⟩
  refine runC_all pC (fun c => .int ((nmf (fun p => decide (p ∈ flips es c)) (prs (encE.srtd es)) : Nat) : Int)) (everyC ns (encE.srtd es)) (fun c hc R R0 hR => ?_) ?_
  · have hc := (everyC_ok.mp hc)
    have fo := flips_ok gk hc
    have pf := flips_perm (c := c) (encE.srtd_perm es)
    conv => whnf
    refine ⟨es, c, ⟨hg.oks, ?_, by omega⟩, rfl, ?_⟩
    · exact Bool.and_eq_true_iff.mpr ⟨gk.toGrIn.okE hc.e, hg.toVsOk.ok hc.v⟩
    conv => whnf
    refine ⟨rfl, ?_⟩
    conv => whnf
    refine ⟨prs (encE.srtd es), flips es c, ⟨gk.oksP, prs_nd gk.asc, pf.nodup_iff.mp fo.nd, fun p hp => fo.sub p (pf.mem_iff.mpr hp), by have := gk.toGrIn.prs_few; omega⟩, rfl, ?_⟩
    exact hR
  · unfold rowsU at h
    rw [List.map_map] at h
    exact h
theorem hq__law_odd (C : Addr) : ∀ ss Q, g__law_odd C ss Q → q__law_odd C (bodyEnds 1 Q) (startE 2 ss) := by
  rintro _ Q ⟨n, rfl, h⟩
  conv => whnf
  refine ⟨fun e => ∃ (m : Nat) (b : Bool), e = [.val (.int m), .val (.bl b)] ∧ (b ^^ par m) = par n, muInt 0, ⟨n, false, rfl, by simp⟩, ?_⟩
  rintro _ ⟨m, b, rfl, hb⟩
  conv => whnf
  refine dec_any (fun z => ?_) (fun z => ?_)
  · have pos : 0 < m := by have := of_decide_eq_true z; omega
    have e1 : Builtin.bitAnd (m : Int) ((m : Int) - 1) = ((m &&& (m - 1) : Nat) : Int) := by
      rw [show ((m : Int) - 1) = ((m - 1 : Nat) : Int) by omega, PyProof.Rows.bitAnd_pp (by omega) (by omega)]; rfl
    conv => whnf
    refine ⟨trivial, ?_⟩
    conv => whnf
    refine ⟨trivial, ?_⟩
    conv => whnf
    rw [show (fun i j : Int => i - j) (m : Int) 1 = (m : Int) - 1 from rfl, e1]
    refine ⟨⟨m &&& (m - 1), !b, rfl, ?_⟩, ?_⟩
    · rw [par_drop pos, ← hb]
      cases b <;> cases par m <;> rfl
    · show ((m &&& (m - 1) : Nat) : Int).toNat < (m : Int).toNat
      have := drop_lt pos
      rw [Int.toNat_natCast, Int.toNat_natCast]
      exact this
  · have m0 : m = 0 := by
      have : ¬ ((0 : Int) < m) := fun q => z (decide_eq_true q)
      omega
    subst m0
    rw [par_zero, Bool.xor_false] at hb
    subst hb
    exact h _
end CP
/-! The laws' even sets. -/
namespace CP
open PySem PySem.Spec PyProof.Rows L2
abbrev pN (n : Nat) : PV := .int (n : Int)
theorem band_nat (a b : Nat) : Builtin.bitAnd (a : Int) (b : Int) = ((a &&& b : Nat) : Int) := by rw [PyProof.Rows.bitAnd_pp (by omega) (by omega)]; rfl
theorem xor_add_and : ∀ m n : Nat, (m ^^^ n) + 2 * (m &&& n) = m + n := by
  intro m
  induction m using Nat.strongRecOn with
  | _ m ih =>
    intro n
    by_cases h0 : m = 0
    · subst h0; simp
    · have ih' := ih (m / 2) (by omega) (n / 2)
      rw [← Nat.xor_div_two, ← Nat.and_div_two] at ih'
      have o1 := @Nat.xor_mod_two_eq_one m n
      have a1 := @Nat.and_mod_two_eq_one m n
      omega
theorem bxor_nat (a b : Nat) : Builtin.bitXor (a : Int) (b : Int) = ((a ^^^ b : Nat) : Int) := by
  have e := xor_add_and a b
  rw [PyProof.Rows.bitXor_and, band_nat]
  omega
theorem coupled_map {α : Type} (f g : α → PV) (xs : List α) : coupled (xs.map f) (xs.map g) = xs.map fun x => .tup [f x, g x] := by
  unfold coupled
  induction xs with
  | nil => rfl
  | cons x xs ih => rw [List.map_cons, List.map_cons, List.zipWith_cons_cons, ih, List.map_cons]
theorem cut_drop' {α : Type} (f : α → PV) (xs : List α) (n : Nat) : cutP (xs.map f) (some (n : Int)) none = (xs.drop n).map f := by
  by_cases h : n ≤ xs.length
  · exact cut_drop f xs n h
  · unfold cutP
    have e1 : HT.sIx (xs.map f).length 0 (some (n : Int)) = xs.length := by rw [HT.sIx_nat, List.length_map]; omega
    rw [e1, List.drop_eq_nil_of_le (by rw [List.length_map]; exact Nat.le_refl _), List.drop_eq_nil_of_le (by omega)]
    simp
theorem hq__law_even_sets (C : Addr) : ∀ ss Q, g__law_even_sets C ss Q → q__law_even_sets C (bodyEnds 2 Q) (startE 9 ss) := by
  rintro _ Q ⟨rows, k, ⟨lr, lk⟩, rfl, h⟩
  have cnt : CP.count 0 ((k : Int)).toNat = (List.range k).map fun i => pN i := by
    unfold CP.count
    rw [Int.toNat_natCast]
    exact List.map_congr_left fun i _ => by rw [Int.zero_add]
  conv => whnf
  refine ⟨⟨by omega, by omega⟩, ?_⟩
  rw [cnt]
  conv => whnf
  refine ⟨rfl, ?_⟩
  refine runC_all pN (fun i => pN (2 ^ i)) (List.range k) (fun x hx R R0 hR => ?_) ?_
  · have hx := List.mem_range.mp hx
    conv => whnf
    refine ⟨⟨by omega, by omega, by decide⟩, ?_⟩
    rw [shl1]
    exact hR
  conv => whnf
  refine runF_rec pN (fun todo e => ∃ done F s4 s6 s8, done ++ todo = rows ∧ F = done.foldl evenStep ((List.range k).map (2 ^ ·)) ∧ e = [.val (.lst (rows.map pN)), .val (.int k), .no, .own (.lst (F.map pN)), s4, .no, s6, .no, s8] ∧ slB s4 = true ∧ slB s6 = true ∧ slB s8 = true) _ _ ⟨[], (List.range k).map (2 ^ ·), .no, .no, .no, rfl, rfl, by rw [List.map_map]; rfl, rfl, rfl, rfl⟩ ?_ ?_
  · rintro x xs _ R ⟨done, F, s4, s6, s8, hd, hF, rfl, n4, n6, n8⟩ hR
    have lF : F.length ≤ 1000 := by
      rw [hF]
      refine Nat.le_trans (evens_len _ _) ?_
      rw [List.length_map, List.length_range]; exact lk
    conv => whnf
    refine free_go (n4) ?_
    conv => whnf
    refine ⟨rfl, ?_⟩
    conv => whnf
    refine ⟨rfl, ?_⟩
    refine runC_all pN (fun b => .bl (dot b x)) F (fun b hb R1 R0 hR1 => ?_) ?_
    · conv => whnf
      refine ⟨trivial, ?_⟩
      conv => whnf
      refine ⟨b &&& x, by rw [band_nat]; rfl, fun c => ?_⟩
      exact hR1
    conv => whnf
    refine free_go (n6) ?_
    conv => whnf
    refine ⟨rfl, ?_⟩
    conv => whnf
    rw [coupled_map pN (fun b => .bl (dot b x)) F]
    refine ⟨rfl, ?_⟩
    simp only [wipeE, backE, stayV, startE, List.set_cons_zero, List.set_cons_succ, List.getElem?_cons_zero, List.getElem?_cons_succ, putB, putC, Sl.put, List.cons_append, List.nil_append, List.length_cons, List.length_nil, Nat.reduceAdd, Nat.reduceSub, List.replicate_succ, List.replicate_zero]
    refine runC_sel (fun b : Nat => .tup [pN b, .bl (dot b x)]) (fun b => dot b x) pN F (fun b hb R1 R0 h1 h0 => ?_) ?_
    · conv => whnf
      cases c : dot b x with
      | true => exact h1 c
      | false => exact h0 c
    conv => whnf
    refine free_go (n8) ?_
    conv => whnf
    rw [coupled_map pN (fun b => .bl (dot b x)) F]
    refine ⟨rfl, ?_⟩
    simp only [wipeE, backE, stayV, startE, List.set_cons_zero, List.set_cons_succ, List.getElem?_cons_zero, List.getElem?_cons_succ, putB, putC, Sl.put, List.cons_append, List.nil_append, List.length_cons, List.length_nil, Nat.reduceAdd, Nat.reduceSub, List.replicate_succ, List.replicate_zero]
    refine runC_sel (fun b : Nat => .tup [pN b, .bl (dot b x)]) (fun b => !dot b x) pN F (fun b hb R1 R0 h1 h0 => ?_) ?_
    · conv => whnf
      cases c : dot b x with
      | true =>
        rw [c] at h0
        exact h0 rfl
      | false =>
        rw [c] at h1
        exact h1 rfl
    conv => whnf
    refine ⟨rfl, ?_⟩
    conv => whnf
    rw [show (1 : Int) = ((1 : Nat) : Int) from rfl, cut_drop']
    conv => whnf
    refine ⟨rfl, ?_⟩
    refine ⟨rfl, ?_⟩
    simp only [wipeE, backE, stayV, startE, List.set_cons_zero, List.set_cons_succ, List.getElem?_cons_zero, List.getElem?_cons_succ, putB, putC, Sl.put, List.cons_append, List.nil_append, List.length_cons, List.length_nil, Nat.reduceAdd, Nat.reduceSub, List.replicate_succ, List.replicate_zero]
    have ev : ∀ b ∈ (F.filter fun b => dot b x).drop 1, ∃ o os, F.filter (fun b => dot b x) = o :: os := fun b hb => by
      cases q : F.filter fun b => dot b x with
      | nil => rw [q] at hb; simp at hb
      | cons o os => exact ⟨o, os, rfl⟩
    refine runC_all pN (fun b => pN (b ^^^ (F.filter fun b => dot b x).headD 0)) ((F.filter fun b => dot b x).drop 1) (fun b hb R1 R0 hR1 => ?_) ?_
    · obtain ⟨o, os, eo⟩ := ev b hb
      rw [eo] at hR1 ⊢
      conv => whnf
      rw [show atI (List.map pN (o :: os)) 0 = some (pN o) from at_nat (n := 0) (by simp)]
      conv => whnf
      refine ⟨trivial, ?_⟩
      conv => whnf
      rw [bxor_nat]
      exact hR1
    · conv => whnf
      refine ⟨by rw [List.length_map, List.length_map, List.length_drop]; have := List.length_filter_le (fun b => dot b x) F; have := List.length_filter_le (fun b => !dot b x) F; unfold SZ; omega, ?_⟩
      conv => whnf
      refine hR _ ⟨done ++ [x], evenStep F x, .val (pN x), .val (.lst (F.map fun b => .bl (dot b x))), .own (.lst ((F.filter fun b => dot b x).map pN)), by simpa using hd, by rw [List.foldl_append, ← hF]; rfl, ?_, rfl, rfl, rfl⟩
      unfold evenStep
      rw [List.map_append, List.map_map]
      rfl
  · rintro _ ⟨done, F, s4, s6, s8, hd, hF, rfl, n4, n6, n8⟩
    have hd : done = rows := by simpa using hd
    subst hd
    have e : F = evens done k := hF
    subst e
    exact h
end CP
/-! The laws' witnesses. -/
namespace CP
open PySem PySem.Spec PyProof.Rows L2
theorem cpar_dot {P r : List Pr2} (nd : P.Nodup) (nr : r.Nodup) (sub : ∀ p ∈ r, p ∈ P) (w : List Pr2) : cpar r w = (dot (nmf (fun p => decide (p ∈ r)) P) (nmf (fun p => decide (p ∈ w)) P)).toNat := by
  unfold dot cpar
  rw [nmf_and, par_nmf]
  have e : (r.filter fun p => decide (p ∈ w)).length = P.countP fun p => decide (p ∈ r) && decide (p ∈ w) := by
    rw [List.countP_eq_length_filter]
    refine List.Perm.length_eq ((List.perm_ext_iff_of_nodup (nr.filter _) (nd.filter _)).mpr fun p => ?_)
    simp only [List.mem_filter, Bool.and_eq_true, decide_eq_true_eq]
    exact ⟨fun ⟨a, b⟩ => ⟨sub p a, a, b⟩, fun ⟨_, a, b⟩ => ⟨a, b⟩⟩
  rw [e]
  generalize P.countP _ = n
  have : n % 2 = 0 ∨ n % 2 = 1 := by omega
  rcases this with h | h <;> rw [h] <;> rfl
theorem num_ofN {P : List Pr2} (nd : P.Nodup) {t : Nat} (lt : t < 2 ^ P.length) : nmf (fun p => decide (p ∈ ofN t P)) P = t := (nmf_ext fun p _ => decide_eq_decide.mpr Iff.rfl).trans (nmf_ofN nd lt)
theorem ofN_sub {α : Type} (n : Nat) (P : List α) : (ofN n P).Sublist P := by
  unfold ofN
  have h : ((P.zipIdx.filter fun x => n.testBit x.2).map (·.1)).Sublist (P.zipIdx.map (·.1)) := List.filter_sublist.map _
  rw [List.zipIdx_map_fst] at h
  exact h
theorem bit_t (n i : Nat) : (Builtin.bitAnd ((fun i j : Int => i / 2 ^ j.toNat) (n : Int) (i : Int)) 1 = 1) ↔ n.testBit i = true := by
  have e : (fun i j : Int => i / 2 ^ j.toNat) (n : Int) (i : Int) = ((n / 2 ^ i : Nat) : Int) := by
    show (n : Int) / 2 ^ ((i : Int)).toNat = _
    rw [Int.toNat_natCast]; simp
  rw [e, show (1 : Int) = ((1 : Nat) : Int) from rfl, band_nat, Nat.and_one_is_mod, Nat.testBit_eq_decide_div_mod_eq, decide_eq_true_iff]
  generalize n / 2 ^ i = m
  omega
theorem hq__law_some_witness (C : Addr) : ∀ ss Q, g__law_some_witness C ss Q → q__law_some_witness C (bodyEnds 3 Q) (startE 8 ss) := by
  rintro _ Q ⟨s, ns, es, hg, rfl, h⟩
  have gk := hg.srt
  have few := gk.toGrIn.prs_few
  have cf := gk.toGrIn.carries_few
  have e18 := hg.e18
  have pn := prs_nd gk.asc
  conv => whnf
  refine ⟨es, ⟨hg.end_, hg.oks, by omega⟩, rfl, ?_⟩
  conv => whnf
  refine ⟨rfl, ?_⟩
  conv => whnf
  refine ⟨ns, es, hg, rfl, ?_⟩
  conv => whnf
  refine ⟨rfl, ?_⟩
  conv => whnf
  refine ⟨rowsU ns es, (prs (encE.srtd es)).length, ⟨by unfold rowsU; rw [List.length_map]; omega, by omega⟩, by rw [List.length_map]; rfl, ?_⟩
  conv => whnf
  refine ⟨rfl, ?_⟩
  conv => whnf
  refine runF_rec pN (fun todo e => (∀ x ∈ todo, x ∈ evens (rowsU ns es) (prs (encE.srtd es)).length) ∧ ∃ s t s5, e = [.io (srcP s), .val (.lst (ns.map .str)), .val (.lst (es.map pE)), .val (.lst ((prs (encE.srtd es)).map pP)), .val (pN t), s5, .no, .no] ∧ slB s5 = true ∧ (∀ r ∈ rowsU ns es, dot t r = false) ∧ t < 2 ^ (prs (encE.srtd es)).length) _ _ ⟨fun _ h => h, s, 0, .no, rfl, rfl, fun r _ => dot_zero r, Nat.two_pow_pos _⟩ ?_ ?_
  · rintro x xs _ R ⟨hx, s, t, s5, rfl, n5, ht, lt⟩ hR
    have ex := evens_even (hx x List.mem_cons_self)
    conv => whnf
    refine free_go (n5) ?_
    conv => whnf
    refine ⟨rfl, ?_⟩
    conv => whnf
    refine ⟨nd1 0, ?_⟩
    conv => whnf
    refine ⟨s, 2, ⟨by decide, by decide⟩, rfl, fun n s2 hn => ?_⟩
    conv => whnf
    have fl : ∃ f : Nat, (if decide ((n : Int) = 0) = true then (1 : Int) else 0) = (f : Int) ∧ (f = 0 ∨ f = 1) := by
      split
      · exact ⟨1, rfl, .inr rfl⟩
      · exact ⟨0, rfl, .inl rfl⟩
    obtain ⟨f, ef, hf⟩ := fl
    rw [ef]
    refine ⟨.inr (by rcases hf with rfl | rfl <;> exact ⟨by decide, by decide⟩), ?_⟩
    conv => whnf
    refine ⟨trivial, ?_⟩
    conv => whnf
    rw [show (fun i j : Int => i * j) (x : Int) (f : Int) = ((x * f : Nat) : Int) by simp, bxor_nat]
    refine hR _ ⟨fun y hy => hx y (List.mem_cons_of_mem _ hy), s2, t ^^^ (x * f), .val (pN x), rfl, rfl, fun r hr => ?_, ?_⟩
    · rw [dot_xor, ht r hr]
      rcases hf with rfl | rfl
      · rw [Nat.mul_zero, dot_zero]; rfl
      · rw [Nat.mul_one, ex.1 r hr]; rfl
    · refine Nat.xor_lt_two_pow lt ?_
      rcases hf with rfl | rfl
      · rw [Nat.mul_zero]; exact Nat.two_pow_pos _
      · rw [Nat.mul_one]; exact ex.2
  · rintro _ ⟨_, s, t, s5, rfl, n5, ht, lt⟩
    conv => whnf
    refine ⟨rfl, ?_⟩
    rw [numbered_map]
    simp only [wipeE, backE, stayV, startE, List.set_cons_zero, List.set_cons_succ, List.getElem?_cons_zero, List.getElem?_cons_succ, putB, putC, Sl.put, List.cons_append, List.nil_append, List.length_cons, List.length_nil, Nat.reduceAdd, Nat.reduceSub, List.replicate_succ, List.replicate_zero]
    refine runC_sel (fun x : Pr2 × Nat => .tup [.int (x.2 : Nat), pP x.1]) (fun x => t.testBit x.2) (fun x => pP x.1) (prs (encE.srtd es)).zipIdx (fun x hx R1 R0 h1 h0 => ?_) ?_
    · conv => whnf
      refine ⟨by show (0 : Int) ≤ (x.2 : Int); omega, ?_⟩
      conv => whnf
      refine ⟨trivial, ?_⟩
      conv => whnf
      refine dec_any (fun z => ?_) (fun z => ?_)
      · exact h1 ((bit_t t x.2).mp (of_decide_eq_true z))
      · refine h0 ?_
        cases c : t.testBit x.2 with
        | false => rfl
        | true => exact absurd (decide_eq_true ((bit_t t x.2).mpr c)) z
    · have e : ((prs (encE.srtd es)).zipIdx.filter fun x => t.testBit x.2).map (fun x => pP x.1) = (ofN t (prs (encE.srtd es))).map pP := by
        unfold ofN; rw [List.map_map]; rfl
      rw [e]
      refine h (ofN t (prs (encE.srtd es))) s ⟨ofN_sub _ _, fun c hc => ?_⟩
      have fo := flips_ok gk (everyC_ok.mp hc)
      have pf := flips_perm (c := c) (encE.srtd_perm es)
      rw [cpar_dot pn (pf.nodup_iff.mp fo.nd) (fun p hp => fo.sub p (pf.mem_iff.mpr hp)), num_ofN pn lt, dot_comm, ht _ (List.mem_map.mpr ⟨c, hc, rfl⟩)]
      rfl
theorem count_nat (k : Nat) : CP.count 0 ((k : Int)).toNat = (List.range k).map fun i => pN i := by
  unfold CP.count
  rw [Int.toNat_natCast]
  exact List.map_congr_left fun i _ => by rw [Int.zero_add]
theorem hq__law_some_carries (C : Addr) : ∀ ss Q, g__law_some_carries C ss Q → q__law_some_carries C (bodyEnds 3 Q) (startE 6 ss) := by
  rintro _ Q ⟨s, ns, es, hg, rfl, h⟩
  have gk := hg.srt
  have e18 := hg.e18
  have n8 := hg.n8
  have cf := gk.toGrIn.carries_few
  conv => whnf
  refine ⟨ns, es, ⟨hg.toVsOk.oks, hg.oks, by omega, by omega⟩, rfl, ?_⟩
  conv => whnf
  refine ⟨Nat.le_of_ble_eq_true rfl, ?_⟩
  conv => whnf
  refine ⟨rfl, ?_⟩
  conv => whnf
  refine ⟨nd1 0, ?_⟩
  conv => whnf
  refine ⟨s, 12, ⟨by decide, by decide⟩, rfl, fun n s2 hn => ?_⟩
  conv => whnf
  refine ⟨Nat.le_of_ble_eq_true rfl, ?_⟩
  conv => whnf
  have shc : Shp (.lst ((everyC ns (encE.srtd es)).map pC)) := encC.shpL (List.all_eq_true.mpr fun c hc => by
    have := everyC_ok.mp hc
    exact Bool.and_eq_true_iff.mpr ⟨gk.toGrIn.okE this.e, hg.toVsOk.ok this.v⟩)
  refine ⟨shc, shp_nil, ?_⟩
  rw [eqv_nil]
  have en : decide ((everyC ns (encE.srtd es)).map pC = []) = decide (everyC ns (encE.srtd es) = []) := decide_eq_decide.mpr List.map_eq_nil_iff
  rw [en]
  have fl : ∃ f : Nat, (if (!decide (everyC ns (encE.srtd es) = [])) = true then (1 : Int) else 0) = (f : Int) ∧ (f = 0 ∨ (f = 1 ∧ everyC ns (encE.srtd es) ≠ [])) := by
    split
    · rename_i z; exact ⟨1, rfl, .inr ⟨rfl, of_decide_eq_true (not_t z)⟩⟩
    · exact ⟨0, rfl, .inl rfl⟩
  obtain ⟨f, ef, hf⟩ := fl
  conv => whnf
  rw [ef]
  refine ⟨.inr (by rcases hf with rfl | ⟨rfl, _⟩ <;> exact ⟨by decide, by decide⟩), ?_⟩
  have few : n * f ≤ 11 := by rcases hf with rfl | ⟨rfl, _⟩ <;> omega
  rw [show (fun i j : Int => i * j) (n : Int) (f : Int) = ((n * f : Nat) : Int) by simp]
  conv => whnf
  refine ⟨⟨by omega, by omega⟩, ?_⟩
  rw [count_nat]
  simp only [wipeE, backE, stayV, startE, List.set_cons_zero, List.set_cons_succ, List.getElem?_cons_zero, List.getElem?_cons_succ, putB, putC, Sl.put, List.cons_append, List.nil_append, List.length_cons, List.length_nil, Nat.reduceAdd, Nat.reduceSub, List.replicate_succ, List.replicate_zero]
  refine runF_rec pN (fun todo e => todo.length + 0 ≤ n * f ∧ ∃ s, ∃ F : List Ca2, ∃ s5, (e = [.io (srcP s), .val (.lst (ns.map .str)), .val (.lst (es.map pE)), .own (.lst ((everyC ns (encE.srtd es)).map pC)), .own (.lst (F.map pC)), s5] ∨ e = [.io (srcP s), .val (.lst (ns.map .str)), .val (.lst (es.map pE)), .val (.lst ((everyC ns (encE.srtd es)).map pC)), .own (.lst (F.map pC)), s5]) ∧ slB s5 = true ∧ (∀ c ∈ F, CaOk ns es c) ∧ F.length + todo.length = n * f) _ _ ⟨by rw [List.length_range]; omega, s2, [], .no, .inl rfl, rfl, (fun c hc => nomatch hc), by rw [List.length_range]; simp⟩ ?_ ?_
  · rintro x xs e R ⟨hx, s3, F, s5, he, n5, hF, lF⟩ hR
    rw [List.length_cons] at hx lF
    have ne : everyC ns (encE.srtd es) ≠ [] := by
      rcases hf with rfl | ⟨rfl, z⟩
      · rw [Nat.mul_zero] at hx; omega
      · exact z
    have ne2 : (everyC ns (encE.srtd es)).map pC ≠ [] := fun z => ne (List.map_eq_nil_iff.mp z)
    have ln : ((everyC ns (encE.srtd es)).map pC).length < 100000 := by rw [List.length_map]; omega
    have fin : ∀ (c : PV) (s4 : Src), c ∈ (everyC ns (encE.srtd es)).map pC → R [.io (srcP s4), .val (.lst (ns.map .str)), .val (.lst (es.map pE)), .val (.lst ((everyC ns (encE.srtd es)).map pC)), .own (.lst (F.map pC ++ [c])), .val (pN x)] := fun c s4 hc => by
      obtain ⟨c, hc2, rfl⟩ := List.mem_map.mp hc
      refine hR _ ⟨by omega, s4, F ++ [c], _, .inr (by rw [List.map_append]; rfl), rfl, fun d hd => ?_, by rw [List.length_append]; simp; omega⟩
      rcases List.mem_append.mp hd with hd | hd
      · exact hF d hd
      · rw [List.mem_singleton] at hd
        rw [hd]
        have := (everyC_ok (ns := ns) (es := encE.srtd es) (c := c)).mp hc2
        exact ⟨(encE.srtd_perm es).mem_iff.mp this.e, this.v, this.n1, this.n2⟩
    rcases he with rfl | rfl
    · conv => whnf
      refine free_go (n5) ?_
      conv => whnf
      refine ⟨rfl, ?_⟩
      conv => whnf
      refine ⟨rfl, ?_⟩
      conv => whnf
      refine ⟨rfl, ?_⟩
      conv => whnf
      refine ⟨nd1 0, ?_⟩
      conv => whnf
      refine ⟨s3, (everyC ns (encE.srtd es)).map pC, ⟨ne2, ln⟩, rfl, fun c s4 hc => ?_⟩
      conv => whnf
      refine ⟨by rw [List.length_map]; unfold SZ; omega, ?_⟩
      exact fin c s4 hc
    · conv => whnf
      refine free_go (n5) ?_
      conv => whnf
      refine ⟨rfl, ?_⟩
      conv => whnf
      refine ⟨rfl, ?_⟩
      conv => whnf
      refine ⟨nd1 0, ?_⟩
      conv => whnf
      refine ⟨s3, (everyC ns (encE.srtd es)).map pC, ⟨ne2, ln⟩, rfl, fun c s4 hc => ?_⟩
      conv => whnf
      refine ⟨by rw [List.length_map]; unfold SZ; omega, ?_⟩
      exact fin c s4 hc
  · rintro e ⟨_, s3, F, s5, he, n5, hF, lF⟩
    rcases he with rfl | rfl
    all_goals exact h F s3 ⟨hF, by omega⟩
end CP
/-! The laws' graphs. -/
namespace CP
open PySem PySem.Spec PyProof.Rows L2
/-- all edges among the names -/
def allN (ns todo : List Str) : List Ed2 := todo.flatMap fun a => (ns.filter (strLt a)).map fun b => (a, b)
theorem allN_mem {ns todo : List Str} {e : Ed2} : e ∈ allN ns todo ↔ e.1 ∈ todo ∧ e.2 ∈ ns ∧ strLt e.1 e.2 = true := by
  unfold allN
  constructor
  · intro h
    obtain ⟨a, ha, h⟩ := List.mem_flatMap.mp h
    obtain ⟨b, hb, rfl⟩ := List.mem_map.mp h
    obtain ⟨h1, h2⟩ := List.mem_filter.mp hb
    exact ⟨ha, h1, h2⟩
  · rintro ⟨h1, h2, h3⟩
    exact List.mem_flatMap.mpr ⟨e.1, h1, List.mem_map.mpr ⟨e.2, List.mem_filter.mpr ⟨h2, h3⟩, rfl⟩⟩
theorem allN_nd {ns : List Str} (nd : ns.Nodup) : ∀ {todo : List Str}, todo.Nodup → (allN ns todo).Nodup
  | [], _ => List.nodup_nil
  | a :: todo, h => by
    obtain ⟨h1, h2⟩ := List.nodup_cons.mp h
    show ((ns.filter (strLt a)).map (fun b => (a, b)) ++ allN ns todo).Nodup
    refine List.nodup_append.mpr ⟨nodup_map (fun x y e => congrArg (·.2) e) (nd.filter _), allN_nd nd h2, fun x hx y hy e => ?_⟩
    subst e
    obtain ⟨b, _, rfl⟩ := List.mem_map.mp hx
    exact h1 (allN_mem.mp hy).1
theorem allN_len (ns : List Str) : ∀ todo : List Str, (allN ns todo).length ≤ todo.length * ns.length
  | [] => by simp [allN]
  | a :: todo => by
    show ((ns.filter (strLt a)).map (fun b => (a, b)) ++ allN ns todo).length ≤ _
    have := List.length_filter_le (strLt a) ns
    have := allN_len ns todo
    rw [List.length_append, List.length_map, List.length_cons, Nat.add_mul]
    omega
theorem eight_nd : eight.Nodup := by decide +kernel
theorem eight_nm : ∀ x ∈ eight, nameB x = true := by decide +kernel
theorem shpLs {xs : List Ed2} (h : encE.oks xs = true) : Shp (.lst (xs.map pE)) := encE.shpL h
theorem hq__law_graph (C : Addr) : ∀ ss Q, g__law_graph C ss Q → q__law_graph C (bodyEnds 2 Q) (startE 7 ss) := by
  rintro _ Q ⟨s, m, ⟨m0, m8⟩, rfl, h⟩
  conv => whnf
  refine ⟨rfl, ?_⟩
  conv => whnf
  refine ⟨Nat.le_of_ble_eq_true rfl, ?_⟩
  conv => whnf
  refine ⟨rfl, ?_⟩
  conv => whnf
  refine ⟨nd1 0, ?_⟩
  conv => whnf
  refine ⟨s, eight.map .str, ⟨encS.shpL (by decide +kernel), by decide⟩, rfl, fun ys s1 py => ?_⟩
  obtain ⟨zs, rfl, pz⟩ := perm_of_map py
  conv => whnf
  refine ⟨rfl, ?_⟩
  conv => whnf
  refine ⟨rfl, ?_⟩
  conv => whnf
  refine ⟨nd1 0, ?_⟩
  conv => whnf
  refine ⟨s1, m, ⟨m0, by omega⟩, rfl, fun n s2 hn => ?_⟩
  conv => whnf
  rw [show (1 : Int) + (n : Int) = ((1 + n : Nat) : Int) by omega, cut_take PV.str zs (1 + n)]
  have pl : zs.length = 8 := pz.length_eq
  have nd : (zs.take (1 + n)).Nodup := (List.take_sublist _ _).nodup (pz.nodup_iff.mpr eight_nd)
  have nm : ∀ x ∈ zs.take (1 + n), nameB x = true := fun x hx => eight_nm x (pz.mem_iff.mp (List.mem_of_mem_take hx))
  have ln : (zs.take (1 + n)).length = 1 + n := by rw [List.length_take]; omega
  generalize zs.take (1 + n) = ns at nd nm ln ⊢
  have vs : VsOk ns := ⟨nd, by omega, by omega, nm⟩
  have la := allN_len ns ns
  have sq : ns.length * ns.length ≤ 8 * 8 := Nat.mul_le_mul (by omega) (by omega)
  conv => whnf
  refine ⟨Nat.le_of_ble_eq_true rfl, ?_⟩
  conv => whnf
  refine ⟨rfl, ?_⟩
  conv => whnf
  simp only [wipeE, backE, stayV, startE, List.set_cons_zero, List.set_cons_succ, List.getElem?_cons_zero, List.getElem?_cons_succ, putB, putC, Sl.put, List.cons_append, List.nil_append, List.length_cons, List.length_nil, Nat.reduceAdd, Nat.reduceSub, List.replicate_succ, List.replicate_zero]
  refine runF_rec PV.str (fun todo e => ∃ done s4, done ++ todo = ns ∧ e = [.io (srcP s2), .val (.int m), .val (.lst (ns.map .str)), .own (.lst ((allN ns done).map pE)), s4, .no, .no] ∧ slB s4 = true) _ _ ⟨[], .no, rfl, rfl, rfl⟩ ?_ ?_
  · rintro x xs _ R ⟨done, s4, hd, rfl, n4⟩ hR
    have xm : x ∈ ns := by rw [← hd]; simp
    have l1 := allN_len ns done
    have ld : done.length ≤ 8 := by have := congrArg List.length hd; rw [List.length_append] at this; omega
    have l2 : done.length * ns.length ≤ 8 * 8 := Nat.mul_le_mul ld (by omega)
    conv => whnf
    refine free_go (n4) ?_
    conv => whnf
    refine ⟨rfl, ?_⟩
    conv => whnf
    refine ⟨rfl, ?_⟩
    simp only [wipeE, backE, stayV, startE, List.set_cons_zero, List.set_cons_succ, List.getElem?_cons_zero, List.getElem?_cons_succ, putB, putC, Sl.put, List.cons_append, List.nil_append, List.length_cons, List.length_nil, Nat.reduceAdd, Nat.reduceSub, List.replicate_succ, List.replicate_zero]
    refine runC_sel PV.str (strLt x) (fun y => pE (x, y)) ns (fun y hy R1 R0 h1 h0 => ?_) ?_
    · conv => whnf
      refine ⟨⟨rfl, rfl, encS.alike _ _, encS.nn _, Nat.le_trans (encS.depth x) (by decide)⟩, ?_⟩
      rw [show dLt (PV.toD (.str x)) (PV.toD (.str y)) = strLt x y from encS.dlt x y]
      cases c : strLt x y with
      | true =>
        conv => whnf
        refine ⟨Nat.le_of_ble_eq_true rfl, ?_⟩
        conv => whnf
        exact h1 c
      | false => exact h0 c
    · have l3 := List.length_filter_le (strLt x) ns
      conv => whnf
      refine ⟨rfl, ?_⟩
      conv => whnf
      refine ⟨by rw [List.length_map, List.length_map]; unfold SZ; omega, ?_⟩
      refine hR _ ⟨done ++ [x], .val (.str x), by simpa using hd, ?_, rfl⟩
      have e : allN ns (done ++ [x]) = allN ns done ++ (ns.filter (strLt x)).map fun b => (x, b) := by unfold allN; rw [List.flatMap_append]; simp
      rw [e, List.map_append, List.map_map]
      rfl
  · rintro _ ⟨done, s4, hd, rfl, n4⟩
    have hd : done = ns := by simpa using hd
    subst hd
    have ae := allN_nd nd nd
    have eo : encE.oks (allN done done) = true := List.all_eq_true.mpr fun e he => by
      obtain ⟨h1, h2, _⟩ := allN_mem.mp he
      exact Bool.and_eq_true_iff.mpr ⟨vs.ok h1, vs.ok h2⟩
    conv => whnf
    refine ⟨rfl, ?_⟩
    conv => whnf
    refine ⟨rfl, ?_⟩
    conv => whnf
    refine ⟨nd1 0, ?_⟩
    conv => whnf
    refine ⟨s2, (allN done done).map pE, ⟨shpLs eo, by rw [List.length_map]; omega⟩, rfl, fun ys s3 py => ?_⟩
    obtain ⟨es, rfl, pe⟩ := perm_of_map py
    have le : es.length ≤ 64 := by rw [pe.length_eq]; omega
    conv => whnf
    simp only [wipeE, backE, stayV, startE, List.set_cons_zero, List.set_cons_succ, List.getElem?_cons_zero, List.getElem?_cons_succ, putB, putC, Sl.put, List.cons_append, List.nil_append, List.length_cons, List.length_nil, Nat.reduceAdd, Nat.reduceSub, List.replicate_succ, List.replicate_zero]
    refine ⟨rfl, ?_⟩
    conv => whnf
    refine ⟨.inl ⟨by decide, by decide⟩, ?_⟩
    conv => whnf
    refine ⟨rfl, ?_⟩
    conv => whnf
    refine ⟨nd1 0, ?_⟩
    conv => whnf
    refine ⟨s3, es.length + 1, ⟨by omega, by omega⟩, by rw [List.length_map]; rfl, fun k s4 hk => ?_⟩
    conv => whnf
    refine ⟨Nat.le_of_ble_eq_true rfl, ?_⟩
    conv => whnf
    refine ⟨rfl, ?_⟩
    conv => whnf
    refine ⟨nd1 0, ?_⟩
    conv => whnf
    refine ⟨s4, _, ⟨by simp, (by show (4 : Nat) < 100000; decide)⟩, rfl, fun x s5 hx => ?_⟩
    have ⟨L, hL⟩ : ∃ L : Nat, x = .int (L : Int) := by
      simp only [List.mem_cons, List.not_mem_nil, or_false] at hx
      rcases hx with rfl | rfl | rfl | rfl
      · exact ⟨18, rfl⟩
      · exact ⟨(done.map PV.str).length + 1, rfl⟩
      · exact ⟨2 * (done.map PV.str).length, rfl⟩
      · exact ⟨k, rfl⟩
    subst hL
    have mn : (if (18 : Int) < (L : Int) then (18 : Int) else (L : Int)) = ((if 18 < L then 18 else L : Nat) : Int) := by split <;> split <;> omega
    have mb : (if 18 < L then 18 else L : Nat) ≤ 18 := by split <;> omega
    conv => whnf
    rw [mn, cut_take pE es]
    generalize (if 18 < L then 18 else L : Nat) = j at mb
    refine ⟨rfl, ?_⟩
    conv => whnf
    refine ⟨Nat.le_of_ble_eq_true rfl, ?_⟩
    conv => whnf
    refine h done (es.take j) s5 ⟨⟨vs, (List.take_sublist _ _).nodup (pe.nodup_iff.mpr ae), by rw [List.length_take]; omega, fun e he => ?_⟩, by omega⟩
    have he := allN_mem.mp (pe.mem_iff.mp (List.mem_of_mem_take he))
    exact ⟨he.1, he.2.1, he.2.2⟩
end CP
/-! Records as numbers. -/
namespace CP
open PySem PySem.Spec PyProof.Rows L2
variable {ns : List Str} {es : List Ed2} {r c w : List Pr2}
theorem cpar_num (hg : GrOk ns es) (hr : RecOk es r) (w : List Pr2) : cpar r w = (dot (num es r) (num es w)).toNat := cpar_dot (prs_nd hg.asc) hr.nd hr.sub w
theorem mem_tog {p : Pr2} : p ∈ tog r c ↔ (p ∈ r ∧ p ∉ c) ∨ (p ∈ c ∧ p ∉ r) := by
  unfold tog
  rw [(encPr.srtd_perm _).mem_iff, List.mem_append, List.mem_filter, List.mem_filter]
  simp only [decide_eq_true_iff]
theorem num_tog : num es (tog r c) = num es r ^^^ num es c := by
  unfold num
  rw [nmf_xor]
  refine nmf_ext fun p _ => ?_
  by_cases h1 : p ∈ r <;> by_cases h2 : p ∈ c <;> simp [mem_tog, h1, h2]
theorem tog_ok (hr : RecOk es r) (hc : RecOk es c) : RecOk es (tog r c) := by
  refine ⟨?_, fun p hp => ?_⟩
  · unfold tog
    refine (encPr.srtd_perm _).nodup_iff.mpr (List.nodup_append.mpr ⟨hr.nd.filter _, hc.nd.filter _, fun x hx y hy e => ?_⟩)
    subst e
    exact of_decide_eq_true (List.mem_filter.mp hx).2 (List.mem_filter.mp hy).1
  · rcases mem_tog.mp hp with h | h
    · exact hr.sub p h.1
    · exact hc.sub p h.1
theorem num_fold (P : List Pr2) (fl : Ca2 → List Pr2) : ∀ (cs : List Ca2) (f : Pr2 → Bool), nmf (fun p => cs.foldl (fun b c => b ^^ decide (p ∈ fl c)) (f p)) P = cs.foldl (fun n c => n ^^^ nmf (fun p => decide (p ∈ fl c)) P) (nmf f P)
  | [], _ => rfl
  | c :: cs, f => by
    show nmf (fun p => cs.foldl (fun b c => b ^^ decide (p ∈ fl c)) (f p ^^ decide (p ∈ fl c))) P = cs.foldl (fun n c => n ^^^ nmf (fun p => decide (p ∈ fl c)) P) (nmf f P ^^^ nmf (fun p => decide (p ∈ fl c)) P)
    rw [num_fold P fl cs, nmf_xor]
theorem num_car (cs : List Ca2) : num es (carR es r cs) = cs.foldl (fun n c => n ^^^ num es (flips es c)) (num es r) := by
  refine Eq.trans ?_ (num_fold (prs es) (flips es) cs fun p => decide (p ∈ r))
  unfold num
  refine nmf_ext fun p hp => ?_
  unfold carR
  cases e : cs.foldl (fun b c => b ^^ decide (p ∈ flips es c)) (decide (p ∈ r)) with
  | true => exact decide_eq_true (List.mem_filter.mpr ⟨hp, e⟩)
  | false => exact decide_eq_false fun z => by rw [(List.mem_filter.mp z).2] at e; cases e
theorem car_ok (hg : GrOk ns es) (cs : List Ca2) : RecOk es (carR es r cs) := ⟨(prs_nd hg.asc).filter _, fun p hp => (List.mem_filter.mp hp).1⟩
theorem sub_ok (hg : GrOk ns es) (h : r.Sublist (prs es)) : RecOk es r := ⟨h.nodup (prs_nd hg.asc), fun p hp => h.subset hp⟩
theorem isWit_iff (hg : GrOk ns es) (hw : RecOk es w) : isWit ns es w = true ↔ ∀ c ∈ everyC ns es, dot (num es w) (num es (flips es c)) = false := by
  unfold isWit
  rw [List.all_eq_true]
  refine forall_congr' fun c => forall_congr' fun hc => ?_
  rw [decide_eq_true_iff, cpar_num hg hw]
  cases dot (num es w) (num es (flips es c)) <;> decide
theorem toNat_xor (a b : Bool) : (a ^^ b).toNat = (a.toNat + b.toNat) % 2 := by cases a <;> cases b <;> rfl
theorem cpar_tog (hg : GrOk ns es) (hr : RecOk es r) (hc : RecOk es c) (w : List Pr2) : cpar (tog r c) w = (cpar r w + cpar c w) % 2 := by
  rw [cpar_num hg (tog_ok hr hc), cpar_num hg hr, cpar_num hg hc, num_tog, dot_xor, toNat_xor]
theorem cpar_tog' (hg : GrOk ns es) (hr : RecOk es r) (a b : List Pr2) : cpar r (tog a b) = (cpar r a + cpar r b) % 2 := by
  rw [cpar_num hg hr, cpar_num hg hr, cpar_num hg hr, num_tog, dot_xor', toNat_xor]
theorem dot_fold {w : Nat} (fl : Ca2 → Nat) : ∀ (cs : List Ca2) (n : Nat), (∀ c ∈ cs, dot (fl c) w = false) → dot (cs.foldl (fun n c => n ^^^ fl c) n) w = dot n w
  | [], _, _ => rfl
  | c :: cs, n, h => by
    show dot (cs.foldl (fun n c => n ^^^ fl c) (n ^^^ fl c)) w = _
    rw [dot_fold fl cs _ fun c hc => h c (List.mem_cons_of_mem _ hc), dot_xor, h c List.mem_cons_self, Bool.xor_false]
theorem cpar_car (hg : GrOk ns es) (hr : RecOk es r) (hw : RecOk es w) (iw : isWit ns es w = true) {cs : List Ca2} (hc : ∀ c ∈ cs, CaOk ns es c) : cpar (carR es r cs) w = cpar r w := by
  have h := (isWit_iff hg hw).mp iw
  rw [cpar_num hg (car_ok hg cs), cpar_num hg hr, num_car, dot_fold]
  intro c h2
  rw [dot_comm]
  exact h c (everyC_ok.mpr (hc c h2))
theorem isWit_tog (hg : GrOk ns es) (hr : RecOk es r) (hw : RecOk es w) (iw : isWit ns es w = true) : isWit ns es (tog r w) = isWit ns es r := by
  have h := (isWit_iff hg hw).mp iw
  rw [Bool.eq_iff_iff, isWit_iff hg (tog_ok hr hw), isWit_iff hg hr]
  refine forall_congr' fun c => forall_congr' fun hc => ?_
  rw [num_tog, dot_xor, h c hc, Bool.xor_false]
theorem wit_even {es0 : List Ed2} (hg : GrIn ns es0) (hw : w.Sublist (prs (encE.srtd es0))) (ev : evenU ns es0 w) : isWit ns (encE.srtd es0) w = true := by
  have gk := hg.srt
  refine (isWit_iff gk (sub_ok gk hw)).mpr fun c hc => ?_
  have fo := flips_ok gk (everyC_ok.mp hc)
  have pf := flips_perm (c := c) (encE.srtd_perm es0)
  have h := ev c hc
  rw [cpar_dot (prs_nd gk.asc) (pf.nodup_iff.mp fo.nd) (fun p hp => fo.sub p (pf.mem_iff.mpr hp))] at h
  have e : nmf (fun p => decide (p ∈ flips es0 c)) (prs (encE.srtd es0)) = num (encE.srtd es0) (flips (encE.srtd es0) c) := by
    unfold num
    exact nmf_ext fun p _ => decide_eq_decide.mpr pf.mem_iff.symm
  rw [e] at h
  rw [dot_comm]
  show dot _ (num _ w) = false
  revert h
  show (dot _ (num (encE.srtd es0) w)).toNat = 0 → _
  cases dot (num (encE.srtd es0) (flips (encE.srtd es0) c)) (num (encE.srtd es0) w) <;> decide
theorem sub_map {P : List Pr2} {ys : List PV} (h : ys.Sublist (P.map pP)) : ∃ r : List Pr2, r.Sublist P ∧ ys = r.map pP := by
  obtain ⟨r, hr, e⟩ := List.sublist_map_iff.mp h
  exact ⟨r, hr, e⟩
end CP
/-! Lemmas for the laws. -/
namespace CP
open PySem PySem.Spec PyProof.Rows L2
theorem cut_some {α : Type} (f : α → PV) (xs : List α) (lo hi : Option Int) : ∃ ys : List α, cutP (xs.map f) lo hi = ys.map f ∧ ys.length ≤ xs.length := by
  unfold cutP
  rw [List.length_map]
  refine ⟨(xs.drop (HT.sIx xs.length 0 lo)).take (HT.sIx xs.length xs.length hi - HT.sIx xs.length 0 lo), by rw [List.map_take, List.map_drop], ?_⟩
  rw [List.length_take, List.length_drop]
  omega
theorem GrIn.take {ns : List Str} {es : List Ed2} (h : GrIn ns es) (n : Nat) : GrIn ns (es.take n) := ⟨h.toVsOk, (List.take_sublist _ _).nodup h.end_, by have := h.e18; rw [List.length_take]; omega, fun e he => h.ed e (List.mem_of_mem_take he)⟩
theorem RecOk.oks {ns : List Str} {es : List Ed2} {r : List Pr2} (hr : RecOk es r) (hg : GrOk ns es) : encPr.oks r = true := List.all_eq_true.mpr fun p hp => hg.toGrIn.okP (hr.sub p hp)
theorem CaOk.srt {ns : List Str} {es : List Ed2} {c : Ca2} (h : CaOk ns es c) : CaOk ns (encE.srtd es) c := ⟨(encE.srtd_perm es).mem_iff.mpr h.e, h.v, h.n1, h.n2⟩
theorem stay_b {s : Sl} (h : slB s = true) : slB (stayV (some s)) = true := by cases s <;> first | rfl | cases h
theorem noIo1 {e : PEnv} {v : Nat} (h : slF e[v]? = true) : noIo e [v] = true := by
  unfold noIo
  cases c : e[v]? with
  | none => rw [List.all_cons, c]; rfl
  | some s =>
    rw [c] at h
    rw [List.all_cons, c]
    cases s <;> first | rfl | cases h
theorem shp_ints (xs : List Int) : Shp (.lst (xs.map .int)) := (shp_iff _).mpr fun x hx => by
  obtain ⟨i, _, rfl⟩ := List.mem_map.mp hx
  exact ⟨rfl, rfl, Nat.zero_le _⟩
theorem eqv_ints (xs : List Int) : PyData.eqv (PV.toD (.lst (xs.map .int))) (PV.toD (.lst (xs.map .int))) = true := by
  simp only [PV.toD, PyData.eqv]
  induction xs with
  | nil => simp [PV.toDs, PyData.eqvAll]
  | cons x xs ih => simp [PV.toDs, PyData.eqvAll, PV.toD, PyData.eqv, ih]
theorem ne_no (xs : List Int) (z : (!PyData.eqv (PV.toD (.lst (xs.map .int))) (PV.toD (.lst (xs.map .int)))) = true) : False := by
  rw [eqv_ints] at z
  cases z
theorem ne_noI {a b : Int} (h : a = b) (z : (!decide (a = b)) = true) : False := by
  rw [decide_eq_true h] at z
  cases z
theorem ne_noB {a : Bool} (z : (!decide (a = a)) = true) : False := by
  rw [decide_eq_true rfl] at z
  cases z
end CP
/-! k08. -/
namespace CP
open PySem PySem.Spec PyProof.Rows L2
theorem hq_law_k08 (C : Addr) : ∀ ss Q, g_law C ss Q → q_law_k08 C (bodyEnds 1 Q) (startE 15 ss) := by
  rintro _ Q ⟨xs, x63, rfl, h⟩
  conv => whnf
  refine ⟨xs, 0, rfl, fun c => ?_⟩
  conv => whnf
  refine ⟨Nat.le_of_ble_eq_true rfl, ?_⟩
  conv => whnf
  conv => whnf
  refine ⟨rfl, ?_⟩
  conv => whnf
  obtain ⟨ys, ey, ly⟩ := cut_some PV.int xs (some 1) (some 2)
  conv => whnf
  rw [ey]
  conv => whnf
  refine ⟨by rw [List.length_map, List.length_singleton]; unfold SZ; omega, ?_⟩
  conv => whnf
  rw [show [PV.int c] ++ ys.map PV.int = (c :: ys).map PV.int from rfl]
  generalize c :: ys = zs
  refine ⟨rfl, ?_⟩
  conv => whnf
  refine runF_rec PV.int (fun _ e => ∃ s1 s2 s3 s4 s5 s6 s7 s8 s9 s10 s11 s12 s13 s14, e = [.val (.scr (xs.map .int)), s1, s2, s3, s4, s5, s6, s7, s8, s9, s10, s11, s12, s13, s14] ∧ slB s1 = true ∧ slB s2 = true ∧ slB s3 = true ∧ slB s4 = true ∧ slB s5 = true ∧ slB s6 = true ∧ slB s7 = true ∧ slB s8 = true ∧ slB s9 = true ∧ slB s10 = true ∧ slB s11 = true ∧ slB s12 = true ∧ slB s13 = true ∧ slB s14 = true) _ _ ⟨.no, .no, .no, .no, .no, .no, .no, .no, .no, .no, .no, .no, .no, .no, rfl, rfl, rfl, rfl, rfl, rfl, rfl, rfl, rfl, rfl, rfl, rfl, rfl, rfl, rfl⟩ ?_ ?_
  · rintro x todo _ R ⟨s1, s2, s3, s4, s5, s6, s7, s8, s9, s10, s11, s12, s13, s14, rfl, n1, n2, n3, n4, n5, n6, n7, n8, n9, n10, n11, n12, n13, n14⟩ hR
    conv => whnf
    refine free_go (n1) ?_
    conv => whnf
    conv => whnf
    refine ⟨x, rfl, fun s c1 => ?_⟩
    conv => whnf
    refine free_go (n2) ?_
    conv => whnf
    conv => whnf
    refine ⟨rfl, ?_⟩
    conv => whnf
    refine ⟨nd1 2, ?_⟩
    conv => whnf
    refine ⟨s, 8, ⟨by decide, by decide⟩, rfl, fun ns es0 s' ⟨hg0, l8⟩ => ?_⟩
    conv => whnf
    refine free_go (n3) ?_
    conv => whnf
    conv => whnf
    refine free_go (n4) ?_
    conv => whnf
    simp only [wipeE, backE, stayV, startE, List.set_cons_zero, List.set_cons_succ, List.getElem?_cons_zero, List.getElem?_cons_succ, putB, putC, Sl.put, List.cons_append, List.nil_append, List.length_cons, List.length_nil, Nat.reduceAdd, Nat.reduceSub, List.replicate_succ, List.replicate_zero]
    conv => whnf
    rw [show (14 : Int) = ((14 : Nat) : Int) from rfl, cut_take pE es0]
    have hg := hg0.take 14
    generalize es0.take 14 = es at hg
    have gk := hg.srt
    have few := gk.toGrIn.prs_few
    conv => whnf
    refine ⟨rfl, ?_⟩
    conv => whnf
    refine ⟨_, _, ns, es, hg, .inl rfl, .inl rfl, rfl, rfl, ?_⟩
    conv => whnf
    refine free_go (n5) ?_
    conv => whnf
    conv => whnf
    refine ⟨es, ⟨hg.end_, hg.oks, by have := hg.e18; omega⟩, rfl, ?_⟩
    conv => whnf
    refine free_go (n6) ?_
    conv => whnf
    simp only [wipeE, backE, stayV, startE, List.set_cons_zero, List.set_cons_succ, List.getElem?_cons_zero, List.getElem?_cons_succ, putB, putC, Sl.put, List.cons_append, List.nil_append, List.length_cons, List.length_nil, Nat.reduceAdd, Nat.reduceSub, List.replicate_succ, List.replicate_zero]
    conv => whnf
    refine ⟨rfl, ?_⟩
    conv => whnf
    refine ⟨nd1 2, ?_⟩
    conv => whnf
    refine ⟨s', ns, es, hg, rfl, fun w1 s2 ⟨k1, e1⟩ => ?_⟩
    conv => whnf
    refine ⟨rfl, ?_⟩
    conv => whnf
    refine ⟨rfl, ?_⟩
    conv => whnf
    refine ⟨nd1 2, ?_⟩
    conv => whnf
    refine ⟨s2, ns, es, hg, rfl, fun w2 s3' ⟨k2, e2⟩ => ?_⟩
    conv => whnf
    refine ⟨rfl, ?_⟩
    conv => whnf
    refine ⟨Nat.le_of_ble_eq_true rfl, ?_⟩
    conv => whnf
    refine free_go (n7) ?_
    conv => whnf
    have r1 := sub_ok gk k1
    have r2 := sub_ok gk k2
    have i1 := wit_even hg k1 e1
    have i2 := wit_even hg k2 e2
    have f1 := r1.few gk.toGrIn
    have f2 := r2.few gk.toGrIn
    conv => whnf
    refine ⟨w1, w2, ⟨r1.oks gk, r2.oks gk, by omega, by omega⟩, rfl, ?_⟩
    conv => whnf
    refine free_go (n8) ?_
    conv => whnf
    simp only [wipeE, backE, stayV, startE, List.set_cons_zero, List.set_cons_succ, List.getElem?_cons_zero, List.getElem?_cons_succ, putB, putC, Sl.put, List.cons_append, List.nil_append, List.length_cons, List.length_nil, Nat.reduceAdd, Nat.reduceSub, List.replicate_succ, List.replicate_zero]
    conv => whnf
    refine ⟨rfl, ?_⟩
    conv => whnf
    refine ⟨rfl, ?_⟩
    conv => whnf
    refine ⟨nd1 2, ?_⟩
    conv => whnf
    refine ⟨s3', (prs (encE.srtd es)).map pP, ⟨encPr.shpL gk.oksP, by rw [List.length_map]; omega⟩, rfl, fun ys1 s4' hs1 => ?_⟩
    obtain ⟨r, hr, rfl⟩ := sub_map hs1
    conv => whnf
    refine ⟨rfl, ?_⟩
    conv => whnf
    refine ⟨rfl, ?_⟩
    conv => whnf
    refine ⟨nd1 2, ?_⟩
    conv => whnf
    refine ⟨s4', (prs (encE.srtd es)).map pP, ⟨encPr.shpL gk.oksP, by rw [List.length_map]; omega⟩, rfl, fun ys2 s5' hs2 => ?_⟩
    obtain ⟨o, ho, rfl⟩ := sub_map hs2
    have rr := sub_ok gk hr
    have ro := sub_ok gk ho
    have fr := rr.few gk.toGrIn
    have fo := ro.few gk.toGrIn
    conv => whnf
    refine ⟨rfl, ?_⟩
    conv => whnf
    refine ⟨Nat.le_of_ble_eq_true rfl, ?_⟩
    conv => whnf
    refine free_go (n9) ?_
    conv => whnf
    conv => whnf
    refine free_go (n10) ?_
    conv => whnf
    simp only [wipeE, backE, stayV, startE, List.set_cons_zero, List.set_cons_succ, List.getElem?_cons_zero, List.getElem?_cons_succ, putB, putC, Sl.put, List.cons_append, List.nil_append, List.length_cons, List.length_nil, Nat.reduceAdd, Nat.reduceSub, List.replicate_succ, List.replicate_zero]
    conv => whnf
    refine ⟨rfl, ?_⟩
    conv => whnf
    refine ⟨rfl, ?_⟩
    conv => whnf
    refine ⟨nd1 2, ?_⟩
    conv => whnf
    refine ⟨s5', ns, es, hg, rfl, fun cs s6' ⟨hc0, lc⟩ => ?_⟩
    have hc : ∀ c ∈ cs, CaOk ns (encE.srtd es) c := fun c h => (hc0 c h).srt
    conv => whnf
    refine ⟨rfl, ?_⟩
    conv => whnf
    refine ⟨ns, encE.srtd es, .lst (r.map pP), .lst (cs.map pC), r, cs, gk, rr, hc, by omega, .inl rfl, .inl rfl, rfl, ?_⟩
    conv => whnf
    refine free_go (n11) ?_
    conv => whnf
    simp only [wipeE, backE, stayV, startE, List.set_cons_zero, List.set_cons_succ, List.getElem?_cons_zero, List.getElem?_cons_succ, putB, putC, Sl.put, List.cons_append, List.nil_append, List.length_cons, List.length_nil, Nat.reduceAdd, Nat.reduceSub, List.replicate_succ, List.replicate_zero]
    conv => whnf
    have rc := car_ok (r := r) gk cs
    have rt := tog_ok r1 r2
    refine ⟨rfl, ?_⟩
    conv => whnf
    refine ⟨noIo1 n12, ?_⟩
    refine runC_all (fun w : List Pr2 => .lst (w.map pP)) (fun w => .int (cpar r w : Nat)) [w1, w2] (fun w hw R R0 hR => ?_) ?_
    · have rw : RecOk (encE.srtd es) w ∧ isWit ns (encE.srtd es) w = true := by
        rcases List.mem_cons.mp hw with rfl | hw
        · exact ⟨r1, i1⟩
        · rcases List.mem_cons.mp hw with rfl | hw
          · exact ⟨r2, i2⟩
          · cases hw
      conv => whnf
      refine ⟨ns, encE.srtd es, .lst (r.map pP), .lst (w.map pP), r, w, gk, rr, rw.1, rw.2, .inl rfl, .inl rfl, rfl, ?_⟩
      exact hR
    show storeS 13 _ (List.set _ 12 (stayV (some s12))) _
    have nt := stay_b n12
    generalize stayV (some s12) = t12 at nt ⊢
    simp only [wipeE, backE, stayV, startE, List.set_cons_zero, List.set_cons_succ, List.getElem?_cons_zero, List.getElem?_cons_succ, putB, putC, Sl.put, List.cons_append, List.nil_append, List.length_cons, List.length_nil, Nat.reduceAdd, Nat.reduceSub, List.replicate_succ, List.replicate_zero]
    conv => whnf
    refine free_go (n13) ?_
    conv => whnf
    simp only [wipeE, backE, stayV, startE, List.set_cons_zero, List.set_cons_succ, List.getElem?_cons_zero, List.getElem?_cons_succ, putB, putC, Sl.put, List.cons_append, List.nil_append, List.length_cons, List.length_nil, Nat.reduceAdd, Nat.reduceSub, List.replicate_succ, List.replicate_zero]
    conv => whnf
    refine ⟨noIo1 nt, ?_⟩
    conv => whnf
    refine ⟨rfl, ?_⟩
    conv => whnf
    refine ⟨ns, encE.srtd es, .lst ((carR (encE.srtd es) r cs).map pP), .lst (w1.map pP), carR (encE.srtd es) r cs, w1, gk, rc, r1, i1, .inl rfl, .inl rfl, rfl, ?_⟩
    conv => whnf
    refine ⟨ns, encE.srtd es, .lst ((carR (encE.srtd es) r cs).map pP), .lst (w2.map pP), carR (encE.srtd es) r cs, w2, gk, rc, r2, i2, .inl rfl, .inl rfl, rfl, ?_⟩
    rw [cpar_car gk rr r1 i1 hc, cpar_car gk rr r2 i2 hc]
    have ntt := stay_b nt
    conv => whnf
    refine ⟨rfl, ?_⟩
    show qVar 13 (List.set _ 12 (stayV (some t12))) _
    generalize stayV (some t12) = u12 at ntt ⊢
    simp only [wipeE, backE, stayV, startE, List.set_cons_zero, List.set_cons_succ, List.getElem?_cons_zero, List.getElem?_cons_succ, putB, putC, Sl.put, List.cons_append, List.nil_append, List.length_cons, List.length_nil, Nat.reduceAdd, Nat.reduceSub, List.replicate_succ, List.replicate_zero]
    conv => whnf
    refine ⟨shp_ints [(cpar r w1 : Nat), (cpar r w2 : Nat)], shp_ints [(cpar r w1 : Nat), (cpar r w2 : Nat)], ?_⟩
    conv => whnf
    refine dec_any (fun z => (ne_no [((cpar r w1 : Nat) : Int), ((cpar r w2 : Nat) : Int)] z).elim) (fun _ => ?_)
    conv => whnf
    refine ⟨rfl, ?_⟩
    conv => whnf
    refine ⟨ns, encE.srtd es, .lst ((tog w1 w2).map pP), tog w1 w2, gk, rt, .inl rfl, rfl, ?_⟩
    rw [isWit_tog gk r1 r2 i2, i1]
    conv => whnf
    have iw : isWit ns (encE.srtd es) (tog w1 w2) = true := by rw [isWit_tog gk r1 r2 i2, i1]
    refine ⟨ns, encE.srtd es, .lst (r.map pP), .lst ((tog w1 w2).map pP), r, tog w1 w2, gk, rr, rt, iw, .inl rfl, .inl rfl, rfl, ?_⟩
    rw [cpar_tog' gk rr w1 w2]
    conv => whnf
    refine ⟨(by decide : (0 : Int) < 2), ?_⟩
    conv => whnf
    have su : (((cpar r w1 + cpar r w2) % 2 : Nat) : Int) = [((cpar r w1 : Nat) : Int), ((cpar r w2 : Nat) : Int)].sum % 2 := by
      simp only [List.sum_cons, List.sum_nil]
      omega
    refine dec_any (fun z => (ne_noI su z).elim) (fun _ => ?_)
    conv => whnf
    refine ⟨Nat.le_of_ble_eq_true rfl, ?_⟩
    conv => whnf
    refine ⟨Nat.le_of_ble_eq_true rfl, ?_⟩
    conv => whnf
    rw [show [PV.lst (w1.map pP), PV.lst (w2.map pP)] ++ [PV.lst ((tog w1 w2).map pP)] = [w1, w2, tog w1 w2].map (fun w : List Pr2 => PV.lst (w.map pP)) from rfl]
    obtain ⟨zs, ez⟩ : ∃ zs, zs = [w1, w2, tog w1 w2] := ⟨_, rfl⟩
    rw [← ez]
    refine ⟨rfl, ?_⟩
    conv => whnf
    simp only [wipeE, backE, stayV, startE, List.set_cons_zero, List.set_cons_succ, List.getElem?_cons_zero, List.getElem?_cons_succ, putB, putC, Sl.put, List.cons_append, List.nil_append, List.length_cons, List.length_nil, Nat.reduceAdd, Nat.reduceSub, List.replicate_succ, List.replicate_zero]
    refine runF_rec (fun w : List Pr2 => .lst (w.map pP)) (fun todo e => (∀ w ∈ todo, RecOk (encE.srtd es) w ∧ isWit ns (encE.srtd es) w = true) ∧ ∃ t12 t14, e = [Sl.val (PV.scr (List.map PV.int xs)), Sl.val (PV.int x), Sl.own (srcP s6'),
          Sl.val (PV.lst (List.map PV.str ns)), Sl.val (PV.lst (List.map pE es)), Sl.val (pG C ns (encE.srtd es)),
          Sl.val (PV.lst (List.map pP (prs (encE.srtd es)))),
          Sl.val (PV.lst [PV.lst (List.map pP w1), PV.lst (List.map pP w2)]), Sl.val (PV.lst (List.map pP (tog w1 w2))),
          Sl.val (PV.lst (List.map pP r)), Sl.val (PV.lst (List.map pP o)),
          Sl.val (PV.lst (List.map pP (carR (encE.srtd es) r cs))), t12,
          Sl.own (PV.lst (List.map (fun w => PV.int (cpar r w : Nat)) [w1, w2])), t14] ∧ slB t12 = true ∧ slB t14 = true) zs _ ⟨?_, u12, s14, rfl, ntt, n14⟩ ?_ ?_
    · intro w hw
      rw [ez] at hw
      simp only [List.mem_cons, List.not_mem_nil, or_false] at hw
      rcases hw with rfl | rfl | rfl
      · exact ⟨r1, i1⟩
      · exact ⟨r2, i2⟩
      · exact ⟨rt, iw⟩
    · rintro w todo _ R2 ⟨hw, t12, t14, rfl, m12, m14⟩ hR2
      obtain ⟨rw, jw⟩ := hw w List.mem_cons_self
      conv => whnf
      refine free_go (m12) ?_
      conv => whnf
      simp only [wipeE, backE, stayV, startE, List.set_cons_zero, List.set_cons_succ, List.getElem?_cons_zero, List.getElem?_cons_succ, putB, putC, Sl.put, List.cons_append, List.nil_append, List.length_cons, List.length_nil, Nat.reduceAdd, Nat.reduceSub, List.replicate_succ, List.replicate_zero]
      conv => whnf
      refine ⟨ns, encE.srtd es, .lst (r.map pP), .lst (w.map pP), r, w, gk, rr, rw, jw, .inl rfl, .inl rfl, rfl, ?_⟩
      conv => whnf
      refine ⟨ns, encE.srtd es, .lst (o.map pP), .lst (w.map pP), o, w, gk, ro, rw, jw, .inl rfl, .inl rfl, rfl, ?_⟩
      conv => whnf
      refine free_go (m14) ?_
      conv => whnf
      simp only [wipeE, backE, stayV, startE, List.set_cons_zero, List.set_cons_succ, List.getElem?_cons_zero, List.getElem?_cons_succ, putB, putC, Sl.put, List.cons_append, List.nil_append, List.length_cons, List.length_nil, Nat.reduceAdd, Nat.reduceSub, List.replicate_succ, List.replicate_zero]
      conv => whnf
      refine ⟨r, o, ⟨rr.oks gk, ro.oks gk, by omega, by omega⟩, rfl, ?_⟩
      conv => whnf
      refine ⟨rfl, ?_⟩
      conv => whnf
      refine ⟨ns, encE.srtd es, .lst ((tog r o).map pP), .lst (w.map pP), tog r o, w, gk, tog_ok rr ro, rw, jw, .inl rfl, .inl rfl, rfl, ?_⟩
      rw [cpar_tog gk rr ro]
      conv => whnf
      refine ⟨(by decide : (0 : Int) < 2), ?_⟩
      conv => whnf
      have su : (((cpar r w + cpar o w) % 2 : Nat) : Int) = ((cpar r w : Nat) + (cpar o w : Nat) : Int) % 2 := by omega
      refine dec_any (fun z => (ne_noI su z).elim) (fun _ => ?_)
      exact hR2 _ ⟨fun w hw2 => hw w (List.mem_cons_of_mem _ hw2), _, _, rfl, rfl, rfl⟩
    · rintro _ ⟨_, t12, t14, rfl, m12, m14⟩
      have ft := rt.few gk.toGrIn
      conv => whnf
      refine ⟨r, tog w1 w2, ⟨rr.oks gk, rt.oks gk, by omega, by omega⟩, rfl, ?_⟩
      conv => whnf
      refine ⟨rfl, ?_⟩
      conv => whnf
      refine ⟨ns, encE.srtd es, .lst ((tog r (tog w1 w2)).map pP), tog r (tog w1 w2), gk, tog_ok rr rt, .inl rfl, rfl, ?_⟩
      conv => whnf
      refine ⟨ns, encE.srtd es, .lst (r.map pP), r, gk, rr, .inl rfl, rfl, ?_⟩
      rw [isWit_tog gk rr rt iw]
      conv => whnf
      refine dec_any (fun z => (ne_noB z).elim) (fun _ => ?_)
      exact hR _ ⟨_, _, _, _, _, _, _, _, _, _, _, _, _, _, rfl, rfl, rfl, rfl, rfl, rfl, rfl, rfl, rfl, rfl, rfl, rfl, m12, rfl, m14⟩
  · rintro _ ⟨s1, s2, s3, s4, s5, s6, s7, s8, s9, s10, s11, s12, s13, s14, rfl, _⟩
    conv => whnf
    exact h
end CP
/-! k08: the texts of its defs (by tools/genq.py) -/
namespace CP
open PySem PySem.Spec PyProof.Rows L2
def top (i : Nat) : Stmt := PySem.Challenge.pw_crossparity_k08_whole_charges_kept.main.body.getD i (.Pass ⟨0, 0, 0, 0⟩)
variable {P : Program} {w : World} {K : PySem.W.Frag} {mg : Str → Option Value} {base : Heap} {C : Addr}
/-! is_row -/
abbrev s_is_row : Stmt := top 14
abbrev N_is_row : List Str := ["value"]
theorem sc_is_row : FnScope N_is_row ["value"] (defScope s_is_row) := ⟨rfl, rfl, rfl, by decide +kernel, rfl, by decide +kernel, by decide +kernel⟩
theorem bd_is_row : BindsBy "is_row" "is_row" s_is_row ["value"] := fun _ _ _ _ _ _ us hl => match us, hl with | [_], _ => rfl
theorem ar_is_row : ∀ ss Q, g_is_row C ss Q → ss.length = 1 := by rintro _ Q ⟨v0, c0, rfl, h⟩; rfl
theorem out_is_row : Out (g_is_row C) := by
  rintro _ Q ⟨v0, c0, rfl, h⟩
  exact ⟨v0, c0, rfl, by first | exact ⟨h, rfl⟩ | exact fun a => ⟨h a, rfl⟩ | exact fun a b => ⟨h a b, rfl⟩ | exact fun a b c => ⟨h a b c, rfl⟩ | exact fun a b c d => ⟨h a b c d, rfl⟩ | exact fun a b c d e => ⟨h a b c d e, rfl⟩ | exact fun a b c d e f => ⟨h a b c d e f, rfl⟩⟩
theorem body_is_row (n_isinstance : mg "isinstance" = none) (n_list : mg "list" = none) (n_tuple : mg "tuple" = none) : BodyOk P w K mg base N_is_row "is_row" s_is_row 0 (q_is_row C) := fun f H0 M0 iol cdv A outer s H E g =>
  (s_one (s_ret (q_isa g n_isinstance (b_cons (q_var (pv 0)) (b_cons (q_tup (a_cons (q_ty (by rfl) n_list (by decide +kernel)) (a_cons (q_ty (by rfl) n_tuple (by decide +kernel)) a_nil))) b_nil)))))
theorem has_is_row (D : DefAt K mg "is_row" s_is_row) (n_isinstance : mg "isinstance" = none) (n_list : mg "list" = none) (n_tuple : mg "tuple" = none) : HasD P w K mg base "is_row" ["value"] 1 (g_is_row C) := def_has D sc_is_row bd_is_row ar_is_row out_is_row (body_is_row n_isinstance n_list n_tuple) (hq_is_row C)
/-! is_among -/
abbrev s_is_among : Stmt := top 19
abbrev N_is_among : List Str := ["vertices", "value"]
theorem sc_is_among : FnScope N_is_among ["vertices", "value"] (defScope s_is_among) := ⟨rfl, rfl, rfl, by decide +kernel, rfl, by decide +kernel, by decide +kernel⟩
theorem bd_is_among : BindsBy "is_among" "is_among" s_is_among ["vertices", "value"] := fun _ _ _ _ _ _ us hl => match us, hl with | [_, _], _ => rfl
theorem ar_is_among : ∀ ss Q, g_is_among C ss Q → ss.length = 2 := by rintro _ Q ⟨v0, v1, v2, c0, c1, rfl, h⟩; rfl
theorem out_is_among : Out (g_is_among C) := by
  rintro _ Q ⟨v0, v1, v2, c0, c1, rfl, h⟩
  exact ⟨v0, v1, v2, c0, c1, rfl, by first | exact ⟨h, rfl⟩ | exact fun a => ⟨h a, rfl⟩ | exact fun a b => ⟨h a b, rfl⟩ | exact fun a b c => ⟨h a b c, rfl⟩ | exact fun a b c d => ⟨h a b c d, rfl⟩ | exact fun a b c d e => ⟨h a b c d e, rfl⟩ | exact fun a b c d e f => ⟨h a b c d e f, rfl⟩⟩
theorem body_is_among (n_isinstance : mg "isinstance" = none) (n_str : mg "str" = none) : BodyOk P w K mg base N_is_among "is_among" s_is_among 0 (q_is_among C) := fun f H0 M0 iol cdv A outer s H E g =>
  (s_one (s_ret (v_and (q_isa g n_isinstance (b_cons (q_var (pv 1)) (b_cons (q_ty (by rfl) n_str (by decide +kernel)) b_nil))) (v_one (v_cmp (c_inU g) (q_var (pv 1)) (q_var (pv 0)) (by with_unfolding_all rfl))))))
theorem has_is_among (D : DefAt K mg "is_among" s_is_among) (n_isinstance : mg "isinstance" = none) (n_str : mg "str" = none) : HasD P w K mg base "is_among" ["vertices", "value"] 1 (g_is_among C) := def_has D sc_is_among bd_is_among ar_is_among out_is_among (body_is_among n_isinstance n_str) (hq_is_among C)
/-! is_couple -/
abbrev s_is_couple : Stmt := top 15
abbrev N_is_couple : List Str := ["value"]
theorem sc_is_couple : FnScope N_is_couple ["value"] (defScope s_is_couple) := ⟨rfl, rfl, rfl, by decide +kernel, rfl, by decide +kernel, by decide +kernel⟩
theorem bd_is_couple : BindsBy "is_couple" "is_couple" s_is_couple ["value"] := fun _ _ _ _ _ _ us hl => match us, hl with | [_], _ => rfl
theorem ar_is_couple : ∀ ss Q, g_is_couple C ss Q → ss.length = 1 := by rintro _ Q ⟨v0, v1, rfl, h⟩; rfl
theorem out_is_couple : Out (g_is_couple C) := by
  rintro _ Q ⟨v0, v1, rfl, h⟩
  exact ⟨v0, v1, rfl, by first | exact ⟨h, rfl⟩ | exact fun a => ⟨h a, rfl⟩ | exact fun a b => ⟨h a b, rfl⟩ | exact fun a b c => ⟨h a b c, rfl⟩ | exact fun a b c d => ⟨h a b c d, rfl⟩ | exact fun a b c d e => ⟨h a b c d e, rfl⟩ | exact fun a b c d e f => ⟨h a b c d e f, rfl⟩⟩
theorem body_is_couple (n_isinstance : mg "isinstance" = none) (n_len : mg "len" = none) (n_tuple : mg "tuple" = none) : BodyOk P w K mg base N_is_couple "is_couple" s_is_couple 0 (q_is_couple C) := fun f H0 M0 iol cdv A outer s H E g =>
  (s_one (s_ret (v_and (q_isa g n_isinstance (b_cons (q_var (pv 0)) (b_cons (q_ty (by rfl) n_tuple (by decide +kernel)) b_nil))) (v_one (v_cmp (c_eq g) (q_lenU g n_len (b_cons (q_var (pv 0)) b_nil)) q_int)))))
theorem has_is_couple (D : DefAt K mg "is_couple" s_is_couple) (n_isinstance : mg "isinstance" = none) (n_len : mg "len" = none) (n_tuple : mg "tuple" = none) : HasD P w K mg base "is_couple" ["value"] 1 (g_is_couple C) := def_has D sc_is_couple bd_is_couple ar_is_couple out_is_couple (body_is_couple n_isinstance n_len n_tuple) (hq_is_couple C)
/-! joins -/
abbrev s_joins : Stmt := top 20
abbrev N_joins : List Str := ["vertices", "value", "low", "high"]
theorem sc_joins : FnScope N_joins ["vertices", "value"] (defScope s_joins) := ⟨rfl, rfl, rfl, by decide +kernel, rfl, by decide +kernel, by decide +kernel⟩
theorem bd_joins : BindsBy "joins" "joins" s_joins ["vertices", "value"] := fun _ _ _ _ _ _ us hl => match us, hl with | [_, _], _ => rfl
theorem ar_joins : ∀ ss Q, g_joins C ss Q → ss.length = 2 := by rintro _ Q ⟨v0, v1, v2, c0, c1, rfl, h⟩; rfl
theorem out_joins : Out (g_joins C) := by
  rintro _ Q ⟨v0, v1, v2, c0, c1, rfl, h⟩
  exact ⟨v0, v1, v2, c0, c1, rfl, by first | exact ⟨h, rfl⟩ | exact fun a => ⟨h a, rfl⟩ | exact fun a b => ⟨h a b, rfl⟩ | exact fun a b c => ⟨h a b c, rfl⟩ | exact fun a b c d => ⟨h a b c d, rfl⟩ | exact fun a b c d e => ⟨h a b c d e, rfl⟩ | exact fun a b c d e f => ⟨h a b c d e f, rfl⟩⟩
theorem body_joins (h_is_among : HasD P w K mg base "is_among" ["vertices", "value"] 1 (g_is_among C)) (h_is_couple : HasD P w K mg base "is_couple" ["value"] 1 (g_is_couple C)) : BodyOk P w K mg base N_joins "joins" s_joins 1 (q_joins C) := fun f H0 M0 iol cdv A outer s H E g =>
  (s_cons (s_if (t_not (t_val (q_callK g h_is_couple (by decide) (a_cons (q_var (pv 1)) a_nil)))) (s_one (s_ret q_bl)) s_nil)
  (s_cons (s_asg (vs := [2, 3]) (q_var (pv 1)) (g_tup g (g_cons (g_name (i := 2) g.nd) (g_cons (g_name (i := 3) g.nd) g_nil))))
  (s_one (s_ret (v_and (q_callK g h_is_among (by decide) (a_cons (q_var (pv 0)) (a_cons (q_var (pv 2)) a_nil))) (v_and (q_callK g h_is_among (by decide) (a_cons (q_var (pv 0)) (a_cons (q_var (pv 3)) a_nil))) (v_one (v_cmp (c_lt g) (q_var (pv 2)) (q_var (pv 3))))))))))
theorem has_joins (D : DefAt K mg "joins" s_joins) (h_is_among : HasD P w K mg base "is_among" ["vertices", "value"] 1 (g_is_among C)) (h_is_couple : HasD P w K mg base "is_couple" ["value"] 1 (g_is_couple C)) : HasD P w K mg base "joins" ["vertices", "value"] 2 (g_joins C) := def_has D sc_joins bd_joins ar_joins out_joins (body_joins h_is_among h_is_couple) (hq_joins C)
/-! are_edges -/
abbrev s_are_edges : Stmt := top 18
abbrev N_are_edges : List Str := ["vertices", "value", "edge"]
theorem sc_are_edges : FnScope N_are_edges ["vertices", "value"] (defScope s_are_edges) := ⟨rfl, rfl, rfl, by decide +kernel, rfl, by decide +kernel, by decide +kernel⟩
theorem bd_are_edges : BindsBy "are_edges" "are_edges" s_are_edges ["vertices", "value"] := fun _ _ _ _ _ _ us hl => match us, hl with | [_, _], _ => rfl
theorem ar_are_edges : ∀ ss Q, g_are_edges C ss Q → ss.length = 2 := by rintro _ Q ⟨v0, v1, v2, v3, c0, c1, c2, rfl, h⟩; rfl
theorem out_are_edges : Out (g_are_edges C) := by
  rintro _ Q ⟨v0, v1, v2, v3, c0, c1, c2, rfl, h⟩
  exact ⟨v0, v1, v2, v3, c0, c1, c2, rfl, by first | exact ⟨h, rfl⟩ | exact fun a => ⟨h a, rfl⟩ | exact fun a b => ⟨h a b, rfl⟩ | exact fun a b c => ⟨h a b c, rfl⟩ | exact fun a b c d => ⟨h a b c d, rfl⟩ | exact fun a b c d e => ⟨h a b c d e, rfl⟩ | exact fun a b c d e f => ⟨h a b c d e f, rfl⟩⟩
theorem body_are_edges (n_all : mg "all" = none) (n_len : mg "len" = none) (n_set : mg "set" = none) (x_MOST_EDGES : ∃ t, mg "MOST_EDGES" = some (.int 18 t)) (h_is_row : HasD P w K mg base "is_row" ["value"] 1 (g_is_row C)) (h_joins : HasD P w K mg base "joins" ["vertices", "value"] 2 (g_joins C)) : BodyOk P w K mg base N_are_edges "are_edges" s_are_edges 2 (q_are_edges C) := fun f H0 M0 iol cdv A outer s H E g =>
  (s_cons (s_if (t_or (t_not (t_val (q_callK g h_is_row (by decide) (a_cons (q_var (pv 1)) a_nil)))) (t_or1 (t_cmpQ (c_gt g) (q_lenU g n_len (b_cons (q_var (pv 1)) b_nil)) (q_globI (by rfl) x_MOST_EDGES.choose_spec ⟨_, rfl⟩)))).pt (s_one (s_ret q_bl)) s_nil)
  (s_one (s_ret (v_and (q_all g n_all (b_cons (q_lc (own := [("edge", 2)]) g (i_any g (q_var (pv 1))) (blkOk_by (own := [("edge", 2)]) (N := N_are_edges) (sc := defScope s_are_edges) (by decide +kernel)) (fun _ _ _ _ _ _ _ g => (g_name (i := 2) g.nd)) (fun _ _ _ _ _ _ _ g => t_yes) (fun _ _ _ _ _ _ _ g => (q_callK g h_joins (by decide) (a_cons (q_var (pv 0)) (a_cons (q_var (pv 2)) a_nil))))) b_nil)) (v_one (v_cmp (c_eq g) (q_lenSet g n_len n_set (q_var (pv 1))) (q_lenU g n_len (b_cons (q_var (pv 1)) b_nil))))))))
theorem has_are_edges (D : DefAt K mg "are_edges" s_are_edges) (n_all : mg "all" = none) (n_len : mg "len" = none) (n_set : mg "set" = none) (x_MOST_EDGES : ∃ t, mg "MOST_EDGES" = some (.int 18 t)) (h_is_row : HasD P w K mg base "is_row" ["value"] 1 (g_is_row C)) (h_joins : HasD P w K mg base "joins" ["vertices", "value"] 2 (g_joins C)) : HasD P w K mg base "are_edges" ["vertices", "value"] 3 (g_are_edges C) := def_has D sc_are_edges bd_are_edges ar_are_edges out_are_edges (body_are_edges n_all n_len n_set x_MOST_EDGES h_is_row h_joins) (hq_are_edges C)
/-! is_name -/
abbrev s_is_name : Stmt := top 16
abbrev N_is_name : List Str := ["value", "letter"]
theorem sc_is_name : FnScope N_is_name ["value"] (defScope s_is_name) := ⟨rfl, rfl, rfl, by decide +kernel, rfl, by decide +kernel, by decide +kernel⟩
theorem bd_is_name : BindsBy "is_name" "is_name" s_is_name ["value"] := fun _ _ _ _ _ _ us hl => match us, hl with | [_], _ => rfl
theorem ar_is_name : ∀ ss Q, g_is_name C ss Q → ss.length = 1 := by rintro _ Q ⟨v0, c0, rfl, h⟩; rfl
theorem out_is_name : Out (g_is_name C) := by
  rintro _ Q ⟨v0, c0, rfl, h⟩
  exact ⟨v0, c0, rfl, by first | exact ⟨h, rfl⟩ | exact fun a => ⟨h a, rfl⟩ | exact fun a b => ⟨h a b, rfl⟩ | exact fun a b c => ⟨h a b c, rfl⟩ | exact fun a b c d => ⟨h a b c d, rfl⟩ | exact fun a b c d e => ⟨h a b c d e, rfl⟩ | exact fun a b c d e f => ⟨h a b c d e f, rfl⟩⟩
theorem body_is_name (n_all : mg "all" = none) (n_isinstance : mg "isinstance" = none) (n_len : mg "len" = none) (n_str : mg "str" = none) (x_LETTERS : ∃ t, mg "LETTERS" = some (.str v_LETTERS t)) (x_LONGEST_NAME : ∃ t, mg "LONGEST_NAME" = some (.int 8 t)) : BodyOk P w K mg base N_is_name "is_name" s_is_name 0 (q_is_name C) := fun f H0 M0 iol cdv A outer s H E g =>
  (s_cons (s_if (t_or (t_not (t_val (q_isa g n_isinstance (b_cons (q_var (pv 0)) (b_cons (q_ty (by rfl) n_str (by decide +kernel)) b_nil))))) (t_or (t_cmpQ (c_eq g) (q_lenU g n_len (b_cons (q_var (pv 0)) b_nil)) q_int) (t_or1 (t_cmpQ (c_gt g) (q_lenU g n_len (b_cons (q_var (pv 0)) b_nil)) (q_globI (by rfl) x_LONGEST_NAME.choose_spec ⟨_, rfl⟩))))).pt (s_one (s_ret q_bl)) s_nil)
  (s_one (s_ret (q_all g n_all (b_cons (q_lc (own := [("letter", 1)]) g (i_any g (q_var (pv 0))) (blkOk_by (own := [("letter", 1)]) (N := N_is_name) (sc := defScope s_is_name) (by decide +kernel)) (fun _ _ _ _ _ _ _ g => (g_name (i := 1) g.nd)) (fun _ _ _ _ _ _ _ g => t_yes) (fun _ _ _ _ _ _ _ g => (v_cmp (c_inU g) (q_var (pv 1)) (q_globS (by rfl) x_LETTERS.choose_spec ⟨_, rfl⟩) (by with_unfolding_all rfl)))) b_nil)))))
theorem has_is_name (D : DefAt K mg "is_name" s_is_name) (n_all : mg "all" = none) (n_isinstance : mg "isinstance" = none) (n_len : mg "len" = none) (n_str : mg "str" = none) (x_LETTERS : ∃ t, mg "LETTERS" = some (.str v_LETTERS t)) (x_LONGEST_NAME : ∃ t, mg "LONGEST_NAME" = some (.int 8 t)) : HasD P w K mg base "is_name" ["value"] 1 (g_is_name C) := def_has D sc_is_name bd_is_name ar_is_name out_is_name (body_is_name n_all n_isinstance n_len n_str x_LETTERS x_LONGEST_NAME) (hq_is_name C)
/-! are_vertices -/
abbrev s_are_vertices : Stmt := top 17
abbrev N_are_vertices : List Str := ["value", "name"]
theorem sc_are_vertices : FnScope N_are_vertices ["value"] (defScope s_are_vertices) := ⟨rfl, rfl, rfl, by decide +kernel, rfl, by decide +kernel, by decide +kernel⟩
theorem bd_are_vertices : BindsBy "are_vertices" "are_vertices" s_are_vertices ["value"] := fun _ _ _ _ _ _ us hl => match us, hl with | [_], _ => rfl
theorem ar_are_vertices : ∀ ss Q, g_are_vertices C ss Q → ss.length = 1 := by rintro _ Q ⟨v0, v1, c0, c1, rfl, h⟩; rfl
theorem out_are_vertices : Out (g_are_vertices C) := by
  rintro _ Q ⟨v0, v1, c0, c1, rfl, h⟩
  exact ⟨v0, v1, c0, c1, rfl, by first | exact ⟨h, rfl⟩ | exact fun a => ⟨h a, rfl⟩ | exact fun a b => ⟨h a b, rfl⟩ | exact fun a b c => ⟨h a b c, rfl⟩ | exact fun a b c d => ⟨h a b c d, rfl⟩ | exact fun a b c d e => ⟨h a b c d e, rfl⟩ | exact fun a b c d e f => ⟨h a b c d e f, rfl⟩⟩
theorem body_are_vertices (n_all : mg "all" = none) (n_len : mg "len" = none) (n_set : mg "set" = none) (x_MOST_VERTICES : ∃ t, mg "MOST_VERTICES" = some (.int 8 t)) (h_is_name : HasD P w K mg base "is_name" ["value"] 1 (g_is_name C)) (h_is_row : HasD P w K mg base "is_row" ["value"] 1 (g_is_row C)) : BodyOk P w K mg base N_are_vertices "are_vertices" s_are_vertices 1 (q_are_vertices C) := fun f H0 M0 iol cdv A outer s H E g =>
  (s_cons (s_if (t_or (t_not (t_val (q_callK g h_is_row (by decide) (a_cons (q_var (pv 0)) a_nil)))) (t_or (t_cmpQ (c_eq g) (q_lenU g n_len (b_cons (q_var (pv 0)) b_nil)) q_int) (t_or1 (t_cmpQ (c_gt g) (q_lenU g n_len (b_cons (q_var (pv 0)) b_nil)) (q_globI (by rfl) x_MOST_VERTICES.choose_spec ⟨_, rfl⟩))))).pt (s_one (s_ret q_bl)) s_nil)
  (s_one (s_ret (v_and (q_all g n_all (b_cons (q_lc (own := [("name", 1)]) g (i_any g (q_var (pv 0))) (blkOk_by (own := [("name", 1)]) (N := N_are_vertices) (sc := defScope s_are_vertices) (by decide +kernel)) (fun _ _ _ _ _ _ _ g => (g_name (i := 1) g.nd)) (fun _ _ _ _ _ _ _ g => t_yes) (fun _ _ _ _ _ _ _ g => (q_callK g h_is_name (by decide) (a_cons (q_var (pv 1)) a_nil)))) b_nil)) (v_one (v_cmp (c_eq g) (q_lenSet g n_len n_set (q_var (pv 0))) (q_lenU g n_len (b_cons (q_var (pv 0)) b_nil))))))))
theorem has_are_vertices (D : DefAt K mg "are_vertices" s_are_vertices) (n_all : mg "all" = none) (n_len : mg "len" = none) (n_set : mg "set" = none) (x_MOST_VERTICES : ∃ t, mg "MOST_VERTICES" = some (.int 8 t)) (h_is_name : HasD P w K mg base "is_name" ["value"] 1 (g_is_name C)) (h_is_row : HasD P w K mg base "is_row" ["value"] 1 (g_is_row C)) : HasD P w K mg base "are_vertices" ["value"] 2 (g_are_vertices C) := def_has D sc_are_vertices bd_are_vertices ar_are_vertices out_are_vertices (body_are_vertices n_all n_len n_set x_MOST_VERTICES h_is_name h_is_row) (hq_are_vertices C)
/-! Graph -/
abbrev s_Graph : Stmt := inClass (top 11) 0
abbrev N_Graph : List Str := ["self", "vertices", "edges"]
theorem sc_Graph : FnScope N_Graph ["self", "vertices", "edges"] (defScope s_Graph) := ⟨rfl, rfl, rfl, by decide +kernel, rfl, by decide +kernel, by decide +kernel⟩
theorem bd_Graph : BindsBy "__init__" "Graph.__init__" s_Graph ["self", "vertices", "edges"] := fun _ _ _ _ _ _ us hl => match us, hl with | [_, _, _], _ => rfl
theorem ar_Graph : ∀ ss Q, g_Graph C ss Q → ss.length = 3 := by rintro _ Q ⟨v0, v1, v2, v3, c0, c1, c2, rfl, h⟩; rfl
theorem out_Graph : Out (g_Graph C) := by
  rintro _ Q ⟨v0, v1, v2, v3, c0, c1, c2, rfl, h⟩
  exact ⟨v0, v1, v2, v3, c0, c1, c2, rfl, by first | exact ⟨h, rfl⟩ | exact fun a => ⟨h a, rfl⟩ | exact fun a b => ⟨h a b, rfl⟩ | exact fun a b c => ⟨h a b c, rfl⟩ | exact fun a b c d => ⟨h a b c d, rfl⟩ | exact fun a b c d e => ⟨h a b c d e, rfl⟩ | exact fun a b c d e f => ⟨h a b c d e f, rfl⟩⟩
theorem body_Graph (n_sorted : mg "sorted" = none) (n_tuple : mg "tuple" = none) (cls : Cls K C) (na_edges : NoAttr K C "edges") (na_vertices : NoAttr K C "vertices") (h_are_edges : HasD P w K mg base "are_edges" ["vertices", "value"] 3 (g_are_edges C)) (h_are_vertices : HasD P w K mg base "are_vertices" ["value"] 2 (g_are_vertices C)) : BodyOk P w K mg base N_Graph "Graph.__init__" s_Graph 3 (q_Graph C) := fun f H0 M0 iol cdv A outer s H E g =>
  (s_cons (s_if (t_not (t_val (q_callK g h_are_vertices (by decide) (a_cons (q_var (pv 1)) a_nil)))) (s_one s_never) s_nil)
  (s_cons (s_if (t_not (t_val (q_callK g h_are_edges (by decide) (a_cons (q_var (pv 1)) (a_cons (q_var (pv 2)) a_nil))))) (s_one s_never) s_nil)
  (s_cons (s_fld (C := C) g cls na_vertices (pv 0) (q_tuple g n_tuple (b_cons (q_var (pv 1)) b_nil)))
  (s_one (s_fld (C := C) g cls na_edges (pv 0) (q_tuple g n_tuple (b_cons (q_sortedU g n_sorted (b_cons (q_var (pv 2)) b_nil)) b_nil)))))))
theorem has_Graph (D : ∃ f fd, Fun K "__init__" "Graph.__init__" s_Graph f fd ∧ Mk K C f) (hm : mg "Graph" = some (.ref C)) (n_sorted : mg "sorted" = none) (n_tuple : mg "tuple" = none) (cls : Cls K C) (na_edges : NoAttr K C "edges") (na_vertices : NoAttr K C "vertices") (h_are_edges : HasD P w K mg base "are_edges" ["vertices", "value"] 3 (g_are_edges C)) (h_are_vertices : HasD P w K mg base "are_vertices" ["value"] 2 (g_are_vertices C)) : HasMk P w K mg base "Graph" C ["self", "vertices", "edges"] 4 (g_Graph C) := mk_has D hm sc_Graph bd_Graph ar_Graph out_Graph (body_Graph n_sorted n_tuple cls na_edges na_vertices h_are_edges h_are_vertices) (hq_Graph C)
/-! _law_cell_at -/
abbrev s__law_cell_at : Stmt := top 35
abbrev N__law_cell_at : List Str := ["_law_script", "_law_k"]
theorem sc__law_cell_at : FnScope N__law_cell_at ["_law_script", "_law_k"] (defScope s__law_cell_at) := ⟨rfl, rfl, rfl, by decide +kernel, rfl, by decide +kernel, by decide +kernel⟩
theorem bd__law_cell_at : BindsBy "_law_cell_at" "_law_cell_at" s__law_cell_at ["_law_script", "_law_k"] := fun _ _ _ _ _ _ us hl => match us, hl with | [_, _], _ => rfl
theorem ar__law_cell_at : ∀ ss Q, g__law_cell_at C ss Q → ss.length = 2 := by rintro _ Q ⟨v0, v1, rfl, h⟩; rfl
theorem out__law_cell_at : Out (g__law_cell_at C) := by
  rintro _ Q ⟨v0, v1, rfl, h⟩
  exact ⟨v0, v1, rfl, by first | exact ⟨h, rfl⟩ | exact fun a => ⟨h a, rfl⟩ | exact fun a b => ⟨h a b, rfl⟩ | exact fun a b c => ⟨h a b c, rfl⟩ | exact fun a b c d => ⟨h a b c d, rfl⟩ | exact fun a b c d e => ⟨h a b c d e, rfl⟩ | exact fun a b c d e f => ⟨h a b c d e f, rfl⟩⟩
theorem body__law_cell_at (n_len : mg "len" = none) : BodyOk P w K mg base N__law_cell_at "_law_cell_at" s__law_cell_at 0 (q__law_cell_at C) := fun f H0 M0 iol cdv A outer s H E g =>
  (s_cons (s_if (t_cmpQ (c_lt g) (q_var (pv 1)) (q_lenU g n_len (b_cons (q_var (pv 0)) b_nil))) (s_one (s_ret (q_ixU g (q_var (pv 0)) (q_var (pv 1))))) s_nil)
  (s_one (s_ret q_int)))
theorem has__law_cell_at (D : DefAt K mg "_law_cell_at" s__law_cell_at) (n_len : mg "len" = none) : HasD P w K mg base "_law_cell_at" ["_law_script", "_law_k"] 1 (g__law_cell_at C) := def_has D sc__law_cell_at bd__law_cell_at ar__law_cell_at out__law_cell_at (body__law_cell_at n_len) (hq__law_cell_at C)
/-! _law_next -/
abbrev s__law_next : Stmt := top 37
abbrev N__law_next : List Str := ["_law_source", "_law_many", "_law_found", "_law_prime", "_law_number"]
theorem sc__law_next : FnScope N__law_next ["_law_source", "_law_many"] (defScope s__law_next) := ⟨rfl, rfl, rfl, by decide +kernel, rfl, by decide +kernel, by decide +kernel⟩
theorem bd__law_next : BindsBy "_law_next" "_law_next" s__law_next ["_law_source", "_law_many"] := fun _ _ _ _ _ _ us hl => match us, hl with | [_, _], _ => rfl
theorem ar__law_next : ∀ ss Q, g__law_next C ss Q → ss.length = 2 := by rintro _ Q ⟨v0, v1, c0, rfl, h⟩; rfl
theorem out__law_next : Out (g__law_next C) := by
  rintro _ Q ⟨v0, v1, c0, rfl, h⟩
  exact ⟨v0, v1, c0, rfl, by first | exact ⟨h, rfl⟩ | exact fun a => ⟨h a, rfl⟩ | exact fun a b => ⟨h a b, rfl⟩ | exact fun a b c => ⟨h a b c, rfl⟩ | exact fun a b c d => ⟨h a b c d, rfl⟩ | exact fun a b c d e => ⟨h a b c d e, rfl⟩ | exact fun a b c d e f => ⟨h a b c d e f, rfl⟩⟩
theorem body__law_next  : BodyOk P w K mg base N__law_next "_law_next" s__law_next 0 (q__law_next C) := fun f H0 M0 iol cdv A outer s H E g =>
  (s_cons (s_if (t_cmpQ (c_gt g) (q_ixU g (q_var (pv 0)) q_int) q_int) (s_cons (s_set (i := 2) g (q_mod (q_ixU g (q_var (pv 0)) q_int) (q_var (pv 1))))
  (s_cons (s_setU g (q_div (q_ixU g (q_var (pv 0)) q_int) (q_var (pv 1))) (pv 0) q_int)
  (s_one (s_ret (q_var (pv 2)))))) s_nil)
  (s_cons (s_setU g (q_add g (q_ixU g (q_var (pv 0)) q_int) q_int) (pv 0) q_int)
  (s_cons (s_set (i := 3) g q_int)
  (s_cons (s_set (i := 4) g (q_mod (q_add g (q_add g (q_ixU g (q_var (pv 0)) q_int) (q_mul q_int (q_ixU g (q_var (pv 0)) q_int))) q_int) (q_var (pv 3))))
  (s_cons (s_set (i := 4) g (q_mod (q_mul (q_var (pv 4)) q_int) (q_var (pv 3))))
  (s_cons (s_set (i := 4) g (q_mod (q_mul (q_var (pv 4)) (q_add g (q_div (q_var (pv 4)) q_int) q_int)) (q_var (pv 3))))
  (s_cons (s_set (i := 4) g (q_mod (q_mul (q_var (pv 4)) (q_add g (q_div (q_var (pv 4)) q_int) q_int)) q_int))
  (s_one (s_ret (q_mod (q_div (q_var (pv 4)) q_int) (q_var (pv 1))))))))))))
theorem has__law_next (D : DefAt K mg "_law_next" s__law_next)  : HasD P w K mg base "_law_next" ["_law_source", "_law_many"] 1 (g__law_next C) := def_has D sc__law_next bd__law_next ar__law_next out__law_next (body__law_next ) (hq__law_next C)
/-! _law_mixed -/
abbrev s__law_mixed : Stmt := top 39
abbrev N__law_mixed : List Str := ["_law_source", "_law_some", "_law_left", "_law_found"]
theorem sc__law_mixed : FnScope N__law_mixed ["_law_source", "_law_some"] (defScope s__law_mixed) := ⟨rfl, rfl, rfl, by decide +kernel, rfl, by decide +kernel, by decide +kernel⟩
theorem bd__law_mixed : BindsBy "_law_mixed" "_law_mixed" s__law_mixed ["_law_source", "_law_some"] := fun _ _ _ _ _ _ us hl => match us, hl with | [_, _], _ => rfl
theorem ar__law_mixed : ∀ ss Q, g__law_mixed C ss Q → ss.length = 2 := by rintro _ Q ⟨v0, v1, c0, rfl, h⟩; rfl
theorem out__law_mixed : Out (g__law_mixed C) := by
  rintro _ Q ⟨v0, v1, c0, rfl, h⟩
  exact ⟨v0, v1, c0, rfl, by first | exact ⟨h, rfl⟩ | exact fun a => ⟨h a, rfl⟩ | exact fun a b => ⟨h a b, rfl⟩ | exact fun a b c => ⟨h a b c, rfl⟩ | exact fun a b c d => ⟨h a b c d, rfl⟩ | exact fun a b c d e => ⟨h a b c d e, rfl⟩ | exact fun a b c d e f => ⟨h a b c d e f, rfl⟩⟩
theorem body__law_mixed (n_len : mg "len" = none) (n_list : mg "list" = none) (h__law_next : HasD P w K mg base "_law_next" ["_law_source", "_law_many"] 1 (g__law_next C)) : BodyOk P w K mg base N__law_mixed "_law_mixed" s__law_mixed 1 (q__law_mixed C) := fun f H0 M0 iol cdv A outer s H E g =>
  (s_cons (s_set (i := 2) g (q_listU g n_list (b_cons (q_var (pv 1)) b_nil)))
  (s_cons (s_set (i := 3) g (q_lst a_nil))
  (s_cons (s_while PassesOwn.never (t_cmpQ (c_ne g) (q_var (pv 2)) (q_lst a_nil)) (s_one (s_expr (q_append (pv 3) (a_cons (q_pop g (pv 2) (a_cons (q_callH g h__law_next (by decide) (l_lend (pv 0) (l_keep (q_lenU g n_len (b_cons (q_var (pv 2)) b_nil)) l_nil))) a_nil)) a_nil)))))
  (s_one (s_ret (q_var (pv 3)))))))
theorem has__law_mixed (D : DefAt K mg "_law_mixed" s__law_mixed) (n_len : mg "len" = none) (n_list : mg "list" = none) (h__law_next : HasD P w K mg base "_law_next" ["_law_source", "_law_many"] 1 (g__law_next C)) : HasD P w K mg base "_law_mixed" ["_law_source", "_law_some"] 2 (g__law_mixed C) := def_has D sc__law_mixed bd__law_mixed ar__law_mixed out__law_mixed (body__law_mixed n_len n_list h__law_next) (hq__law_mixed C)
/-! _law_one -/
abbrev s__law_one : Stmt := top 38
abbrev N__law_one : List Str := ["_law_source", "_law_some"]
theorem sc__law_one : FnScope N__law_one ["_law_source", "_law_some"] (defScope s__law_one) := ⟨rfl, rfl, rfl, by decide +kernel, rfl, by decide +kernel, by decide +kernel⟩
theorem bd__law_one : BindsBy "_law_one" "_law_one" s__law_one ["_law_source", "_law_some"] := fun _ _ _ _ _ _ us hl => match us, hl with | [_, _], _ => rfl
theorem ar__law_one : ∀ ss Q, g__law_one C ss Q → ss.length = 2 := by rintro _ Q ⟨v0, v1, c0, rfl, h⟩; rfl
theorem out__law_one : Out (g__law_one C) := by
  rintro _ Q ⟨v0, v1, c0, rfl, h⟩
  exact ⟨v0, v1, c0, rfl, by first | exact ⟨h, rfl⟩ | exact fun a => ⟨h a, rfl⟩ | exact fun a b => ⟨h a b, rfl⟩ | exact fun a b c => ⟨h a b c, rfl⟩ | exact fun a b c d => ⟨h a b c d, rfl⟩ | exact fun a b c d e => ⟨h a b c d e, rfl⟩ | exact fun a b c d e f => ⟨h a b c d e f, rfl⟩⟩
theorem body__law_one (n_len : mg "len" = none) (h__law_next : HasD P w K mg base "_law_next" ["_law_source", "_law_many"] 1 (g__law_next C)) : BodyOk P w K mg base N__law_one "_law_one" s__law_one 1 (q__law_one C) := fun f H0 M0 iol cdv A outer s H E g =>
  (s_one (s_ret (q_ixU g (q_var (pv 1)) (q_callH g h__law_next (by decide) (l_lend (pv 0) (l_keep (q_lenU g n_len (b_cons (q_var (pv 1)) b_nil)) l_nil))))))
theorem has__law_one (D : DefAt K mg "_law_one" s__law_one) (n_len : mg "len" = none) (h__law_next : HasD P w K mg base "_law_next" ["_law_source", "_law_many"] 1 (g__law_next C)) : HasD P w K mg base "_law_one" ["_law_source", "_law_some"] 2 (g__law_one C) := def_has D sc__law_one bd__law_one ar__law_one out__law_one (body__law_one n_len h__law_next) (hq__law_one C)
/-! _law_graph -/
abbrev s__law_graph : Stmt := top 40
abbrev N__law_graph : List Str := ["_law_source", "_law_most", "_law_names", "_law_edges", "_law_name", "_law_end", "_law_limit"]
theorem sc__law_graph : FnScope N__law_graph ["_law_source", "_law_most"] (defScope s__law_graph) := ⟨rfl, rfl, rfl, by decide +kernel, rfl, by decide +kernel, by decide +kernel⟩
theorem bd__law_graph : BindsBy "_law_graph" "_law_graph" s__law_graph ["_law_source", "_law_most"] := fun _ _ _ _ _ _ us hl => match us, hl with | [_, _], _ => rfl
theorem ar__law_graph : ∀ ss Q, g__law_graph C ss Q → ss.length = 2 := by rintro _ Q ⟨v0, v1, c0, rfl, h⟩; rfl
theorem out__law_graph : Out (g__law_graph C) := by
  rintro _ Q ⟨v0, v1, c0, rfl, h⟩
  exact ⟨v0, v1, c0, rfl, by first | exact ⟨h, rfl⟩ | exact fun a => ⟨h a, rfl⟩ | exact fun a b => ⟨h a b, rfl⟩ | exact fun a b c => ⟨h a b c, rfl⟩ | exact fun a b c d => ⟨h a b c d, rfl⟩ | exact fun a b c d e => ⟨h a b c d e, rfl⟩ | exact fun a b c d e f => ⟨h a b c d e f, rfl⟩⟩
theorem body__law_graph (n_len : mg "len" = none) (n_min : mg "min" = none) (h__law_mixed : HasD P w K mg base "_law_mixed" ["_law_source", "_law_some"] 2 (g__law_mixed C)) (h__law_next : HasD P w K mg base "_law_next" ["_law_source", "_law_many"] 1 (g__law_next C)) (h__law_one : HasD P w K mg base "_law_one" ["_law_source", "_law_some"] 2 (g__law_one C)) : BodyOk P w K mg base N__law_graph "_law_graph" s__law_graph 2 (q__law_graph C) := fun f H0 M0 iol cdv A outer s H E g =>
  (s_cons (s_set (i := 2) g (q_sl g (q_callH g h__law_mixed (by decide) (l_lend (pv 0) (l_keep (q_lst (a_cons q_str (a_cons q_str (a_cons q_str (a_cons q_str (a_cons q_str (a_cons q_str (a_cons q_str (a_cons q_str a_nil))))))))) l_nil))) o_none (o_some (q_add g q_int (q_callH g h__law_next (by decide) (l_lend (pv 0) (l_keep (q_var (pv 1)) l_nil)))))))
  (s_cons (s_set (i := 3) g (q_lst a_nil))
  (s_cons (s_for (vs := [4]) PassesOwn.never g (i_any g (q_var (pv 2))) (g_name (i := 4) g.nd) (s_one (s_expr (q_extend (pv 3) (a_cons (q_lc (own := [("_law_end", 5)]) g (i_any g (q_var (pv 2))) (blkOk_by (own := [("_law_end", 5)]) (N := N__law_graph) (sc := defScope s__law_graph) (by decide +kernel)) (fun _ _ _ _ _ _ _ g => (g_name (i := 5) g.nd)) (fun _ _ _ _ _ _ _ g => (t_one (t_cmpQ (c_lt g) (q_var (pv 4)) (q_var (pv 5))))) (fun _ _ _ _ _ _ _ g => (q_tup (a_cons (q_var (pv 4)) (a_cons (q_var (pv 5)) a_nil))))) a_nil)))))
  (s_cons (s_set (i := 3) g (q_callH g h__law_mixed (by decide) (l_lend (pv 0) (l_keep (q_var (pv 3)) l_nil))))
  (s_cons (s_set (i := 6) g (q_callH g h__law_one (by decide) (l_lend (pv 0) (l_keep (q_lst (a_cons q_int (a_cons (q_add g (q_lenU g n_len (b_cons (q_var (pv 2)) b_nil)) q_int) (a_cons (q_mul q_int (q_lenU g n_len (b_cons (q_var (pv 2)) b_nil))) (a_cons (q_callH g h__law_next (by decide) (l_lend (pv 0) (l_keep (q_add g (q_lenU g n_len (b_cons (q_var (pv 3)) b_nil)) q_int) l_nil))) a_nil))))) l_nil))))
  (s_one (s_ret (q_tup (a_cons (q_var (pv 2)) (a_cons (q_sl g (q_var (pv 3)) o_none (o_some (q_min2 g n_min (a_cons (q_var (pv 6)) (a_cons q_int a_nil))))) a_nil))))))))))
theorem has__law_graph (D : DefAt K mg "_law_graph" s__law_graph) (n_len : mg "len" = none) (n_min : mg "min" = none) (h__law_mixed : HasD P w K mg base "_law_mixed" ["_law_source", "_law_some"] 2 (g__law_mixed C)) (h__law_next : HasD P w K mg base "_law_next" ["_law_source", "_law_many"] 1 (g__law_next C)) (h__law_one : HasD P w K mg base "_law_one" ["_law_source", "_law_some"] 2 (g__law_one C)) : HasD P w K mg base "_law_graph" ["_law_source", "_law_most"] 3 (g__law_graph C) := def_has D sc__law_graph bd__law_graph ar__law_graph out__law_graph (body__law_graph n_len n_min h__law_mixed h__law_next h__law_one) (hq__law_graph C)
/-! _law_pairs -/
abbrev s__law_pairs : Stmt := top 41
abbrev N__law_pairs : List Str := ["_law_edges", "_law_found", "_law_one_here", "_law_other", "_law_far"]
theorem sc__law_pairs : FnScope N__law_pairs ["_law_edges"] (defScope s__law_pairs) := ⟨rfl, rfl, rfl, by decide +kernel, rfl, by decide +kernel, by decide +kernel⟩
theorem bd__law_pairs : BindsBy "_law_pairs" "_law_pairs" s__law_pairs ["_law_edges"] := fun _ _ _ _ _ _ us hl => match us, hl with | [_], _ => rfl
theorem ar__law_pairs : ∀ ss Q, g__law_pairs C ss Q → ss.length = 1 := by rintro _ Q ⟨v0, c0, rfl, h⟩; rfl
theorem out__law_pairs : Out (g__law_pairs C) := by
  rintro _ Q ⟨v0, c0, rfl, h⟩
  exact ⟨v0, c0, rfl, by first | exact ⟨h, rfl⟩ | exact fun a => ⟨h a, rfl⟩ | exact fun a b => ⟨h a b, rfl⟩ | exact fun a b c => ⟨h a b c, rfl⟩ | exact fun a b c d => ⟨h a b c d, rfl⟩ | exact fun a b c d e => ⟨h a b c d e, rfl⟩ | exact fun a b c d e f => ⟨h a b c d e f, rfl⟩⟩
theorem body__law_pairs (n_sorted : mg "sorted" = none) : BodyOk P w K mg base N__law_pairs "_law_pairs" s__law_pairs 0 (q__law_pairs C) := fun f H0 M0 iol cdv A outer s H E g =>
  (s_cons (s_set (i := 1) g (q_lst a_nil))
  (s_cons (s_for (vs := [2]) PassesOwn.never g (i_any g (q_sortedU g n_sorted (b_cons (q_var (pv 0)) b_nil))) (g_name (i := 2) g.nd) (s_cons (s_setLc (i := 4) (own := [("_law_other", 3)]) g (sw_true rfl rfl rfl (by decide +kernel)) (i_any g (q_sortedU g n_sorted (b_cons (q_var (pv 0)) b_nil))) (blkOk_by (own := [("_law_other", 3)]) (N := N__law_pairs) (sc := defScope s__law_pairs) (by decide +kernel)) (fun _ _ _ _ _ _ _ g => (g_name (i := 3) g.nd)) (fun _ _ _ _ _ _ _ g => (t_one (t_and (t_cmpQ (c_notIn g) (q_ixU g (q_var (pv 2)) q_int) (q_var (pv 3)) (by with_unfolding_all rfl)) (t_and1 (t_cmpQ (c_notIn g) (q_ixU g (q_var (pv 2)) q_int) (q_var (pv 3)) (by with_unfolding_all rfl)))).pt)) (fun _ _ _ _ _ _ _ g => (q_var (pv 3))))
  (s_one (s_expr (q_extend (pv 1) (a_cons (q_lc (own := [("_law_other", 3)]) g (i_any g (q_var (pv 4))) (blkOk_by (own := [("_law_other", 3)]) (N := N__law_pairs) (sc := defScope s__law_pairs) (by decide +kernel)) (fun _ _ _ _ _ _ _ g => (g_name (i := 3) g.nd)) (fun _ _ _ _ _ _ _ g => (t_one (t_cmpQ (c_lt g) (q_var (pv 2)) (q_var (pv 3))))) (fun _ _ _ _ _ _ _ g => (q_tup (a_cons (q_var (pv 2)) (a_cons (q_var (pv 3)) a_nil))))) a_nil))))))
  (s_one (s_ret (q_var (pv 1))))))
theorem has__law_pairs (D : DefAt K mg "_law_pairs" s__law_pairs) (n_sorted : mg "sorted" = none) : HasD P w K mg base "_law_pairs" ["_law_edges"] 1 (g__law_pairs C) := def_has D sc__law_pairs bd__law_pairs ar__law_pairs out__law_pairs (body__law_pairs n_sorted) (hq__law_pairs C)
/-! _law_carries -/
abbrev s__law_carries : Stmt := top 43
abbrev N__law_carries : List Str := ["_law_names", "_law_edges", "_law_found", "_law_edge", "_law_vertex"]
theorem sc__law_carries : FnScope N__law_carries ["_law_names", "_law_edges"] (defScope s__law_carries) := ⟨rfl, rfl, rfl, by decide +kernel, rfl, by decide +kernel, by decide +kernel⟩
theorem bd__law_carries : BindsBy "_law_carries" "_law_carries" s__law_carries ["_law_names", "_law_edges"] := fun _ _ _ _ _ _ us hl => match us, hl with | [_, _], _ => rfl
theorem ar__law_carries : ∀ ss Q, g__law_carries C ss Q → ss.length = 2 := by rintro _ Q ⟨v0, v1, c0, rfl, h⟩; rfl
theorem out__law_carries : Out (g__law_carries C) := by
  rintro _ Q ⟨v0, v1, c0, rfl, h⟩
  exact ⟨v0, v1, c0, rfl, by first | exact ⟨h, rfl⟩ | exact fun a => ⟨h a, rfl⟩ | exact fun a b => ⟨h a b, rfl⟩ | exact fun a b c => ⟨h a b c, rfl⟩ | exact fun a b c d => ⟨h a b c d, rfl⟩ | exact fun a b c d e => ⟨h a b c d e, rfl⟩ | exact fun a b c d e f => ⟨h a b c d e f, rfl⟩⟩
theorem body__law_carries (n_sorted : mg "sorted" = none) : BodyOk P w K mg base N__law_carries "_law_carries" s__law_carries 0 (q__law_carries C) := fun f H0 M0 iol cdv A outer s H E g =>
  (s_cons (s_set (i := 2) g (q_lst a_nil))
  (s_cons (s_for (vs := [3]) PassesOwn.never g (i_any g (q_sortedU g n_sorted (b_cons (q_var (pv 1)) b_nil))) (g_name (i := 3) g.nd) (s_one (s_expr (q_extend (pv 2) (a_cons (q_lc (own := [("_law_vertex", 4)]) g (i_any g (q_sortedU g n_sorted (b_cons (q_var (pv 0)) b_nil))) (blkOk_by (own := [("_law_vertex", 4)]) (N := N__law_carries) (sc := defScope s__law_carries) (by decide +kernel)) (fun _ _ _ _ _ _ _ g => (g_name (i := 4) g.nd)) (fun _ _ _ _ _ _ _ g => (t_one (t_cmpQ (c_notIn g) (q_var (pv 4)) (q_var (pv 3)) (by with_unfolding_all rfl)))) (fun _ _ _ _ _ _ _ g => (q_tup (a_cons (q_var (pv 3)) (a_cons (q_var (pv 4)) a_nil))))) a_nil)))))
  (s_one (s_ret (q_var (pv 2))))))
theorem has__law_carries (D : DefAt K mg "_law_carries" s__law_carries) (n_sorted : mg "sorted" = none) : HasD P w K mg base "_law_carries" ["_law_names", "_law_edges"] 1 (g__law_carries C) := def_has D sc__law_carries bd__law_carries ar__law_carries out__law_carries (body__law_carries n_sorted) (hq__law_carries C)
/-! _law_some_carries -/
abbrev s__law_some_carries : Stmt := top 51
abbrev N__law_some_carries : List Str := ["_law_source", "_law_names", "_law_edges", "_law_some", "_law_found", "_law_k"]
theorem sc__law_some_carries : FnScope N__law_some_carries ["_law_source", "_law_names", "_law_edges"] (defScope s__law_some_carries) := ⟨rfl, rfl, rfl, by decide +kernel, rfl, by decide +kernel, by decide +kernel⟩
theorem bd__law_some_carries : BindsBy "_law_some_carries" "_law_some_carries" s__law_some_carries ["_law_source", "_law_names", "_law_edges"] := fun _ _ _ _ _ _ us hl => match us, hl with | [_, _, _], _ => rfl
theorem ar__law_some_carries : ∀ ss Q, g__law_some_carries C ss Q → ss.length = 3 := by rintro _ Q ⟨v0, v1, v2, c0, rfl, h⟩; rfl
theorem out__law_some_carries : Out (g__law_some_carries C) := by
  rintro _ Q ⟨v0, v1, v2, c0, rfl, h⟩
  exact ⟨v0, v1, v2, c0, rfl, by first | exact ⟨h, rfl⟩ | exact fun a => ⟨h a, rfl⟩ | exact fun a b => ⟨h a b, rfl⟩ | exact fun a b c => ⟨h a b c, rfl⟩ | exact fun a b c d => ⟨h a b c d, rfl⟩ | exact fun a b c d e => ⟨h a b c d e, rfl⟩ | exact fun a b c d e f => ⟨h a b c d e f, rfl⟩⟩
theorem body__law_some_carries (n_int : mg "int" = none) (n_range : mg "range" = none) (h__law_carries : HasD P w K mg base "_law_carries" ["_law_names", "_law_edges"] 1 (g__law_carries C)) (h__law_next : HasD P w K mg base "_law_next" ["_law_source", "_law_many"] 1 (g__law_next C)) (h__law_one : HasD P w K mg base "_law_one" ["_law_source", "_law_some"] 2 (g__law_one C)) : BodyOk P w K mg base N__law_some_carries "_law_some_carries" s__law_some_carries 2 (q__law_some_carries C) := fun f H0 M0 iol cdv A outer s H E g =>
  (s_cons (s_set (i := 3) g (q_callK g h__law_carries (by decide) (a_cons (q_var (pv 1)) (a_cons (q_var (pv 2)) a_nil))))
  (s_cons (s_set (i := 4) g (q_lst a_nil))
  (s_cons (s_for (vs := [5]) PassesOwn.never g (i_rng1 n_range (a_cons (q_mul (q_callH g h__law_next (by decide) (l_lend (pv 0) (l_keep q_int l_nil))) (q_intC n_int (b_cons (v_cmp (c_ne g) (q_var (pv 3)) (q_lst a_nil)) b_nil))) a_nil)) (g_name (i := 5) g.nd) (s_one (s_expr (q_append (pv 4) (a_cons (q_callH g h__law_one (by decide) (l_lend (pv 0) (l_keep (q_var (pv 3)) l_nil))) a_nil)))))
  (s_one (s_ret (q_var (pv 4)))))))
theorem has__law_some_carries (D : DefAt K mg "_law_some_carries" s__law_some_carries) (n_int : mg "int" = none) (n_range : mg "range" = none) (h__law_carries : HasD P w K mg base "_law_carries" ["_law_names", "_law_edges"] 1 (g__law_carries C)) (h__law_next : HasD P w K mg base "_law_next" ["_law_source", "_law_many"] 1 (g__law_next C)) (h__law_one : HasD P w K mg base "_law_one" ["_law_source", "_law_some"] 2 (g__law_one C)) : HasD P w K mg base "_law_some_carries" ["_law_source", "_law_names", "_law_edges"] 3 (g__law_some_carries C) := def_has D sc__law_some_carries bd__law_some_carries ar__law_some_carries out__law_some_carries (body__law_some_carries n_int n_range h__law_carries h__law_next h__law_one) (hq__law_some_carries C)
/-! _law_odd -/
abbrev s__law_odd : Stmt := top 48
abbrev N__law_odd : List Str := ["_law_bits_here", "_law_odd_here"]
theorem sc__law_odd : FnScope N__law_odd ["_law_bits_here"] (defScope s__law_odd) := ⟨rfl, rfl, rfl, by decide +kernel, rfl, by decide +kernel, by decide +kernel⟩
theorem bd__law_odd : BindsBy "_law_odd" "_law_odd" s__law_odd ["_law_bits_here"] := fun _ _ _ _ _ _ us hl => match us, hl with | [_], _ => rfl
theorem ar__law_odd : ∀ ss Q, g__law_odd C ss Q → ss.length = 1 := by rintro _ Q ⟨v0, rfl, h⟩; rfl
theorem out__law_odd : Out (g__law_odd C) := by
  rintro _ Q ⟨v0, rfl, h⟩
  exact ⟨v0, rfl, by first | exact ⟨h, rfl⟩ | exact fun a => ⟨h a, rfl⟩ | exact fun a b => ⟨h a b, rfl⟩ | exact fun a b c => ⟨h a b c, rfl⟩ | exact fun a b c d => ⟨h a b c d, rfl⟩ | exact fun a b c d e => ⟨h a b c d e, rfl⟩ | exact fun a b c d e f => ⟨h a b c d e f, rfl⟩⟩
theorem body__law_odd  : BodyOk P w K mg base N__law_odd "_law_odd" s__law_odd 0 (q__law_odd C) := fun f H0 M0 iol cdv A outer s H E g =>
  (s_cons (s_set (i := 1) g q_bl)
  (s_cons (s_while PassesOwn.never (t_cmpQ (c_gt g) (q_var (pv 0)) q_int) (s_cons (s_set (i := 0) g (q_band (q_var (pv 0)) (q_sub (q_var (pv 0)) q_int)))
  (s_one (s_set (i := 1) g (v_not (q_var (pv 1)))))))
  (s_one (s_ret (q_var (pv 1))))))
theorem has__law_odd (D : DefAt K mg "_law_odd" s__law_odd)  : HasD P w K mg base "_law_odd" ["_law_bits_here"] 1 (g__law_odd C) := def_has D sc__law_odd bd__law_odd ar__law_odd out__law_odd (body__law_odd ) (hq__law_odd C)
/-! _law_even_sets -/
abbrev s__law_even_sets : Stmt := top 49
abbrev N__law_even_sets : List Str := ["_law_rows_here", "_law_size", "_law_at", "_law_found", "_law_row", "_law_bits_here", "_law_marks", "_law_mark", "_law_odd_here"]
theorem sc__law_even_sets : FnScope N__law_even_sets ["_law_rows_here", "_law_size"] (defScope s__law_even_sets) := ⟨rfl, rfl, rfl, by decide +kernel, rfl, by decide +kernel, by decide +kernel⟩
theorem bd__law_even_sets : BindsBy "_law_even_sets" "_law_even_sets" s__law_even_sets ["_law_rows_here", "_law_size"] := fun _ _ _ _ _ _ us hl => match us, hl with | [_, _], _ => rfl
theorem ar__law_even_sets : ∀ ss Q, g__law_even_sets C ss Q → ss.length = 2 := by rintro _ Q ⟨v0, v1, c0, rfl, h⟩; rfl
theorem out__law_even_sets : Out (g__law_even_sets C) := by
  rintro _ Q ⟨v0, v1, c0, rfl, h⟩
  exact ⟨v0, v1, c0, rfl, by first | exact ⟨h, rfl⟩ | exact fun a => ⟨h a, rfl⟩ | exact fun a b => ⟨h a b, rfl⟩ | exact fun a b c => ⟨h a b c, rfl⟩ | exact fun a b c d => ⟨h a b c d, rfl⟩ | exact fun a b c d e => ⟨h a b c d e, rfl⟩ | exact fun a b c d e f => ⟨h a b c d e f, rfl⟩⟩
theorem body__law_even_sets (n_range : mg "range" = none) (n_zip : mg "zip" = none) (h__law_odd : HasD P w K mg base "_law_odd" ["_law_bits_here"] 1 (g__law_odd C)) : BodyOk P w K mg base N__law_even_sets "_law_even_sets" s__law_even_sets 1 (q__law_even_sets C) := fun f H0 M0 iol cdv A outer s H E g =>
  (s_cons (s_setLc (i := 3) (own := [("_law_at", 2)]) g (sw_true rfl rfl rfl (by decide +kernel)) (i_rng1 n_range (a_cons (q_var (pv 1)) a_nil)) (blkOk_by (own := [("_law_at", 2)]) (N := N__law_even_sets) (sc := defScope s__law_even_sets) (by decide +kernel)) (fun _ _ _ _ _ _ _ g => (g_name (i := 2) g.nd)) (fun _ _ _ _ _ _ _ g => t_yes) (fun _ _ _ _ _ _ _ g => (q_shl q_int (q_var (pv 2)))))
  (s_cons (s_for (vs := [4]) PassesOwn.never g (i_any g (q_var (pv 0))) (g_name (i := 4) g.nd) (s_cons (s_setLc (i := 6) (own := [("_law_bits_here", 5)]) g (sw_true rfl rfl rfl (by decide +kernel)) (i_any g (q_var (pv 3))) (blkOk_by (own := [("_law_bits_here", 5)]) (N := N__law_even_sets) (sc := defScope s__law_even_sets) (by decide +kernel)) (fun _ _ _ _ _ _ _ g => (g_name (i := 5) g.nd)) (fun _ _ _ _ _ _ _ g => t_yes) (fun _ _ _ _ _ _ _ g => (q_callK g h__law_odd (by decide) (a_cons (q_band (q_var (pv 5)) (q_var (pv 4))) a_nil))))
  (s_cons (s_set (i := 8) g (q_lc (own := [("_law_bits_here", 5), ("_law_mark", 7)]) g (i_zip g n_zip (a_cons (q_var (pv 3)) (a_cons (q_var (pv 6)) a_nil))) (blkOk_by (own := [("_law_bits_here", 5), ("_law_mark", 7)]) (N := N__law_even_sets) (sc := defScope s__law_even_sets) (by decide +kernel)) (fun _ _ _ _ _ _ _ g => (g_tup g (g_cons (g_name (i := 5) g.nd) (g_cons (g_name (i := 7) g.nd) g_nil)))) (fun _ _ _ _ _ _ _ g => (t_one (t_val (q_var (pv 7))))) (fun _ _ _ _ _ _ _ g => (q_var (pv 5)))))
  (s_one (s_set (i := 3) g (q_add g (q_lc (own := [("_law_bits_here", 5), ("_law_mark", 7)]) g (i_zip g n_zip (a_cons (q_var (pv 3)) (a_cons (q_var (pv 6)) a_nil))) (blkOk_by (own := [("_law_bits_here", 5), ("_law_mark", 7)]) (N := N__law_even_sets) (sc := defScope s__law_even_sets) (by decide +kernel)) (fun _ _ _ _ _ _ _ g => (g_tup g (g_cons (g_name (i := 5) g.nd) (g_cons (g_name (i := 7) g.nd) g_nil)))) (fun _ _ _ _ _ _ _ g => (t_one (t_not (t_val (q_var (pv 7)))))) (fun _ _ _ _ _ _ _ g => (q_var (pv 5)))) (q_lc (own := [("_law_bits_here", 5)]) g (i_any g (q_sl g (q_var (pv 8)) (o_some q_int) o_none)) (blkOk_by (own := [("_law_bits_here", 5)]) (N := N__law_even_sets) (sc := defScope s__law_even_sets) (by decide +kernel)) (fun _ _ _ _ _ _ _ g => (g_name (i := 5) g.nd)) (fun _ _ _ _ _ _ _ g => t_yes) (fun _ _ _ _ _ _ _ g => (q_xor (q_var (pv 5)) (q_ixU g (q_var (pv 8)) q_int))))))))))
  (s_one (s_ret (q_var (pv 3))))))
theorem has__law_even_sets (D : DefAt K mg "_law_even_sets" s__law_even_sets) (n_range : mg "range" = none) (n_zip : mg "zip" = none) (h__law_odd : HasD P w K mg base "_law_odd" ["_law_bits_here"] 1 (g__law_odd C)) : HasD P w K mg base "_law_even_sets" ["_law_rows_here", "_law_size"] 2 (g__law_even_sets C) := def_has D sc__law_even_sets bd__law_even_sets ar__law_even_sets out__law_even_sets (body__law_even_sets n_range n_zip h__law_odd) (hq__law_even_sets C)
/-! _law_bits -/
abbrev s__law_bits : Stmt := top 46
abbrev N__law_bits : List Str := ["_law_items", "_law_record", "_law_item"]
theorem sc__law_bits : FnScope N__law_bits ["_law_items", "_law_record"] (defScope s__law_bits) := ⟨rfl, rfl, rfl, by decide +kernel, rfl, by decide +kernel, by decide +kernel⟩
theorem bd__law_bits : BindsBy "_law_bits" "_law_bits" s__law_bits ["_law_items", "_law_record"] := fun _ _ _ _ _ _ us hl => match us, hl with | [_, _], _ => rfl
theorem ar__law_bits : ∀ ss Q, g__law_bits C ss Q → ss.length = 2 := by rintro _ Q ⟨v0, v1, c0, rfl, h⟩; rfl
theorem out__law_bits : Out (g__law_bits C) := by
  rintro _ Q ⟨v0, v1, c0, rfl, h⟩
  exact ⟨v0, v1, c0, rfl, by first | exact ⟨h, rfl⟩ | exact fun a => ⟨h a, rfl⟩ | exact fun a b => ⟨h a b, rfl⟩ | exact fun a b c => ⟨h a b c, rfl⟩ | exact fun a b c d => ⟨h a b c d, rfl⟩ | exact fun a b c d e => ⟨h a b c d e, rfl⟩ | exact fun a b c d e f => ⟨h a b c d e f, rfl⟩⟩
theorem body__law_bits (n_sum : mg "sum" = none) : BodyOk P w K mg base N__law_bits "_law_bits" s__law_bits 0 (q__law_bits C) := fun f H0 M0 iol cdv A outer s H E g =>
  (s_one (s_ret (q_sum g n_sum (b_cons (q_lc (own := [("_law_item", 2)]) g (i_any g (q_var (pv 1))) (blkOk_by (own := [("_law_item", 2)]) (N := N__law_bits) (sc := defScope s__law_bits) (by decide +kernel)) (fun _ _ _ _ _ _ _ g => (g_name (i := 2) g.nd)) (fun _ _ _ _ _ _ _ g => t_yes) (fun _ _ _ _ _ _ _ g => (q_shl q_int (q_index g (q_var (pv 0)) (a_cons (q_var (pv 2)) a_nil))))) b_nil))))
theorem has__law_bits (D : DefAt K mg "_law_bits" s__law_bits) (n_sum : mg "sum" = none) : HasD P w K mg base "_law_bits" ["_law_items", "_law_record"] 1 (g__law_bits C) := def_has D sc__law_bits bd__law_bits ar__law_bits out__law_bits (body__law_bits n_sum) (hq__law_bits C)
/-! _law_flips -/
abbrev s__law_flips : Stmt := top 42
abbrev N__law_flips : List Str := ["_law_edges", "_law_edge", "_law_vertex", "_law_other", "_law_partners"]
theorem sc__law_flips : FnScope N__law_flips ["_law_edges", "_law_edge", "_law_vertex"] (defScope s__law_flips) := ⟨rfl, rfl, rfl, by decide +kernel, rfl, by decide +kernel, by decide +kernel⟩
theorem bd__law_flips : BindsBy "_law_flips" "_law_flips" s__law_flips ["_law_edges", "_law_edge", "_law_vertex"] := fun _ _ _ _ _ _ us hl => match us, hl with | [_, _, _], _ => rfl
theorem ar__law_flips : ∀ ss Q, g__law_flips C ss Q → ss.length = 3 := by rintro _ Q ⟨v0, v1, c0, rfl, h⟩; rfl
theorem out__law_flips : Out (g__law_flips C) := by
  rintro _ Q ⟨v0, v1, c0, rfl, h⟩
  exact ⟨v0, v1, c0, rfl, by first | exact ⟨h, rfl⟩ | exact fun a => ⟨h a, rfl⟩ | exact fun a b => ⟨h a b, rfl⟩ | exact fun a b c => ⟨h a b c, rfl⟩ | exact fun a b c d => ⟨h a b c d, rfl⟩ | exact fun a b c d e => ⟨h a b c d e, rfl⟩ | exact fun a b c d e f => ⟨h a b c d e f, rfl⟩⟩
theorem body__law_flips (n_max : mg "max" = none) (n_min : mg "min" = none) : BodyOk P w K mg base N__law_flips "_law_flips" s__law_flips 0 (q__law_flips C) := fun f H0 M0 iol cdv A outer s H E g =>
  (s_cons (s_setLc (i := 4) (own := [("_law_other", 3)]) g (sw_true rfl rfl rfl (by decide +kernel)) (i_any g (q_var (pv 0))) (blkOk_by (own := [("_law_other", 3)]) (N := N__law_flips) (sc := defScope s__law_flips) (by decide +kernel)) (fun _ _ _ _ _ _ _ g => (g_name (i := 3) g.nd)) (fun _ _ _ _ _ _ _ g => (t_one (t_and (t_cmpQ (c_inU g) (q_var (pv 2)) (q_var (pv 3)) (by with_unfolding_all rfl)) (t_and (t_cmpQ (c_notIn g) (q_ixU g (q_var (pv 1)) q_int) (q_var (pv 3)) (by with_unfolding_all rfl)) (t_and1 (t_cmpQ (c_notIn g) (q_ixU g (q_var (pv 1)) q_int) (q_var (pv 3)) (by with_unfolding_all rfl))))).pt)) (fun _ _ _ _ _ _ _ g => (q_var (pv 3))))
  (s_one (s_ret (q_lc (own := [("_law_other", 3)]) g (i_any g (q_var (pv 4))) (blkOk_by (own := [("_law_other", 3)]) (N := N__law_flips) (sc := defScope s__law_flips) (by decide +kernel)) (fun _ _ _ _ _ _ _ g => (g_name (i := 3) g.nd)) (fun _ _ _ _ _ _ _ g => t_yes) (fun _ _ _ _ _ _ _ g => (q_tup (a_cons (q_min2 g n_min (a_cons (q_var (pv 1)) (a_cons (q_var (pv 3)) a_nil))) (a_cons (q_max2 g n_max (a_cons (q_var (pv 1)) (a_cons (q_var (pv 3)) a_nil))) a_nil))))))))
theorem has__law_flips (D : DefAt K mg "_law_flips" s__law_flips) (n_max : mg "max" = none) (n_min : mg "min" = none) : HasD P w K mg base "_law_flips" ["_law_edges", "_law_edge", "_law_vertex"] 1 (g__law_flips C) := def_has D sc__law_flips bd__law_flips ar__law_flips out__law_flips (body__law_flips n_max n_min) (hq__law_flips C)
/-! _law_rows -/
abbrev s__law_rows : Stmt := top 47
abbrev N__law_rows : List Str := ["_law_names", "_law_edges", "_law_items", "_law_edge", "_law_vertex"]
theorem sc__law_rows : FnScope N__law_rows ["_law_names", "_law_edges", "_law_items"] (defScope s__law_rows) := ⟨rfl, rfl, rfl, by decide +kernel, rfl, by decide +kernel, by decide +kernel⟩
theorem bd__law_rows : BindsBy "_law_rows" "_law_rows" s__law_rows ["_law_names", "_law_edges", "_law_items"] := fun _ _ _ _ _ _ us hl => match us, hl with | [_, _, _], _ => rfl
theorem ar__law_rows : ∀ ss Q, g__law_rows C ss Q → ss.length = 3 := by rintro _ Q ⟨v0, v1, c0, rfl, h⟩; rfl
theorem out__law_rows : Out (g__law_rows C) := by
  rintro _ Q ⟨v0, v1, c0, rfl, h⟩
  exact ⟨v0, v1, c0, rfl, by first | exact ⟨h, rfl⟩ | exact fun a => ⟨h a, rfl⟩ | exact fun a b => ⟨h a b, rfl⟩ | exact fun a b c => ⟨h a b c, rfl⟩ | exact fun a b c d => ⟨h a b c d, rfl⟩ | exact fun a b c d e => ⟨h a b c d e, rfl⟩ | exact fun a b c d e f => ⟨h a b c d e f, rfl⟩⟩
theorem body__law_rows (h__law_bits : HasD P w K mg base "_law_bits" ["_law_items", "_law_record"] 1 (g__law_bits C)) (h__law_carries : HasD P w K mg base "_law_carries" ["_law_names", "_law_edges"] 1 (g__law_carries C)) (h__law_flips : HasD P w K mg base "_law_flips" ["_law_edges", "_law_edge", "_law_vertex"] 1 (g__law_flips C)) : BodyOk P w K mg base N__law_rows "_law_rows" s__law_rows 1 (q__law_rows C) := fun f H0 M0 iol cdv A outer s H E g =>
  (s_one (s_ret (q_lc (own := [("_law_edge", 3), ("_law_vertex", 4)]) g (i_any g (q_callK g h__law_carries (by decide) (a_cons (q_var (pv 0)) (a_cons (q_var (pv 1)) a_nil)))) (blkOk_by (own := [("_law_edge", 3), ("_law_vertex", 4)]) (N := N__law_rows) (sc := defScope s__law_rows) (by decide +kernel)) (fun _ _ _ _ _ _ _ g => (g_tup g (g_cons (g_name (i := 3) g.nd) (g_cons (g_name (i := 4) g.nd) g_nil)))) (fun _ _ _ _ _ _ _ g => t_yes) (fun _ _ _ _ _ _ _ g => (q_callK g h__law_bits (by decide) (a_cons (q_var (pv 2)) (a_cons (q_callK g h__law_flips (by decide) (a_cons (q_var (pv 1)) (a_cons (q_var (pv 3)) (a_cons (q_var (pv 4)) a_nil)))) a_nil)))))))
theorem has__law_rows (D : DefAt K mg "_law_rows" s__law_rows) (h__law_bits : HasD P w K mg base "_law_bits" ["_law_items", "_law_record"] 1 (g__law_bits C)) (h__law_carries : HasD P w K mg base "_law_carries" ["_law_names", "_law_edges"] 1 (g__law_carries C)) (h__law_flips : HasD P w K mg base "_law_flips" ["_law_edges", "_law_edge", "_law_vertex"] 1 (g__law_flips C)) : HasD P w K mg base "_law_rows" ["_law_names", "_law_edges", "_law_items"] 2 (g__law_rows C) := def_has D sc__law_rows bd__law_rows ar__law_rows out__law_rows (body__law_rows h__law_bits h__law_carries h__law_flips) (hq__law_rows C)
/-! _law_some_witness -/
abbrev s__law_some_witness : Stmt := top 50
abbrev N__law_some_witness : List Str := ["_law_source", "_law_names", "_law_edges", "_law_items", "_law_total", "_law_bits_here", "_law_at", "_law_item"]
theorem sc__law_some_witness : FnScope N__law_some_witness ["_law_source", "_law_names", "_law_edges"] (defScope s__law_some_witness) := ⟨rfl, rfl, rfl, by decide +kernel, rfl, by decide +kernel, by decide +kernel⟩
theorem bd__law_some_witness : BindsBy "_law_some_witness" "_law_some_witness" s__law_some_witness ["_law_source", "_law_names", "_law_edges"] := fun _ _ _ _ _ _ us hl => match us, hl with | [_, _, _], _ => rfl
theorem ar__law_some_witness : ∀ ss Q, g__law_some_witness C ss Q → ss.length = 3 := by rintro _ Q ⟨v0, v1, v2, c0, rfl, h⟩; rfl
theorem out__law_some_witness : Out (g__law_some_witness C) := by
  rintro _ Q ⟨v0, v1, v2, c0, rfl, h⟩
  exact ⟨v0, v1, v2, c0, rfl, by first | exact ⟨h, rfl⟩ | exact fun a => ⟨h a, rfl⟩ | exact fun a b => ⟨h a b, rfl⟩ | exact fun a b c => ⟨h a b c, rfl⟩ | exact fun a b c d => ⟨h a b c d, rfl⟩ | exact fun a b c d e => ⟨h a b c d e, rfl⟩ | exact fun a b c d e f => ⟨h a b c d e f, rfl⟩⟩
theorem body__law_some_witness (n_enumerate : mg "enumerate" = none) (n_int : mg "int" = none) (n_len : mg "len" = none) (h__law_even_sets : HasD P w K mg base "_law_even_sets" ["_law_rows_here", "_law_size"] 2 (g__law_even_sets C)) (h__law_next : HasD P w K mg base "_law_next" ["_law_source", "_law_many"] 1 (g__law_next C)) (h__law_pairs : HasD P w K mg base "_law_pairs" ["_law_edges"] 1 (g__law_pairs C)) (h__law_rows : HasD P w K mg base "_law_rows" ["_law_names", "_law_edges", "_law_items"] 2 (g__law_rows C)) : BodyOk P w K mg base N__law_some_witness "_law_some_witness" s__law_some_witness 2 (q__law_some_witness C) := fun f H0 M0 iol cdv A outer s H E g =>
  (s_cons (s_set (i := 3) g (q_callK g h__law_pairs (by decide) (a_cons (q_var (pv 2)) a_nil)))
  (s_cons (s_set (i := 4) g q_int)
  (s_cons (s_for (vs := [5]) PassesOwn.never g (i_any g (q_callK g h__law_even_sets (by decide) (a_cons (q_callK g h__law_rows (by decide) (a_cons (q_var (pv 1)) (a_cons (q_var (pv 2)) (a_cons (q_var (pv 3)) a_nil)))) (a_cons (q_lenU g n_len (b_cons (q_var (pv 3)) b_nil)) a_nil)))) (g_name (i := 5) g.nd) (s_one (s_set (i := 4) g (q_xor (q_var (pv 4)) (q_mul (q_var (pv 5)) (q_intC n_int (b_cons (v_cmp (c_eq g) (q_callH g h__law_next (by decide) (l_lend (pv 0) (l_keep q_int l_nil))) q_int) b_nil)))))))
  (s_one (s_ret (q_lc (own := [("_law_at", 6), ("_law_item", 7)]) g (i_enum g n_enumerate (a_cons (q_var (pv 3)) a_nil)) (blkOk_by (own := [("_law_at", 6), ("_law_item", 7)]) (N := N__law_some_witness) (sc := defScope s__law_some_witness) (by decide +kernel)) (fun _ _ _ _ _ _ _ g => (g_tup g (g_cons (g_name (i := 6) g.nd) (g_cons (g_name (i := 7) g.nd) g_nil)))) (fun _ _ _ _ _ _ _ g => (t_one (t_cmpQ (c_eq g) (q_band (q_shr (q_var (pv 4)) (q_var (pv 6))) q_int) q_int))) (fun _ _ _ _ _ _ _ g => (q_var (pv 7)))))))))
theorem has__law_some_witness (D : DefAt K mg "_law_some_witness" s__law_some_witness) (n_enumerate : mg "enumerate" = none) (n_int : mg "int" = none) (n_len : mg "len" = none) (h__law_even_sets : HasD P w K mg base "_law_even_sets" ["_law_rows_here", "_law_size"] 2 (g__law_even_sets C)) (h__law_next : HasD P w K mg base "_law_next" ["_law_source", "_law_many"] 1 (g__law_next C)) (h__law_pairs : HasD P w K mg base "_law_pairs" ["_law_edges"] 1 (g__law_pairs C)) (h__law_rows : HasD P w K mg base "_law_rows" ["_law_names", "_law_edges", "_law_items"] 2 (g__law_rows C)) : HasD P w K mg base "_law_some_witness" ["_law_source", "_law_names", "_law_edges"] 3 (g__law_some_witness C) := def_has D sc__law_some_witness bd__law_some_witness ar__law_some_witness out__law_some_witness (body__law_some_witness n_enumerate n_int n_len h__law_even_sets h__law_next h__law_pairs h__law_rows) (hq__law_some_witness C)
/-! _law_source_of -/
abbrev s__law_source_of : Stmt := top 36
abbrev N__law_source_of : List Str := ["_law_cell"]
theorem sc__law_source_of : FnScope N__law_source_of ["_law_cell"] (defScope s__law_source_of) := ⟨rfl, rfl, rfl, by decide +kernel, rfl, by decide +kernel, by decide +kernel⟩
theorem bd__law_source_of : BindsBy "_law_source_of" "_law_source_of" s__law_source_of ["_law_cell"] := fun _ _ _ _ _ _ us hl => match us, hl with | [_], _ => rfl
theorem ar__law_source_of : ∀ ss Q, g__law_source_of C ss Q → ss.length = 1 := by rintro _ Q ⟨v0, rfl, h⟩; rfl
theorem out__law_source_of : Out (g__law_source_of C) := by
  rintro _ Q ⟨v0, rfl, h⟩
  exact ⟨v0, rfl, by first | exact ⟨h, rfl⟩ | exact fun a => ⟨h a, rfl⟩ | exact fun a b => ⟨h a b, rfl⟩ | exact fun a b c => ⟨h a b c, rfl⟩ | exact fun a b c d => ⟨h a b c d, rfl⟩ | exact fun a b c d e => ⟨h a b c d e, rfl⟩ | exact fun a b c d e f => ⟨h a b c d e f, rfl⟩⟩
theorem body__law_source_of (n_int : mg "int" = none) : BodyOk P w K mg base N__law_source_of "_law_source_of" s__law_source_of 0 (q__law_source_of C) := fun f H0 M0 iol cdv A outer s H E g =>
  (s_cons (s_set (i := 0) g (v_if (t_cmpQ (c_ge g) (q_var (pv 0)) q_int) (q_var (pv 0)) (q_sub (q_sub q_int (q_mul q_int (q_var (pv 0)))) q_int)))
  (s_one (s_ret (q_lst (a_cons (q_mul (q_var (pv 0)) (q_intC n_int (b_cons (v_cmp (c_ge g) (q_var (pv 0)) (q_pow q_int q_int)) b_nil))) (a_cons (q_mod (q_var (pv 0)) q_int) (a_cons q_int a_nil)))))))
theorem has__law_source_of (D : DefAt K mg "_law_source_of" s__law_source_of) (n_int : mg "int" = none) : HasD P w K mg base "_law_source_of" ["_law_cell"] 1 (g__law_source_of C) := def_has D sc__law_source_of bd__law_source_of ar__law_source_of out__law_source_of (body__law_source_of n_int) (hq__law_source_of C)
/-! _law_subset -/
abbrev s__law_subset : Stmt := top 45
abbrev N__law_subset : List Str := ["_law_source", "_law_items", "_law_way", "_law_item"]
theorem sc__law_subset : FnScope N__law_subset ["_law_source", "_law_items"] (defScope s__law_subset) := ⟨rfl, rfl, rfl, by decide +kernel, rfl, by decide +kernel, by decide +kernel⟩
theorem bd__law_subset : BindsBy "_law_subset" "_law_subset" s__law_subset ["_law_source", "_law_items"] := fun _ _ _ _ _ _ us hl => match us, hl with | [_, _], _ => rfl
theorem ar__law_subset : ∀ ss Q, g__law_subset C ss Q → ss.length = 2 := by rintro _ Q ⟨v0, v1, c0, rfl, h⟩; rfl
theorem out__law_subset : Out (g__law_subset C) := by
  rintro _ Q ⟨v0, v1, c0, rfl, h⟩
  exact ⟨v0, v1, c0, rfl, by first | exact ⟨h, rfl⟩ | exact fun a => ⟨h a, rfl⟩ | exact fun a b => ⟨h a b, rfl⟩ | exact fun a b c => ⟨h a b c, rfl⟩ | exact fun a b c d => ⟨h a b c d, rfl⟩ | exact fun a b c d e => ⟨h a b c d e, rfl⟩ | exact fun a b c d e f => ⟨h a b c d e f, rfl⟩⟩
theorem body__law_subset (n_list : mg "list" = none) (h__law_next : HasD P w K mg base "_law_next" ["_law_source", "_law_many"] 1 (g__law_next C)) (h__law_one : HasD P w K mg base "_law_one" ["_law_source", "_law_some"] 2 (g__law_one C)) : BodyOk P w K mg base N__law_subset "_law_subset" s__law_subset 2 (q__law_subset C) := fun f H0 M0 iol cdv A outer s H E g =>
  (s_cons (s_set (i := 2) g (q_callH g h__law_next (by decide) (l_lend (pv 0) (l_keep q_int l_nil))))
  (s_cons (s_if (t_or (t_cmpQ (c_eq g) (q_var (pv 2)) q_int) (t_or1 (t_cmpQ (c_eq g) (q_var (pv 1)) (q_lst a_nil)))).pt (s_one (s_ret (q_lst a_nil))) s_nil)
  (s_cons (s_if (t_cmpQ (c_eq g) (q_var (pv 2)) q_int) (s_one (s_ret (q_listU g n_list (b_cons (q_var (pv 1)) b_nil)))) s_nil)
  (s_cons (s_if (t_cmpQ (c_eq g) (q_var (pv 2)) q_int) (s_one (s_ret (q_lst (a_cons (q_callH g h__law_one (by decide) (l_lend (pv 0) (l_keep (q_var (pv 1)) l_nil))) a_nil)))) s_nil)
  (s_one (s_ret (q_lc (own := [("_law_item", 3)]) g (i_any g (q_var (pv 1))) (blkOk_by (own := [("_law_item", 3)]) (N := N__law_subset) (sc := defScope s__law_subset) (by decide +kernel)) (fun _ _ _ _ _ _ _ g => (g_name (i := 3) g.nd)) (fun _ _ _ _ _ _ _ g => (t_one (t_cmpQ (c_eq g) (q_callH g h__law_next (by decide) (l_lend (pv 0) (l_keep q_int l_nil))) q_int))) (fun _ _ _ _ _ _ _ g => (q_var (pv 3))))))))))
theorem has__law_subset (D : DefAt K mg "_law_subset" s__law_subset) (n_list : mg "list" = none) (h__law_next : HasD P w K mg base "_law_next" ["_law_source", "_law_many"] 1 (g__law_next C)) (h__law_one : HasD P w K mg base "_law_one" ["_law_source", "_law_some"] 2 (g__law_one C)) : HasD P w K mg base "_law_subset" ["_law_source", "_law_items"] 3 (g__law_subset C) := def_has D sc__law_subset bd__law_subset ar__law_subset out__law_subset (body__law_subset n_list h__law_next h__law_one) (hq__law_subset C)
/-! _law_toggled -/
abbrev s__law_toggled : Stmt := top 44
abbrev N__law_toggled : List Str := ["_law_record", "_law_changed", "_law_pair"]
theorem sc__law_toggled : FnScope N__law_toggled ["_law_record", "_law_changed"] (defScope s__law_toggled) := ⟨rfl, rfl, rfl, by decide +kernel, rfl, by decide +kernel, by decide +kernel⟩
theorem bd__law_toggled : BindsBy "_law_toggled" "_law_toggled" s__law_toggled ["_law_record", "_law_changed"] := fun _ _ _ _ _ _ us hl => match us, hl with | [_, _], _ => rfl
theorem ar__law_toggled : ∀ ss Q, g__law_toggled C ss Q → ss.length = 2 := by rintro _ Q ⟨v0, v1, c0, rfl, h⟩; rfl
theorem out__law_toggled : Out (g__law_toggled C) := by
  rintro _ Q ⟨v0, v1, c0, rfl, h⟩
  exact ⟨v0, v1, c0, rfl, by first | exact ⟨h, rfl⟩ | exact fun a => ⟨h a, rfl⟩ | exact fun a b => ⟨h a b, rfl⟩ | exact fun a b c => ⟨h a b c, rfl⟩ | exact fun a b c d => ⟨h a b c d, rfl⟩ | exact fun a b c d e => ⟨h a b c d e, rfl⟩ | exact fun a b c d e f => ⟨h a b c d e f, rfl⟩⟩
theorem body__law_toggled (n_sorted : mg "sorted" = none) : BodyOk P w K mg base N__law_toggled "_law_toggled" s__law_toggled 0 (q__law_toggled C) := fun f H0 M0 iol cdv A outer s H E g =>
  (s_one (s_ret (q_sortedU g n_sorted (b_cons (q_add g (q_lc (own := [("_law_pair", 2)]) g (i_any g (q_var (pv 0))) (blkOk_by (own := [("_law_pair", 2)]) (N := N__law_toggled) (sc := defScope s__law_toggled) (by decide +kernel)) (fun _ _ _ _ _ _ _ g => (g_name (i := 2) g.nd)) (fun _ _ _ _ _ _ _ g => (t_one (t_cmpQ (c_notIn g) (q_var (pv 2)) (q_var (pv 1)) (by with_unfolding_all rfl)))) (fun _ _ _ _ _ _ _ g => (q_var (pv 2)))) (q_lc (own := [("_law_pair", 2)]) g (i_any g (q_var (pv 1))) (blkOk_by (own := [("_law_pair", 2)]) (N := N__law_toggled) (sc := defScope s__law_toggled) (by decide +kernel)) (fun _ _ _ _ _ _ _ g => (g_name (i := 2) g.nd)) (fun _ _ _ _ _ _ _ g => (t_one (t_cmpQ (c_notIn g) (q_var (pv 2)) (q_var (pv 0)) (by with_unfolding_all rfl)))) (fun _ _ _ _ _ _ _ g => (q_var (pv 2))))) b_nil))))
theorem has__law_toggled (D : DefAt K mg "_law_toggled" s__law_toggled) (n_sorted : mg "sorted" = none) : HasD P w K mg base "_law_toggled" ["_law_record", "_law_changed"] 1 (g__law_toggled C) := def_has D sc__law_toggled bd__law_toggled ar__law_toggled out__law_toggled (body__law_toggled n_sorted) (hq__law_toggled C)
/-! is_edge -/
abbrev s_is_edge : Stmt := top 21
abbrev N_is_edge : List Str := ["graph", "value"]
theorem sc_is_edge : FnScope N_is_edge ["graph", "value"] (defScope s_is_edge) := ⟨rfl, rfl, rfl, by decide +kernel, rfl, by decide +kernel, by decide +kernel⟩
theorem bd_is_edge : BindsBy "is_edge" "is_edge" s_is_edge ["graph", "value"] := fun _ _ _ _ _ _ us hl => match us, hl with | [_, _], _ => rfl
theorem ar_is_edge : ∀ ss Q, g_is_edge C ss Q → ss.length = 2 := by rintro _ Q ⟨v0, v1, v2, c0, c1, rfl, h⟩; rfl
theorem out_is_edge : Out (g_is_edge C) := by
  rintro _ Q ⟨v0, v1, v2, c0, c1, rfl, h⟩
  exact ⟨v0, v1, v2, c0, c1, rfl, by first | exact ⟨h, rfl⟩ | exact fun a => ⟨h a, rfl⟩ | exact fun a b => ⟨h a b, rfl⟩ | exact fun a b c => ⟨h a b c, rfl⟩ | exact fun a b c d => ⟨h a b c d, rfl⟩ | exact fun a b c d e => ⟨h a b c d e, rfl⟩ | exact fun a b c d e f => ⟨h a b c d e f, rfl⟩⟩
theorem body_is_edge (cls : Cls K C) (na_edges : NoAttr K C "edges") (na_vertices : NoAttr K C "vertices") (h_joins : HasD P w K mg base "joins" ["vertices", "value"] 2 (g_joins C)) : BodyOk P w K mg base N_is_edge "is_edge" s_is_edge 2 (q_is_edge C) := fun f H0 M0 iol cdv A outer s H E g =>
  (s_one (s_ret (v_and (q_callK g h_joins (by decide) (a_cons (q_fld (f := "vertices") g cls na_vertices (q_var (pv 0))) (a_cons (q_var (pv 1)) a_nil))) (v_one (v_cmp (c_inU g) (q_var (pv 1)) (q_fld (f := "edges") g cls na_edges (q_var (pv 0))) (by with_unfolding_all rfl))))))
theorem has_is_edge (D : DefAt K mg "is_edge" s_is_edge) (cls : Cls K C) (na_edges : NoAttr K C "edges") (na_vertices : NoAttr K C "vertices") (h_joins : HasD P w K mg base "joins" ["vertices", "value"] 2 (g_joins C)) : HasD P w K mg base "is_edge" ["graph", "value"] 3 (g_is_edge C) := def_has D sc_is_edge bd_is_edge ar_is_edge out_is_edge (body_is_edge cls na_edges na_vertices h_joins) (hq_is_edge C)
/-! is_carry -/
abbrev s_is_carry : Stmt := top 25
abbrev N_is_carry : List Str := ["graph", "value", "edge", "vertex"]
theorem sc_is_carry : FnScope N_is_carry ["graph", "value"] (defScope s_is_carry) := ⟨rfl, rfl, rfl, by decide +kernel, rfl, by decide +kernel, by decide +kernel⟩
theorem bd_is_carry : BindsBy "is_carry" "is_carry" s_is_carry ["graph", "value"] := fun _ _ _ _ _ _ us hl => match us, hl with | [_, _], _ => rfl
theorem ar_is_carry : ∀ ss Q, g_is_carry C ss Q → ss.length = 2 := by rintro _ Q ⟨v0, v1, v2, c0, c1, rfl, h⟩; rfl
theorem out_is_carry : Out (g_is_carry C) := by
  rintro _ Q ⟨v0, v1, v2, c0, c1, rfl, h⟩
  exact ⟨v0, v1, v2, c0, c1, rfl, by first | exact ⟨h, rfl⟩ | exact fun a => ⟨h a, rfl⟩ | exact fun a b => ⟨h a b, rfl⟩ | exact fun a b c => ⟨h a b c, rfl⟩ | exact fun a b c d => ⟨h a b c d, rfl⟩ | exact fun a b c d e => ⟨h a b c d e, rfl⟩ | exact fun a b c d e f => ⟨h a b c d e f, rfl⟩⟩
theorem body_is_carry (cls : Cls K C) (na_vertices : NoAttr K C "vertices") (h_is_among : HasD P w K mg base "is_among" ["vertices", "value"] 1 (g_is_among C)) (h_is_couple : HasD P w K mg base "is_couple" ["value"] 1 (g_is_couple C)) (h_is_edge : HasD P w K mg base "is_edge" ["graph", "value"] 3 (g_is_edge C)) : BodyOk P w K mg base N_is_carry "is_carry" s_is_carry 3 (q_is_carry C) := fun f H0 M0 iol cdv A outer s H E g =>
  (s_cons (s_if (t_not (t_val (q_callK g h_is_couple (by decide) (a_cons (q_var (pv 1)) a_nil)))) (s_one (s_ret q_bl)) s_nil)
  (s_cons (s_asg (vs := [2, 3]) (q_var (pv 1)) (g_tup g (g_cons (g_name (i := 2) g.nd) (g_cons (g_name (i := 3) g.nd) g_nil))))
  (s_one (s_ret (v_and (q_callK g h_is_edge (by decide) (a_cons (q_var (pv 0)) (a_cons (q_var (pv 2)) a_nil))) (v_and (q_callK g h_is_among (by decide) (a_cons (q_fld (f := "vertices") g cls na_vertices (q_var (pv 0))) (a_cons (q_var (pv 3)) a_nil))) (v_one (v_cmp (c_notIn g) (q_var (pv 3)) (q_var (pv 2)) (by with_unfolding_all rfl)))))))))
theorem has_is_carry (D : DefAt K mg "is_carry" s_is_carry) (cls : Cls K C) (na_vertices : NoAttr K C "vertices") (h_is_among : HasD P w K mg base "is_among" ["vertices", "value"] 1 (g_is_among C)) (h_is_couple : HasD P w K mg base "is_couple" ["value"] 1 (g_is_couple C)) (h_is_edge : HasD P w K mg base "is_edge" ["graph", "value"] 3 (g_is_edge C)) : HasD P w K mg base "is_carry" ["graph", "value"] 4 (g_is_carry C) := def_has D sc_is_carry bd_is_carry ar_is_carry out_is_carry (body_is_carry cls na_vertices h_is_among h_is_couple h_is_edge) (hq_is_carry C)
/-! check_carries -/
abbrev s_check_carries : Stmt := top 27
abbrev N_check_carries : List Str := ["graph", "value", "at", "carry"]
theorem sc_check_carries : FnScope N_check_carries ["graph", "value"] (defScope s_check_carries) := ⟨rfl, rfl, rfl, by decide +kernel, rfl, by decide +kernel, by decide +kernel⟩
theorem bd_check_carries : BindsBy "check_carries" "check_carries" s_check_carries ["graph", "value"] := fun _ _ _ _ _ _ us hl => match us, hl with | [_, _], _ => rfl
theorem ar_check_carries : ∀ ss Q, g_check_carries C ss Q → ss.length = 2 := by rintro _ Q ⟨v0, v1, v2, v3, c0, c1, c2, c3, rfl, h⟩; rfl
theorem out_check_carries : Out (g_check_carries C) := by
  rintro _ Q ⟨v0, v1, v2, v3, c0, c1, c2, c3, rfl, h⟩
  exact ⟨v0, v1, v2, v3, c0, c1, c2, c3, rfl, by first | exact ⟨h, rfl⟩ | exact fun a => ⟨h a, rfl⟩ | exact fun a b => ⟨h a b, rfl⟩ | exact fun a b c => ⟨h a b c, rfl⟩ | exact fun a b c d => ⟨h a b c d, rfl⟩ | exact fun a b c d e => ⟨h a b c d e, rfl⟩ | exact fun a b c d e f => ⟨h a b c d e f, rfl⟩⟩
theorem body_check_carries (n_enumerate : mg "enumerate" = none) (h_is_carry : HasD P w K mg base "is_carry" ["graph", "value"] 4 (g_is_carry C)) (h_is_row : HasD P w K mg base "is_row" ["value"] 1 (g_is_row C)) : BodyOk P w K mg base N_check_carries "check_carries" s_check_carries 4 (q_check_carries C) := fun f H0 M0 iol cdv A outer s H E g =>
  (s_cons (s_if (t_not (t_val (q_callK g h_is_row (by decide) (a_cons (q_var (pv 1)) a_nil)))) (s_one s_never) s_nil)
  (s_one (s_for (vs := [2, 3]) PassesOwn.never g (i_enum g n_enumerate (a_cons (q_var (pv 1)) a_nil)) (g_tup g (g_cons (g_name (i := 2) g.nd) (g_cons (g_name (i := 3) g.nd) g_nil))) (s_one (s_if (t_not (t_val (q_callK g h_is_carry (by decide) (a_cons (q_var (pv 0)) (a_cons (q_var (pv 3)) a_nil))))) (s_one s_never) s_nil)))))
theorem has_check_carries (D : DefAt K mg "check_carries" s_check_carries) (n_enumerate : mg "enumerate" = none) (h_is_carry : HasD P w K mg base "is_carry" ["graph", "value"] 4 (g_is_carry C)) (h_is_row : HasD P w K mg base "is_row" ["value"] 1 (g_is_row C)) : HasD P w K mg base "check_carries" ["graph", "value"] 5 (g_check_carries C) := def_has D sc_check_carries bd_check_carries ar_check_carries out_check_carries (body_check_carries n_enumerate h_is_carry h_is_row) (hq_check_carries C)
/-! are_apart -/
abbrev s_are_apart : Stmt := top 12
abbrev N_are_apart : List Str := ["one", "other"]
theorem sc_are_apart : FnScope N_are_apart ["one", "other"] (defScope s_are_apart) := ⟨rfl, rfl, rfl, by decide +kernel, rfl, by decide +kernel, by decide +kernel⟩
theorem bd_are_apart : BindsBy "are_apart" "are_apart" s_are_apart ["one", "other"] := fun _ _ _ _ _ _ us hl => match us, hl with | [_, _], _ => rfl
theorem ar_are_apart : ∀ ss Q, g_are_apart C ss Q → ss.length = 2 := by rintro _ Q ⟨v0, v1, c0, rfl, h⟩; rfl
theorem out_are_apart : Out (g_are_apart C) := by
  rintro _ Q ⟨v0, v1, c0, rfl, h⟩
  exact ⟨v0, v1, c0, rfl, by first | exact ⟨h, rfl⟩ | exact fun a => ⟨h a, rfl⟩ | exact fun a b => ⟨h a b, rfl⟩ | exact fun a b c => ⟨h a b c, rfl⟩ | exact fun a b c d => ⟨h a b c d, rfl⟩ | exact fun a b c d e => ⟨h a b c d e, rfl⟩ | exact fun a b c d e f => ⟨h a b c d e f, rfl⟩⟩
theorem body_are_apart  : BodyOk P w K mg base N_are_apart "are_apart" s_are_apart 0 (q_are_apart C) := fun f H0 M0 iol cdv A outer s H E g =>
  (s_one (s_ret (v_and (v_cmp (c_notIn g) (q_ixU g (q_var (pv 0)) q_int) (q_var (pv 1)) (by with_unfolding_all rfl)) (v_one (v_cmp (c_notIn g) (q_ixU g (q_var (pv 0)) q_int) (q_var (pv 1)) (by with_unfolding_all rfl))))))
theorem has_are_apart (D : DefAt K mg "are_apart" s_are_apart)  : HasD P w K mg base "are_apart" ["one", "other"] 1 (g_are_apart C) := def_has D sc_are_apart bd_are_apart ar_are_apart out_are_apart (body_are_apart ) (hq_are_apart C)
/-! is_pair -/
abbrev s_is_pair : Stmt := top 22
abbrev N_is_pair : List Str := ["graph", "value", "one", "other"]
theorem sc_is_pair : FnScope N_is_pair ["graph", "value"] (defScope s_is_pair) := ⟨rfl, rfl, rfl, by decide +kernel, rfl, by decide +kernel, by decide +kernel⟩
theorem bd_is_pair : BindsBy "is_pair" "is_pair" s_is_pair ["graph", "value"] := fun _ _ _ _ _ _ us hl => match us, hl with | [_, _], _ => rfl
theorem ar_is_pair : ∀ ss Q, g_is_pair C ss Q → ss.length = 2 := by rintro _ Q ⟨v0, v1, v2, c0, c1, rfl, h⟩; rfl
theorem out_is_pair : Out (g_is_pair C) := by
  rintro _ Q ⟨v0, v1, v2, c0, c1, rfl, h⟩
  exact ⟨v0, v1, v2, c0, c1, rfl, by first | exact ⟨h, rfl⟩ | exact fun a => ⟨h a, rfl⟩ | exact fun a b => ⟨h a b, rfl⟩ | exact fun a b c => ⟨h a b c, rfl⟩ | exact fun a b c d => ⟨h a b c d, rfl⟩ | exact fun a b c d e => ⟨h a b c d e, rfl⟩ | exact fun a b c d e f => ⟨h a b c d e f, rfl⟩⟩
theorem body_is_pair (h_are_apart : HasD P w K mg base "are_apart" ["one", "other"] 1 (g_are_apart C)) (h_is_couple : HasD P w K mg base "is_couple" ["value"] 1 (g_is_couple C)) (h_is_edge : HasD P w K mg base "is_edge" ["graph", "value"] 3 (g_is_edge C)) : BodyOk P w K mg base N_is_pair "is_pair" s_is_pair 3 (q_is_pair C) := fun f H0 M0 iol cdv A outer s H E g =>
  (s_cons (s_if (t_not (t_val (q_callK g h_is_couple (by decide) (a_cons (q_var (pv 1)) a_nil)))) (s_one (s_ret q_bl)) s_nil)
  (s_cons (s_asg (vs := [2, 3]) (q_var (pv 1)) (g_tup g (g_cons (g_name (i := 2) g.nd) (g_cons (g_name (i := 3) g.nd) g_nil))))
  (s_one (s_ret (v_and (q_callK g h_is_edge (by decide) (a_cons (q_var (pv 0)) (a_cons (q_var (pv 2)) a_nil))) (v_and (q_callK g h_is_edge (by decide) (a_cons (q_var (pv 0)) (a_cons (q_var (pv 3)) a_nil))) (v_and (v_cmp (c_lt g) (q_var (pv 2)) (q_var (pv 3))) (v_one (q_callK g h_are_apart (by decide) (a_cons (q_var (pv 2)) (a_cons (q_var (pv 3)) a_nil)))))))))))
theorem has_is_pair (D : DefAt K mg "is_pair" s_is_pair) (h_are_apart : HasD P w K mg base "are_apart" ["one", "other"] 1 (g_are_apart C)) (h_is_couple : HasD P w K mg base "is_couple" ["value"] 1 (g_is_couple C)) (h_is_edge : HasD P w K mg base "is_edge" ["graph", "value"] 3 (g_is_edge C)) : HasD P w K mg base "is_pair" ["graph", "value"] 4 (g_is_pair C) := def_has D sc_is_pair bd_is_pair ar_is_pair out_is_pair (body_is_pair h_are_apart h_is_couple h_is_edge) (hq_is_pair C)
/-! check_record -/
abbrev s_check_record : Stmt := top 23
abbrev N_check_record : List Str := ["graph", "value", "seen", "at", "pair"]
theorem sc_check_record : FnScope N_check_record ["graph", "value"] (defScope s_check_record) := ⟨rfl, rfl, rfl, by decide +kernel, rfl, by decide +kernel, by decide +kernel⟩
theorem bd_check_record : BindsBy "check_record" "check_record" s_check_record ["graph", "value"] := fun _ _ _ _ _ _ us hl => match us, hl with | [_, _], _ => rfl
theorem ar_check_record : ∀ ss Q, g_check_record C ss Q → ss.length = 2 := by rintro _ Q ⟨v0, v1, v2, v3, c0, c1, c2, rfl, h⟩; rfl
theorem out_check_record : Out (g_check_record C) := by
  rintro _ Q ⟨v0, v1, v2, v3, c0, c1, c2, rfl, h⟩
  exact ⟨v0, v1, v2, v3, c0, c1, c2, rfl, by first | exact ⟨h, rfl⟩ | exact fun a => ⟨h a, rfl⟩ | exact fun a b => ⟨h a b, rfl⟩ | exact fun a b c => ⟨h a b c, rfl⟩ | exact fun a b c d => ⟨h a b c d, rfl⟩ | exact fun a b c d e => ⟨h a b c d e, rfl⟩ | exact fun a b c d e f => ⟨h a b c d e f, rfl⟩⟩
theorem body_check_record (n_enumerate : mg "enumerate" = none) (n_set : mg "set" = none) (h_is_pair : HasD P w K mg base "is_pair" ["graph", "value"] 4 (g_is_pair C)) (h_is_row : HasD P w K mg base "is_row" ["value"] 1 (g_is_row C)) : BodyOk P w K mg base N_check_record "check_record" s_check_record 4 (q_check_record C) := fun f H0 M0 iol cdv A outer s H E g =>
  (s_cons (s_if (t_not (t_val (q_callK g h_is_row (by decide) (a_cons (q_var (pv 1)) a_nil)))) (s_one s_never) s_nil)
  (s_cons (s_set (i := 2) g (q_set0 g n_set))
  (s_one (s_for (vs := [3, 4]) PassesOwn.never g (i_enum g n_enumerate (a_cons (q_var (pv 1)) a_nil)) (g_tup g (g_cons (g_name (i := 3) g.nd) (g_cons (g_name (i := 4) g.nd) g_nil))) (s_cons (s_if (t_or (t_not (t_val (q_callK g h_is_pair (by decide) (a_cons (q_var (pv 0)) (a_cons (q_var (pv 4)) a_nil))))) (t_or1 (t_cmpQ (c_inU g) (q_var (pv 4)) (q_var (pv 2)) (by with_unfolding_all rfl)))).pt (s_one s_never) s_nil)
  (s_one (s_expr (q_sadd g (pv 2) (a_cons (q_var (pv 4)) a_nil)))))))))
theorem has_check_record (D : DefAt K mg "check_record" s_check_record) (n_enumerate : mg "enumerate" = none) (n_set : mg "set" = none) (h_is_pair : HasD P w K mg base "is_pair" ["graph", "value"] 4 (g_is_pair C)) (h_is_row : HasD P w K mg base "is_row" ["value"] 1 (g_is_row C)) : HasD P w K mg base "check_record" ["graph", "value"] 5 (g_check_record C) := def_has D sc_check_record bd_check_record ar_check_record out_check_record (body_check_record n_enumerate n_set h_is_pair h_is_row) (hq_check_record C)
/-! flips_of -/
abbrev s_flips_of : Stmt := top 28
abbrev N_flips_of : List Str := ["graph", "carry", "edge", "vertex", "other", "crossed"]
theorem sc_flips_of : FnScope N_flips_of ["graph", "carry"] (defScope s_flips_of) := ⟨rfl, rfl, rfl, by decide +kernel, rfl, by decide +kernel, by decide +kernel⟩
theorem bd_flips_of : BindsBy "flips_of" "flips_of" s_flips_of ["graph", "carry"] := fun _ _ _ _ _ _ us hl => match us, hl with | [_, _], _ => rfl
theorem ar_flips_of : ∀ ss Q, g_flips_of C ss Q → ss.length = 2 := by rintro _ Q ⟨v0, v1, v2, c0, c1, rfl, h⟩; rfl
theorem out_flips_of : Out (g_flips_of C) := by
  rintro _ Q ⟨v0, v1, v2, c0, c1, rfl, h⟩
  exact ⟨v0, v1, v2, c0, c1, rfl, by first | exact ⟨h, rfl⟩ | exact fun a => ⟨h a, rfl⟩ | exact fun a b => ⟨h a b, rfl⟩ | exact fun a b c => ⟨h a b c, rfl⟩ | exact fun a b c d => ⟨h a b c d, rfl⟩ | exact fun a b c d e => ⟨h a b c d e, rfl⟩ | exact fun a b c d e f => ⟨h a b c d e f, rfl⟩⟩
theorem body_flips_of (cls : Cls K C) (na_edges : NoAttr K C "edges") (h_are_apart : HasD P w K mg base "are_apart" ["one", "other"] 1 (g_are_apart C)) : BodyOk P w K mg base N_flips_of "flips_of" s_flips_of 1 (q_flips_of C) := fun f H0 M0 iol cdv A outer s H E g =>
  (s_cons (s_asg (vs := [2, 3]) (q_var (pv 1)) (g_tup g (g_cons (g_name (i := 2) g.nd) (g_cons (g_name (i := 3) g.nd) g_nil))))
  (s_cons (s_setLc (i := 5) (own := [("other", 4)]) g (sw_true rfl rfl rfl (by decide +kernel)) (i_any g (q_fld (f := "edges") g cls na_edges (q_var (pv 0)))) (blkOk_by (own := [("other", 4)]) (N := N_flips_of) (sc := defScope s_flips_of) (by decide +kernel)) (fun _ _ _ _ _ _ _ g => (g_name (i := 4) g.nd)) (fun _ _ _ _ _ _ _ g => (t_one (t_and (t_cmpQ (c_inU g) (q_var (pv 3)) (q_var (pv 4)) (by with_unfolding_all rfl)) (t_and1 (t_val (q_callK g h_are_apart (by decide) (a_cons (q_var (pv 2)) (a_cons (q_var (pv 4)) a_nil)))))).pt)) (fun _ _ _ _ _ _ _ g => (q_var (pv 4))))
  (s_one (s_ret (q_lc (own := [("other", 4)]) g (i_any g (q_var (pv 5))) (blkOk_by (own := [("other", 4)]) (N := N_flips_of) (sc := defScope s_flips_of) (by decide +kernel)) (fun _ _ _ _ _ _ _ g => (g_name (i := 4) g.nd)) (fun _ _ _ _ _ _ _ g => t_yes) (fun _ _ _ _ _ _ _ g => (v_if (t_cmpQ (c_lt g) (q_var (pv 4)) (q_var (pv 2))) (q_tup (a_cons (q_var (pv 4)) (a_cons (q_var (pv 2)) a_nil))) (q_tup (a_cons (q_var (pv 2)) (a_cons (q_var (pv 4)) a_nil))))))))))
theorem has_flips_of (D : DefAt K mg "flips_of" s_flips_of) (cls : Cls K C) (na_edges : NoAttr K C "edges") (h_are_apart : HasD P w K mg base "are_apart" ["one", "other"] 1 (g_are_apart C)) : HasD P w K mg base "flips_of" ["graph", "carry"] 2 (g_flips_of C) := def_has D sc_flips_of bd_flips_of ar_flips_of out_flips_of (body_flips_of cls na_edges h_are_apart) (hq_flips_of C)
/-! pairs -/
abbrev s_pairs : Stmt := top 13
abbrev N_pairs : List Str := ["graph", "found", "at", "one", "other"]
theorem sc_pairs : FnScope N_pairs ["graph"] (defScope s_pairs) := ⟨rfl, rfl, rfl, by decide +kernel, rfl, by decide +kernel, by decide +kernel⟩
theorem bd_pairs : BindsBy "pairs" "pairs" s_pairs ["graph"] := fun _ _ _ _ _ _ us hl => match us, hl with | [_], _ => rfl
theorem ar_pairs : ∀ ss Q, g_pairs C ss Q → ss.length = 1 := by rintro _ Q ⟨v0, v1, c0, rfl, h⟩; rfl
theorem out_pairs : Out (g_pairs C) := by
  rintro _ Q ⟨v0, v1, c0, rfl, h⟩
  exact ⟨v0, v1, c0, rfl, by first | exact ⟨h, rfl⟩ | exact fun a => ⟨h a, rfl⟩ | exact fun a b => ⟨h a b, rfl⟩ | exact fun a b c => ⟨h a b c, rfl⟩ | exact fun a b c d => ⟨h a b c d, rfl⟩ | exact fun a b c d e => ⟨h a b c d e, rfl⟩ | exact fun a b c d e f => ⟨h a b c d e f, rfl⟩⟩
theorem body_pairs (n_enumerate : mg "enumerate" = none) (cls : Cls K C) (na_edges : NoAttr K C "edges") (h_are_apart : HasD P w K mg base "are_apart" ["one", "other"] 1 (g_are_apart C)) : BodyOk P w K mg base N_pairs "pairs" s_pairs 1 (q_pairs C) := fun f H0 M0 iol cdv A outer s H E g =>
  (s_cons (s_set (i := 1) g (q_lst a_nil))
  (s_cons (s_for (vs := [2, 3]) PassesOwn.never g (i_enum g n_enumerate (a_cons (q_fld (f := "edges") g cls na_edges (q_var (pv 0))) a_nil)) (g_tup g (g_cons (g_name (i := 2) g.nd) (g_cons (g_name (i := 3) g.nd) g_nil))) (s_one (s_for (vs := [4]) PassesOwn.never g (i_any g (q_sl g (q_fld (f := "edges") g cls na_edges (q_var (pv 0))) (o_some (q_add g (q_var (pv 2)) q_int)) o_none)) (g_name (i := 4) g.nd) (s_one (s_if (t_val (q_callK g h_are_apart (by decide) (a_cons (q_var (pv 3)) (a_cons (q_var (pv 4)) a_nil)))) (s_one (s_expr (q_append (pv 1) (a_cons (q_tup (a_cons (q_var (pv 3)) (a_cons (q_var (pv 4)) a_nil))) a_nil)))) s_nil)))))
  (s_one (s_ret (q_var (pv 1))))))
theorem has_pairs (D : DefAt K mg "pairs" s_pairs) (n_enumerate : mg "enumerate" = none) (cls : Cls K C) (na_edges : NoAttr K C "edges") (h_are_apart : HasD P w K mg base "are_apart" ["one", "other"] 1 (g_are_apart C)) : HasD P w K mg base "pairs" ["graph"] 2 (g_pairs C) := def_has D sc_pairs bd_pairs ar_pairs out_pairs (body_pairs n_enumerate cls na_edges h_are_apart) (hq_pairs C)
/-! carried -/
abbrev s_carried : Stmt := top 29
abbrev N_carried : List Str := ["graph", "record", "carries", "pair", "held", "carry"]
theorem sc_carried : FnScope N_carried ["graph", "record", "carries"] (defScope s_carried) := ⟨rfl, rfl, rfl, by decide +kernel, rfl, by decide +kernel, by decide +kernel⟩
theorem bd_carried : BindsBy "carried" "carried" s_carried ["graph", "record", "carries"] := fun _ _ _ _ _ _ us hl => match us, hl with | [_, _, _], _ => rfl
theorem ar_carried : ∀ ss Q, g_carried C ss Q → ss.length = 3 := by rintro _ Q ⟨v0, v1, v2, v3, v4, v5, c0, c1, c2, c3, c4, c5, rfl, h⟩; rfl
theorem out_carried : Out (g_carried C) := by
  rintro _ Q ⟨v0, v1, v2, v3, v4, v5, c0, c1, c2, c3, c4, c5, rfl, h⟩
  exact ⟨v0, v1, v2, v3, v4, v5, c0, c1, c2, c3, c4, c5, rfl, by first | exact ⟨h, rfl⟩ | exact fun a => ⟨h a, rfl⟩ | exact fun a b => ⟨h a b, rfl⟩ | exact fun a b c => ⟨h a b c, rfl⟩ | exact fun a b c d => ⟨h a b c d, rfl⟩ | exact fun a b c d e => ⟨h a b c d e, rfl⟩ | exact fun a b c d e f => ⟨h a b c d e f, rfl⟩⟩
theorem body_carried (h_check_carries : HasD P w K mg base "check_carries" ["graph", "value"] 5 (g_check_carries C)) (h_check_record : HasD P w K mg base "check_record" ["graph", "value"] 5 (g_check_record C)) (h_flips_of : HasD P w K mg base "flips_of" ["graph", "carry"] 2 (g_flips_of C)) (h_pairs : HasD P w K mg base "pairs" ["graph"] 2 (g_pairs C)) : BodyOk P w K mg base N_carried "carried" s_carried 5 (q_carried C) := fun f H0 M0 iol cdv A outer s H E g =>
  (s_cons (s_expr (q_callK g h_check_record (by decide) (a_cons (q_var (pv 0)) (a_cons (q_var (pv 1)) a_nil))))
  (s_cons (s_expr (q_callK g h_check_carries (by decide) (a_cons (q_var (pv 0)) (a_cons (q_var (pv 2)) a_nil))))
  (s_cons (s_set (i := 4) g (q_dc (own := [("pair", 3)]) true g (i_any g (q_callK g h_pairs (by decide) (a_cons (q_var (pv 0)) a_nil))) (blkOk_by (own := [("pair", 3)]) (N := N_carried) (sc := defScope s_carried) (by decide +kernel)) (fun _ _ _ _ _ _ _ g => (g_name (i := 3) g.nd)) (fun _ _ _ _ _ _ _ g => t_yes) (fun _ _ _ _ _ _ _ g => (q_var (pv 3))) (fun _ _ _ _ _ _ _ g => q_bl)))
  (s_cons (s_for (vs := [3]) PassesOwn.never g (i_any g (q_var (pv 1))) (g_name (i := 3) g.nd) (s_one (s_setU g q_bl (pv 4) (q_var (pv 3)))))
  (s_cons (s_for (vs := [5]) PassesOwn.never g (i_any g (q_var (pv 2))) (g_name (i := 5) g.nd) (s_one (s_for (vs := [3]) PassesOwn.never g (i_any g (q_callK g h_flips_of (by decide) (a_cons (q_var (pv 0)) (a_cons (q_var (pv 5)) a_nil)))) (g_name (i := 3) g.nd) (s_one (s_setU g (v_not (q_ixU g (q_var (pv 4)) (q_var (pv 3)))) (pv 4) (q_var (pv 3)))))))
  (s_one (s_ret (q_lc (own := [("pair", 3)]) g (i_any g (q_callK g h_pairs (by decide) (a_cons (q_var (pv 0)) a_nil))) (blkOk_by (own := [("pair", 3)]) (N := N_carried) (sc := defScope s_carried) (by decide +kernel)) (fun _ _ _ _ _ _ _ g => (g_name (i := 3) g.nd)) (fun _ _ _ _ _ _ _ g => (t_one (t_val (q_ixU g (q_var (pv 4)) (q_var (pv 3)))))) (fun _ _ _ _ _ _ _ g => (q_var (pv 3)))))))))))
theorem has_carried (D : DefAt K mg "carried" s_carried) (h_check_carries : HasD P w K mg base "check_carries" ["graph", "value"] 5 (g_check_carries C)) (h_check_record : HasD P w K mg base "check_record" ["graph", "value"] 5 (g_check_record C)) (h_flips_of : HasD P w K mg base "flips_of" ["graph", "carry"] 2 (g_flips_of C)) (h_pairs : HasD P w K mg base "pairs" ["graph"] 2 (g_pairs C)) : HasD P w K mg base "carried" ["graph", "record", "carries"] 6 (g_carried C) := def_has D sc_carried bd_carried ar_carried out_carried (body_carried h_check_carries h_check_record h_flips_of h_pairs) (hq_carried C)
/-! common_parity -/
abbrev s_common_parity : Stmt := top 31
abbrev N_common_parity : List Str := ["one", "other"]
theorem sc_common_parity : FnScope N_common_parity ["one", "other"] (defScope s_common_parity) := ⟨rfl, rfl, rfl, by decide +kernel, rfl, by decide +kernel, by decide +kernel⟩
theorem bd_common_parity : BindsBy "common_parity" "common_parity" s_common_parity ["one", "other"] := fun _ _ _ _ _ _ us hl => match us, hl with | [_, _], _ => rfl
theorem ar_common_parity : ∀ ss Q, g_common_parity C ss Q → ss.length = 2 := by rintro _ Q ⟨v0, v1, v2, v3, c0, c1, c2, rfl, h⟩; rfl
theorem out_common_parity : Out (g_common_parity C) := by
  rintro _ Q ⟨v0, v1, v2, v3, c0, c1, c2, rfl, h⟩
  exact ⟨v0, v1, v2, v3, c0, c1, c2, rfl, by first | exact ⟨h, rfl⟩ | exact fun a => ⟨h a, rfl⟩ | exact fun a b => ⟨h a b, rfl⟩ | exact fun a b c => ⟨h a b c, rfl⟩ | exact fun a b c d => ⟨h a b c d, rfl⟩ | exact fun a b c d e => ⟨h a b c d e, rfl⟩ | exact fun a b c d e f => ⟨h a b c d e f, rfl⟩⟩
theorem body_common_parity (n_len : mg "len" = none) (n_set : mg "set" = none) : BodyOk P w K mg base N_common_parity "common_parity" s_common_parity 0 (q_common_parity C) := fun f H0 M0 iol cdv A outer s H E g =>
  (s_one (s_ret (q_mod (q_lenAnd g n_len n_set (q_var (pv 0)) (q_var (pv 1))) q_int)))
theorem has_common_parity (D : DefAt K mg "common_parity" s_common_parity) (n_len : mg "len" = none) (n_set : mg "set" = none) : HasD P w K mg base "common_parity" ["one", "other"] 1 (g_common_parity C) := def_has D sc_common_parity bd_common_parity ar_common_parity out_common_parity (body_common_parity n_len n_set) (hq_common_parity C)
/-! every_carry -/
abbrev s_every_carry : Stmt := top 26
abbrev N_every_carry : List Str := ["graph", "vertices", "edge", "vertex"]
theorem sc_every_carry : FnScope N_every_carry ["graph"] (defScope s_every_carry) := ⟨rfl, rfl, rfl, by decide +kernel, rfl, by decide +kernel, by decide +kernel⟩
theorem bd_every_carry : BindsBy "every_carry" "every_carry" s_every_carry ["graph"] := fun _ _ _ _ _ _ us hl => match us, hl with | [_], _ => rfl
theorem ar_every_carry : ∀ ss Q, g_every_carry C ss Q → ss.length = 1 := by rintro _ Q ⟨v0, v1, c0, rfl, h⟩; rfl
theorem out_every_carry : Out (g_every_carry C) := by
  rintro _ Q ⟨v0, v1, c0, rfl, h⟩
  exact ⟨v0, v1, c0, rfl, by first | exact ⟨h, rfl⟩ | exact fun a => ⟨h a, rfl⟩ | exact fun a b => ⟨h a b, rfl⟩ | exact fun a b c => ⟨h a b c, rfl⟩ | exact fun a b c d => ⟨h a b c d, rfl⟩ | exact fun a b c d e => ⟨h a b c d e, rfl⟩ | exact fun a b c d e f => ⟨h a b c d e f, rfl⟩⟩
theorem body_every_carry (n_sorted : mg "sorted" = none) (cls : Cls K C) (na_edges : NoAttr K C "edges") (na_vertices : NoAttr K C "vertices") : BodyOk P w K mg base N_every_carry "every_carry" s_every_carry 0 (q_every_carry C) := fun f H0 M0 iol cdv A outer s H E g =>
  (s_cons (s_set (i := 1) g (q_sortedU g n_sorted (b_cons (q_fld (f := "vertices") g cls na_vertices (q_var (pv 0))) b_nil)))
  (s_one (s_ret (q_lc2 (own := [("edge", 2), ("vertex", 3)]) (vs1 := [3]) g (i_any g (q_fld (f := "edges") g cls na_edges (q_var (pv 0)))) (blkOk_by (own := [("edge", 2), ("vertex", 3)]) (N := N_every_carry) (sc := defScope s_every_carry) (by decide +kernel)) (by decide) (fun _ _ _ _ _ _ _ g => (g_name (i := 2) g.nd)) (fun _ _ _ _ _ _ _ g => t_yes) (fun _ _ _ _ _ _ _ g => (i_any g (q_var (pv 1)))) (fun _ _ _ _ _ _ _ g => (g_name (i := 3) g.nd)) (fun _ _ _ _ _ _ _ g => (t_one (t_cmpQ (c_notIn g) (q_var (pv 3)) (q_var (pv 2)) (by with_unfolding_all rfl)))) (fun _ _ _ _ _ _ _ g => (q_tup (a_cons (q_var (pv 2)) (a_cons (q_var (pv 3)) a_nil))))))))
theorem has_every_carry (D : DefAt K mg "every_carry" s_every_carry) (n_sorted : mg "sorted" = none) (cls : Cls K C) (na_edges : NoAttr K C "edges") (na_vertices : NoAttr K C "vertices") : HasD P w K mg base "every_carry" ["graph"] 1 (g_every_carry C) := def_has D sc_every_carry bd_every_carry ar_every_carry out_every_carry (body_every_carry n_sorted cls na_edges na_vertices) (hq_every_carry C)
/-! is_witness -/
abbrev s_is_witness : Stmt := top 32
abbrev N_is_witness : List Str := ["graph", "record", "carry"]
theorem sc_is_witness : FnScope N_is_witness ["graph", "record"] (defScope s_is_witness) := ⟨rfl, rfl, rfl, by decide +kernel, rfl, by decide +kernel, by decide +kernel⟩
theorem bd_is_witness : BindsBy "is_witness" "is_witness" s_is_witness ["graph", "record"] := fun _ _ _ _ _ _ us hl => match us, hl with | [_, _], _ => rfl
theorem ar_is_witness : ∀ ss Q, g_is_witness C ss Q → ss.length = 2 := by rintro _ Q ⟨v0, v1, v2, v3, c0, c1, c2, rfl, h⟩; rfl
theorem out_is_witness : Out (g_is_witness C) := by
  rintro _ Q ⟨v0, v1, v2, v3, c0, c1, c2, rfl, h⟩
  exact ⟨v0, v1, v2, v3, c0, c1, c2, rfl, by first | exact ⟨h, rfl⟩ | exact fun a => ⟨h a, rfl⟩ | exact fun a b => ⟨h a b, rfl⟩ | exact fun a b c => ⟨h a b c, rfl⟩ | exact fun a b c d => ⟨h a b c d, rfl⟩ | exact fun a b c d e => ⟨h a b c d e, rfl⟩ | exact fun a b c d e f => ⟨h a b c d e f, rfl⟩⟩
theorem body_is_witness (n_all : mg "all" = none) (h_check_record : HasD P w K mg base "check_record" ["graph", "value"] 5 (g_check_record C)) (h_common_parity : HasD P w K mg base "common_parity" ["one", "other"] 1 (g_common_parity C)) (h_every_carry : HasD P w K mg base "every_carry" ["graph"] 1 (g_every_carry C)) (h_flips_of : HasD P w K mg base "flips_of" ["graph", "carry"] 2 (g_flips_of C)) : BodyOk P w K mg base N_is_witness "is_witness" s_is_witness 5 (q_is_witness C) := fun f H0 M0 iol cdv A outer s H E g =>
  (s_cons (s_expr (q_callK g h_check_record (by decide) (a_cons (q_var (pv 0)) (a_cons (q_var (pv 1)) a_nil))))
  (s_one (s_ret (q_all g n_all (b_cons (q_lc (own := [("carry", 2)]) g (i_any g (q_callK g h_every_carry (by decide) (a_cons (q_var (pv 0)) a_nil))) (blkOk_by (own := [("carry", 2)]) (N := N_is_witness) (sc := defScope s_is_witness) (by decide +kernel)) (fun _ _ _ _ _ _ _ g => (g_name (i := 2) g.nd)) (fun _ _ _ _ _ _ _ g => t_yes) (fun _ _ _ _ _ _ _ g => (v_cmp (c_eq g) (q_callK g h_common_parity (by decide) (a_cons (q_var (pv 1)) (a_cons (q_callK g h_flips_of (by decide) (a_cons (q_var (pv 0)) (a_cons (q_var (pv 2)) a_nil))) a_nil))) q_int))) b_nil)))))
theorem has_is_witness (D : DefAt K mg "is_witness" s_is_witness) (n_all : mg "all" = none) (h_check_record : HasD P w K mg base "check_record" ["graph", "value"] 5 (g_check_record C)) (h_common_parity : HasD P w K mg base "common_parity" ["one", "other"] 1 (g_common_parity C)) (h_every_carry : HasD P w K mg base "every_carry" ["graph"] 1 (g_every_carry C)) (h_flips_of : HasD P w K mg base "flips_of" ["graph", "carry"] 2 (g_flips_of C)) : HasD P w K mg base "is_witness" ["graph", "record"] 6 (g_is_witness C) := def_has D sc_is_witness bd_is_witness ar_is_witness out_is_witness (body_is_witness n_all h_check_record h_common_parity h_every_carry h_flips_of) (hq_is_witness C)
/-! charge -/
abbrev s_charge : Stmt := top 33
abbrev N_charge : List Str := ["graph", "record", "witness"]
theorem sc_charge : FnScope N_charge ["graph", "record", "witness"] (defScope s_charge) := ⟨rfl, rfl, rfl, by decide +kernel, rfl, by decide +kernel, by decide +kernel⟩
theorem bd_charge : BindsBy "charge" "charge" s_charge ["graph", "record", "witness"] := fun _ _ _ _ _ _ us hl => match us, hl with | [_, _, _], _ => rfl
theorem ar_charge : ∀ ss Q, g_charge C ss Q → ss.length = 3 := by rintro _ Q ⟨v0, v1, v2, v3, v4, v5, c0, c1, c2, c3, c4, c5, rfl, h⟩; rfl
theorem out_charge : Out (g_charge C) := by
  rintro _ Q ⟨v0, v1, v2, v3, v4, v5, c0, c1, c2, c3, c4, c5, rfl, h⟩
  exact ⟨v0, v1, v2, v3, v4, v5, c0, c1, c2, c3, c4, c5, rfl, by first | exact ⟨h, rfl⟩ | exact fun a => ⟨h a, rfl⟩ | exact fun a b => ⟨h a b, rfl⟩ | exact fun a b c => ⟨h a b c, rfl⟩ | exact fun a b c d => ⟨h a b c d, rfl⟩ | exact fun a b c d e => ⟨h a b c d e, rfl⟩ | exact fun a b c d e f => ⟨h a b c d e f, rfl⟩⟩
theorem body_charge (h_check_record : HasD P w K mg base "check_record" ["graph", "value"] 5 (g_check_record C)) (h_common_parity : HasD P w K mg base "common_parity" ["one", "other"] 1 (g_common_parity C)) (h_is_witness : HasD P w K mg base "is_witness" ["graph", "record"] 6 (g_is_witness C)) : BodyOk P w K mg base N_charge "charge" s_charge 6 (q_charge C) := fun f H0 M0 iol cdv A outer s H E g =>
  (s_cons (s_expr (q_callK g h_check_record (by decide) (a_cons (q_var (pv 0)) (a_cons (q_var (pv 1)) a_nil))))
  (s_cons (s_expr (q_callK g h_check_record (by decide) (a_cons (q_var (pv 0)) (a_cons (q_var (pv 2)) a_nil))))
  (s_cons (s_if (t_not (t_val (q_callK g h_is_witness (by decide) (a_cons (q_var (pv 0)) (a_cons (q_var (pv 2)) a_nil))))) (s_one s_never) s_nil)
  (s_one (s_ret (q_callK g h_common_parity (by decide) (a_cons (q_var (pv 1)) (a_cons (q_var (pv 2)) a_nil))))))))
theorem has_charge (D : DefAt K mg "charge" s_charge) (h_check_record : HasD P w K mg base "check_record" ["graph", "value"] 5 (g_check_record C)) (h_common_parity : HasD P w K mg base "common_parity" ["one", "other"] 1 (g_common_parity C)) (h_is_witness : HasD P w K mg base "is_witness" ["graph", "record"] 6 (g_is_witness C)) : HasD P w K mg base "charge" ["graph", "record", "witness"] 7 (g_charge C) := def_has D sc_charge bd_charge ar_charge out_charge (body_charge h_check_record h_common_parity h_is_witness) (hq_charge C)
/-! law -/
abbrev s_law : Stmt := top 52
abbrev N_law : List Str := ["_law_script", "_law_cell", "_law_source", "_law_names", "_law_edges", "_law_graph_here", "_law_items", "_law_sample_witnesses", "_law_both", "_law_one_here", "_law_other", "_law_later", "_law_sample_witness", "_law_charges_so", "_law_total"]
theorem sc_law : FnScope N_law ["_law_script"] (defScope s_law) := ⟨rfl, rfl, rfl, by decide +kernel, rfl, by decide +kernel, by decide +kernel⟩
theorem bd_law : BindsBy "law" "law" s_law ["_law_script"] := fun _ _ _ _ _ _ us hl => match us, hl with | [_], _ => rfl
theorem ar_law : ∀ ss Q, g_law C ss Q → ss.length = 1 := by rintro _ Q ⟨v0, c0, rfl, h⟩; rfl
theorem out_law : Out (g_law C) := by
  rintro _ Q ⟨v0, c0, rfl, h⟩
  exact ⟨v0, c0, rfl, by first | exact ⟨h, rfl⟩ | exact fun a => ⟨h a, rfl⟩ | exact fun a b => ⟨h a b, rfl⟩ | exact fun a b c => ⟨h a b c, rfl⟩ | exact fun a b c d => ⟨h a b c d, rfl⟩ | exact fun a b c d e => ⟨h a b c d e, rfl⟩ | exact fun a b c d e f => ⟨h a b c d e f, rfl⟩⟩
theorem body_law (n_sum : mg "sum" = none) (h_Graph : HasMk P w K mg base "Graph" C ["self", "vertices", "edges"] 4 (g_Graph C)) (h__law_cell_at : HasD P w K mg base "_law_cell_at" ["_law_script", "_law_k"] 1 (g__law_cell_at C)) (h__law_graph : HasD P w K mg base "_law_graph" ["_law_source", "_law_most"] 3 (g__law_graph C)) (h__law_pairs : HasD P w K mg base "_law_pairs" ["_law_edges"] 1 (g__law_pairs C)) (h__law_some_carries : HasD P w K mg base "_law_some_carries" ["_law_source", "_law_names", "_law_edges"] 3 (g__law_some_carries C)) (h__law_some_witness : HasD P w K mg base "_law_some_witness" ["_law_source", "_law_names", "_law_edges"] 3 (g__law_some_witness C)) (h__law_source_of : HasD P w K mg base "_law_source_of" ["_law_cell"] 1 (g__law_source_of C)) (h__law_subset : HasD P w K mg base "_law_subset" ["_law_source", "_law_items"] 3 (g__law_subset C)) (h__law_toggled : HasD P w K mg base "_law_toggled" ["_law_record", "_law_changed"] 1 (g__law_toggled C)) (h_carried : HasD P w K mg base "carried" ["graph", "record", "carries"] 6 (g_carried C)) (h_charge : HasD P w K mg base "charge" ["graph", "record", "witness"] 7 (g_charge C)) (h_is_witness : HasD P w K mg base "is_witness" ["graph", "record"] 6 (g_is_witness C)) : BodyOk P w K mg base N_law "law" s_law 7 (q_law_k08 C) := fun f H0 M0 iol cdv A outer s H E g =>
  (s_cons (s_for (vs := [1]) PassesOwn.never g (i_any g (q_add g (q_lst (a_cons (q_callK g h__law_cell_at (by decide) (a_cons (q_var (pv 0)) (a_cons q_int a_nil))) a_nil)) (q_sl g (q_var (pv 0)) (o_some q_int) (o_some q_int)))) (g_name (i := 1) g.nd) (s_cons (s_set (i := 2) g (q_callK g h__law_source_of (by decide) (a_cons (q_var (pv 1)) a_nil)))
  (s_cons (s_asg (vs := [3, 4]) (q_callH g h__law_graph (by decide) (l_lend (pv 2) (l_keep q_int l_nil))) (g_tup g (g_cons (g_name (i := 3) g.nd) (g_cons (g_name (i := 4) g.nd) g_nil))))
  (s_cons (s_set (i := 4) g (q_sl g (q_var (pv 4)) o_none (o_some q_int)))
  (s_cons (s_set (i := 5) g (q_makeH g h_Graph (by decide) (a_cons (q_var (pv 3)) (a_cons (q_var (pv 4)) a_nil))))
  (s_cons (s_set (i := 6) g (q_callK g h__law_pairs (by decide) (a_cons (q_var (pv 4)) a_nil)))
  (s_cons (s_set (i := 7) g (q_lst (a_cons (q_callH g h__law_some_witness (by decide) (l_lend (pv 2) (l_keep (q_var (pv 3)) (l_keep (q_var (pv 4)) l_nil)))) (a_cons (q_callH g h__law_some_witness (by decide) (l_lend (pv 2) (l_keep (q_var (pv 3)) (l_keep (q_var (pv 4)) l_nil)))) a_nil))))
  (s_cons (s_set (i := 8) g (q_callK g h__law_toggled (by decide) (a_cons (q_ixU g (q_var (pv 7)) q_int) (a_cons (q_ixU g (q_var (pv 7)) q_int) a_nil))))
  (s_cons (s_asg (vs := [9, 10]) (q_tup (a_cons (q_callH g h__law_subset (by decide) (l_lend (pv 2) (l_keep (q_var (pv 6)) l_nil))) (a_cons (q_callH g h__law_subset (by decide) (l_lend (pv 2) (l_keep (q_var (pv 6)) l_nil))) a_nil))) (g_tup g (g_cons (g_name (i := 9) g.nd) (g_cons (g_name (i := 10) g.nd) g_nil))))
  (s_cons (s_set (i := 11) g (q_callK g h_carried (by decide) (a_cons (q_var (pv 5)) (a_cons (q_var (pv 9)) (a_cons (q_callH g h__law_some_carries (by decide) (l_lend (pv 2) (l_keep (q_var (pv 3)) (l_keep (q_var (pv 4)) l_nil)))) a_nil)))))
  (s_cons (s_setLc (i := 13) (own := [("_law_sample_witness", 12)]) g (sw_true rfl rfl rfl (by decide +kernel)) (i_any g (q_var (pv 7))) (blkOk_by (own := [("_law_sample_witness", 12)]) (N := N_law) (sc := defScope s_law) (by decide +kernel)) (fun _ _ _ _ _ _ _ g => (g_name (i := 12) g.nd)) (fun _ _ _ _ _ _ _ g => t_yes) (fun _ _ _ _ _ _ _ g => (q_callK g h_charge (by decide) (a_cons (q_var (pv 5)) (a_cons (q_var (pv 9)) (a_cons (q_var (pv 12)) a_nil))))))
  (s_cons (s_if (t_cmpQ (c_ne g) (q_lc (own := [("_law_sample_witness", 12)]) g (i_any g (q_var (pv 7))) (blkOk_by (own := [("_law_sample_witness", 12)]) (N := N_law) (sc := defScope s_law) (by decide +kernel)) (fun _ _ _ _ _ _ _ g => (g_name (i := 12) g.nd)) (fun _ _ _ _ _ _ _ g => t_yes) (fun _ _ _ _ _ _ _ g => (q_callK g h_charge (by decide) (a_cons (q_var (pv 5)) (a_cons (q_var (pv 11)) (a_cons (q_var (pv 12)) a_nil)))))) (q_var (pv 13))) (s_one (s_ret q_bl)) s_nil)
  (s_cons (s_if (t_or (t_not (t_val (q_callK g h_is_witness (by decide) (a_cons (q_var (pv 5)) (a_cons (q_var (pv 8)) a_nil))))) (t_or1 (t_cmpQ (c_ne g) (q_callK g h_charge (by decide) (a_cons (q_var (pv 5)) (a_cons (q_var (pv 9)) (a_cons (q_var (pv 8)) a_nil)))) (q_mod (q_sum g n_sum (b_cons (q_var (pv 13)) b_nil)) q_int)))).pt (s_one (s_ret q_bl)) s_nil)
  (s_cons (s_for (vs := [12]) PassesOwn.never g (i_any g (q_add g (q_var (pv 7)) (q_lst (a_cons (q_var (pv 8)) a_nil)))) (g_name (i := 12) g.nd) (s_cons (s_set (i := 14) g (q_add g (q_callK g h_charge (by decide) (a_cons (q_var (pv 5)) (a_cons (q_var (pv 9)) (a_cons (q_var (pv 12)) a_nil)))) (q_callK g h_charge (by decide) (a_cons (q_var (pv 5)) (a_cons (q_var (pv 10)) (a_cons (q_var (pv 12)) a_nil))))))
  (s_one (s_if (t_cmpQ (c_ne g) (q_callK g h_charge (by decide) (a_cons (q_var (pv 5)) (a_cons (q_callK g h__law_toggled (by decide) (a_cons (q_var (pv 9)) (a_cons (q_var (pv 10)) a_nil))) (a_cons (q_var (pv 12)) a_nil)))) (q_mod (q_var (pv 14)) q_int)) (s_one (s_ret q_bl)) s_nil))))
  (s_one (s_if (t_cmpQ (c_ne g) (q_callK g h_is_witness (by decide) (a_cons (q_var (pv 5)) (a_cons (q_callK g h__law_toggled (by decide) (a_cons (q_var (pv 9)) (a_cons (q_var (pv 8)) a_nil))) a_nil))) (q_callK g h_is_witness (by decide) (a_cons (q_var (pv 5)) (a_cons (q_var (pv 9)) a_nil)))) (s_one (s_ret q_bl)) s_nil))))))))))))))))
  (s_one (s_ret q_bl)))
theorem fn_law {f : Addr} {fd : FuncData} (F : Fun K "law" "law" s_law f fd) (n_sum : mg "sum" = none) (h_Graph : HasMk P w K mg base "Graph" C ["self", "vertices", "edges"] 4 (g_Graph C)) (h__law_cell_at : HasD P w K mg base "_law_cell_at" ["_law_script", "_law_k"] 1 (g__law_cell_at C)) (h__law_graph : HasD P w K mg base "_law_graph" ["_law_source", "_law_most"] 3 (g__law_graph C)) (h__law_pairs : HasD P w K mg base "_law_pairs" ["_law_edges"] 1 (g__law_pairs C)) (h__law_some_carries : HasD P w K mg base "_law_some_carries" ["_law_source", "_law_names", "_law_edges"] 3 (g__law_some_carries C)) (h__law_some_witness : HasD P w K mg base "_law_some_witness" ["_law_source", "_law_names", "_law_edges"] 3 (g__law_some_witness C)) (h__law_source_of : HasD P w K mg base "_law_source_of" ["_law_cell"] 1 (g__law_source_of C)) (h__law_subset : HasD P w K mg base "_law_subset" ["_law_source", "_law_items"] 3 (g__law_subset C)) (h__law_toggled : HasD P w K mg base "_law_toggled" ["_law_record", "_law_changed"] 1 (g__law_toggled C)) (h_carried : HasD P w K mg base "carried" ["graph", "record", "carries"] 6 (g_carried C)) (h_charge : HasD P w K mg base "charge" ["graph", "record", "witness"] 7 (g_charge C)) (h_is_witness : HasD P w K mg base "is_witness" ["graph", "record"] 6 (g_is_witness C)) : FnOk P w K mg base CX0 8 f fd ["_law_script"] (spP ⟨P, w, K⟩ (g_law C)) := body_fn F sc_law ar_law (body_law n_sum h_Graph h__law_cell_at h__law_graph h__law_pairs h__law_some_carries h__law_some_witness h__law_source_of h__law_subset h__law_toggled h_carried h_charge h_is_witness) (hq_law_k08 C)
end CP
/-! How a law is called. -/
namespace CP
open PySem PySem.Spec PyProof.Rows L2
def gLaw : PG1 := fun ss Q => ∃ xs : List Int, xs.length ≤ 63 ∧ ss = [.val (.scr (xs.map .int))] ∧ Q (.sh (.bl true)) ss
theorem rep_ints {G : En} {H : Hp} {M : Addr → Prop} : ∀ ns : List Int, RepAll G H M (ns.map V.int) (ns.map PV.int)
  | [] => .nil
  | n :: ns => .cons (.int n) (rep_ints ns)
theorem law_in {P : Program} {w : World} {K : PySem.W.Frag} {H : Hp} {a : Addr} {ns : List Int} (hl : ns.length ≤ 63) (hS : SqL K H a (ns.map V.int)) : spP ⟨P, w, K⟩ gLaw [.ref a] H (fun v _ => v = .bl true) fun _ _ _ => False := by
  refine ⟨[.val (.scr (ns.map .int))], fun _ => False, fun r _ => r = .sh (.bl true), .val (.scr (hS.elim (fun q => .inl ⟨q, fun z => z⟩) .inr) (rep_ints ns)) .nil, ?_, fun a z => z.elim, ⟨ns, hl, rfl, rfl⟩, ?_⟩
  · rintro i j b ⟨_, p, h⟩ _
    cases i with
    | zero => cases h
    | succ i => cases h
  · rintro r ss' rfl v H' M' E
    have h : Rep ⟨P, w, K⟩ H' M' v (.bl true) := E.res
    cases h
    rfl
end CP
namespace CP
open PySem L2
theorem all_mk {l : PySem.W.OpenLaw} {w : World} {K : PySem.W.Frag} {h : Heap} {mg : Str → Option Value} {fa C f0 f1 f2 f3 f4 f5 f6 f7 f8 f9 f10 f11 f12 f13 f14 f15 f16 f17 f18 f19 f20 f21 f22 f23 f24 f25 f26 f27 f28 f29 f30 f31 f32 f33 f34 f35 f36 f37 f38 : Addr} (X : K.In h) (G : h.Ns mainGlobals mg) (hfa : mg "law" = some (.ref fa))
    {od0 an0 od1 an1 od2 an2 od3 an3 od4 an4 od5 an5 od6 an6 od7 an7 od8 an8 od9 an9 od10 an10 od11 an11 od12 an12 od13 an13 od14 an14 od15 an15 od16 an16 od17 an17 od18 an18 od19 an19 od20 an20 od21 an21 od22 an22 od23 an23 od24 an24 od25 an25 od26 an26 od27 an27 od28 an28 od29 an29 od30 an30 od31 an31 od32 an32 od33 an33 od34 an34 od35 an35 od36 an36 od37 an37 od38 an38 : Option Addr} {sl0 sl1 sl2 sl3 sl4 sl5 sl6 sl7 sl8 sl9 sl10 sl11 sl12 sl13 sl14 sl15 sl16 sl17 sl18 sl19 sl20 sl21 sl22 sl23 sl24 sl25 sl26 sl27 sl28 sl29 sl30 sl31 sl32 sl33 sl34 sl35 sl36 sl37 sl38 : Array (Option Value)} {oc0 kV0 dc0 pm0 cd0 ct0 oc1 kV1 dc1 pm1 cd1 ct1 oc2 kV2 dc2 pm2 cd2 ct2 oc3 kV3 dc3 pm3 cd3 ct3 oc4 kV4 dc4 pm4 cd4 ct4 oc5 kV5 dc5 pm5 cd5 ct5 oc6 kV6 dc6 pm6 cd6 ct6 oc7 kV7 dc7 pm7 cd7 ct7 oc8 kV8 dc8 pm8 cd8 ct8 oc9 kV9 dc9 pm9 cd9 ct9 oc10 kV10 dc10 pm10 cd10 ct10 oc11 kV11 dc11 pm11 cd11 ct11 oc12 kV12 dc12 pm12 cd12 ct12 oc13 kV13 dc13 pm13 cd13 ct13 oc14 kV14 dc14 pm14 cd14 ct14 oc15 kV15 dc15 pm15 cd15 ct15 oc16 kV16 dc16 pm16 cd16 ct16 oc17 kV17 dc17 pm17 cd17 ct17 oc18 kV18 dc18 pm18 cd18 ct18 oc19 kV19 dc19 pm19 cd19 ct19 oc20 kV20 dc20 pm20 cd20 ct20 oc21 kV21 dc21 pm21 cd21 ct21 oc22 kV22 dc22 pm22 cd22 ct22 oc23 kV23 dc23 pm23 cd23 ct23 oc24 kV24 dc24 pm24 cd24 ct24 oc25 kV25 dc25 pm25 cd25 ct25 oc26 kV26 dc26 pm26 cd26 ct26 oc27 kV27 dc27 pm27 cd27 ct27 oc28 kV28 dc28 pm28 cd28 ct28 oc29 kV29 dc29 pm29 cd29 ct29 oc30 kV30 dc30 pm30 cd30 ct30 oc31 kV31 dc31 pm31 cd31 ct31 oc32 kV32 dc32 pm32 cd32 ct32 oc33 kV33 dc33 pm33 cd33 ct33 oc34 kV34 dc34 pm34 cd34 ct34 oc35 kV35 dc35 pm35 cd35 ct35 oc36 kV36 dc36 pm36 cd36 ct36 oc37 kV37 dc37 pm37 cd37 ct37 oc38 kV38 dc38 pm38 cd38 ct38 : Value} {t0 t1 t2 t3 : Tok}
    (aC : PySem.W.nsIn K mainGlobals "Graph" = some (some (.ref C)))
    (a0 : PySem.W.nsIn K mainGlobals "is_row" = some (some (.ref f0)))
    (l0 : K.lookup f0 = some ⟨oc0, od0, .func (PySem.W.fnOf "is_row" "is_row" (defArgs s_is_row) (defBody s_is_row) (defScope s_is_row) .none kV0 dc0 pm0 an0 cd0 ct0), sl0⟩)
    (c0 : PySem.W.codeIn K cd0 "is_row" = true)
    (k0 : PySem.W.keepIn K (.ref f0) = true)
    (a1 : PySem.W.nsIn K mainGlobals "is_among" = some (some (.ref f1)))
    (l1 : K.lookup f1 = some ⟨oc1, od1, .func (PySem.W.fnOf "is_among" "is_among" (defArgs s_is_among) (defBody s_is_among) (defScope s_is_among) .none kV1 dc1 pm1 an1 cd1 ct1), sl1⟩)
    (c1 : PySem.W.codeIn K cd1 "is_among" = true)
    (k1 : PySem.W.keepIn K (.ref f1) = true)
    (a2 : PySem.W.nsIn K mainGlobals "is_couple" = some (some (.ref f2)))
    (l2 : K.lookup f2 = some ⟨oc2, od2, .func (PySem.W.fnOf "is_couple" "is_couple" (defArgs s_is_couple) (defBody s_is_couple) (defScope s_is_couple) .none kV2 dc2 pm2 an2 cd2 ct2), sl2⟩)
    (c2 : PySem.W.codeIn K cd2 "is_couple" = true)
    (k2 : PySem.W.keepIn K (.ref f2) = true)
    (a3 : PySem.W.nsIn K mainGlobals "joins" = some (some (.ref f3)))
    (l3 : K.lookup f3 = some ⟨oc3, od3, .func (PySem.W.fnOf "joins" "joins" (defArgs s_joins) (defBody s_joins) (defScope s_joins) .none kV3 dc3 pm3 an3 cd3 ct3), sl3⟩)
    (c3 : PySem.W.codeIn K cd3 "joins" = true)
    (k3 : PySem.W.keepIn K (.ref f3) = true)
    (a4 : PySem.W.nsIn K mainGlobals "are_edges" = some (some (.ref f4)))
    (l4 : K.lookup f4 = some ⟨oc4, od4, .func (PySem.W.fnOf "are_edges" "are_edges" (defArgs s_are_edges) (defBody s_are_edges) (defScope s_are_edges) .none kV4 dc4 pm4 an4 cd4 ct4), sl4⟩)
    (c4 : PySem.W.codeIn K cd4 "are_edges" = true)
    (k4 : PySem.W.keepIn K (.ref f4) = true)
    (a5 : PySem.W.nsIn K mainGlobals "is_name" = some (some (.ref f5)))
    (l5 : K.lookup f5 = some ⟨oc5, od5, .func (PySem.W.fnOf "is_name" "is_name" (defArgs s_is_name) (defBody s_is_name) (defScope s_is_name) .none kV5 dc5 pm5 an5 cd5 ct5), sl5⟩)
    (c5 : PySem.W.codeIn K cd5 "is_name" = true)
    (k5 : PySem.W.keepIn K (.ref f5) = true)
    (a6 : PySem.W.nsIn K mainGlobals "are_vertices" = some (some (.ref f6)))
    (l6 : K.lookup f6 = some ⟨oc6, od6, .func (PySem.W.fnOf "are_vertices" "are_vertices" (defArgs s_are_vertices) (defBody s_are_vertices) (defScope s_are_vertices) .none kV6 dc6 pm6 an6 cd6 ct6), sl6⟩)
    (c6 : PySem.W.codeIn K cd6 "are_vertices" = true)
    (k6 : PySem.W.keepIn K (.ref f6) = true)
    (a7 : PySem.W.findIn K (.ref C) "__init__" = some (some (.ref f7)))
    (i7 : PySem.W.isFn K (.ref f7) = true)
    (l7 : K.lookup f7 = some ⟨oc7, od7, .func (PySem.W.fnOf "__init__" "Graph.__init__" (defArgs s_Graph) (defBody s_Graph) (defScope s_Graph) .none kV7 dc7 pm7 an7 cd7 ct7), sl7⟩)
    (c7 : PySem.W.codeIn K cd7 "Graph.__init__" = true)
    (k7 : PySem.W.keepIn K (.ref f7) = true)
    (a8 : PySem.W.nsIn K mainGlobals "_law_cell_at" = some (some (.ref f8)))
    (l8 : K.lookup f8 = some ⟨oc8, od8, .func (PySem.W.fnOf "_law_cell_at" "_law_cell_at" (defArgs s__law_cell_at) (defBody s__law_cell_at) (defScope s__law_cell_at) .none kV8 dc8 pm8 an8 cd8 ct8), sl8⟩)
    (c8 : PySem.W.codeIn K cd8 "_law_cell_at" = true)
    (k8 : PySem.W.keepIn K (.ref f8) = true)
    (a9 : PySem.W.nsIn K mainGlobals "_law_next" = some (some (.ref f9)))
    (l9 : K.lookup f9 = some ⟨oc9, od9, .func (PySem.W.fnOf "_law_next" "_law_next" (defArgs s__law_next) (defBody s__law_next) (defScope s__law_next) .none kV9 dc9 pm9 an9 cd9 ct9), sl9⟩)
    (c9 : PySem.W.codeIn K cd9 "_law_next" = true)
    (k9 : PySem.W.keepIn K (.ref f9) = true)
    (a10 : PySem.W.nsIn K mainGlobals "_law_mixed" = some (some (.ref f10)))
    (l10 : K.lookup f10 = some ⟨oc10, od10, .func (PySem.W.fnOf "_law_mixed" "_law_mixed" (defArgs s__law_mixed) (defBody s__law_mixed) (defScope s__law_mixed) .none kV10 dc10 pm10 an10 cd10 ct10), sl10⟩)
    (c10 : PySem.W.codeIn K cd10 "_law_mixed" = true)
    (k10 : PySem.W.keepIn K (.ref f10) = true)
    (a11 : PySem.W.nsIn K mainGlobals "_law_one" = some (some (.ref f11)))
    (l11 : K.lookup f11 = some ⟨oc11, od11, .func (PySem.W.fnOf "_law_one" "_law_one" (defArgs s__law_one) (defBody s__law_one) (defScope s__law_one) .none kV11 dc11 pm11 an11 cd11 ct11), sl11⟩)
    (c11 : PySem.W.codeIn K cd11 "_law_one" = true)
    (k11 : PySem.W.keepIn K (.ref f11) = true)
    (a12 : PySem.W.nsIn K mainGlobals "_law_graph" = some (some (.ref f12)))
    (l12 : K.lookup f12 = some ⟨oc12, od12, .func (PySem.W.fnOf "_law_graph" "_law_graph" (defArgs s__law_graph) (defBody s__law_graph) (defScope s__law_graph) .none kV12 dc12 pm12 an12 cd12 ct12), sl12⟩)
    (c12 : PySem.W.codeIn K cd12 "_law_graph" = true)
    (k12 : PySem.W.keepIn K (.ref f12) = true)
    (a13 : PySem.W.nsIn K mainGlobals "_law_pairs" = some (some (.ref f13)))
    (l13 : K.lookup f13 = some ⟨oc13, od13, .func (PySem.W.fnOf "_law_pairs" "_law_pairs" (defArgs s__law_pairs) (defBody s__law_pairs) (defScope s__law_pairs) .none kV13 dc13 pm13 an13 cd13 ct13), sl13⟩)
    (c13 : PySem.W.codeIn K cd13 "_law_pairs" = true)
    (k13 : PySem.W.keepIn K (.ref f13) = true)
    (a14 : PySem.W.nsIn K mainGlobals "_law_carries" = some (some (.ref f14)))
    (l14 : K.lookup f14 = some ⟨oc14, od14, .func (PySem.W.fnOf "_law_carries" "_law_carries" (defArgs s__law_carries) (defBody s__law_carries) (defScope s__law_carries) .none kV14 dc14 pm14 an14 cd14 ct14), sl14⟩)
    (c14 : PySem.W.codeIn K cd14 "_law_carries" = true)
    (k14 : PySem.W.keepIn K (.ref f14) = true)
    (a15 : PySem.W.nsIn K mainGlobals "_law_some_carries" = some (some (.ref f15)))
    (l15 : K.lookup f15 = some ⟨oc15, od15, .func (PySem.W.fnOf "_law_some_carries" "_law_some_carries" (defArgs s__law_some_carries) (defBody s__law_some_carries) (defScope s__law_some_carries) .none kV15 dc15 pm15 an15 cd15 ct15), sl15⟩)
    (c15 : PySem.W.codeIn K cd15 "_law_some_carries" = true)
    (k15 : PySem.W.keepIn K (.ref f15) = true)
    (a16 : PySem.W.nsIn K mainGlobals "_law_odd" = some (some (.ref f16)))
    (l16 : K.lookup f16 = some ⟨oc16, od16, .func (PySem.W.fnOf "_law_odd" "_law_odd" (defArgs s__law_odd) (defBody s__law_odd) (defScope s__law_odd) .none kV16 dc16 pm16 an16 cd16 ct16), sl16⟩)
    (c16 : PySem.W.codeIn K cd16 "_law_odd" = true)
    (k16 : PySem.W.keepIn K (.ref f16) = true)
    (a17 : PySem.W.nsIn K mainGlobals "_law_even_sets" = some (some (.ref f17)))
    (l17 : K.lookup f17 = some ⟨oc17, od17, .func (PySem.W.fnOf "_law_even_sets" "_law_even_sets" (defArgs s__law_even_sets) (defBody s__law_even_sets) (defScope s__law_even_sets) .none kV17 dc17 pm17 an17 cd17 ct17), sl17⟩)
    (c17 : PySem.W.codeIn K cd17 "_law_even_sets" = true)
    (k17 : PySem.W.keepIn K (.ref f17) = true)
    (a18 : PySem.W.nsIn K mainGlobals "_law_bits" = some (some (.ref f18)))
    (l18 : K.lookup f18 = some ⟨oc18, od18, .func (PySem.W.fnOf "_law_bits" "_law_bits" (defArgs s__law_bits) (defBody s__law_bits) (defScope s__law_bits) .none kV18 dc18 pm18 an18 cd18 ct18), sl18⟩)
    (c18 : PySem.W.codeIn K cd18 "_law_bits" = true)
    (k18 : PySem.W.keepIn K (.ref f18) = true)
    (a19 : PySem.W.nsIn K mainGlobals "_law_flips" = some (some (.ref f19)))
    (l19 : K.lookup f19 = some ⟨oc19, od19, .func (PySem.W.fnOf "_law_flips" "_law_flips" (defArgs s__law_flips) (defBody s__law_flips) (defScope s__law_flips) .none kV19 dc19 pm19 an19 cd19 ct19), sl19⟩)
    (c19 : PySem.W.codeIn K cd19 "_law_flips" = true)
    (k19 : PySem.W.keepIn K (.ref f19) = true)
    (a20 : PySem.W.nsIn K mainGlobals "_law_rows" = some (some (.ref f20)))
    (l20 : K.lookup f20 = some ⟨oc20, od20, .func (PySem.W.fnOf "_law_rows" "_law_rows" (defArgs s__law_rows) (defBody s__law_rows) (defScope s__law_rows) .none kV20 dc20 pm20 an20 cd20 ct20), sl20⟩)
    (c20 : PySem.W.codeIn K cd20 "_law_rows" = true)
    (k20 : PySem.W.keepIn K (.ref f20) = true)
    (a21 : PySem.W.nsIn K mainGlobals "_law_some_witness" = some (some (.ref f21)))
    (l21 : K.lookup f21 = some ⟨oc21, od21, .func (PySem.W.fnOf "_law_some_witness" "_law_some_witness" (defArgs s__law_some_witness) (defBody s__law_some_witness) (defScope s__law_some_witness) .none kV21 dc21 pm21 an21 cd21 ct21), sl21⟩)
    (c21 : PySem.W.codeIn K cd21 "_law_some_witness" = true)
    (k21 : PySem.W.keepIn K (.ref f21) = true)
    (a22 : PySem.W.nsIn K mainGlobals "_law_source_of" = some (some (.ref f22)))
    (l22 : K.lookup f22 = some ⟨oc22, od22, .func (PySem.W.fnOf "_law_source_of" "_law_source_of" (defArgs s__law_source_of) (defBody s__law_source_of) (defScope s__law_source_of) .none kV22 dc22 pm22 an22 cd22 ct22), sl22⟩)
    (c22 : PySem.W.codeIn K cd22 "_law_source_of" = true)
    (k22 : PySem.W.keepIn K (.ref f22) = true)
    (a23 : PySem.W.nsIn K mainGlobals "_law_subset" = some (some (.ref f23)))
    (l23 : K.lookup f23 = some ⟨oc23, od23, .func (PySem.W.fnOf "_law_subset" "_law_subset" (defArgs s__law_subset) (defBody s__law_subset) (defScope s__law_subset) .none kV23 dc23 pm23 an23 cd23 ct23), sl23⟩)
    (c23 : PySem.W.codeIn K cd23 "_law_subset" = true)
    (k23 : PySem.W.keepIn K (.ref f23) = true)
    (a24 : PySem.W.nsIn K mainGlobals "_law_toggled" = some (some (.ref f24)))
    (l24 : K.lookup f24 = some ⟨oc24, od24, .func (PySem.W.fnOf "_law_toggled" "_law_toggled" (defArgs s__law_toggled) (defBody s__law_toggled) (defScope s__law_toggled) .none kV24 dc24 pm24 an24 cd24 ct24), sl24⟩)
    (c24 : PySem.W.codeIn K cd24 "_law_toggled" = true)
    (k24 : PySem.W.keepIn K (.ref f24) = true)
    (a25 : PySem.W.nsIn K mainGlobals "is_edge" = some (some (.ref f25)))
    (l25 : K.lookup f25 = some ⟨oc25, od25, .func (PySem.W.fnOf "is_edge" "is_edge" (defArgs s_is_edge) (defBody s_is_edge) (defScope s_is_edge) .none kV25 dc25 pm25 an25 cd25 ct25), sl25⟩)
    (c25 : PySem.W.codeIn K cd25 "is_edge" = true)
    (k25 : PySem.W.keepIn K (.ref f25) = true)
    (a26 : PySem.W.nsIn K mainGlobals "is_carry" = some (some (.ref f26)))
    (l26 : K.lookup f26 = some ⟨oc26, od26, .func (PySem.W.fnOf "is_carry" "is_carry" (defArgs s_is_carry) (defBody s_is_carry) (defScope s_is_carry) .none kV26 dc26 pm26 an26 cd26 ct26), sl26⟩)
    (c26 : PySem.W.codeIn K cd26 "is_carry" = true)
    (k26 : PySem.W.keepIn K (.ref f26) = true)
    (a27 : PySem.W.nsIn K mainGlobals "check_carries" = some (some (.ref f27)))
    (l27 : K.lookup f27 = some ⟨oc27, od27, .func (PySem.W.fnOf "check_carries" "check_carries" (defArgs s_check_carries) (defBody s_check_carries) (defScope s_check_carries) .none kV27 dc27 pm27 an27 cd27 ct27), sl27⟩)
    (c27 : PySem.W.codeIn K cd27 "check_carries" = true)
    (k27 : PySem.W.keepIn K (.ref f27) = true)
    (a28 : PySem.W.nsIn K mainGlobals "are_apart" = some (some (.ref f28)))
    (l28 : K.lookup f28 = some ⟨oc28, od28, .func (PySem.W.fnOf "are_apart" "are_apart" (defArgs s_are_apart) (defBody s_are_apart) (defScope s_are_apart) .none kV28 dc28 pm28 an28 cd28 ct28), sl28⟩)
    (c28 : PySem.W.codeIn K cd28 "are_apart" = true)
    (k28 : PySem.W.keepIn K (.ref f28) = true)
    (a29 : PySem.W.nsIn K mainGlobals "is_pair" = some (some (.ref f29)))
    (l29 : K.lookup f29 = some ⟨oc29, od29, .func (PySem.W.fnOf "is_pair" "is_pair" (defArgs s_is_pair) (defBody s_is_pair) (defScope s_is_pair) .none kV29 dc29 pm29 an29 cd29 ct29), sl29⟩)
    (c29 : PySem.W.codeIn K cd29 "is_pair" = true)
    (k29 : PySem.W.keepIn K (.ref f29) = true)
    (a30 : PySem.W.nsIn K mainGlobals "check_record" = some (some (.ref f30)))
    (l30 : K.lookup f30 = some ⟨oc30, od30, .func (PySem.W.fnOf "check_record" "check_record" (defArgs s_check_record) (defBody s_check_record) (defScope s_check_record) .none kV30 dc30 pm30 an30 cd30 ct30), sl30⟩)
    (c30 : PySem.W.codeIn K cd30 "check_record" = true)
    (k30 : PySem.W.keepIn K (.ref f30) = true)
    (a31 : PySem.W.nsIn K mainGlobals "flips_of" = some (some (.ref f31)))
    (l31 : K.lookup f31 = some ⟨oc31, od31, .func (PySem.W.fnOf "flips_of" "flips_of" (defArgs s_flips_of) (defBody s_flips_of) (defScope s_flips_of) .none kV31 dc31 pm31 an31 cd31 ct31), sl31⟩)
    (c31 : PySem.W.codeIn K cd31 "flips_of" = true)
    (k31 : PySem.W.keepIn K (.ref f31) = true)
    (a32 : PySem.W.nsIn K mainGlobals "pairs" = some (some (.ref f32)))
    (l32 : K.lookup f32 = some ⟨oc32, od32, .func (PySem.W.fnOf "pairs" "pairs" (defArgs s_pairs) (defBody s_pairs) (defScope s_pairs) .none kV32 dc32 pm32 an32 cd32 ct32), sl32⟩)
    (c32 : PySem.W.codeIn K cd32 "pairs" = true)
    (k32 : PySem.W.keepIn K (.ref f32) = true)
    (a33 : PySem.W.nsIn K mainGlobals "carried" = some (some (.ref f33)))
    (l33 : K.lookup f33 = some ⟨oc33, od33, .func (PySem.W.fnOf "carried" "carried" (defArgs s_carried) (defBody s_carried) (defScope s_carried) .none kV33 dc33 pm33 an33 cd33 ct33), sl33⟩)
    (c33 : PySem.W.codeIn K cd33 "carried" = true)
    (k33 : PySem.W.keepIn K (.ref f33) = true)
    (a34 : PySem.W.nsIn K mainGlobals "common_parity" = some (some (.ref f34)))
    (l34 : K.lookup f34 = some ⟨oc34, od34, .func (PySem.W.fnOf "common_parity" "common_parity" (defArgs s_common_parity) (defBody s_common_parity) (defScope s_common_parity) .none kV34 dc34 pm34 an34 cd34 ct34), sl34⟩)
    (c34 : PySem.W.codeIn K cd34 "common_parity" = true)
    (k34 : PySem.W.keepIn K (.ref f34) = true)
    (a35 : PySem.W.nsIn K mainGlobals "every_carry" = some (some (.ref f35)))
    (l35 : K.lookup f35 = some ⟨oc35, od35, .func (PySem.W.fnOf "every_carry" "every_carry" (defArgs s_every_carry) (defBody s_every_carry) (defScope s_every_carry) .none kV35 dc35 pm35 an35 cd35 ct35), sl35⟩)
    (c35 : PySem.W.codeIn K cd35 "every_carry" = true)
    (k35 : PySem.W.keepIn K (.ref f35) = true)
    (a36 : PySem.W.nsIn K mainGlobals "is_witness" = some (some (.ref f36)))
    (l36 : K.lookup f36 = some ⟨oc36, od36, .func (PySem.W.fnOf "is_witness" "is_witness" (defArgs s_is_witness) (defBody s_is_witness) (defScope s_is_witness) .none kV36 dc36 pm36 an36 cd36 ct36), sl36⟩)
    (c36 : PySem.W.codeIn K cd36 "is_witness" = true)
    (k36 : PySem.W.keepIn K (.ref f36) = true)
    (a37 : PySem.W.nsIn K mainGlobals "charge" = some (some (.ref f37)))
    (l37 : K.lookup f37 = some ⟨oc37, od37, .func (PySem.W.fnOf "charge" "charge" (defArgs s_charge) (defBody s_charge) (defScope s_charge) .none kV37 dc37 pm37 an37 cd37 ct37), sl37⟩)
    (c37 : PySem.W.codeIn K cd37 "charge" = true)
    (k37 : PySem.W.keepIn K (.ref f37) = true)
    (a38 : PySem.W.nsIn K mainGlobals "law" = some (some (.ref f38)))
    (l38 : K.lookup f38 = some ⟨oc38, od38, .func (PySem.W.fnOf "law" "law" (defArgs s_law) (defBody s_law) (defScope s_law) .none kV38 dc38 pm38 an38 cd38 ct38), sl38⟩)
    (c38 : PySem.W.codeIn K cd38 "law" = true)
    (k38 : PySem.W.keepIn K (.ref f38) = true)
    (pgC : PySem.W.plainGet K C Str.empty = true)
    (hdC : PySem.W.hasDictIn K C = true)
    (poC : PySem.W.plainOver K C = true)
    (saC : PySem.W.findIn K (.ref C) "__setattr__" = some (some (.builtin "object.__setattr__")))
    (mkC : PySem.W.makesIn K C = true)
    (kcC : PySem.W.keepIn K (.ref C) = true)
    (nA_edges : PySem.W.findIn K (.ref C) "edges" = some none)
    (nA_vertices : PySem.W.findIn K (.ref C) "vertices" = some none)
    (z_all : PySem.W.nsIn K mainGlobals "all" = some none)
    (z_enumerate : PySem.W.nsIn K mainGlobals "enumerate" = some none)
    (z_int : PySem.W.nsIn K mainGlobals "int" = some none)
    (z_isinstance : PySem.W.nsIn K mainGlobals "isinstance" = some none)
    (z_len : PySem.W.nsIn K mainGlobals "len" = some none)
    (z_list : PySem.W.nsIn K mainGlobals "list" = some none)
    (z_max : PySem.W.nsIn K mainGlobals "max" = some none)
    (z_min : PySem.W.nsIn K mainGlobals "min" = some none)
    (z_range : PySem.W.nsIn K mainGlobals "range" = some none)
    (z_set : PySem.W.nsIn K mainGlobals "set" = some none)
    (z_sorted : PySem.W.nsIn K mainGlobals "sorted" = some none)
    (z_str : PySem.W.nsIn K mainGlobals "str" = some none)
    (z_sum : PySem.W.nsIn K mainGlobals "sum" = some none)
    (z_tuple : PySem.W.nsIn K mainGlobals "tuple" = some none)
    (z_zip : PySem.W.nsIn K mainGlobals "zip" = some none)
    (y_LETTERS : PySem.W.nsIn K mainGlobals "LETTERS" = some (some (.str v_LETTERS t0)))
    (y_LONGEST_NAME : PySem.W.nsIn K mainGlobals "LONGEST_NAME" = some (some (.int 8 t1)))
    (y_MOST_EDGES : PySem.W.nsIn K mainGlobals "MOST_EDGES" = some (some (.int 18 t2)))
    (y_MOST_VERTICES : PySem.W.nsIn K mainGlobals "MOST_VERTICES" = some (some (.int 8 t3))) :
    ∃ fd : FuncData, (∀ (s : Shared) (v : Value), BindsTo s fd ⟨[v], []⟩ [("_law_script", v)]) ∧ ∀ base : Heap, K.In base → base.Ns mainGlobals mg → FnOk l.prog w K mg base CX0 8 fa fd ["_law_script"] (spP ⟨l.prog, w, K⟩ gLaw) := by
  have e := hfa.symm.trans (PySem.W.mg_of X G a38)
  cases e
  have cls : Cls K C := ⟨pgC, hdC, poC, saC⟩
  have na_edges : NoAttr K C "edges" := nA_edges
  have na_vertices : NoAttr K C "vertices" := nA_vertices
  have n_all := PySem.W.mg_none_of X G z_all
  have n_enumerate := PySem.W.mg_none_of X G z_enumerate
  have n_int := PySem.W.mg_none_of X G z_int
  have n_isinstance := PySem.W.mg_none_of X G z_isinstance
  have n_len := PySem.W.mg_none_of X G z_len
  have n_list := PySem.W.mg_none_of X G z_list
  have n_max := PySem.W.mg_none_of X G z_max
  have n_min := PySem.W.mg_none_of X G z_min
  have n_range := PySem.W.mg_none_of X G z_range
  have n_set := PySem.W.mg_none_of X G z_set
  have n_sorted := PySem.W.mg_none_of X G z_sorted
  have n_str := PySem.W.mg_none_of X G z_str
  have n_sum := PySem.W.mg_none_of X G z_sum
  have n_tuple := PySem.W.mg_none_of X G z_tuple
  have n_zip := PySem.W.mg_none_of X G z_zip
  have x_LETTERS := PySem.W.mg_of X G y_LETTERS
  have x_LONGEST_NAME := PySem.W.mg_of X G y_LONGEST_NAME
  have x_MOST_EDGES := PySem.W.mg_of X G y_MOST_EDGES
  have x_MOST_VERTICES := PySem.W.mg_of X G y_MOST_VERTICES
  refine ⟨PySem.W.fnOf "law" "law" (defArgs s_law) (defBody s_law) (defScope s_law) .none kV38 dc38 pm38 an38 cd38 ct38, fun s v => .of_eq rfl, fun base _ _ => ?_⟩
  have h_is_row : HasD l.prog w K mg base "is_row" ["value"] 1 (g_is_row C) := has_is_row ⟨_, _, fun_mk (st := s_is_row) l0 c0 k0, PySem.W.mg_of X G a0⟩ n_isinstance n_list n_tuple
  have h_is_among : HasD l.prog w K mg base "is_among" ["vertices", "value"] 1 (g_is_among C) := has_is_among ⟨_, _, fun_mk (st := s_is_among) l1 c1 k1, PySem.W.mg_of X G a1⟩ n_isinstance n_str
  have h_is_couple : HasD l.prog w K mg base "is_couple" ["value"] 1 (g_is_couple C) := has_is_couple ⟨_, _, fun_mk (st := s_is_couple) l2 c2 k2, PySem.W.mg_of X G a2⟩ n_isinstance n_len n_tuple
  have h_joins : HasD l.prog w K mg base "joins" ["vertices", "value"] 2 (g_joins C) := has_joins ⟨_, _, fun_mk (st := s_joins) l3 c3 k3, PySem.W.mg_of X G a3⟩ h_is_among h_is_couple
  have h_are_edges : HasD l.prog w K mg base "are_edges" ["vertices", "value"] 3 (g_are_edges C) := has_are_edges ⟨_, _, fun_mk (st := s_are_edges) l4 c4 k4, PySem.W.mg_of X G a4⟩ n_all n_len n_set ⟨_, x_MOST_EDGES⟩ h_is_row h_joins
  have h_is_name : HasD l.prog w K mg base "is_name" ["value"] 1 (g_is_name C) := has_is_name ⟨_, _, fun_mk (st := s_is_name) l5 c5 k5, PySem.W.mg_of X G a5⟩ n_all n_isinstance n_len n_str ⟨_, x_LETTERS⟩ ⟨_, x_LONGEST_NAME⟩
  have h_are_vertices : HasD l.prog w K mg base "are_vertices" ["value"] 2 (g_are_vertices C) := has_are_vertices ⟨_, _, fun_mk (st := s_are_vertices) l6 c6 k6, PySem.W.mg_of X G a6⟩ n_all n_len n_set ⟨_, x_MOST_VERTICES⟩ h_is_name h_is_row
  have h_Graph : HasMk l.prog w K mg base "Graph" C ["self", "vertices", "edges"] 4 (g_Graph C) := has_Graph ⟨_, _, fun_mk (st := s_Graph) l7 c7 k7, ⟨mkC, a7, i7, kcC⟩⟩ (PySem.W.mg_of X G aC) n_sorted n_tuple cls na_edges na_vertices h_are_edges h_are_vertices
  have h__law_cell_at : HasD l.prog w K mg base "_law_cell_at" ["_law_script", "_law_k"] 1 (g__law_cell_at C) := has__law_cell_at ⟨_, _, fun_mk (st := s__law_cell_at) l8 c8 k8, PySem.W.mg_of X G a8⟩ n_len
  have h__law_next : HasD l.prog w K mg base "_law_next" ["_law_source", "_law_many"] 1 (g__law_next C) := has__law_next ⟨_, _, fun_mk (st := s__law_next) l9 c9 k9, PySem.W.mg_of X G a9⟩ 
  have h__law_mixed : HasD l.prog w K mg base "_law_mixed" ["_law_source", "_law_some"] 2 (g__law_mixed C) := has__law_mixed ⟨_, _, fun_mk (st := s__law_mixed) l10 c10 k10, PySem.W.mg_of X G a10⟩ n_len n_list h__law_next
  have h__law_one : HasD l.prog w K mg base "_law_one" ["_law_source", "_law_some"] 2 (g__law_one C) := has__law_one ⟨_, _, fun_mk (st := s__law_one) l11 c11 k11, PySem.W.mg_of X G a11⟩ n_len h__law_next
  have h__law_graph : HasD l.prog w K mg base "_law_graph" ["_law_source", "_law_most"] 3 (g__law_graph C) := has__law_graph ⟨_, _, fun_mk (st := s__law_graph) l12 c12 k12, PySem.W.mg_of X G a12⟩ n_len n_min h__law_mixed h__law_next h__law_one
  have h__law_pairs : HasD l.prog w K mg base "_law_pairs" ["_law_edges"] 1 (g__law_pairs C) := has__law_pairs ⟨_, _, fun_mk (st := s__law_pairs) l13 c13 k13, PySem.W.mg_of X G a13⟩ n_sorted
  have h__law_carries : HasD l.prog w K mg base "_law_carries" ["_law_names", "_law_edges"] 1 (g__law_carries C) := has__law_carries ⟨_, _, fun_mk (st := s__law_carries) l14 c14 k14, PySem.W.mg_of X G a14⟩ n_sorted
  have h__law_some_carries : HasD l.prog w K mg base "_law_some_carries" ["_law_source", "_law_names", "_law_edges"] 3 (g__law_some_carries C) := has__law_some_carries ⟨_, _, fun_mk (st := s__law_some_carries) l15 c15 k15, PySem.W.mg_of X G a15⟩ n_int n_range h__law_carries h__law_next h__law_one
  have h__law_odd : HasD l.prog w K mg base "_law_odd" ["_law_bits_here"] 1 (g__law_odd C) := has__law_odd ⟨_, _, fun_mk (st := s__law_odd) l16 c16 k16, PySem.W.mg_of X G a16⟩ 
  have h__law_even_sets : HasD l.prog w K mg base "_law_even_sets" ["_law_rows_here", "_law_size"] 2 (g__law_even_sets C) := has__law_even_sets ⟨_, _, fun_mk (st := s__law_even_sets) l17 c17 k17, PySem.W.mg_of X G a17⟩ n_range n_zip h__law_odd
  have h__law_bits : HasD l.prog w K mg base "_law_bits" ["_law_items", "_law_record"] 1 (g__law_bits C) := has__law_bits ⟨_, _, fun_mk (st := s__law_bits) l18 c18 k18, PySem.W.mg_of X G a18⟩ n_sum
  have h__law_flips : HasD l.prog w K mg base "_law_flips" ["_law_edges", "_law_edge", "_law_vertex"] 1 (g__law_flips C) := has__law_flips ⟨_, _, fun_mk (st := s__law_flips) l19 c19 k19, PySem.W.mg_of X G a19⟩ n_max n_min
  have h__law_rows : HasD l.prog w K mg base "_law_rows" ["_law_names", "_law_edges", "_law_items"] 2 (g__law_rows C) := has__law_rows ⟨_, _, fun_mk (st := s__law_rows) l20 c20 k20, PySem.W.mg_of X G a20⟩ h__law_bits h__law_carries h__law_flips
  have h__law_some_witness : HasD l.prog w K mg base "_law_some_witness" ["_law_source", "_law_names", "_law_edges"] 3 (g__law_some_witness C) := has__law_some_witness ⟨_, _, fun_mk (st := s__law_some_witness) l21 c21 k21, PySem.W.mg_of X G a21⟩ n_enumerate n_int n_len h__law_even_sets h__law_next h__law_pairs h__law_rows
  have h__law_source_of : HasD l.prog w K mg base "_law_source_of" ["_law_cell"] 1 (g__law_source_of C) := has__law_source_of ⟨_, _, fun_mk (st := s__law_source_of) l22 c22 k22, PySem.W.mg_of X G a22⟩ n_int
  have h__law_subset : HasD l.prog w K mg base "_law_subset" ["_law_source", "_law_items"] 3 (g__law_subset C) := has__law_subset ⟨_, _, fun_mk (st := s__law_subset) l23 c23 k23, PySem.W.mg_of X G a23⟩ n_list h__law_next h__law_one
  have h__law_toggled : HasD l.prog w K mg base "_law_toggled" ["_law_record", "_law_changed"] 1 (g__law_toggled C) := has__law_toggled ⟨_, _, fun_mk (st := s__law_toggled) l24 c24 k24, PySem.W.mg_of X G a24⟩ n_sorted
  have h_is_edge : HasD l.prog w K mg base "is_edge" ["graph", "value"] 3 (g_is_edge C) := has_is_edge ⟨_, _, fun_mk (st := s_is_edge) l25 c25 k25, PySem.W.mg_of X G a25⟩ cls na_edges na_vertices h_joins
  have h_is_carry : HasD l.prog w K mg base "is_carry" ["graph", "value"] 4 (g_is_carry C) := has_is_carry ⟨_, _, fun_mk (st := s_is_carry) l26 c26 k26, PySem.W.mg_of X G a26⟩ cls na_vertices h_is_among h_is_couple h_is_edge
  have h_check_carries : HasD l.prog w K mg base "check_carries" ["graph", "value"] 5 (g_check_carries C) := has_check_carries ⟨_, _, fun_mk (st := s_check_carries) l27 c27 k27, PySem.W.mg_of X G a27⟩ n_enumerate h_is_carry h_is_row
  have h_are_apart : HasD l.prog w K mg base "are_apart" ["one", "other"] 1 (g_are_apart C) := has_are_apart ⟨_, _, fun_mk (st := s_are_apart) l28 c28 k28, PySem.W.mg_of X G a28⟩ 
  have h_is_pair : HasD l.prog w K mg base "is_pair" ["graph", "value"] 4 (g_is_pair C) := has_is_pair ⟨_, _, fun_mk (st := s_is_pair) l29 c29 k29, PySem.W.mg_of X G a29⟩ h_are_apart h_is_couple h_is_edge
  have h_check_record : HasD l.prog w K mg base "check_record" ["graph", "value"] 5 (g_check_record C) := has_check_record ⟨_, _, fun_mk (st := s_check_record) l30 c30 k30, PySem.W.mg_of X G a30⟩ n_enumerate n_set h_is_pair h_is_row
  have h_flips_of : HasD l.prog w K mg base "flips_of" ["graph", "carry"] 2 (g_flips_of C) := has_flips_of ⟨_, _, fun_mk (st := s_flips_of) l31 c31 k31, PySem.W.mg_of X G a31⟩ cls na_edges h_are_apart
  have h_pairs : HasD l.prog w K mg base "pairs" ["graph"] 2 (g_pairs C) := has_pairs ⟨_, _, fun_mk (st := s_pairs) l32 c32 k32, PySem.W.mg_of X G a32⟩ n_enumerate cls na_edges h_are_apart
  have h_carried : HasD l.prog w K mg base "carried" ["graph", "record", "carries"] 6 (g_carried C) := has_carried ⟨_, _, fun_mk (st := s_carried) l33 c33 k33, PySem.W.mg_of X G a33⟩ h_check_carries h_check_record h_flips_of h_pairs
  have h_common_parity : HasD l.prog w K mg base "common_parity" ["one", "other"] 1 (g_common_parity C) := has_common_parity ⟨_, _, fun_mk (st := s_common_parity) l34 c34 k34, PySem.W.mg_of X G a34⟩ n_len n_set
  have h_every_carry : HasD l.prog w K mg base "every_carry" ["graph"] 1 (g_every_carry C) := has_every_carry ⟨_, _, fun_mk (st := s_every_carry) l35 c35 k35, PySem.W.mg_of X G a35⟩ n_sorted cls na_edges na_vertices
  have h_is_witness : HasD l.prog w K mg base "is_witness" ["graph", "record"] 6 (g_is_witness C) := has_is_witness ⟨_, _, fun_mk (st := s_is_witness) l36 c36 k36, PySem.W.mg_of X G a36⟩ n_all h_check_record h_common_parity h_every_carry h_flips_of
  have h_charge : HasD l.prog w K mg base "charge" ["graph", "record", "witness"] 7 (g_charge C) := has_charge ⟨_, _, fun_mk (st := s_charge) l37 c37 k37, PySem.W.mg_of X G a37⟩ h_check_record h_common_parity h_is_witness
  exact fn_law (fun_mk (st := s_law) l38 c38 k38) n_sum h_Graph h__law_cell_at h__law_graph h__law_pairs h__law_some_carries h__law_some_witness h__law_source_of h__law_subset h__law_toggled h_carried h_charge h_is_witness
theorem walk {l : PySem.W.OpenLaw} {q : Program} {loose : List Str} {XP : (Str → Option Value) → Heap → Prop} {YP : World → Heap → Prop} {d : DefRec} {K : Params → PySem.W.Frag} (hn : l.most = some 63) (hdf : d.params.defaults = [])
    (hY : ∀ (w : World) (h : Heap), YP w h → (K w.params).In h)
    (F : ∀ (w : World) (mg : Str → Option Value) (fa : Addr) (h : Heap), (K w.params).In h → h.Ns mainGlobals mg → mg d.name = some (.ref fa) →
      ∃ fd : FuncData, (∀ (s : Shared) (u : Value), BindsTo s fd ⟨[u], []⟩ [("_law_script", u)]) ∧ ∀ base : Heap, (K w.params).In base → base.Ns mainGlobals mg → FnOk l.prog w (K w.params) mg base CX0 8 fa fd ["_law_script"] (spP ⟨l.prog, w, K w.params⟩ gLaw)) :
    PySem.W.WalkO q loose XP YP l.row.toRowW d [] (fun f vs => PySem.call f vs) :=
  walk_of (n := 63) (k := 8) (x := "_law_script") (CX := fun _ => CX0) (sp := fun w => spP ⟨l.prog, w, K w.params⟩ gLaw) hn (by decide) hdf ⟨rfl, by decide, by decide⟩ hY F (fun w H a ns hl _ hS => law_in hl hS) (fun _ _ _ _ _ h => h.elim)
end CP
open PySem PySem.W PyProof.Rows
set_option maxRecDepth 100000 in
set_option maxHeartbeats 0 in
theorem PySem.Challenge.cw_crossparity_k08_whole_charges_kept_holds : PySem.Challenge.rw_crossparity_k08_whole_charges_kept.Holds := by
  w_on; o_law; k_head; (case hw => w_witness2)
  k_fill
  refine CP.walk (l := PySem.Challenge.rw_crossparity_k08_whole_charges_kept) rfl rfl (fun w h Y => PySem.W.kIn_of Y) ?F
  case F =>
    intro w mg fa h KX G hmg
    refine' CP.all_mk KX G hmg ?aC ?a0 ?l0 ?c0 ?k0 ?a1 ?l1 ?c1 ?k1 ?a2 ?l2 ?c2 ?k2 ?a3 ?l3 ?c3 ?k3 ?a4 ?l4 ?c4 ?k4 ?a5 ?l5 ?c5 ?k5 ?a6 ?l6 ?c6 ?k6 ?a7 ?i7 ?l7 ?c7 ?k7 ?a8 ?l8 ?c8 ?k8 ?a9 ?l9 ?c9 ?k9 ?a10 ?l10 ?c10 ?k10 ?a11 ?l11 ?c11 ?k11 ?a12 ?l12 ?c12 ?k12 ?a13 ?l13 ?c13 ?k13 ?a14 ?l14 ?c14 ?k14 ?a15 ?l15 ?c15 ?k15 ?a16 ?l16 ?c16 ?k16 ?a17 ?l17 ?c17 ?k17 ?a18 ?l18 ?c18 ?k18 ?a19 ?l19 ?c19 ?k19 ?a20 ?l20 ?c20 ?k20 ?a21 ?l21 ?c21 ?k21 ?a22 ?l22 ?c22 ?k22 ?a23 ?l23 ?c23 ?k23 ?a24 ?l24 ?c24 ?k24 ?a25 ?l25 ?c25 ?k25 ?a26 ?l26 ?c26 ?k26 ?a27 ?l27 ?c27 ?k27 ?a28 ?l28 ?c28 ?k28 ?a29 ?l29 ?c29 ?k29 ?a30 ?l30 ?c30 ?k30 ?a31 ?l31 ?c31 ?k31 ?a32 ?l32 ?c32 ?k32 ?a33 ?l33 ?c33 ?k33 ?a34 ?l34 ?c34 ?k34 ?a35 ?l35 ?c35 ?k35 ?a36 ?l36 ?c36 ?k36 ?a37 ?l37 ?c37 ?k37 ?a38 ?l38 ?c38 ?k38 ?pgC ?hdC ?poC ?saC ?mkC ?kcC ?nA_edges ?nA_vertices ?z_all ?z_enumerate ?z_int ?z_isinstance ?z_len ?z_list ?z_max ?z_min ?z_range ?z_set ?z_sorted ?z_str ?z_sum ?z_tuple ?z_zip ?y_LETTERS ?y_LONGEST_NAME ?y_MOST_EDGES ?y_MOST_VERTICES
    (case aC => k_is)
    (case a0 => k_is)
    (case l0 => k_is)
    (case c0 => k_is)
    (case k0 => k_is)
    (case a1 => k_is)
    (case l1 => k_is)
    (case c1 => k_is)
    (case k1 => k_is)
    (case a2 => k_is)
    (case l2 => k_is)
    (case c2 => k_is)
    (case k2 => k_is)
    (case a3 => k_is)
    (case l3 => k_is)
    (case c3 => k_is)
    (case k3 => k_is)
    (case a4 => k_is)
    (case l4 => k_is)
    (case c4 => k_is)
    (case k4 => k_is)
    (case a5 => k_is)
    (case l5 => k_is)
    (case c5 => k_is)
    (case k5 => k_is)
    (case a6 => k_is)
    (case l6 => k_is)
    (case c6 => k_is)
    (case k6 => k_is)
    (case a7 => k_is)
    (case i7 => k_is)
    (case l7 => k_is)
    (case c7 => k_is)
    (case k7 => k_is)
    (case a8 => k_is)
    (case l8 => k_is)
    (case c8 => k_is)
    (case k8 => k_is)
    (case a9 => k_is)
    (case l9 => k_is)
    (case c9 => k_is)
    (case k9 => k_is)
    (case a10 => k_is)
    (case l10 => k_is)
    (case c10 => k_is)
    (case k10 => k_is)
    (case a11 => k_is)
    (case l11 => k_is)
    (case c11 => k_is)
    (case k11 => k_is)
    (case a12 => k_is)
    (case l12 => k_is)
    (case c12 => k_is)
    (case k12 => k_is)
    (case a13 => k_is)
    (case l13 => k_is)
    (case c13 => k_is)
    (case k13 => k_is)
    (case a14 => k_is)
    (case l14 => k_is)
    (case c14 => k_is)
    (case k14 => k_is)
    (case a15 => k_is)
    (case l15 => k_is)
    (case c15 => k_is)
    (case k15 => k_is)
    (case a16 => k_is)
    (case l16 => k_is)
    (case c16 => k_is)
    (case k16 => k_is)
    (case a17 => k_is)
    (case l17 => k_is)
    (case c17 => k_is)
    (case k17 => k_is)
    (case a18 => k_is)
    (case l18 => k_is)
    (case c18 => k_is)
    (case k18 => k_is)
    (case a19 => k_is)
    (case l19 => k_is)
    (case c19 => k_is)
    (case k19 => k_is)
    (case a20 => k_is)
    (case l20 => k_is)
    (case c20 => k_is)
    (case k20 => k_is)
    (case a21 => k_is)
    (case l21 => k_is)
    (case c21 => k_is)
    (case k21 => k_is)
    (case a22 => k_is)
    (case l22 => k_is)
    (case c22 => k_is)
    (case k22 => k_is)
    (case a23 => k_is)
    (case l23 => k_is)
    (case c23 => k_is)
    (case k23 => k_is)
    (case a24 => k_is)
    (case l24 => k_is)
    (case c24 => k_is)
    (case k24 => k_is)
    (case a25 => k_is)
    (case l25 => k_is)
    (case c25 => k_is)
    (case k25 => k_is)
    (case a26 => k_is)
    (case l26 => k_is)
    (case c26 => k_is)
    (case k26 => k_is)
    (case a27 => k_is)
    (case l27 => k_is)
    (case c27 => k_is)
    (case k27 => k_is)
    (case a28 => k_is)
    (case l28 => k_is)
    (case c28 => k_is)
    (case k28 => k_is)
    (case a29 => k_is)
    (case l29 => k_is)
    (case c29 => k_is)
    (case k29 => k_is)
    (case a30 => k_is)
    (case l30 => k_is)
    (case c30 => k_is)
    (case k30 => k_is)
    (case a31 => k_is)
    (case l31 => k_is)
    (case c31 => k_is)
    (case k31 => k_is)
    (case a32 => k_is)
    (case l32 => k_is)
    (case c32 => k_is)
    (case k32 => k_is)
    (case a33 => k_is)
    (case l33 => k_is)
    (case c33 => k_is)
    (case k33 => k_is)
    (case a34 => k_is)
    (case l34 => k_is)
    (case c34 => k_is)
    (case k34 => k_is)
    (case a35 => k_is)
    (case l35 => k_is)
    (case c35 => k_is)
    (case k35 => k_is)
    (case a36 => k_is)
    (case l36 => k_is)
    (case c36 => k_is)
    (case k36 => k_is)
    (case a37 => k_is)
    (case l37 => k_is)
    (case c37 => k_is)
    (case k37 => k_is)
    (case a38 => k_is)
    (case l38 => k_is)
    (case c38 => k_is)
    (case k38 => k_is)
    (case pgC => k_is)
    (case hdC => k_is)
    (case poC => k_is)
    (case saC => k_is)
    (case mkC => k_is)
    (case kcC => k_is)
    (case nA_edges => k_is)
    (case nA_vertices => k_is)
    (case z_all => k_is)
    (case z_enumerate => k_is)
    (case z_int => k_is)
    (case z_isinstance => k_is)
    (case z_len => k_is)
    (case z_list => k_is)
    (case z_max => k_is)
    (case z_min => k_is)
    (case z_range => k_is)
    (case z_set => k_is)
    (case z_sorted => k_is)
    (case z_str => k_is)
    (case z_sum => k_is)
    (case z_tuple => k_is)
    (case z_zip => k_is)
    (case y_LETTERS => k_is)
    (case y_LONGEST_NAME => k_is)
    (case y_MOST_EDGES => k_is)
    (case y_MOST_VERTICES => k_is)
